import PyProof.Rows.All
import Wide.All
import OpenK.AllK
import Wide.FinOn
import Lean
import PyProof.EqAt
import PyProof.EqKinds
import PyProof.TupleCall
import PyProof.Draws
import PyProof.WalksMore
import PyProof.EnumMake
import PyProof.ReprRoads
import PyProof.Rows.SortWalk
import PyProof.Rows.SumAny
import PyProof.FitsBits
import KE.KSortTup
import KE.KDictList
import PyProof.NeData
import PySem.Challenge.RW_platecuts_k85_stores_told
set_option maxRecDepth 100000
set_option maxHeartbeats 0
set_option hygiene false in
local macro_rules|`(tactic|trivial)=>`(tactic|first|(cases h;subst_vars;rfl)|(obtain⟨rfl,_⟩:=h;rfl)|(obtain⟨_,h⟩:=h;trivial))
set_option hygiene false in
local macro_rules|`(tactic|exists $x)=>`(tactic|(refine F.ok $x (fun vs H Q E h=>by trivial) (fun cdv A outer s H vs Q E hr h=>?_);have nd:=FnScope.nd $x))
local macro_rules|`(tactic|show $x)=>`(tactic|refine $x)
local macro_rules|`(def $i $s:optDeclSig $v:declVal)=>`(noncomputable def $i $s:optDeclSig $v:declVal)
local macro_rules|`(abbrev $i $s:optDeclSig $v:declVal)=>`(noncomputable abbrev $i $s:optDeclSig $v:declVal)
local macro_rules|`(∅)=>`(by decide +kernel)
local macro_rules|`(⋯)=>`(by omega)
local macro_rules|`(↑$x)=>`(some (.ref $x))
local macro_rules|`(⇑$x)=>`(some (.int $x))
local macro_rules|`(↥$x)=>`(some (.lst $x))
local macro_rules|`(~~~$x)=>`(some (.tup $x))
local macro_rules|`(%[$xs,*|$y])=>if y.raw.getId.hasMacroScopes then Lean.Macro.throwUnsupported else `(⟨$(xs.getElems.push y),*⟩)
local macro_rules|`(nofun)=>`(⟨rfl,rfl,rfl,by decide +kernel,rfl,by decide +kernel,by decide +kernel⟩)
set_option hygiene false in
local macro_rules|`($n:num∘$x)=>`((nat_lit $n,$x P))
section
open PySem PySem.W PySem.Spec PyProof PyProof.Rows
abbrev PU:List String:=["enumerate","zip","dict_itemiterator","dict_reverseitemiterator","odict_iterator","itertools.zip_longest","itertools.pairwise"]
abbrev PX:List Str:=["thing","least"]
abbrev QA:List Str:=["thing"]
abbrev QB:List Str:=["self","blade","kinds","kind"]
abbrev QC:List Str:=["self","blade","kinds"]
abbrev QD:List Str:=["kind"]
abbrev QE:List Str:=["self"]
abbrev QF:List Str:=["self","kind","turned"]
abbrev QG:List Str:=["thing","word","many"]
abbrev QH:List Str:=["shop","wide","high","kind","turned","x","y"]
abbrev QI:List Str:=["blade","part","way","p"]
abbrev QJ:List Str:=["blade","spot"]
abbrev QK:List Str:=["shop","spot"]
abbrev QL:List Str:=["wide","high"]
abbrev QM:List Str:=["shop","wide","high","thing","blade","waiting","spot"]
abbrev QN:List Str:=["shop","wide","high","thing"]
abbrev QO:List Str:=["_law_script","_law_k"]
abbrev QP:List Str:=["_law_cell_here","_law_k"]
abbrev QQ:List Str:=["_law_pot_here","_law_many"]
abbrev QR:List Str:=["_law_pot_here"]
abbrev QS:List Str:=["_law_pot_here","_law_unit_here","_law_most"]
abbrev QT:List Str:=["_law_pot_here","_law_unit_here"]
abbrev QU:List Str:=["_law_shop_here","_law_kind","_law_turned"]
abbrev QV:List Str:=["_law_shop_here"]
abbrev QW:List Str:=["_law_shop_here","_law_wide","_law_high","_law_way","_law_p"]
abbrev QX:List Str:=["_law_pot_here","_law_shop_here","_law_wide","_law_high"]
abbrev QY:List Str:=["_law_pot_here","_law_shop_here","_law_wide","_law_high","_law_deep","_law_room"]
abbrev QZ:List Str:=["_law_pot_here","_law_thing"]
abbrev Qa:List Str:=["shop","wide","high","tree"]
abbrev Qb:List Str:=["shop","wide","high","tree","pieces","counts","kind","turned","x","y"]
abbrev Qc:List Str:=["shop","wide","high","tree","leaves"]
abbrev Qd:List Str:=["x","y","part_wide","part_high","leaf"]
abbrev Qe:List Str:=["self","standing"]
abbrev Qg:List Str:=["self","wide","high","plates","number","made","cells_put"]
abbrev Qh:List Str:=["self","wide","high"]
abbrev Qi:List Str:=["self","number"]
abbrev Qj:List Str:=["self","shop","least"]
abbrev Qk:List Str:=["self","plates","upcoming","made","cells_put","there","cells_made"]
abbrev Ql:List Str:=["self","number","tree","gone","rests","counts","plates","upcoming","made","cells_put","kept","came","others","all_made"]
abbrev Qm:List Str:=["self","number","tree"]
abbrev Qn:List Str:=["_law_thing","_law_least"]
abbrev Qo:List Str:=["_law_shop_here","_law_wide","_law_high","_law_tree_here"]
abbrev Qp:List Str:=["_law_shop_here","_law_part","_law_tree_here"]
abbrev Qq:List Str:=["_law_leaves"]
abbrev Qr:List Str:=["_law_model"]
abbrev Qs:List Str:=["_law_model","_law_wide","_law_high"]
abbrev Qt:List Str:=["_law_shop_here","_law_least"]
abbrev Qu:List Str:=["_law_shop_here","_law_model","_law_number","_law_tree_here","_law_wide","_law_high","_law_leaves","_law_found","_law_leaf_here","_law_piece"]
abbrev Qv:List Str:=["_law_shop_here","_law_model","_law_number","_law_tree_here"]
abbrev Qw:List Str:=["_law_shop_here","_law_model","_law_plates","_law_there","_law_made"]
abbrev Qx:List Str:=["_law_shop_here","_law_model"]
abbrev Qy:List Str:=["_law_number","_law_wide","_law_high"]
abbrev Qz:List Str:=["_law_store"]
abbrev Q0:List Str:=["_law_store","_law_wide","_law_high"]
abbrev Q1:List Str:=["_law_store","_law_number","_law_tree_here"]
abbrev Q3:List Str:=["_law_pot_here","_law_tree_here"]
abbrev Q4:List Str:=["_law_pot_here","_law_shop_here","_law_model","_law_store","_law_numbers","_law_gone","_law_some","_law_odd","_law_number","_law_wide","_law_high","_law_spoilt","_law_bad","_law_side_here"]
abbrev Q6:List Str:=["_law_pot_here","_law_shop_here","_law_model","_law_store"]
abbrev Q7:List Str:=["_law_pot_here","_law_shop_here","_law_unit_here","_law_model","_law_store"]
abbrev Q8:List Str:=["_law_script"]
abbrev F6:=@Shared
abbrev F7:=@Program
abbrev F8:=@FuncData
abbrev F9:=@World
abbrev G0:=@Value
abbrev A0:=@wpAny_bind
abbrev A2:=@wpAny_pure
abbrev A3:=@wpS_bind
abbrev A4:=@wpS_pure
abbrev A5:=@List.mem_append_right
abbrev A6:=@List.getElem?_eq_some_iff
abbrev A7:=@Heap.get?_push_of_some
abbrev A8:=@Heap.get?_push_size
abbrev A9:=@Heap.lt_size
abbrev B0:=@decide_eq_true
abbrev B1:=@decide_eq_false
abbrev B2:=@Bool.false_ne_true
abbrev B3:=@Nat.le_refl
abbrev B4:=@List.mem_cons_of_mem
abbrev B5:=@List.mem_of_getElem?
abbrev B6:=@List.mem_append_left
abbrev B7:=@List.mem_cons_self
abbrev B8:=@Option.some.inj
abbrev B9:=@Nat.ne_of_lt
abbrev C0:=@of_decide_eq_true
abbrev C1:=@List.not_mem_nil
abbrev C2:=@Nat.lt_of_lt_of_le
abbrev C3:=@List.mem_append
abbrev C4:=@beq_iff_eq
abbrev C5:=@PySem.W.Frag
abbrev C6:=@Nat.le_trans
abbrev C7:=@Nat.lt_of_le_of_lt
abbrev C8:=@Nat.le_of_lt
abbrev C9:=@List.getElem?_eq_none
abbrev E1:=@Nat.lt_irrefl
abbrev E2:=@List.mem_singleton
abbrev E3:=@Paired.length
abbrev E4:=@PassesOwn.never
abbrev E5:=@Int.le_refl
abbrev E6:=@PySem.W.fnOf
abbrev E7:=@False.elim
abbrev E8:=@Nat.zero_le
abbrev E9:=@Nat.not_lt_zero
abbrev F0:=@Nat.lt_succ_self
abbrev F1:=@List.getElem?_eq_getElem
abbrev F2:=@wpAny_truthy_bool
abbrev F3:=@wpAny_call_entry
abbrev F4:=@wpAny_newObj_type
abbrev F5:=@PySem.F.plainAttrs_list
abbrev G6:=@List.length_map
abbrev G7:=@List.mem_cons
abbrev G8:=@List.length_append
abbrev I9:=@List.size_toArray
abbrev J0:=@List.length_cons
abbrev J1:=@List.getElem?_map
abbrev J2:=@List.length_take
abbrev J3:=@List.map_cons
abbrev J4:=@List.take_add_one
abbrev J5:=@List.length_filterMap_le
abbrev J6:=@Bool.false_eq_true
abbrev J7:=@List.map_append
abbrev J8:=@List.lookup_cons
abbrev J9:=@List.take_length
abbrev K0:=@List.append_nil
abbrev K1:=@List.length_filter_le
abbrev K2:=@Int.toNat_natCast
abbrev K3:=@List.mem_flatMap
abbrev K4:=@Bool.and_false
abbrev K5:=@Option.map_eq_some_iff
abbrev K6:=@List.mem_iff_getElem?
abbrev K7:=@List.filterMap_cons
abbrev K8:=@List.nodup_cons
abbrev K9:=@List.append_assoc
abbrev M0:=@Array.getElem?_eq_getElem
abbrev M2:=@Nat.add_le_add_left
abbrev M3:=@List.length_replicate
abbrev M4:=@List.mem_map
abbrev M5:=@Option.toList_some
abbrev M6:=@Bool.and_eq_true
abbrev M7:=@List.take_of_length_le
abbrev M8:=@Bool.false_and
abbrev M9:=@Array.getElem?_toList
abbrev N0:=@List.filterMap_append
abbrev N1:=@List.filter_append
abbrev N2:=@Nat.ne_of_gt
abbrev N3:=@Int.eq_ofNat_of_zero_le
abbrev N4:=@Array.length_toList
abbrev N5:=@List.mem_map_of_mem
abbrev N6:=@List.length_zipWith
abbrev N7:=@Array.getElem?_eq_none
abbrev N8:=@Bool.true_and
abbrev N9:=@List.getElem?_zipWith
abbrev OT:=@List.getElem?_zip_eq_some
abbrev OU:=@List.mem_filter
abbrev OV:=@Nat.lt_succ_of_lt
abbrev OX:=@Option.some.injEq
abbrev OY:=@List.forall_mem_cons
abbrev OZ:=@List.replicate_succ
abbrev O0:=@List.mem_filterMap
abbrev O1:=@List.map_nil
abbrev O2:=@Bool.and_true
abbrev O3:=@List.eq_nil_or_concat
abbrev O4:=@List.concat_eq_append
abbrev O5:=@Int.mul_le_mul
abbrev O6:=@List.filter_cons
abbrev O7:=@Int.le_trans
abbrev O8:=@Nat.le_max_right
abbrev O9:=@List.all_cons
abbrev PB:=@List.any_cons
abbrev PD:=@List.of_mem_zip
abbrev PF:=@List.length_zip
abbrev PH:=@Nat.lt_or_ge
abbrev PJ:=@List.map_map
abbrev PK:=@Addr
abbrev PL:=@Keyed
abbrev PM:=@Option
abbrev PN:=@Array
abbrev PP:=@List
abbrev Q9:=PP Int
abbrev RB:=PP Q9
abbrev RC:=PP (PK×Obj)
abbrev PQ:=@mainGlobals
abbrev PY:=@decide_eq_true
abbrev PZ:=@if_neg
abbrev Pa:=@if_pos
abbrev Pb:=@PyProof.Rows.boot_isinstance
abbrev Pd:=@PySem.F.slot_list_append
abbrev Pe:=@PySem.F.type_list_append
abbrev Pf:=@decide_eq_false
abbrev Pg:=@PyProof.Rows.boot_int
abbrev Ph:=@PySem.wpAny_holding
abbrev Pi:=@PyProof.Rows.boot_tuple
abbrev Pj:=@PySem.boot_len
abbrev Pk:=@PyProof.Rows.boot_list
abbrev Pl:=@or_false
abbrev Pm:=@PyProof.Rows.boot_sorted
abbrev Pn:=@if_false
abbrev Po:=@PySem.wpAny_mono
abbrev Pp:=@beq_eq_false_iff_ne
abbrev Pr:=@PySem.Heap.size_push
abbrev Ps:=@PyProof.Rows.KeyOrd.kle_refl
abbrev Pt:=@PyProof.Rows.callWith_type1
abbrev Pu:=@PyProof.Rows.slot_tuple_getitem
abbrev Pw:=@congrArg
abbrev Px:=@PySem.wpAny_typeNameOfWhole_keyiter
abbrev Py:=@PySem.F.slot_dict_keyiterator_next
abbrev Pz:=@PyProof.Rows.boot_bool
abbrev P0:=@PySem.wpAny_field
abbrev P1:=@PyProof.Rows.boot_min
abbrev P2:=@PySem.wpAny_passesOwn
abbrev P3:=@PySem.mem_of_lookup
abbrev P4:=@if_true
abbrev P6:=@PySem.Heap.SameBut.update
abbrev P7:=@PySem.wpAny_execs_nil
abbrev P8:=@PySem.wpAny_rule
abbrev P9:=@not_or
end
theorem zS2:2<=PySem.sizeLine:=∅
theorem zS5:5<=PySem.sizeLine:=∅
theorem zS1:1<=PySem.sizeLine:=∅
theorem zS4:4<=PySem.sizeLine:=∅
theorem zS3:3<=PySem.sizeLine:=∅
theorem zS0:0<=PySem.sizeLine:=∅
theorem zS10:10<=PySem.sizeLine:=∅
theorem zS8:8<=PySem.sizeLine:=∅
theorem zS6:6<=PySem.sizeLine:=∅
theorem O{α:Sort _}{a:α}:a=a:=rfl
set_option Elab.async false
set_option linter.all false
namespace L2
open PySem PySem.Spec PyProof.Rows
abbrev Key:=Sum Int Str
def jx:Key->G0->Bool
 | .inl k,v=>Value.isInt k v
 | .inr x,v=>Value.isStrOf x v
def Lv(w:F9):Key->Int
 | .inl k=>hashInt k
 | .inr x=>hashStr w x
theorem bJ:∀{k:Key}{v:G0},jx k v=true->(∃i t,k=Sum.inl i/\v=Value.int i t)\/(∃x t,k=Sum.inr x/\v=Value.str x t)
 | .inl i,v,h=>by obtain⟨t,e⟩:=Value.isInt_shape (k:=i) (v:=v) h;exact .inl %[i,t,O|e]
 | .inr x,v,h=>by obtain⟨t,e⟩:=Value.isStrOf_shape (x:=x) (v:=v) h;exact .inr %[x,t,O|e]
theorem pS(i:Int)(t:Tok):jx (.inl i) (.int i t)=true:=by simp[jx,Value.isInt]
theorem pT(x:Str)(t:Tok):jx (.inr x) (.str x t)=true:=by simp[jx,Value.isStrOf]
theorem yP(a b:Int):decide ((Sum.inl a:Key)=Sum.inl b)=(a == b):=by
 by_cases e:a=b
 ·subst e;simp
 ·have h:¬ (Sum.inl a:Key)=Sum.inl b:=λ q=>e (Sum.inl.inj q);rw[Pf h];exact(Pp.mpr e).symm
theorem yQ(a b:Str):decide ((Sum.inr a:Key)=Sum.inr b)=decide (a=b):=by
 by_cases e:a=b
 ·subst e;simp
 ·have h:¬ (Sum.inr a:Key)=Sum.inr b:=λ q=>e (Sum.inr.inj q);rw[Pf h,Pf e]
theorem yR(a:Int)(b:Str):decide ((Sum.inl a:Key)=Sum.inr b)=false:=B1 (λ q=>nomatch q)
theorem yS(a:Str)(b:Int):decide ((Sum.inr a:Key)=Sum.inl b)=false:=B1 (λ q=>nomatch q)
def bK(prog:F7)(w:F9):PySem.KeyKind prog w Key where
 is:=jx
 hash:=Lv w
 inj:=λ v a b ha hb=>by
  rcases bJ ha with⟨i,t,rfl,rfl⟩ | ⟨x,t,rfl,rfl⟩
  ·rcases bJ hb with⟨j,u,rfl,e⟩ | ⟨y,u,rfl,e⟩
   ·injection e with e1 _;rw[e1]
   ·exact nomatch e
  ·rcases bJ hb with⟨j,u,rfl,e⟩ | ⟨y,u,rfl,e⟩
   ·exact nomatch e
   ·injection e with e1 _;rw[e1]
 byValue:=λ k v h=>by rcases bJ h with⟨i,t,rfl,rfl⟩ | ⟨x,t,rfl,rfl⟩ <;> rfl
 pyHash:=λ hv h=>by
  rcases bJ hv with⟨i,t,rfl,rfl⟩ | ⟨x,t,rfl,rfl⟩
  ·exact wpAny_pyHash_int h
  ·exact wpAny_pyHash_str h
 eqBool:=λ hu hv h=>by
  rcases bJ hu with⟨i,t,rfl,rfl⟩ | ⟨x,t,rfl,rfl⟩
  ·rcases bJ hv with⟨j,u,rfl,rfl⟩ | ⟨y,u,rfl,rfl⟩
   ·rw[yP]at h;exact wpAny_eqBool_int h
   ·rw[yR]at h;exact SeqAt.EqAt.int_str i t y u _ _ _ _ h
  ·rcases bJ hv with⟨j,u,rfl,rfl⟩ | ⟨y,u,rfl,rfl⟩
   ·rw[yS]at h;exact SeqAt.EqAt.str_int x t j u _ _ _ _ h
   ·rw[yQ]at h;exact wpAny_eqBool_str h
 «strs» := λ k x t v h=>by
  rcases bJ h with⟨i,u,rfl,e⟩ | ⟨y,u,rfl,e⟩
  ·exact nomatch e
  ·injection e with e1 _
   subst e1;cases v <;> rfl
theorem eK(prog:F7)(w:F9)(i:Int)(t:Tok):(bK prog w).is (.inl i) (.int i t)=true:=pS i t
theorem eL(prog:F7)(w:F9)(x:Str)(t:Tok):(bK prog w).is (.inr x) (.str x t)=true:=pT x t
inductive V where
 | non | bl (b:Bool) | int (i:Int) | str (x:Str) | ref (a:PK) | ty (n:String)
 deriving DecidableEq
def RelV:V->G0->Prop
 | .non,u=>u=Value.none
 | .bl b,u=>u=Value.bool b
 | .int i,u=>∃t,u=Value.int i t
 | .str x,u=>∃t,u=Value.str x t
 | .ref a,u=>u=Value.ref a
 | .ty n,u=>u=Value.type n
abbrev Vals:PP V->PP G0->Prop:=Paired RelV
theorem Vals.length{xs:PP V}{us:PP G0}(r:Vals xs us):xs.length=us.length:=E3 r
theorem Vals.get:∀{xs:PP V}{us:PP G0}{i:Nat}{x:V},Vals xs us->xs[i]?=some x->∃u,us[i]?=some u/\RelV x u
 | _,_,_,_,.nil,e=>by simp at e
 | _,_,0,_,.cons r _,e=>by simp at e;subst e;exact%[_,O|r]
 | _,_,i+1,x,.cons _ t,e=>by obtain⟨u,h1,h2⟩:=Vals.get (i:=i) (x:=x) t (by simpa using e);exact%[u,by simpa using h1|h2]
theorem Vals.set{x:V}{u:G0}(r:RelV x u):∀{xs:PP V}{us:PP G0}(i:Nat),Vals xs us->Vals (xs.set i x) (us.set i u)
 | _,_,_,.nil=>.nil
 | _,_,0,.cons _ t=>.cons r t
 | _,_,i+1,.cons q t=>.cons q (Vals.set r i t)
theorem Vals.append:∀{xs ys:PP V}{us ws:PP G0},Vals xs us->Vals ys ws->Vals (xs ++ ys) (us ++ ws)
 | _,_,_,_,.nil,s=>s
 | _,_,_,_,.cons r t,s=>.cons r (Vals.append t s)
theorem Vals.take:∀{xs:PP V}{us:PP G0}(n:Nat),Vals xs us->Vals (xs.take n) (us.take n)
 | _,_,0,_=>.nil
 | _,_,_+1,.nil=>.nil
 | _,_,n+1,.cons r t=>.cons r (Vals.take n t)
theorem Vals.drop:∀{xs:PP V}{us:PP G0}(n:Nat),Vals xs us->Vals (xs.drop n) (us.drop n)
 | _,_,0,r=>r
 | _,_,_+1,.nil=>.nil
 | _,_,n+1,.cons _ t=>Vals.drop n t
def RelO:PM V->PM G0->Prop
 | some v,some u=>RelV v u
 | none,none=>True
 | _,_=>False
def KV{κ:Type}:PP (κ×V)->PP (κ×G0)->Prop:=Paired λ (p:κ×V)(q:κ×G0)=>p.1=q.1/\RelV p.2 q.2
def kV:Key->V
 | .inl i=>.int i
 | .inr x=>.str x
inductive HO where
 | lst (xs:PP V)
 | tup (xs:PP V)
 | dK (kvs:PP (Key×V))
 | ins (C dx:PK) (fs:PP (Str×V))
 | own (x:PK)
 | frz (o:Obj) (u:HO)
 | tbl (ps:PN G0)
abbrev Hp:=PK->PM HO
def upd(H:Hp)(a:PK)(o:HO):Hp:=λ b=>if b=a then some o else H b
theorem au{H:Hp}{a:PK}{o:HO}:upd H a o a=some o:=by unfold upd;rw[Pa rfl]
theorem aw{H:Hp}{a b:PK}{o:HO}(h:b≠a):upd H a o b=H b:=by unfold upd;rw[PZ h]
theorem ao{H:Hp}{a b:PK}{o:HO}(h:H a=some o)(h':H b=none):a≠b:=by intro e;subst e;rw[h]at h';cases h'
section
variable(P:F7)(w:F9)
def ObjOk(H:Hp)(h:Heap)(a:PK):HO->Prop
 | .lst xs=>xs.length<=sizeLine/\∃(its:PP G0)(n:Nat),Vals xs its/\h.get? a=some { cls:=.type "list",data:=.seq its.toArray n }
 | .tup xs=>xs.length<=sizeLine/\∃its:PP G0,Vals xs its/\IsTup h a its.toArray
 | .dK kvs=>kvs.length<=sizeLine/\(a == sysModules)=false/\∃vs,KV kvs vs/\h.DictOf (bK P w) a vs
 | .ins C dx fs=>H dx=some (.own a)/\fs.length<=1000/\dx≠a/\h.get? a=some (PySem.W.instObj C dx) /\
   ∃mA,h.Ns1 dx mA/\(∀f,RelO (fs.lookup f) (mA f))/\PySem.Within mA (fs.map (·.1))
 | .own _=>∃o,h.get? a=some o
 | .frz o u=>h.get? a=some o/\ObjOk H h a u
 | .tbl ps=>h.get? a=some { cls:=.none,data:=.fields ps }
def HOk(H:Hp)(h:Heap):Prop:=∀a o,H a=some o->ObjOk P w H h a o
end
section
variable{P:F7}{w:F9}{H H':Hp}{h h':Heap}{a:PK}{o:HO}
theorem ObjOk.lt(x:ObjOk P w H h a o):a < h.objs.size:=by
 cases o with
 | lst xs=>obtain⟨_,_,_,_,e⟩:=x;exact A9 e
 | tup xs=>obtain⟨_,_,_,p⟩:=x;exact p.lt
 | dK kvs=>obtain⟨_,_,_,_,o,_,_,e,_⟩:=x;exact A9 e
 | ins C dx fs=>obtain⟨_,_,_,e,_⟩:=x;exact A9 e
 | own y=>obtain⟨_,e⟩:=x;exact A9 e
 | frz ob u=>obtain⟨e,_⟩:=x;exact A9 e
 | tbl ps=>exact A9 (show h.get? a=some _ from x)
theorem Paired.mapP{α β:Type}{F G:α->β->Prop}:∀{l₁:PP α}{l₂:PP β},Paired F l₁ l₂->(∀a b,F a b->G a b)->Paired G l₁ l₂
 | _,_,.nil,_=>.nil
 | _,_,.cons r t,f=>.cons (f _ _ r) (Paired.mapP t f)
abbrev G4:=@Paired.mapP
theorem ObjOk.stay(x:ObjOk P w H h a o)(k:∀b u,(b=a\/H b=some (.own a))->h.get? b=some u->h'.get? b=some u)
  (ho:∀b,H b=some (.own a)->H' b=some (.own a)) (ht:∀b xs,H b= ~~~xs->H' b= ~~~xs):ObjOk P w H' h' a o:=by
 induction o with
 | lst xs=>obtain⟨z,its,n,r,e⟩:=x;exact%[z,its,n,r|k _ _ (.inl rfl) e]
 | tup xs=>obtain⟨z,its,r,ob,e,c⟩:=x;exact%[z,its,r,ob,k _ _ (.inl rfl) e|c]
 | dK kvs=>obtain⟨z,y,vs,r,ob,es,ep,e,c⟩:=x;exact%[z,y,vs,r,ob,es,ep,k _ _ (.inl rfl) e|c]
 | ins C dx fs=>
  obtain⟨d,z,ne,e,mA,⟨od,es,ep,e2,c⟩,r⟩:=x;exact%[ho _ d,z,ne,k _ _ (.inl rfl) e,mA,%[od,es,ep,k _ _ (.inr d) e2|c]|r]
 | own y=>obtain⟨ob,e⟩:=x;exact%[ob|k _ _ (.inl rfl) e]
 | frz ob u ih=>obtain⟨e,q⟩:=x;exact%[k _ _ (.inl rfl) e|ih q]
 | tbl ps=>
  have e:h.get? a=some { cls:=.none,data:=.fields ps }:=x;change h'.get? a=some { cls:=.none,data:=.fields ps };exact k a _ (.inl rfl) e
theorem HOk.lt(x:HOk P w H h)(e:H a=some o):a < h.objs.size:=(x a o e).lt
theorem HOk.fresh(x:HOk P w H h)(e:h.objs.size<=a):H a=none:=by
 cases q:H a with
 | none=>rfl
 | some u=>exact absurd (C2 (x.lt q) e) (E1 _)
theorem HOk.kept(x:HOk P w H h)(k:∀b u,h.get? b=some u->h'.get? b=some u):HOk P w H h':=λ a o e=>
 (x a o e).stay (λ b u _ q=>k b u q) (λ _ q=>q) λ _ _ q=>q
theorem HOk.laid(x:HOk P w H h)(k:∀b u,h.get? b=some u->h'.get? b=some u)(hp:h.objs.size<=a)(new:ObjOk P w (upd H a o) h' a o):HOk P w (upd H a o) h':=λ b u e=>by
 have hn:=x.fresh hp
 by_cases hb:b=a
 ·subst hb;rw[au]at e;cases e;exact new
 ·rw[aw hb]at e;exact(x b u e).stay (λ c v _ q=>k c v q) (λ c q=>by rw[aw (ao q hn)];exact q) λ c xs q=>by rw[aw (ao q hn)];exact q
end
def Rd(H:Hp)(a:PK)(u:HO):Prop:=H a=some u\/∃o,H a=some (.frz o u)
theorem Rd.ok{P:F7}{w:F9}{H:Hp}{h:Heap}{a:PK}{u:HO}(r:Rd H a u)(x:HOk P w H h):ObjOk P w H h a u:=by
 rcases r with r | ⟨o,r⟩
 ·exact x a u r
 ·obtain⟨_,q⟩:=x a _ r;exact q
def Mut:PM HO->Prop
 | ↥_=>True
 | some (.dK _)=>True
 | some (.ins _ _ _)=>True
 | _=>False
section
variable{P:F7}{w:F9}{H:Hp}{h h':Heap}{x e:PK}{o':HO}
theorem HOk.write(ok:HOk P w H h)(mu:Mut (H x))(he:e=x\/H e=some (.own x))(k:∀b u,b≠e->h.get? b=some u->h'.get? b=some u)(heo:∃u,h'.get? e=some u)
  (new:ObjOk P w (upd H x o') h' x o'):HOk P w (upd H x o') h':=λ b u q=>by
 have nown:∀c y,H c=some (.own y)->c≠x:=λ c y r z=>by subst z;rw[r]at mu;exact mu
 have ntup:∀c xs,H c= ~~~xs->c≠x:=λ c xs r z=>by subst z;rw[r]at mu;exact mu
 by_cases hb:b=x
 ·subst hb;rw[au]at q;cases q;exact new
 ·rw[aw hb]at q
  by_cases hbe:b=e
  ·have q':H b=some (.own x):=by
    rcases he with z | z
    ·exact absurd (hbe.trans z) hb
    ·rw[hbe];exact z
   rw[q]at q';cases q';obtain⟨v,hv⟩:=heo;exact%[v|by rw[hbe];exact hv]
  ·show(ok b u q).stay (λ c v hc r=>k c v ?_ r) (λ c r=>by rw[aw (nown c b r)];exact r) λ c xs r=>by rw[aw (ntup c xs r)];exact r
   rcases hc with rfl | hc
   ·exact hbe
   ·rintro rfl;rcases he with z | z
    ·exact nown c b hc z
    ·rw[hc]at z;cases z;exact hb rfl
end
structure Un(fs ex:PP PK)(H H':Hp)(h h':Heap):Prop where
 keep:∀b o,h.get? b=some o->H b=none->b∉fs->b∉ex->h'.get? b=some o
 slot:∀b o,h.get? b=some o->H b=none->b∈fs->b∉ex->∃sl,h'.get? b=some { o with slots:=sl }
 free:∀b o,h.get? b=some o->H b=none->b∉ex->H' b=none
 there:∀b o,h.get? b=some o->b∉ex->∃o',h'.get? b=some o'
 tups:∀b xs,H b= ~~~xs->H' b= ~~~xs
 frzs:∀b o u,H b=some (.frz o u)->H' b=some (.frz o u)
 tbls:∀b ps,H b=some (.tbl ps)->∃more,H' b=some (.tbl (ps ++ more))
section
variable{fs fs' ex ex':PP PK}{H H1 H2:Hp}{h h1 h2 h':Heap}{a x e:PK}{o:HO}
theorem Un.any(u:Un fs ex H H1 h h1){b:PK}{ob:Obj}(q:h.get? b=some ob)(n:H b=none)(hx:b∉ex):∃sl,h1.get? b=some { ob with slots:=sl }:=by
 by_cases hb:b∈fs
 ·exact u.slot b ob q n hb hx
 ·exact%[ob.slots|u.keep b ob q n hb hx]
theorem Un.kept(k:∀b u,h.get? b=some u->h'.get? b=some u):Un fs ex H H h h' :=
 %[λ b ob q _ _ _=>k b ob q,λ b ob q _ _ _=>%[ob.slots|k b ob q],λ _ _ _ n _=>n,λ b ob q _=>%[ob|k b ob q],λ _ _ q=>q,λ _ _ _ q=>q|λ _ ps q=>%[#[]|by rw[q];simp]]
theorem Un.refl:Un fs ex H H h h:=Un.kept λ _ _ q=>q
theorem Un.laid(k:∀b u,h.get? b=some u->h'.get? b=some u)(hp:h.objs.size<=a)(hn:H a=none):Un fs ex H (upd H a o) h h' where
 keep:=λ b u q _ _ _=>k b u q
 slot:=λ b u q _ _ _=>%[u.slots|k b u q]
 free:=λ b u q n _=>by rw[aw (B9 (C2 (Heap.lt_size q) hp))];exact n
 there:=λ b u q _=>%[u|k b u q]
 tups:=λ b xs q=>by rw[aw (ao q hn)];exact q
 frzs:=λ b u xs q=>by rw[aw (ao q hn)];exact q
 tbls:=λ b ps q=>%[#[]|by rw[aw (ao q hn),q];simp]
theorem Un.write(mu:Mut (H x))(he:e=x\/H e=some (.own x))(k:∀b u,b≠e->h.get? b=some u->h'.get? b=some u)(heo:∃u,h'.get? e=some u):Un fs ex H (upd H x o) h h':=by
 have hx:∀b,H b=none->b≠x:=λ b n z=>by subst z;rw[n]at mu;exact mu
 have hb:∀b,H b=none->b≠e:=λ b n z=>by
  subst z;rcases he with r | r
  ·exact hx b n r
  ·rw[n]at r;cases r
 have hm:∀b u,H b=some u->¬ Mut (some u)->b≠x:=λ b u q nm z=>by subst z;rw[q]at mu;exact nm mu
 show⟨λ b u q n _ _=>k b u (hb b n) q,λ b u q n _ _=>%[u.slots|k b u (hb b n) q],λ b u q n _=>by rw[aw (hx b n)];exact n,λ b u q _=>?_,
  λ b xs q=>by rw[aw (hm b _ q λ z=>z)];exact q,λ b u xs q=>by rw[aw (hm b _ q λ z=>z)];exact q,λ b ps q=>%[#[]|by rw[aw (hm b _ q λ z=>z),q];simp]⟩
 by_cases hbe:b=e
 ·subst hbe;exact heo
 ·exact%[u|k b u hbe q]
end
def trk(h:Heap)(H:Hp):PP PK:=(List.range h.objs.size).filter λ a=>(H a).isSome
def kB(h:Heap)(H:Hp):Heap:=PySem.W.hideAll h (trk h H)
theorem pU(h:Heap)(H:Hp):(kB h H).objs.size=h.objs.size:=PySem.W.hideAll_size _ _
theorem tH{h:Heap}{H:Hp}{b:PK}{o:Obj}(e:h.get? b=some o)(n:H b=none):(kB h H).get? b=some o :=
 PySem.W.hideAll_get _ e λ hm=>by have q:(H b).isSome=true:=(OU.mp hm).2;rw[n]at q;simp at q
theorem wB{h:Heap}{H:Hp}{b:PK}{o:Obj}(e:(kB h H).get? b=some o):h.get? b=some o/\H b=none:=by
 have e':h.get? b=some o:=PySem.W.of_hideAll (trk h H) e;show%[e'|?_];cases q:H b with
 | none=>rfl
 | some x=>
  have hm:b∈trk h H:=OU.mpr %[List.mem_range.mpr (A9 e')|by simp[q]];have z:(kB h H).get? b=none:=PySem.W.hideAll_none (trk h H) hm;rw[z]at e;cases e
def wC(g h:Heap)(L:PK):RC:=(List.range h.objs.size).filterMap λ a=>if a=L\/(g.get? a).isSome=true then none else(h.get? a).map λ o=>(a,o)
def rest(g h:Heap)(L d:PK):RC:=(wC g h L).filter λ p=>decide (p.1≠d)
structure Mod(K:C5)(mg:Str->PM Value)(base:Heap):Prop where
 kin:K.In base
 glob:base.Ns PQ mg
 blt:∃mb,base.Ns builtinsNs mb/\∀x:Str,x ≠ "__name__" -> mb x=bootBuiltins x
 nolimit:base.NoLimit
/-- the context: a def's body (or a comprehension's block) running. base: fixed through the aX law;s₀,H₀: the entry;outer: the frames whose slots others may change (a def's callers);stack: all frames that run;
   ex: iterators that were made ahead of the entry and are walked here (a comprehension's);fn: the names whose cells were made at the entry (a def: all;a comprehension's block: its own);calm: not within an except suite;pn: PR that every state bears;xe: what is wanted of an exception that leaves the code -/
structure Cx where
 prog:Program
 w:World
 K:C5
 mg:Str->PM Value
 base:Heap
 A:Around
 N:PP Str
 s₀:Shared
 H₀:Hp
 env:Env
 outer:PP Env
 stack:PP Env
 ex:PP PK
 fn:Str->Bool
 calm:Bool
 pn:RC
 xe:G0->F6->Prop
def frs(l:PP Env):PP PK:=l.filterMap (·.frame)
abbrev Cx.fs(X:Cx):PP PK:=frs X.outer
def Vis(sc:Scope)(x:Str):Prop:=sc.names.lookup x=some .local\/sc.names.lookup x=some .cell\/sc.names.lookup x=some .free
def Loc(sc:Scope)(x:Str):Prop:=sc.names.lookup x=some .local\/sc.names.lookup x=some .cell
def Lw(env:Env)(h:Heap)(m:Str->PM G0)(x:Str)(u:G0):Prop :=
 (env.kindOf x=some .local/\m x=some u)\/((env.kindOf x=some .cell\/env.kindOf x=some .free)/\∃c,env.cells.lookup x=some c/\h.IsCell c (some u))
structure Cx.Ok(X:Cx):Prop where
 mod:Mod X.K X.mg X.base
 kind:X.env.scope.kind=.function
 glob:X.env.globals=PQ
 blt:X.env.builtins=builtinsNs
 above:X.s₀.heap.objs.size<=X.env.locals
 inj:∀x y c,X.env.cells.lookup x=some c->X.env.cells.lookup y=some c->x=y
 has:∀x,(X.env.kindOf x=some .cell\/X.env.kindOf x=some .free)->∃c,X.env.cells.lookup x=some c
 cab:∀x c,X.fn x=true->X.env.cells.lookup x=some c->X.s₀.heap.objs.size<=c
 hd:X.calm=true->X.A.handled=none
 frames:X.A.frames=some X.stack
 stk:X.stack=X.outer\/(X.stack=X.env :: X.outer/\X.env.frame=some X.env.locals)
 exf:∀b∈X.ex,b≠X.env.locals/\∀x c,X.env.cells.lookup x=some c->c≠b
 bs:∀b o,X.base.get? b=some o->X.s₀.heap.get? b=some o/\X.H₀ b=none
 bsz:X.base.objs.size<=X.s₀.heap.objs.size
 noex:∀b o,X.base.get? b=some o->b∉X.ex
 exfs:∀b∈X.ex,b∉X.fs
 funs:X.s₀.heap.FunFrames X.base X.outer
 frf:∀b∈X.fs,X.H₀ b=none
structure Inv(X:Cx)(PR:RC)(σ:PP (PM V))(H:Hp)(s:Shared):Prop where
 ok:X.Ok
 os:s.os=X.s₀.os
 bare:AllBare s.gens
 base:Un X.fs X.ex X.H₀ H X.s₀.heap s.heap
 loc:∃m,s.heap.Ns X.env.locals m/\∀(i:Nat)(x:Str)(v:V),X.N[i]?=some x->σ[i]?=some (some v)->Vis X.env.scope x->∃u,RelV v u/\Lw X.env s.heap m x u
 cell:∀x c,X.env.cells.lookup x=some c->∃v,s.heap.IsCell c v
 free:H X.env.locals=none
 freeC:∀x c,X.env.cells.lookup x=some c->H c=none
 pin:∀p∈X.pn ++ PR,s.heap.get? p.1=some p.2/\H p.1=none/\p.1≠X.env.locals/\p.1∉X.fs/\∀v,p.2.data≠.cell v
 hok:HOk X.prog X.w H s.heap
 len:σ.length=X.N.length
section
variable{X:Cx}{PR:RC}{σ:PP (PM V)}{H H':Hp}{s:F6}{h':Heap}
theorem Cx.Ok.nofr(ok:X.Ok){b:PK}{o:Obj}(e:X.base.get? b=some o):b∉X.fs:=λ hb=>by have:=(ok.funs.mem hb).1;rw[e]at this;cases this
theorem Inv.bs(I:Inv X PR σ H s):∀b o,X.base.get? b=some o->s.heap.get? b=some o/\H b=none:=λ b o e=>
 %[I.base.keep b o (I.ok.bs b o e).1 (I.ok.bs b o e).2 (I.ok.nofr e) (I.ok.noex b o e)|I.base.free b o (I.ok.bs b o e).1 (I.ok.bs b o e).2 (I.ok.noex b o e)]
theorem Inv.bk(I:Inv X PR σ H s):∀b o,X.base.get? b=some o->s.heap.get? b=some o:=λ b o e=>(I.bs b o e).1
theorem Inv.mod(I:Inv X PR σ H s):Mod X.K X.mg X.base:=I.ok.mod
theorem Inv.kIn(I:Inv X PR σ H s):X.K.In s.heap:=I.ok.mod.kin.keeps I.bk
theorem Inv.fr(I:Inv X PR σ H s):∃m,Fr X.base X.env.locals s.heap m :=
 let ⟨m,hn,_⟩:=I.loc
 %[m,hn,I.bk|C6 I.ok.bsz I.ok.above]
theorem Inv.lt(I:Inv X PR σ H s):X.env.locals < s.heap.objs.size:=let ⟨_,hn,_⟩:=I.loc;hn.lt
theorem Inv.sz(I:Inv X PR σ H s):X.s₀.heap.objs.size<=s.heap.objs.size:=C6 I.ok.above (C8 I.lt)
theorem Inv.nofs(I:Inv X PR σ H s){a:PK}(h:s.heap.objs.size<=a):a∉X.fs:=λ hb=>by obtain⟨_,o,ho,_⟩:=I.ok.funs.mem hb;exact absurd (C2 (A9 ho) (C6 I.sz h)) (E1 _)
theorem Inv.cne(I:Inv X PR σ H s):∀x c,X.env.cells.lookup x=some c->c≠X.env.locals:=λ x c e z=>by obtain⟨v,o,ho,hd⟩:=I.cell x c e;obtain⟨m,⟨o',es,ep,ho',hd',_⟩,_⟩:=I.loc;rw[z,ho']at ho;cases ho;rw[hd']at hd;cases hd
theorem Inv.funs(I:Inv X PR σ H s):s.heap.FunFrames X.base X.outer:=by
 have all:∀(l:PP Env),(∀b∈frs l,b∈X.fs)->X.s₀.heap.FunFrames X.base l->s.heap.FunFrames X.base l:=by
  intro l
  induction l with
  | nil=>intro _ _;trivial
  | cons env r ih=>
   intro hs hl;obtain⟨hk,⟨L,o,hf,hn,ho,hd⟩,hr⟩:=hl;have hL:L∈X.fs:=hs L (by unfold frs;rw[K7,hf];exact B7);obtain⟨sl,e⟩:=I.base.slot L o ho (I.ok.frf L hL) hL λ z=>I.ok.exfs L z hL;exact%[hk,%[L,_,hf,hn,e|hd]|ih (λ b hb=>hs b (by unfold frs;rw[K7,hf];exact B4 _ hb)) hr]
 exact all X.outer (λ _ hb=>hb) I.ok.funs
theorem Inv.stack(I:Inv X PR σ H s):s.heap.FunFrames X.base X.stack:=by
 rcases I.ok.stk with e | ⟨e,hf⟩
 ·rw[e];exact I.funs
 ·rw[e];obtain⟨m,hn,_⟩:=I.loc;show .cons (by rw[I.ok.kind];decide) hf hn ?_ I.funs;exact Heap.get?_none_of_le (C6 I.ok.bsz I.ok.above)
theorem Inv.stkSub(I:Inv X PR σ H s):∀b∈frs X.stack,b∈X.env.locals :: X.fs:=λ b hb=>by
 rcases I.ok.stk with e | ⟨e,hf⟩
 ·rw[e]at hb;exact B4 _ hb
 ·rw[e]at hb;unfold frs at hb;rw[K7,hf]at hb;exact hb
theorem Inv.stkFree(I:Inv X PR σ H s):∀b∈frs X.stack,H b=none:=λ b hb=>by
 rcases G7.mp (I.stkSub b hb)with e | hb
 ·rw[e];exact I.free
 ·obtain⟨_,o,ho,_⟩:=I.ok.funs.mem hb;exact I.base.free b o ho (I.ok.frf b hb) λ z=>I.ok.exfs b z hb
theorem Inv.step{g':PN GenState}{t':Nat}{d':Drawn}{ch:PP PK}(I:Inv X PR σ H s)
  (hch:∀b∈ch,(b∈X.ex\/X.s₀.heap.objs.size<=b)/\b≠X.env.locals/\(∀x c,X.env.cells.lookup x=some c->c≠b)/\∀p∈X.pn ++ PR,p.1≠b)
  (keep:∀b o,b≠X.env.locals->b∉X.fs->b∉ch->s.heap.get? b=some o->H b=none->h'.get? b=some o)
  (slot:∀b o,b≠X.env.locals->b∈X.fs->b∉ch->s.heap.get? b=some o->H b=none->∃sl,h'.get? b=some { o with slots:=sl }) (free:∀b o,b∉ch->s.heap.get? b=some o->H b=none->H' b=none)
  (there:∀b o,b∉ch->s.heap.get? b=some o->∃o',h'.get? b=some o')
  (tups:∀b xs,H b= ~~~xs->H' b= ~~~xs) (frzs:∀b o u,H b=some (.frz o u)->H' b=some (.frz o u)) (tbls:∀b ps,H b=some (.tbl ps)->∃more,H' b=some (.tbl (ps ++ more)))
  (ns:∀m,s.heap.Ns X.env.locals m->h'.Ns X.env.locals m) (hok:HOk X.prog X.w H' h') (hg:AllBare g') :
  Inv X PR σ H' { s with heap:=h',gens:=g',drawn:=d',toks:=t' }:=by
 have neL:∀b o,X.s₀.heap.get? b=some o->b≠X.env.locals:=λ b o e=>B9 (C2 (A9 e) I.ok.above);have neC:∀b o,X.s₀.heap.get? b=some o->b∉X.ex->b∉ch:=λ b o e hx hb=>by
  rcases(hch b hb).1 with z | z
  ·exact hx z
  ·exact absurd (C2 (A9 e) z) (E1 _)
 have cellK:∀x c,X.env.cells.lookup x=some c->∀v,s.heap.IsCell c v->h'.IsCell c v:=λ x c e v ⟨o,ho,hd⟩=>by
  have nch:c∉ch:=λ z=>(hch c z).2.2.1 x c e rfl
  by_cases hc:c∈X.fs
  ·obtain⟨sl,q⟩:=slot c o (I.cne x c e) hc nch ho (I.freeC x c e);exact%[_,q|hd]
  ·exact%[o,keep c o (I.cne x c e) hc nch ho (I.freeC x c e)|hd]
 show%[I.ok,I.os,hg,%[λ b o e n hb hx=>?_,λ b o e n hb hx=>?_,λ b o e n hx=>?_,λ b o e hx=>?_,λ b xs e=>tups b xs (I.base.tups b xs e),λ b o xs e=>frzs b o xs (I.base.frzs b o xs e)|λ b ps e=>?_],?_,λ x c e=>?_,?_,λ x c e=>?_,λ p hp=>?_,hok|I.len]
 ·exact keep b o (neL b o e) hb (neC b o e hx) (I.base.keep b o e n hb hx) (I.base.free b o e n hx)
 ·obtain⟨sl,e1⟩:=I.base.slot b o e n hb hx;obtain⟨sl',e2⟩:=slot b _ (neL b o e) hb (neC b o e hx) e1 (I.base.free b o e n hx);exact%[sl'|e2]
 ·obtain⟨o',e1⟩:=I.base.there b o e hx;exact free b o' (neC b o e hx) e1 (I.base.free b o e n hx)
 ·obtain⟨o',e1⟩:=I.base.there b o e hx;exact there b o' (neC b o e hx) e1
 ·obtain⟨m1,e1⟩:=I.base.tbls b ps e;obtain⟨m2,e2⟩:=tbls b _ e1;exact%[m1 ++ m2|by rw[e2,Array.append_assoc]]
 ·obtain⟨m,hn,hl⟩:=I.loc;show%[m,ns m hn|λ i x v e1 e2 e3=>?_];obtain⟨u,r,l⟩:=hl i x v e1 e2 e3;show%[u,r|?_];rcases l with l | ⟨k,c,e,z⟩
  ·exact .inl l
  ·exact .inr %[k,c,e|cellK x c e _ z]
 ·obtain⟨v,z⟩:=I.cell x c e;exact%[v|cellK x c e v z]
 ·obtain⟨m,⟨o,_,_,ho,_⟩,_⟩:=I.loc;exact free _ o (λ z=>(hch _ z).2.1 rfl) ho I.free
 ·obtain⟨v,o,ho,hd⟩:=I.cell x c e;exact free c o (λ z=>(hch c z).2.2.1 x c e rfl) ho (I.freeC x c e)
 ·obtain⟨e,n,ne,nf,d⟩:=I.pin p hp;have nch:p.1∉ch:=λ z=>(hch p.1 z).2.2.2 p hp rfl;exact%[keep p.1 p.2 ne nf nch e n,free p.1 p.2 nch e n,ne,nf|d]
theorem Inv.un{t':Nat}(I:Inv X PR σ H s)(u:Un X.fs [] H H' s.heap h')(hok:HOk X.prog X.w H' h'):Inv X PR σ H' { s with heap:=h',toks:=t' }:=by
 obtain⟨m,⟨o,es,ep,ho,r⟩,_⟩:=id I.loc;obtain⟨sl,hL⟩:=u.any ho I.free (by simp);exact I.step (g':=s.gens) (d':=s.drawn) (ch:=[]) (λ _ z=>nomatch z) (λ b o _ hb _ e n=>u.keep b o e n hb (by simp)) (λ b o _ hb _ e n=>u.slot b o e n hb (by simp)) (λ b o _ e n=>u.free b o e n (by simp)) (λ b o _ e=>u.there b o e (by simp)) u.tups u.frzs u.tbls (λ m' hm=>by
  obtain⟨o',es',ep',ho',r'⟩:=hm;rw[ho]at ho';cases ho';exact%[_,es',ep',hL|r']) hok I.bare
theorem Inv.call{g':PN GenState}{t':Nat}{d':Drawn}{ch:PP PK}(I:Inv X PR σ H s)(u:Un (frs X.stack) ch H H' s.heap h')(hok:HOk X.prog X.w H' h')(hg:AllBare g')
  (hch:∀b∈ch,(b∈X.ex\/X.s₀.heap.objs.size<=b)/\b≠X.env.locals/\(∀x c,X.env.cells.lookup x=some c->c≠b)/\∀p∈X.pn ++ PR,p.1≠b) :
  Inv X PR σ H' { s with heap:=h',gens:=g',drawn:=d',toks:=t' }:=by
 obtain⟨m,⟨o,es,ep,ho,r⟩,_⟩:=id I.loc;obtain⟨sl,hL⟩:=u.any ho I.free λ z=>(hch _ z).2.1 rfl;exact I.step (ch:=ch) hch (λ b o hL hb hc e n=>u.keep b o e n (λ z=>(G7.mp (I.stkSub b z)).elim hL hb) hc) (λ b o _ _ hc e n=>u.any e n hc) (λ b o hc e n=>u.free b o e n hc) (λ b o hc e=>u.there b o e hc) u.tups u.frzs u.tbls (λ m' hm=>by
  obtain⟨o',es',ep',ho',r'⟩:=hm;rw[ho]at ho';cases ho';exact%[_,es',ep',hL|r']) hok hg
theorem Inv.turned{t':Nat}{it:PK}(I:Inv X PR σ H s)(k:∀b o,b≠it->s.heap.get? b=some o->h'.get? b=some o)(hn:H it=none)(hL:it≠X.env.locals)
  (h1:it∈X.ex\/X.s₀.heap.objs.size<=it) (h2:∀x c,X.env.cells.lookup x=some c->c≠it) (h3:∀p∈X.pn ++ PR,p.1≠it):Inv X PR σ H { s with heap:=h',toks:=t' }:=by
 have nit:∀b u,H b=some u->b≠it:=λ b u e z=>by rw[z,hn]at e;cases e
 show I.step (g':=s.gens) (d':=s.drawn) (ch:=[it]) (λ b hb=>?_) (λ b o _ _ hc e _=>k b o (λ z=>hc (by simp[z])) e) (λ b o _ _ hc e _=>%[o.slots|k b o (λ z=>hc (by simp[z])) e]) (λ _ _ _ _ n=>n)
  (λ b o hc e=>%[o|k b o (λ z=>hc (by simp[z])) e]) (λ _ _ e=>e) (λ _ _ _ e=>e) (λ b ps e=>%[#[]|by rw[e];simp]) (λ m hm=>?_) (λ b u e=>?_) I.bare
 ·have e:b=it:=by simpa using hb
  subst e;exact%[h1,hL,h2|h3]
 ·obtain⟨o,es,ep,ho,r⟩:=hm;exact%[o,es,ep,k _ o (Ne.symm hL) ho|r]
 ·show(I.hok b u e).stay (λ c v hc q=>k c v ?_ q) (λ _ q=>q) λ _ _ q=>q;rcases hc with z | z
  ·rw[z];exact nit b u e
  ·exact nit c _ z
theorem Inv.tok(I:Inv X PR σ H s)(t:Nat):Inv X PR σ H { s with toks:=t }:=I.un (h':=s.heap) (t':=t) Un.refl I.hok
theorem Inv.kept{t':Nat}(I:Inv X PR σ H s)(k:∀b u,s.heap.get? b=some u->h'.get? b=some u):Inv X PR σ H { s with heap:=h',toks:=t' }:=I.un (Un.kept k) (I.hok.kept k)
theorem Inv.laid{a:PK}{o:HO}{t':Nat}(I:Inv X PR σ H s)(k:∀b u,s.heap.get? b=some u->h'.get? b=some u)(hp:s.heap.objs.size<=a)(new:ObjOk X.prog X.w (upd H a o) h' a o) :
  Inv X PR σ (upd H a o) { s with heap:=h',toks:=t' }:=I.un (Un.laid k hp (I.hok.fresh hp)) (I.hok.laid k hp new)
theorem Inv.write{x e:PK}{o:HO}{t':Nat}(I:Inv X PR σ H s)(mu:Mut (H x))(he:e=x\/H e=some (.own x))(k:∀b u,b≠e->s.heap.get? b=some u->h'.get? b=some u)(heo:∃u,h'.get? e=some u)
  (new:ObjOk X.prog X.w (upd H x o) h' x o):Inv X PR σ (upd H x o) { s with heap:=h',toks:=t' }:=I.un (Un.write mu he k heo) (I.hok.write mu he k heo new)
theorem Inv.weak{σ':PP (PM V)}(I:Inv X PR σ H s)(hl:σ'.length=σ.length)(w:∀ (i:Nat) v,σ'[i]?=some (some v)->σ[i]?=some (some v)):Inv X PR σ' H s :=
 %[I.ok,I.os,I.bare,I.base,let ⟨m,hn,hl'⟩:=I.loc;%[m,hn|λ i x v e1 e2 e3=>hl' i x v e1 (w i v e2) e3],I.cell,I.free,I.freeC,I.pin,I.hok|hl.trans I.len]
theorem Inv.pins_of{pins':RC}(I:Inv X PR σ H s)(h:∀p∈pins',s.heap.get? p.1=some p.2/\H p.1=none/\p.1≠X.env.locals/\p.1∉X.fs/\∀v,p.2.data≠.cell v):Inv X pins' σ H s :=
 %[I.ok,I.os,I.bare,I.base,I.loc,I.cell,I.free,I.freeC,λ p hp=>(C3.mp hp).elim (λ z=>I.pin p (B6 _ z)) (h p),I.hok|I.len]
theorem lK{N:PP Str}(hN:N.Nodup){i j:Nat}{x:Str}(a:N[i]?=some x)(b:N[j]?=some x):i=j:=by obtain⟨h1,e1⟩:=A6.mp a;obtain⟨h2,e2⟩:=A6.mp b;exact(List.getElem_inj hN).mp (e1.trans e2.symm)
theorem jy{M:Model}{A:Around}{E:G0->F6->Prop}{i:Nat}{x:Str}{v:V}{u:G0}{Q:Unit->F6->Prop}(I:Inv X PR σ H s)(hN:X.N.Nodup)(hi:X.N[i]?=some x)(hx:Loc X.env.scope x)(r:RelV v u)
  (h:∀s',Inv X PR (σ.set i (some v)) H s'->(∃a,Heap.SameBut a s.heap s'.heap/\(a=X.env.locals\/X.env.cells.lookup x=some a))->Q () s') (hf:X.fn x=true\/X.env.scope.names.lookup x=some .local:=by first | exact .inl rfl | exact .inr rfl | assumption):wpAny M A (storeName X.env x u) Q E s:=by
 obtain⟨m,hn,hl⟩:=id I.loc;have hcls:(X.env.scope.kind == .class || (X.env.scope.kind == .module && X.env.locals != X.env.globals))=false:=by rw[I.ok.kind];rfl
 have hiσ:i < σ.length:=by rw[I.len];exact(A6.mp hi).1
 have cne:=I.cne;have tracked:∀{a:PK}{h':Heap},(∃o,s.heap.get? a=some o/\H a=none)->Heap.SameBut a s.heap h'->HOk X.prog X.w H h':=λ {a h'} ha hs b ob e=>by
  obtain⟨_,_,hfree⟩:=ha;show(I.hok b ob e).stay (λ c w' hc q=>(hs.2 c ?_).trans q) (λ _ q=>q) λ _ _ q=>q;rintro rfl;rcases hc with rfl | hc
  ·rw[hfree]at e;cases e
  ·rw[hfree]at hc;cases hc
 rcases hx with hk | hk
 ·show wpAny_storeName_local hk hn (λ h' hn' hs=>?_) hcls;obtain⟨oL,_,_,hoL,_⟩:=id hn;show h _ %[I.ok,I.os,I.bare,%[λ b o e n hb hx=>?_,λ b o e n hb hx=>?_,I.base.free,λ b o e hx=>?_,I.base.tups,I.base.frzs|I.base.tbls],%[_,hn'|λ j y v' e1 e2 e3=>?_],λ y c e=>?_,I.free,I.freeC,λ p hp=>?_,tracked %[oL,hoL|I.free] hs|by simpa using I.len] %[_,hs|.inl rfl]
  ·exact(hs.2 b (B9 (C2 (A9 e) I.ok.above))).trans (I.base.keep b o e n hb hx)
  ·obtain⟨sl,e1⟩:=I.base.slot b o e n hb hx;exact%[sl|(hs.2 b (B9 (C2 (A9 e) I.ok.above))).trans e1]
  ·obtain⟨o',e1⟩:=I.base.there b o e hx;exact%[o'|(hs.2 b (B9 (C2 (A9 e) I.ok.above))).trans e1]
  ·by_cases hj:j=i
   ·subst hj;rw[hi]at e1;cases e1;rw[List.getElem?_set_self hiσ]at e2;cases e2;exact%[u,r|.inl %[hk|by simp]]
   ·rw[List.getElem?_set_ne (Ne.symm hj)]at e2;obtain⟨u',r',q⟩:=hl j y v' e1 e2 e3;show%[u',r'|?_];rcases q with⟨k,e⟩ | ⟨k,c,e,z⟩
    ·show .inl %[k|?_];have:y≠x:=λ e=>hj (lK hN e1 (e ▸ hi));simp[this,e]
    ·exact .inr %[k,c,e|z.sameBut hs (cne y c e)]
  ·obtain⟨w',z⟩:=I.cell y c e;exact%[w'|z.sameBut hs (cne y c e)]
  ·obtain⟨e,n,ne,nf,d⟩:=I.pin p hp;exact%[(hs.2 p.1 ne).trans e,n,ne,nf|d]
 ·have hfn:X.fn x=true:=by
   rcases hf with z | z
   ·exact z
   ·rw[z]at hk;cases hk
  obtain⟨c,hc⟩:=I.ok.has x (.inl hk);obtain⟨w',z⟩:=I.cell x c hc;show wpAny_storeName_cell I.ok.kind hk hc z (λ h' hc' hs=>?_);obtain⟨oc,hoc,hocd⟩:=id z;show h { s with heap:=h' } %[I.ok,I.os,I.bare,%[λ b o e n hb hx=>?_,λ b o e n hb hx=>?_,I.base.free,λ b o e hx=>?_,I.base.tups,I.base.frzs|I.base.tbls],%[m,hn.sameBut hs (Ne.symm (cne x c hc))|λ j y v' e1 e2 e3=>?_],λ y c' e=>?_,I.free,I.freeC,λ p hp=>?_,tracked %[oc,hoc|I.freeC x c hc] hs|by simpa using I.len] %[c,hs|.inr hc]
  ·exact(hs.2 b (B9 (C2 (A9 e) (I.ok.cab x c hfn hc)))).trans (I.base.keep b o e n hb hx)
  ·obtain⟨sl,e1⟩:=I.base.slot b o e n hb hx;exact%[sl|(hs.2 b (B9 (C2 (A9 e) (I.ok.cab x c hfn hc)))).trans e1]
  ·obtain⟨o',e1⟩:=I.base.there b o e hx;exact%[o'|(hs.2 b (B9 (C2 (A9 e) (I.ok.cab x c hfn hc)))).trans e1]
  ·by_cases hj:j=i
   ·subst hj;rw[hi]at e1;cases e1;rw[List.getElem?_set_self hiσ]at e2;cases e2;exact%[u,r|.inr %[.inl hk,c,hc|hc']]
   ·rw[List.getElem?_set_ne (Ne.symm hj)]at e2;obtain⟨u',r',q⟩:=hl j y v' e1 e2 e3;show%[u',r'|?_];rcases q with q | ⟨k,c',e,z'⟩
    ·exact .inl q
    ·show .inr %[k,c',e|z'.sameBut hs ?_];rintro rfl;exact hj (lK hN e1 (I.ok.inj _ _ _ e hc ▸ hi))
  ·by_cases hcc:c'=c
   ·subst hcc;exact%[_|hc']
   ·obtain⟨w2,z2⟩:=I.cell y c' e;exact%[w2|z2.sameBut hs hcc]
  ·obtain⟨e,n,ne,nf,d⟩:=I.pin p hp;show%[(hs.2 p.1 ?_).trans e,n,ne,nf|d];intro q;rw[q,hoc]at e;have q':oc=p.2:=B8 e;exact d w' (by rw[<- q'];exact hocd)
theorem eM{M:Model}{A:Around}{E:G0->F6->Prop}{i:Nat}{x:Str}{v:V}{u:G0}{Q:Unit->F6->Prop}(I:Inv X PR σ H s)(hN:X.N.Nodup)(hi:X.N[i]?=some x)(hx:Loc X.env.scope x)(r:RelV v u)
  (h:∀s',Inv X PR (σ.set i (some v)) H s'->Q () s') (hf:X.fn x=true\/X.env.scope.names.lookup x=some .local:=by first | exact .inl rfl | exact .inr rfl | assumption):wpAny M A (storeName X.env x u) Q E s :=
 jy I hN hi hx r (λ s' I' _=>h s' I') hf
theorem Inv.call'{s':F6}{ch:PP PK}(I:Inv X PR σ H s)(ho:s'.os=s.os)(u:Un (frs X.stack) ch H H' s.heap s'.heap)(hok:HOk X.prog X.w H' s'.heap)(hg:AllBare s'.gens)
  (hch:∀b∈ch,(b∈X.ex\/X.s₀.heap.objs.size<=b)/\b≠X.env.locals/\(∀x c,X.env.cells.lookup x=some c->c≠b)/\∀p∈X.pn ++ PR,p.1≠b):Inv X PR σ H' s':=by
 obtain⟨h',g',d',t',o'⟩:=s';have e:o'=s.os:=ho;subst e;exact I.call (g':=g') (t':=t') (d':=d') u hok hg hch
end
abbrev XK:=Value->PM PK->Hp->Prop
abbrev St:=PP (PM V)
abbrev VK:=V->Hp->Prop
abbrev TE:=St->Hp->VK->Prop
abbrev TT:=St->Hp->(Bool->Hp->Prop)->Prop
abbrev TA:=St->Hp->(PP V->Hp->Prop)->Prop
structure Ends where
 nx:St->Hp->Prop
 rt:VK
 bk:St->Hp->Prop:=λ _ _=>False
 ct:St->Hp->Prop:=λ _ _=>False
abbrev TS:=Ends->St->Hp->Prop
def EP(X:Cx)(PR:RC)(σ:St)(Q:VK)(u:G0)(s':F6):Prop:=∃v H',Inv X PR σ H' s'/\RelV v u/\Q v H'
def TP(X:Cx)(PR:RC)(σ:St)(Q:Bool->Hp->Prop)(b:Bool)(s':F6):Prop:=∃H',Inv X PR σ H' s'/\Q b H'
def AP(X:Cx)(PR:RC)(σ:St)(Q:PP V->Hp->Prop)(us:PP G0)(s':F6):Prop:=∃vs H',Inv X PR σ H' s'/\Vals vs us/\Q vs H'
def SP(X:Cx)(PR:RC)(D:Ends)(f:Flow)(s':F6):Prop :=
 match f with
 | .next=>∃σ' H',Inv X PR σ' H' s'/\D.nx σ' H'
 | .brk=>∃σ' H',Inv X PR σ' H' s'/\D.bk σ' H'
 | .cont=>∃σ' H',Inv X PR σ' H' s'/\D.ct σ' H'
 | .ret u=>∃v σ' H',Inv X PR σ' H' s'/\RelV v u/\D.rt v H'
def PE(X:Cx)(e:Expr)(t:TE):Prop :=
 ∀(PR:RC)(s:F6)(σ:St)(H:Hp)(Q:VK),Inv X PR σ H s->t σ H Q->wpAny (model X.prog X.w) X.A (eval e X.env) (EP X PR σ Q) X.xe s
def PT(X:Cx)(e:Expr)(t:TT):Prop :=
 ∀(PR:RC)(s:F6)(σ:St)(H:Hp)(Q:Bool->Hp->Prop),Inv X PR σ H s->t σ H Q->wpAny (model X.prog X.w) X.A (isTrue e X.env (eval e X.env)) (TP X PR σ Q) X.xe s
def PW(X:Cx)(e:Expr)(t:TT):Prop :=
 ∀(aX:Sem G0)(PR:RC)(s:F6)(σ:St)(H:Hp)(Q:Bool->Hp->Prop),Inv X PR σ H s->t σ H Q->wpAny (model X.prog X.w) X.A (isTrue e X.env aX) (TP X PR σ Q) X.xe s
theorem PW.pt{X:Cx}{e:Expr}{t:TT}(h:PW X e t):PT X e t:=h _
def PA(X:Cx)(es:PP Expr)(t:TA):Prop :=
 ∀(pos:Pos)(PR:RC)(s:F6)(σ:St)(H:Hp)(Q:PP V->Hp->Prop),Inv X PR σ H s->t σ H Q->wpAny (model X.prog X.w) X.A (spliced (backTo pos (starEach es X.env))) (AP X PR σ Q) X.xe s
def PS(X:Cx)(st:Stmt)(t:TS):Prop :=
 ∀(PR:RC)(s:F6)(σ:St)(H:Hp)(D:Ends),Inv X PR σ H s->t D σ H->wpAny (model X.prog X.w) X.A (exec st X.env) (SP X PR D) X.xe s
def PSs(X:Cx)(st:PP Stmt)(t:TS):Prop :=
 ∀(PR:RC)(s:F6)(σ:St)(H:Hp)(D:Ends),Inv X PR σ H s->t D σ H->wpAny (model X.prog X.w) X.A (execs st X.env) (SP X PR D) X.xe s
theorem thn{α:Type}{t:Sem α}{Q Q':α->F6->Prop}{M:Model}{A:Around}{E:G0->F6->Prop}{s:F6}(h:wpAny M A t Q E s)(hQ:∀a s,Q a s->Q' a s):wpAny M A t Q' E s:=Po h hQ λ _ _ x=>x
section
variable{X:Cx}
inductive tVar(i:Nat)(σ:St)(H:Hp)(Q:VK):Prop
|mk(v:V)(_:σ[i]?=some (some v))(_:Q v H)
def tC(v:V):TE:=λ _ H Q=>Q v H
theorem yT{i:Nat}{x:Str}{pos:Pos}(hN:X.N[i]?=some x)(hv:Vis X.env.scope x)(hd:(x == ("__debug__" : Str))=false:=by decide)(hcd:(x == ("__classdict__" : Str))=false:=by decide):PE X (.Name x pos) (tVar i):=by
 intro PR s σ H Q I h;obtain⟨v,e,h⟩:=h;obtain⟨m,hn,hl⟩:=I.loc;obtain⟨u,r,l⟩:=hl i x v hN e hv;have fin:EP X PR σ Q u s:=%[v,H,I,r|h]
 rcases l with⟨hk,hm⟩ | ⟨hk,c,hc,hcell⟩
 ·exact wpAny_Name (wpAny_loadName_local I.ok.kind hk hn hm fin) hd
 ·rcases hk with hk | hk
  ·exact wpAny_Name (wpAny_loadName_cell I.ok.kind hk hc hcell fin) hd
  ·exact wpAny_Name (wpAny_loadName_free I.ok.kind hk hc hcell fin hcd) hd
theorem af{i j pos}:PE X (.Constant (.int i) j pos) (tC (.int i)):=λ _ _ _ H _ I h=>wpAny_Constant_int %[.int i,H,I.tok _,%[_|rfl]|h]
theorem bP{b j pos}:PE X (.Constant (.bool b) j pos) (tC (.bl b)):=λ _ _ _ H _ I h=>Constant_bool %[.bl b,H,I,rfl|h]
theorem ci{j pos}:PE X (.Constant .none j pos) (tC .non):=λ _ _ _ H _ I h=>Constant_none %[.non,H,I,rfl|h]
theorem aB{x j pos}:PE X (.Constant (.str x) j pos) (tC (.str x)):=λ _ _ _ H _ I h=>Calls.Constant_str %[.str x,H,I.tok _,%[_|O]|h]
def Gl(X:Cx)(x:Str):Prop:=X.env.kindOf x=some .globalImplicit
theorem ff{E:G0->F6->Prop}{PR:RC}{s:F6}{σ:St}{H:Hp}{x:Str}{u:G0}{pos:Pos}{Q:G0->F6->Prop}(I:Inv X PR σ H s)(hg:Gl X x)(hm:X.mg x=some u)(h:Q u s)
  (hd:(x == ("__debug__" : Str))=false:=by decide):wpAny (model X.prog X.w) X.A (eval (.Name x pos) X.env) Q E s :=
 Calls.Name_function_global I.ok.kind hg (Calls.loadGlobal_global (by rw[I.ok.glob];exact I.mod.glob.keeps I.bk) hm h) hd
theorem fI{E:G0->F6->Prop}{PR:RC}{s:F6}{σ:St}{H:Hp}{x:Str}{u:G0}{pos:Pos}{Q:G0->F6->Prop}(I:Inv X PR σ H s)(hg:Gl X x)(hm:X.mg x=none)(hv:bootBuiltins x=some u)(h:Q u s)
  (hn:x ≠ "__name__" := by decide) (hd:(x == ("__debug__" : Str))=false:=by decide):wpAny (model X.prog X.w) X.A (eval (.Name x pos) X.env) Q E s:=by
 obtain⟨mb,h1,h2⟩:=I.mod.blt;exact Calls.Name_function_global I.ok.kind hg (Calls.loadGlobal_builtin (by rw[I.ok.glob];exact I.mod.glob.keeps I.bk) hm (by rw[I.ok.blt];exact h1.keeps I.bk) ((h2 x hn).trans hv) h) hd
theorem ce{x:Str}{v:V}{u:G0}{pos:Pos}(hg:Gl X x)(hm:X.mg x=some u)(r:RelV v u)(hd:(x == ("__debug__" : Str))=false:=by decide):PE X (.Name x pos) (tC v) :=
 λ _ _ _ H _ I h=>ff I hg hm %[v,H,I,r|h] hd
theorem bS{x:Str}{v:V}{u:G0}{pos:Pos}(hg:Gl X x)(hm:X.mg x=none)(hv:bootBuiltins x=some u)(r:RelV v u)(hn:x ≠ "__name__" := by decide)(hd:(x == ("__debug__" : Str))=false:=by decide):PE X (.Name x pos) (tC v) :=
 λ _ _ _ H _ I h=>fI I hg hm hv %[v,H,I,r|h] hn hd
variable{a b:Expr}{ta tb:TE}{pos:Pos}
def PC(X:Cx)(op:CmpOp)(a b:Expr)(t:TE):Prop :=
 ∀(PR:RC)(s:F6)(σ:St)(H:Hp)(Q:VK),Inv X PR σ H s->t σ H Q ->
  wpAny (model X.prog X.w) X.A (eval a X.env) (λ v s₁=>wpAny (model X.prog X.w) X.A (eval b X.env) (λ u s₂=>wpAny (model X.prog X.w) X.A (compareOp op v u) (EP X PR σ Q) X.xe s₂) X.xe s₁) X.xe s
inductive IsB(x:V)(Q:Bool->Prop):Prop
|mk(c:Bool)(e:x=.bl c)(q:Q c)
def tB(t:TE):TT:=λ σ H Q=>t σ H λ x H1=>IsB x λ c=>Q c H1
theorem yU{op:CmpOp}{t:TE}(h:PC X op a b t)(h1:behindInMarks op b=false:=by first | exact nobehind _ ∅ ∅ | rfl):PT X (.Compare a [op] [b] pos) (tB t):=by intro PR s σ H Q I hw;show wpAny_isTrue_Compare1 (thn (h PR s σ H _ I hw) λ v s1 h1=>thn h1 λ u s2 h2=>thn h2 ?_) h1;rintro c s3 ⟨x,H1,I1,r1,q1⟩;obtain⟨d,rfl,q⟩:=q1;cases r1;exact F2 %[H1,I1|q]
theorem aV{e:Expr}{t:TE}(h:PE X e t)(he:∀aX,isTrue e X.env aX=(do let v<-aX;standAt e.pos;holding [v] (truthy v)):=by intro _;rfl):PT X e (tB t):=by intro PR s σ H Q I hw;show isTrue_plain (thn (h PR s σ H _ I hw) ?_) (he _);rintro v s1 ⟨x,H1,I1,r1,q1⟩;obtain⟨d,rfl,q⟩:=q1;cases r1;exact F2 %[H1,I1|q]
variable{tA tB':TT}{rest:PP Expr}
def Lx(t u:TT):TT:=λ σ H Q=>t σ H λ c H1=>if c=true then u σ H1 Q else Q false H1
def tOr(t u:TT):TT:=λ σ H Q=>t σ H λ c H1=>if c=true then Q true H1 else u σ H1 Q
def Ly(t:TT):TT:=λ σ H Q=>t σ H λ c H1=>Q (!c) H1
theorem oK(ha:PT X a tA):PW X (.BoolOp .And [a] pos) tA:=by
 intro wh PR s σ H Q I h;show isTrue_and (thn (ha PR s σ H Q I h) λ c s1 e=>?_);cases c with
 | true=>exact isTrue_and_nil e
 | false=>exact e
theorem bT(ha:PT X a tA):PW X (.BoolOp .Or [a] pos) tA:=by
 intro wh PR s σ H Q I h;show isTrue_or (thn (ha PR s σ H Q I h) λ c s1 e=>?_);cases c with
 | false=>exact isTrue_or_nil e
 | true=>exact e
theorem tI(ha:PT X a tA)(hb:PW X (.BoolOp .And (b :: rest) pos) tB'):PW X (.BoolOp .And (a :: b :: rest) pos) (Lx tA tB'):=by
 intro wh PR s σ H Q I h;show isTrue_and (thn (ha PR s σ H _ I h) ?_);rintro c s1 ⟨H1,I1,q1⟩;cases c with
 | true=>exact hb wh PR s1 σ H1 Q I1 q1
 | false=>exact%[H1,I1|q1]
theorem bQ(ha:PT X a tA)(hb:PW X (.BoolOp .Or (b :: rest) pos) tB'):PW X (.BoolOp .Or (a :: b :: rest) pos) (tOr tA tB'):=by
 intro wh PR s σ H Q I h;show isTrue_or (thn (ha PR s σ H _ I h) ?_);rintro c s1 ⟨H1,I1,q1⟩;cases c with
 | true=>exact%[H1,I1|q1]
 | false=>exact hb wh PR s1 σ H1 Q I1 q1
theorem bh(ha:PT X a tA):PT X (.UnaryOp .Not a pos) (Ly tA):=by intro PR s σ H Q I h;exact isTrue_not (ha PR s σ H (λ c H1=>Q (!c) H1) I h)
def AA(ta tb:TE):TE:=λ σ H Q=>ta σ H λ x H1=>IsB x λ c=>if c=true then tb σ H1 Q else Q (.bl false) H1
def Lz(ta tb:TE):TE:=λ σ H Q=>ta σ H λ x H1=>IsB x λ c=>if c=true then Q (.bl true) H1 else tb σ H1 Q
def AB(ta:TE):TE:=λ σ H Q=>ta σ H λ x H1=>IsB x λ c=>Q (.bl (!c)) H1
theorem dk{op}{t:TE}(h:PE X a t):PE X (.BoolOp op [a] pos) t:=λ PR s σ H Q I hw=>BoolOp_one (h PR s σ H Q I hw)
theorem cO(ha:PE X a ta)(hb:PE X (.BoolOp .And (b :: rest) pos) tb):PE X (.BoolOp .And (a :: b :: rest) pos) (AA ta tb):=by
 intro PR s σ H Q I h;show BoolOp_and (thn (ha PR s σ H _ I h) ?_);rintro v s1 ⟨x,H1,I1,r1,q1⟩;obtain⟨c,rfl,q1⟩:=q1;cases r1;show F2 ?_;cases c with
 | true=>exact hb PR s1 σ H1 Q I1 q1
 | false=>exact%[.bl false,H1,I1,O|q1]
theorem AC(ha:PE X a ta)(hb:PE X (.BoolOp .Or (b :: rest) pos) tb):PE X (.BoolOp .Or (a :: b :: rest) pos) (Lz ta tb):=by
 intro PR s σ H Q I h;show BoolOp_or (thn (ha PR s σ H _ I h) ?_);rintro v s1 ⟨x,H1,I1,r1,q1⟩;obtain⟨c,rfl,q1⟩:=q1;cases r1;show F2 ?_;cases c with
 | false=>exact hb PR s1 σ H1 Q I1 q1
 | true=>exact%[.bl true,H1,I1,O|q1]
theorem mU(ha:PE X a ta):PE X (.UnaryOp .Not a pos) (AB ta):=by intro PR s σ H Q I h;show UnaryOp_ (thn (ha PR s σ H _ I h) ?_);rintro v s1 ⟨x,H1,I1,r1,q1⟩;obtain⟨c,rfl,q1⟩:=q1;cases r1;exact not_of (F2 %[.bl (!c),H1,I1,rfl|q1])
def tIf(t:TT)(ta tb:TE):TE:=λ σ H Q=>t σ H λ c H1=>if c=true then ta σ H1 Q else tb σ H1 Q
theorem lL{c:Expr}(hc:PT X c tA)(ha:PE X a ta)(hb:PE X b tb):PE X (.IfExp c a b pos) (tIf tA ta tb):=by
 intro PR s σ H Q I h;show wpAny_IfExp (thn (hc PR s σ H _ I h) ?_);rintro d s1 ⟨H1,I1,q1⟩;cases d with
 | true=>exact ha PR s1 σ H1 Q I1 q1
 | false=>exact hb PR s1 σ H1 Q I1 q1
end
def SqL(K:C5)(H:Hp)(a:PK)(xs:PP V):Prop :=
 Rd H a (.lst xs) \/
  ∃(o:Obj)(its:PN G0)(n:Nat),K.lookup a=some o/\o.cls=.type "list" /\ o.dict=none/\o.data=.seq its n/\its.size<=sizeLine/\Vals xs its.toList
def SqT(K:C5)(H:Hp)(a:PK)(xs:PP V):Prop :=
 Rd H a (.tup xs) \/
  ∃(o:Obj)(its:PN G0)(n:Nat),K.lookup a=some o/\o.cls=.type "tuple" /\ o.data=.seq its n/\its.size<=sizeLine/\Vals xs its.toList
def LA:G0->PM V
 | .none=>some .non
 | .bool b=>some (.bl b)
 | .int i _=>⇑i
 | .str x _=>some (.str x)
 | .ref a=>↑a
 | .type n=>some (.ty n)
 | _=>none
theorem RelV.abs{x:V}{u:G0}(r:RelV x u):LA u=some x:=by
 cases x with
 | non=>cases r;rfl
 | bl _=>cases r;rfl
 | int _=>obtain⟨t,rfl⟩:=r;rfl
 | str _=>obtain⟨t,rfl⟩:=r;rfl
 | ref _=>cases r;rfl
 | ty _=>cases r;rfl
theorem RelV.inj{x y:V}{u:G0}(r:RelV x u)(q:RelV y u):x=y:=B8 (r.abs.symm.trans q.abs)
theorem Vals.inj:∀{xs ys:PP V}{us:PP G0},Vals xs us->Vals ys us->xs=ys
 | _,_,_,.nil,.nil=>rfl
 | _,_,_,.cons r t,.cons r' t'=>by rw[r.inj r',Vals.inj t t']
section
variable{X:Cx}{PR:RC}{σ:St}{H:Hp}{s:F6}{a:PK}{xs ys:PP V}
theorem SqL.of{K:C5}(h:H a=↥xs):SqL K H a xs:=.inl (.inl h)
abbrev G3:=@SqL.of
theorem SqT.of{K:C5}(h:H a= ~~~xs):SqT K H a xs:=.inl (.inl h)
abbrev G2:=@SqT.of
theorem Inv.list(I:Inv X PR σ H s)(h:SqL X.K H a xs):∃its:PP G0,Vals xs its/\PlainL s.heap a its.toArray/\xs.length<=sizeLine:=by
 rcases h with h | ⟨o,its,n,hk,hc,hd,hs,hz,r⟩
 ·obtain⟨z,its,n,r,e⟩:=h.ok I.hok;exact%[its,r,%[_,n,e,O,O|O]|z]
 ·show%[its.toList,r,%[o,n,I.kIn a o hk,hc,hd|by simpa using hs]|?_];have e:=r.length;simp only[N4]at e;omega
theorem Inv.tuple(I:Inv X PR σ H s)(h:SqT X.K H a xs):∃its:PP G0,Vals xs its/\IsTup s.heap a its.toArray/\xs.length<=sizeLine:=by
 rcases h with h | ⟨o,its,n,hk,hc,hs,hz,r⟩
 ·obtain⟨z,its,r,p⟩:=h.ok I.hok;exact%[its,r,p|z]
 ·show%[its.toList,r,%[o,I.kIn a o hk,hc,n|by simpa using hs]|?_];have e:=r.length;simp only[N4]at e;omega
theorem Inv.list_inj(I:Inv X PR σ H s)(h:SqL X.K H a xs)(h':SqL X.K H a ys):xs=ys:=by
 obtain⟨its,r,⟨o,n,e,_,_,d⟩,_⟩:=I.list h;obtain⟨its',r',⟨o',n',e',_,_,d'⟩,_⟩:=I.list h';rw[e]at e';cases e';rw[d]at d';injection d' with d1 _
 have:its=its':=by simpa using Pw Array.toList d1
 subst this;exact r.inj r'
theorem Inv.tuple_inj(I:Inv X PR σ H s)(h:SqT X.K H a xs)(h':SqT X.K H a ys):xs=ys:=by
 obtain⟨its,r,⟨o,e,_,n,d⟩,_⟩:=I.tuple h;obtain⟨its',r',⟨o',e',_,n',d'⟩,_⟩:=I.tuple h';rw[e]at e';cases e';rw[d]at d';injection d' with d1 _
 have:its=its':=by simpa using Pw Array.toList d1
 subst this;exact r.inj r'
end
abbrev Cx.wish(X:Cx)(E:G0->F6->Prop):Cx:={ X with xe:=E }
abbrev Cx.nox(X:Cx):Cx:=X.wish λ _ _=>False
theorem Cx.Ok.wish{X:Cx}(ok:X.Ok)(E:G0->F6->Prop):(X.wish E).Ok :=
 %[ok.mod,ok.kind,ok.glob,ok.blt,ok.above,ok.inj,ok.has,ok.cab,ok.hd,ok.frames,ok.stk,ok.exf,ok.bs,ok.bsz,ok.noex,ok.exfs,ok.funs|ok.frf]
theorem Cx.Ok.unwish{X:Cx}{E:G0->F6->Prop}(ok:(X.wish E).Ok):X.Ok :=
 %[ok.mod,ok.kind,ok.glob,ok.blt,ok.above,ok.inj,ok.has,ok.cab,ok.hd,ok.frames,ok.stk,ok.exf,ok.bs,ok.bsz,ok.noex,ok.exfs,ok.funs|ok.frf]
section
variable{X:Cx}{PR:RC}{σ:St}{H:Hp}{s:F6}{E:G0->F6->Prop}
theorem Inv.wish(I:Inv X PR σ H s)(E:G0->F6->Prop):Inv (X.wish E) PR σ H s:=%[I.ok.wish E,I.os,I.bare,I.base,I.loc,I.cell,I.free,I.freeC,I.pin,I.hok|I.len]
theorem Inv.unwish(I:Inv (X.wish E) PR σ H s):Inv X PR σ H s:=%[I.ok.unwish,I.os,I.bare,I.base,I.loc,I.cell,I.free,I.freeC,I.pin,I.hok|I.len]
theorem SP.unwish{D:Ends}{f:Flow}{s':F6}(h:SP (X.wish E) PR D f s'):SP X PR D f s':=by
 cases f with
 | next=>obtain⟨σ',H',I,q⟩:=h;exact%[σ',H',I.unwish|q]
 | brk=>obtain⟨σ',H',I,q⟩:=h;exact%[σ',H',I.unwish|q]
 | cont=>obtain⟨σ',H',I,q⟩:=h;exact%[σ',H',I.unwish|q]
 | ret u=>obtain⟨v,σ',H',I,r,q⟩:=h;exact%[v,σ',H',I.unwish,r|q]
theorem PSs.nox{st:PP Stmt}{t:TS}(h:PSs X.nox st t):PSs X st t:=λ PR s σ H D I hw=>
 Po (h PR s σ H D (I.wish _) hw) (λ _ _ q=>q.unwish) λ _ _ z=>E7 z
end
section
variable{X:Cx}{st:Stmt}{rest:PP Stmt}{t u:TS}{e:Expr}{te:TE}{pos:Pos}
def AD:TS:=λ D σ H=>D.nx σ H
def tJ(t u:TS):TS:=λ D σ H=>t { D with nx:=u D } σ H
theorem aG:PSs X [] AD:=λ _ _ σ H _ I h=>P7 %[σ,H,I|h]
theorem ae(h1:PS X st t)(h2:PSs X rest u):PSs X (st :: rest) (tJ t u):=by
 intro PR s σ H D I h;show wpAny_execs_cons (thn (h1 PR s σ H { D with nx:=u D } I h) λ f s1 q=>?_);cases f with
 | next=>
  obtain⟨σ',H',I',q⟩:=q;exact h2 PR s1 σ' H' D I' q
 | ret v=>exact q
 | brk=>exact q
 | cont=>exact q
theorem ag(h1:PS X st t):PSs X [st] t:=by
 intro PR s σ H D I h;show wpAny_execs_cons (thn (h1 PR s σ H D I h) λ f s1 q=>?_);cases f with
 | next=>exact P7 q
 | ret v=>exact q
 | brk=>exact q
 | cont=>exact q
theorem Inv.quiet{PR:RC}{σ:St}{H:Hp}{s:F6}(I:Inv X PR σ H s):interactive X.env=false:=by simp[interactive,I.ok.kind]
def AE(te:TE):TS:=λ D σ H=>te σ H λ _ H1=>D.nx σ H1
theorem be(he:PE X e te)(hs:swapsWith e none pos.line X.env=pure false:=by rfl):PS X (.Expr e pos) (AE te):=by intro PR s σ H D I h;exact wpAny_Expr_any (thn (he PR s σ H _ I h) λ v s1 %[x,H1,I1,r1|q1]=>%[σ,H1,I1|q1]) I.quiet hs
def yV(te:TE):TS:=λ D σ H=>te σ H D.rt
theorem ay(he:PE X e te):PS X (.Return (some e) pos) (yV te):=by intro PR s σ H D I h;exact wpAny_Return_some (thn (he PR s σ H _ I h) λ v s1 %[x,H1,I1,r1|q1]=>%[x,σ,H1,I1,r1|q1])
def LB(c:TT)(t u:TS):TS:=λ D σ H=>c σ H λ b H1=>if b=true then t D σ H1 else u D σ H1
theorem aO{c:Expr}{a b:PP Stmt}{tc:TT}(hc:PT X c tc)(ha:PSs X a t)(hb:PSs X b u):PS X (.If c a b pos) (LB tc t u):=by
 intro PR s σ H D I h;show wpAny_If (thn (hc PR s σ H _ I h) ?_);rintro d s1 ⟨H1,I1,q1⟩;cases d with
 | true=>exact ha PR s1 σ H1 D I1 q1
 | false=>exact hb PR s1 σ H1 D I1 q1
def tK:TS:=λ _ _ _=>False
theorem aP:PS X st tK:=λ _ _ _ _ _ _ h=>h.elim
theorem gD{sts:PP Stmt}:PSs X sts tK:=λ _ _ _ _ _ _ h=>h.elim
end
abbrev TG:=V->St->Hp->(St->Hp->Prop)->Prop
abbrev TGs:=PP V->St->Hp->(St->Hp->Prop)->Prop
def PG(X:Cx)(target:Expr)(t:TG):Prop :=
 ∀(PR:RC)(s:F6)(σ:St)(H:Hp)(v:V)(u:G0)(Q:St->Hp->Prop),Inv X PR σ H s->RelV v u->t v σ H Q ->
  wpAny (model X.prog X.w) X.A (assign target X.env u) (λ _ s'=>∃σ' H',Inv X PR σ' H' s'/\Q σ' H') X.xe s
def PGs(X:Cx)(ts:PP Expr)(t:TGs):Prop :=
 ∀(PR:RC)(s:F6)(σ:St)(H:Hp)(vs:PP V)(us:PP G0)(Q:St->Hp->Prop),Inv X PR σ H s->Vals vs us->t vs σ H Q ->
  wpAny (model X.prog X.w) X.A (assignInOrder ((assignEach ts X.env).map (·.2)) us) (λ _ s'=>∃σ' H',Inv X PR σ' H' s'/\Q σ' H') X.xe s
abbrev pV:=V->V->V->Hp->(Hp->Prop)->Prop
def wD(X:Cx)(t:pV):Prop :=
 ∀(PR:RC)(s:F6)(σ:St)(H:Hp)(o i v:V)(ov iv u:G0)(Q:Hp->Prop),Inv X PR σ H s->RelV o ov->RelV i iv->RelV v u->t o i v H Q ->
  wpAny (model X.prog X.w) X.A (setItem ov iv u) (λ _ s'=>∃H',Inv X PR σ H' s'/\Q H') X.xe s
abbrev TIp:=V->V->Hp->VK->Prop
def PIp(X:Cx)(op:Operator)(t:TIp):Prop :=
 ∀(PR:RC)(s:F6)(σ:St)(H:Hp)(x y:V)(v u:G0)(Q:VK),Inv X PR σ H s->RelV x v->RelV y u->t x y H Q ->
  wpAny (model X.prog X.w) X.A (inplaceOp op v u) (EP X PR σ Q) X.xe s
section
variable{X:Cx}{pos:Pos}
def cB(i:Nat):TG:=λ v σ H Q=>Q (σ.set i (some v)) H
theorem ai{i:Nat}{x:Str}(hN:X.N.Nodup)(hi:X.N[i]?=some x)(hx:Loc X.env.scope x)(hf:X.fn x=true\/X.env.scope.names.lookup x=some .local:=by first | exact .inl rfl | exact .inr rfl | assumption):PG X (.Name x pos) (cB i):=by intro PR s σ H v u Q I r h;exact wpAny_assign_Name (eM I hN hi hx r (λ s' I'=>%[_,H,I'|h]) hf)
def mV:TGs:=λ vs σ H Q=>vs=[]/\Q σ H
inductive gCons(t:TG)(u:TGs)(vs:PP V)(σ:St)(H:Hp)(Q:St->Hp->Prop):Prop
|mk(v:V)(r:PP V)(_:vs=v :: r)(_:t v σ H λ σ' H'=>u r σ' H' Q)
theorem aQ:PGs X [] mV:=by intro PR s σ H vs us Q I r h;obtain⟨e,h⟩:=h;subst e;cases r;exact assignInOrder_nil %[σ,H,I|h]
theorem ah{e:Expr}{es:PP Expr}{t:TG}{u:TGs}(h1:PG X e t)(h2:PGs X es u)
  (hs:(assignEach (e :: es) X.env).map (·.2)=assign e X.env :: (assignEach es X.env).map (·.2):=by rfl):PGs X (e :: es) (gCons t u):=by
 intro PR s σ H vs us Q I r h;obtain⟨v,vr,e1,h⟩:=h;subst e1;cases r with
 | cons r rr=>
  rw[hs];show assignInOrder_cons (thn (h1 PR s σ H _ _ _ I r h) ?_);rintro _ s1 ⟨σ1,H1,I1,q1⟩;exact h2 PR s1 σ1 H1 _ _ Q I1 rr q1
inductive gTup(K:C5)(n:Nat)(t:TGs)(v:V)(σ:St)(H:Hp)(Q:St->Hp->Prop):Prop
|mk(a:PK)(xs:PP V)(_:v=.ref a)(_:SqT K H a xs)(_:xs.length=n)(_:t xs σ H Q)
theorem bf{es:PP Expr}{k:Nat}{t:TGs}{n:Nat}(hc:X.calm=true)(h:PGs X es t)
  (hn:(assignEach es X.env).length=n:=by rfl) (hst:(assignEach es X.env).findIdx? (·.1)=none:=by rfl):PG X (.Tuple es k pos) (gTup X.K n t):=by
 intro PR s σ H v u Q I r hw;obtain⟨a,xs,e1,hq,hl,hw⟩:=hw;subst e1;cases r;obtain⟨its,rv,ht,hz⟩:=I.tuple hq;show assign_Tuple_tuple (I.ok.hd hc) ht (by simp[hn,<- hl,rv.length]) hst λ h' hx=>?_;have I1:Inv X PR σ H { s with heap:=h' }:=I.kept (t':=s.toks) λ b o e=>hx b o (B9 (A9 e)) e;exact h PR _ σ H xs _ Q I1 (by simpa using rv) hw
def LC(to ti:TE)(t:pV):TG:=λ v σ H Q=>to σ H λ o H1=>ti σ H1 λ i H2=>t o i v H2 λ H3=>Q σ H3
theorem eO{o i:Expr}{to ti:TE}{t:pV}(ho:PE X o to)(hi:PE X i ti)(hs:wD X t)
  (ha:∀v,assign (.Subscript o i pos) X.env v=(do
   let ov<-holding [v] (eval o X.env)
   let iv<-holding [v,ov] (eval i X.env)
   standAt pos
   holding [v,ov,iv] (setItem ov iv v)
   release [v,ov,iv] []):=by intro _;rfl):PG X (.Subscript o i pos) (LC to ti t):=by
 intro PR s σ H v u Q I r h;rw[ha];show A0 (Ph (thn (ho PR s σ H _ I h) ?_));rintro ov s1 ⟨x,H1,I1,r1,q1⟩;show A0 (Ph (thn (hi PR s1 σ H1 _ I1 q1) ?_));rintro iv s2 ⟨y,H2,I2,r2,q2⟩;show A0 (wpAny_standAt (A0 (Ph (thn (hs PR s2 σ H2 x y v ov iv u _ I2 r1 r2 r q2) ?_))));rintro _ s3 ⟨H3,I3,q3⟩;exact wpAny_release %[σ,H3,I3|q3]
def yW(te:TE)(g:TG):TS:=λ D σ H=>te σ H λ x H1=>g x σ H1 D.nx
theorem bA{tg e:Expr}{te:TE}{g:TG}(he:PE X e te)(hg:PG X tg g)(hs:swapsWithSole [tg] e pos.line X.env=pure false:=by rfl)(hw:swappedStores [tg] e X.env=pure none:=by rfl)
  (h1:(assignEach [tg] X.env).map (·.2)=[assign tg X.env]:=by rfl):PS X (.Assign [tg] e pos) (yW te g):=by
 intro PR s σ H D I h;show wpAny_Assign_stores (thn (he PR s σ H _ I h) ?_) hs hw;rintro v s1 ⟨x,H1,I1,r1,q1⟩;rw[h1];exact thn (hg PR s1 σ H1 x v _ I1 r1 q1) λ _ s2 q=>q
theorem aE{i:Nat}{x:Str}{e:Expr}{te:TE}{pos':Pos}(hN:X.N.Nodup)(hi:X.N[i]?=some x)(hx:Loc X.env.scope x)(he:PE X e te)(hs:swapsWith e (some (.Name x pos')) pos.line X.env=pure false:=by rfl)(hf:X.fn x=true\/X.env.scope.names.lookup x=some .local:=by first | exact .inl rfl | exact .inr rfl | assumption) :
  PS X (.Assign [.Name x pos'] e pos) (yW te (cB i)):=by
 intro PR s σ H D I h;show wpAny_Assign_Name (thn (he PR s σ H _ I h) ?_) hs;rintro v s1 ⟨y,H1,I1,r1,q1⟩;exact eM I1 hN hi hx r1 (λ s2 I2=>%[_,H1,I2|q1]) hf
def AF(i j:Nat)(ta:TA):TS:=λ D σ H=>ta σ H λ vs H1=>∃v w,vs=[v,w]/\D.nx ((σ.set i (some v)).set j (some w)) H1
theorem yX{i j:Nat}{x y:Str}{a b:Expr}{ta:TA}{px py pt:Pos}{kt k2 pt2}(hc:X.calm=true)(hN:X.N.Nodup)(hi:X.N[i]?=some x)(hj:X.N[j]?=some y)(hij:i≠j)
  (hx:X.env.scope.names.lookup x=some .local) (hy:X.env.scope.names.lookup y=some .local) (ha:PA X [a,b] ta)
  (hw:swappedStores [.Tuple [.Name x px,.Name y py] kt pt] (.Tuple [a,b] k2 pt2) X.env=pure (some [x,y]))
  (hs:swapsWithSole [.Tuple [.Name x px,.Name y py] kt pt] (.Tuple [a,b] k2 pt2) pos.line X.env=pure false:=by rfl) :
  PS X (.Assign [.Tuple [.Name x px,.Name y py] kt pt] (.Tuple [a,b] k2 pt2) pos) (AF i j ta):=by
 intro PR s σ H D I h;rw[exec_Assign_arm];show A0 (wpAny_standAt ?_);rw[hs];show A0 (A2 ?_);rw[PZ ∅];show A0 (Tuple_ (thn (ha _ PR s σ H _ I h) ?_));rintro us s1 ⟨vs,H1,I1,r1,q1⟩;obtain⟨v,w,e1,q1⟩:=q1;subst e1;obtain⟨u1,u2,rfl,rv,rw'⟩:∃u1 u2,us=[u1,u2]/\RelV v u1/\RelV w u2:=by
  cases r1 with
  | cons p q=>
   cases q with
   | cons p' q'=>
    cases q';exact%[_,_,O,p|p']
 show F4 ?_ zS2;have I2:Inv X PR σ H1 { s1 with heap:=s1.heap.push { cls:=.type "tuple",data:=.seq [u1,u2].toArray } }:=I1.kept (t':=s1.toks) λ b o e=>A7 _ e;rw[hw];show A0 (A2 ?_);change wpAny (model X.prog X.w) X.A (do rule "assign.swapped-stores";let items<-unpackItems (.ref s1.heap.objs.size) 2 none;assignInOrder [λ v=>bindName X.env y v,λ v=>bindName X.env x v] items.reverse;pure Flow.next) _ _ _;show A0 (P8 (A0 (unpackItems_tuple (items:=#[u1,u2]) (I.ok.hd hc) (IsTup.new s1.heap _) λ h' hx'=>?_)));have I3:=I2.kept (h':=h') (t':=s1.toks) λ b o e=>hx' b o (B9 (A9 e)) e;change wpAny _ _ (assignInOrder [λ v=>bindName X.env y v,λ v=>bindName X.env x v] [u2,u1] >>= λ _=>pure Flow.next) _ _ _;show A0 (assignInOrder_cons (wpAny_bindName (eM I3 hN hj (.inl hy) rw' (λ s2 I4=>?_) (.inr hy))));show assignInOrder_cons (wpAny_bindName (eM I4 hN hi (.inl hx) rv (λ s3 I5=>assignInOrder_nil (A2 ?_)) (.inr hx)));rw[List.set_comm _ _ (Ne.symm hij)]at I5;exact%[_,H1,I5|q1]
def AG(to ti te:TE)(tget:V->V->Hp->VK->Prop)(tip:TIp)(tset:pV):TS:=λ D σ H=>to σ H λ o H1=>ti σ H1 λ i H2=>tget o i H2 λ x H3=>te σ H3 λ y H4=>tip x y H4 λ z H5=>tset o i z H5 λ H6=>D.nx σ H6
def AH(X:Cx)(t:V->V->Hp->VK->Prop):Prop :=
 ∀(PR:RC)(s:F6)(σ:St)(H:Hp)(o i:V)(ov iv:G0)(Q:VK),Inv X PR σ H s->RelV o ov->RelV i iv->t o i H Q ->
  wpAny (model X.prog X.w) X.A (getItem ov iv) (EP X PR σ Q) X.xe s
theorem wE{o i e:Expr}{to ti te:TE}{tget:V->V->Hp->VK->Prop}{tip:TIp}{tset:pV}{op:Operator}{tpos:Pos}(ho:PE X o to)(hi:PE X i ti)(hg:AH X tget)(he:PE X e te)(hp:PIp X op tip)(hs:wD X tset)
  (ha:∀ov iv new,augStore i ov iv new=(do holding [new,ov,iv] (setItem ov iv new);release [new,ov,iv] [];pure .next):=by intros;rfl):PS X (.AugAssign (.Subscript o i tpos) op e pos) (AG to ti te tget tip tset):=by
 intro PR s σ H D I h;show wpAny_AugAssign_SubscriptAny (thn (ho PR s σ H _ I h) ?_) ha;rintro ov s1 ⟨x1,H1,I1,r1,q1⟩;show thn (hi PR s1 σ H1 _ I1 q1) ?_;rintro iv s2 ⟨x2,H2,I2,r2,q2⟩;show thn (hg PR s2 σ H2 x1 x2 ov iv _ I2 r1 r2 q2) ?_;rintro old s3 ⟨x3,H3,I3,r3,q3⟩;show thn (he PR s3 σ H3 _ I3 q3) ?_;rintro v s4 ⟨x4,H4,I4,r4,q4⟩;show thn (hp PR s4 σ H4 x3 x4 old v _ I4 r3 r4 q4) ?_;rintro new s5 ⟨x5,H5,I5,r5,q5⟩;exact thn (hs PR s5 σ H5 x1 x2 x5 ov iv new _ I5 r1 r2 r5 q5) λ _ s6 %[H6,I6|q6]=>%[σ,H6,I6|q6]
def ipI(f:Int->Int->Int):TIp:=λ x y H Q=>∃i j,x=.int i/\y=.int j/\Q (.int (f i j)) H
theorem yY:PIp X .Add (ipI λ i j=>i+j):=by intro PR s σ H x y v u Q I r1 r2 h;obtain⟨i,j,e1,e2,q⟩:=h;subst e1;subst e2;obtain⟨t,rfl⟩:=r1;obtain⟨t',rfl⟩:=r2;exact iadd_int %[.int _,H,I.tok _,%[_|rfl]|q]
def yZ(c:TT)(tb:TS):TS:=λ D σ H=>∃W:Nat->St->Hp->Prop,(∃m,W m σ H)/\∀m σ H,W m σ H ->
 c σ H λ b H1=>if b=true then∃N:St->Hp->Prop,(∀σ' H',N σ' H'->∃m',m' < m/\W m' σ' H')/\tb { D with nx:=N,ct:=N,bk:=D.nx } σ H1 else D.nx σ H1
theorem lM{c:Expr}{body:PP Stmt}{tc:TT}{tb:TS}(hp:PassesOwn (model X.prog X.w) X.A X.env X.xe)(hc:PT X c tc)(hb:PSs X body tb):PS X (.While c body [] pos) (yZ tc tb):=by
 intro PR s σ H D I h;obtain⟨W,⟨m0,w0⟩,turn⟩:=h;show wpAny_While (codeAny_whileLoop (λ n s'=>∃σ' H',Inv X PR σ' H' s'/\W n σ' H') ?_ m0 %[σ,H,I|w0]);rintro n s1 ⟨σ1,H1,I1,w1⟩;show P2 hp (thn (hc PR s1 σ1 H1 _ I1 (turn n σ1 H1 w1)) ?_);rintro b s2 ⟨H2,I2,q2⟩;cases b with
 | true=>
  obtain⟨N,hN,q2⟩:=q2;rw[Pa rfl];show P2 hp (thn (hb PR s2 σ1 H2 _ I2 q2) λ f s3 q3=>?_);cases f with
  | next=>
   obtain⟨σ3,H3,I3,n3⟩:=q3;obtain⟨m',hm,w3⟩:=hN σ3 H3 n3;exact%[m',hm,σ3,H3,I3|w3]
  | cont=>
   obtain⟨σ3,H3,I3,n3⟩:=q3;obtain⟨m',hm,w3⟩:=hN σ3 H3 n3;exact%[m',hm,σ3,H3,I3|w3]
  | brk=>exact q3
  | ret v=>exact q3
 | false=>
  rw[PZ B2];exact P7 %[σ1,H2,I2|q2]
end
structure It where
 go:Nat->Hp->Prop
 yld:Nat->Hp->V->Hp->Prop
 stop:Nat->Hp->Prop
def FpOk(X:Cx)(PR:RC)(H:Hp)(b:PK):Prop :=
 H b=none/\b≠X.env.locals/\b∉X.fs/\(b∈X.ex\/X.s₀.heap.objs.size<=b)/\(∀x c,X.env.cells.lookup x=some c->c≠b)/\∀p∈X.pn ++ PR,p.1≠b
theorem Inv.fpOk{X:Cx}{PR:RC}{σ:St}{H H':Hp}{s:F6}{b:PK}(I:Inv X PR σ H s)(hb:s.heap.objs.size<=b)(hn:H' b=none):FpOk X PR H' b:=by
 show%[hn,N2 (C2 I.lt hb),I.nofs hb,.inr (C6 I.sz hb),λ x c e z=>?_|λ p hp z=>?_]
 ·obtain⟨v,q⟩:=I.cell x c e;exact absurd (C2 q.lt (by rw[z];exact hb)) (E1 _)
 ·exact absurd (C2 (A9 (I.pin p hp).1) (by rw[z];exact hb)) (E1 _)
structure Turn(P:Program)(w:World)(K:C5)(tg:Expr)(J:It)(fp:PP PK)(it:PK)(tn:Nat->Heap->Prop):Prop where
 mem:it∈fp
 obj:∀i h,tn i h->∀b∈fp,∃o,h.get? b=some o/\∀v,o.data≠.cell v
 keep:∀i h h',tn i h->(∀b∈fp,∀o,h.get? b=some o->h'.get? b=some o)->tn i h'
 item:∀(X:Cx),X.prog=P->X.w=w->X.K=K->X.calm=true->∀(i:Nat)(PR:RC)(s:F6)(σ:St)(H:Hp)(E:G0->F6->Prop),Inv X PR σ H s->(∀b∈fp,FpOk X PR H b)->tn i s.heap->J.go i H ->
  wpAny (model P w) X.A (pyNext (.ref it)) (λ r s1=>∃u,r=some u /\
   wpAny (model P w) X.A (letOwnedTupleGo tg (.ref it) u) (λ _ s2=>∃x H',Inv X PR σ H' s2/\RelV x u/\J.yld i H x H'/\tn (i+1) s2.heap/\∀b∈fp,H' b=none) E s1) E s
 done:∀(X:Cx),X.prog=P->X.w=w->X.K=K->X.calm=true->∀(i:Nat)(PR:RC)(s:F6)(σ:St)(H:Hp)(E:G0->F6->Prop),Inv X PR σ H s->(∀b∈fp,FpOk X PR H b)->tn i s.heap->J.stop i H ->
  wpAny (model P w) X.A (pyNext (.ref it)) (λ r s1=>r=none/\Inv X PR σ H s1) E s
 self:∀(A:Around)(i:Nat)(s:F6)(Q E:G0->F6->Prop),tn i s.heap->Q (.ref it) s->wpAny (model P w) A (pyIter (.ref it)) Q E s
abbrev TI:=St->Hp->(It->Hp->Prop)->Prop
def PIE(X:Cx)(PR:RC)(σ:St)(tg:Expr)(R:It->Hp->Prop)(itv:G0)(s2:F6):Prop :=
 ∃(it:PK)(fp:PP PK)(tn:Nat->Heap->Prop)(J:It)(H':Hp),itv=.ref it/\Inv X PR σ H' s2/\Turn X.prog X.w X.K tg J fp it tn/\tn 0 s2.heap/\(∀b∈fp,FpOk X PR H' b)/\R J H'
def PI(X:Cx)(tg iter:Expr)(wi:TI):Prop :=
 ∀(PR:RC)(s:F6)(σ:St)(H:Hp)(R:It->Hp->Prop),Inv X PR σ H s->wi σ H R ->
  wpAny (model X.prog X.w) X.A (eval iter X.env) (λ v s1=>wpAny (model X.prog X.w) X.A (pyIter v) (PIE X PR σ tg R) X.xe s1) X.xe s
theorem tL{M:Model}{A:Around}{E:G0->F6->Prop}{s:F6}{tg:Expr}{it:PK}{u:G0}{o:Obj}{n:String}{vs:PN G0}{Q:Unit->F6->Prop}(ho:s.heap.get? it=some o)(hc:o.cls=.type n)(hd:o.data=.fields vs)
    (hn:PU.contains n=false) (hQ:Q () s):wpAny M A (letOwnedTupleGo tg (.ref it) u) Q E s:=by
  unfold letOwnedTupleGo;cases tg <;> first
    | exact A2 hQ
    | (cases u <;> first
        | exact A2 hQ
        | (show A0 (wpAny_load ho ?_)
           rw[hc,hd];change wpAny M A (if (PU.contains n && vs[0]? == some (rawInt _))=true then _ else _) Q E s;rw[PZ (by intro h;rw[hn,M8]at h;cases h)];exact A2 hQ))
def Itl(K:C5)(a:PK):It :=
 %[λ i H=>∃xs x,SqL K H a xs/\xs[i]?=some x,λ i H x H'=>H'=H/\∀xs,SqL K H a xs->xs[i]?=some x|λ i H=>∃xs,SqL K H a xs/\xs.length<=i]
def Itt(K:C5)(a:PK):It :=
 %[λ i H=>∃xs x,SqT K H a xs/\xs[i]?=some x,λ i H x H'=>H'=H/\∀xs,SqT K H a xs->xs[i]?=some x|λ i H=>∃xs,SqT K H a xs/\xs.length<=i]
def Itr(lo:Int)(n:Nat):It:=%[λ i _=>i < n,λ i H x H'=>H'=H/\x=.int (lo+i)|λ i _=>n<=i]
theorem pW{P:F7}{w:F9}{K:C5}{tg:Expr}(a it:PK):Turn P w K tg (Itl K a) [it] it (λ i h=>h.IsListIter it a i) where
 mem:=by simp
 obj:=λ i h st b hb=>by
  have e:b=it:=by simpa using hb
  subst e;obtain⟨o,e,c,d⟩:=st;exact%[o,e|λ v z=>by rw[d]at z;cases z]
 keep:=λ i h h' st k=>st.at λ o e=>k it (by simp) o e
 item:=by intro X hP hw hK hc i PR s σ H E I hf st hg;subst hP hw hK;obtain⟨xs,x,hq,hx⟩:=hg;obtain⟨its,rv,p,hz⟩:=I.list hq;obtain⟨u,hu,ru⟩:=rv.get hx;obtain⟨f0,f1,f2,f3,f4,f5⟩:=hf it (by simp);show wpAny_pyNext_list_item st p.isList (x:=u) (by simpa using hu) λ h' st' sb=>?_;have I1:Inv X PR σ H { s with heap:=h' }:=I.turned (t':=s.toks) (λ b o hb e=>(sb.2 b hb).trans e) f0 f1 f3 f4 f5;obtain⟨o,e,c,d⟩:=id st';exact%[u,O|tL (s:={ s with heap:=h' }) e c d ∅ %[x,H,I1,ru,%[O|λ ys hy=>by rw[I.list_inj hy hq];exact hx],st'|λ b hb=>(hf b hb).1]]
 done:=by intro X hP hw hK hc i PR s σ H E I hf st hg;subst hP hw hK;obtain⟨xs,hq,hx⟩:=hg;obtain⟨its,rv,p,hz⟩:=I.list hq;obtain⟨f0,f1,f2,f3,f4,f5⟩:=hf it (by simp);have hl:=rv.length;exact wpAny_pyNext_list_end (I.ok.hd hc) st p.isList (by simp;omega) λ h' eb=>%[O|I.turned (t':=s.toks) (λ b o hb e=>eb b o hb e) f0 f1 f3 f4 f5]
 self:=λ _ _ _ _ _ st h=>wpAny_pyIter_listiter st h
theorem mW{P:F7}{w:F9}{K:C5}{tg:Expr}(a it:PK):Turn P w K tg (Itt K a) [it] it (λ i h=>h.IsTupleIter it a i) where
 mem:=by simp
 obj:=λ i h st b hb=>by
  have e:b=it:=by simpa using hb
  subst e;obtain⟨o,e,c,d⟩:=st;exact%[o,e|λ v z=>by rw[d]at z;cases z]
 keep:=λ i h h' st k=>st.at λ o e=>k it (by simp) o e
 item:=by intro X hP hw hK hc i PR s σ H E I hf st hg;subst hP hw hK;obtain⟨xs,x,hq,hx⟩:=hg;obtain⟨its,rv,p,hz⟩:=I.tuple hq;obtain⟨u,hu,ru⟩:=rv.get hx;obtain⟨f0,f1,f2,f3,f4,f5⟩:=hf it (by simp);show wpAny_pyNext_tuple_item st (show s.heap.IsTuple a its.toArray from p) (x:=u) (by simpa using hu) λ h' st' sb=>?_;have I1:Inv X PR σ H { s with heap:=h' }:=I.turned (t':=s.toks) (λ b o hb e=>(sb.2 b hb).trans e) f0 f1 f3 f4 f5;obtain⟨o,e,c,d⟩:=id st';exact%[u,O|tL (s:={ s with heap:=h' }) e c d ∅ %[x,H,I1,ru,%[O|λ ys hy=>by rw[I.tuple_inj hy hq];exact hx],st'|λ b hb=>(hf b hb).1]]
 done:=by intro X hP hw hK hc i PR s σ H E I hf st hg;subst hP hw hK;obtain⟨xs,hq,hx⟩:=hg;obtain⟨its,rv,p,hz⟩:=I.tuple hq;obtain⟨f0,f1,f2,f3,f4,f5⟩:=hf it (by simp);have hl:=rv.length;exact wpAny_pyNext_tuple_end (I.ok.hd hc) st (show s.heap.IsTuple a its.toArray from p) (by simp;omega) λ h' eb=>%[O|I.turned (t':=s.toks) (λ b o hb e=>eb b o hb e) f0 f1 f3 f4 f5]
 self:=λ _ _ _ _ _ st h=>wpAny_pyIter_tupleiter st h
theorem mX{P:F7}{w:F9}{K:C5}{tg:Expr}(it:PK)(lo:Int)(n:Nat):Turn P w K tg (Itr lo n) [it] it (λ i h=>IsRangeIter h it (lo+(i:Nat) * 1) ((n:Int) - (i:Nat)) 1) where
 mem:=by simp
 obj:=λ i h st b hb=>by
  have e:b=it:=by simpa using hb
  subst e;exact⟨_,st,λ v z=>by
   have z':Data.fields _=Data.cell v:=z;cases z'⟩
 keep:=λ i h h' st k=>k it (by simp) _ st
 item:=by intro X hP hw hK hc i PR s σ H E I hf st hg;subst hP hw hK;obtain⟨f0,f1,f2,f3,f4,f5⟩:=hf it (by simp);have W:=Walks.range (prog:=X.prog) (w:=X.w) (I.ok.hd hc) it lo 1 n;show W.item i s _ _ hg st λ v h' tk hv st' kk=>?_;obtain⟨t,rfl⟩:=hv;have I1:Inv X PR σ H { s with heap:=h',toks:=tk }:=I.turned (λ b o hb e=>kk b o (by simpa using hb) e) f0 f1 f3 f4 f5;show%[_,O|tL (s:={ s with heap:=h',toks:=tk }) (n := "range_iterator") st' rfl rfl ∅ %[.int (lo+i),H,I1,%[t|?_],%[O|O],st'|λ b hb=>(hf b hb).1]];rw[Int.mul_one]
 done:=by intro X hP hw hK hc i PR s σ H E I hf st hg;subst hP hw hK;obtain⟨f0,f1,f2,f3,f4,f5⟩:=hf it (by simp);exact wpAny_pyNext_range_end (I.ok.hd hc) st (by have:n<=i:=hg;omega) λ h' eb=>%[O|I.turned (t':=s.toks) (λ b o hb e=>eb b o hb e) f0 f1 f3 f4 f5]
 self:=λ _ _ _ _ _ st h=>wpAny_pyIter_rangeiter st h
section
variable{X:Cx}{tg:Expr}
inductive iListA(K:C5)(R:It->Hp->Prop)(x:V)(H1:Hp):Prop
|mk(a:PK)(_:x=.ref a)(_:(∃xs,SqL K H1 a xs))(_:R (Itl K a) H1)
def yC(K:C5)(tl:TE):TI:=λ σ H R=>tl σ H λ x H1=>iListA K R x H1
inductive iTupA(K:C5)(R:It->Hp->Prop)(x:V)(H1:Hp):Prop
|mk(a:PK)(_:x=.ref a)(_:(∃xs,SqT K H1 a xs))(_:R (Itt K a) H1)
def AI(K:C5)(tl:TE):TI:=λ σ H R=>tl σ H λ x H1=>iTupA K R x H1
theorem bU{l:Expr}{tl:TE}(hl:PE X l tl):PI X tg l (yC X.K tl):=by
 intro PR s σ H R I h;show thn (hl PR s σ H _ I h) ?_;rintro v s1 ⟨x,H1,I1,r1,q1⟩;obtain⟨a,e,⟨xs,hq⟩,q⟩:=q1;subst e;cases r1;obtain⟨its,rv,p,hz⟩:=I1.list hq;show wpAny_pyIter_list p.isList ?_;show%[s1.heap.objs.size,[s1.heap.objs.size],_,_,H1,O,I1.kept (t':=s1.toks) λ b o e=>A7 _ e,pW a _,%[_,A8 _ rfl,O|O],λ b hb=>?_|q];have e:b=s1.heap.objs.size:=by simpa using hb
 subst e;exact I1.fpOk (B3 _) (I1.hok.fresh (B3 _))
theorem fJ{l:Expr}{tl:TE}(hl:PE X l tl):PI X tg l (AI X.K tl):=by
 intro PR s σ H R I h;show thn (hl PR s σ H _ I h) ?_;rintro v s1 ⟨x,H1,I1,r1,q1⟩;obtain⟨a,e,⟨xs,hq⟩,q⟩:=q1;subst e;cases r1;obtain⟨its,rv,p,hz⟩:=I1.tuple hq;show wpAny_pyIter_tuple (show s1.heap.IsTuple a its.toArray from p) ?_;show%[s1.heap.objs.size,[s1.heap.objs.size],_,_,H1,O,I1.kept (t':=s1.toks) λ b o e=>A7 _ e,mW a _,%[_,A8 _ rfl,O|O],λ b hb=>?_|q];have e:b=s1.heap.objs.size:=by simpa using hb
 subst e;exact I1.fpOk (B3 _) (I1.hok.fresh (B3 _))
theorem lN{PR:RC}{σ:St}{H:Hp}{s:F6}{R:It->Hp->Prop}{E:G0->F6->Prop}{lo hi:Int}{t u v:Tok}{tk:Nat}(I:Inv X PR σ H s)(h1:-(2 ^ 62)<=lo)(h2:lo < 2 ^ 62)(h3:-(2 ^ 62)<=hi)(h4:hi < 2 ^ 62)
  (q:R (Itr lo (hi - lo).toNat) H):wpAny (model X.prog X.w) X.A (pyIter (.ref s.heap.objs.size)) (PIE X PR σ tg R) E { s with heap:=s.heap.push { cls:=.type "range",data:=.fields #[.int lo t,.int hi u,.int 1 v] },toks:=tk }:=by
 show wpAny_pyIter_range (IsRange.new ..) (small_one h1 h2 h3 h4) ?_;have I1:Inv X PR σ H { s with heap:=s.heap.push { cls:=.type "range",data:=.fields #[.int lo t,.int hi u,.int 1 v] },toks:=tk }:=I.kept λ b o e=>A7 _ e;show⟨(s.heap.push { cls:=.type "range",data:=.fields #[.int lo t,.int hi u,.int 1 v] }).objs.size,[(s.heap.push { cls:=.type "range",data:=.fields #[.int lo t,.int hi u,.int 1 v] }).objs.size],_,_,H,O,
  I1.kept (t':=tk) λ b o e=>A7 _ e,mX _ lo (hi - lo).toNat,?_,λ b hb=>?_,q⟩
 ·have e1:lo+((0:Nat):Int) * 1=lo:=by simp
  have e2:(((hi - lo).toNat:Nat):Int) - ((0:Nat):Int)=Builtin.Range.rangeSize lo hi 1:=by rw[rangeSize_one];split <;> omega
  change IsRangeIter _ _ (lo+((0:Nat):Int) * 1) ((((hi - lo).toNat:Nat):Int) - ((0:Nat):Int)) 1;rw[e1,e2];exact A8 _ rfl
 ·have e:b=(s.heap.push { cls:=.type "range",data:=.fields #[.int lo t,.int hi u,.int 1 v] }).objs.size:=by simpa using hb
  subst e;exact I1.fpOk (B3 _) (I1.hok.fresh (B3 _))
def AJ(ta:TA):TI:=λ σ H R=>ta σ H λ vs H1=>∃j:Int,vs=[.int j]/\-(2 ^ 62)<=j/\j < 2 ^ 62/\R (Itr 0 j.toNat) H1
def AK(ta:TA):TI:=λ σ H R=>ta σ H λ vs H1=>∃i j:Int,vs=[.int i,.int j]/\(-(2 ^ 62)<=i/\i < 2 ^ 62/\-(2 ^ 62)<=j/\j < 2 ^ 62)/\R (Itr i (j - i).toNat) H1
theorem jz{a:Expr}{ta:TA}{p pos:Pos}(hg:Gl X "range")(hm:X.mg "range" = none)(ha:PA X [a] ta)(hs:starEach [a] X.env=[(false,eval a X.env)]:=by rfl):PI X tg (.Call (.Name "range" p) [a] [] pos) (AJ ta):=by
 intro PR s σ H R I h;show Call_ (fI I hg hm boot_range (Pt (thn (ha pos PR s σ H _ I h) ?_) hs rfl));rintro us s1 ⟨vs,H1,I1,r1,q1⟩;obtain⟨j,e,q1,q2,q⟩:=q1;subst e;cases r1 with
 | cons r rr=>
  cases rr;obtain⟨t,rfl⟩:=r;exact call_range_1 (lN I1 ⋯ ⋯ q1 q2 (by simpa using q))
theorem pX{a b:Expr}{ta:TA}{p pos:Pos}(hg:Gl X "range")(hm:X.mg "range" = none)(ha:PA X [a,b] ta)(hs:starEach [a,b] X.env=[(false,eval a X.env),(false,eval b X.env)]:=by rfl)(hs2:starEach [b] X.env=[(false,eval b X.env)]:=by rfl) :
  PI X tg (.Call (.Name "range" p) [a,b] [] pos) (AK ta):=by
 intro PR s σ H R I h;show Call_ (fI I hg hm boot_range (Pt (thn (ha pos PR s σ H _ I h) ?_) (by rw[hs,hs2]) (by rw[hs2];rfl)));rintro us s1 ⟨vs,H1,I1,r1,q1⟩;obtain⟨i,j,e,⟨q1,q2,q3,q4⟩,q⟩:=q1;subst e;cases r1 with
 | cons r rr=>
  cases rr with
  | cons r' rr=>
   cases rr;obtain⟨t,rfl⟩:=r;obtain⟨t',rfl⟩:=r';exact call_range_2 (lN I1 q1 q2 q3 q4 q)
def AL(wi:TI)(g:TG)(tb:TS):TS:=λ D σ H=>wi σ H λ J H1=>∃W:Nat->Nat->St->Hp->Prop,(∃m,W 0 m σ H1)/\∀i m σ H,W i m σ H ->
 (J.stop i H/\D.nx σ H)\/(J.go i H/\∃N:St->Hp->Prop,(∀σ' H',N σ' H'->∃m',m' < m/\W (i+1) m' σ' H')/\∀x H',J.yld i H x H'->g x σ H' λ σ2 H2=>tb { D with nx:=N,ct:=N,bk:=D.nx } σ2 H2)
def fK(fp:PP PK)(h:Heap):RC:=fp.filterMap λ b=>(h.get? b).map λ o=>(b,o)
theorem fL{fp:PP PK}{h:Heap}{b:PK}{o:Obj}(hb:b∈fp)(e:h.get? b=some o):(b,o)∈fK fp h:=O0.mpr %[b,hb|by rw[e];rfl]
theorem jA{fp:PP PK}{h:Heap}{p:PK×Obj}(hp:p∈fK fp h):p.1∈fp/\h.get? p.1=some p.2:=by
 obtain⟨b,hb,e⟩:=O0.mp hp;cases q:h.get? b with
 | none=>rw[q]at e;cases e
 | some o=>
  rw[q]at e;have e':(b,o)=p:=B8 e;subst e';exact%[hb|q]
theorem Inv.pinned{PR:RC}{σ:St}{H:Hp}{s:F6}{fp:PP PK}(I:Inv X PR σ H s)(hf:∀b∈fp,FpOk X PR H b)(ho:∀b∈fp,∃o,s.heap.get? b=some o/\∀v,o.data≠.cell v):Inv X (PR ++ fK fp s.heap) σ H s :=
 I.pins_of λ p hp=>(C3.mp hp).elim (λ z=>I.pin p (A5 _ z)) λ z=>by obtain⟨hb,e⟩:=jA z;obtain⟨f0,f1,f2,_⟩:=hf p.1 hb;obtain⟨o,e',d⟩:=ho p.1 hb;rw[e]at e';cases e';exact%[e,f0,f1,f2|d]
theorem Inv.unpinned{PR pl:RC}{σ:St}{H:Hp}{s:F6}(I:Inv X (PR ++ pl) σ H s):Inv X PR σ H s:=I.pins_of λ p hp=>I.pin p (A5 _ (B6 _ hp))
theorem cP{iter:Expr}{body:PP Stmt}{wi:TI}{g:TG}{tb:TS}{pos:Pos}(hp:PassesOwn (model X.prog X.w) X.A X.env X.xe)(hc:X.calm=true)(hi:PI X tg iter wi)(hg:PG X tg g)(hb:PSs X body tb)
  (hs:∀x,foldedSetIterable iter X.env x=pure x:=by intro _;rfl):PS X (.For tg iter body [] pos) (AL wi g tb):=by
 intro PR s σ H D I h;show wpAny_For (thn (hi PR s σ H _ I h) λ v s1 h1=>thn h1 λ itv s2 h2=>?_) hs;obtain⟨it,fp,tn,J,H2,e,I2,T,st2,f2,W,⟨m0,w0⟩,turn⟩:=h2;subst e;have stat:∀{H':Hp},(∀b∈fp,H' b=none)->∀b∈fp,FpOk X PR H' b:=λ hn b hb=>%[hn b hb|(f2 b hb).2]
 show codeAny_forLoop_any (λ n s'=>∃i σ' H',Inv X PR σ' H' s'/\tn i s'.heap/\(∀b∈fp,H' b=none)/\W i n σ' H') ?_ m0 %[0,σ,H2,I2,st2,λ b hb=>(f2 b hb).1|w0];rintro n s3 ⟨i,σ3,H3,I3,st3,fr3,w3⟩;rcases turn i n σ3 H3 w3 with⟨stop,qn⟩ | ⟨go,N,hN,step⟩
 ·show P2 hp (thn (T.done X rfl rfl rfl hc i PR s3 σ3 H3 X.xe I3 (stat fr3) st3 stop) ?_);rintro r s4 ⟨hr,I4⟩;subst hr;exact P7 %[σ3,H3,I4|qn]
 ·show P2 hp (thn (T.item X rfl rfl rfl hc i PR s3 σ3 H3 X.xe I3 (stat fr3) st3 go) ?_);rintro r s4 ⟨u,hr,h4⟩;subst hr;show P2 hp (thn h4 ?_);rintro _ s5 ⟨x,H5,I5,r5,y5,st5,fr5⟩;have I5':=I5.pinned (stat fr5) (T.obj _ _ st5);show P2 hp (thn (hg _ s5 σ3 H5 x u _ I5' r5 (step x H5 y5)) ?_);rintro _ s6 ⟨σ6,H6,I6,q6⟩;show P2 hp (thn (hb _ s6 σ6 H6 _ I6 q6) λ f s7 q7=>?_);have again:∀{σ7:St}{H7:Hp},Inv X (PR ++ fK fp s5.heap) σ7 H7 s7->N σ7 H7->∃m,m < n/\∃i σ' H',Inv X PR σ' H' s7/\tn i s7.heap/\(∀b∈fp,H' b=none)/\W i m σ' H':=λ {σ7 H7} I7 n7=>by obtain⟨m',hm,w7⟩:=hN σ7 H7 n7;show%[m',hm,i+1,σ7,H7,I7.unpinned,T.keep _ _ _ st5 λ b hb o e=>(I7.pin (b,o) (A5 _ (A5 _ (fL hb e)))).1,λ b hb=>?_|w7];obtain⟨o,e,d⟩:=T.obj _ _ st5 b hb;exact(I7.pin (b,o) (A5 _ (A5 _ (fL hb e)))).2.1
  cases f with
  | next=>obtain⟨σ7,H7,I7,n7⟩:=q7;exact again I7 n7
  | cont=>obtain⟨σ7,H7,I7,n7⟩:=q7;exact again I7 n7
  | brk=>obtain⟨σ7,H7,I7,q7⟩:=q7;exact%[σ7,H7,I7.unpinned|q7]
  | ret v=>obtain⟨x7,σ7,H7,I7,r7,q7⟩:=q7;exact%[x7,σ7,H7,I7.unpinned,r7|q7]
end
theorem dq{K:C5}{a:PK}{xs:PP V}{g:TG}{tb:TS}{D:Ends}{σ:St}{H:Hp}(Pv:Nat->St->Hp->Prop)(h0:Pv 0 σ H)(hl:∀i σ H,i<=xs.length->Pv i σ H->SqL K H a xs)
  (hs:∀i x σ H,xs[i]?=some x->Pv i σ H->g x σ H λ σ2 H2=>tb { D with nx:=Pv (i+1),ct:=Pv (i+1),bk:=D.nx } σ2 H2) (hd:∀σ H,Pv xs.length σ H->D.nx σ H) :
  ∃W:Nat->Nat->St->Hp->Prop,(∃m,W 0 m σ H)/\∀i m σ H,W i m σ H ->
   ((Itl K a).stop i H/\D.nx σ H)\/((Itl K a).go i H/\∃N:St->Hp->Prop,(∀σ' H',N σ' H'->∃m',m' < m/\W (i+1) m' σ' H')/\∀x H',(Itl K a).yld i H x H'->g x σ H' λ σ2 H2=>tb { D with nx:=N,ct:=N,bk:=D.nx } σ2 H2):=by
 show%[λ i m σ H=>m=xs.length - i/\i<=xs.length/\Pv i σ H,%[xs.length,by simp,E8 _|h0]|?_];rintro i m σ H ⟨rfl,hi,p⟩;have q:=hl i σ H hi p
 by_cases hlt:i < xs.length
 ·show .inr %[%[xs,xs[i],q|by simp[hlt]],Pv (i+1),λ σ' H' p'=>%[xs.length - (i+1),⋯,O,hlt|p']|λ x H' y=>?_];obtain⟨e,y⟩:=y;subst e;exact hs i x σ _ (y xs q) p
 ·have e:i=xs.length:=⋯
  subst e;exact .inl %[%[xs,q|B3 _]|hd σ H p]
theorem ib{K:C5}{a:PK}{xs:PP V}{g:TG}{tb:TS}{D:Ends}{σ:St}{H:Hp}(Pv:Nat->St->Hp->Prop)(h0:Pv 0 σ H)(hl:∀i σ H,i<=xs.length->Pv i σ H->SqT K H a xs)
  (hs:∀i x σ H,xs[i]?=some x->Pv i σ H->g x σ H λ σ2 H2=>tb { D with nx:=Pv (i+1),ct:=Pv (i+1),bk:=D.nx } σ2 H2) (hd:∀σ H,Pv xs.length σ H->D.nx σ H) :
  ∃W:Nat->Nat->St->Hp->Prop,(∃m,W 0 m σ H)/\∀i m σ H,W i m σ H ->
   ((Itt K a).stop i H/\D.nx σ H)\/((Itt K a).go i H/\∃N:St->Hp->Prop,(∀σ' H',N σ' H'->∃m',m' < m/\W (i+1) m' σ' H')/\∀x H',(Itt K a).yld i H x H'->g x σ H' λ σ2 H2=>tb { D with nx:=N,ct:=N,bk:=D.nx } σ2 H2):=by
 show%[λ i m σ H=>m=xs.length - i/\i<=xs.length/\Pv i σ H,%[xs.length,by simp,E8 _|h0]|?_];rintro i m σ H ⟨rfl,hi,p⟩;have q:=hl i σ H hi p
 by_cases hlt:i < xs.length
 ·show .inr %[%[xs,xs[i],q|by simp[hlt]],Pv (i+1),λ σ' H' p'=>%[xs.length - (i+1),⋯,O,hlt|p']|λ x H' y=>?_];obtain⟨e,y⟩:=y;subst e;exact hs i x σ _ (y xs q) p
 ·have e:i=xs.length:=⋯
  subst e;exact .inl %[%[xs,q|B3 _]|hd σ H p]
theorem jB{lo:Int}{n:Nat}{g:TG}{tb:TS}{D:Ends}{σ:St}{H:Hp}(Pv:Nat->St->Hp->Prop)(h0:Pv 0 σ H)
  (hs:∀i σ H,i < n->Pv i σ H->g (.int (lo+i)) σ H λ σ2 H2=>tb { D with nx:=Pv (i+1),ct:=Pv (i+1),bk:=D.nx } σ2 H2) (hd:∀σ H,Pv n σ H->D.nx σ H) :
  ∃W:Nat->Nat->St->Hp->Prop,(∃m,W 0 m σ H)/\∀i m σ H,W i m σ H ->
   ((Itr lo n).stop i H/\D.nx σ H)\/((Itr lo n).go i H/\∃N:St->Hp->Prop,(∀σ' H',N σ' H'->∃m',m' < m/\W (i+1) m' σ' H')/\∀x H',(Itr lo n).yld i H x H'->g x σ H' λ σ2 H2=>tb { D with nx:=N,ct:=N,bk:=D.nx } σ2 H2):=by
 show%[λ i m σ H=>m=n - i/\i<=n/\Pv i σ H,%[n,by simp,E8 _|h0]|?_];rintro i m σ H ⟨rfl,hi,p⟩
 by_cases hlt:i < n
 ·show .inr %[hlt,Pv (i+1),λ σ' H' p'=>%[n - (i+1),⋯,O,hlt|p']|λ x H' y=>?_];obtain⟨e,y⟩:=y;subst e y;exact hs i σ _ hlt p
 ·have e:i=n:=⋯
  subst e;exact .inl %[B3 _|hd σ H p]
abbrev R2:=V->V->Hp->VK->Prop
def OpR(X:Cx)(f:G0->G0->Sem G0)(r:R2):Prop :=
 ∀(PR:RC)(s:F6)(σ:St)(H:Hp)(x y:V)(v u:G0)(Q:VK),Inv X PR σ H s->RelV x v->RelV y u->r x y H Q ->
  wpAny (model X.prog X.w) X.A (f v u) (EP X PR σ Q) X.xe s
def UnR(X:Cx)(f:G0->Sem G0)(r:V->Hp->VK->Prop):Prop :=
 ∀(PR:RC)(s:F6)(σ:St)(H:Hp)(x:V)(v:G0)(Q:VK),Inv X PR σ H s->RelV x v->r x H Q ->
  wpAny (model X.prog X.w) X.A (f v) (EP X PR σ Q) X.xe s
def cU(X:Cx)(f:G0)(r:PP V->Hp->VK->Prop):Prop :=
 ∀(PR:RC)(s:F6)(σ:St)(H:Hp)(xs:PP V)(us:PP G0)(Q:VK),Inv X PR σ H s->Vals xs us->r xs H Q ->
  wpAny (model X.prog X.w) X.A (call f us) (EP X PR σ Q) X.xe s
def LD(X:Cx)(r:V->Hp->(Bool->Hp->Prop)->Prop):Prop :=
 ∀(PR:RC)(s:F6)(σ:St)(H:Hp)(x:V)(v:G0)(Q:Bool->Hp->Prop),Inv X PR σ H s->RelV x v->r x H Q ->
  wpAny (model X.prog X.w) X.A (truthy v) (TP X PR σ Q) X.xe s
def tOp(r:R2)(ta tb:TE):TE:=λ σ H Q=>ta σ H λ x H1=>tb σ H1 λ y H2=>r x y H2 Q
def tUn(r:V->Hp->VK->Prop)(ta:TE):TE:=λ σ H Q=>ta σ H λ x H1=>r x H1 Q
inductive rI(C:Int->Int->Prop)(g:Int->Int->V)(x:V)(y:V)(H:Hp)(Q:VK):Prop
|mk(i j:Int)(_:x=.int i)(_:y=.int j)(_:C i j)(_:Q (g i j) H)
inductive rI0(g:Int->Int->V)(x:V)(y:V)(H:Hp)(Q:VK):Prop
|mk(i j:Int)(_:x=.int i)(_:y=.int j)(_:Q (g i j) H)
def rU(g:Int->V):V->Hp->VK->Prop:=λ x H Q=>∃i,x=.int i/\Q (g i) H
section
variable{X:Cx}{a b c:Expr}{ta tb tc:TE}{pos:Pos}
theorem za(ha:PE X a ta)(hb:PE X b tb){PR:RC}{s:F6}{σ:St}{H:Hp}{R:V->V->Hp->Prop}(I:Inv X PR σ H s)
  (h:ta σ H λ x H1=>tb σ H1 λ y H2=>R x y H2) {Q:G0->F6->Prop} {f:G0->G0->Sem G0}
  (hf:∀v u s2 x y H2,Inv X PR σ H2 s2->RelV x v->RelV y u->R x y H2->wpAny (model X.prog X.w) X.A (f v u) Q X.xe s2) :
  wpAny (model X.prog X.w) X.A (eval a X.env) (λ v s₁=>wpAny (model X.prog X.w) X.A (eval b X.env) (λ u s₂=>wpAny (model X.prog X.w) X.A (f v u) Q X.xe s₂) X.xe s₁) X.xe s:=by
 show thn (ha PR s σ H _ I h) ?_;rintro v s1 ⟨x,H1,I1,r1,q1⟩;show thn (hb PR s1 σ H1 _ I1 q1) ?_;rintro u s2 ⟨y,H2,I2,r2,q2⟩;exact hf v u s2 x y H2 I2 r1 r2 q2
theorem aF{op:Operator}{r:R2}(ho:OpR X (binaryOp op) r)(ha:PE X a ta)(hb:PE X b tb):PE X (.BinOp a op b pos) (tOp r ta tb):=by intro PR s σ H Q I h;exact wpAny_BinOp (za ha hb I h λ v u s2 x y H2 I2 rx ry q=>ho PR s2 σ H2 x y v u Q I2 rx ry q)
theorem jC{op:UnaryOp}{r:V->Hp->VK->Prop}(ho:UnR X (unaryOp op) r)(ha:PE X a ta):PE X (.UnaryOp op a pos) (tUn r ta):=by intro PR s σ H Q I h;exact UnaryOp_ (thn (ha PR s σ H _ I h) λ v s1 %[x,H1,I1,r1|q1]=>ho PR s1 σ H1 x v Q I1 r1 q1)
theorem opI{f:G0->G0->Sem G0}{C:Int->Int->Prop}{g:Int->Int->Int}
  (rule:∀(i j:Int)(t u:Tok)(s:F6)(Q E:G0->F6->Prop),C i j->Q (.int (g i j) s.toks) { s with toks:=s.toks+1 }->wpAny (model X.prog X.w) X.A (f (.int i t) (.int j u)) Q E s) :
  OpR X f (rI C λ i j=>.int (g i j)):=by
 intro PR s σ H x y v u Q I rx ry h;obtain⟨i,j,rfl,rfl,hc,q⟩:=h;obtain⟨t,rfl⟩:=rx;obtain⟨t',rfl⟩:=ry;exact rule i j t t' s _ _ hc %[.int (g i j),H,I.tok _,%[_|rfl]|q]
theorem AM{f:G0->G0->Sem G0}{g:Int->Int->Int}
  (rule:∀(i j:Int)(t u:Tok)(s:F6)(Q E:G0->F6->Prop),Q (.int (g i j) s.toks) { s with toks:=s.toks+1 }->wpAny (model X.prog X.w) X.A (f (.int i t) (.int j u)) Q E s) :
  OpR X f (rI0 λ i j=>.int (g i j)):=by
 intro PR s σ H x y v u Q I rx ry h;obtain⟨i,j,rfl,rfl,q⟩:=h;obtain⟨t,rfl⟩:=rx;obtain⟨t',rfl⟩:=ry;exact rule i j t t' s _ _ %[.int (g i j),H,I.tok _,%[_|rfl]|q]
theorem wF{f:G0->G0->Sem G0}{g:Int->Int->Bool}
  (rule:∀(i j:Int)(t u:Tok)(s:F6)(Q E:G0->F6->Prop),Q (.bool (g i j)) s->wpAny (model X.prog X.w) X.A (f (.int i t) (.int j u)) Q E s) :
  OpR X f (rI0 λ i j=>.bl (g i j)):=by
 intro PR s σ H x y v u Q I rx ry h;obtain⟨i,j,rfl,rfl,q⟩:=h;obtain⟨t,rfl⟩:=rx;obtain⟨t',rfl⟩:=ry;exact rule i j t t' s _ _ %[.bl (g i j),H,I,rfl|q]
def LE(i j:Int):Prop:=0<=j/\j<=1000000/\i.natAbs < 2 ^ 64
def CMul(i j:Int):Prop:=(-(2 ^ 64) < i/\i < 2 ^ 64)\/(-(2 ^ 64) < j/\j < 2 ^ 64)
theorem CMul.ok{i j:Int}(h:CMul i j):IntMulOk i j:=by
 rcases h with⟨h1,h2⟩ | ⟨h1,h2⟩
 ·exact .of_left (intBits_le_64 h1 h2)
 ·exact .of_right (intBits_le_64 h1 h2)
theorem aW:OpR X (binaryOp .Add) (rI0 λ i j=>.int (i+j)):=AM λ _ _ _ _ _ _ _ q=>add_int q
theorem bD:OpR X (binaryOp .Sub) (rI0 λ i j=>.int (i - j)):=AM λ _ _ _ _ _ _ _ q=>sub_int q
theorem gE:OpR X (binaryOp .Mult) (rI CMul λ i j=>.int (i * j)):=opI λ _ _ _ _ _ _ _ hc q=>mul_int q hc.ok
theorem iD:OpR X (binaryOp .Mod) (rI (λ _ j=>0 < j) λ i j=>.int (i % j)):=opI λ i j _ _ _ _ _ hc q=>by have h1:(0:Int) < j:=hc;exact mod_int' ⋯ (by rw[Int.fmod_eq_emod_of_nonneg i ⋯];exact q)
theorem fM:OpR X (binaryOp .Pow) (rI LE λ i j=>.int (i ^ j.toNat)):=opI λ _ _ _ _ _ _ _ hc q=>pow_int_small hc.1 hc.2.1 hc.2.2 q
theorem unI{f:G0->Sem G0}{g:Int->Int}
  (rule:∀(i:Int)(t:Tok)(s:F6)(Q E:G0->F6->Prop),Q (.int (g i) s.toks) { s with toks:=s.toks+1 }->wpAny (model X.prog X.w) X.A (f (.int i t)) Q E s) :
  UnR X f (rU λ i=>.int (g i)):=by
 intro PR s σ H x v Q I rx h;obtain⟨i,rfl,q⟩:=h;obtain⟨t,rfl⟩:=rx;exact rule i t s _ _ %[.int (g i),H,I.tok _,%[_|rfl]|q]
theorem gF:UnR X (unaryOp .USub) (rU λ i=>.int (-i)):=unI λ _ _ _ _ _ q=>neg_int q
end
def AN:V->V->Bool
 | .non,.non=>true | .non,.int _=>true | .int _,.non=>true | .non,.bl _=>true | .bl _,.non=>true | .non,.str _=>true | .str _,.non=>true
 | .int _,.int _=>true | .bl _,.bl _=>true | .str _,.str _=>true
 | .int _,.str _=>true | .str _,.int _=>true | .bl _,.str _=>true | .str _,.bl _=>true
 | _,_=>false
def rEq:R2:=λ x y H Q=>AN x y=true/\Q (.bl (decide (x=y))) H
def rNe:R2:=λ x y H Q=>AN x y=true/\Q (.bl (!decide (x=y))) H
theorem kC{i j:Int}:decide (V.int i=V.int j)=(i == j):=by rw[Bool.eq_iff_iff];simp
theorem tM{i j:Bool}:decide (V.bl i=V.bl j)=(i == j):=by rw[Bool.eq_iff_iff];simp
theorem oM{i j:Str}:decide (V.str i=V.str j)=(i == j):=by rw[Bool.eq_iff_iff];simp
section
variable{X:Cx}{a b c:Expr}{ta tb tc:TE}{pos:Pos}
theorem bo{PR:RC}{σ:St}{H:Hp}{s:F6}{Q:VK}{k k':Bool}(I:Inv X PR σ H s)(q:Q (.bl k) H)(e:k=k'):EP X PR σ Q (.bool k') s:=by subst e;exact%[.bl k,H,I,O|q]
theorem bC:OpR X (compareOp .Eq) rEq:=by
 intro PR s σ H x y v u Q I rx ry h;obtain⟨hs,q⟩:=h;cases x with
 | non=>
  cases rx;cases y with
  | non=>cases ry;exact PySem.EqNone.eq_none_none (bo I q (by simp))
  | bl j=>cases ry;exact PySem.EqNone.eq_none_bool (bo I q (by simp))
  | int j=>obtain⟨t',rfl⟩:=ry;exact PySem.EqNone.eq_none_int (bo I q (by simp))
  | str j=>obtain⟨t',rfl⟩:=ry;exact PySem.EqNone.eq_none_str (bo I q (by simp))
  | _=>exact absurd (show false=true from hs) B2
 | bl i=>
  cases rx;cases y with
  | non=>cases ry;exact PySem.EqNone.eq_bool_none (bo I q (by simp))
  | bl j=>cases ry;exact eq_bool (bo I q tM)
  | str j=>obtain⟨t',rfl⟩:=ry;exact PySem.EqMixed.eq_bool_str (bo I q (by simp))
  | _=>exact absurd (show false=true from hs) B2
 | int i=>
  obtain⟨t,rfl⟩:=rx;cases y with
  | non=>cases ry;exact PySem.EqNone.eq_int_none (bo I q (by simp))
  | int j=>obtain⟨t',rfl⟩:=ry;exact eq_int (bo I q kC)
  | str j=>obtain⟨t',rfl⟩:=ry;exact PySem.EqMixed.eq_int_str (bo I q (by simp))
  | _=>exact absurd (show false=true from hs) B2
 | str i=>
  obtain⟨t,rfl⟩:=rx;cases y with
  | non=>cases ry;exact PySem.EqNone.eq_str_none (bo I q (by simp))
  | bl j=>cases ry;exact PySem.EqMixed.eq_str_bool (bo I q (by simp))
  | int j=>obtain⟨t',rfl⟩:=ry;exact PySem.EqMixed.eq_str_int (bo I q (by simp))
  | str j=>obtain⟨t',rfl⟩:=ry;exact eq_str (bo I q oM)
  | _=>exact absurd (show false=true from hs) B2
 | _=>cases y <;> exact absurd (show false=true from hs) B2
theorem eQ:OpR X (compareOp .NotEq) rNe:=by
 intro PR s σ H x y v u Q I rx ry h;obtain⟨hs,q⟩:=h;cases x with
 | non=>
  cases rx;cases y with
  | non=>cases ry;exact PySem.EqNone.ne_none_none (bo I q (by simp))
  | bl j=>cases ry;exact PySem.EqNone.ne_none_bool (bo I q (by simp))
  | int j=>obtain⟨t',rfl⟩:=ry;exact PySem.EqNone.ne_none_int (bo I q (by simp))
  | str j=>obtain⟨t',rfl⟩:=ry;exact PySem.EqNone.ne_none_str (bo I q (by simp))
  | _=>exact absurd (show false=true from hs) B2
 | bl i=>
  cases rx;cases y with
  | non=>cases ry;exact PySem.EqNone.ne_bool_none (bo I q (by simp))
  | bl j=>cases ry;exact ne_bool (bo I q (Pw not tM))
  | str j=>obtain⟨t',rfl⟩:=ry;exact PySem.EqMixed.ne_bool_str (bo I q (by simp))
  | _=>exact absurd (show false=true from hs) B2
 | int i=>
  obtain⟨t,rfl⟩:=rx;cases y with
  | non=>cases ry;exact PySem.EqNone.ne_int_none (bo I q (by simp))
  | int j=>obtain⟨t',rfl⟩:=ry;exact ne_int (bo I q (Pw not kC))
  | str j=>obtain⟨t',rfl⟩:=ry;exact PySem.EqMixed.ne_int_str (bo I q (by simp))
  | _=>exact absurd (show false=true from hs) B2
 | str i=>
  obtain⟨t,rfl⟩:=rx;cases y with
  | non=>cases ry;exact PySem.EqNone.ne_str_none (bo I q (by simp))
  | bl j=>cases ry;exact PySem.EqMixed.ne_str_bool (bo I q (by simp))
  | int j=>obtain⟨t',rfl⟩:=ry;exact PySem.EqMixed.ne_str_int (bo I q (by simp))
  | str j=>obtain⟨t',rfl⟩:=ry;exact ne_str (bo I q (Pw not oM))
  | _=>exact absurd (show false=true from hs) B2
 | _=>cases y <;> exact absurd (show false=true from hs) B2
theorem tN:OpR X (compareOp .Lt) (rI0 λ i j=>.bl (decide (i < j))):=wF λ _ _ _ _ _ _ _ q=>lt_int q
theorem gS:OpR X (compareOp .LtE) (rI0 λ i j=>.bl (decide (i<=j))):=wF λ _ _ _ _ _ _ _ q=>le_int q
theorem tO:OpR X (compareOp .Gt) (rI0 λ i j=>.bl (decide (j < i))):=wF λ _ _ _ _ _ _ _ q=>gt_int q
theorem jD:OpR X (compareOp .GtE) (rI0 λ i j=>.bl (decide (j<=i))):=wF λ _ _ _ _ _ _ _ q=>ge_int q
theorem tP:OpR X (compareOp .Is) (λ x y H Q=>y=.non/\Q (.bl (decide (x=.non))) H):=by
 intro PR s σ H x y v u Q I rx ry h;obtain⟨rfl,q⟩:=h;cases ry;show is_none_gen (bo I q ?_);cases x <;> first
  | (cases rx;rfl)
  | (obtain⟨t,rfl⟩:=rx;rfl)
theorem aH(b:Expr){op:CmpOp}(h:op≠.In:=by decide)(h2:op≠.NotIn:=by decide):behindInMarks op b=false:=by
 have e1:(op == CmpOp.In)=false:=by cases op <;> first | rfl | exact absurd rfl h
 have e2:(op == CmpOp.NotIn)=false:=by cases op <;> first | rfl | exact absurd rfl h2
 cases b <;> simp[behindInMarks,e1,e2]
theorem bB{op:CmpOp}{r:R2}(ho:OpR X (compareOp op) r)(ha:PE X a ta)(hb:PE X b tb)(hm:behindInMarks op b=false):PE X (.Compare a [op] [b] pos) (tOp r ta tb):=by intro PR s σ H Q I h;exact wpAny_Compare1 (za ha hb I h λ v u s2 x y H2 I2 rx ry q=>ho PR s2 σ H2 x y v u Q I2 rx ry q) hm
def yD(t:TE):TT:=λ σ H Q=>t σ H λ x H'=>IsB x λ k=>Q k H'
theorem aJ{op:CmpOp}{r:R2}(ho:OpR X (compareOp op) r)(ha:PE X a ta)(hb:PE X b tb)(hm:behindInMarks op b=false):PT X (.Compare a [op] [b] pos) (yD (tOp r ta tb)):=by
 intro PR s σ H Q I h;show wpAny_isTrue_Compare1 (thn (ha PR s σ H _ I h) λ v s1 %[x,H1,I1,r1|q1]=>thn (hb PR s1 σ H1 _ I1 q1) λ u s2 %[y,H2,I2,r2|q2]=>
  thn (ho PR s2 σ H2 x y v u _ I2 r1 r2 q2) λ c s3 %[z,H3,I3,r3,k,e|q3]=>?_) hm
 subst e;cases r3;exact F2 %[H3,I3|q3]
def zb(r r':R2)(ta tb tc:TE):TE:=λ σ H Q=>ta σ H λ x H1=>tb σ H1 λ y H2=>r x y H2 λ z H3=>∃k,z=.bl k /\
 (if k=true then tc σ H3 λ w' H4=>r' y w' H4 Q else Q (.bl false) H3)
theorem tQ{op op':CmpOp}{r r':R2}(ho:OpR X (compareOp op) r)(ho':OpR X (compareOp op') r')(ha:PE X a ta)(hb:PE X b tb)(hc:PE X c tc)
  (hm:lastMarks [op,op'] [b,c]=false:=by with_unfolding_all rfl):PT X (.Compare a [op,op'] [b,c] pos) (yD (zb r r' ta tb tc)):=by
 intro PR s σ H Q I h;show isTrue_chain (thn (ha PR s σ H _ I h) λ v s1 %[x,H1,I1,r1|q1]=>test_link (thn (hb PR s1 σ H1 _ I1 q1) λ u s2 %[y,H2,I2,r2|q2]=>
  thn (ho PR s2 σ H2 x y v u _ I2 r1 r2 q2) λ d s3 %[z,H3,I3,r3,k,e|q3]=>?_)) hm
 subst e;cases r3;show F2 ?_;cases k with
 | false=>
  obtain⟨k',e',q'⟩:=q3;cases e';exact ite_ff %[H3,I3|q']
 | true=>
  show ite_tt (test_last (thn (hc PR s3 σ H3 _ I3 q3) ?_));rintro w' s4 ⟨z',H4,I4,r4,q4⟩;show thn (ho' PR s4 σ H4 y z' u w' _ I4 r2 r4 q4) ?_;rintro d' s5 ⟨z2,H5,I5,r5,k2,e2,q5⟩;subst e2;cases r5;exact F2 %[H5,I5|q5]
def AO(K:C5)(x:V)(H:Hp)(k:Bool):Prop :=
 match x with
 | .non=>k=false
 | .bl b=>k=b
 | .int i=>k=(i != 0)
 | .str y=>y.length<=sizeLine/\k=((y.length:Int) != 0)
 | .ref p=>(∃xs,SqL K H p xs/\k=!xs.isEmpty)\/(∃xs,SqT K H p xs/\k=!xs.isEmpty)\/∃kvs,H p=some (.dK kvs)/\k=!kvs.isEmpty
 | _=>False
theorem mY{κ:Type}{kvs:PP (κ×V)}{vs:PP (κ×G0)}(r:KV kvs vs):(!vs.isEmpty)=!kvs.isEmpty:=by cases r <;> rfl
theorem iE{xs:PP V}{its:PP G0}(r:Vals xs its):(!its.toArray.isEmpty)=!xs.isEmpty:=by cases r <;> simp
theorem fN:(sizeLine:Nat) < 2 ^ 63:=by rw[sizeLine_eq];decide
theorem zc:LD X (λ x H Q=>∃k,AO X.K x H k/\Q k H):=by
 intro PR s σ H x v Q I rx h;obtain⟨k,e,q⟩:=h;have hl:=fN;have hs:sizeLine=16777216:=sizeLine_eq;cases x with
 | non=>
  cases rx;have e':k=false:=e;subst e';exact truthy_none %[H,I|q]
 | bl b=>
  cases rx;have e':k=b:=e;subst e';exact F2 %[H,I|q]
 | int i=>
  obtain⟨t,rfl⟩:=rx;have e':k=(i != 0):=e;subst e';exact PySem.P.truthy_int %[H,I|q]
 | str y=>
  obtain⟨t,rfl⟩:=rx;obtain⟨hy,e'⟩:y.length<=sizeLine/\k=((y.length:Int) != 0):=e;subst e';exact PySem.P.truthy_str ⋯ %[H,I.tok _|q]
 | ref p=>
  cases rx;have e':(∃xs,SqL X.K H p xs/\k=!xs.isEmpty)\/(∃xs,SqT X.K H p xs/\k=!xs.isEmpty)\/∃kvs,H p=some (.dK kvs)/\k=!kvs.isEmpty:=e;rcases e' with⟨xs,hx,e'⟩ | ⟨xs,hx,e'⟩ | ⟨kvs,hx,e'⟩
  ·subst e';obtain⟨its,r,pl,hz⟩:=I.list hx;have PV:=r.length;exact wpAny_truthy_list pl.isList (by simp only[I9];omega) %[H,I.tok _|by rw[iE r];exact q]
  ·subst e';obtain⟨its,r,pl,hz⟩:=I.tuple hx;have PV:=r.length;exact truthy_tuple pl (by simp only[I9];omega) %[H,I.tok _|by rw[iE r];exact q]
  ·subst e';obtain⟨hz,hS,vs,r,m⟩:kvs.length<=sizeLine/\(p == sysModules)=false/\∃vs,KV kvs vs/\s.heap.DictOf (bK X.prog X.w) p vs:=I.hok p _ hx;have PV:kvs.length=vs.length:=E3 r;exact wpAny_truthy_dict hS m ⋯ %[H,I.tok _|by rw[mY r];exact q]
 | _=>exact(show False from e).elim
theorem iF(ha:PE X a ta)(he:∀aX,isTrue a X.env aX=(do let v<-aX;standAt a.pos;holding [v] (truthy v))) :
  PT X a (λ σ H Q=>ta σ H λ x H'=>∃k,AO X.K x H' k/\Q k H'):=by
 intro PR s σ H Q I h;exact isTrue_plain (thn (ha PR s σ H _ I h) λ v s1 %[x,H1,I1,r1|q1]=>zc PR s1 σ H1 x v Q I1 r1 q1) (he _)
theorem dN{x:V}{us:PP G0}(r:Vals [x] us):∃u,us=[u]/\RelV x u:=by
 cases r with
 | cons r1 r2=>cases r2;exact%[_,O|r1]
theorem tR{x y:V}{us:PP G0}(r:Vals [x,y] us):∃u w',us=[u,w']/\RelV x u/\RelV y w':=by
 cases r with
 | cons r1 r2=>
  cases r2 with
  | cons r3 r4=>cases r4;exact%[_,_,O,r1|r3]
inductive rz_call_abs(xs:PP V)(H:Hp)(Q:VK):Prop
|mk(i:_)(_:xs=[.int i])(_:Q (.int (if i < 0 then -i else i)) H)
theorem lO:cU X (.builtin "abs") (rz_call_abs):=by intro PR s σ H xs us Q I r h;obtain⟨i,rfl,q⟩:=h;obtain⟨u,rfl,t,rfl⟩:=dN r;exact call_abs_int λ u tk=>%[.int (if i < 0 then -i else i),H,I.tok _,%[_|O]|q]
inductive rz_call_max2(xs:PP V)(H:Hp)(Q:VK):Prop
|mk(i j:_)(_:xs=[.int i,.int j])(_:Q (.int (if j > i then j else i)) H)
theorem jE(hc:X.calm=true):cU X (.builtin "max") (rz_call_max2):=by
 intro PR s σ H xs us Q I r h;obtain⟨i,j,rfl,q⟩:=h;obtain⟨u,w',rfl,⟨t,rfl⟩,⟨t',rfl⟩⟩:=tR r;show max_two_ints (I.ok.hd hc) λ h' tk k=>%[_,H,I.kept k,?_|q]
 by_cases hj:j > i
 ·rw[Pa hj,Pa hj];exact%[_|O]
 ·rw[PZ hj,PZ hj];exact%[_|O]
inductive rz_call_min2(xs:PP V)(H:Hp)(Q:VK):Prop
|mk(i j:_)(_:xs=[.int i,.int j])(_:Q (.int (if j < i then j else i)) H)
theorem fg(hc:X.calm=true):cU X (.builtin "min") (rz_call_min2):=by
 intro PR s σ H xs us Q I r h;obtain⟨i,j,rfl,q⟩:=h;obtain⟨u,w',rfl,⟨t,rfl⟩,⟨t',rfl⟩⟩:=tR r;show min_two_ints (I.ok.hd hc) λ h' tk k=>%[_,H,I.kept k,?_|q]
 by_cases hj:j < i
 ·rw[Pa hj,Pa hj];exact%[_|O]
 ·rw[PZ hj,PZ hj];exact%[_|O]
theorem cC:cU X (.type "int") (λ xs H Q=>(∃i,xs=[.int i]/\Q (.int i) H)\/∃k,xs=[.bl k]/\Q (.int (if k then 1 else 0)) H):=by
 intro PR s σ H xs us Q I r h;rcases h with⟨i,rfl,q⟩ | ⟨k,rfl,q⟩
 ·obtain⟨u,rfl,t,rfl⟩:=dN r;exact call_int_int %[.int i,H,I,%[_|rfl]|q]
 ·obtain⟨u,rfl,r1⟩:=dN r;cases r1;exact call_int_bool %[.int (if k then 1 else 0),H,I.tok _,%[_|rfl]|q]
end
structure ObjM(h:Heap)(x dx C:PK)(mA:Str->PM Value):Prop where
 obj:h.get? x=some (PySem.W.instObj C dx)
 ns:h.Ns1 dx mA
 ne:dx≠x
theorem pY{h:Heap}{dx:PK}{mA:Str->PM G0}(n:h.Ns1 dx mA):∃od,h.get? dx=some od/\∀name,PySem.W.lookIn name od=some (mA name):=by
 obtain⟨o,es,ep,ho,hd,hk,_,hm⟩:=n;show%[o,ho|λ name=>?_];have e:=hm name;unfold nsFind findBy at e;rw[<- Array.find?_toList]at e;unfold PySem.W.lookIn;rw[hd];dsimp only
 split
 ·rename_i y q
  rw[q]at e;exact Pw some e
 ·rename_i q
  rw[q]at e;have a:es.toList.any (·.refKey)=false:=by rw[List.any_eq_false];intro y hy;obtain⟨z,t,hkey⟩:=hk y (Array.mem_toList_iff.mp hy);simp[DictEntry.refKey,hkey]
  have a':¬ es.toList.any (·.refKey)=true:=by rw[a];exact B2
  rw[PZ a'];exact Pw some e
theorem ObjM.look{h:Heap}{x dx C:PK}{mA:Str->PM G0}(I:ObjM h x dx C mA):∃od,PySem.W.InstAt h x (PySem.W.instObj C dx) C (some od)/\∀name,PySem.W.lookIn name od=some (mA name) :=
 let ⟨od,ho,hl⟩:=pY I.ns
 %[od,%[I.obj,rfl,rfl|ho]|hl]
section
variable{prog:F7}{w:F9}{A:Around}{E:G0->F6->Prop}{s:F6}{K:C5}{x dx C f:PK}{mA:Str->PM G0}{name:Str}{v:G0}
theorem wG{expr:Bool}{Q:G0->F6->Prop}(X:K.In s.heap)(I:ObjM s.heap x dx C mA)(hg:PySem.W.plainGet K C name=true)(hh:PySem.W.hasDictIn K C=true)
  (ha:PySem.W.findIn K (.ref C) name=some none) (hv:mA name=some v) (hv':PySem.W.handedIn v=true) (h:Q v { s with toks:=s.toks+1 }) :
  wpAny (model prog w) A (getAttr (.ref x) name expr) Q E s:=by
 obtain⟨od,J,hl⟩:=I.look;exact PySem.W.get_value X J (PySem.W.plainGet_of hg).1 (PySem.W.findObj_own hh ha rfl (by rw[hl,hv])) hv' h
theorem tS{pl:Sem Bool}{Q:G0×PP G0->F6->Prop}(X:K.In s.heap)(I:ObjM s.heap x dx C mA)(hg:PySem.W.plainGet K C name=true)
  (hf:PySem.W.findIn K (.ref C) name=some (↑f)) (ht:PySem.W.isFn K (.ref f)=true) (hv:mA name=none) (h:Q (.ref f,[.ref x]) s) :
  wpAny (model prog w) A (getMethod (.ref x) name pl) Q E s:=by
 obtain⟨od,J,hl⟩:=I.look;exact PySem.W.method_fn X J (PySem.W.plainGet_of hg).1 (PySem.W.plainGet_of hg).2 hf (C4.mp ht) (by change(PySem.W.lookIn name od).map (·.isSome)=some false;rw[hl,hv];rfl) h
theorem wH{ns:PP Str}{Q:Unit->F6->Prop}(X:K.In s.heap)(I:ObjM s.heap x dx C mA)
  (hs:PySem.W.findIn K (.ref C) "__setattr__" = some (some (.builtin "object.__setattr__"))) (hp:PySem.W.plainOver K C=true) (ht:PySem.W.takerIn K C name=some none) (hh:PySem.W.hasDictIn K C=true)
  (hw:PySem.Within mA ns) (hsz:ns.length<=sizeLine)
  (h:∀h',ObjM h' x dx C (λ y=>if y=name then some v else mA y)->Heap.SameBut dx s.heap h'->Q () { s with heap:=h',toks:=s.toks+2 }) :
  wpAny (model prog w) A (setAttr (.ref x) name v) Q E s:=by
 obtain⟨od,J,hl⟩:=I.look;show PySem.W.set_plain X J hs (PySem.W.osa_open (s:={ s with toks:=s.toks+1 }) (r:=none) X J hp ht λ b=>?_);obtain⟨cd,hc,hd'⟩:=PySem.W.any_some hh;have hx:s.heap.get? x=some %[.ref C,some dx,.plain|#[]]:=I.obj;show A0 (A2 (A0 (A0 (wpAny_loadPart hx (A0 (PySem.W.Looks.here (s:={ s with toks:=s.toks+1 }) (PySem.W.looks_clsIn X hc) ?_))))));rw[hd'];show A2 (a:=some dx) (A0 (A2 (A0 ?_)));show wpAny_nsSet1 (s:={ s with toks:=s.toks+1 }) I.ns λ h' hn2 hs2=>?_;obtain⟨oD,esD,epD,hoD,hdD,hcD⟩:=hn2.count (PySem.Within.cons name v hw);show A0 (wpAny_lookBehind hoD (by rw[hdD];exact pastItsLine_dict (C6 hcD (by rw[List.length_cons];omega))) ?_);exact A2 (h _ %[(hs2.2 _ (Ne.symm I.ne)).trans I.obj,hn2|I.ne] hs2)
theorem tT{R:Result->F6->Prop}{vs:PP G0}{kw:PP (Str×G0)}(X:K.In s.heap)(hm:PySem.W.makesIn K C=true)
  (hi:PySem.W.findIn K (.ref C) "__init__" = some (↑f)) (hf:PySem.W.typeIn K (.ref f)=some (.type "function"))
  (h:codeAny (model prog w) (A.under (.builtin "type.__call__" %[.ref C :: vs|kw])) (.call (.ref f) %[.ref (s.heap.objs.size+1) :: vs|kw]) (PySem.W.InitBack (s.heap.objs.size+1) R)
   { s with heap:=(s.heap.push PySem.W.emptyDict).push (PySem.W.instObj C s.heap.objs.size) }) :
  codeAny (model prog w) A (.call (.ref C) %[vs|kw]) R s:=by
 obtain⟨hh,g,d,t,os⟩:=s;exact PySem.W.make_core (PySem.W.makes_of X hm) (PySem.W.looks_findIn X hi) (λ self=>PySem.W.bind_fn X self hf) (.inl rfl) h
end
def bN(f:Str)(v:V):PP (Str×V)->PP (Str×V)
 | []=>[(f,v)]
 | (g,x) :: r=>if g=f then(g,v) :: r else(g,x) :: bN f v r
theorem br(f g:Str)(v:V):∀fs:PP (Str×V),(bN f v fs).lookup g=if g=f then some v else fs.lookup g
 | []=>by
  change List.lookup g [(f,v)]=_
  by_cases h:g=f
  ·have hb:(g == f)=true:=C4.mpr h;simp only[List.lookup,hb,Pa h]
  ·have hb:(g == f)=false:=Pp.mpr h;simp only[List.lookup,hb,PZ h]
 | (k,x) :: r=>by
  have ih:=br f g v r;rw[show bN f v ((k,x) :: r)=(if k=f then(k,v) :: r else(k,x) :: bN f v r)from rfl]
  by_cases hk:k=f
  ·rw[Pa hk]
   by_cases h:g=k
   ·have hb:(g == k)=true:=C4.mpr h;simp only[List.lookup,hb,Pa (h.trans hk)]
   ·have hb:(g == k)=false:=Pp.mpr h;simp only[List.lookup,hb,PZ (λ e:g=f=>h (e.trans hk.symm))]
  ·rw[PZ hk]
   by_cases h:g=k
   ·have hb:(g == k)=true:=C4.mpr h;simp only[List.lookup,hb,PZ (λ e:g=f=>hk (h.symm.trans e))]
   ·have hb:(g == k)=false:=Pp.mpr h;simp only[List.lookup,hb];exact ih
theorem gH(f:Str)(v:V):∀fs:PP (Str×V),f∈(bN f v fs).map (·.1)/\∀g,g∈fs.map (·.1)->g∈(bN f v fs).map (·.1)
 | []=>%[by simp[bN]|λ g h=>by simp at h]
 | (k,x) :: r=>by
  obtain⟨i1,i2⟩:=gH f v r;rw[show bN f v ((k,x) :: r)=(if k=f then(k,v) :: r else(k,x) :: bN f v r)from rfl]
  by_cases hk:k=f
  ·rw[Pa hk];subst hk;exact%[by simp|λ g h=>by simpa using h]
  ·rw[PZ hk];show%[?_|λ g h=>?_]
   ·rw[J3];exact B4 _ i1
   ·rw[J3]at h ⊢;rcases G7.mp h with e | e
    ·exact G7.mpr (.inl e)
    ·exact B4 _ (i2 g e)
theorem cj(f:Str)(v:V):∀fs:PP (Str×V),(bN f v fs).length<=fs.length+1
 | []=>by simp[bN]
 | (k,x) :: r=>by
  have ih:=cj f v r;rw[show bN f v ((k,x) :: r)=(if k=f then(k,v) :: r else(k,x) :: bN f v r)from rfl]
  by_cases hk:k=f
  ·rw[Pa hk,J0,J0];omega
  ·rw[PZ hk,J0,J0];omega
theorem RelO.some_of{v:V}{o:PM G0}(r:RelO (some v) o):∃u,o=some u/\RelV v u:=by
 cases o with
 | none=>exact(show False from r).elim
 | some u=>exact%[u,O|r]
theorem RelO.none_of{o:PM G0}(r:RelO none o):o=none:=by
 cases o with
 | none=>rfl
 | some u=>exact(show False from r).elim
theorem pZ{v:V}{u:G0}(r:RelV v u):PySem.W.handedIn u=true:=by
 cases v with
 | non=>cases(show u=Value.none from r);rfl
 | bl b=>cases(show u=Value.bool b from r);rfl
 | int i=>obtain⟨t,e⟩:=(show∃t,u=Value.int i t from r);cases e;rfl
 | str x=>obtain⟨t,e⟩:=(show∃t,u=Value.str x t from r);cases e;rfl
 | ref a=>cases(show u=Value.ref a from r);rfl
 | ty n=>cases(show u=Value.type n from r);rfl
section
variable{P:F7}{w:F9}{H H':Hp}{h h':Heap}{a C dx:PK}{fs fs':PP (Str×V)}
theorem gc(hok:HOk P w H h)(e:H a=some (.ins C dx fs)):∃mA,ObjM h a dx C mA/\(∀f,RelO (fs.lookup f) (mA f))/\PySem.Within mA (fs.map (·.1))/\fs.length<=1000/\H dx=some (.own a):=by
 obtain⟨d,z,ne,ob,mA,n,r,q⟩:=(show ObjOk P w H h a (.ins C dx fs)from hok a _ e)
 exact%[mA,%[ob,n|ne],r,q,z|d]
end
structure Cls(K:C5)(C:PK):Prop where
 pg:PySem.W.plainGet K C Str.empty=true
 hd:PySem.W.hasDictIn K C=true
 po:PySem.W.plainOver K C=true
 sa:PySem.W.findIn K (.ref C) "__setattr__" = some (some (.builtin "object.__setattr__"))
theorem Cls.get{K:C5}{C:PK}(c:Cls K C)(f:Str):PySem.W.plainGet K C f=true:=c.pg
def NoAttr(K:C5)(C:PK)(f:Str):Prop:=PySem.W.findIn K (.ref C) f=some none
theorem NoAttr.taker{K:C5}{C:PK}{f:Str}(n:NoAttr K C f):PySem.W.takerIn K C f=some none:=by
 unfold PySem.W.takerIn;rw[show PySem.W.findIn K (.ref C) f=some none from n]
 rfl
structure Meth(K:C5)(C:PK)(m:Str)(f:PK):Prop where
 at_:PySem.W.findIn K (.ref C) m=some (↑f)
 fn:PySem.W.isFn K (.ref f)=true
 kp:PySem.W.keepIn K (.ref f)=true
section
variable{X:Cx}{PR:RC}{σ:St}{H:Hp}{s:F6}{a C dx:PK}{fs:PP (Str×V)}{f:Str}{v:V}{A:Around}{E:G0->F6->Prop}
theorem mZ{b:Bool}{Q:G0->F6->Prop}(I:Inv X PR σ H s)(e:H a=some (.ins C dx fs))(c:Cls X.K C)(n:NoAttr X.K C f)(l:fs.lookup f=some v)
  (h:∀u s',Inv X PR σ H s'->RelV v u->Q u s'):wpAny (model X.prog X.w) A (getAttr (.ref a) f b) Q E s:=by
 obtain⟨mA,OO0,r,_,_,_⟩:=gc I.hok e;obtain⟨u,hu,ru⟩:=RelO.some_of (v:=v) (o:=mA f) (by rw[<- l];exact r f);exact wG I.kIn OO0 (c.get f) c.hd n hu (pZ ru) (h u _ (I.tok _) ru)
theorem fO{m:Str}{g:PK}{pl:Sem Bool}{Q:G0×PP G0->F6->Prop}(I:Inv X PR σ H s)(e:H a=some (.ins C dx fs))(c:Cls X.K C)(k:Meth X.K C m g)(l:fs.lookup m=none)
  (h:Q (.ref g,[.ref a]) s):wpAny (model X.prog X.w) A (getMethod (.ref a) m pl) Q E s:=by
 obtain⟨mA,OO0,r,_,_,_⟩:=gc I.hok e;have hn:mA m=none:=RelO.none_of (by rw[<- l];exact r m);exact tS I.kIn OO0 (c.get m) k.at_ k.fn hn h
theorem ng{y:V}{u:G0}{Q:Unit->F6->Prop}(I:Inv X PR σ H s)(e:H a=some (.ins C dx fs))(c:Cls X.K C)(n:NoAttr X.K C f)(hl:fs.length < 1000)(ry:RelV y u)
  (h:∀s',Inv X PR σ (upd H a (.ins C dx (bN f y fs))) s'->Q () s'):wpAny (model X.prog X.w) A (setAttr (.ref a) f u) Q E s:=by
 obtain⟨mA,OO0,r,wi,_,ho⟩:=gc I.hok e;have hz:(fs.map (·.1)).length<=sizeLine:=by rw[G6,sizeLine_eq];omega
 show wH I.kIn OO0 c.sa c.po n.taker c.hd wi hz λ h' O' sb=>h _ ?_;have hd:∃o,h'.get? dx=some o:=let ⟨o,_,_,e',_⟩:=O'.ns;%[o|e']
 show I.write (x:=a) (e:=dx) (by rw[e];exact True.intro) (.inr ho) (λ b q hb z=>(sb.2 b hb).trans z) hd ?_;show%[by rw[aw OO0.ne];exact ho,?_,OO0.ne,O'.obj,_,O'.ns,λ g=>?_|λ g hg=>?_]
 ·have:=cj f y fs;omega
 ·change RelO ((bN f y fs).lookup g) (if g=f then some u else mA g);rw[br]
  by_cases q:g=f
  ·rw[Pa q,Pa q];exact ry
  ·rw[PZ q,PZ q];exact r g
 ·by_cases q:g=f
  ·rw[q];exact(gH f y fs).1
  ·show(gH f y fs).2 g (wi g λ z=>hg ?_);change(if g=f then some u else mA g)=none;rw[PZ q];exact z
theorem Inv.made(I:Inv X PR σ H s):Inv X PR σ (upd (upd H s.heap.objs.size (.own (s.heap.objs.size+1))) (s.heap.objs.size+1) (.ins C s.heap.objs.size []))
  { s with heap:=(s.heap.push PySem.W.emptyDict).push (PySem.W.instObj C s.heap.objs.size) }:=by
 have e1:(s.heap.push PySem.W.emptyDict).get? s.heap.objs.size=some PySem.W.emptyDict:=A8 s.heap rfl;have e2:((s.heap.push PySem.W.emptyDict).push (PySem.W.instObj C s.heap.objs.size)).get? (s.heap.objs.size+1)=some (PySem.W.instObj C s.heap.objs.size):=by have:=A8 (s.heap.push PySem.W.emptyDict) (o:=PySem.W.instObj C s.heap.objs.size) rfl;rwa [Pr]at this
 have e3:(s.heap.push PySem.W.emptyDict).Ns s.heap.objs.size (λ _=>none):=%[PySem.W.emptyDict,#[],_,e1,O,(λ e he=>absurd he (by simp))|λ _=>rfl]
 have I1:=I.laid (a:=s.heap.objs.size) (o:=.own (s.heap.objs.size+1)) (h':=s.heap.push PySem.W.emptyDict) (t':=s.toks) (λ b u q=>A7 _ q) (B3 _) %[_|e1];show I1.laid (a:=s.heap.objs.size+1) (o:=.ins C s.heap.objs.size []) (t':=s.toks) (λ b u q=>A7 _ q) (Nat.le_of_eq (Pr _ _)) ?_;have ne:s.heap.objs.size≠s.heap.objs.size+1:=B9 (F0 _);show%[by rw[aw ne,au],E8 _,ne,e2,λ _=>none,(Heap.Ns1.of_empty e3).at λ o q=>A7 _ q,λ _=>True.intro|λ y hy=>absurd rfl hy]
theorem wI{prog:F7}{w:F9}{env:Env}{e:Expr}{f:Str}{pos:Pos}{s:F6}{Q:G0->F6->Prop}(hb:attributeBase e f env (eval e env)=eval e env)
  (h:wpAny (model prog w) A (eval e env) (λ o s₁=>wpAny (model prog w) A (getAttr o f true) Q E s₁) E s):wpAny (model prog w) A (eval (.Attribute e f pos) env) Q E s :=
 Attribute_any_ h (by rw[arm_eval_Attribute,hb])
end
def AQ(K:C5)(ta:TE)(f:Str):TE:=λ σ H Q=>ta σ H λ x H1=>∃a C dx fs v,x=.ref a/\H1 a=some (.ins C dx fs)/\Cls K C/\NoAttr K C f/\fs.lookup f=some v/\Q v H1
def AR(K:C5)(ta tv:TE)(f:Str):TS:=λ D σ H=>tv σ H λ y H1=>ta σ H1 λ x H2=>∃a C dx fs,x=.ref a/\H2 a=some (.ins C dx fs)/\Cls K C/\NoAttr K C f/\fs.length < 1000 /\
 D.nx σ (upd H2 a (.ins C dx (bN f y fs)))
section
variable{X:Cx}{o e value:Expr}{f:Str}{pos pos' tpos:Pos}{ta tv:TE}
theorem bO(he:PE X e ta)(hb:attributeBase e f X.env (eval e X.env)=eval e X.env):PE X (.Attribute e f pos) (AQ X.K ta f):=by intro PR s σ H Q I h;show wI hb (thn (he PR s σ H _ I h) ?_);rintro u s1 ⟨x,H1,I1,rx,a,C,dx,fs,v,ex,ea,c,n,l,q⟩;subst ex;obtain rfl:u=Value.ref a:=rx;exact mZ I1 ea c n l λ u' s2 I2 ru=>%[v,H1,I2,ru|q]
theorem eR(ha:PE X o ta)(hv:PE X value tv)(hs:swapsWith value (some (.Attribute o f pos')) pos.line X.env=pure false):PS X (.Assign [.Attribute o f pos'] value pos) (AR X.K ta tv f):=by intro PR s σ H D I h;show plainObj_wpAny_Assign_Attribute (thn (hv PR s σ H _ I h) ?_) hs;rintro u s1 ⟨y,H1,I1,ry,q⟩;show thn (ha PR s1 σ H1 _ I1 q) ?_;rintro ov s2 ⟨x,H2,I2,rx,a,C,dx,fs,ex,ea,c,n,l,q2⟩;subst ex;obtain rfl:ov=Value.ref a:=rx;exact ng I2 ea c n l ry λ s3 I3=>%[σ,_,I3|q2]
end
section
variable{X:Cx}{PR:RC}{σ:St}{H:Hp}{s:F6}{A:Around}{E Q:G0->F6->Prop}{c:G0}{b:Bool}
inductive TyOf(K:C5)(H:Hp):V->Value->Prop where
 | non:TyOf K H .non (.type "NoneType")
 | bl (x:Bool):TyOf K H (.bl x) (.type "bool")
 | int (i:Int):TyOf K H (.int i) (.type "int")
 | str (x:Str):TyOf K H (.str x) (.type "str")
 | lst {a:PK} {xs:PP V} (e:H a=↥xs):TyOf K H (.ref a) (.type "list")
 | frz {a:PK} {o:Obj} {xs:PP V} (e:H a=some (.frz o (.lst xs))):TyOf K H (.ref a) (.type "list")
 | tup {a:PK} {xs:PP V} (e:H a= ~~~xs):TyOf K H (.ref a) (.type "tuple")
 | dK {a:PK} {kvs:PP (Key×V)} (e:H a=some (.dK kvs)):TyOf K H (.ref a) (.type "dict")
 | ins {a C dx:PK} {fs:PP (Str×V)} (e:H a=some (.ins C dx fs)) (cl:Cls K C) (ha:PySem.W.findIn K (.ref C) "__class__" = some (some (.builtin "object.__class__")))
   (hn:PySem.W.specialIn K (.builtin "object.__class__") "__get__" = some (some (.builtin "getset_descriptor.__get__"))) (htk:PySem.W.takesIn K (.builtin "object.__class__")=some true)
   (hm:PySem.W.mroIn K C (.type "object")=some true):TyOf K H (.ref a) (.ref C)
theorem qa{x:V}{u t:G0}(I:Inv X PR σ H s)(rx:RelV x u)(ty:TyOf X.K H x t)(e:PySem.W.kitOne X.K t c=some b)(h:∀tk,Q (.bool b) { s with toks:=tk }) :
  wpAny (model X.prog X.w) A (call (.builtin "isinstance") [u,c]) Q E s:=by
 cases ty with
 | non=>cases(show u=Value.none from rx);exact PySem.W.kia_one PySem.W.kitx_none I.kIn True.intro e (λ z=>nomatch z) h
 | bl y=>cases(show u=Value.bool y from rx);exact PySem.W.kia_one PySem.W.kitx_bool I.kIn True.intro e (λ z=>nomatch z) h
 | int i=>obtain⟨t,q⟩:=(show∃t,u=Value.int i t from rx);cases q;exact PySem.W.kia_one PySem.W.kitx_int I.kIn True.intro e (λ z=>nomatch z) h
 | str y=>obtain⟨t,q⟩:=(show∃t,u=Value.str y t from rx);cases q;exact PySem.W.kia_one PySem.W.kitx_str I.kIn True.intro e (λ z=>nomatch z) h
 | @lst a xs ea=>
  cases(show u=Value.ref a from rx);obtain⟨_,_,n,_,h1⟩:=(show ObjOk X.prog X.w H s.heap a (.lst xs)from I.hok a _ ea)
  exact PySem.W.kia_one PySem.W.kitx_list I.kIn %[_,h1|O] e (λ z=>nomatch z) h
 | @frz a ob xs ea=>
  cases(show u=Value.ref a from rx);obtain⟨_,_,_,n,_,h1⟩:=(show ObjOk X.prog X.w H s.heap a (.frz ob (.lst xs))from I.hok a _ ea)
  exact PySem.W.kia_one PySem.W.kitx_list I.kIn %[_,h1|O] e (λ z=>nomatch z) h
 | @tup a xs ea=>
  cases(show u=Value.ref a from rx);obtain⟨_,_,_,p⟩:=(show ObjOk X.prog X.w H s.heap a (.tup xs)from I.hok a _ ea)
  obtain⟨o,h1,h2,_⟩:=p;exact PySem.W.kia_one PySem.W.kitx_tuple I.kIn %[o,h1|h2] e (λ z=>nomatch z) h
 | @dK a kvs ea=>
  cases(show u=Value.ref a from rx);obtain⟨_,_,vs,_,p⟩:=(show ObjOk X.prog X.w H s.heap a (.dK kvs)from I.hok a _ ea)
  obtain⟨o,es,ep,h1,h2,_⟩:=p;exact PySem.W.kia_one PySem.W.kitx_dict I.kIn %[o,h1|h2.1] e (λ z=>nomatch z) h
 | @ins a C dx fs ea cl ha hn htk hm=>
  cases(show u=Value.ref a from rx);obtain⟨mA,OO0,_⟩:=gc I.hok ea;obtain⟨od,J,_⟩:=OO0.look;exact PySem.W.kia_one (PySem.W.kitx_own (cl.get _) cl.hd ha hn htk hm) I.kIn J e (λ z=>nomatch z) h
end
structure Room(k:Nat)(A:Around):Prop where
 hd:A.handled=none
 dp:A.depth+3 * k+5 < recursionLimit
 un:A.units+16 * k+200 < cLine
 gd:A.guards=some []
theorem Room.mono{j k:Nat}{A:Around}(r:Room k A)(h:j<=k):Room j A:=%[r.hd,by have:=r.dp;omega,by have:=r.un;omega|r.gd]
theorem Room.deeper{k:Nat}{A:Around}(r:Room (k+1) A)(env:Env):Room k (A.deeper env) :=
 %[r.hd,by have:=r.dp;change A.depth+1+3 * k+5 < _;omega,by have:=r.un;change A.units+3+16 * k+200 < _;omega|r.gd]
theorem ni{A:Around}{C:PK}{us:PP G0}{kw:PP (Str×G0)}:(A.under (.builtin "type.__call__" %[.ref C :: us|kw])).depth=A.depth+1:=by first | rfl | simp[Around.under,Code.weight,Code.isCreation,Code.isGuard,Code.isCaller,Code.frames,Code.isFrame,guardIds]
theorem nj{A:Around}{C:PK}{us:PP G0}{kw:PP (Str×G0)}:(A.under (.builtin "type.__call__" %[.ref C :: us|kw])).units=A.units+1:=by first | rfl | simp[Around.under,Code.cUnits,Code.frames,Code.isFrame]
theorem lP{A:Around}{C:PK}{us:PP G0}{kw:PP (Str×G0)}:(A.under (.builtin "type.__call__" %[.ref C :: us|kw])).guards=A.guards:=by
 have e:Code.guards (.builtin "type.__call__" %[.ref C :: us|kw])=[]:=by
  have:(Code.builtin "type.__call__" %[.ref C :: us|kw]).isGuard=false:=by change guardIds.contains "type.__call__" = false;decide +kernel
  simp[Code.guards,this]
 unfold Around.under;dsimp only;rw[e]
 rfl
theorem Room.make{k:Nat}{A:Around}(r:Room (k+1) A)(C:PK)(us:PP G0)(kw:PP (Str×G0)):Room k (A.under (.builtin "type.__call__" %[.ref C :: us|kw])) :=
 %[r.hd,by have:=r.dp;rw[ni];omega,by have:=r.un;rw[nj];omega|by rw[lP];exact r.gd]
theorem Room.depth{k:Nat}{A:Around}(r:Room k A):A.depth < recursionLimit:=by have:=r.dp;omega
theorem Room.units{k:Nat}{A:Around}(r:Room k A):A.units+64 < cLine:=by have:=r.un;omega
def gI:TA:=λ _ H Q=>Q [] H
def cf(ta:TE)(tr:TA):TA:=λ σ H Q=>ta σ H λ x H1=>tr σ H1 λ xs H2=>Q (x :: xs) H2
section
variable{X:Cx}{e:Expr}{es:PP Expr}{te:TE}{t:TA}{pos:Pos}
theorem ad:PA X [] gI:=λ _ _ _ _ H Q I h=>Calls.spliced_nil %[[],H,I,.nil|h]
theorem aa(ha:PE X e te)(hr:PA X es t)(hs:starEach (e :: es) X.env=(false,eval e X.env) :: starEach es X.env:=by rfl):PA X (e :: es) (cf te t):=by intro pos PR s σ H Q I h;rw[hs];change wpAny _ _ (spliced ((false,eval e X.env) :: backTo pos (starEach es X.env))) _ _ s;show Calls.spliced_cons (thn (ha PR s σ H _ I h) ?_);rintro u s1 ⟨x,H1,I1,r1,q1⟩;exact thn (hr pos PR s1 σ H1 _ I1 q1) λ us s2 %[xs,H2,I2,r2|q2]=>%[x :: xs,H2,I2,.cons r1 r2|q2]
def AS(t:TA):TE:=λ σ H Q=>t σ H λ xs H1=>xs.length<=sizeLine/\∀p,H1 p=none->Q (.ref p) (upd H1 p (.tup xs))
def AT(t:TA):TE:=λ σ H Q=>t σ H λ xs H1=>xs.length<=sizeLine/\∀p,H1 p=none->Q (.ref p) (upd H1 p (.lst xs))
theorem aI{x1}(h:PA X es t):PE X (.Tuple es x1 pos) (AS t):=by intro PR s σ H Q I hq;show wpAny_Tuple_spliced (thn (h pos PR s σ H _ I hq) λ us s1 %[xs,H1,I1,r,z|q]=>%[by rw[<- r.length];exact z|?_]);have hf:H1 s1.heap.objs.size=none:=I1.hok.fresh (B3 _);show%[.ref s1.heap.objs.size,upd H1 s1.heap.objs.size (.tup xs),I1.laid (t':=s1.toks) (λ b u e=>A7 _ e) (B3 _) ?_,O|q _ hf];exact%[z,us,r|%[_,A8 _ rfl,O,_|O]]
theorem aL(h:PA X es t):PE X (.List es pos) (AT t):=by intro PR s σ H Q I hq;show wpAny_List_spliced (thn (h pos PR s σ H _ I hq) λ us s1 %[xs,H1,I1,r,z|q]=>%[by rw[<- r.length];exact z|?_]);have hf:H1 s1.heap.objs.size=none:=I1.hok.fresh (B3 _);show%[.ref s1.heap.objs.size,upd H1 s1.heap.objs.size (.lst xs),I1.laid (t':=s1.toks) (λ b u e=>A7 _ e) (B3 _) ?_,O|q _ hf];exact%[z,us,0,r|A8 _ rfl]
end
abbrev Sp:=PP V->Hp->VK->XK->Prop
abbrev CXT:=PP Env->Hp->F6->XK->G0->F6->Prop
structure Env0(P:Program)(w:World)(K:C5)(mg:Str->PM Value)(base:Heap)(A:Around)(outer:PP Env)(s:Shared)(H:Hp):Prop where
 frames:A.frames=some outer
 mod:Mod K mg base
 bs:∀b o,base.get? b=some o->s.heap.get? b=some o/\H b=none
 bsz:base.objs.size<=s.heap.objs.size
 funs:s.heap.FunFrames base outer
 frf:∀b∈frs outer,H b=none
 hok:HOk P w H s.heap
 bare:AllBare s.gens
def CE(outer:PP Env)(P:F7)(w:F9)(H:Hp)(s:F6)(Q:VK)(u:G0)(s':F6):Prop :=
 ∃v H',s'.os=s.os/\AllBare s'.gens/\Un (frs outer) [] H H' s.heap s'.heap/\HOk P w H' s'.heap/\RelV v u/\Q v H'
def CR(CX:CXT)(outer:PP Env)(P:F7)(w:F9)(H:Hp)(s:F6)(Q:VK)(E:XK)(r:Result)(s':F6):Prop :=
 match r with
 | .ok (.ret u)=>CE outer P w H s Q u s'
 | .ok _=>False
 | .error e=>CX outer H s E e s'
structure FnOk(P:Program)(w:World)(K:C5)(mg:Str->PM Value)(base:Heap)(CX:CXT)(k:Nat)(f:PK)(fd:FuncData)(ps:PP Str)(sp:Sp):Prop where
 len:∀vs H Q E,sp vs H Q E->vs.length=ps.length
 run:∀(A:Around)(outer:PP Env)(s:F6)(H:Hp)(args:Args)(us:PP G0)(vs:PP V)(Q:VK)(E:XK),Room k A->Env0 P w K mg base A outer s H->BindsTo s fd args (ps.zip us)->Vals vs us->sp vs H Q E ->
  codeAny (model P w) A (.call (.ref f) args) (CR CX outer P w H s Q E) s
theorem FnOk.mono{P:F7}{w:F9}{K:C5}{mg:Str->PM G0}{base:Heap}{CX:CXT}{j k:Nat}{f:PK}{fd:F8}{ps:PP Str}{sp:Sp}(F:FnOk P w K mg base CX j f fd ps sp)(h:j<=k) :
  FnOk P w K mg base CX k f fd ps sp:=%[F.len|λ A outer s H args us vs Q E hr=>F.run A outer s H args us vs Q E (hr.mono h)]
theorem Env0.make{P:F7}{w:F9}{K:C5}{mg:Str->PM G0}{base:Heap}{A:Around}{outer:PP Env}{s:F6}{H:Hp}(e:Env0 P w K mg base A outer s H)(C:PK)(us:PP G0)(kw:PP (Str×G0)) :
  Env0 P w K mg base (A.under (.builtin "type.__call__" %[.ref C :: us|kw])) outer s H:=⟨by first | exact e.frames | (simpa[Around.under,Code.envs,Code.isFrame,pushEnvs]using e.frames),e.mod,e.bs,e.bsz,e.funs,e.frf,e.hok,e.bare⟩
section
variable{X:Cx}{PR:RC}{σ:St}{H:Hp}{s s':F6}
theorem Inv.env0(I:Inv X PR σ H s):Env0 X.prog X.w X.K X.mg X.base X.A X.stack s H :=
 %[I.ok.frames,I.ok.mod,I.bs,C6 I.ok.bsz I.sz,I.stack,I.stkFree,I.hok|I.bare]
theorem Inv.after{Q:VK}{u:G0}(I:Inv X PR σ H s)(h:CE X.stack X.prog X.w H s Q u s'):EP X PR σ Q u s':=by obtain⟨v,H',os,bare,un,hok,r,q⟩:=h;obtain⟨hh,g,d,t,os'⟩:=s';obtain rfl:os'=s.os:=os;exact%[v,H',I.call (h':=hh) (g':=g) (d':=d) (t':=t) (ch:=[]) un hok bare (λ b z=>absurd z (by simp)),r|q]
end
def gT(sp:Sp)(dvs:PP V)(E:XK)(t:TA):TE:=λ σ H Q=>t σ H λ vs H1=>sp (vs ++ dvs) H1 Q E
def oN(C:PK)(m:Str)(sp:Sp)(dvs:PP V)(E:XK)(ta:TE)(t:TA):TE:=λ σ H Q=>ta σ H λ x H1=>∃a dx fs,x=.ref a/\H1 a=some (.ins C dx fs)/\fs.lookup m=none /\
 t σ H1 λ vs H2=>sp (x :: (vs ++ dvs)) H2 Q E
def yE(C:PK)(sp:Sp)(dvs:PP V)(E:XK)(t:TA):TE:=λ σ H Q=>t σ H λ vs H1=>∀x dx,H1 x=none->H1 dx=none->dx≠x ->
 sp (.ref x :: (vs ++ dvs)) (upd (upd H1 dx (.own x)) x (.ins C dx [])) (λ v H2=>v=.non/\Q (.ref x) H2) E
def Binds(K:C5)(fd:F8)(ps:PP Str)(ds:PP G0):Prop :=
 ∀(s:F6)(us:PP G0),K.In s.heap->(us ++ ds).length=ps.length->BindsTo s fd %[us|[]] (ps.zip (us ++ ds))
theorem Binds.all{K:C5}{fd:F8}{ps:PP Str}(h:∀us:PP G0,us.length=ps.length->bindArgs fd %[us|[]]=pure (ps.zip us)):Binds K fd ps []:=λ s us _ hl=>by rw[K0]at hl ⊢;exact .of_eq (h us hl)
def fP(CX:CXT)(X:Cx)(E:XK):Prop:=∀(PR:RC)(σ:St)(H:Hp)(s:F6)(e:G0)(s':F6),Inv X PR σ H s->CX X.stack H s E e s'->X.xe e s'
section
variable{X:Cx}{CX:CXT}{k:Nat}{f C:PK}{fd:F8}{ps:PP Str}{sp:Sp}{dvs:PP V}{ds:PP G0}{E:XK}{x m:Str}{p pos apos:Pos}{e o:Expr}{es:PP Expr}{ta:TE}{t:TA}
theorem nq{PR:RC}{σ:St}{H:Hp}{s:F6}{Q:VK}{us:PP G0}{vs:PP V}(F:FnOk X.prog X.w X.K X.mg X.base CX k f fd ps sp)(hr:Room k X.A)(hb:Binds X.K fd ps ds)(hd:Vals dvs ds)(hx:fP CX X E)
  (I:Inv X PR σ H s) (r:Vals vs us) (h:sp (vs ++ dvs) H Q E):wpAny (model X.prog X.w) X.A (call (.ref f) us) (EP X PR σ Q) X.xe s:=by
 have r2:Vals (vs ++ dvs) (us ++ ds):=r.append hd;have hl:(us ++ ds).length=ps.length:=by rw[<- r2.length];exact F.len _ _ _ _ h
 show wpAny_call (codeAny_mono (F.run X.A X.stack s H %[us|[]] (us ++ ds) (vs ++ dvs) Q E hr I.env0 (hb s us I.kIn hl) r2 h) λ r s' hq=>?_);cases r with
 | error e=>exact hx PR σ H s e s' I hq
 | ok fl=>
  cases fl with
  | ret u=>exact I.after hq
  | next=>exact E7 hq
  | brk=>exact E7 hq
  | cont=>exact E7 hq
theorem wJ(F:FnOk X.prog X.w X.K X.mg X.base CX k f fd ps sp)(hr:Room k X.A)(hg:Gl X x)(hm:X.mg x=↑f)(hk:PySem.W.keepIn X.K (.ref f)=true)(hb:Binds X.K fd ps ds)(hd:Vals dvs ds)(hx:fP CX X E)
  (ha:PA X (e :: es) t) (hdb:(x == ("__debug__" : Str))=false:=by decide) (he:starEach (e :: es) X.env=(false,eval e X.env) :: starEach es X.env:=by rfl) (hpl:(backTo pos (starEach es X.env)).any (·.1)=false:=by rfl) :
  PE X (.Call (.Name x p) (e :: es) [] pos) (gT sp dvs E t):=by
 intro PR s σ H Q I h;show wpAny_Call_Name_kw (ff I hg hm ?_ hdb);show PySem.W.callWith_K (h₀:=X.base) I.ok.mod.kin hk (thn (ha pos PR s σ H _ I h) λ us s1 %[vs,H1,I1,r|q]=>%[I1.kIn|?_]) he hpl;exact nq F hr hb hd hx I1 r q
theorem wK{pl:Sem Bool}(he:PE X o ta)(c:Cls X.K C)(hm:Meth X.K C m f)(F:FnOk X.prog X.w X.K X.mg X.base CX k f fd ps sp)(hr:Room k X.A)(hb:Binds X.K fd ps ds)(hd:Vals dvs ds)(hx:fP CX X E)(ha:PA X (e :: es) t)
  (hst:starEach (e :: es) X.env=(false,eval e X.env) :: starEach es X.env:=by rfl) (hpl:(backTo pos (starEach es X.env)).any (·.1)=false:=by rfl)
  (ht:eval (.Call (.Attribute o m apos) (e :: es) [] pos) X.env=(do
   let ov<-eval o X.env
   standAt apos.atName
   let (f,first)<-holding [ov] (getMethod ov m pl)
   callWith pos f first (backTo pos (starEach (e :: es) X.env)) (backToKw pos (keywordEach [] X.env))):=by rfl) :
  PE X (.Call (.Attribute o m apos) (e :: es) [] pos) (oN C m sp dvs E ta t):=by
 intro PR s σ H Q I h;show PySem.W.methodCall_KW (pl:=pl) (thn (he PR s σ H _ I h) ?_) ht;rintro u s1 ⟨x,H1,I1,rx,a,dx,fs,ex,ea,l,q⟩;subst ex;obtain rfl:u=Value.ref a:=rx;show fO I1 ea c hm l ?_;show PySem.W.callWith_K (first:=[.ref a]) (h₀:=X.base) I.ok.mod.kin hm.kp (thn (ha pos PR s1 σ H1 _ I1 q) λ us s2 %[vs,H2,I2,r|q2]=>%[I2.kIn|?_]) hst hpl;exact nq (us:=.ref a :: us) (vs:=.ref a :: vs) F hr hb hd hx I2 (.cons rfl r) q2
theorem tU{pl:Sem Bool}(he:PE X o ta)(c:Cls X.K C)(hm:Meth X.K C m f)(F:FnOk X.prog X.w X.K X.mg X.base CX k f fd ps sp)(hr:Room k X.A)(hb:Binds X.K fd ps ds)(hd:Vals dvs ds)(hx:fP CX X E)
  (ht:eval (.Call (.Attribute o m apos) [] [] pos) X.env=(do
   let ov<-eval o X.env
   standAt apos.atName
   let (f,first)<-holding [ov] (getMethod ov m pl)
   callWith pos f first (backTo pos (starEach [] X.env)) (backToKw pos (keywordEach [] X.env))):=by rfl) :
  PE X (.Call (.Attribute o m apos) [] [] pos) (oN C m sp dvs E ta gI):=by
 intro PR s σ H Q I h;show PySem.W.methodCall_KW (pl:=pl) (thn (he PR s σ H _ I h) ?_) ht;rintro u s1 ⟨x,H1,I1,rx,a,dx,fs,ex,ea,l,q⟩;subst ex;obtain rfl:u=Value.ref a:=rx;show fO I1 ea c hm l ?_;exact PySem.W.callWith_K0 (first:=[.ref a]) I1.kIn hm.kp (nq (us:=[.ref a]) (vs:=[.ref a]) F hr hb hd hx I1 (.cons rfl .nil) q)
structure Mk(K:C5)(C f:PK):Prop where
 makes:PySem.W.makesIn K C=true
 init:PySem.W.findIn K (.ref C) "__init__" = some (↑f)
 fn:PySem.W.isFn K (.ref f)=true
 kp:PySem.W.keepIn K (.ref C)=true
theorem tV{PR:RC}{σ:St}{H:Hp}{s:F6}{Q:VK}{us:PP G0}{vs:PP V}(M:Mk X.K C f)(F:FnOk X.prog X.w X.K X.mg X.base CX k f fd ps sp)(hr:Room (k+1) X.A)(hb:Binds X.K fd ps ds)(hd:Vals dvs ds)
  (hx:fP CX X E) (I:Inv X PR σ H s) (r:Vals vs us)
  (h:∀x dx,H x=none->H dx=none->dx≠x->sp (.ref x :: (vs ++ dvs)) (upd (upd H dx (.own x)) x (.ins C dx [])) (λ v H2=>v=.non/\Q (.ref x) H2) E) :
  wpAny (model X.prog X.w) X.A (call (.ref C) us) (EP X PR σ Q) X.xe s:=by
 have hq:=h (s.heap.objs.size+1) s.heap.objs.size (I.hok.fresh (Nat.le_succ _)) (I.hok.fresh (B3 _)) (B9 (F0 _));have I2:=Inv.made (C:=C) I;have r2:Vals (V.ref (s.heap.objs.size+1) :: (vs ++ dvs)) (Value.ref (s.heap.objs.size+1) :: (us ++ ds)):=.cons rfl (r.append hd);have hl:(Value.ref (s.heap.objs.size+1) :: us ++ ds).length=ps.length:=by have e:=r2.length;rw[F.len _ _ _ _ hq]at e;exact e.symm
 show wpAny_call (tT (f:=f) I.kIn M.makes M.init (C4.mp M.fn) (codeAny_mono (F.run _ X.stack _ _ %[Value.ref (s.heap.objs.size+1) :: us|[]] (Value.ref (s.heap.objs.size+1) :: (us ++ ds)) _ _ E (hr.make C us [])
  (I2.env0.make C us []) (hb _ (Value.ref (s.heap.objs.size+1) :: us) I2.kIn hl) r2 hq) λ r s' hq'=>?_))
 cases r with
 | error e=>exact hx PR σ _ _ e s' I2 hq'
 | ok fl=>
  cases fl with
  | ret u=>
   obtain⟨v,H',I3,rv,ev,q3⟩:=I2.after hq';subst ev;exact%[rv|%[V.ref (s.heap.objs.size+1),H',I3,O|q3]]
  | next=>exact E7 hq'
  | brk=>exact E7 hq'
  | cont=>exact E7 hq'
theorem wL(M:Mk X.K C f)(F:FnOk X.prog X.w X.K X.mg X.base CX k f fd ps sp)(hr:Room (k+1) X.A)(hg:Gl X x)(hm:X.mg x=↑C)(hb:Binds X.K fd ps ds)(hd:Vals dvs ds)(hx:fP CX X E)
  (ha:PA X (e :: es) t) (hdb:(x == ("__debug__" : Str))=false:=by decide) (he:starEach (e :: es) X.env=(false,eval e X.env) :: starEach es X.env:=by rfl) (hpl:(backTo pos (starEach es X.env)).any (·.1)=false:=by rfl) :
  PE X (.Call (.Name x p) (e :: es) [] pos) (yE C sp dvs E t):=by
 intro PR s σ H Q I h;show wpAny_Call_Name_kw (ff I hg hm ?_ hdb);show PySem.W.callWith_K (h₀:=X.base) I.ok.mod.kin M.kp (thn (ha pos PR s σ H _ I h) λ us s1 %[vs,H1,I1,r|q]=>%[I1.kIn|?_]) he hpl;exact tV M F hr hb hd hx I1 r q
end
structure FnScope(N P:PP Str)(sc:Scope):Prop where
 kind:sc.kind=.function
 co:sc.isCoroutine=false
 gen:sc.isGenerator=false
 nd:N.Nodup
 pre:N.take P.length=P
 par:∀x∈P,sc.names.lookup x=some .local\/sc.names.lookup x=some .cell
 nofree:∀y∈sc.names,y.2≠.free
theorem jF{kindOf:Str->PM NameKind}{x:Str}:∀{binds:PP (Str×G0)}{m:Str->PM G0},(∀v,(x,v)∉binds)->bindL kindOf binds m x=m x
 | [],_,_=>rfl
 | (n,v) :: r,m,h=>by
  unfold bindL;rw[jF λ w hw=>h w (B4 _ hw)]
  split
  ·have:x≠n:=by rintro rfl;exact h v B7
   simp[this]
  ·rfl
theorem jG{kindOf:Str->PM NameKind}{x:Str}:∀{binds:PP (Str×G0)}{m:Str->PM G0},(∀v,(x,v)∉binds)->bindC kindOf binds m x=m x
 | [],_,_=>rfl
 | (n,v) :: r,m,h=>by
  unfold bindC;rw[jG λ w hw=>h w (B4 _ hw)]
  split
  ·rfl
  ·have:x≠n:=by rintro rfl;exact h v B7
   simp[this]
theorem jH{kindOf:Str->PM NameKind}{x:Str}{v:G0}:∀{P:PP Str}{vs:PP G0}{i:Nat}{m:Str->PM G0},P.Nodup->P[i]?=some x->vs[i]?=some v->kindOf x=some .local ->
  bindL kindOf (P.zip vs) m x=some v
 | [],_,_,_,_,h,_,_=>by simp at h
 | _ :: _,[],_,_,_,_,h,_=>by simp at h
 | p :: P,w :: vs,0,m,nd,h1,h2,hk=>by simp at h1 h2;subst h1;subst h2;change bindL kindOf ((p,w) :: P.zip vs) m p=_;unfold bindL;rw[jF λ v hv=>(K8.mp nd).1 (PD hv).1,Pa hk];simp
 | p :: P,w :: vs,i+1,m,nd,h1,h2,hk=>by change bindL kindOf ((p,w) :: P.zip vs) m x=_;unfold bindL;exact jH (i:=i) (K8.mp nd).2 (by simpa using h1) (by simpa using h2) hk
theorem jI{kindOf:Str->PM NameKind}{x:Str}{v:G0}:∀{P:PP Str}{vs:PP G0}{i:Nat}{m:Str->PM G0},P.Nodup->P[i]?=some x->vs[i]?=some v->kindOf x≠some .local ->
  bindC kindOf (P.zip vs) m x=some v
 | [],_,_,_,_,h,_,_=>by simp at h
 | _ :: _,[],_,_,_,_,h,_=>by simp at h
 | p :: P,w :: vs,0,m,nd,h1,h2,hk=>by simp at h1 h2;subst h1;subst h2;change bindC kindOf ((p,w) :: P.zip vs) m p=_;unfold bindC;rw[jG λ v hv=>(K8.mp nd).1 (PD hv).1,PZ hk];simp
 | p :: P,w :: vs,i+1,m,nd,h1,h2,hk=>by change bindC kindOf ((p,w) :: P.zip vs) m x=_;unfold bindC;exact jI (i:=i) (K8.mp nd).2 (by simpa using h1) (by simpa using h2) hk
def ge(N:PP Str)(vs:PP V):St:=vs.map some ++ List.replicate (N.length - vs.length) none
def fQ(CX:CXT)(P:F7)(w:F9)(K:C5)(mg:Str->PM G0)(base:Heap)(N:PP Str)(qual:Str)(scope:Scope)(f:PK)(cd:G0)(A:Around)(outer:PP Env)(s:F6)(H:Hp)(E:XK):Cx where
 prog:=P
 w:=w
 K:=K
 mg:=mg
 base:=base
 A:=A.deeper (envOfC qual scope s.heap.objs.size f cd)
 N:=N
 s₀:=s
 H₀:=H
 env:=envOfC qual scope s.heap.objs.size f cd
 outer:=outer
 stack:=envOfC qual scope s.heap.objs.size f cd :: outer
 ex:=[]
 calm:=true
 fn:=λ _=>true
 pn:=[]
 xe:=λ e s'=>wpAny (model P w) (A.deeper (envOfC qual scope s.heap.objs.size f cd)) (leaving (envOfC qual scope s.heap.objs.size f cd) e) (λ _ s''=>CX outer H s E e s'') (λ e' s''=>CX outer H s E e' s'') s'
theorem lQ{sc:Scope}{n:Nat}{x:Str}(h:sc.names.lookup x=some .cell):∃c,(cellsFrom n sc.names []).lookup x=some c:=by have q:=PySem.W.cellsFrom_some sc.names n [] (.inl h);exact Option.isSome_iff_exists.mp q
theorem qc{CX:CXT}{P:F7}{w:F9}{K:C5}{mg:Str->PM G0}{base:Heap}{N ps:PP Str}{qual:Str}{scope:Scope}{f:PK}{cd:G0}{A:Around}{outer:PP Env}{s s1:F6}{H:Hp}{E:XK}{us:PP G0}{vs:PP V}
  (S:FnScope N ps scope) (hd:A.handled=none) (e0:Env0 P w K mg base A outer s H) (hl:vs.length=ps.length) (r:Vals vs us)
  (x:InCallC s s.heap.objs.size (bindL (envOfC qual scope s.heap.objs.size f cd).kindOf (ps.zip us) λ _=>none) (cellsFrom (s.heap.objs.size+1) scope.names []) (bindC (envOfC qual scope s.heap.objs.size f cd).kindOf (ps.zip us) λ _=>none) s1) :
  Inv (fQ CX P w K mg base N qual scope f cd A outer s H E) [] (ge N vs) H s1:=by
 have hpl:ps.length<=N.length:=by have:=Pw List.length S.pre;rw[J2]at this;omega
 obtain⟨h1,tk,rfl,hk⟩:=x.done;have noA:∀b:PK,b∉(fQ CX P w K mg base N qual scope f cd A outer s H E).ex:=λ b z=>absurd (show b∈([]:PP PK)from z) (by simp);show⟨%[e0.mod,S.kind,O,O,B3 _,λ y z c h1 h2=>?_,λ y hy=>?_,λ y c _ h=>?_,λ _=>hd,Around.frames_deeper e0.frames,.inr %[O|O],λ b z=>absurd z (noA b),e0.bs,e0.bsz,λ b _ _=>noA b,λ b z=>absurd z (noA b),e0.funs|e0.frf],
  rfl,e0.bare,Un.kept hk,%[_,x.toInCall.ns|λ i y v h1 h2 h3=>?_],λ y c h=>%[_|x.cell y c h],e0.hok.fresh (B3 _),λ y c h=>?_,λ p hp=>absurd (show p∈([]:RC)from hp) (by simp),e0.hok.kept hk,?_⟩
 ·exact name_of_addr x.apart (P3 h1) (P3 h2)
 ·have hy:scope.names.lookup y=some .cell\/scope.names.lookup y=some .free:=hy;rcases hy with hy | hy
  ·exact lQ hy
  ·exact absurd rfl (S.nofree _ (P3 hy))
 ·exact C8 (x.above y c (P3 h))
 ·have hi:i < vs.length:=by
   unfold ge at h2
   by_cases hi:i < vs.length
   ·exact hi
   ·rw[List.getElem?_append_right (by simpa using hi)]at h2;rw[List.getElem?_replicate]at h2
    split at h2 <;> cases h2
  have ha:vs[i]?=some v:=by
   unfold ge at h2;rw[List.getElem?_append_left (by simpa using hi),J1]at h2;cases e:vs[i]? with
   | none=>rw[e]at h2;cases h2
   | some a=>rw[e]at h2;cases h2;rfl
  obtain⟨u,hu,rv⟩:=r.get ha;have hp:ps[i]?=some y:=by rw[<- S.pre,List.getElem?_take_of_lt ⋯];exact h1
  have ndP:ps.Nodup:=by rw[<- S.pre];exact S.nd.sublist (List.take_sublist _ _)
  show%[u,rv|?_];rcases S.par y (B5 hp)with k | k
  ·exact .inl %[k|jH ndP hp hu k]
  ·obtain⟨c,e⟩:=lQ (n:=s.heap.objs.size+1) k;show .inr %[.inl k,c,e|?_];have q:=x.cell y c e;rw[jI ndP hp hu (by change scope.names.lookup y≠_;rw[k];decide)]at q;exact q
 ·exact e0.hok.fresh (C8 (x.above y c (P3 h)))
 ·unfold ge;change _=N.length;rw[G8,G6,M3];omega
theorem yF{CX:CXT}{P:F7}{w:F9}{K:C5}{mg:Str->PM G0}{base:Heap}{k:Nat}{f:PK}{name qual:Str}{params:Arguments}{body:PP Stmt}{scope:Scope}{dV kV doc pm cdv ct oc:G0}{an od:PM PK}
  {osl:PN (PM G0)} {N ps:PP Str} {sp:Sp} (lk:K.lookup f=some %[oc,od,.func (E6 name qual params body scope dV kV doc pm an cdv ct)|osl]) (hcd:PySem.W.codeIn K cdv qual=true) (S:FnScope N ps scope)
  (len:∀vs H Q E,sp vs H Q E->vs.length=ps.length)
  (hbody:∀(A:Around)(outer:PP Env)(s:F6)(H:Hp)(vs:PP V)(Q:VK)(E:XK),Room k (A.deeper (envOfC qual scope s.heap.objs.size f cdv))->sp vs H Q E ->
   ∃t,PSs (fQ CX P w K mg base N qual scope f cdv A outer s H E) body t/\t { nx:=λ _ H'=>Q .non H',rt:=Q } (ge N vs) H) :
  FnOk P w K mg base CX (k+1) f (E6 name qual params body scope dV kV doc pm an cdv ct) ps sp:=by
 show%[len|λ A outer s H args us vs Q E hr e0 hb r hsp=>?_];have hl:=len _ _ _ _ hsp;have KX:K.In s.heap:=e0.mod.kin.keeps λ b o e=>(e0.bs b o e).1;have lim:s.heap.NoLimit:=e0.mod.nolimit.keeps λ b o e=>(e0.bs b o e).1;have hkind:∀y∈ps.zip us,scope.names.lookup y.1=some .local\/(scope.names.lookup y.1=some .cell/\((cellsFrom (s.heap.objs.size+1) scope.names []).lookup y.1).isSome=true):=λ⟨n,v⟩ hy=>by
  rcases S.par n (PD hy).1 with q | q
  ·exact .inl q
  ·exact .inr %[q|PySem.W.cellsFrom_some _ _ _ (.inl q)]
 show codeAny_call_function hr.depth (KX _ _ lk) rfl S.co S.gen rfl (PySem.W.codeRec_of KX hcd) (hb _ _ _ _ ?_);show wpAny_newFunctionEnv_cells S.kind hkind λ env he s1 x=>?_;subst he;show%[lim.keeps x.toInCall.keep|codeAny_func ?_];obtain⟨t,ht,hq⟩:=hbody A outer s H vs Q E (hr.deeper _) hsp;have I:Inv (fQ CX P w K mg base N qual scope f cdv A outer s H E) [] (ge N vs) H s1:=qc S hr.hd e0 hl r x;show Po (ht [] s1 (ge N vs) H _ I hq) (λ fl s' hs=>?_) λ e s' hs=>hs;have fin:∀{σ':St}{H':Hp}{v:V}{u:G0},Inv (fQ CX P w K mg base N qual scope f cdv A outer s H E) [] σ' H' s'->RelV v u->Q v H'->CE outer P w H s Q u s' :=
  λ {σ' H' v u} J rv q=>%[v,H',J.os,J.bare,J.base,J.hok,rv|q]
 cases fl with
 | ret u=>
  obtain⟨v,σ',H',J,rv,q⟩:=hs;exact fin J rv q
 | next=>
  obtain⟨σ',H',J,q⟩:=hs;exact fin (v:=V.non) (u:=Value.none) J rfl q
 | brk=>
  obtain⟨_,_,_,q⟩:=hs;exact E7 q
 | cont=>
  obtain⟨_,_,_,q⟩:=hs;exact E7 q
section
variable{X:Cx}{x:Str}{p pos:Pos}{e:Expr}{es:PP Expr}{t:TA}{id T:String}{r:PP V->Hp->VK->Prop}
def tCB(r:PP V->Hp->VK->Prop)(t:TA):TE:=λ σ H Q=>t σ H λ vs H1=>r vs H1 Q
theorem aD(hc:cU X (.builtin id) r)(hg:Gl X x)(hm:X.mg x=none)(hv:bootBuiltins x=some (.builtin id))(ha:PA X (e :: es) t)(hn:x ≠ "__name__" := by decide)(hdb:(x == ("__debug__" : Str))=false:=by decide)
  (he:starEach (e :: es) X.env=(false,eval e X.env) :: starEach es X.env:=by rfl) (hpl:(backTo pos (starEach es X.env)).any (·.1)=false:=by rfl):PE X (.Call (.Name x p) (e :: es) [] pos) (tCB r t):=by
 intro PR s σ H Q I h;show wpAny_Call_Name_kw (fI I hg hm hv ?_ hn hdb);exact PyProof.Rows.callWith_builtin1 (thn (ha pos PR s σ H _ I h) λ us s1 %[vs,H1,I1,r1|q1]=>hc PR s1 σ H1 vs us Q I1 r1 q1) he hpl
theorem bg(hc:cU X (.type T) r)(hg:Gl X x)(hm:X.mg x=none)(hv:bootBuiltins x=some (.type T))(ha:PA X (e :: es) t)(hn:x ≠ "__name__" := by decide)(hdb:(x == ("__debug__" : Str))=false:=by decide)
  (he:starEach (e :: es) X.env=(false,eval e X.env) :: starEach es X.env:=by rfl) (hpl:(backTo pos (starEach es X.env)).any (·.1)=false:=by rfl):PE X (.Call (.Name x p) (e :: es) [] pos) (tCB r t):=by
 intro PR s σ H Q I h;show wpAny_Call_Name_kw (fI I hg hm hv ?_ hn hdb);exact Pt (thn (ha pos PR s σ H _ I h) λ us s1 %[vs,H1,I1,r1|q1]=>hc PR s1 σ H1 vs us Q I1 r1 q1) he hpl
end
end L2
namespace HT
open PySem PyProof.Rows
section
variable{prog:F7}{w:F9}{A:Around}{E:G0->F6->Prop}{s:F6}
theorem cat_tup{t b:PK}{vs ws:PP G0}{Q:G0->F6->Prop}(ht:IsTup s.heap t vs.toArray)(hb:IsTup s.heap b ws.toArray)(hv:vs≠[])
  (h1:ws=[]->Q (.ref t) s) (h2:ws≠[]->Q (.ref s.heap.objs.size) { s with heap:=s.heap.push { cls:=.type "tuple",data:=.seq (vs ++ ws).toArray } })
  (hsz:vs.length+ws.length<=sizeLine):wpAny (model prog w) A (binaryOp .Add (.ref t) (.ref b)) Q E s:=by
 obtain⟨⟨cls,dd,data,sl⟩,ho,hc,n,hd⟩:=id ht;obtain⟨⟨cls2,dd2,data2,sl2⟩,ho2,hc2,n2,hd2⟩:=id hb;simp only at hc hd hc2 hd2;subst hc hd hc2 hd2;have e:vs.toArray ++ ws.toArray=(vs ++ ws).toArray:=by simp
 by_cases hw:ws=[]
 ·exact concat_meets %[_,ho|rfl] %[_,ho2|rfl] noFill_tuple_add seq_tuple_add PySem.F.slot_tuple_add PySem.F.entry_tuple_add (PySem.F.args_tuple_add_2 _ _)
   (tuple_addW1 t b vs.toArray ws.toArray n n2 dd dd2 sl sl2 (by simpa using hv) (by simp[hw])) %[ho,ho2|h1 hw]
 ·show concat_meets %[_,ho|rfl] %[_,ho2|rfl] noFill_tuple_add seq_tuple_add PySem.F.slot_tuple_add PySem.F.entry_tuple_add (PySem.F.args_tuple_add_2 _ _)
   (tuple_addW2 t b vs.toArray ws.toArray n n2 dd dd2 sl sl2 (by simpa using hv) (by simpa using hw) (by rw[I9,I9];exact hsz)) %[ho,ho2|?_]
  rw[e];exact h2 hw
def sIx(n d:Nat):PM Int->Nat
 | none=>d
 | some v=>if v < 0 then(v+(n:Int)).toNat else min v.toNat n
theorem tW(n d:Nat)(hd:d<=n)(o:PM Int):sIx n d o<=n:=by
 cases o with
 | none=>exact hd
 | some v=>
  change(if v < 0 then(v+(n:Int)).toNat else min v.toNat n)<=n
  by_cases hv:v < 0
  ·rw[Pa hv];omega
  ·rw[PZ hv];exact Nat.min_le_right _ _
theorem oO(v:Int)(n d:Nat):(if v < 0 then max (v+(n:Int)) 0 else min v (n:Int))=((sIx n d (some v):Nat):Int):=by
 change(if v < 0 then max (v+(n:Int)) 0 else min v (n:Int))=(((if v < 0 then(v+(n:Int)).toNat else min v.toNat n):Nat):Int)
 by_cases hv:v < 0
 ·simp only[Pa hv];omega
 ·simp only[PZ hv];omega
theorem nv(lo hi:PM Int)(n:Nat):Builtin.Slice.sliceAdjust lo hi 1 (n:Int)=(((sIx n 0 lo:Nat):Int),((sIx n n hi:Nat):Int)):=by
 have h1:¬ ((1:Int) < 0):=⋯
 unfold Builtin.Slice.sliceAdjust;simp only[h1,Pn];show Prod.ext ?_ ?_
 ·cases lo with
  | none=>rfl
  | some v=>exact oO v n 0
 ·cases hi with
  | none=>rfl
  | some v=>exact oO v n n
theorem ny(i j:Nat):Builtin.Slice.slicePlaces (i:Int) (j:Int) 1=j - i:=by
 unfold Builtin.Slice.slicePlaces;have h1:(1:Int) > 0:=⋯
 simp only[h1,P4,Int.ediv_one]
 split <;> omega
theorem iG{v:G0}{o:PM Int}{Q:PM Int->F6->Prop}(p:IsPart v o)(h:Q o s):wpAny (model prog w) A (Builtin.Slice.slicePartIndex v) Q E s:=by
 cases p with
 | none=>exact slicePart_none h
 | int i t=>exact slicePart_int h
theorem dO{sl:PK}{vl vu:G0}{lo hi:PM Int}{n:Nat}{Q:Int×Int×Nat->F6->Prop}(hs:s.heap.IsSliceOf sl vl vu .none)(pl:IsPart vl lo)(pu:IsPart vu hi)
  (h:Q (((sIx n 0 lo:Nat):Int),1,sIx n n hi - sIx n 0 lo) s):wpAny (model prog w) A (Builtin.Slice.sliceApplied (.ref sl) (pure (n:Int))) Q E s:=by
 obtain⟨os,hos,hcs,hds⟩:=id hs;unfold Builtin.Slice.sliceApplied Builtin.Slice.sliceFields;show A0 (A0 (P0 hos hds (x:=vl) rfl (A0 (P0 hos hds (x:=vu) rfl (A0 (P0 hos hds (x:=.none) rfl (A2 ?_)))))));show A0 (slicePart_none ?_);change wpAny _ _ (if ((1:Int) == 0)=true then _ else _) _ _ s;rw[PZ ∅];show A0 (iG pl (A0 (iG pu (A0 (A2 ?_)))));change wpAny _ _ (match Builtin.Slice.sliceAdjust lo hi 1 (n:Int)with | (lo,hi)=>pure (lo,(1:Int),Builtin.Slice.slicePlaces lo hi 1)) _ _ s;rw[nv lo hi n];change wpAny _ _ (pure (((sIx n 0 lo:Nat):Int),(1:Int),Builtin.Slice.slicePlaces ((sIx n 0 lo:Nat):Int) ((sIx n n hi:Nat):Int) 1)) _ _ s;rw[ny];exact A2 h
theorem tX(xs:PN G0)(i k:Nat):((List.range k).filterMap λ (m:Nat)=>xs[((i:Int)+(m:Int) * 1).toNat]?).toArray=((xs.toList.drop i).take k).toArray:=by
 have e:(λ (m:Nat)=>xs[((i:Int)+(m:Int) * 1).toNat]?)=λ m=>xs[i+m]? := by
  funext m
  have:((i:Int)+(m:Int) * 1).toNat=i+m:=⋯
  rw[this]
 rw[e];have:=pick_run xs i k;rw[List.filterMap_map]at this;have e2:((λ x=>xs[x]?)∘λ x=>i+x)=λ m=>xs[i+m]? := rfl;rw[e2]at this;rw[this]
theorem getItem_tuple_cut{t sl:PK}{items:PN G0}{vl vu:G0}{lo hi:PM Int}{Q:G0->F6->Prop}(ht:IsTup s.heap t items)(hs:s.heap.IsSliceOf sl vl vu .none)(pl:IsPart vl lo)(pu:IsPart vu hi)
  (hw:¬ (sIx items.size 0 lo=0/\sIx items.size items.size hi=items.size))
  (h:Q (.ref s.heap.objs.size) { s with heap:=s.heap.push { cls:=.type "tuple",data:=.seq ((items.toList.drop (sIx items.size 0 lo)).take (sIx items.size items.size hi - sIx items.size 0 lo)).toArray } })
  (hsz:items.size<=sizeLine):wpAny (model prog w) A (getItem (.ref t) (.ref sl)) Q E s:=by
 have htake:sizeOk (.seq ((items.toList.drop (sIx items.size 0 lo)).take (sIx items.size items.size hi - sIx items.size 0 lo)).toArray):=by change((items.toList.drop (sIx items.size 0 lo)).take (sIx items.size items.size hi - sIx items.size 0 lo)).toArray.size<=sizeLine;rw[I9,J2,List.length_drop,N4];omega
 have hj:sIx items.size items.size hi<=items.size:=tW _ _ (B3 _) hi;obtain⟨os,hos,hcs,hds⟩:=id hs;have hTs:s.TypeIs (.ref sl) "slice" := %[os,hos|hcs]
 unfold getItem
 try with_reducible show Ph ?_
 first | show A0 (A2 ?_) | skip
 show A0 (wpAny_sequenceKey ht.typeIs ∅ ?_);show A0 (wpAny_callSpecial?_slot (name:=Str.ofString "__getitem__") ht.typeIs Pu
  (F3 Pu ht.typeIs entry_tuple_getitem ?_ (args_tuple_getitem _ _)))
 change wpAny _ _ (Builtin.Tuple.tupleItemsOf (.ref t) >>= _) _ _ s;show A0 (tupleItemsOf_ ht ?_);show A0 (wpAny_typeOf hTs ?_);rw[Pa ∅];show A0 (dO hs pl pu ?_);have hno:¬ ((((sIx items.size 0 lo:Nat):Int) == 0 && (1:Int) == 1 && (sIx items.size items.size hi - sIx items.size 0 lo) == items.size)=true):=by intro q;rw[M6,M6]at q;have q1:((sIx items.size 0 lo:Nat):Int)=0:=eq_of_beq q.1.1;have q2:sIx items.size items.size hi - sIx items.size 0 lo=items.size:=eq_of_beq q.2;exact hw %[⋯|⋯]
 change wpAny _ _ (if (((sIx items.size 0 lo:Nat):Int) == 0 && (1:Int) == 1 && (sIx items.size items.size hi - sIx items.size 0 lo) == items.size)=true then _ else _) _ _ s;rw[PZ hno,tX]
 first
  | exact A0 (m:=Builtin.Tuple.tupleExact _) (F4 (A2 ⟨_,rfl,A2 h⟩) htake)
  | exact A0 (m:=Builtin.Tuple.tupleExact _) (F4 (A0 (A2 (A2 ⟨_,rfl,A2 h⟩))) htake)
  | exact A0 (A0 (m:=Builtin.Tuple.tupleExact _) (F4 (A2 (A2 ⟨_,rfl,A2 h⟩)) htake))
  | exact A0 (A0 (m:=Builtin.Tuple.tupleExact _) (F4 (A2 ⟨_,rfl,A2 h⟩) htake))
end
end HT
namespace L2
open PySem PySem.Spec PyProof.Rows
abbrev TO:=St->Hp->(PM Int->Hp->Prop)->Prop
def PO(X:Cx)(e:PM Expr)(t:TO):Prop :=
 ∀(PR:RC)(s:F6)(σ:St)(H:Hp)(Q:PM Int->Hp->Prop),Inv X PR σ H s->t σ H Q ->
  wpAny (model X.prog X.w) X.A (evalPart e X.env) (λ u s'=>∃o H',Inv X PR σ H' s'/\IsPart u o/\Q o H') X.xe s
def wM:TO:=λ _ H Q=>Q none H
def AU(t:TE):TO:=λ σ H Q=>t σ H λ x H1=>∃i,x=.int i/\Q (some i) H1
section
variable{X:Cx}{e:Expr}{te:TE}{lo hi:PM Expr}{tl th:TO}{pos p2:Pos}
theorem ic:PO X none wM:=by intro PR s σ H Q I h;rw[evalPart_none];exact A2 %[none,H,I,.none|h]
theorem fh(h:PE X e te):PO X (some e) (AU te):=by intro PR s σ H Q I hw;rw[evalPart_some];show thn (h PR s σ H _ I hw) ?_;rintro u s1 ⟨x,H1,I1,r1,q1⟩;obtain⟨i,rfl,q⟩:=q1;obtain⟨t,rfl⟩:=r1;exact%[some i,H1,I1,.int i t|q]
def SlR(X:Cx)(r:V->PM Int->PM Int->Hp->VK->Prop):Prop :=
 ∀(PR:RC)(s:F6)(σ:St)(H:Hp)(x:V)(v vl vu:G0)(lo hi:PM Int)(sl:PK)(Q:VK),Inv X PR σ H s->RelV x v->s.heap.IsSliceOf sl vl vu .none->IsPart vl lo->IsPart vu hi->r x lo hi H Q ->
  ∃T id,typeLookup (.type T) "__getitem__" = pure (some (.builtin id))/\s.TypeIs v T/\wpAny (model X.prog X.w) X.A (getItem v (.ref sl)) (EP X PR σ Q) X.xe s
def tSl(r:V->PM Int->PM Int->Hp->VK->Prop)(te:TE)(tl th:TO):TE:=λ σ H Q=>te σ H λ x H1=>tl σ H1 λ l H2=>th σ H2 λ u H3=>r x l u H3 Q
theorem eS{r:V->PM Int->PM Int->Hp->VK->Prop}(hr:SlR X r)(he:PE X e te)(hl:PO X lo tl)(hu:PO X hi th):PE X (.Subscript e (.Slice lo hi none p2) pos) (tSl r te tl th):=by intro PR s σ H Q I h;show Subscript_ (thn (he PR s σ H _ I h) ?_);rintro v s1 ⟨x,H1,I1,r1,q1⟩;show wpAny_Slice (thn (hl PR s1 σ H1 _ I1 q1) ?_);rintro vl s2 ⟨l,H2,I2,pl,q2⟩;show thn (hu PR s2 σ H2 _ I2 q2) ?_;rintro vu s3 ⟨u,H3,I3,pu,q3⟩;rw[evalPart_none];show A2 ?_;have I4:Inv X PR σ H3 { s3 with heap:=s3.heap.push { cls:=.type "slice",data:=.fields #[vl,vu,.none] } }:=I3.kept (t':=s3.toks) λ b ob q=>A7 _ q;obtain⟨T,id,hT,ht,hg⟩:=hr PR { s3 with heap:=s3.heap.push { cls:=.type "slice",data:=.fields #[vl,vu,.none] } } σ H3 x v vl vu l u s3.heap.objs.size Q I4 r1 (Heap.IsSliceOf.new ..) pl pu q3;change wpAny (model X.prog X.w) X.A (subscriptTail e (.Slice lo hi none p2) v (.ref s3.heap.objs.size)) (EP X PR σ Q) X.xe { s3 with heap:=s3.heap.push { cls:=.type "slice",data:=.fields #[vl,vu,.none] } };exact tail_any (ops:=[.ref s3.heap.objs.size,v]) ht hT hg (by with_unfolding_all rfl)
def lR(xs:PP V)(lo hi:PM Int):PP V:=(xs.drop (HT.sIx xs.length 0 lo)).take (HT.sIx xs.length xs.length hi - HT.sIx xs.length 0 lo)
theorem lS(xs:PP V)(lo hi:PM Int):(lR xs lo hi).length<=xs.length:=by unfold lR;rw[J2,List.length_drop];omega
def AV(K:C5):V->PM Int->PM Int->Hp->VK->Prop:=λ x lo hi H Q=>∃a xs,x=.ref a/\SqT K H a xs /\
 ¬ (HT.sIx xs.length 0 lo=0/\HT.sIx xs.length xs.length hi=xs.length)/\∀p,H p=none->Q (.ref p) (upd H p (.tup (lR xs lo hi)))
theorem iH:SlR X (AV X.K):=by
 intro PR s σ H x v vl vu lo hi sl Q I rx hs pl pu h;obtain⟨a,xs,rfl,hx,hw,q⟩:=h;cases rx;obtain⟨its,r,ht,hz⟩:=I.tuple hx;have PV:its.toArray.size=xs.length:=by rw[I9];exact r.length.symm
 show%["tuple",_,PyProof.Rows.slot_tuple_getitem.lookup,ht.typeIs|?_];show HT.getItem_tuple_cut ht hs pl pu (by rw[PV];exact hw) ?_ (by rw[PV];exact hz);rw[PV];show%[.ref s.heap.objs.size,_,I.laid (t':=s.toks) (o:=.tup (lR xs lo hi)) (λ b ob q=>A7 _ q) (B3 _) ?_,O|q _ (I.hok.fresh (B3 _))];exact%[C6 (lS xs lo hi) hz,_,(r.drop (HT.sIx xs.length 0 lo)).take (HT.sIx xs.length xs.length hi - HT.sIx xs.length 0 lo)|IsTup.new _ _]
def AW(K:C5):R2:=λ x y H Q=>∃a b xs ys,x=.ref a/\y=.ref b/\SqT K H a xs/\SqT K H b ys/\xs≠[]/\xs.length+ys.length<=sizeLine /\
 (ys=[]->Q (.ref a) H)/\(ys≠[]->∀p,H p=none->Q (.ref p) (upd H p (.tup (xs ++ ys))))
theorem Vals.nil_iff{xs:PP V}{us:PP G0}(r:Vals xs us):us=[]↔xs=[]:=by
 cases r with
 | nil=>simp
 | cons _ _=>simp
theorem wN:OpR X (binaryOp .Add) (AW X.K):=by intro PR s σ H x y v u Q I rx ry h;obtain⟨a,b,xs,ys,rfl,rfl,ha,hb,hx,hz,q1,q2⟩:=h;cases rx;cases ry;obtain⟨its,r1,p1,_⟩:=I.tuple ha;obtain⟨its2,r2,p2,_⟩:=I.tuple hb;show HT.cat_tup p1 p2 (λ z=>hx (r1.nil_iff.mp z)) (λ z=>%[.ref a,H,I,O|q1 (r2.nil_iff.mp z)]) (λ z=>?_) (by rw[<- r1.length,<- r2.length];exact hz);show%[.ref s.heap.objs.size,_,I.laid (t':=s.toks) (o:=.tup (xs ++ ys)) (λ b ob q=>A7 _ q) (B3 _) ?_,O|q2 (λ w=>z (r2.nil_iff.mpr w)) _ (I.hok.fresh (B3 _))];exact%[by rw[G8];exact hz,_,r1.append r2|IsTup.new _ _]
end
def ixN(n:Nat)(i:Int):PM Nat:=if 0<=i then(if i < n then some i.toNat else none)else if -(n:Int)<=i then some (i+n).toNat else none
def atI{α:Type}(xs:PP α)(i:Int):PM α:=(ixN xs.length i).bind λ j=>xs[j]?
theorem oP{n:Nat}{i:Int}{j:Nat}(h:ixN n i=some j):seqIndex? i n=some j/\j < n/\-(n:Int)<=i/\i < n:=by
 unfold ixN at h
 by_cases h0:0<=i
 ·rw[Pa h0]at h
  by_cases h1:i < n
  ·rw[Pa h1]at h;have e:i.toNat=j:=B8 h;exact%[by rw[seqIndex_of h0 h1,e],⋯,⋯|h1]
  ·rw[PZ h1]at h;cases h
 ·rw[PZ h0]at h
  by_cases h1:-(n:Int)<=i
  ·rw[Pa h1]at h;have e:(i+n).toNat=j:=B8 h;exact%[by rw[seqIndex_neg ⋯ h1,e],⋯,h1|⋯]
  ·rw[PZ h1]at h;cases h
theorem ie{α:Type}{xs:PP α}{i:Int}{v:α}(h:atI xs i=some v):∃j,seqIndex? i xs.length=some j/\xs[j]?=some v/\j < xs.length/\-(xs.length:Int)<=i/\i < xs.length:=by
 unfold atI at h;cases e:ixN xs.length i with
 | none=>rw[e]at h;cases h
 | some j=>
  rw[e]at h;obtain⟨h1,h2,h3,h4⟩:=oP e;exact%[j,h1,h,h2,h3|h4]
theorem gf{α:Type}{xs:PP α}{j:Nat}{v:α}(h:xs[j]?=some v):atI xs (j:Int)=some v:=by
 have hj:j < xs.length:=(A6.mp h).1;have e:ixN xs.length (j:Int)=some j:=by unfold ixN;rw[Pa ⋯,Pa ⋯];simp
 unfold atI;rw[e];exact h
def wO(b:Expr):Prop:=∀o i,subscripted b false o i=operate [o,i] (getItem o i)
def IxR(X:Cx)(r:R2):Prop :=
 ∀(value slice:Expr)(PR:RC)(s:F6)(σ:St)(H:Hp)(x y:V)(v u:G0)(Q:VK),Inv X PR σ H s->RelV x v->RelV y u->r x y H Q ->
  subscripted slice false v u=operate [v,u] (getItem v u)->wpAny (model X.prog X.w) X.A (subscriptTail value slice v u) (EP X PR σ Q) X.xe s
def MtR(X:Cx)(id:String)(r:V->PP V->Hp->VK->Prop):Prop :=
 ∀(PR:RC)(s:F6)(σ:St)(H:Hp)(x:V)(xs:PP V)(v:G0)(us:PP G0)(Q:VK),Inv X PR σ H s->RelV x v->Vals xs us->r x xs H Q ->
  wpAny (model X.prog X.w) X.A (call (.builtin id) (v :: us)) (EP X PR σ Q) X.xe s
section
variable{X:Cx}{a b:Expr}{ta tb:TE}{pos:Pos}
theorem IxR.or{r r':R2}(h:IxR X r)(h':IxR X r'):IxR X (λ x y H Q=>r x y H Q\/r' x y H Q):=by
 intro value slice PR s σ H x y v u Q I rx ry q hs;rcases q with q | q
 ·exact h value slice PR s σ H x y v u Q I rx ry q hs
 ·exact h' value slice PR s σ H x y v u Q I rx ry q hs
theorem aA{r:R2}(hr:IxR X r)(ha:PE X a ta)(hb:PE X b tb)(hs:wO b):PE X (.Subscript a b pos) (tOp r ta tb):=by intro PR s σ H Q I h;exact Subscript_ (za ha hb I h λ v u s2 x y H2 I2 rx ry q=>hr a b PR s2 σ H2 x y v u Q I2 rx ry q (hs _ _))
inductive rIxL(K:C5)(x:V)(y:V)(H:Hp)(Q:VK):Prop
|mk(p:PK)(xs:PP V)(i:Int)(v:V)(_:x=.ref p)(_:y=.int i)(_:SqL K H p xs)(_:atI xs i=some v)(_:Q v H)
inductive rIxT(K:C5)(x:V)(y:V)(H:Hp)(Q:VK):Prop
|mk(p:PK)(xs:PP V)(i:Int)(v:V)(_:x=.ref p)(_:y=.int i)(_:SqT K H p xs)(_:atI xs i=some v)(_:Q v H)
def AX:R2:=λ x y H Q=>∃z i c,x=.str z/\y=.int i/\z.length<=sizeLine/\atI z.cps.toList i=some c/\Q (.str %[|#[c]]) H
theorem ix_list:IxR X (rIxL X.K):=by
 intro value slice PR s σ H x y v u Q I rx ry h hs;obtain⟨p,xs,i,z,rfl,rfl,hq,he,q⟩:=h;cases rx;obtain⟨t,rfl⟩:=ry;obtain⟨its,r,pl,hz⟩:=I.list hq;obtain⟨j,h1,h2,h3,h4,h5⟩:=ie he;obtain⟨w,ew,rw'⟩:=r.get h2;have hl:=r.length;have hn:=fN;have fin:EP X PR σ Q w s:=%[z,H,I,rw'|q]
 by_cases h0:0<=i
 ·have hj:i.toNat=j:=by rw[seqIndex_of h0 h5]at h1;exact B8 h1
  exact item_listR pl.isList h0 ⋯ (by rw[hj];simpa using ew) fin hs
 ·have hj:(i+(its.toArray.size:Int)).toNat=j:=by rw[seqIndex_neg ⋯ h4]at h1;rw[I9,<- hl];exact B8 h1
  exact subscriptTail_builtinR (x:=w) pl.isList.typeIs slot_list_getitem.lookup
   (wpAny_getItem_list_neg (Q:=λ r s'=>r=w/\EP X PR σ Q r s') pl.isList ⋯ (by rw[I9] <;> omega) ⋯ (by rw[hj];simpa using ew) %[rfl|fin]) hs
theorem ix_tup:IxR X (rIxT X.K):=by
 intro value slice PR s σ H x y v u Q I rx ry h hs;obtain⟨p,xs,i,z,rfl,rfl,hq,he,q⟩:=h;cases rx;obtain⟨t,rfl⟩:=ry;obtain⟨its,r,pl,hz⟩:=I.tuple hq;obtain⟨j,h1,h2,h3,h4,h5⟩:=ie he;obtain⟨w,ew,rw'⟩:=r.get h2;have hl:=r.length;have hn:=fN;have fin:EP X PR σ Q w s:=%[z,H,I,rw'|q]
 exact subscriptTail_builtinR (x:=w) pl.typeIs slot_tuple_getitem.lookup
  (getItem_tuple (j:=j) (Q:=λ r s'=>r=w/\EP X PR σ Q r s') pl ⋯ ⋯ (by rw[I9,<- hl];exact h1) (by simpa using ew) %[rfl|fin]) hs
theorem zd:IxR X AX:=by
 intro value slice PR s σ H x y v u Q I rx ry h hs;obtain⟨z,i,c,rfl,rfl,hz,he,q⟩:=h;obtain⟨t,rfl⟩:=rx;obtain⟨t',rfl⟩:=ry;obtain⟨j,h1,h2,h3,h4,h5⟩:=ie he;have hl:z.cps.toList.length=z.length:=by simp[Str.length]
 rw[hl]at h1 h4 h5;have hn:=fN;exact tail_any (typeIs_str s z t) slot_str_getitem.lookup (getItem_str (c:=c) (by
  have e1:decide (i < -(2 ^ 63:Int))=false:=B1 ⋯;have e2:decide (i≥2 ^ 63)=false:=B1 ⋯;rw[e1,e2,Bool.or_false]) (by rw[h1];simpa using h2) %[.str %[|#[c]],H,I.tok _,%[_|rfl]|q]) hs
def rIx(K:C5):R2:=λ x y H Q=>rIxL K x y H Q\/rIxT K x y H Q\/AX x y H Q
theorem dw:IxR X (rIx X.K):=ix_list.or (ix_tup.or zd)
theorem nA(its:PP G0)(n j:Nat)(u:G0):Obj.mapSeq (·.setIfInBounds j u) { cls:=.type "list",data:=.seq its.toArray n }={ cls:=.type "list",data:=.seq (its.set j u).toArray n }:=by simp[Obj.mapSeq]
theorem Inv.lst{PR:RC}{σ:St}{H:Hp}{s:F6}{p:PK}{xs:PP V}(I:Inv X PR σ H s)(h:H p=↥xs) :
  ∃(its:PP G0)(n:Nat),Vals xs its/\s.heap.get? p=some { cls:=.type "list",data:=.seq its.toArray n }/\xs.length<=sizeLine:=by
 obtain⟨z,its,n,r,e⟩:=I.hok p _ h;exact%[its,n,r,e|z]
theorem Inv.lstUpd{PR:RC}{σ:St}{H:Hp}{s:F6}{p:PK}{xs ys:PP V}{its its':PP G0}{n n':Nat}{f:Obj->Obj}(I:Inv X PR σ H s)(h:H p=↥xs)
  (ho:s.heap.get? p=some { cls:=.type "list",data:=.seq its.toArray n }) (hf:f { cls:=.type "list",data:=.seq its.toArray n }={ cls:=.type "list",data:=.seq its'.toArray n' }) (r:Vals ys its') (hz:ys.length<=sizeLine) (t:Nat) :
  Inv X PR σ (upd H p (.lst ys)) { s with heap:=s.heap.update p f,toks:=t }:=by
 have e:(s.heap.update p f).get? p=some { cls:=.type "list",data:=.seq its'.toArray n' }:=by rw[Heap.get?_update_self f ho (by rw[hf] <;> rfl),hf]
 show I.write (x:=p) (e:=p) (by rw[h];trivial) (.inl rfl) (λ b u hb q=>(Heap.get?_update_other _ _ (Ne.symm hb)).trans q) %[_|e] ?_;exact%[hz,its',n',r|e]
inductive rSetL(o:V)(i:V)(v:V)(H:Hp)(Q:Hp->Prop):Prop
|mk(p:PK)(xs:PP V)(k:Int)(j:Nat)(_:o=.ref p)(_:i=.int k)(_:H p=↥xs)(_:ixN xs.length k=some j)(_:Q (upd H p (.lst (xs.set j v))))
theorem eU:wD X rSetL:=by
 intro PR s σ H o i v ov iv u Q I ro ri rv h;obtain⟨p,xs,k,j,rfl,rfl,hp,hj,q⟩:=h;cases ro;obtain⟨t,rfl⟩:=ri;obtain⟨its,n,r,ho,hz⟩:=I.lst hp;obtain⟨h1,h2,h3,h4⟩:=oP hj;have hl:=r.length;have hn:=fN;have I':Inv X PR σ (upd H p (.lst (xs.set j v))) { s with heap:=s.heap.update p (Obj.mapSeq (·.setIfInBounds j u)) } :=
  I.lstUpd hp ho (nA its n j u) (r.set rv j) (by rw[List.length_set];exact hz) s.toks
 by_cases h0:0<=k
 ·have hk:k.toNat=j:=by rw[seqIndex_of h0 h4]at h1;exact B8 h1
  exact PySem.W.ki_setAt ho h0 ⋯ (by rw[I9,<- hl];exact h4) (by rw[hk];exact%[_,I'|q])
 ·have hk:(k+(its.toArray.size:Int)).toNat=j:=by rw[seqIndex_neg ⋯ h3]at h1;rw[I9,<- hl];exact B8 h1
  exact PySem.W.ki_setBack ho ⋯ (by rw[I9,<- hl];exact h3) ⋯ (by rw[hk];exact%[_,I'|q])
def gU:V->Bool
 | .non=>true
 | .bl _=>true
 | .int _=>true
 | .str _=>true
 | _=>false
def eqV:V->V->Bool
 | .non,.non=>true
 | .bl a,.bl b=>a == b
 | .bl a,.int b=>(if a then 1 else 0) == b
 | .int a,.bl b=>a == (if b then 1 else 0)
 | .int a,.int b=>a == b
 | .str a,.str b=>a == b
 | _,_=>false
theorem ze{A:Around}{s:F6}{y x:V}{u v:G0}(ry:RelV y u)(rx:RelV x v)(fy:gU y=true)(fx:gU x=true):SeqAt.EqAt A s u v (eqV y x):=by
 cases y with
 | non=>
  cases ry;cases x with
  | non=>cases rx;exact SeqAt.EqAt.same _
  | bl b=>cases rx;exact SeqAt.EqAt.none_bool b
  | int b=>obtain⟨t,rfl⟩:=rx;exact SeqAt.EqAt.none_int b t
  | str b=>obtain⟨t,rfl⟩:=rx;exact SeqAt.EqAt.none_str b t
  | _=>exact absurd (show false=true from fx) B2
 | bl a=>
  cases ry;cases x with
  | non=>cases rx;exact SeqAt.EqAt.bool_none a
  | bl b=>cases rx;exact SeqAt.EqAt.bool_bool a b
  | int b=>obtain⟨t,rfl⟩:=rx;exact SeqAt.EqAt.bool_int a b t
  | str b=>obtain⟨t,rfl⟩:=rx;exact SeqAt.EqAt.bool_str a b t
  | _=>exact absurd (show false=true from fx) B2
 | int a=>
  obtain⟨t',rfl⟩:=ry;cases x with
  | non=>cases rx;exact SeqAt.EqAt.int_none a t'
  | bl b=>cases rx;exact SeqAt.EqAt.int_bool a t' b
  | int b=>obtain⟨t,rfl⟩:=rx;exact SeqAt.EqAt.int_int a t' b t
  | str b=>obtain⟨t,rfl⟩:=rx;exact SeqAt.EqAt.int_str a t' b t
  | _=>exact absurd (show false=true from fx) B2
 | str a=>
  obtain⟨t',rfl⟩:=ry;cases x with
  | non=>cases rx;exact SeqAt.EqAt.str_none a t'
  | bl b=>cases rx;exact SeqAt.EqAt.str_bool a t' b
  | int b=>obtain⟨t,rfl⟩:=rx;exact SeqAt.EqAt.str_int a t' b t
  | str b=>obtain⟨t,rfl⟩:=rx;exact SeqAt.EqAt.str_str a t' b t
  | _=>exact absurd (show false=true from fx) B2
 | _=>exact absurd (show false=true from fy) B2
def eqU(x:V)(u:G0):Bool:=match u with
 | .none=>eqV .non x
 | .bool b=>eqV (.bl b) x
 | .int i _=>eqV (.int i) x
 | .str z _=>eqV (.str z) x
 | _=>false
theorem tY{x y:V}{u:G0}(r:RelV y u)(f:gU y=true):eqU x u=eqV y x:=by
 cases y with
 | non=>cases r;rfl
 | bl b=>cases r;rfl
 | int i=>obtain⟨t,rfl⟩:=r;rfl
 | str z=>obtain⟨t,rfl⟩:=r;rfl
 | _=>exact absurd (show false=true from f) B2
theorem gh{x:V}:∀{xs:PP V}{us:PP G0},Vals xs us->xs.all gU=true->us.any (eqU x)=xs.any λ y=>eqV y x
 | _,_,.nil,_=>rfl
 | y :: xs,u :: us,.cons r t,f=>by rw[O9,M6]at f;rw[PB,PB,tY r f.1,gh t f.2]
theorem eV{A:Around}{s:F6}{x:V}{v:G0}(rx:RelV x v)(fx:gU x=true):∀{xs:PP V}{us:PP G0},Vals xs us->xs.all gU=true->∀u∈us,SeqAt.EqAt A s u v (eqU x u)
 | _,_,.nil,_=>λ u hu=>by cases hu
 | y :: xs,u :: us,.cons r t,f=>λ u' hu=>by
  rw[O9,M6]at f;rcases G7.mp hu with rfl | hu
  ·rw[tY r f.1];exact ze r rx f.1 fx
  ·exact eV rx fx t f.2 u' hu
def inV(x:V)(xs:PP V):Bool:=xs.any λ y=>eqV y x
def rIn(K:C5)(neg:Bool):R2:=λ x y H Q=>∃p xs,y=.ref p/\(SqL K H p xs\/SqT K H p xs)/\gU x=true/\xs.all gU=true/\Q (.bl (if neg then !inV x xs else inV x xs)) H
theorem jJ:OpR X (compareOp .In) (rIn X.K false):=by
 intro PR s σ H x y v u Q I rx ry h;obtain⟨p,xs,rfl,hq,fx,fs,q⟩:=h;cases ry;rcases hq with hq | hq
 ·obtain⟨its,r,pl,hz⟩:=I.list hq;show SeqAt.in_listAt (eqU x) pl.isList (λ w hw=>eV rx fx r fs w (by simpa using hw)) %[.bl _,H,I,rfl|?_];rw[show its.toArray.any (eqU x)=its.any (eqU x)by simp,gh r fs];exact q
 ·obtain⟨its,r,pl,hz⟩:=I.tuple hq;show SeqAt.in_tupleAt (eqU x) pl (λ w hw=>eV rx fx r fs w (by simpa using hw)) %[.bl _,H,I,rfl|?_];rw[show its.toArray.any (eqU x)=its.any (eqU x)by simp,gh r fs];exact q
theorem kD:OpR X (compareOp .NotIn) (rIn X.K true):=by
 intro PR s σ H x y v u Q I rx ry h;obtain⟨p,xs,rfl,hq,fx,fs,q⟩:=h;cases ry;rcases hq with hq | hq
 ·obtain⟨its,r,pl,hz⟩:=I.list hq;show SeqAt.notIn_listAt (eqU x) pl.isList (λ w hw=>eV rx fx r fs w (by simpa using hw)) %[.bl _,H,I,rfl|?_];rw[show its.toArray.any (eqU x)=its.any (eqU x)by simp,gh r fs];exact q
 ·obtain⟨its,r,pl,hz⟩:=I.tuple hq;show SeqAt.notIn_tupleAt (eqU x) pl (λ w hw=>eV rx fx r fs w (by simpa using hw)) %[.bl _,H,I,rfl|?_];rw[show its.toArray.any (eqU x)=its.any (eqU x)by simp,gh r fs];exact q
inductive rz_call_len_seq(K:C5)(xs:PP V)(H:Hp)(Q:VK):Prop
|mk(p ys:_)(_:xs=[.ref p])(_:(SqL K H p ys\/SqT K H p ys))(_:Q (.int ys.length) H)
theorem aY:cU X (.builtin "len") (rz_call_len_seq X.K):=by
 intro PR s σ H xs us Q I r h;obtain⟨p,ys,rfl,hq,q⟩:=h;obtain⟨u,rfl,rx⟩:=dN r;cases rx;have hn:=fN;rcases hq with hq | hq
 ·obtain⟨its,r',pl,hz⟩:=I.list hq;have PV:=r'.length;exact Calls.call_len_list pl.isList (by simp only[I9] <;> omega) %[.int ys.length,H,I.tok _,%[s.toks+1|by rw[I9,PV]]|q]
 ·obtain⟨its,r',pl,hz⟩:=I.tuple hq;have PV:=r'.length;exact len_tuple pl (by simp only[I9] <;> omega) %[.int ys.length,H,I.tok _,%[s.toks+1|by rw[I9,PV]]|q]
inductive rz_call_list_of(K:C5)(xs:PP V)(H:Hp)(Q:VK):Prop
|mk(p ys:_)(_:xs=[.ref p])(_:(SqL K H p ys\/SqT K H p ys))(_:∀l,H l=none->Q (.ref l) (upd H l (.lst ys)))
theorem cI:cU X (.type "list") (rz_call_list_of X.K):=by
 intro PR s σ H xs us Q I r h;obtain⟨p,ys,rfl,hq,q⟩:=h;obtain⟨u,rfl,rx⟩:=dN r;cases rx;have fin:∀(its:PP G0),Vals ys its->ys.length<=sizeLine->∀(h':Heap)(c':Nat),(∀b o',s.heap.get? b=some o'->h'.get? b=some o') ->
   h'.get? s.heap.objs.size=some { cls:=.type "list",dict:=none,data:=.seq its.toArray c',slots:=#[] }->EP X PR σ Q (.ref s.heap.objs.size) { s with heap:=h' }:=λ its r' hz h' c' kp e=>
  %[.ref s.heap.objs.size,_,I.laid (t':=s.toks) kp (B3 _) (show ObjOk X.prog X.w _ h' _ (.lst ys)from%[hz,its,c',r'|e]),rfl|q _ (I.hok.fresh (B3 _))]
 rcases hq with hq | hq
 ·obtain⟨its,r',pl,hz⟩:=I.list hq;have PV:=r'.length;obtain⟨o,ho,hc,n,hd⟩:=pl.isList;exact call_list_seq p (.inl rfl) ho hc hd (λ h' c' kp e=>fin its r' hz h' c' kp e) (by simp only[I9] <;> omega)
 ·obtain⟨its,r',pl,hz⟩:=I.tuple hq;have PV:=r'.length;obtain⟨o,ho,hc,n,hd⟩:=pl;exact call_list_seq p (.inr rfl) ho hc hd (λ h' c' kp e=>fin its r' hz h' c' kp e) (by simp only[I9] <;> omega)
inductive rz_call_tuple_of(K:C5)(xs:PP V)(H:Hp)(Q:VK):Prop
|mk(p ys:_)(_:xs=[.ref p])(_:((SqL K H p ys/\∀l,H l=none->Q (.ref l) (upd H l (.tup ys)))\/(SqT K H p ys/\Q (.ref p) H)))
theorem cw:cU X (.type "tuple") (rz_call_tuple_of X.K):=by
 intro PR s σ H xs us Q I r h;obtain⟨p,ys,rfl,h⟩:=h;obtain⟨u,rfl,rx⟩:=dN r;cases rx;rcases h with⟨hq,q⟩ | ⟨hq,q⟩
 ·obtain⟨its,r',pl,hz⟩:=I.list hq;have PV:=r'.length;show call_tuple_list pl.isList (λ h' kp=>?_) (by simp only[I9] <;> omega);have I1:Inv X PR σ H { s with heap:=h' }:=I.kept (t':=s.toks) kp;have I2:Inv X PR σ (upd H h'.objs.size (.tup ys)) { s with heap:=h'.push { cls:=.type "tuple",data:=.seq its.toArray } } :=
   I1.laid (t':=s.toks) (λ b o e=>A7 _ e) (B3 _) (show ObjOk X.prog X.w _ _ _ (.tup ys)from%[hz,its,r'|IsTup.new _ _])
  exact%[.ref h'.objs.size,_,I2,O|q _ (I1.hok.fresh (B3 _))]
 ·obtain⟨its,r',pl,hz⟩:=I.tuple hq;exact call_tuple_same pl %[.ref p,H,I,rfl|q]
def tyV(K:C5)(T:String)(x:V)(H:Hp):Prop:=match x with
 | .str _=>T = "str"
 | .int _=>T = "int"
 | .ref p=>(T = "list" /\ ∃xs,SqL K H p xs)\/(T = "tuple" /\ ∃o,K.lookup p=some o/\o.cls=.type "tuple" /\ o.dict=none) \/
   (T = "dict" /\ ((∃kvs,H p=some (.dK kvs))\/False))\/False
 | _=>False
theorem tZ{PR:RC}{σ:St}{H:Hp}{s:F6}{T:String}{x:V}{v:G0}(I:Inv X PR σ H s)(r:RelV x v)(ty:tyV X.K T x H) :
  s.TypeIs v T/\∀a,v=.ref a->∃ob,s.heap.get? a=some ob/\ob.dict=none:=by
 cases x with
 | str z=>
  obtain⟨t,rfl⟩:=r;cases(show T = "str" from ty);exact%[typeIs_str s z t|λ _ e=>nomatch e]
 | int i=>
  obtain⟨t,rfl⟩:=r;cases(show T = "int" from ty);exact%[typeIs_int s i t|λ _ e=>nomatch e]
 | ref p=>
  cases r;rcases ty with⟨rfl,xs,hq⟩ | ⟨rfl,o,hk,hc,hd⟩ | ⟨rfl,⟨kvs,hk⟩ | hk⟩ | hk
  ·obtain⟨its,_,pl,_⟩:=I.list hq;show%[pl.isList.typeIs|λ a e=>?_];cases e;obtain⟨o,n,e,c,hd,_⟩:=pl;exact%[o,e|hd]
  ·show%[%[o,I.kIn p o hk|hc]|λ a e=>?_];cases e;exact%[o,I.kIn _ o hk|hd]
  ·obtain⟨_,_,_,_,o,_,_,e,ex,_⟩:=I.hok p _ hk;show%[%[o,e|ex.1]|λ a e2=>?_];cases e2;exact%[o,e|ex.2.1]
  ·exact hk.elim
  ·exact hk.elim
 | _=>exact E7 ty
def LF(K:C5)(T:String)(r:V->PP V->Hp->VK->Prop)(to:TE):TE:=λ σ H Q=>to σ H λ x H1=>tyV K T x H1/\r x [] H1 Q
def tBM(K:C5)(T:String)(r:V->PP V->Hp->VK->Prop)(to:TE)(t:TA):TE:=λ σ H Q=>to σ H λ x H1=>tyV K T x H1/\t σ H1 λ xs H2=>r x xs H2 Q
variable{o e:Expr}{es:PP Expr}{to:TE}{t:TA}{name:Str}{apos cpos:Pos}{T id:String}{r:V->PP V->Hp->VK->Prop}
theorem gJ(pa:PlainAttrs T)(slot:Slot T name id)(hty:typeOf (.builtin id)=pure (.type "method_descriptor"))(hm:MtR X id r)(ho:PE X o to)
  (hbase:attributeBase o name X.env (eval o X.env)=eval o X.env:=by rfl) (hline:(apos.endLine == cpos.line)=true:=by rfl):PE X (.Call (.Attribute o name apos) [] [] cpos) (LF X.K T r to):=by
 intro PR s σ H Q I h;show wpAny_Call_method0_late hbase hline (thn (ho PR s σ H _ I h) ?_);rintro v s1 ⟨x,H1,I1,r1,ty,q1⟩;obtain⟨h1,h2⟩:=tZ I1 r1 ty;exact%[T,id,pa,slot,hty,h1,h2|Calls.callWith_builtin rfl (PySem.evalArgs_none (hm PR s1 σ H1 x [] v [] Q I1 r1 .nil q1))]
theorem dB(pa:PlainAttrs T)(slot:Slot T name id)(hty:typeOf (.builtin id)=pure (.type "method_descriptor"))(hm:MtR X id r)(ho:PE X o to)(ha:PA X (e :: es) t)
  (hbase:attributeBase o name X.env (eval o X.env)=eval o X.env:=by rfl)
  (hfew:((backTo cpos (starEach (e :: es) X.env)).all (λ x=>!x.1) && (backToKw cpos (keywordEach [] X.env)).all (λ x=>x.1.isSome)
   && decide ((e :: es).length+([]:PP Keyword).length+(if ([]:PP Keyword).isEmpty then 0 else 1) < 30))=true:=by rfl)
  (hline:(apos.endLine == cpos.line)=true:=by rfl) (hs:starEach (e :: es) X.env=(false,eval e X.env) :: starEach es X.env:=by rfl) (hplain:(backTo cpos (starEach es X.env)).any (·.1)=false:=by rfl) :
  PE X (.Call (.Attribute o name apos) (e :: es) [] cpos) (tBM X.K T r to t):=by
 intro PR s σ H Q I h;show wpAny_Call_method_late hbase hfew hline rfl (thn (ho PR s σ H _ I h) ?_);rintro v s1 ⟨x,H1,I1,r1,ty,q1⟩;obtain⟨h1,h2⟩:=tZ I1 r1 ty;show%[T,id,pa,slot,hty,h1,h2|?_];have hA:=ha cpos PR s1 σ H1 _ I1 q1;rw[hs]at hA ⊢;show Calls.callWith_builtin (by change(false || (backTo cpos (starEach es X.env)).any (·.1))=false;rw[hplain] <;> rfl) (Calls.evalArgs_plain ?_);exact thn hA λ us s2 %[vs,H2,I2,r2|q2]=>hm PR s2 σ H2 x vs v us Q I2 r1 r2 q2
/- xs.append(e),list.index on a module's tuple .. are MtR facts of 06m -/
end
def MtM(X:Cx)(id:String)(r:V->PP V->Hp->VK->Prop):Prop :=
 ∀(PR:RC)(s:F6)(σ:St)(H:Hp)(x:V)(xs:PP V)(v:G0)(us:PP G0)(Q:VK),Inv X PR σ H s->RelV x v->Vals xs us->r x xs H Q ->
  wpAny (model X.prog X.w) X.A (call (.builtin id) (v :: us)) (EP X PR σ Q) X.xe s
theorem Vals.one:∀{x:V}{us:PP G0},Vals [x] us->∃u,us=[u]/\RelV x u
 | _,_,.cons r .nil=>%[_,O|r]
theorem Vals.zero:∀{us:PP G0},Vals [] us->us=[]
 | _,.nil=>rfl
theorem Vals.dropLast{xs:PP V}{us:PP G0}(h:Vals xs us):Vals xs.dropLast us.dropLast:=by
 induction h with
 | nil=>exact .nil
 | cons r t ih=>
  cases t with
  | nil=>exact .nil
  | cons q t'=>exact .cons r ih
theorem Vals.rep{xs:PP V}{us:PP G0}(h:Vals xs us):∀k:Nat,Vals (List.replicate k xs).flatten (List.replicate k us).flatten
 | 0=>.nil
 | k+1=>by rw[OZ,OZ,List.flatten_cons,List.flatten_cons];exact Vals.append h (Vals.rep h k)
theorem nC{α:Type}(l:PP α):l.eraseIdx (l.length - 1)=l.dropLast:=by
 induction l with
 | nil=>rfl
 | cons a r ih=>
  cases r with
  | nil=>rfl
  | cons b r=>
   have e:(a :: b :: r).length - 1=((b :: r).length - 1)+1:=by have h1:(a :: b :: r).length=r.length+2:=rfl;have h2:(b :: r).length=r.length+1:=rfl;omega
   rw[e,List.eraseIdx_cons_succ,ih]
   all_goals rfl
theorem jK(its:PP G0):∀(k:Nat)(acc:PP G0),
  List.foldl (λ x1 x2=>x1 ++ x2) acc.toArray (List.replicate k its.toArray)=(acc ++ (List.replicate k its).flatten).toArray
 | 0,acc=>by simp
 | k+1,acc=>by
  have e:acc.toArray ++ its.toArray=(acc ++ its).toArray:=by simp
  have e2:(acc ++ its) ++ (List.replicate k its).flatten=acc ++ (List.replicate (k+1) its).flatten:=by rw[OZ,List.flatten_cons,K9]
  rw[<- e2,<- jK its k (acc ++ its),<- e,OZ,List.foldl_cons]
section
variable{X:Cx}{PR:RC}{σ:St}{H:Hp}{s:F6}{l b:PK}{xs ys zs:PP V}
theorem Inv.lset{its its':PP G0}{n:Nat}{f:PN G0->PN G0}{t':Nat}(I:Inv X PR σ H s)(hH:H l=↥xs)
  (e:s.heap.get? l=some { cls:=.type "list",data:=.seq its.toArray n }) (hf:f its.toArray=its'.toArray) (hv:Vals ys its') (hz:ys.length<=sizeLine) :
  Inv X PR σ (upd H l (.lst ys)) { s with heap:=s.heap.update l (Obj.mapSeq f),toks:=t' }:=by
 have q:=PySem.IsL.update e f;rw[hf]at q;show I.write (x:=l) (e:=l) (by rw[hH];exact trivial) (.inl rfl) (λ b' u hb hu=>(Heap.get?_update_other s.heap (Obj.mapSeq f) (Ne.symm hb)).trans hu) %[_|q] ?_;exact%[hz,its',_,hv|q]
theorem Inv.lnew{its:PP G0}{t':Nat}(I:Inv X PR σ H s)(hv:Vals ys its)(hz:ys.length<=sizeLine) :
  Inv X PR σ (upd H s.heap.objs.size (.lst ys)) { s with heap:=s.heap.push { cls:=.type "list",data:=.seq its.toArray },toks:=t' } :=
 I.laid (λ _ _ q=>A7 _ q) (B3 _) %[hz,its,0,hv|A8 _ rfl]
theorem Inv.fresh(I:Inv X PR σ H s):H s.heap.objs.size=none:=I.hok.fresh (B3 _)
theorem Inv.lstM(I:Inv X PR σ H s)(hH:H l=↥xs):xs.length<=sizeLine/\∃(its:PP G0)(n:Nat),Vals xs its/\xs.length=its.length/\s.heap.get? l=some { cls:=.type "list",data:=.seq its.toArray n }:=by obtain⟨z,its,n,r,e⟩:=I.hok l _ hH;exact%[z,its,n,r,r.length|e]
theorem lT{n:Nat}(h:n<=sizeLine):Builtin.List.listTooLong n=false:=by unfold Builtin.List.listTooLong;exact B1 ⋯
end
section
variable{X:Cx}
inductive rAppend(x:V)(vs:PP V)(H:Hp)(Q:VK):Prop
|mk(l:PK)(xs:PP V)(y:V)(_:x=.ref l)(_:vs=[y])(_:H l=↥xs)(_:xs.length < sizeLine)(_:Q .non (upd H l (.lst (xs ++ [y]))))
theorem bE:MtM X "list.append" rAppend:=by intro PR s σ H x vs v us Q I rx rv h;obtain⟨l,xs,y,rfl,rfl,hH,hz,q⟩:=h;cases rx;obtain⟨u,rfl,ru⟩:=rv.one;obtain⟨z,its,n,r,hl,e⟩:=I.lstM hH;show call_meets F.slot_list_append %[_,e|O] F.entry_list_append (F.args_list_append_2 _ _) (PySem.list_append l its.toArray n u (by rw[I9];omega)) %[e|?_];show%[.non,_,I.lset (its':=its ++ [u]) hH e (by simp) (r.append (.cons ru .nil)) ?_,O|q];rw[G8,List.length_singleton];omega
def wP:V->PP V->Hp->VK->Prop:=λ x vs H Q=>∃l b xs zs,x=.ref l/\vs=[.ref b]/\H l=↥xs/\H b=↥zs/\xs.length+zs.length<=sizeLine/\Q .non (upd H l (.lst (xs ++ zs)))
theorem jL:MtM X "list.extend" wP:=by
 intro PR s σ H x vs v us Q I rx rv h;obtain⟨l,b,xs,zs,rfl,rfl,hH,hB,hz,q⟩:=h;cases rx;obtain⟨u,rfl,ru⟩:=rv.one;cases ru;obtain⟨z,its,n,r,hl,e⟩:=I.lstM hH;obtain⟨z2,its2,n2,r2,hl2,e2⟩:=I.lstM hB;have hsz:its.toArray.size+its2.toArray.size<=sizeLine:=by rw[I9,I9];omega
 have hlong:¬ (!its.toArray.isEmpty && Builtin.List.listTooLong (its.toArray.size+its2.toArray.size))=true:=by rw[lT hsz,K4];exact B2
 show call_meets F.slot_list_extend %[_,e|O] F.entry_list_extend (F.args_list_extend_2 _ _)
  (AutoSeq1.list_extend_list_list_0 l its.toArray n b its2.toArray n2 hlong (by rw[I9];omega) ⋯) %[e,e2|?_]
 show%[.non,_,I.lset (its':=its ++ its2) hH e (by simp) (r.append r2) ?_,O|q];rw[G8];omega
def LG:V->PP V->Hp->VK->Prop:=λ x vs H Q=>∃l xs y,x=.ref l/\vs=[]/\H l=↥xs/\xs[xs.length - 1]?=some y/\Q y (upd H l (.lst xs.dropLast))
theorem kF:MtM X "list.pop" LG:=by
 intro PR s σ H x vs v us Q I rx rv h;obtain⟨l,xs,y,rfl,rfl,hH,hy,q⟩:=h;cases rx;have hus:=rv.zero;subst hus;obtain⟨z,its,n,r,hl,e⟩:=I.lstM hH;obtain⟨u,hu,ru⟩:=r.get hy;have hy':its.toArray[its.toArray.size - 1]?=some u:=by change its.toArray[its.length - 1]?=some u;rw[<- M9,<- hl];exact hu
 show call_meets F.slot_list_pop %[_,e|O] F.entry_list_pop (F.args_list_pop_1 _) (MeetsSeq.list_pop_last l its.toArray n u hy' (by rw[I9];omega)) %[e|?_];show%[y,_,I.lset (its':=its.dropLast) hH e ?_ r.dropLast ?_,ru|q]
 ·change its.toArray.eraseIdxIfInBounds (its.toArray.size - 1)=its.dropLast.toArray;rw[I9,List.eraseIdxIfInBounds_toArray,nC]
 ·rw[List.length_dropLast];omega
def zf:V->PP V->Hp->VK->Prop:=λ x vs H Q=>∃l xs,x=.ref l/\vs=[]/\H l=↥xs/\Q .non (upd H l (.lst []))
theorem lU:MtM X "list.clear" zf:=by intro PR s σ H x vs v us Q I rx rv h;obtain⟨l,xs,rfl,rfl,hH,q⟩:=h;cases rx;have hus:=rv.zero;subst hus;obtain⟨z,its,n,r,hl,e⟩:=I.lstM hH;show call_meets F.slot_list_clear %[_,e|O] F.entry_list_clear (F.args_list_clear_1 _) (AutoSeq1.list_clear_list_0 l its.toArray n (by rw[I9];omega)) %[e|?_];exact%[.non,_,I.lset (its':=[]) (ys:=[]) hH e rfl .nil (E8 _),O|q]
inductive rCat(x:V)(y:V)(H:Hp)(Q:VK):Prop
|mk(l b:PK)(xs zs:PP V)(_:x=.ref l)(_:y=.ref b)(_:H l=↥xs)(_:H b=↥zs)(_:xs.length+zs.length<=sizeLine)(_:∀p,H p=none->Q (.ref p) (upd H p (.lst (xs ++ zs))))
theorem kG:OpR X (binaryOp .Add) rCat:=by
 intro PR s σ H x y v u Q I rx ry h;obtain⟨l,b,xs,zs,rfl,rfl,hH,hB,hz,q⟩:=h;cases rx;cases ry;obtain⟨z,its,n,r,hl,e⟩:=I.lstM hH;obtain⟨z2,its2,n2,r2,hl2,e2⟩:=I.lstM hB;show PySem.P.add_list e e2 ?_ (by rw[I9,I9];omega);have ea:its.toArray ++ its2.toArray=(its ++ its2).toArray:=by simp
 rw[ea];exact%[.ref _,_,I.lnew (t':=s.toks) (r.append r2) (by rw[G8];omega),O|q _ I.fresh]
def LH:R2:=λ x y H Q=>∃l k xs,x=.ref l/\y=.int k/\H l=↥xs/\-(2 ^ 63)<=k/\k < 2 ^ 63/\xs.length * k.toNat<=sizeLine /\
 ∀p,H p=none->Q (.ref p) (upd H p (.lst (List.replicate k.toNat xs).flatten))
theorem kH{α:Type}(xs:PP α)(k:Nat):(List.replicate k xs).flatten.length=k * xs.length:=by
 induction k with
 | zero=>simp
 | succ k ih=>rw[OZ,List.flatten_cons,G8,ih,Nat.succ_mul,Nat.add_comm]
theorem uh:OpR X (binaryOp .Mult) LH:=by
 intro PR s σ H x y v u Q I rx ry h;obtain⟨l,k,xs,rfl,rfl,hH,h1,h2,hz,q⟩:=h;cases rx;obtain⟨t,rfl⟩:=ry;obtain⟨z,its,n,r,hl,e⟩:=I.lstM hH;have PV:its.toArray.size * k.toNat<=sizeLine:=by rw[I9,<- hl];exact hz
 have hcap:¬ its.toArray.size * k.toNat > (2 ^ 63 - 1) / 8:=by
  have:(sizeLine:Nat)<=(2 ^ 63 - 1) / 8:=∅
  omega
 have hfit:¬ (!Builtin.List.listFitsIndex k)=true:=by rw[fitsIndex_both h1 h2];exact B2
 have hlong:¬ Builtin.List.listTooLong (its.toArray.size * k.toNat)=true:=by rw[lT PV];exact B2
 have hnew:List.foldl (λ x1 x2=>x1 ++ x2) #[] (List.replicate (if its.toArray.isEmpty=true then 0 else k.toNat) its.toArray)=(List.replicate k.toNat its).flatten.toArray:=by
  have f0:∀m:Nat,List.foldl (λ x1 x2=>x1 ++ x2) #[] (List.replicate m its.toArray)=(List.replicate m its).flatten.toArray:=λ m=>by have:=jK its m [];rw[List.nil_append]at this;exact this
  rw[f0];cases its with
  | nil=>simp
  | cons a r'=>rw[PZ (by simp)]
 show wpAny_binaryOp_repeat_ref (T := "list") (U := "int") ∅ %[_,e|rfl] (λ s'=>typeIs_int s' k t) noFill_list_mul F.fills_int_mul F.slot_int_rmul repeat_list F.slot_int_index.lookup
  (call_meets F.slot_int_rmul (typeIs_int s k t) F.entry_int_rmul (F.args_int_rmul_2 _ _) (int___rmul___int_list k t l its.toArray n)
   %[e,rfl,%[_,e|rfl]|call_meets F.slot_list_mul %[_,e|rfl] F.entry_list_mul (F.args_list_mul_2 _ _) (AutoListH.list___mul___list_int_3 l its.toArray n k t hfit hcap hlong) %[e|?_]])
 rw[hnew];exact%[.ref _,_,I.lnew (t':=s.toks) (r.rep k.toNat) (by rw[kH,Nat.mul_comm];exact hz),O|q _ I.fresh]
end
end L2
namespace Att
open PySem PySem.W PySem.Calls PyProof.Rows
theorem hU{P:Params}{h:Heap}:∀(ns:Q9)(vs:PP G0),WellAll P h vs (ns.map WData.int)->IntsAre vs ns:=by
 intro ns
 induction ns with
 | nil=>
  intro vs w;rw[O1]at w;cases w;exact .nil
 | cons n ns ih=>
  intro vs w;rw[J3]at w;cases w with
  | cons a b=>
   cases a;exact .cons _ _ (ih _ b)
theorem qd{l:OpenLaw}{n:Nat}(hn:l.most=some n){P:Params}{h:Heap}{args:PP WData}{vals:PP G0}
  (hpre:l.row.toRowW.claim.pre args=true) (hwl:WellAll P h vals args) :
  ∃a vs ns,vals=[Value.ref a]/\args=[WData.list (ns.map WData.int)]/\h.get? a=some { cls:=.type "list",data:=.seq vs.toArray }/\IntsAre vs ns/\ns.length<=n:=by
 have hsh:WShape.hasAll [] args [.list .int]=true:=(pre_splitW hpre).1;have hc:l.pre.holds [] { args:=args }=true:=(pre_splitW hpre).2;obtain⟨d,r,rfl,h1,h2⟩:=hasAllW_cons hsh;obtain rfl:=hasAllW_nil h2;obtain⟨xs,rfl,h3⟩:=hasW_list h1;obtain⟨ns,rfl⟩:=items_int h3;have PV:ns.length<=n:=by
  unfold OpenLaw.pre at hc;have h4:(WTm.not (.lt (.lit (.int (n:Int))) (.len (.arg 0)))).holds [] { args:=[.list (ns.map .int)] }=true:=by have h4:=(holds_andW hc).1;rw[hn]at h4;exact h4
  have h5:=condW_of h4 (w_not (w_lt w_lit (w_len_list (w_arg rfl))));rw[G6]at h5;show Nat.le_of_not_lt λ q=>?_;have q':(n:Int) < ((ns.length:Nat):Int):=⋯
  first
   | (rw[PY q']at h5;exact absurd h5 ∅)
   | (simp at h5;omega)
 cases hwl with
 | cons w1 w2=>
  cases w2;cases w1 with
  | list ho hall=>exact%[_,_,ns,O,O,ho,hU ns _ hall|PV]
theorem qg(l:OpenLaw)(args:PP WData):l.row.toRowW.claim.post args (.bool true) args=true :=
 postW_of (r:=l.row.toRowW) (X:=(true == true))
  (show WShape.has [] (.bool true) .bool=true by first | rfl | decide | simp[WShape.has,WShape.arms,WShape.armsAll])
  (show(WTm.eq .res (.lit (.bool true))).value [] { args:=args,res:=some (.bool true),after:=args }=some (.bool (true == true))from w_eq_bool (w_res rfl) w_lit) rfl
theorem attach_call{l:OpenLaw}{n:Nat}{q:F7}{loose:PP Str}{XP:(Str->PM G0)->Heap->Prop}{YP:F9->Heap->Prop}{d:DefRec}
  (hn:l.most=some n) (hdf:d.params.defaults=[])
  (call:∀(w:F9)(s₀ s₁:F6)(mg mb:Str->PM G0)(fa:PK)(o:Obj)(pm cd doc:G0)(a:PK)(vs:PP G0)(ns:Q9),
   Ground q loose [] XP w s₀ mg mb s₁.heap->YP w s₁.heap ->
   s₁.heap.get? fa=some o->o.data=.func (docDef d.name d.params d.body d.scope pm cd doc)->s₁.heap.CodeRec cd d.name->mg d.name=↑fa ->
   s₁.heap.get? a=some { cls:=.type "list",data:=.seq vs.toArray }->IntsAre vs ns->ns.length<=n->s₁.gens=#[] ->
   codeAny (model l.prog w) callerA (.call (.ref fa) %[[.ref a]|[]]) (λ r s'=>r=.ok (.ret (.bool true))/\OldK s₁.heap s'.heap/\s'.os=s₁.os/\AllBare s'.gens) s₁) :
  WalkO q loose XP YP l.row.toRowW d [] (λ f vs=>PySem.call f vs):=by
 intro w s₀ s₁ mg mb G Y fa o pm cd doc dV kV ho hd hcd hD hmg hg args vals as hpre hlay hrd hwl hlo;obtain rfl:dV=.none:=Dflts.none hD hdf;obtain rfl:kV=.none:=Dflts.noKw hD;obtain⟨a,vs,ns,rfl,rfl,hobj,hints,PV⟩:=qd hn hpre hwl;show enter_call (codeAny_mono (call w s₀ s₁ mg mb fa o pm cd doc a vs ns G Y ho (fd_plain hd) hcd hmg hobj hints PV hg) λ r s' hq=>?_);obtain⟨rfl,h2,h3,h4⟩:=hq;exact%[.inl %[.bool true,.bool true,[],O,λ _=>rfl,.bool true,qg l _|λ _=>%[List.Pairwise.nil|λ _ hm=>(nomatch hm)]],h2,h3|h4]
section
variable{prog:F7}{w:F9}{A:Around}{E:G0->F6->Prop}{s:F6}{K:Frag}
def LJ(h:Heap)(L d:PK):RC:=(List.range h.objs.size).filterMap λ a=>if a=L\/a=d then none else(h.get? a).map λ o=>(a,o)
end
end Att
namespace L2
open PySem PySem.Spec PyProof.Rows
theorem gK:∀{vs:PP G0}{ns:Q9},IntsAre vs ns->Vals (ns.map V.int) vs
 | _,_,.nil=>.nil
 | _,_,.cons n t h=>.cons %[t|O] (gK h)
def zh(H:Hp):Prop:=∀b,H b=none\/∃o xs,H b=some (.frz o (.lst xs))
theorem ui{P:F7}{w:F9}{K:C5}{mg mb:Str->PM G0}{CX:CXT}{k:Nat}{fa a:PK}{fd:F8}{x:Str}{sp:Sp}{s₁:F6}{vs:PP G0}{ns:Q9}
  (KX:K.In s₁.heap) (hns:s₁.heap.Ns PQ mg) (hb:s₁.heap.Ns builtinsNs mb) (hbb:∀x:Str,x ≠ "__name__" -> mb x=bootBuiltins x) (hlim:s₁.heap.NoLimit) (hg:s₁.gens=#[])
  (ha:s₁.heap.get? a=some { cls:=.type "list",data:=.seq vs.toArray }) (hi:IntsAre vs ns) (hl:ns.length<=sizeLine) (hr:Room k callerA)
  (F:∀base:Heap,K.In base->base.Ns PQ mg->FnOk P w K mg base CX k fa fd [x] sp) (hbind:∀(s:F6)(u:G0),BindsTo s fd %[[u]|[]] [(x,u)])
  (hsp:∀H:Hp,zh H->SqL K H a (ns.map V.int)->sp [.ref a] H (λ v _=>v=.bl true) λ _ _ _=>False)
  (hCX:∀H e s',CX [] H s₁ (λ _ _ _=>False) e s'->False) :
  codeAny (model P w) callerA (.call (.ref fa) %[[.ref a]|[]]) (λ r s'=>r=.ok (.ret (.bool true))/\OldK s₁.heap s'.heap/\s'.os=s₁.os/\AllBare s'.gens) s₁:=by
 have rv:=gK hi;have lenV:=hi.length;have core:∀H:Hp,zh H->SqL K H a (ns.map V.int)->HOk P w H s₁.heap->(∀b,H b≠none->b=a)->(H a≠none->K.lookup a=none) ->
   codeAny (model P w) callerA (.call (.ref fa) %[[.ref a]|[]]) (λ r s'=>r=.ok (.ret (.bool true))/\OldK s₁.heap s'.heap/\s'.os=s₁.os/\AllBare s'.gens) s₁:=by
  intro H hO hS hok hA hK;have base_of:∀{b:PK}{o:Obj},s₁.heap.get? b=some o->H b=none->(kB s₁.heap H).get? b=some o:=λ e n=>tH e n;have noA:∀{b:PK}{o:Obj}{es:PN DictEntry}{ep:Nat},s₁.heap.get? b=some o->o.data=.dict es ep->H b=none:=λ {b o es ep} e d=>by
   cases q:H b with
   | none=>rfl
   | some u=>
    have e':b=a:=hA b (by rw[q];simp);subst e';rw[ha]at e;cases e;have d':Data.seq vs.toArray _=Data.dict es ep:=d;cases d'
  have nsK:∀{b:PK}{m:Str->PM G0},s₁.heap.Ns b m->(kB s₁.heap H).Ns b m:=λ {b m} ⟨o,es,ep,e,d,r⟩=>%[o,es,ep,base_of e (noA e d),d|r]
  have hKb:K.In (kB s₁.heap H):=λ b o e=>base_of (KX b o e) (by
   cases q:H b with
   | none=>rfl
   | some u=>
    have e':b=a:=hA b (by rw[q];simp);subst e';rw[hK (by rw[q];simp)]at e;cases e)
  have hM:Mod K mg (kB s₁.heap H):=%[hKb,nsK hns,%[mb,nsK hb|hbb]|let ⟨mc,h1,h2⟩:=hlim;%[mc,nsK h1|h2]]
  have e0:Env0 P w K mg (kB s₁.heap H) callerA [] s₁ H:=%[O,hM,λ b o e=>wB e,Nat.le_of_eq (pU _ _),trivial,λ b hb=>absurd (show b∈([]:PP PK)from hb) (by simp),hok|.of_eq hg]
  show codeAny_mono ((F _ hKb (nsK hns)).run callerA [] s₁ H %[[.ref a]|[]] [.ref a] [.ref a] _ _ hr e0 (hbind s₁ (.ref a)) (.cons rfl .nil) (hsp H hO hS)) λ r s' h=>?_;cases r with
  | error e=>exact(hCX H e s' h).elim
  | ok fl=>
   cases fl with
   | next=>exact E7 h
   | brk=>exact E7 h
   | cont=>exact E7 h
   | ret u=>
    obtain⟨v,H',os,bare,un,hok',r',q⟩:=h;have q':v=.bl true:=q;subst q';obtain rfl:u=Value.bool true:=r';show%[O,OldK.of_keep λ b o e=>?_,os|bare];cases q:H b with
    | none=>exact un.keep b o e q (by intro z;exact absurd (show b∈([]:PP PK)from z) (by simp)) (by simp)
    | some u=>
     rcases hO b with z | ⟨ob,xs,z⟩
     ·rw[q]at z;cases z
     ·have z2:=un.frzs b ob _ z;obtain⟨e1,_⟩:=hok b _ z;obtain⟨e2,_⟩:=hok' b _ z2;rw[e]at e1;cases e1;exact e2
 cases hk:K.lookup a with
 | some o=>
  have e:=KX a o hk;rw[ha]at e;cases e;show core (λ _=>none) (λ _=>.inl rfl) (.inr %[_,vs.toArray,_,hk,O,O,O,by rw[I9,lenV];exact hl|by simpa using rv]) (λ b u z=>by have z':(none:PM HO)=some u:=z;cases z') (λ b z=>absurd rfl z) λ z=>absurd rfl z
 | none=>
  show core (λ b=>if b=a then some (.frz { cls:=.type "list",data:=.seq vs.toArray } (.lst (ns.map V.int)))else none) (λ b=>?_) (.inl (.inr %[{ cls:=.type "list",data:=.seq vs.toArray }|Pa rfl])) (λ b u z=>?_) (λ b z=>?_) λ _=>hk
  ·by_cases hb:b=a
   ·exact .inr %[_,_|Pa hb]
   ·exact .inl (PZ hb)
  ·by_cases hb:b=a
   ·have z':=(Pa hb).symm.trans z;cases z';subst hb;exact%[ha,by rw[G6];exact hl,vs,_,rv|ha]
   ·have z':=(PZ hb).symm.trans z;cases z'
  ·by_cases hb:b=a
   ·exact hb
   ·exact absurd (PZ hb) z
theorem walk_of{l:PySem.W.OpenLaw}{n k:Nat}{q:F7}{loose:PP Str}{XP:(Str->PM G0)->Heap->Prop}{YP:F9->Heap->Prop}{d:DefRec}{K:Params->C5}{CX:F9->CXT}{sp:F9->Sp}{x:Str}
  (hn:l.most=some n) (hn2:n<=sizeLine) (hdf:d.params.defaults=[]) (hr:Room k callerA)
  (hY:∀(w:F9)(h:Heap),YP w h->(K w.params).In h)
  (F:∀(w:F9)(mg:Str->PM G0)(fa:PK)(h:Heap),(K w.params).In h->h.Ns PQ mg->mg d.name=↑fa ->
   ∃fd:F8,(∀(s:F6)(u:G0),BindsTo s fd %[[u]|[]] [(x,u)]) /\
    ∀base:Heap,(K w.params).In base->base.Ns PQ mg->FnOk l.prog w (K w.params) mg base (CX w) k fa fd [x] (sp w))
  (hsp:∀(w:F9)(H:Hp)(a:PK)(ns:Q9),ns.length<=n->zh H->SqL (K w.params) H a (ns.map V.int)->sp w [.ref a] H (λ v _=>v=.bl true) λ _ _ _=>False)
  (hCX:∀(w:F9)(H:Hp)(s:F6)(e:G0)(s':F6),CX w [] H s (λ _ _ _=>False) e s'->False) :
  PySem.W.WalkO q loose XP YP l.row.toRowW d [] (λ f vs=>PySem.call f vs):=by
 show Att.attach_call hn hdf λ w s₀ s₁ mg mb fa o pm cd doc a vs ns G Y ho hd hcd hmg hobj hints PV hg=>?_;have KX:=hY w _ Y;obtain⟨fd,hb,hF⟩:=F w mg fa _ KX G.T.g hmg;exact ui KX G.T.g G.T.b G.T.builtins G.T.nolimit hg hobj hints (C6 PV hn2) hr hF hb (λ H hO hS=>hsp w H a ns PV hO hS) λ H e s'=>hCX w H s₁ e s'
def inClass(s:Stmt)(j:Nat):Stmt:=match s with
 | .ClassDef _ _ _ body _ _ _ _ _ _ _=>body.getD j (.Pass %[0,0,0|0])
 | _=>.Pass %[0,0,0|0]
def defArgs(s:Stmt):Arguments:=match s with
 | .FunctionDef _ a _ _ _ _ _ _ _ _=>a
 | _=>{ posonlyargs:=[],args:=[],vararg:=none,kwonlyargs:=[],kw_defaults:=[],kwarg:=none,defaults:=[] }
def defBody(s:Stmt):PP Stmt:=match s with
 | .FunctionDef _ _ b _ _ _ _ _ _ _=>b
 | _=>[]
def defScope(s:Stmt):Scope:=match s with
 | .FunctionDef _ _ _ _ _ _ sc _ _ _=>sc
 | _=>{ kind:=.function,names:=[],isGenerator:=false,isCoroutine:=false }
abbrev CX0:CXT:=λ _ _ _ _ _ _=>False
abbrev E0:XK:=λ _ _ _=>False
theorem oQ{X:Cx}:fP CX0 X E0:=λ _ _ _ _ _ _ _ h=>h.elim
structure Fun(K:C5)(x qual:Str)(st:Stmt)(f:PK)(fd:FuncData):Prop where
 ex:∃(oc:G0)(od:PM PK)(kV doc pm:G0)(an:PM PK)(cdv ct:G0)(osl:PN (PM G0)),
  fd=E6 x qual (defArgs st) (defBody st) (defScope st) .none kV doc pm an cdv ct/\K.lookup f=some %[oc,od,.func fd|osl]/\PySem.W.codeIn K cdv qual=true
 kp:PySem.W.keepIn K (.ref f)=true
section
variable{P:F7}{w:F9}{K:C5}{mg:Str->PM G0}{base:Heap}
theorem Fun.ok{x qual:Str}{st:Stmt}{f:PK}{fd:F8}{N ps:PP Str}{k:Nat}{sp:Sp}(F:Fun K x qual st f fd)(S:FnScope N ps (defScope st))(len:∀vs H Q E,sp vs H Q E->vs.length=ps.length)
  (hbody:∀(cdv:G0)(A:Around)(outer:PP Env)(s:F6)(H:Hp)(vs:PP V)(Q:VK)(E:XK),Room k (A.deeper (envOfC qual (defScope st) s.heap.objs.size f cdv))->sp vs H Q E ->
   ∃t,PSs (fQ CX0 P w K mg base N qual (defScope st) f cdv A outer s H E).nox (defBody st) t/\t { nx:=λ _ H'=>Q .non H',rt:=Q } (ge N vs) H):FnOk P w K mg base CX0 (k+1) f fd ps sp:=by
 obtain⟨oc,od,kV,doc,pm,an,cdv,ct,osl,rfl,lk,hcd⟩:=F.ex;show yF lk hcd S len λ A outer s H vs Q E hr hsp=>?_;obtain⟨t,h,q⟩:=hbody cdv A outer s H vs Q E hr hsp;exact%[t,h.nox|q]
theorem Fun.binds{x qual:Str}{st:Stmt}{f:PK}{fd:F8}{ps:PP Str}(F:Fun K x qual st f fd)
  (h:∀(kV doc pm:G0)(an:PM PK)(cdv ct:G0)(us:PP G0),us.length=ps.length->bindArgs (E6 x qual (defArgs st) (defBody st) (defScope st) .none kV doc pm an cdv ct) %[us|[]]=pure (ps.zip us)):Binds K fd ps []:=by
 obtain⟨oc,od,kV,doc,pm,an,cdv,ct,osl,rfl,lk,hcd⟩:=F.ex;exact .all (h kV doc pm an cdv ct)
theorem nD{x qual:Str}{st:Stmt}{f:PK}{oc:G0}{od an:PM PK}{osl:PN (PM G0)}{kV doc pm cdv ct:G0}(l:K.lookup f=some %[oc,od,.func (E6 x qual (defArgs st) (defBody st) (defScope st) .none kV doc pm an cdv ct)|osl])
  (c:PySem.W.codeIn K cdv qual=true) (k:PySem.W.keepIn K (.ref f)=true):Fun K x qual st f (E6 x qual (defArgs st) (defBody st) (defScope st) .none kV doc pm an cdv ct):=%[%[oc,od,kV,doc,pm,an,cdv,ct,osl,O,l|c]|k]
end
section
variable{X:Cx}
theorem pv(i:Nat){x:Str}{pos:Pos}(hN:X.N[i]?=some x:=by rfl)(hv:Vis X.env.scope x:=by first | exact Or.inl rfl | exact Or.inr (Or.inl rfl) | exact Or.inr (Or.inr rfl))(hd:(x == ("__debug__" : Str))=false:=by decide)
  (hcd:(x == ("__classdict__" : Str))=false:=by decide):PE X (.Name x pos) (tVar i):=yT hN hv hd hcd
end
theorem aT{A B:Prop}(h:B):if false=true then A else B:=by rw[PZ B2];exact h
theorem aU{A B:Prop}(h:A):if true=true then A else B:=by rw[Pa rfl];exact h
theorem cV{c A B:Prop}[Decidable c](h1:c->A)(h2:¬ c->B):if c then A else B:=by
 by_cases h:c
 ·rw[Pa h];exact h1 h
 ·rw[PZ h];exact h2 h
def Same(H H':Hp):Prop:=∀b o,H b=some o->H' b=some o
theorem Same.refl(H:Hp):Same H H:=λ _ _ h=>h
theorem Same.trans{H H1 H2:Hp}(a:Same H H1)(b:Same H1 H2):Same H H2:=λ c o h=>b c o (a c o h)
theorem Same.free{H H':Hp}(e:Same H H'){l:PK}(h:H' l=Option.none):H l=Option.none:=by
 cases q:H l with
 | none=>rfl
 | some o=>
  rw[e l o q]at h;cases h
def ck(env:Env):PP (Str×NameKind)->PP (Str×PK)->PP (Str×PK)
 | [],acc=>acc
 | (n,k) :: r,acc=>ck env r (if (k == NameKind.free)=true then(n,(env.cells.lookup n).getD 0) :: acc else acc)
theorem ee(env:Env):∀(names:PP (Str×NameKind))(acc:PP (Str×PK))(x:Str)(c:PK),(∀y∈names,y.2=.free->∃c,env.cells.lookup y.1=some c) ->
  (∀x c,acc.lookup x=some c->env.cells.lookup x=some c)->(ck env names acc).lookup x=some c->env.cells.lookup x=some c
 | [],acc,x,c,_,h,e=>h x c e
 | (n,k) :: r,acc,x,c,hf,h,e=>by
  show ee env r _ x c (λ y hy=>hf y (B4 _ hy)) (λ x c e'=>?_) e
  by_cases hk:(k == NameKind.free)=true
  ·rw[Pa hk]at e';obtain⟨c0,hc0⟩:=hf (n,k) B7 (by simpa using hk);have hc0':env.cells.lookup n=some c0:=hc0;rw[J8]at e';cases hx:x == n with
   | true=>
    rw[hx]at e';have:x=n:=by simpa using hx
    subst this;rw[hc0']at e' ⊢;simpa using e'
   | false=>rw[hx]at e';exact h x c e'
  ·rw[PZ hk]at e';exact h x c e'
theorem iI(env:Env):∀(names:PP (Str×NameKind))(acc:PP (Str×PK))(x:Str),(∃c,acc.lookup x=some c)->∃c,(ck env names acc).lookup x=some c
 | [],acc,x,h=>h
 | (n,k) :: r,acc,x,h=>by
  show iI env r _ x ?_
  by_cases hk:(k == NameKind.free)=true
  ·rw[Pa hk,J8];cases hx:x == n with
   | true=>exact%[_|O]
   | false=>exact h
  ·rw[PZ hk];exact h
theorem gL(env:Env):∀(names:PP (Str×NameKind))(acc:PP (Str×PK))(x:Str),(x,NameKind.free)∈names->∃c,(ck env names acc).lookup x=some c
 | [],acc,x,h=>by simp at h
 | (n,k) :: r,acc,x,h=>by
  rcases G7.mp h with e | e
  ·have e1:x=n:=Pw Prod.fst e;have e2:NameKind.free=k:=Pw Prod.snd e;subst e1;subst e2;show iI env r _ x ?_;rw[Pa (by simp),J8];simp
  ·exact gL env r _ x e
theorem iJ{env:Env}{scope:Scope}(hf:∀y∈scope.names,y.2=.free->∃c,env.cells.lookup y.1=some c):closureFor scope env=pure (ck env scope.names []):=by
 have key:∀(names:PP (Str×NameKind))(acc:PP (Str×PK)),(∀y∈names,y.2=.free->∃c,env.cells.lookup y.1=some c) ->
   (forIn names acc (λ (x:Str×NameKind)(r:PP (Str×PK))=>(if (x.2 == NameKind.free)=true then do
    let a<-cellOf env x.1
    pure (ForInStep.yield ((x.1,a) :: r))else pure (ForInStep.yield r)) ):Sem (PP (Str×PK)))=pure (ck env names acc):=by
  intro names
  induction names with
  | nil=>intro acc _;rfl
  | cons y r ih=>
   intro acc h;obtain⟨n,k⟩:=y;have ih':=λ acc=>ih acc λ z hz=>h z (B4 _ hz);rw[List.forIn_cons]
   by_cases hk:(k == NameKind.free)=true
   ·obtain⟨c,hc⟩:=h (n,k) B7 (by simpa using hk);have hc':env.cells.lookup n=some c:=hc;have e1:cellOf env n=pure c:=by unfold cellOf;rw[hc']
    have e2:ck env ((n,k) :: r) acc=ck env r ((n,c) :: acc):=by change ck env r _=_;rw[Pa hk,hc'];rfl
    rw[Pa hk,e2,<- ih'];change((cellOf env n >>= λ a=>pure (ForInStep.yield ((n,a) :: acc))) >>= _)=_;rw[e1]
    rfl
   ·have e2:ck env ((n,k) :: r) acc=ck env r acc:=by change ck env r _=_;rw[PZ hk]
    rw[PZ hk,e2,<- ih']
    rfl
 have:=key scope.names [] hf;simp only[closureFor];exact(Pw (λ m=>m >>= λ r=>(pure r:Sem _)) this).trans rfl
section
variable{M:Model}{A:Around}{E:G0->F6->Prop}{s:F6}
theorem wQ{scope:Scope}{globals:PK}{closure:PP (Str×PK)}{qual:Str}{func:PM PK}{code:G0}{env:Env}{builtins:PK}{Q:Env->F6->Prop}
  (hQ:Q (newEnv scope s.heap.objs.size globals (cellsFrom (s.heap.objs.size+1) scope.names closure) qual func code (some env) builtins) { s with heap:=pushCells (s.heap.push { cls:=.type "dict",data:=.dict #[] }) scope.names }) :
  wpAny M A (newFunctionEnv scope globals closure [] qual func code (some env) builtins) Q E s:=by
 simp only[newFunctionEnv,Option.isSome_some,P4];show A0 (wpAny_alloc ?_);show A0 (wpAny_layCells _ (λ name kind cells=>by cases hkc:kind == NameKind.cell <;> simp[hkc]) _ _ _ _ ?_);rw[show({ s with heap:=s.heap.push { cls:=.type "dict",data:=.dict #[] } }:F6).heap.objs.size=s.heap.objs.size+1 from Pr ..];exact A0 (A2 (A2 hQ))
end
theorem jM:∀(names:PP (Str×NameKind))(n:Nat)(acc:PP (Str×PK))(x:Str)(c:PK),(cellsFrom n names acc).lookup x=some c->acc.lookup x=some c\/n<=c
 | [],n,acc,x,c,e=>.inl e
 | (y,k) :: r,n,acc,x,c,e=>by
  unfold cellsFrom at e
  split at e
  ·rcases jM r _ _ x c e with z | z
   ·rw[J8]at z;cases hx:x == y with
    | true=>rw[hx]at z;cases z;exact .inr (B3 _)
    | false=>rw[hx]at z;exact .inl z
   ·exact .inr ⋯
  ·exact jM r _ _ x c e
theorem nE:∀(names:PP (Str×NameKind))(n:Nat)(acc:PP (Str×PK)),(∀x c,acc.lookup x=some c->c < n)->(∀x y c,acc.lookup x=some c->acc.lookup y=some c->x=y) ->
  ∀x y c,(cellsFrom n names acc).lookup x=some c->(cellsFrom n names acc).lookup y=some c->x=y
 | [],_,_,_,h=>h
 | (z,k) :: r,n,acc,hl,h=>by
  unfold cellsFrom
  split
  ·show nE r _ _ (λ x c e=>?_) (λ x y c e1 e2=>?_)
   ·rw[J8]at e;cases hx:x == z with
    | true=>rw[hx]at e;cases e;exact F0 _
    | false=>rw[hx]at e;exact OV (hl x c e)
   ·rw[J8]at e1 e2;cases hx:x == z with
    | true=>
     rw[hx]at e1;cases e1;cases hy:y == z with
     | true=>rw[beq_iff_eq.mp hx,beq_iff_eq.mp hy]
     | false=>rw[hy]at e2;exact absurd (hl y _ e2) (E1 _)
    | false=>
     rw[hx]at e1;cases hy:y == z with
     | true=>rw[hy]at e2;cases e2;exact absurd (hl x _ e1) (E1 _)
     | false=>rw[hy]at e2;exact h x y c e1 e2
  ·exact nE r n acc hl h
theorem kI:∀(names:PP (Str×NameKind))(h:Heap)(acc:PP (Str×PK)),(∀x c,acc.lookup x=some c->∃v,h.IsCell c v)->∀x c,(cellsFrom h.objs.size names acc).lookup x=some c->∃v,(pushCells h names).IsCell c v
 | [],_,_,ha=>ha
 | (z,k) :: r,h,acc,ha=>by
  unfold cellsFrom pushCells
  split
  ·have:=kI r (h.push { cls:=.type "cell",data:=.cell none }) ((z,h.objs.size) :: acc) λ x c e=>by
    rw[J8]at e;cases hx:x == z with
    | true=>rw[hx]at e;cases e;exact%[none,_,A8 _ rfl|O]
    | false=>
     rw[hx]at e;obtain⟨v,z⟩:=ha x c e;exact%[v|z.keeps λ b o e=>A7 _ e]
   rw[Pr]at this;exact this
  ·exact kI r h acc ha
theorem kJ:∀(names:PP (Str×NameKind))(n:Nat)(acc:PP (Str×PK))(x:Str),(x,NameKind.cell)∉names->(cellsFrom n names acc).lookup x=acc.lookup x
 | [],_,_,_,_=>rfl
 | (z,k) :: r,n,acc,x,h=>by
  unfold cellsFrom
  split
  ·rename_i hk
   rw[kJ r _ _ x λ q=>h (B4 _ q),J8];cases hx:x == z with
   | true=>
    have e1:x=z:=C4.mp hx;have e2:k=.cell:=C4.mp hk;exact absurd (by rw[e1,e2];exact B7) h
   | false=>rfl
  ·exact kJ r n acc x λ q=>h (B4 _ q)
theorem nF:∀(names:PP (Str×NameKind))(n:Nat)(acc:PP (Str×PK))(x:Str),((x,NameKind.cell)∈names\/∃c,acc.lookup x=some c)->∃c,(cellsFrom n names acc).lookup x=some c
 | [],_,_,x,h=>h.elim (λ z=>by simp at z) id
 | (z,k) :: r,n,acc,x,h=>by
  unfold cellsFrom
  split
  ·rename_i hk
   show nF r _ _ x ?_;cases hx:x == z with
   | true=>exact .inr %[n|by rw[J8,hx]]
   | false=>
    rcases h with h | ⟨c,h⟩
    ·rcases G7.mp h with q | q
     ·have:x=z:=Pw Prod.fst q;rw[this]at hx;simp at hx
     ·exact .inl q
    ·exact .inr %[c|by rw[J8,hx];exact h]
  ·rename_i hk
   show nF r _ _ x ?_;rcases h with h | h
   ·rcases G7.mp h with q | q
    ·have:k=.cell:=(Pw Prod.snd q).symm;rw[this]at hk;exact absurd rfl hk
    ·exact .inl q
   ·exact .inr h
theorem jN(env:Env):∀(names:PP (Str×NameKind))(acc:PP (Str×PK))(x:Str)(c:PK),(ck env names acc).lookup x=some c->acc.lookup x=some c\/(x,NameKind.free)∈names
 | [],acc,x,c,e=>.inl e
 | (n,k) :: r,acc,x,c,e=>by
  rcases jN env r _ x c e with z | z
  ·by_cases hk:(k == NameKind.free)=true
   ·rw[Pa hk,J8]at z;cases hx:x == n with
    | true=>exact .inr (by rw[beq_iff_eq.mp hx,show k=.free from beq_iff_eq.mp hk];exact B7)
    | false=>rw[hx]at z;exact .inl z
   ·rw[PZ hk]at z;exact .inl z
  ·exact .inr (B4 _ z)
theorem kL{env:Env}{scope:Scope}{x:Str}:((relabel scope env).names.lookup x=some .cell\/(relabel scope env).names.lookup x=some .free)->(x,NameKind.free)∈scope.names\/(x,NameKind.cell)∈scope.names:=by
  have key:∀names:PP (Str×NameKind),∀k,(names.map λ(n,k)=>if (k == NameKind.free && env.scope.kind == .function && env.kindOf n == some .cell)then(n,NameKind.cell)else(n,k)).lookup x=some k ->
      (k=.cell\/k=.free)->(x,NameKind.free)∈names\/(x,NameKind.cell)∈names:=by
    intro names
    induction names with
    | nil=>intro k h _;simp at h
    | cons y r ih=>
      obtain⟨n,k'⟩:=y;intro k h hk;have up:((x,NameKind.free)∈r\/(x,NameKind.cell)∈r)->((x,NameKind.free)∈(n,k') :: r\/(x,NameKind.cell)∈(n,k') :: r):=λ z=>z.imp (B4 _) (B4 _);rw[J3]at h
      by_cases hb:(k' == NameKind.free && env.scope.kind == .function && env.kindOf n == some .cell)=true
      . have hb':k'=.free:=by simp at hb;exact hb.1.1
        dsimp only at h;rw[Pa hb,J8]at h;cases hx:x == n with
        | true=>have:x=n:=(by simpa using hx);subst this;subst hb';exact .inl B7
        | false=>rw[hx]at h;exact up (ih k h hk)
      . dsimp only at h
        rw[PZ hb,J8]at h;cases hx:x == n with
        | true=>
          rw[hx]at h;have:x=n:=by simpa using hx
          subst this;have e:k'=k:=by simpa using h
          rcases hk with q | q
          . rw[e,q];exact .inr B7
          . rw[e,q];exact .inl B7
        | false=>rw[hx]at h;exact up (ih k h hk)
  rintro(h | h)
  . exact key _ _ h (.inl rfl)
  . exact key _ _ h (.inr rfl)
def cN(X:Cx)(PR:RC)(s2:F6)(H2:Hp)(scope:Scope)(C:PK)(N':PP Str)(fp:PP PK):Cx where
 prog:=X.prog
 w:=X.w
 K:=X.K
 mg:=X.mg
 base:=X.base
 A:=X.A
 N:=N'
 s₀:=s2
 H₀:=H2
 env:=compEnvC scope (cellsFrom (C+1) scope.names (ck X.env scope.names [])) C X.env
 outer:=X.stack
 stack:=X.stack
 ex:=fp
 fn:=λ x=>scope.names.lookup x == some .cell
 calm:=X.calm
 pn:=X.pn ++ PR
 xe:=λ _ _=>False
def cD(σ:St)(cap:PP Nat)(k:Nat):St:=List.replicate k none ++ cap.map λ j=>(σ[j]?).join
def leS(σ σ':St):Prop:=σ'.length=σ.length/\∀ (i:Nat) v,σ[i]?=some (some v)->σ'[i]?=some (some v)
theorem leS.set{σ:St}{i:Nat}{v:V}(h:σ[i]?=some none):leS σ (σ.set i (some v)):=by
 show%[by simp|λ j w e=>?_]
 by_cases hj:j=i
 ·subst hj;rw[h]at e;cases e
 ·rw[List.getElem?_set_ne (Ne.symm hj)];exact e
structure CompOk(X:Cx)(scope:Scope)(own:PP Str)(cs:PP Str)(cap:PP Nat):Prop where
 kind:scope.kind=.function
 names:∀y∈scope.names,y.2=.local->scope.names.lookup y.1=some .local
 free:∀y∈scope.names,y.2=.free->X.env.kindOf y.1=some .cell\/X.env.kindOf y.1=some .free
 caps:∀ (i:Nat) y,cs[i]?=some y->∃j,cap[i]?=some j/\X.N[j]?=some y/\(y,NameKind.free)∈scope.names
 len:cs.length=cap.length
 free2:∀y,(y,NameKind.free)∈scope.names->scope.names.lookup y=some .local->False
 free3:∀y,(y,NameKind.free)∈scope.names->scope.names.lookup y=some .cell->False
 free4:∀y,(y,NameKind.free)∈scope.names->(y,NameKind.cell)∉scope.names
def qi(X:Cx)(ifs:PP Expr)(tt:TT):Prop :=
 ∀(PR:RC)(s:F6)(σ:St)(H:Hp)(Q:Bool->Hp->Prop),Inv X PR σ H s->tt σ H Q ->
  wpAny (model X.prog X.w) X.A (forIn ifs true λ c r=>if r=true then do let ok<-isTrue c X.env (eval c X.env);pure (ForInStep.yield ok)else pure (ForInStep.yield r)) (TP X PR σ Q) X.xe s
def AY:TT:=λ _ H Q=>Q true H
theorem bW{X:Cx}:qi X [] AY:=λ _ _ _ H _ I h=>wpAny_tests_nil %[H,I|h]
theorem eW{X:Cx}{c:Expr}{tt:TT}(h:PT X c tt):qi X [c] tt:=λ PR s σ H Q I q=>wpAny_tests_one (h PR s σ H Q I q)
def iK(σ:St)(cap:PP Nat)(k:Nat)(J:It)(g:TG)(tt:TT)(te:TE)(Q:PP V->Hp->Prop)(W:Nat->Nat->PP V->Hp->Prop):Prop :=
 ∀i m ys H,W i m ys H->(J.stop i H/\ys.length<=sizeLine/\Q ys H) \/
  (J.go i H/\ys.length < sizeLine/\∀x H',J.yld i H x H'->g x (cD σ cap k) H' λ σ2 H2=>leS (cD σ cap k) σ2/\tt σ2 H2 λ ok H3=>
   if ok=true then te σ2 H3 (λ v H4=>∃m',m' < m/\W (i+1) m' (ys ++ [v]) H4)else∃m',m' < m/\W (i+1) m' ys H3)
theorem HOk.add{P:F7}{w:F9}{H:Hp}{h:Heap}{a:PK}{o:HO}(x:HOk P w H h)(n:H a=none)(new:ObjOk P w (upd H a o) h a o):HOk P w (upd H a o) h:=λ b u e=>by
 by_cases hb:b=a
 ·subst hb;rw[au]at e;cases e;exact new
 ·rw[aw hb]at e;exact(x b u e).stay (λ c v _ q=>q) (λ c q=>by rw[aw (ao q n)];exact q) λ c xs q=>by rw[aw (ao q n)];exact q
section
variable{X:Cx}{PR:RC}{σ:St}{H2:Hp}{s2:F6}{scope:Scope}{own cs:PP Str}{cap:PP Nat}{fp:PP PK}
theorem qj{h1:Heap}{C:PK}{tk:Nat}(I:Inv X PR σ H2 s2)(ok:CompOk X scope own cs cap)(hf:∀b∈fp,FpOk X PR H2 b)(hfl:∀b∈fp,b < s2.heap.objs.size)
  (hC:s2.heap.objs.size<=C) (hns:h1.Ns C (λ _=>none)) (hcl:∀x c,(cellsFrom (C+1) scope.names (ck X.env scope.names [])).lookup x=some c->∃v,h1.IsCell c v) (old:∀b o,s2.heap.get? b=some o->h1.get? b=some o) :
  Inv (cN X PR s2 H2 scope C (own ++ cs) fp) [] (cD σ cap own.length) H2 { s2 with heap:=h1,toks:=tk }:=by
 have hfr:∀y∈scope.names,y.2=.free->∃c,X.env.cells.lookup y.1=some c:=λ y hy e=>I.ok.has y.1 (ok.free y hy e);have sub:∀x c,(ck X.env scope.names []).lookup x=some c->X.env.cells.lookup x=some c:=λ x c e=>ee X.env scope.names [] x c hfr (λ _ _ z=>by simp at z) e;have clt:∀x c,(ck X.env scope.names []).lookup x=some c->c < s2.heap.objs.size:=λ x c e=>by obtain⟨v,o,ho,_⟩:=I.cell x c (sub x c e);exact A9 ho
 show⟨%[I.ok.mod,ok.kind,I.ok.glob,I.ok.blt,hC,λ y z c h1 h2=>nE _ _ _ (λ x c e=>OV (C2 (clt x c e) hC)) (λ x y c h1 h2=>I.ok.inj x y c (sub x c h1) (sub y c h2)) y z c h1 h2,λ y hy=>?_,λ y c z e=>?_,I.ok.hd,I.ok.frames,.inl rfl,λ b hb=>?_,I.bs,C6 I.ok.bsz I.sz,λ b o e hb=>?_,λ b hb z=>?_,I.stack|I.stkFree],
  rfl,I.bare,Un.kept old,%[_,hns|λ i y v e1 e2 e3=>?_],hcl,I.hok.fresh hC,λ y c e=>?_,λ p hp=>?_,I.hok.kept old,?_⟩
 ·show nF _ _ _ y ?_;rcases kL hy with hm | hm
  ·exact .inr (gL X.env scope.names [] y hm)
  ·exact .inl hm
 ·have z:(scope.names.lookup y == some .cell)=true:=z;rcases jM _ _ _ _ _ e with q | q
  ·rcases jN X.env scope.names [] y c q with q | q
   ·simp at q
   ·exact(ok.free3 y q (C4.mp z)).elim
  ·change s2.heap.objs.size<=c;omega
 ·show%[B9 (C2 (hfl b hb) hC)|λ x c e=>?_];rcases jM _ _ _ _ _ e with q | q
  ·exact(hf b hb).2.2.2.2.1 x c (sub x c q)
  ·exact Ne.symm (B9 (C2 (hfl b hb) (C6 hC (Nat.le_of_succ_le q))))
 ·rcases(hf b hb).2.2.2.1 with z | z
  ·exact I.ok.noex b o e z
  ·exact absurd (C2 (A9 (I.ok.bs b o e).1) z) (E1 _)
 ·rcases G7.mp (I.stkSub b z)with q | q
  ·exact(hf b hb).2.1 q
  ·exact(hf b hb).2.2.1 q
 ·have hi:own.length<=i:=by
   show Nat.le_of_not_lt λ q=>?_;unfold cD at e2;rw[List.getElem?_append_left (by simpa using q),List.getElem?_replicate]at e2
   split at e2 <;> cases e2
  have e1':cs[i - own.length]?=some y:=by have e1:(own ++ cs)[i]?=some y:=e1;rwa [List.getElem?_append_right hi]at e1
  obtain⟨j,hj,hN,hm⟩:=ok.caps _ y e1';have hk:=ok.free _ hm rfl;have e2':σ[j]?=some (some v):=by
   unfold cD at e2;rw[List.getElem?_append_right (by simpa using hi),M3,J1,hj]at e2;have e2:(σ[j]?).join=some v:=by simpa using e2
   cases q:σ[j]? with
   | none=>rw[q]at e2;cases e2
   | some w=>rw[q]at e2;have:w=some v:=e2;rw[this]
  obtain⟨m,hn,hl⟩:=I.loc;obtain⟨u,ru,l⟩:=hl j y v hN e2' (by rcases hk with q | q;exact .inr (.inl q);exact .inr (.inr q));show%[u,ru|.inr ?_];obtain⟨c,hc0⟩:=gL X.env scope.names [] y hm;have hc':=sub y c hc0;have hc:(cellsFrom (C+1) scope.names (ck X.env scope.names [])).lookup y=some c:=by rw[kJ _ _ _ y (ok.free4 y hm)];exact hc0
  have cellu:h1.IsCell c (some u):=by
   rcases l with⟨k,_⟩ | ⟨k,c',e,o,ho,hd⟩
   ·rcases hk with q | q <;> (have z:X.env.kindOf y=_:=q;rw[k]at z;cases z)
   ·rw[hc']at e;cases e;exact%[o,old _ _ ho|hd]
  show%[?_,c,hc|cellu];rcases e3 with z | z | z
  ·exfalso;have key:∀names:PP (Str×NameKind),True:=λ _=>trivial;have z:(relabel scope X.env).names.lookup y=some .local:=z;have zz:scope.names.lookup y=some .local:=by
    unfold relabel at z;dsimp only at z;revert z;generalize scope.names=names
    induction names with
    | nil=>intro z;simp at z
    | cons q r ih=>
     obtain⟨n,k⟩:=q;intro z;rw[J3]at z
     by_cases hb:(k == NameKind.free && X.env.scope.kind == .function && X.env.kindOf n == some .cell)=true
     ·dsimp only at z;rw[Pa hb,J8]at z;rw[J8];cases hx:y == n with
      | true=>rw[hx]at z;cases z
      | false=>rw[hx]at z;exact ih z
     ·dsimp only at z;rw[PZ hb,J8]at z;rw[J8];cases hx:y == n with
      | true=>rw[hx]at z;exact z
      | false=>rw[hx]at z;exact ih z
   have:=ok.free2 y hm zz;exact this
  ·exact .inl z
  ·exact .inr z
 ·rcases jM _ _ _ _ _ e with q | q
  ·exact I.freeC y c (sub y c q)
  ·exact I.hok.fresh ⋯
 ·have hp':p∈X.pn ++ PR:=by have:p∈(X.pn ++ PR) ++ []:=hp;simpa using this
  obtain⟨e,n,ne,nf,d⟩:=I.pin p hp';show%[old _ _ e,n,B9 (C2 (A9 e) hC),λ z=>?_|d];rcases G7.mp (I.stkSub p.1 z)with q | q
  ·exact ne q
  ·exact nf q
 ·change(cD σ cap own.length).length=(own ++ cs).length;unfold cD;rw[G8,M3,G6,G8,ok.len]
end
structure TurnY(Y:Cx)(tg:Expr)(J:It)(fp:PP PK)(it:PK)(tn:Nat->Heap->Prop)(qh:Hp->Prop):Prop where
 obj:∀i h,tn i h->∀b∈fp,∃o,h.get? b=some o/\∀v,o.data≠.cell v
 keep:∀i h h',tn i h->(∀b∈fp,∀o,h.get? b=some o->h'.get? b=some o)->tn i h'
 item:∀(i:Nat)(PR:RC)(s:F6)(σ:St)(H:Hp)(E:G0->F6->Prop),qh H->Inv Y PR σ H s->(∀b∈fp,FpOk Y PR H b)->tn i s.heap->J.go i H ->
  wpAny (model Y.prog Y.w) Y.A (pyNext (.ref it)) (λ r s1=>∃u,r=some u /\
   wpAny (model Y.prog Y.w) Y.A (letOwnedTupleGo tg (.ref it) u) (λ _ s2=>∃x H',Inv Y PR σ H' s2/\RelV x u/\J.yld i H x H'/\tn (i+1) s2.heap/\∀b∈fp,H' b=none) E s1) E s
 done:∀(i:Nat)(PR:RC)(s:F6)(σ:St)(H:Hp)(E:G0->F6->Prop),qh H->Inv Y PR σ H s->(∀b∈fp,FpOk Y PR H b)->tn i s.heap->J.stop i H ->
  wpAny (model Y.prog Y.w) Y.A (pyNext (.ref it)) (λ r s1=>r=none/\Inv Y PR σ H s1) E s
 self:∀(s:F6)(Q E:G0->F6->Prop),tn 0 s.heap->Q (.ref it) s->wpAny (model Y.prog Y.w) Y.A (pyIter (.ref it)) Q E s
theorem Turn.y{Y:Cx}{tg:Expr}{J:It}{fp:PP PK}{it:PK}{tn:Nat->Heap->Prop}(T:Turn Y.prog Y.w Y.K tg J fp it tn)(hc:Y.calm=true):TurnY Y tg J fp it tn (λ _=>True) :=
 %[T.obj,T.keep,λ i PR s σ H E _=>T.item Y rfl rfl rfl hc i PR s σ H E,λ i PR s σ H E _=>T.done Y rfl rfl rfl hc i PR s σ H E|T.self _ 0]
theorem Inv.sub{Y:Cx}{P Q:RC}{σ:St}{H:Hp}{s:F6}(I:Inv Y P σ H s)(h:∀p∈Q,p∈P):Inv Y Q σ H s:=I.pins_of λ p hp=>I.pin p (A5 _ (h p hp))
theorem FpOk.sub{Y:Cx}{P Q:RC}{H H':Hp}{b:PK}(f:FpOk Y P H b)(n:H' b=none)(h:∀p∈Q,p∈P\/p.1≠b):FpOk Y Q H' b :=
 %[n,f.2.1,f.2.2.1,f.2.2.2.1,f.2.2.2.2.1|λ p hp=>(C3.mp hp).elim (λ z=>f.2.2.2.2.2 p (B6 _ z)) λ z=>(h p z).elim (λ z=>f.2.2.2.2.2 p (A5 _ z)) id]
section
variable{ρ:Type}{Y:Cx}{P5:RC}{σ:St}{H0:Hp}{s0:F6}{D it:PK}{o0:Obj}{fp:PP PK}{tn:Nat->Heap->Prop}{J:It}{g:TG}{tt:TT}{qh:Hp->Prop}{node tg:Expr}{ifs:PP Expr}{lvl:Nat}{ipos:Pos}{body:Sem Unit}
 {Acc:PP ρ->Obj->Prop} {W:Nat->Nat->PP ρ->Hp->Prop} {B:Nat->Nat->PP ρ->St->Hp->Prop} {Fin:PP ρ->Hp->Prop} {Z:PP ρ->Prop} {R:Result->F6->Prop} {ys0:PP ρ}
def yG(node:Expr)(lvl:Nat)(ipos:Pos)(tg:Expr)(ifs:PP Expr)(it acc:G0)(env:Env)(body:Sem Unit):Sem PySem.Fin:=do
 standAt ipos
 match<-pyNext it with
 | none=>pure (.done .next)
 | some v=>
  letOwnedTupleGo tg it v
  assign tg env v
  let mut ok:=true
  for c in ifs do
   if ok then ok<-isTrue c env (eval c env)
  if ok then body
  again (.compLoop node lvl it acc env)
def AZ(σ:St)(J:It)(g:TG)(tt:TT)(qh:Hp->Prop)(Z:PP ρ->Prop)(B:Nat->Nat->PP ρ->St->Hp->Prop)(Fin:PP ρ->Hp->Prop)(W:Nat->Nat->PP ρ->Hp->Prop):Prop :=
 ∀i m ys H,W i m ys H->qh H/\((J.stop i H/\Fin ys H)\/(J.go i H/\Z ys/\∀x H',J.yld i H x H'->g x σ H' λ σ3 H2=>leS σ σ3/\tt σ3 H2 λ ok H3=>if ok=true then B i m ys σ3 H3 else∃m',m' < m/\W (i+1) m' ys H3))
def yH(Y:Cx)(P5:RC)(σ:St)(D:PK)(body:Sem Unit)(Acc:PP ρ->Obj->Prop)(Z:PP ρ->Prop)(B:Nat->Nat->PP ρ->St->Hp->Prop)(W:Nat->Nat->PP ρ->Hp->Prop):Prop :=
 ∀i m ys o σ3 H3 s3 Q5,Z ys->B i m ys σ3 H3->leS σ σ3->Acc ys o->FpOk Y (P5 ++ Q5) H3 D->Inv Y (P5 ++ Q5) σ3 H3 s3->s3.heap.get? D=some o ->
  wpAny (model Y.prog Y.w) Y.A body (λ _ s4=>∃H4 ys' o',Inv Y (P5 ++ Q5) σ3 H4 s4/\s4.heap.get? D=some o'/\Acc ys' o'/\H4 D=none/\∃m',m' < m/\W (i+1) m' ys' H4) (λ _ _=>False) s3
theorem qk(hx:Y.xe=λ _ _=>False)(T:TurnY Y tg J fp it tn qh)(hg:PG Y tg g)(hi:qi Y ifs tt)
  (hturn:(model Y.prog Y.w).den (.compLoop node lvl (.ref it) (.ref D) Y.env)=(yG node lvl ipos tg ifs (.ref it) (.ref D) Y.env body).onRaise (λ x=>do noteFrame x Y.env;theTreesLotGoes x)) (hund:Y.A.under (.compLoop node lvl (.ref it) (.ref D) Y.env)=Y.A) (nc:∀ys o,Acc ys o->∀v,o.data≠.cell v)
  (turn:AZ σ J g tt qh Z B Fin W) (hb:yH Y P5 σ D body Acc Z B W)
  (I0:Inv Y P5 σ H0 s0) (hD:FpOk Y P5 H0 D) (hf:∀b∈fp,FpOk Y P5 H0 b) (df:∀b∈fp,D≠b) (st:tn 0 s0.heap) (e0:s0.heap.get? D=some o0) (a0:Acc ys0 o0) (w0:∃m,W 0 m ys0 H0)
  (hR:∀s' H' ys o,Inv Y P5 σ H' s'->s'.heap.get? D=some o->Acc ys o->H' D=none->Fin ys H'->R (.ok .next) s') :
  codeAny (model Y.prog Y.w) Y.A (.compLoop node lvl (.ref it) (.ref D) Y.env) R s0:=by
 obtain⟨m0,w0⟩:=w0;show codeAny_loop rfl (λ n s'=>∃i H' ys o,Inv Y P5 σ H' s'/\tn i s'.heap/\(∀b∈fp,H' b=none)/\s'.heap.get? D=some o/\Acc ys o/\H' D=none/\W i n ys H') ?_ m0 %[0,H0,ys0,o0,I0,st,λ b hb=>(hf b hb).1,e0,a0,hD.1|w0];rintro n s3 ⟨i,H3,ys,o,I3,st3,fr3,pl3,ac,hD3,w3⟩;rw[hturn,hund];show wpAny_noted ?_;unfold yG;show A0 (wpAny_standAt (A0 ?_));have one:∀{p:PK×Obj},p∈[(D,o)]->p=(D,o):=λ hp=>by simpa using hp
 have I3':Inv Y (P5 ++ [(D,o)]) σ H3 s3:=I3.pins_of λ p hp=>(C3.mp hp).elim (λ z=>I3.pin p (A5 _ z)) λ z=>by rw[one z];exact%[pl3,hD3,hD.2.1,hD.2.2.1|nc _ _ ac]
 have stat:∀{H':Hp},(∀b∈fp,H' b=none)->∀b∈fp,FpOk Y (P5 ++ [(D,o)]) H' b:=λ {H'} hn b hb=>(hf b hb).sub (hn b hb) λ p hp=>(C3.mp hp).imp id λ z=>by rw[one z];exact df b hb
 obtain⟨hq,tu⟩:=turn i n ys H3 w3;rcases tu with⟨stop,qf⟩ | ⟨go,hz,step⟩
 ·show thn (T.done i _ s3 _ H3 _ hq I3' (stat fr3) st3 stop) ?_;rintro r s4 ⟨hr,I4⟩;subst hr;have p4:=I4.pin (D,o) (A5 _ (A5 _ (E2.mpr rfl)));exact A2 (hR _ _ _ _ (I4.sub λ p hp=>B6 _ hp) p4.1 ac p4.2.1 qf)
 ·show thn (T.item i _ s3 _ H3 _ hq I3' (stat fr3) st3 go) ?_;rintro r s4 ⟨u,hr,h4⟩;subst hr;show A0 (thn h4 ?_);rintro _ s5 ⟨x,H5,I5,r5,y5,st5,fr5⟩;have I5':=I5.pinned (stat fr5) (T.obj _ _ st5);have ms:=λ b hb=>T.obj _ _ st5 b hb;have mp:∀b∈fp,∀o,s5.heap.get? b=some o->(b,o)∈fK fp s5.heap:=λ b hb o e=>fL hb e;have mf:∀p∈fK fp s5.heap,p.1∈fp:=λ p hp=>(jA hp).1;generalize fK fp s5.heap=Q5 at I5' mp mf;have hx':∀{v:G0}{s':F6}{Z:Prop},Y.xe v s'->Z:=λ z=>by rw[hx]at z;exact z.elim
  show A0 (Po (hg _ s5 _ H5 x u _ I5' r5 (step x H5 y5)) (?_) λ _ _ z=>hx' z);rintro _ s6 ⟨σ6,H6,I6,le6,q6⟩;show A0 (Po (hi _ s6 σ6 H6 _ I6 q6) (?_) λ _ _ z=>hx' z);rintro b s7 ⟨H7,I7,q7⟩;have p7:=I7.pin (D,o) (A5 _ (B6 _ (A5 _ (E2.mpr rfl))));have I7':Inv Y (P5 ++ Q5) σ6 H7 s7:=I7.sub λ p hp=>(C3.mp hp).elim (λ z=>B6 _ (B6 _ z)) λ z=>A5 _ z;have fin:∀{s8:F6}{H8:Hp}{o8:Obj}{ys8:PP ρ}{m':Nat},Inv Y (P5 ++ Q5) σ6 H8 s8->s8.heap.get? D=some o8->Acc ys8 o8->H8 D=none->m' < n->W (i+1) m' ys8 H8 ->
    wpAny (model Y.prog Y.w) Y.A (again (.compLoop node lvl (.ref it) (.ref D) Y.env)) (λ fin s'=>match fin with
     | .done f=>R (.ok f) s'
     | .again c'=>c'=.compLoop node lvl (.ref it) (.ref D) Y.env/\∃m,m < n/\∃i H' ys o,Inv Y P5 σ H' s'/\tn i s'.heap/\(∀b∈fp,H' b=none)/\s'.heap.get? D=some o/\Acc ys o/\H' D=none/\W i m ys H')
     (notedBy (model Y.prog Y.w) Y.A Y.env λ e s'=>R (.error e) s') s8:=λ {s8 H8 o8 ys8 m'} I8 e8 a8 d8 hm w8=>
   A2 ⟨rfl,m',hm,i+1,H8,ys8,o8,(I8.sub λ p hp=>B6 _ hp).weak le6.1.symm λ i v e=>le6.2 i v e,
    T.keep _ _ _ st5 λ b hb o e=>(I8.pin (b,o) (A5 _ (A5 _ (mp b hb o e)))).1,
    λ b hb=>by obtain⟨o,e,d⟩:=ms b hb;exact(I8.pin (b,o) (A5 _ (A5 _ (mp b hb o e)))).2.1,e8,a8,d8,w8⟩
  cases b with
  | false=>
   rw[PZ B2]at q7;obtain⟨m',hm,w7⟩:=q7;exact fin I7' p7.1 ac p7.2.1 hm w7
  | true=>
   rw[Pa rfl]at q7;show A0 (Po (hb i n ys o σ6 H7 s7 Q5 hz q7 le6 ac (hD.sub p7.2.1 λ p hp=>(C3.mp hp).imp id λ z=>λ e=>df _ (mf p z) e.symm) I7' p7.1) (λ _ s8 h9=>by obtain⟨H8,ys8,o8,I8,e8,a8,d8,m',hm,w8⟩:=h9;exact fin I8 e8 a8 d8 hm w8) λ _ _ z=>z.elim)
end
section
variable{ρ:Type}{X:Cx}{PR:RC}{σ:St}{H2:Hp}{s2:F6}{scope:Scope}{own cs:PP Str}{cap:PP Nat}{fp:PP PK}{it:PK}{tn:Nat->Heap->Prop}
 {node tg:Expr} {J:It} {qh:Hp->Prop} {E:G0->F6->Prop} {mk:Sem G0} {o0:Obj} {ho:PP ρ->HO} {Acc:PP ρ->Obj->Prop} {Fin:PP ρ->Hp->Prop}
theorem nG{RR:G0->PK->Result->F6->Prop}(I:Inv X PR σ H2 s2)(ok:CompOk X scope own cs cap)(T:∀C,TurnY (cN X PR s2 H2 scope C (own ++ cs) fp) tg J fp it tn qh)(st:tn 0 s2.heap)(hf:∀b∈fp,FpOk X PR H2 b)
  (fr:o0.isFreed=false) (hmk:∀{Q E:G0->F6->Prop},Q (.ref s2.heap.objs.size) { s2 with heap:=s2.heap.push o0 }->wpAny (model X.prog X.w) X.A mk Q E s2)
  (hstart:∀{D:PK}{env:Env}{R:Result->F6->Prop}{s:F6},codeAny (model X.prog X.w) X.A (.compLoop node 0 (.ref it) (.ref D) env) R s->wpAny (model X.prog X.w) X.A (pyIter (.ref it)) (λ it' s'=>codeAny (model X.prog X.w) X.A (.compLoop node 0 it' (.ref D) env) R s') (notedBy (model X.prog X.w) X.A env λ x s'=>R (.error x) s') s ->
   codeAny (model X.prog X.w) X.A (.compStart node 0 (.ref it) (.ref D) env) R s)
  (loop:∀(Y:Cx)(D C:PK)(s':F6)(R:Result->F6->Prop),Y=cN X PR s2 H2 scope C (own ++ cs) fp->Inv Y [] (cD σ cap own.length) H2 s'->FpOk Y [] H2 D->(∀b∈fp,FpOk Y [] H2 b)->(∀b∈fp,D≠b)->tn 0 s'.heap->s'.heap.get? D=some o0 ->
   (∀s' H' ys o,Inv Y [] (cD σ cap own.length) H' s'->s'.heap.get? D=some o->Acc ys o->H' D=none->Fin ys H'->R (.ok .next) s')->codeAny (model Y.prog Y.w) Y.A (.compLoop node 0 (.ref it) (.ref D) Y.env) R s')
  (hok:∀{D:PK}{ys:PP ρ}{o:Obj}{H':Hp}{s':F6},(D == sysModules)=false->Acc ys o->Fin ys H'->H' D=none->s'.heap.get? D=some o->ObjOk X.prog X.w (upd H' D (ho ys)) s'.heap D (ho ys))
  (hRR:∀D C s' ys H',H' D=none->Fin ys H'->Inv X PR σ (upd H' D (ho ys)) s'->FpOk X PR (upd H' D (ho ys)) C->(∃m,s'.heap.Ns C m)->RR (.ref D) C (.ok .next) s') :
  wpAny (model X.prog X.w) X.A mk (λ acc s₃=>wpAny (model X.prog X.w) X.A (newFunctionEnv scope X.env.globals (ck X.env scope.names []) [] X.env.qual none .none (some X.env)) (λ cenv s₄=>
   codeAny (model X.prog X.w) X.A (.compStart node 0 (.ref it) acc { cenv with scope:=relabel scope X.env }) (RR acc cenv.locals) s₄) E s₃) E s2:=by
 show hmk (wQ ?_);dsimp only;generalize hHH:s2.heap.push o0=HH;have hCs:HH.objs.size=s2.heap.objs.size+1:=by rw[<- hHH,Pr]
 have hDC:s2.heap.objs.size≠HH.objs.size:=by rw[hCs];exact B9 (F0 _)
 have hCle:s2.heap.objs.size<=HH.objs.size:=by rw[hCs];exact Nat.le_succ _
 have hsys:(s2.heap.objs.size == sysModules)=false:=Pp.mpr (N2 (Nat.lt_trans ∅ (I.mod.glob.keeps I.bk).lt));have hfl:∀b∈fp,b < s2.heap.objs.size:=λ b hb=>by obtain⟨o,e,_⟩:=(T 0).obj 0 _ st b hb;exact A9 e
 have hpk:∀b o,HH.get? b=some o->(pushCells (HH.push { cls:=.type "dict",data:=.dict #[] }) scope.names).get? b=some o:=λ b o e=>pushCells_keeps _ _ b o (A7 _ e);have hns₁:(pushCells (HH.push { cls:=.type "dict",data:=.dict #[] }) scope.names).Ns HH.objs.size (λ _=>none):=(Heap.Ns.new HH (.type "dict")).keeps (pushCells_keeps _ _);have old:∀b o,s2.heap.get? b=some o->(pushCells (HH.push { cls:=.type "dict",data:=.dict #[] }) scope.names).get? b=some o:=λ b o e=>hpk b o (hHH ▸ A7 _ e);have hacc:(pushCells (HH.push { cls:=.type "dict",data:=.dict #[] }) scope.names).get? s2.heap.objs.size=some o0:=hpk _ _ (hHH ▸ A8 _ fr);have sub:∀x c,(ck X.env scope.names []).lookup x=some c->X.env.cells.lookup x=some c:=λ x c e=>ee X.env scope.names [] x c (λ y hy e=>I.ok.has y.1 (ok.free y hy e)) (λ _ _ z=>by simp at z) e;have hcl₁:∀x c,(cellsFrom (HH.objs.size+1) scope.names (ck X.env scope.names [])).lookup x=some c->∃v,(pushCells (HH.push { cls:=.type "dict",data:=.dict #[] }) scope.names).IsCell c v:=by
  have:=kI scope.names (HH.push { cls:=.type "dict",data:=.dict #[] }) (ck X.env scope.names []) λ x c e=>by obtain⟨v,o,ho,hd⟩:=I.cell x c (sub x c e);exact%[v,o,A7 _ (hHH ▸ A7 _ ho)|hd]
  rw[Pr]at this;exact this
 generalize pushCells (HH.push { cls:=.type "dict",data:=.dict #[] }) scope.names=h₁ at *;generalize hD:s2.heap.objs.size=D at *;generalize hCC:HH.objs.size=C at *;have I0:Inv (cN X PR s2 H2 scope C (own ++ cs) fp) [] (cD σ cap own.length) H2 { s2 with heap:=h₁ } :=
  qj I ok hf (λ b hb=>by rw[hD];exact hfl b hb) (by rw[hD];exact hCle) hns₁ hcl₁ old
 have Dn:H2 D=none:=I.hok.fresh (by rw[hD];exact B3 _);have FD:FpOk (cN X PR s2 H2 scope C (own ++ cs) fp) [] H2 D:=by
  show%[Dn,hDC,λ hb=>?_,.inr (by change s2.heap.objs.size<=D;rw[hD];exact B3 _),λ x c e=>?_|λ p hp=>?_]
  ·obtain⟨_,o,ho,_⟩:=I.stack.mem hb;exact absurd (A9 ho) (by rw[hD];exact E1 _)
  ·rcases jM _ _ _ _ _ e with q | q
   ·obtain⟨v,o,ho,_⟩:=I.cell x c (sub x c q);exact B9 (hD ▸ A9 ho)
   ·exact Ne.symm (B9 (C7 hCle (Nat.lt_of_succ_le q)))
  ·have hp':p∈X.pn ++ PR:=by have:p∈(X.pn ++ PR) ++ []:=hp;simpa using this
   exact B9 (hD ▸ A9 (I.pin p hp').1)
 have st1:tn 0 h₁:=(T 0).keep 0 _ _ st λ b _ o e=>old b o e;have main:=loop _ D C { s2 with heap:=h₁ } (RR (.ref D) C) rfl I0 FD (λ b hb=>by
   have q:=I0.ok.exf b hb;show%[(hf b hb).1,q.1,I0.ok.exfs b hb,.inl hb,q.2|λ p hp=>?_];have:p∈(X.pn ++ PR) ++ []:=hp;exact(hf b hb).2.2.2.2.2 p (by simpa using this)) (λ b hb z=>absurd (hfl b hb) (by rw[<- z];exact E1 _)) st1 hacc λ s4 H3 ys o I4 pl4 ac hD3 qf=>by
  have u4:=I4.base;have Ds2:s2.heap.get? D=none:=Heap.get?_none_of_le (by rw[hD];exact B3 _);have CH:(upd H3 D (ho ys)) C=none:=by rw[aw (Ne.symm hDC)];exact I4.free
  show hRR D C s4 ys H3 hD3 qf ?_ (I.fpOk (H':=upd H3 D (ho ys)) (by rw[hD];exact hCle) CH) (let ⟨m,hn,_⟩:=I4.loc;%[m|hn]);show I.call' (s':=s4) (ch:=fp) I4.os %[u4.keep,u4.slot,λ b o e n hx=>?_,u4.there,λ b xs e=>?_,λ b o u e=>?_|λ b ps e=>?_] ?_ I4.bare λ b hb=>%[(hf b hb).2.2.2.1,(hf b hb).2.1,(hf b hb).2.2.2.2.1|(hf b hb).2.2.2.2.2]
  ·rw[aw (λ z=>by rw[z,Ds2]at e;cases e)];exact u4.free b o e n hx
  ·have:=u4.tups b xs e;rw[aw (ao this hD3)];exact this
  ·have:=u4.frzs b o u e;rw[aw (ao this hD3)];exact this
  ·obtain⟨more,e'⟩:=u4.tbls b ps e;exact%[more|by rw[aw (ao e' hD3)];exact e']
  ·exact I4.hok.add hD3 (hok hsys ac qf hD3 pl4)
 exact hstart main ((T C).self _ _ _ st1 main)
end
def AccL(ys:PP V)(o:Obj):Prop:=∃its nn,o={ cls:=.type "list",data:=.seq (its:PP G0).toArray nn }/\Vals ys its
theorem AccL.nc:∀ys o,AccL ys o->∀v,o.data≠.cell v:=by rintro _ _ ⟨its,nn,rfl,_⟩ v z;cases z
def BL(te:TE)(W:Nat->Nat->PP V->Hp->Prop):Nat->Nat->PP V->St->Hp->Prop:=λ i m ys σ3 H3=>te σ3 H3 (λ v H4=>∃m',m' < m/\W (i+1) m' (ys ++ [v]) H4)
theorem qo{Y:Cx}{P5:RC}{σ:St}{D:PK}{elt:Expr}{te:TE}{W:Nat->Nat->PP V->Hp->Prop}(hx:Y.xe=λ _ _=>False)(he:PE Y elt te) :
  yH Y P5 σ D (do let _<-call (.builtin "list.append") [.ref D,<- eval elt Y.env]) AccL (λ ys=>ys.length < sizeLine) (BL te W) W:=by
 rintro i m ys o σ3 H3 s3 Q5 hz hq le ⟨its,nn,rfl,rv⟩ fD I3 e3;have I3':Inv Y ((P5 ++ Q5) ++ [(D,{ cls:=.type "list",data:=.seq its.toArray nn })]) σ3 H3 s3:=I3.pins_of λ p hp=>(C3.mp hp).elim (λ z=>I3.pin p (A5 _ z)) λ z=>by
  obtain rfl:p=_:=by simpa using z
  exact%[e3,fD.1,fD.2.1,fD.2.2.1|λ v z=>by cases z]
 show A0 (Po (he _ s3 σ3 H3 _ I3' hq) (?_) λ _ _ z=>by rw[hx]at z;exact z.elim);rintro y s8 ⟨v,H8,I8,r8,m',hm,w8⟩;have pD:=I8.pin (D,{ cls:=.type "list",data:=.seq its.toArray nn }) (A5 _ (A5 _ (E2.mpr rfl)));have PV:=rv.length;show A0 (wpAny_list_append_plain (hsz:=by rw[I9];omega) %[nn|pD.1] λ h9 %[n9|pl9] sb9=>A2 ?_);show%[H8,ys ++ [v],_,(I8.sub λ p hp=>B6 _ hp).turned (t':=s8.toks) (λ b o hb e=>sb9.extBut b o hb e) pD.2.1 fD.2.1 fD.2.2.2.1 fD.2.2.2.2.1 fD.2.2.2.2.2,pl9,%[its ++ [y],n9,by simp|rv.append (.cons r8 .nil)],pD.2.1,m',hm|w8]
section
variable{X:Cx}{PR:RC}{σ:St}{H2:Hp}{s2:F6}{scope:Scope}{own cs:PP Str}{cap:PP Nat}{fp:PP PK}{it:PK}{tn:Nat->Heap->Prop}
 {elt tg iter:Expr} {ifs:PP Expr} {pos:Pos} {J:It} {g:TG} {tt:TT} {te:TE} {qh:Hp->Prop} {E:G0->F6->Prop} {W:Nat->Nat->PP V->Hp->Prop} {Qf:PP V->Hp->Prop}
theorem lV{RR:G0->PK->Result->F6->Prop}(I:Inv X PR σ H2 s2)(ok:CompOk X scope own cs cap)(T:∀C,TurnY (cN X PR s2 H2 scope C (own ++ cs) fp) tg J fp it tn qh)(st:tn 0 s2.heap)(hf:∀b∈fp,FpOk X PR H2 b)
  (hg:∀C,PG (cN X PR s2 H2 scope C (own ++ cs) fp) tg g) (hi:∀C,qi (cN X PR s2 H2 scope C (own ++ cs) fp) ifs tt) (he:∀C,PE (cN X PR s2 H2 scope C (own ++ cs) fp) elt te)
  (w0:∃m,W 0 m [] H2) (hq:∀i m ys H,W i m ys H->qh H) (turn:iK σ cap own.length J g tt te Qf W)
  (hRR:∀D C s' ys H',H' D=none->(ys.length<=sizeLine/\Qf ys H')->Inv X PR σ (upd H' D (.lst ys)) s'->FpOk X PR (upd H' D (.lst ys)) C->(∃m,s'.heap.Ns C m)->RR (.ref D) C (.ok .next) s') :
  wpAny (model X.prog X.w) X.A (newList []) (λ acc s₃=>wpAny (model X.prog X.w) X.A (newFunctionEnv scope X.env.globals (ck X.env scope.names []) [] X.env.qual none .none (some X.env)) (λ cenv s₄=>
   codeAny (model X.prog X.w) X.A (.compStart (.ListComp elt [%[tg,iter,ifs|0]] scope pos) 0 (.ref it) acc { cenv with scope:=relabel scope X.env }) (RR acc cenv.locals) s₄) E s₃) E s2:=by
 show nG (Acc:=AccL) (Fin:=λ ys H=>ys.length<=sizeLine/\Qf ys H) (ho:=.lst) I ok T st hf rfl (λ h=>F4 h) codeAny_compStart_list (λ Y D C s' R hY I0 hD hf' df st0 e0 hR=>?_) (λ _ ⟨its,nn,e,rv⟩ q _ p=>%[q.1,its,nn,rv|e ▸ p]) hRR;subst hY;exact qk (ipos:=iter.pos) (body:=do let _<-call (.builtin "list.append") [.ref D,<-eval elt (cN X PR s2 H2 scope C (own ++ cs) fp).env]) rfl (T C) (hg C) (hi C) rfl rfl AccL.nc (λ i m ys H w=>%[hq _ _ _ _ w|turn i m ys H w]) (qo rfl (he C)) I0 hD hf' df st0 e0 %[[],_,rfl|.nil] w0 hR
def uj(wi:TI)(cap:PP Nat)(k:Nat)(g:TG)(tt:TT)(te:TE):TE:=λ σ H Q=>wi σ H λ J H1=>
 ∃W:Nat->Nat->PP V->Hp->Prop,(∃m,W 0 m [] H1)/\iK σ cap k J g tt te (λ ys H'=>∀p,H' p=none->Q (.ref p) (upd H' p (.lst ys))) W
theorem cz{wi:TI}(hc:X.calm=true)(hit:PI X tg iter wi)(ok:CompOk X scope own cs cap)
  (hg:∀PR s2 H2 C fp,PG (cN X PR s2 H2 scope C (own ++ cs) fp) tg g) (hi:∀PR s2 H2 C fp,qi (cN X PR s2 H2 scope C (own ++ cs) fp) ifs tt) (he:∀PR s2 H2 C fp,PE (cN X PR s2 H2 scope C (own ++ cs) fp) elt te)
  (hs:∀x,foldedSetIterable iter X.env x=pure x:=by intro _;rfl):PE X (.ListComp elt [%[tg,iter,ifs|0]] scope pos) (uj wi cap own.length g tt te):=by
 intro PR s σ H Q I h;rw[eval_ListComp];show wpAny_comprehension_free (use:=none) rfl hs (iJ λ y hy e=>I.ok.has y.1 (ok.free y hy e)) ok.kind ok.names (thn (hit PR s σ H _ I h) λ v s1 h1=>thn h1 λ itv s2 h2=>?_);obtain⟨it,fp,tn,J,H2,e,I2,T,st2,f2,W,w0,turn⟩:=h2;subst e;show lV (RR:=λ acc C=>compPost (model X.prog X.w) X.A X.xe none (EP X PR σ Q) acc C) I2 ok (λ C=>Turn.y (Y:=cN X PR s2 H2 scope C (own ++ cs) fp) T hc) st2 f2 (λ C=>hg _ _ _ _ _) (λ C=>hi _ _ _ _ _) (λ C=>he _ _ _ _ _) w0 (λ _ _ _ _ _=>trivial) turn λ D C s' ys H' hD %[_|q] I' fp' %[m|hn]=>?_;obtain⟨f0,f1,f2',f3,f4,f5⟩:=fp';exact%[m,hn|λ h' sb=>%[.ref D,_,I'.turned (t':=s'.toks) (λ b o hb e=>sb.extBut b o hb e) f0 f1 f3 f4 f5,O|q D hD]]
theorem gj{wi:TI}{i:Nat}{y:Str}{py spos:Pos}(hc:X.calm=true)(hN:X.N.Nodup)(hiy:X.N[i]?=some y)(hy:X.env.scope.names.lookup y=some .local)
  (hsw:swapsWith (.ListComp elt [%[tg,iter,ifs|0]] scope pos) (some (.Name y py)) spos.line X.env=pure true) (hit:PI X tg iter wi) (ok:CompOk X scope own cs cap)
  (hg:∀PR s2 H2 C fp,PG (cN X PR s2 H2 scope C (own ++ cs) fp) tg g) (hi:∀PR s2 H2 C fp,qi (cN X PR s2 H2 scope C (own ++ cs) fp) ifs tt) (he:∀PR s2 H2 C fp,PE (cN X PR s2 H2 scope C (own ++ cs) fp) elt te)
  (hs:∀x,foldedSetIterable iter X.env x=pure x:=by intro _;rfl):PS X (.Assign [.Name y py] (.ListComp elt [%[tg,iter,ifs|0]] scope pos) spos) (yW (uj wi cap own.length g tt te) (cB i)):=by
 intro PR s σ H D0 I h;rw[exec_Assign_Name_used _ _ _ _ hsw];show A0 (wpAny_standAt (A0 ?_));change wpAny _ X.A (do let _<-comprehension (.ListComp elt [%[tg,iter,ifs|0]] scope pos) scope X.env _ (newList []) false (eval iter X.env) (some (assign (.Name y py) X.env))) _ _ s;show A0 (Po (wpAny_comprehension_free (use:=some (assign (.Name y py) X.env)) (Q:=λ _ s'=>SP X PR D0 .next s') rfl hs (iJ λ y hy e=>I.ok.has y.1 (ok.free y hy e)) ok.kind ok.names
  (thn (hit PR s σ H _ I h) λ v s1 h1=>thn h1 λ itv s2 h2=>?_)) (λ _ s' hq=>A2 (A2 hq)) λ _ _ e=>e)
 obtain⟨it,fp,tn,J,H2,e,I2,T,st2,f2,W,w0,turn⟩:=h2;subst e;show lV (RR:=λ acc C=>compPost (model X.prog X.w) X.A X.xe (some (assign (.Name y py) X.env)) (λ _ s'=>SP X PR D0 .next s') acc C) I2 ok (λ C=>Turn.y (Y:=cN X PR s2 H2 scope C (own ++ cs) fp) T hc) st2 f2 (λ C=>hg _ _ _ _ _) (λ C=>hi _ _ _ _ _) (λ C=>he _ _ _ _ _) w0 (λ _ _ _ _ _=>trivial) turn λ D C s' ys H' hD %[_|q] I' fp' %[m|hn]=>?_;obtain⟨f0,f1,f2',f3,f4,f5⟩:=fp';change wpAny _ X.A (assign (.Name y py) X.env (.ref D)) _ _ _;show wpAny_assign_Name (jy I' hN hiy (.inl hy) (v:=.ref D) rfl (?_) (.inr hy));rintro s3 I3 ⟨a,sb,ha⟩;have hCa:C≠a:=by
  rcases ha with z | z
  ·rw[z];exact f1
  ·exactλ q=>f4 y a z q.symm
 show%[m,hn.sameBut sb hCa|λ h' sb'=>%[_,_,I3.turned (t':=s3.toks) (λ b o hb e=>sb'.extBut b o hb e) f0 f1 f3 f4 f5|q D hD]]
end
def CDivB(i j:Int):Prop:=0 < j/\j<=10 ^ 60
theorem CDivB.np{i j:Int}(h:CDivB i j):Builtin.divisionGoesByPylong i j=false:=by
 show PyProof.noPylong_of_log2 ?_;have h1:j.natAbs < 2 ^ 200:=by obtain⟨a,b⟩:=h;omega
 have h2:j.natAbs.log2 < 200:=(Nat.log2_lt (by have:=h.1;omega)).mpr h1;omega
section
variable{X:Cx}
theorem iL:OpR X (binaryOp .FloorDiv) (rI CDivB λ i j=>.int (i / j)):=opI λ i j _ _ _ _ _ hc q=>by show floordiv_int (by have:=hc.1;omega) ?_ (.inl hc.np);rw[Int.fdiv_eq_ediv_of_nonneg _ (by have:=hc.1;omega)];exact q
theorem Inv.kitx{PR:RC}{σ:St}{H:Hp}{s:F6}{x:V}{u t:G0}(I:Inv X PR σ H s)(rx:RelV x u)(ty:TyOf X.K H x t) :
  ∃P:Heap->Prop,PySem.W.KitX X.K u t P/\P s.heap/\u≠.builtin "__main__.__loader__#opaque" := by
 cases ty with
 | non=>cases(show u=Value.none from rx);exact%[_,PySem.W.kitx_none,True.intro|λ z=>nomatch z]
 | bl y=>cases(show u=Value.bool y from rx);exact%[_,PySem.W.kitx_bool,True.intro|λ z=>nomatch z]
 | int i=>obtain⟨t,q⟩:=(show∃t,u=Value.int i t from rx);cases q;exact%[_,PySem.W.kitx_int,True.intro|λ z=>nomatch z]
 | str y=>obtain⟨t,q⟩:=(show∃t,u=Value.str y t from rx);cases q;exact%[_,PySem.W.kitx_str,True.intro|λ z=>nomatch z]
 | @lst a xs ea=>
  cases(show u=Value.ref a from rx);obtain⟨_,_,n,_,h1⟩:=(show ObjOk X.prog X.w H s.heap a (.lst xs)from I.hok a _ ea)
  exact%[_,PySem.W.kitx_list,%[_,h1|O]|λ z=>nomatch z]
 | @frz a ob xs ea=>
  cases(show u=Value.ref a from rx);obtain⟨_,_,_,n,_,h1⟩:=(show ObjOk X.prog X.w H s.heap a (.frz ob (.lst xs))from I.hok a _ ea)
  exact%[_,PySem.W.kitx_list,%[_,h1|O]|λ z=>nomatch z]
 | @tup a xs ea=>
  cases(show u=Value.ref a from rx);obtain⟨_,_,_,p⟩:=(show ObjOk X.prog X.w H s.heap a (.tup xs)from I.hok a _ ea)
  obtain⟨o,h1,h2,_⟩:=p;exact%[_,PySem.W.kitx_tuple,%[o,h1|h2]|λ z=>nomatch z]
 | @dK a kvs ea=>
  cases(show u=Value.ref a from rx);obtain⟨_,_,vs,_,p⟩:=(show ObjOk X.prog X.w H s.heap a (.dK kvs)from I.hok a _ ea)
  obtain⟨o,es,ep,h1,h2,_⟩:=p;exact%[_,PySem.W.kitx_dict,%[o,h1|h2.1]|λ z=>nomatch z]
 | @ins a C dx fs ea cl ha hn htk hm=>
  cases(show u=Value.ref a from rx);obtain⟨mA,OO0,_⟩:=gc I.hok ea;obtain⟨od,J,_⟩:=OO0.look;exact%[_,PySem.W.kitx_own (cl.get _) cl.hd ha hn htk hm,J|λ z=>nomatch z]
def clV:V->PM Value
 | .ty T=>some (.type T)
 | .ref C=>↑C
 | _=>none
theorem clV.rel{v:V}{u c:G0}(e:clV v=some c)(r:RelV v u):u=c:=by
 cases v with
 | ty T=>have e':Value.type T=c:=B8 e;rw[<- e'];exact r
 | ref C=>have e':Value.ref C=c:=B8 e;rw[<- e'];exact r
 | _=>cases e
def clVs:PP V->PM (PP G0)
 | []=>some []
 | v :: r=>match clV v,clVs r with
  | some c,some cs=>some (c :: cs)
  | _,_=>none
theorem clVs.rel:∀{vs:PP V}{us cs:PP G0},clVs vs=some cs->Vals vs us->us=cs
 | [],_,_,e,.nil=>B8 e
 | v :: r,_,_,e,.cons r1 r2=>by
  unfold clVs at e
  split at e
  ·rename_i c cs' e1 e2
   cases e;rw[clV.rel e1 r1,clVs.rel e2 r2]
  ·cases e
inductive rz_call_isinst(K:C5)(xs:PP V)(H:Hp)(Q:VK):Prop
|mk(x cv t c b:_)(_:xs=[x,cv])(_:TyOf K H x t)(_:clV cv=some c)(_:PySem.W.kitOne K t c=some b)(_:Q (.bl b) H)
theorem bi:cU X (.builtin "isinstance") (rz_call_isinst X.K):=by
 intro PR s σ H xs us Q I rv h;obtain⟨x,cv,t,c,b,rfl,ty,e1,e2,q⟩:=h;cases rv with
 | cons r1 rr=>
  cases rr with
  | cons r2 rr=>
   cases rr;rw[clV.rel e1 r2];exact qa I r1 ty e2 λ tk=>%[.bl b,H,I.tok tk,O|q]
inductive rz_call_isinstT(K:C5)(xs:PP V)(H:Hp)(Q:VK):Prop
|mk(x p t cvs cs b:_)(_:xs=[x,.ref p])(_:TyOf K H x t)(_:H p= ~~~cvs)(_:clVs cvs=some cs)(_:PySem.W.kitAny K t cs=some b)(_:Q (.bl b) H)
theorem kM:cU X (.builtin "isinstance") (rz_call_isinstT X.K):=by
 intro PR s σ H xs us Q I rv h;obtain⟨x,p,t,cvs,cs,b,rfl,ty,hp,e1,e2,q⟩:=h;cases rv with
 | cons r1 rr=>
  cases rr with
  | cons r2 rr=>
   cases rr;cases r2;obtain⟨_,its,rits,o,ho,hc,n,hd⟩:=I.hok p _ hp;obtain⟨P,Z,p1,p2⟩:=I.kitx r1 ty;obtain⟨oc,od,dt,osl⟩:=o
   replace hc:oc=.type "tuple" := hc
   replace hd:dt=.seq its.toArray n:=hd
   subst hc hd;have e3:=clVs.rel e1 rits;subst e3;exact PySem.W.kia_tup Z I.kIn p1 ho e2 p2 λ tk=>%[.bl b,H,I.tok tk,O|q]
end
mutual
inductive DatV(K:C5)(H:Hp):V->PyData->Prop
 | non:DatV K H .non .none
 | bl (b:Bool):DatV K H (.bl b) (.bool b)
 | int (i:Int):DatV K H (.int i) (.int i)
 | str (x:Str):DatV K H (.str x) (.str x)
 | lst {a:PK} {xs:PP V} {ds:PP PyData}:SqL K H a xs->DatVs K H xs ds->DatV K H (.ref a) (.list ds)
 | tup {a:PK} {xs:PP V} {ds:PP PyData}:SqT K H a xs->DatVs K H xs ds->DatV K H (.ref a) (.tuple ds)
inductive DatVs(K:C5)(H:Hp):PP V->PP PyData->Prop
 | nil:DatVs K H [] []
 | cons {x:V} {d:PyData} {xs:PP V} {ds:PP PyData}:DatV K H x d->DatVs K H xs ds->DatVs K H (x :: xs) (d :: ds)
end
section
variable{X:Cx}{PR:RC}{σ:St}{H:Hp}{s:F6}
mutual
theorem Inv.reads(I:Inv X PR σ H s):∀{v:V}{d:PyData},DatV X.K H v d->∀{u:G0},RelV v u->∃as,Reads s.heap u d as
 | _,_,.non,u,r=>by cases(show u=Value.none from r);exact%[_|.none]
 | _,_,.bl b,u,r=>by cases(show u=Value.bool b from r);exact%[_|.bool b]
 | _,_,.int i,u,r=>by obtain⟨t,e⟩:=(show∃t,u=Value.int i t from r);subst e;exact%[_|.int i t]
 | _,_,.str x,u,r=>by obtain⟨t,e⟩:=(show∃t,u=Value.str x t from r);subst e;exact%[_|.str x t]
 | _,_,.lst (a:=a) h hs,u,r=>by cases(show u=Value.ref a from r);obtain⟨its,rv,⟨o,n,e,c,_,d⟩,_⟩:=I.list h;obtain⟨as,ra⟩:=I.readsAll hs rv;exact%[_|.list e c d (by simpa using ra)]
 | _,_,.tup (a:=a) h hs,u,r=>by cases(show u=Value.ref a from r);obtain⟨its,rv,⟨o,e,c,n,d⟩,_⟩:=I.tuple h;obtain⟨as,ra⟩:=I.readsAll hs rv;exact%[_|.tuple e c d (by simpa using ra)]
theorem Inv.readsAll(I:Inv X PR σ H s):∀{vs:PP V}{ds:PP PyData},DatVs X.K H vs ds->∀{us:PP G0},Vals vs us->∃as,ReadsAll s.heap us ds as
 | _,_,.nil,_,.nil=>%[_|.nil]
 | _,_,.cons h hs,_,.cons r rs=>by obtain⟨as,ra⟩:=I.reads h r;obtain⟨bs,rb⟩:=I.readsAll hs rs;exact%[_|.cons ra rb]
end
end
section
variable{X:Cx}
inductive rz_op_neD(K:C5)(x:V)(y:V)(H:Hp)(Q:VK):Prop
|mk(da db:_)(_:DatV K H x da)(_:DatV K H y db)(_:SeqAt.shaped da=true)(_:SeqAt.shaped db=true)(_:Q (.bl (!PyData.eqv da db)) H)
theorem zi(hu:X.A.units+64 < cLine):OpR X (compareOp .NotEq) (rz_op_neD X.K):=by intro PR s σ H x y v u Q I rx ry h;obtain⟨da,db,hx,hy,s1,s2,q⟩:=h;obtain⟨as,ra⟩:=I.reads hx rx;obtain⟨bs,rb⟩:=I.reads hy ry;exact ne_dataH ra rb s1 s2 hu %[.bl _,H,I,rfl|q]
inductive rz_op_eqD(K:C5)(x:V)(y:V)(H:Hp)(Q:VK):Prop
|mk(da db:_)(_:DatV K H x da)(_:DatV K H y db)(_:SeqAt.shaped da=true)(_:SeqAt.shaped db=true)(_:Q (.bl (PyData.eqv da db)) H)
theorem kN(hu:X.A.units+64 < cLine):OpR X (compareOp .Eq) (rz_op_eqD X.K):=by intro PR s σ H x y v u Q I rx ry h;obtain⟨da,db,hx,hy,s1,s2,q⟩:=h;obtain⟨as,ra⟩:=I.reads hx rx;obtain⟨bs,rb⟩:=I.reads hy ry;exact eq_dataH ra rb s1 s2 hu %[.bl _,H,I,rfl|q]
end
section
variable{prog:F7}{w:F9}{A:Around}{E:G0->F6->Prop}
theorem iM{it l:PK}{items:PN G0}(hne:l≠it):∀(n i:Nat)(s:F6)(Q:PP G0->F6->Prop),s.heap.IsListIter it l i->s.heap.IsList l items->i+n<=items.size ->
  (∀h',h'.IsListIter it l (i+n)->Heap.SameBut it s.heap h'->Q ((items.toList.drop i).take n) { s with heap:=h' })->wpAny (model prog w) A (draw (.ref it) n) Q E s
 | 0,i,s,Q,hit,_,_,hQ=>by change wpAny _ _ (pure []) Q E s;exact A2 (by simpa using hQ s.heap hit (Heap.SameBut.refl ..))
 | n+1,i,s,Q,hit,ht,hle,hQ=>by
  have hlt:i < items.size:=⋯
  change wpAny _ _ (pyNext (.ref it) >>= _) Q E s;show A0 (wpAny_pyNext_list_item hit ht (x:=items[i]) (by simp[hlt]) λ h₁ hit₁ hs₁=>?_);show A0 (Ph (iM hne n (i+1) _ _ hit₁ (ht.extBut hs₁.extBut hne) ⋯ λ h₂ hit₂ hs₂=>A2 ?_));have hd:items.toList.drop i=items[i] :: items.toList.drop (i+1):=by simp[List.drop_eq_getElem_cons,hlt]
  have q:=hQ h₂ (by rw[show i+(n+1)=i+1+n by omega];exact hit₂) (hs₁.trans hs₂);rw[hd,List.take_succ_cons]at q;exact q
theorem gm{s:F6}{l:PK}{items:PN G0}{Q:PP G0->F6->Prop}(hh:A.handled=none)(ht:s.heap.IsList l items)
  (hQ:∀h',Heap.ExtBut s.heap.objs.size s.heap h'->Q items.toList { s with heap:=h' }):wpAny (model prog w) A (unpackItems (.ref l) items.size none) Q E s:=by
 have hlt:l≠s.heap.objs.size:=by obtain⟨o,ho,_⟩:=ht;exact B9 (A9 ho)
 have hp:(s.heap.push { cls:=.type "list_iterator",data:=.fields #[.ref l,.int 0 0] }).IsList l items:=by obtain⟨o,ho,r⟩:=ht;exact%[o,A7 _ ho|r]
 unfold unpackItems;show A0 ?_
 ·unfold notIterableAtAll;show A0 (wpAny_specialOf ht.typeIs PySem.slot_list_iter.lookup ?_);show A2 ?_;simp only[J6,Pn];show A0 (Ph (wpAny_pyIter_list ht ?_));show A0 (Ph (iM hlt items.size 0 _ _ %[_,A8 _ rfl,rfl|rfl] hp ⋯ λ h₁ hit₁ hs₁=>?_));have hall:List.take items.size (List.drop 0 items.toList)=items.toList:=by rw[List.drop_zero];exact M7 (by simp)
  rw[hall];rw[PZ (by simp)];have ht₁:h₁.IsList l items:=hp.extBut hs₁.extBut hlt;show A0 (Ph (wpAny_pyNext_list_end hh hit₁ ht₁ (by simp) λ h₂ he₂=>?_));simp only[Option.isSome_none,J6,if_false];show A2 (hQ h₂ λ b o hb e=>he₂ b o hb (hs₁.extBut b o hb (A7 _ e)))
theorem fR{s:F6}{env:Env}{elts:PP Expr}{x1}{pos:Pos}{l:PK}{items:PN G0}{Q:Unit->F6->Prop}(hh:A.handled=none)(ht:s.heap.IsList l items)
  (hn:(assignEach elts env).length=items.size) (hstar:(assignEach elts env).findIdx? (·.1)=none)
  (h:∀h',Heap.ExtBut s.heap.objs.size s.heap h'->wpAny (model prog w) A (assignInOrder ((assignEach elts env).map (·.2)) items.toList) Q E { s with heap:=h' }) :
  wpAny (model prog w) A (assign (.Tuple elts x1 pos) env (.ref l)) Q E s:=by
 rw[assign_Tuple];show A0 (wpAny_standAt ?_);unfold unpack;rw[hn,hstar];exact A0 (Ph (gm hh ht h))
end
section
variable{X:Cx}{pos:Pos}
def LK(K:C5)(n:Nat)(t:TGs):TG:=λ v σ H Q=>∃a xs,v=.ref a/\(SqL K H a xs\/SqT K H a xs)/\xs.length=n/\t xs σ H Q
theorem nH{es:PP Expr}{k:Nat}{t:TGs}{n:Nat}(hc:X.calm=true)(h:PGs X es t)
  (hn:(assignEach es X.env).length=n:=by rfl) (hst:(assignEach es X.env).findIdx? (·.1)=none:=by rfl):PG X (.Tuple es k pos) (LK X.K n t):=by
 intro PR s σ H v u Q I r hw;obtain⟨a,xs,e1,hq,hl,hw⟩:=hw;rcases hq with hq | hq
 ·subst e1;cases r;obtain⟨its,rv,ht,hz⟩:=I.list hq;show fR (I.ok.hd hc) ht.isList (by simp[hn,<- hl,rv.length]) hst λ h' hx=>?_;have I1:Inv X PR σ H { s with heap:=h' }:=I.kept (t':=s.toks) λ b o e=>hx b o (B9 (A9 e)) e;exact h PR _ σ H xs _ Q I1 (by simpa using rv) hw
 ·exact bf hc h hn hst PR s σ H v u Q I r %[a,xs,e1,hq,hl|hw]
end
section
variable{X:Cx}
theorem Inv.turnedN{PR:RC}{σ:St}{H:Hp}{s:F6}{h':Heap}{t':Nat}{ch:PP PK}(I:Inv X PR σ H s)(hf:∀b∈ch,FpOk X PR H b)(k:∀b o,b∉ch->s.heap.get? b=some o->h'.get? b=some o):Inv X PR σ H { s with heap:=h',toks:=t' }:=by
 have hLc:X.env.locals∉ch:=λ z=>(hf _ z).2.1 rfl;have nt:∀b u,H b=some u->b∉ch:=λ b u e z=>by rw[(hf b z).1]at e;cases e
 show I.step (g':=s.gens) (d':=s.drawn) (ch:=ch) (λ b hb=>%[(hf b hb).2.2.2.1,(hf b hb).2.1,(hf b hb).2.2.2.2.1|(hf b hb).2.2.2.2.2]) (λ b o _ _ hc e _=>k b o hc e) (λ b o _ _ hc e _=>%[o.slots|k b o hc e]) (λ _ _ _ _ n=>n)
  (λ b o hc e=>%[o|k b o hc e]) (λ _ _ e=>e) (λ _ _ _ e=>e) (λ b ps e=>%[#[]|by rw[e];simp]) (λ m hm=>?_) (λ b u e=>?_) I.bare
 ·obtain⟨o,es,ep,ho,r⟩:=hm;exact%[o,es,ep,k _ o hLc ho|r]
 ·show(I.hok b u e).stay (λ c v hc q=>k c v ?_ q) (λ _ q=>q) λ _ _ q=>q;rcases hc with z | z
  ·rw[z];exact nt b u e
  ·exact nt c _ z
theorem Inv.track{PR:RC}{σ:St}{H:Hp}{s:F6}{a:PK}{o:HO}(I:Inv X PR σ H s)(hf:FpOk X PR H a)(fa:X.s₀.heap.objs.size<=a)(new:ObjOk X.prog X.w (upd H a o) s.heap a o):Inv X PR σ (upd H a o) s:=by
 obtain⟨f0,f1,f2,f3,f4,f5⟩:=hf;have s0:∀b o,X.s₀.heap.get? b=some o->b≠a:=λ b o e=>B9 (C2 (A9 e) fa);show%[I.ok,I.os,I.bare,%[I.base.keep,I.base.slot,λ b o e n hx=>?_,I.base.there,λ b xs e=>?_,λ b o u e=>?_|λ b ps e=>?_],I.loc,I.cell,?_,λ x c e=>?_,λ p hp=>?_,I.hok.add f0 new|I.len]
 ·rw[aw (s0 b o e)];exact I.base.free b o e n hx
 ·have q:=I.base.tups b xs e;rw[aw (ao q f0)];exact q
 ·have q:=I.base.frzs b o u e;rw[aw (ao q f0)];exact q
 ·obtain⟨more,q⟩:=I.base.tbls b ps e;exact%[more|by rw[aw (ao q f0)];exact q]
 ·rw[aw (Ne.symm f1)];exact I.free
 ·rw[aw (f4 x c e)];exact I.freeC x c e
 ·obtain⟨e,n,r⟩:=I.pin p hp;exact%[e,by rw[aw (f5 p hp)];exact n|r]
end
end L2
namespace L2
open PySem PySem.Spec PyProof.Rows
def Dn(P:F7)(w:F9)(K:C5)(mg:Str->PM G0)(base:Heap)(x:Str)(ps:PP Str)(k:Nat)(sp:Sp):Prop :=
 ∃(f:PK)(fd:F8),FnOk P w K mg base CX0 k f fd ps sp/\Binds K fd ps []/\PySem.W.keepIn K (.ref f)=true/\mg x=↑f
theorem ax{X:Cx}{k:Nat}{ps:PP Str}{sp:Sp}{x:Str}{p pos:Pos}{e:Expr}{es:PP Expr}{t:TA}(D:Dn X.prog X.w X.K X.mg X.base x ps k sp)(hr:Room k X.A)(hg:Gl X x)(ha:PA X (e :: es) t)
  (hdb:(x == ("__debug__" : Str))=false:=by decide) (he:starEach (e :: es) X.env=(false,eval e X.env) :: starEach es X.env:=by rfl) (hpl:(backTo pos (starEach es X.env)).any (·.1)=false:=by rfl) :
  PE X (.Call (.Name x p) (e :: es) [] pos) (gT sp [] E0 t):=by
 obtain⟨f,fd,F,hb,hk,hm⟩:=D;exact wJ F hr hg hm hk hb .nil oQ ha hdb he hpl
def oR(sc:Scope)(N:PP Str)(scope:Scope)(own cs:PP Str)(cap:PP Nat):Bool :=
 decide (scope.kind=.function) && scope.names.all (λ y=>decide (y.2=.local->scope.names.lookup y.1=some .local)) &&
 scope.names.all (λ y=>decide (y.2=.free->sc.names.lookup y.1=some .cell\/sc.names.lookup y.1=some .free)) &&
 decide (cs.length=cap.length) && (cs.zip cap).all (λ y=>decide (N[y.2]?=some y.1) && decide ((y.1,NameKind.free)∈scope.names)) && scope.names.all (λ y=>decide (y.2=.free->scope.names.lookup y.1≠some .local)) && scope.names.all (λ y=>decide (y.2=.free->scope.names.lookup y.1≠some .cell)) && scope.names.all (λ y=>decide (y.2=.free->(y.1,NameKind.cell)∉scope.names))
theorem bj{X:Cx}{sc:Scope}{N:PP Str}{scope:Scope}{own cs:PP Str}{cap:PP Nat}(h1:X.env.scope=sc)(h2:X.N=N)(h:oR sc N scope own cs cap=true):CompOk X scope own cs cap:=by
 subst h1 h2;unfold oR at h;simp only[M6,List.all_eq_true,decide_eq_true_eq]at h;obtain⟨⟨⟨⟨⟨⟨⟨a1,a3⟩,a4⟩,a6⟩,a7⟩,a8⟩,a9⟩,a10⟩:=h;show%[a1,a3,a4,λ i y e=>?_,a6,λ y hy e=>a8 _ hy rfl e,λ y hy e=>a9 _ hy rfl e|λ y hy=>a10 _ hy rfl];have hi:i < cs.length:=(A6.mp e).1;have hj:i < cap.length:=by rw[<- a6];exact hi
 show%[cap[i],F1 hj|?_];have hm:(y,cap[i])∈cs.zip cap:=by
  have:(cs.zip cap)[i]?=some (y,cap[i]):=by rw[OT];exact%[e|F1 hj]
  exact B5 this
 exact a7 _ hm
theorem bX{σ:St}{H:Hp}{A B:Hp->Prop}(h:A H):AY σ H (λ ok H3=>if ok=true then A H3 else B H3):=by change(if (true:Bool)=true then A H else B H);rw[Pa rfl];exact h
section
variable{X:Cx}{tg:Expr}
def zj(K:C5)(tl:TE):TI:=λ σ H R=>yC K tl σ H R\/AI K tl σ H R
theorem uk{l:Expr}{tl:TE}(hl:PE X l tl):PI X tg l (zj X.K tl):=by
 intro PR s σ H R I h;rcases h with h | h
 ·exact bU hl PR s σ H R I h
 ·exact fJ hl PR s σ H R I h
end
def aM:PP String:=["NoneType","bool","int","str","list","tuple","dict"]
theorem oS{K:C5}:∀T∈aM,PySem.W.kitOne K (.type T) (.type "int")=some (T == "int" || T == "bool"):=by intro T h;simp only[aM,G7,C1,Pl]at h;rcases h with rfl | rfl | rfl | rfl | rfl | rfl | rfl <;> kernel_rfl
theorem dP{K:C5}:∀T∈aM,PySem.W.kitOne K (.type T) (.type "bool")=some (T == "bool"):=by intro T h;simp only[aM,G7,C1,Pl]at h;rcases h with rfl | rfl | rfl | rfl | rfl | rfl | rfl <;> kernel_rfl
theorem gn{K:C5}:∀T∈aM,PySem.W.kitOne K (.type T) (.type "list")=some (T == "list"):=by intro T h;simp only[aM,G7,C1,Pl]at h;rcases h with rfl | rfl | rfl | rfl | rfl | rfl | rfl <;> kernel_rfl
theorem cp{K:C5}:∀T∈aM,PySem.W.kitOne K (.type T) (.type "tuple")=some (T == "tuple"):=by intro T h;simp only[aM,G7,C1,Pl]at h;rcases h with rfl | rfl | rfl | rfl | rfl | rfl | rfl <;> kernel_rfl
theorem dH{K:C5}:∀T∈aM,PySem.W.kitOne K (.type T) (.type "str")=some (T == "str"):=by intro T h;simp only[aM,G7,C1,Pl]at h;rcases h with rfl | rfl | rfl | rfl | rfl | rfl | rfl <;> kernel_rfl
theorem wR{K:C5}:∀T∈aM,PySem.W.kitAny K (.type T) [.type "list",.type "tuple"]=some (T == "list" || T == "tuple"):=by
 intro T h;have h1:=gn (K:=K) T h;have h2:=cp (K:=K) T h;unfold PySem.W.kitAny;rw[h1];cases e:(T == "list")with
 | true=>rfl
 | false=>
  change PySem.W.kitAny K (.type T) [.type "tuple"]=_;unfold PySem.W.kitAny;rw[h2];cases e2:(T == "tuple") <;> rfl
def Ty(K:C5)(H:Hp)(x:V)(T:String):Prop:=T∈aM/\TyOf K H x (.type T)
theorem Ty.int{K:C5}{H:Hp}{i:Int}:Ty K H (.int i) "int" := %[by simp[aM]|.int i]
theorem Ty.bl{K:C5}{H:Hp}{b:Bool}:Ty K H (.bl b) "bool" := %[by simp[aM]|.bl b]
theorem Ty.non{K:C5}{H:Hp}:Ty K H .non "NoneType" := %[by simp[aM]|.non]
theorem Ty.str{K:C5}{H:Hp}{x:Str}:Ty K H (.str x) "str" := %[by simp[aM]|.str x]
theorem Ty.lst{K:C5}{H:Hp}{a:PK}{xs:PP V}(e:H a=↥xs):Ty K H (.ref a) "list" := %[by simp[aM]|.lst e]
theorem Ty.tup{K:C5}{H:Hp}{a:PK}{xs:PP V}(e:H a= ~~~xs):Ty K H (.ref a) "tuple" := %[by simp[aM]|.tup e]
theorem Ty.dK{K:C5}{H:Hp}{a:PK}{xs:PP (Key×V)}(e:H a=some (.dK xs)):Ty K H (.ref a) "dict" := %[by simp[aM]|.dK e]
def aX:V->Int->Bool
 | .int i,l=>decide (l<=i)
 | _,_=>false
def qp:V->Bool
 | .bl _=>true
 | _=>false
theorem zk{K:C5}{H:Hp}{x:V}{T:String}(t:TyOf K H x (.type T))(h:T∈aM):(T == "int")=true->∃i,x=.int i:=by
 intro e;have e':T = "int" := by simpa using e
 subst e';generalize hv:Value.type "int" = tv at t;cases t with
 | int i=>exact%[i|O]
 | _=>exact absurd hv (by simp)
theorem oT{K:C5}{H:Hp}{x:V}{T:String}(t:TyOf K H x (.type T)):(T == "bool")=qp x:=by
 generalize hv:Value.type T=tv at t;cases t with
 | bl b=>cases hv;rfl
 | non=>cases hv;rfl
 | int i=>cases hv;rfl
 | str i=>cases hv;rfl
 | lst i=>cases hv;rfl
 | frz i=>cases hv;rfl
 | tup i=>cases hv;rfl
 | dK i=>cases hv;rfl
 | ins=>cases hv
end L2
local macro_rules|`($a ^^^ $b)=>`(@L2.aa _ _ _ _ _ $a $b rfl)
local macro_rules|`($c:char)=>if c.getChar.toNat<66 then `(L2.pv $(Lean.quote (c.getChar.toNat-48))) else Lean.Macro.throwUnsupported
local macro_rules|`($a<<<$b)=>`(@L2.ae _ _ _ _ _ $a $b)
local macro_rules|`($a>>>$b)=>`(@L2.ae _ _ _ _ _ $a (@L2.ag _ _ _ $b))
local macro_rules|`($a⁻¹)=>`(@L2.ag _ _ _ (@L2.ay _ _ _ _ $a))
local macro_rules|`($a∩$b)=>`(@L2.ax _ _ _ _ _ _ _ _ _ _ $a (($(Lean.mkIdent `hr)).mono ∅) rfl $b ∅ rfl rfl)
local macro_rules|`($a∪$b)=>`(@L2.ax _ _ _ _ _ _ _ _ _ _ $a $(Lean.mkIdent `hr) rfl $b ∅ rfl rfl)
local macro_rules|`($a∣$b)=>`(@L2.aE _ _ $a _ _ _ _ $(Lean.mkIdent `nd) rfl (Or.inl rfl) $b rfl (Or.inl rfl))
local macro_rules|`($a&&&$o&&&$b)=>`(@L2.aA _ _ _ _ _ _ _ $o $a $b (fun _ _=>rfl))
local macro_rules|`($a|||$o|||$b)=>`(@L2.aF _ _ _ _ _ _ _ _ $o $a $b)
local macro_rules|`($a•$b)=>`(L2.ah (L2.ai (i:=$a) $(Lean.mkIdent `nd) rfl (Or.inl rfl)) $b)
local macro_rules|`($a<*>$o<*>$b)=>`(@L2.aJ _ _ _ _ _ _ _ _ $o $a $b (L2.aH _))
local macro_rules|`($a<|>$b<|>$c)=>`(@L2.aO _ _ _ _ _ _ _ _ $a $b $c)
namespace Pc
open PySem L2
def But(p:PK)(H H':Hp):Prop:=∀b o,b≠p->H b=some o->H' b=some o
theorem But.trans{p:PK}{H H1 H2:Hp}(a:But p H H1)(b:But p H1 H2):But p H H2:=λ c o n e=>b c o n (a c o n e)
theorem But.upd{p:PK}{H:Hp}{o:HO}:But p H (upd H p o):=λ b u n e=>by rw[aw n];exact e
theorem But.new{p q:PK}{H:Hp}{o:HO}(h:H q=none):But p H (L2.upd H q o):=λ b u n e=>by rw[aw (ao e h)];exact e
structure Kd where
 w:Int
 h:Int
 wo:Int
 wa:Int
 tu:Bool
def kdV(k:Kd):PP V:=[.int k.w,.int k.h,.int k.wo,.int k.wa,.bl k.tu]
structure Good(k:Kd):Prop where
 w:1<=k.w
 h:1<=k.h
 wo:0<=k.wo
 wa:0<=k.wa
 w':k.w < 10 ^ 60
 h':k.h < 10 ^ 60
 wo':k.wo < 10 ^ 60
 wa':k.wa < 10 ^ 60
def TupAt(H:Hp)(v:V)(k:Kd):Prop:=∃a,v=.ref a/\H a= ~~~(kdV k)
def Ba(H:Hp)(v:V)(k:Kd):Prop:=∃a,v=.ref a/\H a=↥(kdV k)
def RowAt(H:Hp)(v:V)(k:Kd):Prop:=TupAt H v k\/Ba H v k
abbrev Tups(H:Hp):PP V->PP Kd->Prop:=Paired (TupAt H)
theorem Tups.keep{H H':Hp}(k:∀b xs,H b= ~~~xs->H' b= ~~~xs):∀{xs:PP V}{ks:PP Kd},Tups H xs ks->Tups H' xs ks:=λ r=>
 G4 r λ v kd %[a,e|h]=>%[a,e|k a _ h]
def cJ(K:C5):Sp:=λ vs H Q _=>∃(x:V)(T:String)(l:Int),vs=[x,.int l]/\Ty K H x T/\Q (.bl (aX x l)) H
def kO(K:C5):Sp:=λ vs H Q _=>∃(x:V)(T:String),vs=[x]/\Ty K H x T/\Q (.bl (qp x)) H
def oU(K:C5):Sp:=λ vs H Q _=>∃(x:V)(T:String),vs=[x]/\Ty K H x T/\∀H',Same H H'->Q (.bl (T == "list" || T == "tuple")) H'
def jO:PP V->Bool
 | [w,h,wo,wa,tu]=>aX w 1 && aX h 1 && aX wo 0 && aX wa 0 && qp tu
 | _=>false
def iN(K:C5):Sp:=λ vs H Q _=>∃(x:V)(T:String),vs=[x]/\Ty K H x T /\ 
 ((T ≠ "list" /\ T ≠ "tuple" /\ ∀H',Same H H'->Q (.bl false) H')\/∃(a:PK)(xs:PP V),x=.ref a/\(H a=↥xs\/H a= ~~~xs)/\(∀y∈xs,∃U,Ty K H y U)/\∀H',Same H H'->Q (.bl (jO xs)) H')
theorem iO{k:Kd}(g:Good k):jO (kdV k)=true:=by
 change(decide (1<=k.w) && decide (1<=k.h) && decide (0<=k.wo) && decide (0<=k.wa) && true)=true;rw[PY g.w,PY g.h,PY g.wo,PY g.wa]
 rfl
theorem Ty.same{K:C5}{H H':Hp}{x:V}{T:String}(s:Same H H')(t:Ty K H x T):Ty K H' x T:=by
 show%[t.1|?_];have t2:=t.2;generalize hv:Value.type T=tv at t2 ⊢;cases t2 with
 | non=>exact .non
 | bl b=>exact .bl b
 | int b=>exact .int b
 | str b=>exact .str b
 | lst e=>exact .lst (s _ _ e)
 | frz e=>exact .frz (s _ _ e)
 | tup e=>exact .tup (s _ _ e)
 | dK e=>exact .dK (s _ _ e)
 | ins=>cases hv
end Pc
namespace L2
open PySem PySem.Spec PyProof.Rows
abbrev um(K:C5):PP V->Hp->VK->Prop:=rz_call_tuple_of K
theorem uo{K:C5}{j:Nat}{a:PK}{xs:PP V}{g:TG}{tb:TS}{D:Ends}{σ:St}{H:Hp}(hσ:σ[j]?=some (↑a))(hs:H a=↥xs\/H a= ~~~xs)(Pv:Nat->St->Hp->Prop)(h0:Pv 0 σ H)
  (hk:∀i σ H',i<=xs.length->Pv i σ H'->∀o,H a=some o->H' a=some o)
  (ht:∀i x σ H,xs[i]?=some x->Pv i σ H->g x σ H λ σ2 H2=>tb { D with nx:=Pv (i+1),ct:=Pv (i+1),bk:=D.nx } σ2 H2) (hd:∀σ H,Pv xs.length σ H->D.nx σ H):AL (zj K (tVar j)) g tb D σ H:=by
 rcases hs with z | z
 ·exact .inl %[_,hσ,a,O,%[xs|G3 z]|dq (xs:=xs) Pv h0 (λ i σ H' hi p=>G3 (hk i σ H' hi p _ z)) ht hd]
 ·exact .inr %[_,hσ,a,O,%[xs|G2 z]|ib (xs:=xs) Pv h0 (λ i σ H' hi p=>G2 (hk i σ H' hi p _ z)) ht hd]
def Nx(n:Nat)(Pv:Nat->PP V->Hp->Prop)(i:Nat)(ys:PP V)(H:Hp):Prop:=∃m',m' < n - i/\m'=n - (i+1)/\i+1<=n/\Pv (i+1) ys H
theorem Nx.of{n:Nat}{Pv:Nat->PP V->Hp->Prop}{i:Nat}{ys:PP V}{H:Hp}(h:i < n)(p:Pv (i+1) ys H):Nx n Pv i ys H:=%[n - (i+1),⋯,O,h|p]
theorem bY{K:C5}{a:PK}{xs:PP V}{σ:St}{cap:PP Nat}{k:Nat}{g:TG}{tt:TT}{te:TE}{Q:PP V->Hp->Prop}{H:Hp}(hs:H a=↥xs\/H a= ~~~xs)(Pv:Nat->PP V->Hp->Prop)
  (hk:∀i ys H',i<=xs.length->Pv i ys H'->∀o,H a=some o->H' a=some o) (h0:Pv 0 [] H)
  (ht:∀i x ys H',xs[i]?=some x->Pv i ys H'->ys.length < sizeLine/\g x (cD σ cap k) H' λ σ2 H2=>leS (cD σ cap k) σ2/\tt σ2 H2 λ ok H3=>if ok=true then te σ2 H3 (λ v H4=>Nx xs.length Pv i (ys ++ [v]) H4)else Nx xs.length Pv i ys H3)
  (hd:∀ys H',Pv xs.length ys H'->ys.length<=sizeLine/\Q ys H') :
  (H a=↥xs->∃W,(∃m,W 0 m [] H)/\iK σ cap k (Itl K a) g tt te Q W)/\(H a= ~~~xs->∃W,(∃m,W 0 m [] H)/\iK σ cap k (Itt K a) g tt te Q W):=by
 show%[λ z=>%[λ i m ys H'=>m=xs.length - i/\i<=xs.length/\Pv i ys H',%[_,O,E8 _|h0]|?_]|λ z=>%[λ i m ys H'=>m=xs.length - i/\i<=xs.length/\Pv i ys H',%[_,O,E8 _|h0]|?_]]
 ·rintro i m ys H' ⟨rfl,hi,p⟩;have z':=hk i ys H' hi p _ z
  by_cases hin:i < xs.length
  ·obtain⟨e,hg⟩:=ht i xs[i] ys H' (by simp[hin]) p;show .inr %[%[xs,xs[i],G3 z'|by simp[hin]],e|λ x H2 yl=>?_];obtain⟨e1,e2⟩:=yl;have e3:=e2 xs (G3 z');have e4:x=xs[i]:=by simpa[hin]using e3.symm
   subst e1 e4;exact hg
  ·have e:i=xs.length:=⋯
   subst e;obtain⟨a1,a2⟩:=hd ys H' p;exact .inl %[%[xs,G3 z'|B3 _],a1|a2]
 ·rintro i m ys H' ⟨rfl,hi,p⟩;have z':=hk i ys H' hi p _ z
  by_cases hin:i < xs.length
  ·obtain⟨e,hg⟩:=ht i xs[i] ys H' (by simp[hin]) p;show .inr %[%[xs,xs[i],G2 z'|by simp[hin]],e|λ x H2 yl=>?_];obtain⟨e1,e2⟩:=yl;have e3:=e2 xs (G2 z');have e4:x=xs[i]:=by simpa[hin]using e3.symm
   subst e1 e4;exact hg
  ·have e:i=xs.length:=⋯
   subst e;obtain⟨a1,a2⟩:=hd ys H' p;exact .inl %[%[xs,G2 z'|B3 _],a1|a2]
theorem qq{K:C5}{j:Nat}{a:PK}{xs:PP V}{σ:St}{cap:PP Nat}{k:Nat}{g:TG}{tt:TT}{te:TE}{Q:VK}{H:Hp}(hσ:σ[j]?=some (↑a))(hs:H a=↥xs\/H a= ~~~xs)(Pv:Nat->PP V->Hp->Prop)
  (hk:∀i ys H',i<=xs.length->Pv i ys H'->∀o,H a=some o->H' a=some o) (h0:Pv 0 [] H)
  (ht:∀i x ys H',xs[i]?=some x->Pv i ys H'->ys.length < sizeLine/\g x (cD σ cap k) H' λ σ2 H2=>leS (cD σ cap k) σ2/\tt σ2 H2 λ ok H3=>if ok=true then te σ2 H3 (λ v H4=>Nx xs.length Pv i (ys ++ [v]) H4)else Nx xs.length Pv i ys H3)
  (hd:∀ys H',Pv xs.length ys H'->ys.length<=sizeLine/\∀p,H' p=none->Q (.ref p) (upd H' p (.lst ys))):uj (zj K (tVar j)) cap k g tt te σ H Q:=by
 obtain⟨c1,c2⟩:=bY (K:=K) (σ:=σ) (cap:=cap) (k:=k) (g:=g) (tt:=tt) (te:=te) hs Pv hk h0 ht hd;rcases hs with z | z
 ·exact .inl %[_,hσ,a,O,%[xs|G3 z]|c1 z]
 ·exact .inr %[_,hσ,a,O,%[xs|G2 z]|c2 z]
end L2
namespace Pc
open PySem L2
def nI(b:Int)(r:PK):PP (Str×V):=bN "kind_rows" (.ref r) (bN "blade_width" (.int b) [])
theorem kbw:¬ (("blade_width" : Str) = "kind_rows"):=∅
theorem iP(b:Int)(r:PK):(nI b r).lookup ("blade_width" : Str)=⇑b:=by unfold nI;rw[br,PZ kbw,br,Pa rfl]
theorem fi(b:Int)(r:PK):(nI b r).lookup ("kind_rows" : Str)=↑r:=by unfold nI;rw[br,Pa rfl]
theorem cX(b:Int)(r:PK){m:Str}(h1:¬ m = "kind_rows")(h2:¬ m = "blade_width"):(nI b r).lookup m=none:=by
 unfold nI;rw[br,PZ h1,br,PZ h2]
 all_goals rfl
def ShopAt(C:PK)(H:Hp)(x:PK)(b:Int)(ks:PP Kd):Prop:=∃dx r rs,H x=some (.ins C dx (nI b r))/\H r= ~~~rs/\Tups H rs ks
theorem ShopAt.keep{C:PK}{H H':Hp}{x:PK}{b:Int}{ks:PP Kd}(s:ShopAt C H x b ks)(k1:∀b xs,H b= ~~~xs->H' b= ~~~xs)(k2:∀b C dx fs,H b=some (.ins C dx fs)->H' b=some (.ins C dx fs)):ShopAt C H' x b ks:=by obtain⟨dx,r,rs,h1,h2,h3⟩:=s;exact%[dx,r,rs,k2 _ _ _ _ h1,k1 _ _ h2|Tups.keep k1 h3]
def nJ(C:PK):Sp:=λ vs H Q _=>∃(x dx ks:PK)(b:Int)(rs:PP V)(kds:PP Kd),vs=[.ref x,.int b,.ref ks]/\H x=some (.ins C dx [])/\0<=b/\(H ks=↥rs\/H ks= ~~~rs)/\Paired (RowAt H) rs kds/\(∀k∈kds,Good k)/\1<=rs.length/\rs.length<=8 /\
 ∀H':Hp,ShopAt C H' x b kds->(∀c o,c≠x->H c=some o->H' c=some o)->Q .non H'
def ig(C:PK):Sp:=λ vs H Q _=>∃(x:PK)(b:Int)(ks:PP Kd),vs=[.ref x]/\ShopAt C H x b ks/\Q (.int b) H
def gq(C:PK):Sp:=λ vs H Q _=>∃(x:PK)(b:Int)(ks:PP Kd),vs=[.ref x]/\ShopAt C H x b ks/\∀(l:PK)(rs:PP V),H l=none->Tups H rs ks->Q (.ref l) (upd H l (.lst rs))
theorem oV{K:C5}{H:Hp}{k:Kd}:∀y∈kdV k,∃U,Ty K H y U:=by
 intro y hy;simp only[kdV,G7,C1,Pl]at hy;rcases hy with rfl | rfl | rfl | rfl | rfl
 ·exact%[_|.int]
 ·exact%[_|.int]
 ·exact%[_|.int]
 ·exact%[_|.int]
 ·exact%[_|.bl]
theorem Paired.getR{α β:Type}{F:α->β->Prop}:∀{l₁:PP α}{l₂:PP β}{i:Nat}{x:α},Paired F l₁ l₂->l₁[i]?=some x->∃y,l₂[i]?=some y/\F x y
 | _,_,_,_,.nil,e=>by simp at e
 | _,_,0,_,.cons h _,e=>by simp at e;subst e;exact%[_,O|h]
 | _,_,i+1,x,.cons _ t,e=>by obtain⟨y,h1,h2⟩:=Paired.getR (i:=i) (x:=x) t (by simpa using e);exact%[y,by simpa using h1|h2]
abbrev G5:=@Paired.getR
theorem RowAt.same{H H':Hp}{v:V}{k:Kd}(s:Same H H')(r:RowAt H v k):RowAt H' v k:=by
 rcases r with⟨a,e,h⟩ | ⟨a,e,h⟩
 ·exact .inl %[a,e|s _ _ h]
 ·exact .inr %[a,e|s _ _ h]
theorem qr{K:C5}{H:Hp}{v:V}{k:Kd}{Q:VK}{E:XK}(r:RowAt H v k)(g:Good k)(q:∀H',Same H H'->Q (.bl true) H'):iN K [v] H Q E:=by
 rcases r with⟨a,rfl,h⟩ | ⟨a,rfl,h⟩
 ·exact%[_,_,O,.tup h|.inr %[a,_,O,.inr h,oV|λ H' s=>by rw[iO g];exact q H' s]]
 ·exact%[_,_,O,.lst h|.inr %[a,_,O,.inl h,oV|λ H' s=>by rw[iO g];exact q H' s]]
structure ShopTxt(K:C5)(C:PK):Prop where
 cl:Cls K C
 nB:NoAttr K C "blade_width"
 nK:NoAttr K C "kind_rows"
end Pc
namespace L2
open PySem PySem.Spec PyProof.Rows
def Mn(P:F7)(w:F9)(K:C5)(mg:Str->PM G0)(base:Heap)(C:PK)(m:Str)(ps:PP Str)(k:Nat)(sp:Sp):Prop :=
 ∃(f:PK)(fd:F8),FnOk P w K mg base CX0 k f fd ps sp/\Binds K fd ps []/\Meth K C m f
theorem ef{X:Cx}{k:Nat}{C:PK}{ps:PP Str}{sp:Sp}{m:Str}{o:Expr}{ta:TE}{apos pos:Pos}{pl:Sem Bool}(he:PE X o ta)(c:Cls X.K C)(D:Mn X.prog X.w X.K X.mg X.base C m ps k sp)(hr:Room k X.A)
  (ht:eval (.Call (.Attribute o m apos) [] [] pos) X.env=(do
   let ov<-eval o X.env
   standAt apos.atName
   let (f,first)<-holding [ov] (getMethod ov m pl)
   callWith pos f first (backTo pos (starEach [] X.env)) (backToKw pos (keywordEach [] X.env))):=by rfl):PE X (.Call (.Attribute o m apos) [] [] pos) (oN C m sp [] E0 ta gI):=by
 obtain⟨f,fd,F,hb,hm⟩:=D;exact tU he c hm F hr hb .nil oQ ht
def Kn(P:F7)(w:F9)(K:C5)(mg:Str->PM G0)(base:Heap)(x:Str)(C:PK)(ps:PP Str)(k:Nat)(sp:Sp):Prop :=
 ∃(f:PK)(fd:F8),Mk K C f/\FnOk P w K mg base CX0 k f fd ps sp/\Binds K fd ps []/\mg x=↑C
theorem yI{X:Cx}{k:Nat}{C:PK}{ps:PP Str}{sp:Sp}{x:Str}{p pos:Pos}{e:Expr}{es:PP Expr}{t:TA}(D:Kn X.prog X.w X.K X.mg X.base x C ps k sp)(hr:Room (k+1) X.A)(hg:Gl X x)(ha:PA X (e :: es) t)
  (hdb:(x == ("__debug__" : Str))=false:=by decide) (he:starEach (e :: es) X.env=(false,eval e X.env) :: starEach es X.env:=by rfl) (hpl:(backTo pos (starEach es X.env)).any (·.1)=false:=by rfl) :
  PE X (.Call (.Name x p) (e :: es) [] pos) (yE C sp [] E0 t):=by
 obtain⟨f,fd,M,F,hb,hm⟩:=D;exact wL M F hr hg hm hb .nil oQ ha hdb he hpl
end L2
namespace Pc
open PySem L2
theorem Same.new{q:PK}{H:Hp}{o:HO}(h:H q=none):Same H (upd H q o):=λ b u e=>by rw[aw (ao e h)];exact e
abbrev G1:=@Same.new
end Pc
namespace L2
open PySem PySem.Spec PyProof.Rows
def Q2(e:PK)(h:Heap):Prop:=True
section
variable{M:Model}{A:Around}{E:G0->F6->Prop}{s:F6}{base:Heap}{env:Env}{outer l:PP Env}{L e:PK}{cls a0 fl:G0}{Q:Unit->F6->Prop}
theorem Q2.set{e c:PK}{h:Heap}{i:Nat}{v:G0}(hi:i≠2)(q:Q2 e h):Q2 e (h.update c (Obj.mapFields (·.setIfInBounds i v))):=trivial
theorem Q2.push{e:PK}{h:Heap}{o:Obj}(q:Q2 e h):Q2 e (h.push o):=trivial
theorem kP{h:Heap}{args:PP G0}(hfr:A.frames=some (env :: outer))(hf:env.frame=some L)(hkb:base.StaysIn h)(hl:h.FunFrames base (env :: outer))(hx:Heap.MadeExcOf h s.heap e cls args)
  (hQ:∀h' t,Heap.FlyingW base outer e cls (.ref t) h'->h'.TupAt t args->base.get? t=none->s.heap.UpToSlots h'->Q2 e h'->Q () { s with heap:=h' }):wpAny M A (leaving env (.ref e)) Q E s :=
 wpAny_leaves_madeW hfr hf hkb hl hx λ h' t a b c d=>hQ h' t a b c d trivial
theorem qt(hfr:A.frames=some (env :: outer))(hf:env.frame=some L)(f:Heap.FlyingW base (env :: outer) e cls a0 s.heap)(q:Q2 e s.heap)
  (hQ:∀h',Heap.HeldW base (env :: outer) e cls a0 L h'->s.heap.UpToSlots h'->Q2 e h'->Q () { s with heap:=h' }):wpAny M A (noteFrame (.ref e) env) Q E s :=
 wpAny_looks_onW hfr hf f λ h' a b=>hQ h' a b trivial
theorem zo(hh:Heap.HeldW base l e cls a0 L s.heap)(q:Q2 e s.heap)(hQ:∀h',Heap.FlyingW base l e cls a0 h'->s.heap.UpToSlots h'->Q2 e h'->Q () { s with heap:=h' }):wpAny M A (setFlight (.ref e) none) Q E s :=
 wpAny_landsW hh λ h' a b=>hQ h' a b trivial
theorem kQ(hh:Heap.FlyingW base l e cls a0 s.heap)(q:Q2 e s.heap)(hQ:∀h',Heap.FlyingW base l e cls a0 h'->s.heap.UpToSlots h'->Q2 e h'->Q () { s with heap:=h' }):wpAny M A (setFlight (.ref e) none) Q E s :=
 lands_againW hh λ h' a b=>hQ h' a b trivial
end
theorem ObjOk.ex{P:F7}{w:F9}{H:Hp}{h:Heap}{a:PK}{o:HO}(x:ObjOk P w H h a o):∃ob,h.get? a=some ob:=by
 cases o with
 | lst xs=>obtain⟨_,_,_,_,e⟩:=x;exact%[_|e]
 | tup xs=>obtain⟨_,_,_,o,e,_⟩:=x;exact%[_|e]
 | dK kvs=>obtain⟨_,_,_,_,o,_,_,e,_⟩:=x;exact%[_|e]
 | ins C dx fs=>obtain⟨_,_,_,e,_⟩:=x;exact%[_|e]
 | own y=>exact x
 | frz ob u=>exact%[_|x.1]
 | tbl ps=>exact%[_|(show h.get? a=some _ from x)]
structure Flew(P:Program)(w:World)(outer:PP Env)(H:Hp)(s:Shared)(ea:PK)(C:Value)(H':Hp)(B:Heap)(s':Shared):Prop where
 os:s'.os=s.os
 bare:AllBare s'.gens
 un:Un (frs outer) [] H H' s.heap s'.heap
 hok:HOk P w H' s'.heap
 fly:∃a0,Heap.FlyingW B outer ea C a0 s'.heap
 ctx:Q2 ea s'.heap
 cov:∀b o,b∉frs outer->(H' b≠none\/∃o',s.heap.get? b=some o')->s'.heap.get? b=some o->B.get? b=some o
 new:s.heap.get? ea=none/\H' ea=none
def CXx(P:F7)(w:F9):CXT:=λ outer H s E e s'=>∃ea C H' B,e=Value.ref ea/\Flew P w outer H s ea C H' B s'/\E C none H'
section
variable{X:Cx}{PR:RC}{σ:St}{H:Hp}{s:F6}
theorem Inv.raised{h2:Heap}{ea:PK}{C:G0}{vs:PP G0}{M:Model}{E:G0->F6->Prop}{Q:Unit->F6->Prop}(I:Inv X PR σ H s)(hst:X.stack=X.env :: X.outer)(hfr:X.env.frame=some X.env.locals)(hex:X.ex=[])
  (hx:Heap.MadeExcOf s.heap h2 ea C vs) (hQ:∀B h',Flew X.prog X.w X.outer X.H₀ X.s₀ ea C H B { s with heap:=h' }->Q () { s with heap:=h' }) :
  wpAny M X.A (leaving X.env (.ref ea)) Q E { s with heap:=h2 }:=by
 have fS:frs X.stack=X.env.locals :: X.fs:=by rw[hst];unfold frs;rw[K7,hfr];rfl
 have st:s.heap.FunFrames X.base (X.env :: X.outer):=by rw[<- hst];exact I.stack
 have hin:∀env∈(X.env :: X.outer),∀b,env.frame=some b->b∈frs X.stack:=λ env he b hb=>by rw[hst];exact O0.mpr %[env,he|hb]
 have s0L:∀b o,X.s₀.heap.get? b=some o->b≠X.env.locals:=λ b o e=>B9 (C2 (A9 e) I.ok.above);have Ubase:Un X.fs [] X.H₀ H X.s₀.heap s.heap:=by have:=I.base;rw[hex]at this;exact this
 have trk:∀b u,H b=some u->b∉frs X.stack:=λ b u e hb=>by rw[I.stkFree b hb]at e;cases e
 have ofd:∀b,b∈X.fs->∃o,s.heap.get? b=some o/\∀vs,o.data≠.fields vs:=λ b hb=>by obtain⟨_,o,ho,hd⟩:=I.funs.mem hb;exact%[o,ho|hd]
 show kP (base:=PySem.W.hideAll s.heap (frs X.stack)) (h:=s.heap) (by rw[<- hst];exact I.ok.frames) hfr (λ b o q=>PySem.W.of_hideAll _ q) (PySem.W.funFrames_hide st hin) hx λ h' t fl tup hbt sm q2=>hQ (PySem.W.hideAll s.heap (frs X.stack)) h' ?_;have toB:∀b o,b∉frs X.stack->s.heap.get? b=some o->h'.get? b=some o:=λ b o nb e=>fl.1 _ _ (PySem.W.hideAll_get _ e nb);have nfs:∀b o,X.s₀.heap.get? b=some o->b∉X.fs->b∉frs X.stack:=λ b o e nb z=>by
  rw[fS]at z;rcases G7.mp z with q | q
  ·exact s0L b o e q
  ·exact nb q
 have slot1:∀b o,b∈X.fs->s.heap.get? b=some o->∃sl,h'.get? b=some { o with slots:=sl }:=λ b o hb e=>by obtain⟨o',e',hd⟩:=ofd b hb;rw[e]at e';cases e';exact sm b o (hx.keeps _ _ e) hd
 show%[I.os,I.bare,%[λ b o e n hb _=>?_,λ b o e n hb _=>?_,λ b o e n _=>Ubase.free b o e n (by simp),λ b o e _=>?_,Ubase.tups,Ubase.frzs|Ubase.tbls],λ b u e=>?_,%[_|fl],q2,λ b o nb hh e=>?_,?_|?_]
 ·exact toB b o (nfs b o e hb) (Ubase.keep b o e n hb (by simp))
 ·obtain⟨sl,e1⟩:=Ubase.slot b o e n hb (by simp);obtain⟨sl',e2⟩:=slot1 b _ hb e1;exact%[sl'|e2]
 ·obtain⟨o',e1⟩:=Ubase.there b o e (by simp)
  by_cases hb:b∈X.fs
  ·obtain⟨sl,e2⟩:=slot1 b _ hb e1;exact%[_|e2]
  ·exact%[o'|toB b o' (nfs b o e hb) e1]
 ·show(I.hok b u e).stay (λ c v hc q=>toB c v ?_ q) (λ _ q=>q) λ _ _ q=>q;rcases hc with z | z
  ·rw[z];exact trk b u e
  ·exact trk c _ z
 ·rcases hh with z | ⟨o',z⟩
  ·cases q:H b with
   | none=>exact absurd q z
   | some u=>
    obtain⟨ob,eb⟩:=(I.hok b u q).ex;have eB:=PySem.W.hideAll_get _ eb (trk b u q);have:=fl.1 _ _ eB;rw[e]at this;cases this;exact eB
  ·obtain⟨o'',e1⟩:=Ubase.there b o' z (by simp);have eB:=PySem.W.hideAll_get _ e1 (nfs b o' z nb);have:=fl.1 _ _ eB;rw[e]at this;cases this;exact eB
 ·cases q:X.s₀.heap.get? ea with
  | none=>rfl
  | some o=>
   obtain⟨o',e1⟩:=Ubase.there ea o q (by simp);rw[hx.new]at e1;cases e1
 ·cases q:H ea with
  | none=>rfl
  | some u=>
   obtain⟨ob,eb⟩:=(I.hok ea u q).ex;rw[hx.new]at eb;cases eb
theorem Flew.inv{ea:PK}{C:G0}{H':Hp}{B h6:Heap}{s':F6}{t:Nat}(I:Inv X PR σ H s)(f:Flew X.prog X.w X.stack H s ea C H' B s')(hB:B.StaysIn h6)(sm:s'.heap.UpToSlots h6):Inv X PR σ H' { s' with heap:=h6,toks:=t }:=by
 have trk:∀b u,H' b=some u->b∉frs X.stack:=λ b u e hb=>by
  obtain⟨o,ho⟩:∃o,s.heap.get? b=some o:=let ⟨_,o,ho,_⟩:=I.stack.mem hb;%[o|ho]
  have:=f.un.free b o ho (I.stkFree b hb) (by simp);rw[this]at e;cases e
 have slot1:∀b o,b∈frs X.stack->s'.heap.get? b=some o->∃sl,h6.get? b=some { o with slots:=sl }:=λ b o hb e=>by obtain⟨a0,fl⟩:=f.fly;obtain⟨_,o',e',hd⟩:=fl.2.2.1.mem hb;rw[e]at e';cases e';exact sm b o e hd
 show I.call' (ch:=[]) f.os %[λ b o e n hb _=>?_,λ b o e n hb _=>?_,λ b o e n _=>f.un.free b o e n (by simp),λ b o e _=>?_,f.un.tups,f.un.frzs|f.un.tbls] (λ b u e=>?_) f.bare (λ b z=>absurd z (by simp))
 ·exact hB _ _ (f.cov b o hb (.inr %[o|e]) (f.un.keep b o e n hb (by simp)))
 ·obtain⟨sl,e1⟩:=f.un.slot b o e n hb (by simp);obtain⟨sl',e2⟩:=slot1 b _ hb e1;exact%[sl'|e2]
 ·obtain⟨o',e1⟩:=f.un.there b o e (by simp)
  by_cases hb:b∈frs X.stack
  ·obtain⟨sl,e2⟩:=slot1 b _ hb e1;exact%[_|e2]
  ·exact%[o'|hB _ _ (f.cov b o' hb (.inr %[o|e]) e1)]
 ·show(f.hok b u e).stay (λ c v hc q=>?_) (λ _ q=>q) λ _ _ q=>q;have hc':H' c≠none:=by
   rcases hc with z | z
   ·rw[z,e];exactλ z=>nomatch z
   ·rw[z];exactλ z=>nomatch z
  have nc:c∉frs X.stack:=by
   cases q':H' c with
   | none=>exact absurd q' hc'
   | some u'=>exact trk c u' q'
  exact hB _ _ (f.cov c v nc (.inl hc') q)
end
@[inline]def bmVE:PP G0:=[.type "ValueError",.type "Exception",.type "BaseException",.type "object"]
def ExcC(K:C5)(C:PK):Prop:=PySem.W.excIn K C bmVE "ValueError.__new__" = true
theorem ExcC.obj{K:C5}{C:PK}{h:Heap}(X:K.In h)(q:ExcC K C):∃bm N nm qn bs hdct sn sub ab col dd k0 k1 k2 k3 k5 mN,
  h.get? C=some (excClassObj nm qn C N bs bm hdct sn sub ab col dd k0 k1 k2 k3 k5 "ValueError.__new__")/\h.Ns N mN/\mN "__init__" = none/\OwnTail h bmVE bm:=by
 unfold ExcC PySem.W.excIn at q
 split at q
 ·rename_i dd cd sl ho
  split at q
  ·rename_i C' bm k0 k1 k2 k3 n k5 hm hs
   simp only[M6,beq_iff_eq,Bool.not_eq_true']at q;obtain⟨⟨⟨⟨⟨e1,e2⟩,e3⟩,e4⟩,e5⟩,e6⟩:=q;obtain⟨nm,bs,mro,ns,qn,hd,sn,sub,ab,col,del⟩:=cd;dsimp only at hm e3 e5 e6;subst e1 e2 hm e3;obtain⟨l⟩:=sl;simp only at hs;subst hs;exact%[bm,ns,nm,qn,bs,hd,sn,sub,ab,col,dd,k0,k1,k2,k3,k5,_,X _ _ ho,.of_isNs (PySem.W.isNs_of_in X e5),PySem.W.nsMap_none_of_in X e5 e6|PySem.W.tail_of_in X e4]
  ·cases q
 ·cases q
section
variable{X:Cx}{x:Str}{C:PK}{e0:Expr}{np cpos pos:Pos}{t:TA}
def zp(R:G0->Hp->Prop)(C:PK)(t:TA):TS:=λ _ σ H=>t σ H λ vs H1=>vs.length<=sizeLine/\R (.ref C) H1
theorem iQ{R:G0->Hp->Prop}(hc:X.calm=true)(hg:Gl X x)(hm:X.mg x=↑C)(ec:ExcC X.K C)(ha:PA X [e0] t)
  (hR:∀PR σ H s h2 ea vs,Inv X PR σ H s->Heap.MadeExcOf s.heap h2 ea (.ref C) vs->R (.ref C) H->X.xe (.ref ea) { s with heap:=h2 })
  (he:starEach [e0] X.env=[(false,eval e0 X.env)]:=by rfl) (hd:(x == ("__debug__" : Str))=false:=by decide) :
  PS X (.Raise (some (.Call (.Name x np) [e0] [] cpos)) none pos) (zp R C t):=by
 intro PR s σ H D I h;obtain⟨bm,N,nm,qn,bs,hdct,sn,sub,ab,col,dd,k0,k1,k2,k3,k5,mN,hC,hN,hni,T⟩:=ec.obj I.ok.mod.kin;show wpAny_Raise_call_subT (C:=C) (nm:=nm) (q:=qn) (N:=N) (bs:=bs) (bm:=bm) (hdct:=hdct) (sn:=sn) (sub:=sub) (ab:=ab) (col:=col) (dd:=dd) (k0:=k0) (k1:=k1) (k2:=k2) (k3:=k3) (k5:=k5)
  PySem.F.excBase_ValueError (mN:=mN) (T.hasType PySem.F.excBase_ValueError.hasBase) (I.ok.hd hc) (by rw[he];rfl) hni (ff I hg hm %[rfl|?_] hd)
 have h2:=ha cpos PR s σ H _ I h;rw[he]at h2 ⊢;show Calls.evalArgs_plain (thn h2 λ us s2 %[vs,H1,I1,rv,hl|q]=>%[O,by rw[<- rv.length];exact hl,I1.bk _ _ hC,hN.keeps I1.bk,T.keeps I1.bk|λ h' ea hx=>?_]);exact hR PR σ H1 s2 h' ea us I1 hx q
end
section
variable{P:F7}{w:F9}{K:C5}{mg:Str->PM G0}{base:Heap}
theorem fT{N:PP Str}{qual:Str}{scope:Scope}{f:PK}{cd:G0}{A:Around}{outer:PP Env}{s₀:F6}{H₀:Hp}{E:XK}{C:PK} :
  ∀PR σ H s h2 ea vs,Inv (fQ (CXx P w) P w K mg base N qual scope f cd A outer s₀ H₀ E) PR σ H s->Heap.MadeExcOf s.heap h2 ea (.ref C) vs->(λ c H=>E c none H) (Value.ref C) H ->
   (fQ (CXx P w) P w K mg base N qual scope f cd A outer s₀ H₀ E).xe (.ref ea) { s with heap:=h2 }:=λ PR σ H s h2 ea vs I hx q=>
 I.raised (E:=λ e' s''=>CXx P w outer H₀ s₀ E e' s'') rfl rfl rfl hx λ B h' f=>%[ea,_,H,B,O,f|q]
theorem Fun.okX{x qual:Str}{st:Stmt}{f:PK}{fd:F8}{N ps:PP Str}{k:Nat}{sp:Sp}(F:Fun K x qual st f fd)(S:FnScope N ps (defScope st))(len:∀vs H Q E,sp vs H Q E->vs.length=ps.length)
  (hbody:∀(cdv:G0)(A:Around)(outer:PP Env)(s:F6)(H:Hp)(vs:PP V)(Q:VK)(E:XK),Room k (A.deeper (envOfC qual (defScope st) s.heap.objs.size f cdv))->sp vs H Q E ->
   ∃t,PSs (fQ (CXx P w) P w K mg base N qual (defScope st) f cdv A outer s H E) (defBody st) t/\t { nx:=λ _ H'=>Q .non H',rt:=Q } (ge N vs) H):FnOk P w K mg base (CXx P w) (k+1) f fd ps sp:=by
 obtain⟨oc,od,kV,doc,pm,an,cdv,ct,osl,rfl,lk,hcd⟩:=F.ex;exact yF lk hcd S len λ A outer s H vs Q E hr hsp=>hbody cdv A outer s H vs Q E hr hsp
end
def XP(X:Cx)(PR:RC)(σ:St)(E:XK)(v:G0)(s':F6):Prop:=∃ea C H H' B s0,v=Value.ref ea/\Inv X PR σ H s0/\Flew X.prog X.w X.stack H s0 ea C H' B s'/\E C none H'
abbrev TX:=St->Hp->VK->XK->Prop
def PEx(X:Cx)(e:Expr)(t:TX):Prop :=
 ∀(PR:RC)(s:F6)(σ:St)(H:Hp)(Q:VK)(E:XK),Inv X PR σ H s->t σ H Q E->wpAny (model X.prog X.w) X.A (eval e X.env) (EP X PR σ Q) (XP X PR σ E) s
section
variable{X:Cx}{k:Nat}{f C:PK}{fd:F8}{ps:PP Str}{sp:Sp}{x m:Str}{p pos apos:Pos}{e o:Expr}{es:PP Expr}{ta:TE}{t:TA}
theorem oW{PR:RC}{σ:St}{H:Hp}{s:F6}{Q:VK}{E:XK}{us:PP G0}{vs:PP V}(F:FnOk X.prog X.w X.K X.mg X.base (CXx X.prog X.w) k f fd ps sp)(hr:Room k X.A)(hb:Binds X.K fd ps [])
  (I:Inv X PR σ H s) (r:Vals vs us) (h:sp vs H Q E):wpAny (model X.prog X.w) X.A (call (.ref f) us) (EP X PR σ Q) (XP X PR σ E) s:=by
 have hl:(us ++ []).length=ps.length:=by rw[K0,<- r.length];exact F.len _ _ _ _ h
 have b:=hb s us I.kIn hl;rw[K0]at b;show wpAny_call (codeAny_mono (F.run X.A X.stack s H %[us|[]] us vs Q E hr I.env0 b r h) λ r s' hq=>?_);cases r with
 | error e=>
  obtain⟨ea,C,H',B,e1,fl,q⟩:=hq;exact%[ea,C,H,H',B,s,e1,I,fl|q]
 | ok fl=>
  cases fl with
  | ret u=>exact I.after hq
  | next=>exact E7 hq
  | brk=>exact E7 hq
  | cont=>exact E7 hq
def ur(C:PK)(m:Str)(sp:Sp)(ta:TE)(t:TA):TX:=λ σ H Q E=>ta σ H λ x H1=>∃a dx fs,x=.ref a/\H1 a=some (.ins C dx fs)/\fs.lookup m=none/\t σ H1 λ vs H2=>sp (x :: vs) H2 Q E
theorem ut{pl:Sem Bool}(he:PE X.nox o ta)(c:Cls X.K C)(hm:Meth X.K C m f)(F:FnOk X.prog X.w X.K X.mg X.base (CXx X.prog X.w) k f fd ps sp)(hr:Room k X.A)(hb:Binds X.K fd ps [])(ha:PA X.nox (e :: es) t)
  (hst:starEach (e :: es) X.env=(false,eval e X.env) :: starEach es X.env:=by rfl) (hpl:(backTo pos (starEach es X.env)).any (·.1)=false:=by rfl)
  (ht:eval (.Call (.Attribute o m apos) (e :: es) [] pos) X.env=(do
   let ov<-eval o X.env
   standAt apos.atName
   let (f,first)<-holding [ov] (getMethod ov m pl)
   callWith pos f first (backTo pos (starEach (e :: es) X.env)) (backToKw pos (keywordEach [] X.env))):=by rfl) :
  PEx X (.Call (.Attribute o m apos) (e :: es) [] pos) (ur C m sp ta t):=by
 intro PR s σ H Q E I h;show PySem.W.methodCall_KW (pl:=pl) (Po (he PR s σ H _ (I.wish _) h) (?_) λ _ _ z=>E7 z) ht;rintro u s1 ⟨x,H1,I1,rx,a,dx,fs,ex,ea,l,q⟩;subst ex;obtain rfl:u=Value.ref a:=rx;show fO I1.unwish ea c hm l ?_;show PySem.W.callWith_K (first:=[.ref a]) (h₀:=X.base) I.ok.mod.kin hm.kp (Po (ha pos PR s1 σ H1 _ I1 q) (λ us s2 ⟨vs,H2,I2,r,q2⟩=>%[I2.kIn|?_]) λ _ _ z=>E7 z) hst hpl;exact oW (us:=.ref a :: us) (vs:=.ref a :: vs) F hr hb I2.unwish (.cons rfl r) q2
end
def Cx.marked(X:Cx)(ea:PK):Cx:={ X with A:=X.A.mark (↑ea),calm:=false,xe:=λ _ _=>False }
section
variable{X:Cx}{PR:RC}{σ:St}{H:Hp}{s:F6}
theorem Inv.mark(I:Inv X PR σ H s)(ea:PK):Inv (X.marked ea) PR σ H s :=
 ⟨%[I.ok.mod,I.ok.kind,I.ok.glob,I.ok.blt,I.ok.above,I.ok.inj,I.ok.has,I.ok.cab,λ z=>absurd (show false=true from z) B2,I.ok.frames,I.ok.stk,I.ok.exf,I.ok.bs,I.ok.bsz,I.ok.noex,I.ok.exfs,I.ok.funs|I.ok.frf],
  I.os,I.bare,I.base,I.loc,I.cell,I.free,I.freeC,I.pin,I.hok,I.len⟩
theorem Inv.unmark{ea:PK}(ok:X.Ok)(I:Inv (X.marked ea) PR σ H s):Inv X PR σ H s :=
 %[ok,I.os,I.bare,I.base,I.loc,I.cell,I.free,I.freeC,I.pin,I.hok|I.len]
end
end L2
namespace PySem
open Sem (wp)
open AutoSeq1 (wpAny_loadPart')
section
variable{prog:F7}{w:F9}{A:Around}{E:G0->F6->Prop}{s:F6}
theorem hV{it t:PK}{i:Nat}{items}{x:G0}{Q:G0->F6->Prop}(hit:s.heap.IsTupleIter it t i)
  (ht:s.heap.IsTuple t items) (hx:items[i]?=some x)
  (hQ:∀h',h'.IsTupleIter it t (i+1)->Heap.SameBut it s.heap h'->Q x { s with heap:=h' }) :
  wpAny (model prog w) A (Builtin.SmallTypes.nextOf (.ref it)) Q E s:=by
 obtain⟨o,ho,hc,hd⟩:=id hit;obtain⟨ol,hol,_,nl,hdl⟩:=ht;unfold Builtin.SmallTypes.nextOf;show A0 (wpAny_callSpecial?_slot (name:=Str.ofString "__next__") hit.typeIs F.slot_tuple_iterator_next
  (F3 F.slot_tuple_iterator_next hit.typeIs F.entry_tuple_iterator_next ?_ (F.args_tuple_iterator_next_1 _)))
 change wpAny _ _ (field (.ref it) 0 >>= _) _ _ s;show A0 (P0 ho hd (x:=.ref t) rfl ?_);change wpAny _ _ (if (Value.ref t == Value.none)=true then _ else _) _ _ s;rw[PZ (show¬ ((Value.ref t == Value.none)=true)from B2)];change wpAny _ _ (field (.ref it) 1 >>= _) _ _ s;show A0 (P0 ho hd (x:=.int i 0) rfl ?_);change wpAny _ _ (seqItems? (.ref t) >>= _) _ _ s;show A0 (wpAny_seqItems hol hdl ?_);simp only[K2,hx];show A0 (wpAny_setField ho hd (by simp) (A2 %[x,rfl|A2 (hQ _ ?_ (P6 ..))]));exact⟨_,Heap.get?_update_self _ ho (Obj.isFreed_of_fields (Obj.data_mapFields hd _)),(Obj.cls_mapFields ..).trans hc,by
  rw[Obj.data_mapFields hd];simp[rawInt]⟩
theorem iR{it t:PK}{i:Nat}{items}{Q:G0->F6->Prop}(hh:A.handled=none)
  (hit:s.heap.IsTupleIter it t i) (ht:s.heap.IsTuple t items) (hx:items[i]?=none)
  (hE:∀h' e,Heap.ExtBut it s.heap h'->(∃o,h'.get? e=some o/\o.cls=.type "StopIteration")->E (.ref e) { s with heap:=h' }) :
  wpAny (model prog w) A (Builtin.SmallTypes.nextOf (.ref it)) Q E s:=by
 obtain⟨o,ho,hc,hd⟩:=id hit;obtain⟨ol,hol,_,nl,hdl⟩:=ht;unfold Builtin.SmallTypes.nextOf;show A0 (wpAny_callSpecial?_slot (name:=Str.ofString "__next__") hit.typeIs F.slot_tuple_iterator_next
  (F3 F.slot_tuple_iterator_next hit.typeIs F.entry_tuple_iterator_next ?_ (F.args_tuple_iterator_next_1 _)))
 change wpAny _ _ (field (.ref it) 0 >>= _) _ _ s;show A0 (P0 ho hd (x:=.ref t) rfl ?_);change wpAny _ _ (if (Value.ref t == Value.none)=true then _ else _) _ _ s;rw[PZ (show¬ ((Value.ref t == Value.none)=true)from B2)];change wpAny _ _ (field (.ref it) 1 >>= _) _ _ s;show A0 (P0 ho hd (x:=.int i 0) rfl ?_);change wpAny _ _ (seqItems? (.ref t) >>= _) _ _ s;show A0 (wpAny_seqItems hol hdl ?_);simp only[K2,hx];show A0 (P8 (A0 (wpAny_setField ho hd (by simp) ?_)));change wpAny _ _ (newExc (.type "StopIteration") [] >>= _) _ _ _;show A0 ?_;simp only[newExc,newTuple];show A0 (F4 ?_ (by size_fits));show A0 (m:=firstArgMember _ _) (wpAny_of_eq (a:=Value.none) (by first | rfl | (simp only[firstArgMember];rfl)) ?_);show F4 ?_ (by size_fits);simp only[raiseNew];show A0 (wpAny_handled ?_)
 first | rw[show A.in1.handled=none from hh] | rw[hh]
 show A0 (A2 (wpAny_throw ?_));exact hE _ _ (((P6 ..).extBut.push _).push _) %[_,A8 _ rfl|rfl]
end
end PySem
namespace L2
open PySem PySem.Spec PyProof.Rows
def Ite(f:PP V->HO)(l:PK):It :=
  ⟨λ i H=>∃xs x,H l=some (f xs)/\xs[i]?=some x,
   λ i H v H'=>∃p xs x,H p=none/\v=.ref p/\H'=upd H p (.tup [.int i,x])/\H l=some (f xs)/\xs[i]?=some x,
   λ i H=>∃xs,H l=some (f xs)/\xs.length<=i⟩
section
variable{X:Cx}{PR:RC}{σ:St}{H:Hp}{s:F6}
theorem qu{f:PP V->HO}{tn:Nat->Heap->Prop}{es:PP Expr}{kk:Nat}{tp:Pos}{e it l:PK}{i:Nat}{xs:PP V}{x:V}{u:G0}{tk:Nat}{h':Heap}{E:G0->F6->Prop}(hne:e≠it)(I:Inv X PR σ H s)(hf:∀b∈[e,it],FpOk X PR H b)(hl:H l=some (f xs))(hx:xs[i]?=some x)
  (ho:∀b∈[e,it],b < s.heap.objs.size) (r:RelV x u) (b1:IsEnumOut h' e it ((i:Int)+1) u s.heap.objs.size) (b3:h'.get? s.heap.objs.size=some { cls:=.type "tuple",data:=.seq #[.int i tk,u] })
  (bk:∀b o,b≠e->b≠it->s.heap.get? b=some o->h'.get? b=some o) (hn:∀h'',IsEnum h'' e it ((i+1:Nat):Int) u->Heap.SameBut e h' h''->tn (i+1) h'') :
  wpAny (model X.prog X.w) X.A (letOwnedTupleGo (.Tuple es kk tp) (.ref e) (.ref s.heap.objs.size)) (λ _ s2=>∃x H',Inv X PR σ H' s2/\RelV x (.ref s.heap.objs.size)/\(Ite f l).yld i H x H'/\tn (i+1) s2.heap/\∀b∈[e,it],H' b=none) E { s with heap:=h',toks:=tk+1 }:=by
 show wpAny_letOwnedTupleGo_enum b1 λ h'' c1 cs=>?_;have es':e < s.heap.objs.size:=ho e (by simp);have k2:∀b o,b∉[e,it]->s.heap.get? b=some o->h''.get? b=some o:=λ b o hb q=>by simp only[G7,C1,Pl,P9]at hb;exact cs.extBut b o hb.1 (bk b o hb.1 hb.2 q)
 have I1:Inv X PR σ H { s with heap:=h'',toks:=tk+1 }:=I.turnedN (t':=tk+1) hf k2;have hp:h''.get? s.heap.objs.size=some { cls:=.type "tuple",data:=.seq #[.int i tk,u] }:=cs.extBut _ _ (N2 es') b3;have hn0:H s.heap.objs.size=none:=I.hok.fresh (B3 _);have fpk:=I.fpOk (H':=H) (B3 _) hn0;have I2:Inv X PR σ (upd H s.heap.objs.size (.tup [.int i,x])) { s with heap:=h'',toks:=tk+1 }:=I1.track fpk I.sz %[by change 2<=sizeLine;decide,[.int i tk,u],.cons %[tk|O] (.cons r .nil),_,hp,O,_|O];show%[.ref s.heap.objs.size,_,I2,O,%[_,xs,x,hn0,O,O,hl|hx],hn h'' c1 cs|λ b hb=>?_];rw[aw (B9 (ho b hb))];exact(hf b hb).1
end
theorem nL{P:F7}{w:F9}{K:C5}{es:PP Expr}{kk:Nat}{tp:Pos}(l e it:PK)(hne:e≠it) :
  Turn P w K (.Tuple es kk tp) (Ite .lst l) [e,it] e (λ i h=>(∃old,IsEnum h e it i old)/\h.IsListIter it l i) where
 mem:=by simp
 obj:=λ i h st b hb=>by
  obtain⟨⟨old,a1⟩,⟨o2,a2,_,d2⟩⟩:=st;simp only[G7,C1,Pl]at hb;rcases hb with rfl | rfl
  ·exact%[_,a1|λ v q=>by cases q]
  ·exact%[_,a2|λ v q=>by rw[d2]at q;cases q]
 keep:=λ i h h' st k=>by obtain⟨⟨old,a1⟩,a2⟩:=st;exact%[%[old|k e (by simp) _ a1]|a2.at λ o q=>k it (by simp) o q]
 item:=by
  intro X hP hw hK hc i PR s σ H E I hf st hg;subst hP hw hK;obtain⟨⟨old,a1⟩,a2⟩:=st;obtain⟨xs,x,e1,ex⟩:=hg;obtain⟨its,rv,p1,_⟩:=I.list (G3 e1);obtain⟨u,hu,r⟩:=rv.get ex;have ho:∀b∈[e,it],b < s.heap.objs.size:=λ b hb=>by
   obtain⟨o2,a2',_⟩:=a2;simp only[G7,C1,Pl]at hb;rcases hb with rfl | rfl
   ·exact A9 a1
   ·exact A9 a2'
  show wpAny_pyNext_enum_item a1 a2 p1.isList (x:=u) (by simpa using hu) hne λ h' b1 b2 b3 b4 bk=>%[_,O|?_]
  exact qu (tn:=λ i h=>(∃old,IsEnum h e it i old)/\h.IsListIter it l i) hne I hf e1 ex ho r b1 b3 bk λ h'' c1 cs=>%[%[u|c1]|b2.extBut cs.extBut (Ne.symm hne)]
 done:=by
  intro X hP hw hK hc i PR s σ H E I hf st hg;subst hP hw hK;obtain⟨⟨old,a1⟩,a2⟩:=st;obtain⟨xs,e1,ex⟩:=hg;obtain⟨its,rv,p1,_⟩:=I.list (G3 e1);have lv:=rv.length;show wpAny_pyNext_enum_end (I.ok.hd hc) a1 a2 p1.isList (by simp;omega) λ h' bk=>%[O|?_]
  exact I.turnedN (t':=s.toks) hf λ b o hb q=>by simp only[G7,C1,Pl,P9]at hb;exact bk b o hb.2 q
 self:=λ _ _ _ _ _ st h=>by obtain⟨⟨old,a1⟩,_⟩:=st;exact wpAny_pyIter_enum a1 h
theorem uu{f:PP V->HO}(hf:∀xs ys,f xs=f ys->xs=ys){l:PK}{xs:PP V}{g:TG}{tb:TS}{D:Ends}{σ:St}{H:Hp}(Pv:Nat->St->Hp->Prop)(h0:Pv 0 σ H)(hk:∀i σ H',Pv i σ H'->H' l=some (f xs))
  (ht:∀i x p σ H,xs[i]?=some x->H p=none->Pv i σ H->g (.ref p) σ (upd H p (.tup [.int i,x])) λ σ2 H2=>tb { D with nx:=Pv (i+1),ct:=Pv (i+1),bk:=D.nx } σ2 H2) (hd:∀σ H,Pv xs.length σ H->D.nx σ H) :
  ∃W:Nat->Nat->St->Hp->Prop,(∃m,W 0 m σ H)/\∀i m σ H,W i m σ H ->
   ((Ite f l).stop i H/\D.nx σ H)\/((Ite f l).go i H/\∃N:St->Hp->Prop,(∀σ' H',N σ' H'->∃m',m' < m/\W (i+1) m' σ' H')/\∀x H',(Ite f l).yld i H x H'->g x σ H' λ σ2 H2=>tb { D with nx:=N,ct:=N,bk:=D.nx } σ2 H2):=by
 show%[λ i m σ H=>m=xs.length - i/\i<=xs.length/\Pv i σ H,%[xs.length,by simp,E8 _|h0]|?_];rintro i m σ H ⟨rfl,hi,p⟩;have e1:=hk i σ H p
 by_cases hlt:i < xs.length
 ·show .inr %[%[xs,xs[i],e1|by simp[hlt]],Pv (i+1),λ σ' H' p'=>%[xs.length - (i+1),⋯,O,hlt|p']|λ v H' y=>?_];obtain⟨q,xs',x,hq,rfl,rfl,e1',ex⟩:=y;rw[e1]at e1';cases hf _ _ (B8 e1');exact ht i x q σ H ex hq p
 ·have e:i=xs.length:=⋯
  subst e;exact .inl %[%[xs,e1|B3 _]|hd σ H p]
end L2
namespace Pc
open PySem L2
def bL(k:Kd):Bool:=k.tu && !decide (k.w=k.h)
def lyT(i:Nat)(k:Kd):PP (Nat×Bool):=(i,false) :: if bL k=true then[(i,true)]else[]
def lyK:PP Kd->Nat->PP (Nat×Bool)
 | [],_=>[]
 | k :: r,i=>lyT i k ++ lyK r (i+1)
theorem lW(k:Kd):∀(ks:PP Kd)(i:Nat),lyK (ks ++ [k]) i=lyK ks i ++ lyT (i+ks.length) k
 | [],i=>by simp[lyK]
 | c :: r,i=>by change lyT i c ++ lyK (r ++ [k]) (i+1)=(lyT i c ++ lyK r (i+1)) ++ _;rw[lW k r (i+1),K9];congr 2;simp only[J0];congr 1;omega
theorem wS(i:Nat)(k:Kd):(lyT i k).length<=2:=by unfold lyT;split <;> simp
theorem kR:∀(ks:PP Kd)(i:Nat),(lyK ks i).length<=2 * ks.length
 | [],i=>by simp[lyK]
 | c :: r,i=>by have:=kR r (i+1);have:=wS i c;simp only[lyK,G8,J0];omega
def lX(K:C5):Sp:=λ vs H Q _=>∃(a:PK)(k:Kd),vs=[.ref a]/\H a= ~~~(kdV k)/\Q (.bl (bL k)) H
def fE(ks:PP Kd)(x t:V):Bool:=match x,t with
 | .int i,.bl b=>decide (0<=i) && match ks[i.toNat]? with
  | some k=>!b || bL k
  | none=>false
 | _,_=>false
def fk(K:C5)(C:PK):Sp:=λ vs H Q _=>∃(s:PK)(b:Int)(ks:PP Kd)(x t:V)(T U:String),vs=[.ref s,x,t]/\ShopAt C H s b ks/\Ty K H x T/\Ty K H t U/\Q (.bl (fE ks x t)) H
end Pc
namespace L2
open PySem PySem.Spec PyProof.Rows
section
variable{X:Cx}
inductive rz_op_inD(K:C5)(x:V)(y:V)(H:Hp)(Q:VK):Prop
|mk(d xs:_)(_:DatV K H x d)(_:DatV K H y (.list xs))(_:SeqAt.shaped (.list xs)=true)(_:SeqAt.shaped d=true)(_:(∀y∈xs,SeqAt.noMix y d=true))(_:Q (.bl (decide (countIn d xs≠0))) H)
theorem iS{k:Nat}{C:PK}{ps:PP Str}{sp:Sp}{m:Str}{o:Expr}{e:Expr}{es:PP Expr}{ta:TE}{t:TA}{apos pos:Pos}{pl:Sem Bool}(he:PE X o ta)(c:Cls X.K C)(D:Mn X.prog X.w X.K X.mg X.base C m ps k sp)(hr:Room k X.A)(ha:PA X (e :: es) t)
  (hst:starEach (e :: es) X.env=(false,eval e X.env) :: starEach es X.env:=by rfl) (hpl:(backTo pos (starEach es X.env)).any (·.1)=false:=by rfl)
  (ht:eval (.Call (.Attribute o m apos) (e :: es) [] pos) X.env=(do
   let ov<-eval o X.env
   standAt apos.atName
   let (f,first)<-holding [ov] (getMethod ov m pl)
   callWith pos f first (backTo pos (starEach (e :: es) X.env)) (backToKw pos (keywordEach [] X.env))):=by rfl):PE X (.Call (.Attribute o m apos) (e :: es) [] pos) (oN C m sp [] E0 ta t):=by
 obtain⟨f,fd,F,hb,hm⟩:=D;exact wK he c hm F hr hb .nil oQ ha hst hpl ht
def MnX(P:F7)(w:F9)(K:C5)(mg:Str->PM G0)(base:Heap)(C:PK)(m:Str)(ps:PP Str)(k:Nat)(sp:Sp):Prop :=
 ∃(f:PK)(fd:F8),FnOk P w K mg base (CXx P w) k f fd ps sp/\Binds K fd ps []/\Meth K C m f
theorem nM{k:Nat}{C:PK}{ps:PP Str}{sp:Sp}{m:Str}{o:Expr}{e:Expr}{es:PP Expr}{ta:TE}{t:TA}{apos pos:Pos}{pl:Sem Bool}(he:PE X.nox o ta)(c:Cls X.K C)(D:MnX X.prog X.w X.K X.mg X.base C m ps k sp)(hr:Room k X.A)(ha:PA X.nox (e :: es) t)
  (hst:starEach (e :: es) X.env=(false,eval e X.env) :: starEach es X.env:=by rfl) (hpl:(backTo pos (starEach es X.env)).any (·.1)=false:=by rfl)
  (ht:eval (.Call (.Attribute o m apos) (e :: es) [] pos) X.env=(do
   let ov<-eval o X.env
   standAt apos.atName
   let (f,first)<-holding [ov] (getMethod ov m pl)
   callWith pos f first (backTo pos (starEach (e :: es) X.env)) (backToKw pos (keywordEach [] X.env))):=by rfl):PEx X (.Call (.Attribute o m apos) (e :: es) [] pos) (ur C m sp ta t):=by
 obtain⟨f,fd,F,hb,hm⟩:=D;exact ut he c hm F hr hb ha hst hpl ht
theorem nN{pos:Pos}:PE X (.Dict [] [] pos) (λ _ H Q=>∀p,H p=none->Q (.ref p) (upd H p (.dK []))):=by intro PR s σ H Q I h;have hb:sysModules < s.heap.objs.size:=Nat.lt_trans (show sysModules < PQ by decide) (I.mod.glob.keeps I.bk).lt;show wpAny_Dict_empty %[.ref s.heap.objs.size,_,?_,rfl|h _ (I.hok.fresh (B3 _))];show I.laid (a:=s.heap.objs.size) (o:=.dK []) (t':=s.toks) (λ _ _ q=>A7 _ q) (B3 _) ?_;exact%[E8 _,Pp.mpr (N2 hb),[],.nil|Heap.DictOf.new _]
end
section
variable{K:C5}{C X:PK}
theorem wU(h:ExcC K C):(PySem.W.clsIn K C).isSome=true/\PySem.W.typeIn K (.ref C)=some (.type "type"):=by
 unfold ExcC PySem.W.excIn at h
 split at h
 ·rename_i e
  show%[?_|?_]
  ·unfold PySem.W.clsIn;rw[e]
   rfl
  ·change Option.map (λ x=>x.cls) (List.lookup C K)=_;rw[e]
   rfl
 ·cases h
theorem qv{t:G0}{b:Bool}(hx:ExcC K X)(s:PySem.W.subIn K t (.ref X)=some b):PySem.W.kitCls K t (.ref X)=some b:=by
 obtain⟨h1,h2⟩:=wU hx;unfold PySem.W.kitCls;simp only[h1,h2,s]
 rfl
end
section
variable{X:Cx}
inductive rz_op_catT0(K:C5)(x:V)(y:V)(H:Hp)(Q:VK):Prop
|mk(a b ys:_)(_:x=.ref a)(_:y=.ref b)(_:SqT K H a [])(_:SqT K H b ys)(_:Q (.ref b) H)
theorem uv:OpR X (binaryOp .Add) (rz_op_catT0 X.K):=by
 intro PR s σ H x y v u Q I rx ry h;obtain⟨a,b,ys,rfl,rfl,ha,hb,q⟩:=h;cases rx;cases ry;obtain⟨its,r1,p1,_⟩:=I.tuple ha;obtain⟨its2,r2,p2,_⟩:=I.tuple hb;cases r1;obtain⟨⟨cls,dd,data,sl⟩,ho,hc,n,hd⟩:=p1;obtain⟨⟨cls2,dd2,data2,sl2⟩,ho2,hc2,n2,hd2⟩:=p2;simp only at hc hd hc2 hd2;subst hc hd hc2 hd2;exact concat_meets %[_,ho|rfl] %[_,ho2|rfl] noFill_tuple_add seq_tuple_add PySem.F.slot_tuple_add PySem.F.entry_tuple_add (PySem.F.args_tuple_add_2 _ _)
   (tuple_addW0 a b _ _ n n2 dd dd2 sl sl2 rfl) %[ho,ho2|%[.ref b,H,I,rfl|q]]
def Bb:R2:=λ x y H Q=>∃a b xs ys,x=.ref a/\y=.ref b/\H a= ~~~xs/\H b= ~~~ys/\xs.length+ys.length<=sizeLine /\
 ∀m H',(H'=H/\(m=a\/m=b))\/(H m=none/\H'=upd H m (.tup (xs ++ ys)))->H' m= ~~~(xs ++ ys)->Q (.ref m) H'
theorem gr:OpR X (binaryOp .Add) Bb:=by
 intro PR s σ H x y v u Q I rx ry h;obtain⟨a,b,xs,ys,rfl,rfl,ha,hb,hz,q⟩:=h
 by_cases hx:xs=[]
 ·subst hx;exact uv PR s σ H _ _ v u Q I rx ry %[a,b,ys,rfl,rfl,G2 ha,G2 hb|q b H (.inl %[rfl|.inr rfl]) hb]
 ·show wN PR s σ H _ _ v u Q I rx ry %[a,b,xs,ys,rfl,rfl,G2 ha,G2 hb,hx,hz,λ e=>?_|λ e p hp=>q p _ (.inr %[hp|rfl]) au];subst e;exact q a H (.inl %[O|.inl rfl]) (by rw[K0];exact ha)
end
theorem kS:∀{ns:Q9}{its:PP G0},Vals (ns.map V.int) its->IntsAre its ns
 | [],_,r=>by cases r;exact .nil
 | n :: ns,_,r=>by
  cases r with
  | cons r1 r2=>
   obtain⟨t,e⟩:=r1;subst e;exact .cons n t (kS r2)
section
variable{X:Cx}
inductive rz_call_sumI(K:C5)(xs:PP V)(H:Hp)(Q:VK):Prop
|mk(p:PK)(ns:Q9)(_:xs=[.ref p])(_:SqL K H p (ns.map V.int))(_:Q (.int ns.sum) H)
theorem fq(hc:X.calm=true):cU X (.builtin "sum") (rz_call_sumI X.K):=by
 intro PR s σ H xs us Q I r h;obtain⟨p,ns,rfl,hs,q⟩:=h;obtain⟨u,rfl,rfl⟩:=dN r;obtain⟨its,rv,pl,_⟩:=I.list hs;have hi:=kS rv;obtain⟨xs,e⟩:=hi.allInts.items;have pl':=pl.isList;rw[e]at pl';show sum_intListG (I.ok.hd hc) pl' λ h' tk t' hk=>?_;have e2:preSum (numAt xs) xs.size=ns.sum:=by rw[preSum_eq,M7 (by simp),<- nums_intItems,<- e,show its.toArray.toList=its from rfl,hi.numsOf]
 rw[e2];exact%[.int ns.sum,H,I.kept hk,%[_|O]|q]
def CMulB(i j:Int):Prop:=i.natAbs < 2 ^ 4096/\j.natAbs < 2 ^ 4096
theorem oX{k:Int}(h:k.natAbs < 2 ^ 4096):Builtin.Int.intBits k<=2 ^ 20:=by
 have e:(2:Nat) ^ 20=1048576:=∅
 unfold Builtin.Int.intBits
 split
 ·exact E8 _
 ·have:k.natAbs.log2 < 4096:=by
   rcases Nat.eq_zero_or_pos k.natAbs with h0 | hp
   ·rw[h0];decide
   ·exact(Nat.log2_lt (N2 hp)).mpr h
  omega
theorem CMulB.ok{i j:Int}(h:CMulB i j):IntMulOk i j:=.of_bits (oX h.1) (oX h.2)
theorem cY:OpR X (binaryOp .Mult) (rI CMulB λ i j=>.int (i * j)):=opI λ _ _ _ _ _ _ _ hc q=>mul_int q hc.ok
end
theorem bq{α:Type}{xs:PP α}{i:Int}{v:α}(h0:0<=i)(h:xs[i.toNat]?=some v):atI xs i=some v:=by
 have e:i=((i.toNat:Nat):Int):=⋯
 have z:atI xs ((i.toNat:Nat):Int)=some v:=gf h;rw[<- e]at z;exact z
end L2
namespace Pc
open PySem L2
def uw(K:C5):Sp:=λ vs H Q _=>∃(a:PK)(ns:Q9)(n:Int),vs=[.ref a,.int n]/\SqL K H a (ns.map V.int)/\0<=n/\∀c:Int,Q (.int c) H
end Pc
namespace L2
open PySem
theorem Room.units66{k:Nat}{A:Around}(r:Room k A):A.units+66 < cLine:=by have:=r.un;omega
end L2
namespace L2
open PySem PySem.Spec PyProof.Rows
section
variable{X:Cx}{k:Nat}{ps:PP Str}{sp:Sp}{x:Str}{p pos:Pos}{e:Expr}{es:PP Expr}{t:TA}
def DnX(P:F7)(w:F9)(K:C5)(mg:Str->PM G0)(base:Heap)(x:Str)(ps:PP Str)(k:Nat)(sp:Sp):Prop :=
 ∃(f:PK)(fd:F8),FnOk P w K mg base (CXx P w) k f fd ps sp/\Binds K fd ps []/\PySem.W.keepIn K (.ref f)=true/\mg x=↑f
def zq(sp:Sp)(t:TA):TX:=λ σ H Q E=>t σ H λ vs H1=>sp vs H1 Q E
theorem iU(D:DnX X.prog X.w X.K X.mg X.base x ps k sp)(hr:Room k X.A)(hg:Gl X x)(ha:PA X.nox (e :: es) t)
  (hdb:(x == ("__debug__" : Str))=false:=by decide) (he:starEach (e :: es) X.env=(false,eval e X.env) :: starEach es X.env:=by rfl) (hpl:(backTo pos (starEach es X.env)).any (·.1)=false:=by rfl) :
  PEx X (.Call (.Name x p) (e :: es) [] pos) (zq sp t):=by
 obtain⟨f,fd,F,hb,hk,hm⟩:=D;intro PR s σ H Q E I h;show wpAny_Call_Name_kw (ff I hg hm ?_ hdb);show PySem.W.callWith_K (h₀:=X.base) I.ok.mod.kin hk (Po (ha pos PR s σ H _ (I.wish _) h) (λ us s1 ⟨vs,H1,I1,r,q⟩=>%[I1.kIn|?_]) λ _ _ z=>E7 z) he hpl;exact oW F hr hb I1.unwish r q
end
section
variable{κ:Type}[DecidableEq κ]
def dJ(kvs:PP (κ×V))(k:κ):PM V:=(kvs.find? λ kv=>decide (kv.1=k)).map (·.2)
def eJ(kvs:PP (κ×V))(k:κ)(v:V):PP (κ×V) :=
 if (kvs.any λ kv=>decide (kv.1=k))=true then kvs.map (λ kv=>if kv.1=k then(kv.1,v)else kv)else kvs ++ [(k,v)]
def iV(kvs:PP (κ×V))(k:κ):PP (κ×V):=kvs.filter λ kv=>decide (kv.1≠k)
theorem ux{p:κ×V}{r:PP (κ×V)}{k:κ}(e:p.1=k):dJ (p :: r) k=some p.2:=by simp[dJ,List.find?_cons,e]
theorem uy{p:κ×V}{r:PP (κ×V)}{k:κ}(e:¬ p.1=k):dJ (p :: r) k=dJ r k:=by simp[dJ,List.find?_cons,e]
theorem gW(kvs:PP (κ×V))(k:κ)(v:V):(eJ kvs k v).length<=kvs.length+1:=by
 unfold eJ
 split
 ·rw[G6];omega
 ·rw[G8,J0,List.length_nil];omega
theorem RelO.isSome_eq{o:PM V}{u:PM G0}(r:RelO o u):o.isSome=u.isSome:=by
 cases o with
 | none=>cases u with
  | none=>rfl
  | some _=>exact(show False from r).elim
 | some _=>cases u with
  | none=>exact(show False from r).elim
  | some _=>rfl
theorem KV.val{kvs:PP (κ×V)}{vs:PP (κ×G0)}(r:KV kvs vs)(k:κ):RelO (dJ kvs k) (valueAt vs k):=by
 unfold KV at r
 induction r with
 | nil=>exact True.intro
 | @cons p q ps qs h t ih=>
  obtain⟨h1,h2⟩:=h
  by_cases e:p.1=k
  ·have e':q.1=k:=h1.symm.trans e;have b:valueAt (q :: qs) k=some q.2:=by simp[valueAt,List.find?_cons,e']
   rw[ux e,b];exact h2
  ·have e':¬ q.1=k:=λ z=>e (h1.trans z);have b:valueAt (q :: qs) k=valueAt qs k:=by simp[valueAt,List.find?_cons,e']
   rw[uy e,b];exact ih
theorem KV.any{kvs:PP (κ×V)}{vs:PP (κ×G0)}(r:KV kvs vs)(k:κ):(kvs.any λ kv=>decide (kv.1=k))=vs.any λ kv=>decide (kv.1=k):=by
 unfold KV at r
 induction r with
 | nil=>rfl
 | cons h t ih=>rw[PB,PB,ih,h.1]
theorem KV.repl{kvs:PP (κ×V)}{vs:PP (κ×G0)}(r:KV kvs vs)(k:κ){y:V}{u:G0}(ry:RelV y u) :
  KV (kvs.map λ kv=>if kv.1=k then(kv.1,y)else kv) (vs.map λ kv=>if kv.1=k then(kv.1,u)else kv):=by
 unfold KV at r ⊢
 induction r with
 | nil=>exact .nil
 | @cons p q ps qs h t ih=>
  rw[J3,J3];show .cons ?_ ih;obtain⟨h1,h2⟩:=h
  by_cases e:p.1=k
  ·rw[Pa e,Pa (h1.symm.trans e)];exact%[h1|ry]
  ·rw[PZ e,PZ (λ z=>e (h1.trans z))];exact%[h1|h2]
theorem KV.put{kvs:PP (κ×V)}{vs:PP (κ×G0)}(r:KV kvs vs)(k:κ){y:V}{u:G0}(ry:RelV y u):KV (eJ kvs k y) (stored vs k u):=by
 unfold eJ stored;rw[r.any k]
 by_cases e:(vs.any λ kv=>decide (kv.1=k))=true
 ·rw[Pa e,Pa e];exact r.repl k ry
 ·rw[PZ e,PZ e];exact Paired.snoc r %[rfl|ry]
theorem KV.drop{kvs:PP (κ×V)}{vs:PP (κ×G0)}(r:KV kvs vs)(k:κ):KV (iV kvs k) (without vs k):=by
 unfold KV at r ⊢;unfold iV without
 induction r with
 | nil=>exact .nil
 | @cons p q ps qs h t ih=>
  obtain⟨h1,h2⟩:=h;rw[O6,O6]
  by_cases e:p.1=k
  ·have a:¬ decide (p.1≠k)=true:=by simp[e]
   have b:¬ decide (q.1≠k)=true:=by simp[h1.symm.trans e]
   rw[PZ a,PZ b];exact ih
  ·have e':¬ q.1=k:=λ z=>e (h1.trans z);have a:decide (p.1≠k)=true:=by simp[e]
   have b:decide (q.1≠k)=true:=by simp[e']
   rw[Pa a,Pa b];exact .cons %[h1|h2] ih
theorem KV.length{kvs:PP (κ×V)}{vs:PP (κ×G0)}(r:KV kvs vs):kvs.length=vs.length:=E3 r
theorem uz(kvs:PP (κ×V))(k:κ):(iV kvs k).length<=kvs.length:=K1 _ _
end
theorem lY{P:F7}{w:F9}{k:Key}{u:G0}(r:RelV (kV k) u):(bK P w).is k u=true:=by
 cases k with
 | inl i=>obtain⟨t,e⟩:=(show∃t,u=Value.int i t from r);subst e;exact eK P w i t
 | inr x=>obtain⟨t,e⟩:=(show∃t,u=Value.str x t from r);subst e;exact eL P w x t
section
variable{P:F7}{w:F9}{H:Hp}{h:Heap}{a:PK}
theorem Bc{u:HO}(ok:HOk P w H h)(e:Rd H a u):ObjOk P w H h a u:=e.ok ok
theorem iW{kvs:PP (Key×V)}(ok:HOk P w H h)(e:Rd H a (.dK kvs)):kvs.length<=sizeLine/\(a == sysModules)=false/\∃vs,KV kvs vs/\h.DictOf (bK P w) a vs :=
 show ObjOk P w H h a (.dK kvs)from Bc ok e
theorem uA{kvs:PP (Key×V)}(ok:HOk P w H h)(e:H a=some (.dK kvs)):kvs.length<=sizeLine/\(a == sysModules)=false/\∃vs,KV kvs vs/\h.DictOf (bK P w) a vs:=iW ok (.inl e)
end
def uB(H:Hp)(a:PK)(y:V)(r:PM V):Prop :=
 (∃kvs k,Rd H a (.dK kvs)/\y=kV k/\r=dJ kvs k)\/False
def zr(H:Hp)(a:PK)(y v:V)(H':Hp):Prop :=
 (∃kvs k,H a=some (.dK kvs)/\y=kV k/\kvs.length < sizeLine/\H'=upd H a (.dK (eJ kvs k v)))\/False
section
variable{X:Cx}{PR:RC}{σ:St}{H:Hp}{s:F6}{a:PK}{y v:V}{u r:G0}{o:PM V}{A:Around}{E:G0->F6->Prop}
theorem Inv.big(I:Inv X PR σ H s):sysModules < s.heap.objs.size:=by have h:PQ < s.heap.objs.size:=(I.mod.glob.keeps I.bk).lt;exact Nat.lt_trans ∅ h
theorem qw{Q:G0->F6->Prop}(hu:A.units+1 < cLine)(I:Inv X PR σ H s)(g:uB H a y (some v))(ry:RelV y u)(h:∀w' s',Inv X PR σ H s'->RelV v w'->Q w' s') :
  wpAny (model X.prog X.w) A (getItem (.ref a) u) Q E s:=by
 rcases g with⟨kvs,k,e,ey,l⟩ | hF
 ·subst ey;obtain⟨z,hd,vs,rel,dd⟩:=iW I.hok e;obtain⟨w',hw,rw'⟩:=RelO.some_of (v:=v) (o:=valueAt vs k) (by rw[l];exact rel.val k);exact wpAny_getItem_of (lY ry) dd.mapOf hw (h w' _ (I.tok _) rw')
 ·exact hF.elim
theorem wV{Q:G0->F6->Prop}(hu:A.units+1 < cLine)(I:Inv X PR σ H s)(g:uB H a y o)(ry:RelV y u)(h:∀s',Inv X PR σ H s'->Q (.bool (!o.isSome)) s') :
  wpAny (model X.prog X.w) A (compareOp .NotIn u (.ref a)) Q E s:=by
 rcases g with⟨kvs,k,e,ey,l⟩ | hF
 ·subst ey;obtain⟨z,hd,vs,rel,dd⟩:=iW I.hok e;show wpAny_notIn_of (lY ry) hd dd.mapOf ?_;rw[<- (rel.val k).isSome_eq,<- l];exact h _ (I.tok _)
 ·exact hF.elim
theorem kT{h':Heap}{t':Nat}{ob:HO}(I:Inv X PR σ H s)(mu:Mut (H a))(hs:Heap.SameBut a s.heap h')(he:∃q,h'.get? a=some q)(new:ObjOk X.prog X.w (upd H a ob) h' a ob) :
  Inv X PR σ (upd H a ob) { s with heap:=h',toks:=t' } :=
 I.write (x:=a) (e:=a) mu (.inl rfl) (λ b q hb z=>(hs.2 b hb).trans z) he new
theorem kU{P:F7}{w:F9}{H':Hp}{h':Heap}{kvs:PP (Key×V)}{vs:PP (Key×G0)}(z:kvs.length<=sizeLine)(hd:(a == sysModules)=false)(rel:KV kvs vs)(dd:h'.DictOf (bK P w) a vs) :
  ObjOk P w H' h' a (.dK kvs):=%[z,hd,vs,rel|dd]
theorem jP{H':Hp}{Q:Unit->F6->Prop}(hu:A.units+1 < cLine)(I:Inv X PR σ H s)(g:zr H a y v H')(ry:RelV y u)(rv:RelV v r)(h:∀s',Inv X PR σ H' s'->Q () s') :
  wpAny (model X.prog X.w) A (setItem (.ref a) u r) Q E s:=by
 rcases g with⟨kvs,k,e,ey,l,eH⟩ | hF
 ·subst ey eH;obtain⟨z,hd,vs,rel,dd⟩:=uA I.hok e;have hz:vs.length<=sizeLine:=by rw[<- rel.length];exact z
  have hl:(eJ kvs k v).length<=sizeLine:=by have:=gW kvs k v;omega
  show wpAny_setItem_pairs (hsz:=hz) (lY ry) dd λ h' dd' hs=>h _ ?_;have he:∃q,h'.get? a=some q:=let ⟨q,_,_,hq,_⟩:=dd';%[q|hq]
  exact kT I (by rw[e];exact True.intro) hs he (kU hl hd (rel.put k rv) dd')
 ·exact hF.elim
end
section
variable{X:Cx}{PR:RC}{σ:St}{H:Hp}{s:F6}{a:PK}{kvs:PP (Key×V)}{k:Key}{u:G0}{A:Around}{E:G0->F6->Prop}
theorem Bd{v:V}{more:PP G0}{Q:G0->F6->Prop}(I:Inv X PR σ H s)(e:H a=some (.dK kvs))(ry:RelV (kV k) u)(l:dJ kvs k=some v)(hm:more=[]\/∃x,more=[x])
  (h:∀w' s',Inv X PR σ (upd H a (.dK (iV kvs k))) s'->RelV v w'->Q w' s'):wpAny (model X.prog X.w) A (call (.builtin "dict.pop") (.ref a :: u :: more)) Q E s:=by
 obtain⟨z,hd,vs,rel,dd⟩:=uA I.hok e;obtain⟨w',hw,rw'⟩:=RelO.some_of (v:=v) (o:=valueAt vs k) (by rw[<- l];exact rel.val k);have hp:(keyPart u).isSome=true:=by
  cases k with
  | inl i=>obtain⟨t,q⟩:=(show∃t,u=Value.int i t from ry);subst q;rfl
  | inr x=>obtain⟨t,q⟩:=(show∃t,u=Value.str x t from ry);subst q;rfl
 have ha:argsOk "dict.pop" %[.ref a :: u :: more|[]]:=by
  rcases hm with q | ⟨x,q⟩
  ·subst q;exact PySem.F.args_dict_pop_2 _ _
  ·subst q;exact PySem.F.args_dict_pop_3 _ _ _
 show call_meetsIn PySem.F.slot_dict_pop dd.typeIs PySem.F.entry_dict_pop ha (meets_dict_pop_there (bK X.prog X.w) a (lY ry) more hm hp)
  %[vs,w',dd,by rw[<- rel.length];exact z,hw|λ h' dd' hs=>h w' _ ?_ rw']
 have he:∃q,h'.get? a=some q:=let ⟨q,_,_,hq,_⟩:=dd';%[q|hq]
 exact kT I (by rw[e];exact True.intro) hs he (kU (C6 (uz kvs k) z) hd (rel.drop k) dd')
end
def Be(i:Expr):Prop:=∀ov iv,subscripted i false ov iv=operate [ov,iv] (getItem ov iv)
theorem wW{prog:F7}{w:F9}{A:Around}{E:G0->F6->Prop}{s:F6}{env:Env}{value slice:Expr}{pos:Pos}{T id:String}{Q:G0->F6->Prop}
  (hl:typeLookup (.type T) "__getitem__" = pure (some (.builtin id))) (hs:Be slice)
  (h:wpAny (model prog w) A (eval value env) (λ o s₁=>wpAny (model prog w) A (eval slice env) (λ i s₂=>s₂.TypeIs o T/\wpAny (model prog w) A (getItem o i) Q E s₂) E s₁) E s) :
  wpAny (model prog w) A (eval (.Subscript value slice pos) env) Q E s:=by
 show Subscript_ (Po h (λ o s₁ h₁=>Po h₁ (λ i s₂ h₂=>?_) λ _ _ x=>x) λ _ _ x=>x);obtain⟨hT,h₂⟩:=h₂;unfold subscriptTail;show A0 ?_;rw[getitemInPython_of_ne hT.not_modules];show A0 (wpAny_specialOf hT hl ?_);have fin:wpAny (model prog w) A (subscripted slice false o i) (λ r s₃=>wpAny (model prog w) A (letTemporaryGo value o r >>= λ _=>pure r) Q E s₃) E s₂:=by rw[hs o i];exact wpAny_operating (Po h₂ (λ r s₃ h₃=>A0 (wpAny_letTemporaryGo (A2 h₃))) λ _ _ x=>x)
 first
  | exact A2 (A0 fin)
  | exact A0 (A2 (A0 fin))
  | exact A0 fin
theorem lZ{X:Cx}{PR:RC}{σ:St}{H:Hp}{s:F6}{a:PK}{y:V}{o:PM V}(I:Inv X PR σ H s)(g:uB H a y o):s.TypeIs (.ref a) "dict" := by
 rcases g with⟨kvs,k,e,_,_⟩ | hF
 ·obtain⟨_,_,vs,_,dd⟩:=iW I.hok e;exact dd.typeIs
 ·exact hF.elim
def Bf(td ty:TE):TE:=λ σ H Q=>td σ H λ x H1=>ty σ H1 λ y H2=>∃a v,x=.ref a/\uB H2 a y (some v)/\Q v H2
def wX(ty td:TE):TE:=λ σ H Q=>ty σ H λ y H1=>td σ H1 λ x H2=>∃a o,x=.ref a/\uB H2 a y o/\Q (.bl (!o.isSome)) H2
def Bg(td ty tv:TE):TS:=λ D σ H=>tv σ H λ v H1=>td σ H1 λ x H2=>ty σ H2 λ y H3=>∃a H4,x=.ref a/\zr H3 a y v H4/\D.nx σ H4
section
variable{X:Cx}{o i e value:Expr}{pos pos' tpos:Pos}{td ty tv:TE}
theorem aR(hu:X.A.units+1 < cLine)(ho:PE X o td)(hi:PE X i ty)(hs:Be i):PE X (.Subscript o i pos) (Bf td ty):=by intro PR s σ H Q I h;show wW PySem.F.slot_dict_getitem.lookup hs (thn (ho PR s σ H _ I h) ?_);rintro u s1 ⟨x,H1,I1,rx,q1⟩;show thn (hi PR s1 σ H1 _ I1 q1) ?_;rintro iv s2 ⟨y,H2,I2,ry,a,v,ex,g,q2⟩;subst ex;obtain rfl:u=Value.ref a:=rx;exact%[lZ I2 g|qw hu I2 g ry λ w' s3 I3 rw'=>%[v,H2,I3,rw'|q2]]
theorem qx(hu:X.A.units+1 < cLine)(hi:PE X i ty)(ho:PE X o td):PC X .NotIn i o (wX ty td):=by intro PR s σ H Q I h;show thn (hi PR s σ H _ I h) ?_;rintro iv s1 ⟨y,H1,I1,ry,q1⟩;show thn (ho PR s1 σ H1 _ I1 q1) ?_;rintro u s2 ⟨x,H2,I2,rx,a,ov,ex,g,q2⟩;subst ex;obtain rfl:u=Value.ref a:=rx;exact wV hu I2 g ry λ s3 I3=>%[.bl (!ov.isSome),H2,I3,O|q2]
theorem kW(hu:X.A.units+1 < cLine)(ho:PE X o td)(hi:PE X i ty)(hv:PE X value tv)(hs:swapsWith value (some (.Subscript o i pos')) pos.line X.env=pure false) :
  PS X (.Assign [.Subscript o i pos'] value pos) (Bg td ty tv):=by
 intro PR s σ H D I h;show wpAny_Assign_Subscript (thn (hv PR s σ H _ I h) ?_) hs;rintro r s1 ⟨v,H1,I1,rv,q1⟩;show thn (ho PR s1 σ H1 _ I1 q1) ?_;rintro u s2 ⟨x,H2,I2,rx,q2⟩;show thn (hi PR s2 σ H2 _ I2 q2) ?_;rintro iv s3 ⟨y,H3,I3,ry,a,H4,ex,g,q3⟩;subst ex;obtain rfl:u=Value.ref a:=rx;exact jP hu I3 g ry rv λ s4 I4=>%[σ,H4,I4|q3]
end
theorem me{P:F7}{w:F9}{H:Hp}(h:Heap)(hb:sysModules < h.objs.size):ObjOk P w H (h.push { cls:=.type "dict",data:=.dict #[] }) h.objs.size (.dK []) :=
 %[E8 _,Pp.mpr (Ne.symm (B9 hb)),[],.nil|Heap.DictOf.new h]
def zu:TE:=λ _ H Q=>∀p,H p=none->Q (.ref p) (upd H p (.dK []))
section
variable{X:Cx}{pos:Pos}
theorem mh:PE X (.Dict [] [] pos) zu:=λ PR s σ H Q I h=>
 wpAny_Dict_empty %[.ref s.heap.objs.size,_,I.laid (a:=s.heap.objs.size) (o:=.dK []) (t':=s.toks) (λ _ _ q=>A7 _ q) (B3 _) (me s.heap I.big),rfl|h _ (I.hok.fresh (B3 _))]
end
def nO:PP (TE×TE)->St->Hp->(PP (V×V)->Hp->Prop)->Prop
 | [],_,H,Q=>Q [] H
 | (tk,tv) :: r,σ,H,Q=>tk σ H λ x H1=>tv σ H1 λ y H2=>nO r σ H2 λ ps H3=>Q ((x,y) :: ps) H3
abbrev VV:PP (V×V)->PP (G0×G0)->Prop:=Paired λ p q=>RelV p.1 q.1/\RelV p.2 q.2
def PPs(X:Cx)(pos:Pos)(keys:PP (PM Expr))(values:PP Expr)(trs:PP (TE×TE)):Prop :=
 ∀(PR:RC)(s:F6)(σ:St)(H:Hp)(Q:PP (V×V)->Hp->Prop),Inv X PR σ H s->nO trs σ H Q ->
  wpAny (model X.prog X.w) X.A (evalPairs (pairTrees keys values X.env pos)) (λ vs s'=>∃ps H',Inv X PR σ H' s'/\VV ps vs/\Q ps H') X.xe s
theorem wY{X:Cx}{pos:Pos}:PPs X pos [] [] []:=λ PR s σ H Q I h=>pairTrees_nil_walk %[[],H,I,.nil|h]
theorem dQ{X:Cx}{pos:Pos}{k v:Expr}{ks:PP (PM Expr)}{vs:PP Expr}{tk tv:TE}{trs:PP (TE×TE)}(hk:PE X k tk)(hv:PE X v tv)(hr:PPs X pos ks vs trs) :
  PPs X pos (some k :: ks) (v :: vs) ((tk,tv) :: trs):=λ PR s σ H Q I h=>
 pairTrees_cons_walk (thn (hk PR s σ H _ I h) λ u s1 %[x,H1,I1,rx|q1]=>thn (hv PR s1 σ H1 _ I1 q1) λ w2 s2 %[y,H2,I2,ry|q2]=>
  thn (hr PR s2 σ H2 _ I2 q2) λ ws s3 %[ps,H3,I3,rel|q3]=>%[(x,y) :: ps,H3,I3,.cons %[rx|ry] rel|q3])
def fU(kvs more:PP (Key×V)):PP (Key×V):=more.foldl (λ acc kv=>eJ acc kv.1 kv.2) kvs
theorem KV.merge:∀{more:PP (Key×V)}{rs:PP (Key×G0)}{kvs:PP (Key×V)}{vs:PP (Key×G0)},KV more rs->KV kvs vs->KV (fU kvs more) (merged vs rs):=by
 intro more rs kvs vs r;unfold KV at r
 induction r generalizing kvs vs with
 | nil=>intro q;exact q
 | @cons p q ps qs h t ih=>
  intro r0;have e:KV (eJ kvs p.1 p.2) (stored vs q.1 q.2):=by have:=r0.put p.1 h.2;rw[<- h.1];exact this
  exact ih e
theorem fG:∀(more kvs:PP (Key×V)),(fU kvs more).length<=kvs.length+more.length
 | [],kvs=>by change kvs.length<=kvs.length+0;omega
 | p :: r,kvs=>by have h1:=fG r (eJ kvs p.1 p.2);have h2:=gW kvs p.1 p.2;change(fU (eJ kvs p.1 p.2) r).length<=_;rw[J0];omega
theorem iX{P:F7}{w:F9}:∀{kvs:PP (Key×V)}{ws:PP (G0×G0)},VV (kvs.map λ kv=>(kV kv.1,kv.2)) ws->∃rs,Carries (bK P w) ws rs/\KV kvs rs
 | [],_,r=>by rw[O1]at r;cases r;exact%[[],True.intro|.nil]
 | p :: kvs,_,r=>by
  rw[J3]at r;cases r with
  | @cons a b as bs h t=>
   obtain⟨rs,c,q⟩:=iX (P:=P) (w:=w) t;obtain⟨b1,b2⟩:=b;exact%[(p.1,b2) :: rs,%[lY h.1,O|c]|.cons %[O|h.2] q]
def Bh(trs:PP (TE×TE)):TE:=λ σ H Q=>∀p,H p=none->nO trs σ (upd H p (.dK [])) λ ps H2=>H2 p=some (.dK [])/\∃kvs:PP (Key×V),ps=kvs.map (λ kv=>(kV kv.1,kv.2))/\kvs.length<=15/\Q (.ref p) (upd H2 p (.dK (fU [] kvs)))
theorem wZ{X:Cx}{pos:Pos}{keys:PP (PM Expr)}{values:PP Expr}{trs:PP (TE×TE)}(h:PPs X pos keys values trs)(hall:keys.all (·.isSome)=true)(hl:keys.length=values.length)(h0:keys≠[])
  (h15:keys.length<=15):PE X (.Dict keys values pos) (Bh trs):=by
 intro PR s σ H Q I q;have hn:=I.hok.fresh (B3 s.heap.objs.size);have I1:=I.laid (a:=s.heap.objs.size) (o:=.dK []) (h':=s.heap.push { cls:=.type "dict",data:=.dict #[] }) (t':=s.toks) (λ _ _ q=>A7 _ q) (B3 _) (me s.heap I.big);show wpAny_Dict_walk (knd:=bK X.prog X.w) hall hl h0 h15 (thn (h PR _ σ _ _ I1 (q _ hn)) ?_);rintro ws s2 ⟨ps,H2,I2,rel,e,kvs,ep,lk,q2⟩;subst ep;obtain⟨rs,c,rk⟩:=iX (P:=X.prog) (w:=X.w) rel;obtain⟨z,hd,vs0,r0,dd⟩:=uA I2.hok e;cases r0;show%[rs,c,dd|λ h' dd' hs=>%[.ref s.heap.objs.size,_,?_,O|q2]];have hz:(fU [] kvs).length<=sizeLine:=by have h1:=fG kvs [];rw[List.length_nil]at h1;rw[sizeLine_eq];omega
 have he:∃q,h'.get? s.heap.objs.size=some q:=let ⟨q,_,_,hq,_⟩:=dd';%[q|hq]
 exact kT I2 (by rw[e];exact True.intro) hs he (kU hz hd (rk.merge .nil) dd')
structure M1(X:Cx)(o:Expr)(m:Str)(apos:Pos)(e:Expr)(cpos:Pos):Prop where
 base:attributeBase o m X.env (eval o X.env)=eval o X.env
 few:((backTo cpos (starEach [e] X.env)).all (λ x=>!x.1) && (backToKw cpos (keywordEach [] X.env)).all (λ x=>x.1.isSome)
  && decide (([e]:PP Expr).length+([]:PP Keyword).length+(if ([]:PP Keyword).isEmpty then 0 else 1) < 30))=true
 line:(apos.endLine == cpos.line)=true
 trees:backTo cpos (starEach [e] X.env)=[(false,eval e X.env)]
def IsD(H:Hp)(a:PK):Prop:=(∃kvs,Rd H a (.dK kvs))\/False
theorem zv{X:Cx}{PR:RC}{σ:St}{H:Hp}{s:F6}{a:PK}(I:Inv X PR σ H s)(d:IsD H a) :
  s.TypeIs (.ref a) "dict" /\ (∀b,Value.ref a=.ref b->∃ob,s.heap.get? b=some ob/\ob.dict=none)/\(a == sysModules)=false:=by
 rcases d with⟨kvs,e⟩ | hF
 ·obtain⟨_,hd,vs,_,dd⟩:=iW I.hok e;show%[dd.typeIs,λ b q=>?_|hd];cases q;obtain⟨ob,_,_,h1,h2,_⟩:=dd;exact%[ob,h1|h2.2.1]
 ·exact hF.elim
def zw(td ty:TE):TE:=λ σ H Q=>td σ H λ x H1=>∃a,x=.ref a/\IsD H1 a/\ty σ H1 λ y H2=>∃kvs k v,H2 a=some (.dK kvs)/\y=kV k/\dJ kvs k=some v/\Q v (upd H2 a (.dK (iV kvs k)))
section
variable{X:Cx}{o e f:Expr}{apos cpos:Pos}{td ty tx:TE}
theorem uC(ho:PE X o td)(he:PE X e ty)(m:M1 X o "pop" apos e cpos):PE X (.Call (.Attribute o "pop" apos) [e] [] cpos) (zw td ty):=by intro PR s σ H Q I h;show wpAny_Call_method m.base m.few m.line PySem.F.plainAttrs_dict PySem.F.slot_dict_pop PySem.F.type_dict_pop (thn (ho PR s σ H _ I h) ?_);rintro u s1 ⟨x,H1,I1,rx,a,ex,d,q1⟩;subst ex;obtain rfl:u=Value.ref a:=rx;obtain⟨t1,t2,_⟩:=zv I1 d;show%[t1,t2|?_];rw[m.trees];show Calls.callWith_builtin rfl (Calls.evalArgs_plain (Calls.spliced_cons (thn (he PR s1 σ H1 _ I1 q1) λ iv s2 %[y,H2,I2,ry,kvs,k,v,ea,ey,l|q2]=>Calls.spliced_nil ?_)));subst ey;exact Bd I2 ea ry l (.inl rfl) λ w' s3 I3 rw'=>%[v,_,I3,rw'|q2]
end
section
variable{X:Cx}{PR:RC}{σ:St}{H:Hp}{s:F6}{a:PK}{kvs:PP (Key×V)}{A:Around}{E:G0->F6->Prop}
theorem uD{Q:G0->F6->Prop}(I:Inv X PR σ H s)(e:Rd H a (.dK kvs))(h:∀p s',H p=none->Inv X PR σ (upd H p (.dK kvs)) s'->Q (.ref p) s'):wpAny (model X.prog X.w) A (call (.type "dict") [.ref a]) Q E s:=by obtain⟨z,hd,vs,rel,dd⟩:=iW I.hok e;show kt_call_dict hd dd (by rw[<- rel.length];exact z) λ h' dd' hs=>?_;show h _ _ (I.hok.fresh (B3 _)) (I.laid (a:=s.heap.objs.size) (o:=.dK kvs) (t':=s.toks) (λ b q hq=>?_) (B3 _) (kU z (Pp.mpr (Ne.symm (B9 I.big))) rel dd'));exact(hs.2 b (B9 (A9 hq))).trans (A7 _ hq)
end
theorem nP{X:Cx}(K:C5){x y:Str}{px py pos:Pos}{k:Nat}(hK:X.K=K)(hc:X.calm=true)(hN:X.N.Nodup)(h0:X.N[0]?=some x)(h1:X.N[1]?=some y)(l0:X.env.scope.names.lookup x=some .local)(l1:X.env.scope.names.lookup y=some .local) :
  PG X (.Tuple [.Name x px,.Name y py] k pos) (gTup K 2 (gCons (cB 0) (gCons (cB 1) mV))) :=
 hK ▸ bf hc (ah (ai hN h0 (.inl l0) (.inr l0)) (ah (ai hN h1 (.inl l1) (.inr l1)) aQ))
theorem mj{X:Cx}(K:C5){x y z:Str}{px py pz pos:Pos}{k:Nat}(hK:X.K=K)(hc:X.calm=true)(hN:X.N.Nodup)(h0:X.N[0]?=some x)(h1:X.N[1]?=some y)(h2:X.N[2]?=some z)(l0:X.env.scope.names.lookup x=some .local)(l1:X.env.scope.names.lookup y=some .local)(l2:X.env.scope.names.lookup z=some .local) :
  PG X (.Tuple [.Name x px,.Name y py,.Name z pz] k pos) (gTup K 3 (gCons (cB 0) (gCons (cB 1) (gCons (cB 2) mV)))) :=
 hK ▸ bf hc (ah (ai hN h0 (.inl l0) (.inr l0)) (ah (ai hN h1 (.inl l1) (.inr l1)) (ah (ai hN h2 (.inl l2) (.inr l2)) aQ)))
end L2
namespace PySem
def SqA:Bool->Heap->PK->PN G0->Prop
 | true,h,l,xs=>h.IsTuple l xs
 | false,h,l,xs=>h.IsList l xs
def ItA:Bool->Heap->PK->PK->Nat->Prop
 | true,h,a,l,k=>h.IsTupleIter a l k
 | false,h,a,l,k=>h.IsListIter a l k
abbrev uE(h:Heap)(T:PK)(vs:PP G0):Prop:=h.get? T=some { cls:=.type "tuple",data:=.seq vs.toArray }
theorem SqA.at{b:Bool}{h h':Heap}{l:PK}{xs:PN G0}(x:SqA b h l xs)(e:∀o,h.get? l=some o->h'.get? l=some o):SqA b h' l xs:=by cases b <;> (obtain⟨o,ho,r⟩:=x;exact%[o,e _ ho|r])
theorem ItA.at{b:Bool}{h h':Heap}{a l:PK}{k:Nat}(x:ItA b h a l k)(e:∀o,h.get? a=some o->h'.get? a=some o):ItA b h' a l k:=by cases b <;> (obtain⟨o,ho,r⟩:=x;exact%[o,e _ ho|r])
theorem ItA.obj{b:Bool}{h:Heap}{a l:PK}{k:Nat}(x:ItA b h a l k):∃o,h.get? a=some o/\∀v,o.data≠.cell v:=by cases b <;> (obtain⟨o,ho,_,d⟩:=x;exact%[o,ho|λ v q=>by rw[d]at q;cases q])
abbrev fpZ(z TI TO:PK)(its:PP (Bool×PK×PK)):PP PK:=z :: TI :: TO :: its.map (·.2.1)
def StZ(f:G0)(z TI TO:PK)(its:PP (Bool×PK×PK))(i:Nat)(h:Heap):Prop :=
 IsZip h z TI TO f/\uE h TI (its.map λ p=>.ref p.2.1)/\(∃os,os.length=its.length/\uE h TO os)/\∀p∈its,ItA p.1 h p.2.1 p.2.2 i
section
variable{prog:F7}{w:F9}{A:Around}{E:G0->F6->Prop}{s:F6}
theorem uF{α:Type}{vs os:PP α}{n:Nat}{y:α}(hy:vs[n]?=some y)(ho:n < os.length):(vs.take n ++ os.drop n).set n y=vs.take (n+1) ++ os.drop (n+1):=by
 have h:=(A6.mp hy).1;have hl:(vs.take n).length=n:=by simp;omega
 rw[List.drop_eq_getElem_cons ho,List.set_append_right _ _ ⋯,hl,Nat.sub_self,List.set_cons_zero,List.take_succ,hy];simp
theorem qy{b:Bool}{it l:PK}{i:Nat}{items}{Q:G0->F6->Prop}(hh:A.handled=none)(hit:ItA b s.heap it l i)(hl:SqA b s.heap l items)
  (hQ:∀x,items[i]?=some x->∀h',ItA b h' it l (i+1)->Heap.SameBut it s.heap h'->Q x { s with heap:=h' }) (hE:items[i]?=none->∀h' e,Heap.ExtBut it s.heap h'->(∃o,h'.get? e=some o/\o.cls=.type "StopIteration")->E (.ref e) { s with heap:=h' }) :
  wpAny (model prog w) A (Builtin.SmallTypes.nextOf (.ref it)) Q E s:=by
 cases hx:items[i]? with
 | none=>cases b;exact wpAny_nextOf_list_end hh hit hl hx (hE hx);exact iR hh hit hl hx (hE hx)
 | some x=>cases b;exact wpAny_nextOf_list_item hit hl hx (hQ x hx);exact hV hit hl hx (hQ x hx)
theorem gX{z TI TO:PK}{its:PP (Bool×PK×PK)}{k:Nat}{vs:PP G0}{Q:PM G0->F6->Prop}(hh:A.handled=none)(nd:(fpZ z TI TO its).Nodup)(n0:its≠[])(hl:its.length<=9)(st:StZ .none z TI TO its k s.heap)(ha:∀p∈its,p.2.2∉fpZ z TI TO its)(hvl:vs.length<=its.length)
  (hv:∀ (j:Nat) p,its[j]?=some p->∃xs,SqA p.1 s.heap p.2.2 xs/\(j<=vs.length->xs[k]?=vs[j]?))
  (hQ:vs.length=its.length->∀h',StZ (rawInt s.heap.objs.size) z TI TO its (k+1) h'->uE h' s.heap.objs.size vs->(∀c o,c∉fpZ z TI TO its->s.heap.get? c=some o->h'.get? c=some o)->Q (↑s.heap.objs.size) { s with heap:=h' })
  (hE:vs.length < its.length->∀h',(∀c o,c∉fpZ z TI TO its->s.heap.get? c=some o->h'.get? c=some o)->Q none { s with heap:=h' }):wpAny (model prog w) A (pyNext (.ref z)) Q E s:=by
 obtain⟨hz,hTI,⟨os,ho,hTO⟩,hi⟩:=st;have hT:s.TypeIs (.ref z) "zip" := %[_,hz|O]
 unfold pyNext;show A0 (wpAny_attempt (wpAny_callSpecial?_slot (name:=Str.ofString "__next__") hT F.slot_zip_next
  (F3 F.slot_zip_next hT F.entry_zip_next ?_ (F.args_zip_next_1 _))))
 change wpAny _ _ (field (.ref z) 2 >>= _) _ _ _;show A0 (P0 hz rfl (x:=.bool false) rfl ?_);change wpAny _ _ (field (.ref z) 3 >>= _) _ _ _;show A0 (P0 hz rfl (x:=.ref TI) rfl ?_);show A0 (wpAny_seqItems hTI rfl ?_);have em:(its.map λ p=>Value.ref p.2.1).toArray.isEmpty=false:=by cases its with | nil=>exact absurd rfl n0 | cons a t=>simp
 dsimp only;rw[em];change wpAny _ _ (Builtin.SmallTypes.ownedTupleIsFree (.ref z) >>= _) _ _ _;show A0 ?_;unfold Builtin.SmallTypes.ownedTupleIsFree;show A0 (P0 hz rfl (x:=.none) rfl (A2 ?_));simp only[P4];show A0 (P8 ?_);show A0 (P0 hz rfl (x:=.ref TO) rfl ?_);show A0 (wpAny_setField_rec hz (by simp) λ h₁ hz₁ hs₁=>?_)
 replace hz₁:IsZip h₁ z TI TO .ellipsis:=hz₁
 simp only[K8,G7,P9]at nd;obtain⟨⟨n1,n2,n3⟩,⟨n4,n5⟩,n6,n7⟩:=nd;show A0 (wpAny_forIn_list _ (λ rest b s'=>b.1=none/\∃n h',rest=((its.map λ p=>Value.ref p.2.1).zipIdx).drop n/\n<=vs.length/\s'={ s with heap:=h' }/\IsZip h' z TI TO .ellipsis/\uE h' TO (vs.take n ++ os.drop n)/\(∀ (j:Nat) p,its[j]?=some p->ItA p.1 h' p.2.1 p.2.2 (if j < n then k+1 else k))/\h'.objs.size=s.heap.objs.size/\∀c o,c≠z->c≠TO->c∉its.map (·.2.1)->s.heap.get? c=some o->h'.get? c=some o) _ ?_ ?_ _ _ ?_)
 ·rintro x rest b s' ⟨hb,n,h',hr,hn,rfl,hz',hTO',hi',hsz,hk⟩;obtain⟨b1,b2⟩:=b;cases(show b1=none from hb);have hnl:n < its.length:=by
   rcases PH n its.length with h | h
   ·exact h
   ·rw[List.drop_of_length_le (by simpa using h)]at hr;cases hr
  have hp:its[n]?=some its[n]:=by simp[hnl]
  generalize its[n]=p at hp;have hm:p∈its:=B5 hp;have hx:x=(Value.ref p.2.1,n)/\rest=((its.map λ p=>Value.ref p.2.1).zipIdx).drop (n+1):=by
   have e:((its.map λ p=>Value.ref p.2.1).zipIdx)[n]?=some (Value.ref p.2.1,n):=by simp[hp]
   rw[List.drop_eq_getElem_cons (by simpa using hnl)]at hr;cases hr;exact%[by simpa[F1 (show n < ((its.map λ p=>Value.ref p.2.1).zipIdx).length by simpa using hnl)]using e|O]
  obtain⟨rfl,rfl⟩:=hx;obtain⟨xs,sq,ex⟩:=hv n p hp;have A1:=ha p hm;simp only[G7,P9]at A1;have sq':SqA p.1 h' p.2.2 xs:=sq.at λ o e=>hk _ o A1.1 A1.2.2.1 A1.2.2.2 e;have it':=hi' n p hp;rw[PZ (E1 n)]at it';have mi:p.2.1∈its.map (·.2.1):=N5 hm;have iz:p.2.1≠z:=λ e=>n3 (e ▸ mi);have iT:p.2.1≠TO:=λ e=>n6 (e ▸ mi);have ne:∀ (j:Nat) q,its[j]?=some q->j≠n->q.2.1≠p.2.1:=λ j q hj h e=>h ((List.getElem?_inj (by have:=(A6.mp hj).1;simpa using this) n7).mp (by simp[hj,hp,e]));dsimp only;show A0 (wpAny_onRaise ?_);change wpAny _ _ (Builtin.SmallTypes.nextOf (.ref p.2.1) >>= _) _ _ _;show A0 (qy hh it' sq' (λ y hy h₂ i₂ hs₂=>A2 ?_) λ hy h₂ e hs₂ he=>?_)
  ·have hnv:n < vs.length:=by
    rcases PH n vs.length with h | h
    ·exact h
    ·rw[ex hn,C9 h]at hy;cases hy
   rw[ex hn]at hy;have hTO₂:=hs₂.extBut _ _ (Ne.symm iT) hTO';show A0 (wpAny_seqItems hTO₂ rfl ?_);show A0 (wpAny_updateSeq hTO₂ rfl ?_ ?_ ?_)
   ·show A0 (wpAny_letGo (A2 ?_));have hs₃:=P6 h₂ TO (Obj.mapSeq λ x=>x.setIfInBounds n y);show%[O,n+1,_,O,hnv,O,hs₃.extBut _ _ n2 (hs₂.extBut _ _ (Ne.symm iz) hz'),?_,λ j q hj=>?_,by rw[hs₃.1,hs₂.1,hsz]|λ c o c1 c2 c3 e=>hs₃.extBut _ _ c2 (hs₂.extBut _ _ (λ e'=>c3 (e' ▸ mi)) (hk c o c1 c2 c3 e))]
    ·change Heap.get? _ _=_;rw[Heap.get?_update_self _ hTO₂ rfl,<- uF hy ⋯];simp[Obj.mapSeq]
    ·have qT:q.2.1≠TO:=λ e=>n6 (e ▸ N5 (B5 hj));rcases Nat.lt_trichotomy j n with h | h | h
     ·have:=hi' j q hj;rw[Pa h]at this;rw[Pa ⋯];exact this.at λ o e=>hs₃.extBut _ _ qT (hs₂.extBut _ _ (ne j q hj ⋯) e)
     ·subst h;rw[hp]at hj;cases hj;rw[Pa (F0 _)];exact i₂.at λ o e=>hs₃.extBut _ _ qT e
     ·have:=hi' j q hj;rw[PZ ⋯]at this;rw[PZ ⋯];exact this.at λ o e=>hs₃.extBut _ _ qT (hs₂.extBut _ _ (ne j q hj ⋯) e)
   ·exact C6 (by simp;omega) (show 9<=sizeLine by decide)
   ·exact C6 (by simp;omega) (show 9<=sizeLine+1 by decide)
  ·have hnv:vs.length<=n:=by rw[ex hn]at hy;exact List.getElem?_eq_none_iff.mp hy
   obtain⟨oe,hoe,hce⟩:=he;have hz₂:=hs₂ _ _ (Ne.symm iz) hz';have hez:e≠z:=λ x=>by subst x;rw[hz₂]at hoe;cases hoe;simp at hce
   show wpAny_setField_rec hz₂ (by simp) λ h₃ _ hs₃=>A0 (wpAny_isInstance (T := "StopIteration") (b:=true) %[oe,hs₃.extBut _ _ hez hoe|hce] isSubtype_stop (A2 (hE ⋯ h₃ λ c o hc q=>?_)));simp only[G7,P9]at hc;exact hs₃.extBut _ _ hc.1 (hs₂ _ _ (λ e'=>hc.2.2.2 (e' ▸ mi)) (hk c o hc.1 hc.2.2.1 hc.2.2.2 q))
 ·rintro⟨b1,b2⟩ s' ⟨hb,n,h',hr,hn,rfl,hz',hTO',hi',hsz,hk⟩;cases(show b1=none from hb);have hnl:its.length<=n:=by
   rcases PH n its.length with h | h
   ·have:=Pw List.length hr;simp at this;omega
   ·exact h
  have e1:vs.take n ++ os.drop n=vs:=by rw[List.drop_of_length_le ⋯,M7 ⋯,K0]
  rw[e1]at hTO';show A0 (wpAny_seqItems hTO' rfl ?_);show A0 (wpAny_newTuple ?_ (C6 (by simp;omega) (show 9<=sizeLine by decide)));have hzl:z < h'.objs.size:=A9 hz';change wpAny _ _ (Builtin.SmallTypes.ownedTupleHandOut (.ref z) (.ref h'.objs.size) >>= _) _ _ _;show A0 ?_;unfold Builtin.SmallTypes.ownedTupleHandOut;show A0 (wpAny_setField_rec (A7 _ hz') (by simp) λ h₇ hz₇ hs₇=>?_);show wpAny_setField_rec hz₇ (by simp) λ h₈ hz₈ hs₈=>?_
  replace hz₈:IsZip h₈ z TI TO (rawInt h'.objs.size):=hz₈
  have up:∀c o,c≠z->h'.get? c=some o->h₈.get? c=some o:=λ c o c1 e=>hs₈.extBut _ _ c1 (hs₇.extBut _ _ c1 (A7 _ e));have hT₈:uE h₈ h'.objs.size vs:=hs₈.extBut _ _ (N2 hzl) (hs₇.extBut _ _ (N2 hzl) (A8 _ rfl));show A2 %[_,rfl|?_];show A2 ?_;rw[hsz]at hz₈ hT₈ ⊢;show hQ ⋯ h₈ %[hz₈,up _ _ (Ne.symm n1) (hk _ _ (Ne.symm n1) n4 n5 hTI),%[vs,⋯|up _ _ (Ne.symm n2) hTO']|λ p hp=>?_] hT₈ λ c o hc e=>?_
  ·obtain⟨j,hj⟩:=List.getElem?_of_mem hp;have:=hi' j p hj;rw[Pa (by have:=(A6.mp hj).1;omega)]at this;exact this.at λ o e=>up _ o (λ e'=>n3 (e' ▸ N5 hp)) e
  ·simp only[G7,P9]at hc;exact up c o hc.1 (hk c o hc.1 hc.2.2.1 hc.2.2.2 e)
 ·exact%[O,0,h₁,O,E8 _,O,hz₁,hs₁.extBut _ _ (Ne.symm n2) hTO,λ j p e=>by rw[PZ (E9 _)];exact(hi p (B5 e)).at λ o q=>hs₁.extBut _ _ (λ e'=>n3 (e' ▸ N5 (B5 e))) q,hs₁.1|λ c o c1 _ _ e=>hs₁.extBut _ _ c1 e]
end
end PySem
namespace L2
open PySem PySem.Spec PyProof.Rows
def sqO:Bool->PP V->HO
 | true,xs=>.tup xs
 | false,xs=>.lst xs
def sqE(b c:Bool)(l1 l2:PK):It :=
  ⟨λ i H=>∃xs ys x y,H l1=some (sqO b xs)/\H l2=some (sqO c ys)/\xs[i]?=some x/\ys[i]?=some y,
   λ i H v H'=>∃p xs ys x y,H p=none/\v=.ref p/\H'=upd H p (.tup [x,y])/\H l1=some (sqO b xs)/\H l2=some (sqO c ys)/\xs[i]?=some x/\ys[i]?=some y,
   λ i H=>∃xs ys,H l1=some (sqO b xs)/\H l2=some (sqO c ys)/\(xs.length<=i\/ys.length<=i)⟩
theorem iY(val:Nat->Int):∀k,argBest (λ i j=>decide (val i < val j)) k<=k/\∀j,j<=k->val (argBest (λ i j=>decide (val i < val j)) k)<=val j
 | 0=>%[B3 _|λ j hj=>by rw[Nat.le_zero.mp hj];exact E5 _]
 | k+1=>by
  obtain⟨h1,h2⟩:=iY val k;unfold argBest
  by_cases c:val (k+1) < val (argBest (λ i j=>decide (val i < val j)) k)
  ·rw[Pa (PY c)];show%[B3 _|λ j hj=>?_];rcases PH k j with z | z
   ·rw[show j=k+1 by omega];exact E5 _
   ·have:=h2 j z;omega
  ·rw[PZ (λ z=>c (of_decide_eq_true z))];show%[⋯|λ j hj=>?_];rcases PH k j with z | z
   ·rw[show j=k+1 by omega];omega
   ·exact h2 j z
section
variable{M:Model}{A:Around}{E:G0->F6->Prop}{s:F6}{base:Heap}{env:Env}{outer:PP Env}{L e:PK}{cls a0:G0}{Q:Unit->F6->Prop}
theorem nQ(hfr:A.frames=some (env :: outer))(hf:env.frame=some L)(f:Heap.FlyingW base (env :: outer) e cls a0 s.heap)(q:Q2 e s.heap)
  (hQ:∀h',Heap.FlyingW base outer e cls a0 h'->s.heap.UpToSlots h'->Q2 e h'->Q () { s with heap:=h' }):wpAny M A (leaving env (.ref e)) Q E s :=
 wpAny_leaves_onW hfr hf f λ h' a b=>hQ h' a b trivial
end
section
variable{P:F7}{w:F9}{K:C5}{mg:Str->PM G0}{base:Heap}{N:PP Str}{qual:Str}{scope:Scope}{f:PK}{cd:G0}{A:Around}{outer:PP Env}{s₀:F6}{H₀:Hp}{E:XK}
theorem xf{PR:RC}{σ:St}{v:G0}{s1:F6}(hx:XP (fQ (CXx P w) P w K mg base N qual scope f cd A outer s₀ H₀ E) PR σ E v s1):(fQ (CXx P w) P w K mg base N qual scope f cd A outer s₀ H₀ E).xe v s1:=by
 obtain⟨ea,C,H0,H',B,s0,rfl,I0,fl,q⟩:=hx;obtain⟨a0,fw⟩:=fl.fly;have I0':=I0;change wpAny (model P w) (A.deeper (envOfC qual scope s₀.heap.objs.size f cd)) (leaving (envOfC qual scope s₀.heap.objs.size f cd) (.ref ea)) _ _ s1;show nQ I0.ok.frames rfl fw fl.ctx λ h' fw' sm q2=>%[ea,C,H',B,O,?_|q]
 have J:Inv (fQ (CXx P w) P w K mg base N qual scope f cd A outer s₀ H₀ E) PR σ H' { s1 with heap:=h' }:=fl.inv (t:=s1.toks) I0 fw'.1 sm;have newE:s₀.heap.get? ea=none:=by
  cases z:s₀.heap.get? ea with
  | none=>rfl
  | some o=>
   obtain⟨o',e1⟩:=I0.base.there ea o z (by change ea∉([]:PP PK);simp);have:=fl.new.1;rw[e1]at this;cases this
 show%[J.os,J.bare,J.base,J.hok,%[a0|fw'],q2,λ b o nb hh e=>?_|%[newE|fl.new.2]];have nbs:b∉frs (envOfC qual scope s₀.heap.objs.size f cd :: outer):=λ z=>by
  have z':b=s₀.heap.objs.size\/b∈frs outer:=by unfold frs at z ⊢;rw[K7]at z;exact G7.mp z
  rcases z' with z | z
  ·subst z;rcases hh with hh | ⟨o',hh⟩
   ·exact hh J.free
   ·exact absurd (A9 hh) (E1 _)
  ·exact nb z
 have key:∃o1,s1.heap.get? b=some o1/\(H' b≠none\/∃o',s0.heap.get? b=some o'):=by
  rcases hh with hh | ⟨o',hh⟩
  ·cases z:H' b with
   | none=>exact absurd z hh
   | some u=>
    obtain⟨ob,eb⟩:=(fl.hok b u z).ex;exact%[ob,eb|.inl (by rw[<- z]at *;exact hh)]
  ·obtain⟨o1,e1⟩:=I0.base.there b o' hh (by change b∉([]:PP PK);simp);obtain⟨o2,e2⟩:=fl.un.there b o1 e1 (by simp);exact%[o2,e2|.inr %[o1|e1]]
 obtain⟨o1,e1,hh'⟩:=key;have eB:=fl.cov b o1 nbs hh' e1;have:=fw'.1 b o1 eB;rw[e]at this;cases this;exact eB
end
end L2
namespace PyProof.Rows
set_option autoImplicit false
open PySem
structure SBaseT(κ0:SortKind)(a₀:PN PL)(st:SortSt):Prop where
 perm:(arrOf st).Perm a₀
 kind:kindOf st=κ0
 failed:failedOf st=none
 pend:pendingOf st=#[]
theorem SBaseT.size{κ0:SortKind}{a₀:PN PL}{st:SortSt}(h:SBaseT κ0 a₀ st):(arrOf st).size=a₀.size:=h.perm.size_eq
theorem SBaseT.setArr{κ0:SortKind}{a₀:PN PL}{st:SortSt}(h:SBaseT κ0 a₀ st){xs:PN PL}(hp:xs.Perm (arrOf st)):SBaseT κ0 a₀ (setArr st xs) :=
 %[hp.trans h.perm,h.kind,h.failed|h.pend]
theorem SBaseT.atK{κ:KeyKind}{κ0:SortKind}{a₀:PN PL}{st:SortSt}(h:SBaseT κ0 a₀ st)(h0:KeysOf κ a₀){i:Nat}(hi:i < a₀.size) :
  ∃x p a,(arrOf st)[i]?=some (x,p)/\κ.keyOf x=some a/\KK κ (arrOf st) i=a:=by
 have hi':i < (arrOf st).size:=by rw[h.size];exact hi
 have hm:(arrOf st)[i]∈a₀.toList:=(Array.perm_iff_toList_perm.mp h.perm).mem_iff.mp (by simp);obtain⟨a,ha⟩:=h0 _ hm;have e:(arrOf st)[i]?=some (arrOf st)[i]:=getElem?_pos _ i hi';show%[(arrOf st)[i].1,(arrOf st)[i].2,a,by rw[e],ha|?_];unfold KK;rw[e];simp[ha]
def cQ(prog:F7)(w:F9)(A:Around)(s:F6)(κ0:SortKind)(κ:KeyKind):Prop :=
 ∀(E:G0->F6->Prop)(x y:G0)(a b:κ.α)(Q:Bool->F6->Prop),κ.keyOf x=some a->κ.keyOf y=some b->Q (κ.blt a b) s->wpAny (model prog w) A (keyLt' κ0 x y) Q E s
section
variable{prog:F7}{w:F9}{A:Around}{E:G0->F6->Prop}{s:F6}{a₀:PN PL}{κ:KeyKind}{κ0:SortKind}
theorem nR(hO:cQ prog w A s κ0 κ){st:SortSt}{i j:Nat}{x y:G0}{a b:κ.α}{p q:G0}{Q:PM Bool->SortSt->Prop}(hk:kindOf st=κ0)
  (hi:(arrOf st)[i]?=some (x,p)) (hj:(arrOf st)[j]?=some (y,q)) (ha:κ.keyOf x=some a) (hb:κ.keyOf y=some b) (h:Q (some (κ.blt a b)) st) :
  wpS (model prog w) A E s (ltAt' i j) Q st:=by
 rw[ltAt'_eq];show A3 (wpS_get ?_);change wpS _ _ _ _ (do let x<-elem' (arrOf st) i;let y<-elem' (arrOf st) j;lt' x y) Q st;rw[elem'_eq,elem'_eq,hi,hj];show A3 (A4 (A3 (A4 ?_)));rw[lt'_eq];show A3 (wpS_get ?_);rw[hk];show A3 (wpS_lift (wpAny_attempt (hO _ x y a b _ ha hb %[rfl|?_])));exact A4 h
theorem dR{st:SortSt}{i j:Nat}{Q:PM Bool->SortSt->Prop}(hO:cQ prog w A s κ0 κ)(hB:SBaseT κ0 a₀ st)(h0:KeysOf κ a₀)(hi:i < a₀.size)(hj:j < a₀.size)
  (h:Q (some (κ.blt (KK κ (arrOf st) i) (KK κ (arrOf st) j))) st):wpS (model prog w) A E s (ltAt' i j) Q st:=by
 obtain⟨x,p,a,e1,ha,ka⟩:=hB.atK h0 hi;obtain⟨y,q,b,e2,hb,kb⟩:=hB.atK h0 hj;rw[ka,kb]at h;exact nR hO hB.kind e1 e2 ha hb h
theorem gM{st:SortSt}{n ok:Nat}{Q:Bool->SortSt->Prop}(hO:cQ prog w A s κ0 κ)(h0:KeysOf κ a₀)(hn:n<=a₀.size)(hok:ok<=n)(hB:SBaseT κ0 a₀ st)(hs:SortedToK κ (arrOf st) ok)
  (h:∀st',SBaseT κ0 a₀ st'->SortedToK κ (arrOf st') n->Q true st'):wpS (model prog w) A E s (binarySort' 0 n ok) Q st:=by
 rw[binarySort'_eq];simp only[Nat.zero_add];show A3 (wpS_mono (wpS_forRange (I:=λ k c st'=>c=(none,())/\SBaseT κ0 a₀ st'/\SortedToK κ (arrOf st') (min k n))
  (Q:=λ c st'=>c=(none,())/\SBaseT κ0 a₀ st'/\SortedToK κ (arrOf st') n) ?step ?fin ?init) ?post)
 case post=>
  rintro c st' ⟨rfl,hB',hs'⟩;exact A4 (h st' hB' hs')
 case init=>
  show%[O,hB|λ i j hij hj=>?_]
  by_cases h1:ok=0
  ·have:i=j:=⋯
   subst this;exact Ps _
  ·exact hs i j hij ⋯
 case fin=>
  rintro c st' ⟨hc,hB',hs'⟩;show%[hc,hB'|?_];rwa [show min (max (max ok 1) n) n=n by omega]at hs'
 case step=>
  rintro k c st' hak hkn ⟨rfl,hB',hs'⟩;rw[show min k n=k by omega]at hs';have hk:k < a₀.size:=⋯
  show A3 (wpS_mono (wpS_forRange (I:=λ x c st''=>st''=st'/\∃l r,c=(none,l,r)/\l<=r/\r<=k/\r - l<=k - x /\
    (∀i,i < l->κ.kle (KK κ (arrOf st') i) (KK κ (arrOf st') k))/\(∀i,r<=i->i < k->κ.klt (KK κ (arrOf st') k) (KK κ (arrOf st') i)))
   (Q:=λ c st''=>st''=st'/\∃l r,c=(none,l,r)/\l<=k /\
    (∀i,i < l->κ.kle (KK κ (arrOf st') i) (KK κ (arrOf st') k))/\(∀i,l<=i->i < k->κ.klt (KK κ (arrOf st') k) (KK κ (arrOf st') i))) ?istep ?ifin ?iinit) ?ipost)
  case iinit=>exact%[O,0,k,O,⋯,⋯,⋯,λ i hi=>⋯|λ i h1 h2=>⋯]
  case ifin=>
   rintro c st'' ⟨rfl,l,r,rfl,hlr,hrk,hm,hlo,hhi⟩;have:l=r:=⋯
   subst this;exact%[O,l,l,O,hrk,hlo|hhi]
  case istep=>
   rintro x c st'' _ hxk ⟨rfl,l,r,rfl,hlr,hrk,hm,hlo,hhi⟩;dsimp only
   by_cases hge:l≥r
   ·rw[Pa hge];have:l=r:=⋯
    subst this;exact A4 %[rfl,l,l,rfl,hrk,hlo|hhi]
   ·rw[PZ hge];show A3 (dR hO hB' h0 hk ⋯ ?_);cases hless:κ.blt (KK κ (arrOf st'') k) (KK κ (arrOf st'') ((l+r) / 2))
    case true=>
     simp only[P4];show A4 %[rfl,l,(l+r) / 2,rfl,⋯,⋯,⋯,hlo|λ i h1 h2=>?_];exact KeyOrd.klt_of_klt_of_kle hless (hs' _ _ h1 h2)
    case false=>
     simp only[J6,Pn];show A4 %[rfl,(l+r) / 2+1,r,rfl,⋯,⋯,⋯,λ i h1=>?_|hhi];exact KeyOrd.kle_trans (hs' i ((l+r) / 2) ⋯ ⋯) (show κ.kle _ _ from hless)
  case ipost=>
   rintro c st'' ⟨rfl,l,r,rfl,hlk,hlo,hhi⟩;change wpS _ _ _ _ (do moveDown' k l;pure (ForInStep.yield (none,()))) _ _;rw[moveDown'_eq];show A3 (wpS_modify (A4 %[rfl,hB'.setArr (bubble_perm _ _ _)|?_]));rw[show min (k+1) n=k+1 by omega];have hks:k < (arrOf st'').size:=by rw[hB'.size];exact hk
   intro i j hij hj;change κ.kle (KK κ (bubble (arrOf st'') k (k - l)) i) (KK κ (bubble (arrOf st'') k (k - l)) j);rw[KK_bubble hks ⋯,KK_bubble hks ⋯,show k - (k - l)=l by omega]
   repeat' split
   all_goals first
    | (exfalso;omega)
    | exact Ps _
    | exact hlo _ ⋯
    | exact KeyOrd.kle_of_klt (hhi _ ⋯ ⋯)
    | exact hs' _ _ ⋯ ⋯
theorem dL{st:SortSt}{a nrem:Nat}{Q:AscSt->SortSt->Prop}(hO:cQ prog w A s κ0 κ)(h0:KeysOf κ a₀)(hn:nrem<=a₀.size)(ha:1<=a)(han:a<=nrem)(hB:SBaseT κ0 a₀ st)
  (hs:SortedToK κ (arrOf st) a)
  (h:∀n,a<=n->n<=nrem->SortedToK κ (arrOf st) n->(n=nrem\/κ.klt (KK κ (arrOf st) n) (KK κ (arrOf st) (n - 1)))->Q (none,n) st) :
  wpS (model prog w) A E s (ascLoop a nrem) Q st:=by
 unfold ascLoop;show wpS_forRange (I:=λ x c st'=>st'=st/\c=(none,x)/\SortedToK κ (arrOf st) x) ?step ?fin %[rfl,rfl|hs]
 case fin=>
  rintro c st' ⟨rfl,rfl,hs'⟩;rw[show max a nrem=nrem by omega]at hs' ⊢;exact h nrem han (B3 _) hs' (.inl rfl)
 case step=>
  rintro x c st' hax hxn ⟨rfl,rfl,hs'⟩;dsimp only;show A3 (dR hO hB h0 ⋯ ⋯ ?_);cases hless:κ.blt (KK κ (arrOf st') x) (KK κ (arrOf st') (x - 1))
  case true=>
   simp only[P4];exact A4 (h x hax ⋯ hs' (.inr hless))
  case false=>
   simp only[J6,Pn];show A4 %[rfl,rfl|λ i j hij hj=>?_]
   by_cases hjx:j < x
   ·exact hs' i j hij hjx
   ·have hj':j=x:=⋯
    subst hj'
    by_cases hi':i=j
    ·subst hi';exact Ps _
    ·exact KeyOrd.kle_trans (hs' i (j - 1) ⋯ ⋯) hless
theorem gY{st:SortSt}{n nrem:Nat}{Q:PM Nat->SortSt->Prop}(hO:cQ prog w A s κ0 κ)(h0:KeysOf κ a₀)(hn:nrem<=a₀.size)(h1:1<=n)(hnn:n<=nrem)(hB:SBaseT κ0 a₀ st)
  (hs:NonIncK κ (arrOf st) n) (h:∀m st',SBaseT κ0 a₀ st'->1<=m->m<=nrem->SortedToK κ (arrOf st') m->Q (some m) st') :
  wpS (model prog w) A E s (tail3 n nrem) Q st:=by
 unfold tail3;have hsz:n<=(arrOf st).size:=by rw[hB.size];omega
 show A3 (wpS_reverse ?_);have hB':SBaseT κ0 a₀ (setArr st (mirror (arrOf st) 0 n ((n - 0) / 2))):=hB.setArr (mirror_perm _ _ _ _);show A3 (dL hO h0 hn h1 hnn hB' ?_ λ m hm1 hm2 hsm _=>A4 (h m _ hB' ⋯ hm2 hsm));intro i j hij hj;change κ.kle (KK κ (mirror (arrOf st) 0 n ((n - 0) / 2)) i) (KK κ (mirror (arrOf st) 0 n ((n - 0) / 2)) j);rw[KK_mirror hsz,KK_mirror hsz,Pa ⋯,Pa ⋯];exact hs _ _ ⋯ ⋯
theorem iZ{st:SortSt}{n nrem:Nat}{Q:DescSt->SortSt->Prop}(hO:cQ prog w A s κ0 κ)(h0:KeysOf κ a₀)(hn:nrem<=a₀.size)(h1:1<=n)(hnn:n<=nrem)(hB:SBaseT κ0 a₀ st)
  (hs:NonIncK κ (arrOf st) n)
  (h:∀m neq st',SBaseT κ0 a₀ st'->n<=m->m<=nrem->NonIncK κ (arrOf st') m->neq+1<=m->(∀i,m - (neq+1)<=i->i < m->KK κ (arrOf st') i=KK κ (arrOf st') (m - 1))->Q (none,m,neq) st') :
  wpS (model prog w) A E s (descLoop n nrem) Q st:=by
 unfold descLoop;show wpS_forRange (I:=λ x c st'=>∃neq,c=(none,x,neq)/\SBaseT κ0 a₀ st'/\NonIncK κ (arrOf st') x/\neq+1<=x /\
   (∀i,x - (neq+1)<=i->i < x->KK κ (arrOf st') i=KK κ (arrOf st') (x - 1))) ?step ?fin %[0,rfl,hB,hs,⋯|λ i h1 h2=>by congr 1;omega]
 case fin=>
  rintro c st' ⟨neq,rfl,hB',hs',hq,he⟩;rw[show max n nrem=nrem by omega]at hs' hq he ⊢;exact h nrem neq st' hB' hnn (B3 _) hs' hq he
 case step=>
  rintro x c st' hax hxn ⟨neq,rfl,hB',hs',hq,he⟩;dsimp only;have hsz:x<=(arrOf st').size:=by rw[hB'.size];omega
  show A3 (dR hO hB' h0 ⋯ ⋯ ?_);cases hless:κ.blt (KK κ (arrOf st') x) (KK κ (arrOf st') (x - 1))
  case true=>
   simp only[P4];have step1:∀xs:PN PL,(∀k,KK κ xs k=KK κ (arrOf st') k)->NonIncK κ xs (x+1):=by
    intro xs hk i j hij hj;rw[hk,hk]
    by_cases hjx:j < x
    ·exact hs' i j hij hjx
    ·have hj':j=x:=⋯
     subst hj'
     by_cases hi':i=j
     ·subst hi';exact Ps _
     ·exact KeyOrd.kle_trans (KeyOrd.kle_of_klt hless) (hs' i (j - 1) ⋯ ⋯)
   by_cases hneq:neq > 0
   ·rw[Pa hneq];show A3 (wpS_reverse (A4 %[0,rfl,hB'.setArr (mirror_perm _ _ _ _),step1 _ (KK_mirror_equal hsz he),⋯|λ i h1 h2=>by congr 1;omega]))
   ·rw[PZ hneq];exact A4 %[0,rfl,hB',step1 _ (λ _=>rfl),⋯|λ i h1 h2=>by congr 1;omega]
  case false=>
   simp only[J6,Pn];show A3 (dR hO hB' h0 ⋯ ⋯ ?_);cases hlarger:κ.blt (KK κ (arrOf st') (x - 1)) (KK κ (arrOf st') x)
   case true=>
    simp only[P4];exact A4 (h x neq st' hB' hax ⋯ hs' hq he)
   case false=>
    simp only[J6,Pn];have heqx:KK κ (arrOf st') x=KK κ (arrOf st') (x - 1):=KeyOrd.kle_antisymm hlarger hless;show A4 %[neq+1,rfl,hB',λ i j hij hj=>?_,⋯|λ i h1 h2=>?_]
    ·by_cases hjx:j < x
     ·exact hs' i j hij hjx
     ·have hj':j=x:=⋯
      subst hj'
      by_cases hi':i=j
      ·subst hi';exact Ps _
      ·rw[heqx];exact hs' i (j - 1) ⋯ ⋯
    ·rw[show x+1 - 1=x by omega]
     by_cases hix:i=x
     ·subst hix;rfl
     ·rw[heqx];exact he i ⋯ ⋯
theorem eX{st:SortSt}{n nrem:Nat}{Q:PM Nat->SortSt->Prop}(hO:cQ prog w A s κ0 κ)(h0:KeysOf κ a₀)(hn:nrem<=a₀.size)(hnn:n+1<=nrem)(hB:SBaseT κ0 a₀ st)
  (hs:NonIncK κ (arrOf st) (n+1)) (h:∀m st',SBaseT κ0 a₀ st'->1<=m->m<=nrem->SortedToK κ (arrOf st') m->Q (some m) st') :
  wpS (model prog w) A E s (descPart n nrem) Q st:=by
 unfold descPart;show A3 (wpS_lift (P8 %[rfl|?_]));show A3 (iZ hO h0 hn ⋯ hnn hB hs λ m neq st' hB' hm1 hm2 hs' hq he=>?_);dsimp only;have hsz:m<=(arrOf st').size:=by rw[hB'.size];omega
 by_cases hneq:neq > 0
 ·rw[Pa hneq];show A3 (wpS_reverse (gY hO h0 hn ⋯ hm2 (hB'.setArr (mirror_perm _ _ _ _)) ?_ h));intro i j hij hj;change κ.kle (KK κ (mirror (arrOf st') _ _ _) j) (KK κ (mirror (arrOf st') _ _ _) i);rw[KK_mirror_equal hsz he,KK_mirror_equal hsz he];exact hs' i j hij hj
 ·rw[PZ hneq];exact gY hO h0 hn ⋯ hm2 hB' hs' h
theorem ja{st:SortSt}{nrem:Nat}{Q:PM Nat->SortSt->Prop}(hO:cQ prog w A s κ0 κ)(h0:KeysOf κ a₀)(hn:nrem<=a₀.size)(h1:1<=nrem)(hB:SBaseT κ0 a₀ st)
  (h:∀m st',SBaseT κ0 a₀ st'->1<=m->m<=nrem->SortedToK κ (arrOf st') m->Q (some m) st') :
  wpS (model prog w) A E s (countRun' 0 nrem) Q st:=by
 rw[countRun0_eq];show A3 (dL hO h0 hn (B3 1) h1 hB (λ i j hij hj=>by have:i=j:=⋯;subst this;exact Ps _) λ n hn1 hn2 hsn hor=>?_);dsimp only
 by_cases hnn:n=nrem
 ·rw[Pa (by simpa using hnn)];exact A4 (h n st hB hn1 hn2 hsn)
 ·rw[PZ (by simpa using hnn)];have hlt:κ.klt (KK κ (arrOf st) n) (KK κ (arrOf st) (n - 1)):=hor.resolve_left hnn
  by_cases hgt:n > 1
  ·rw[Pa hgt];show A3 (dR hO hB h0 ⋯ ⋯ ?_);cases hrose:κ.blt (KK κ (arrOf st) 0) (KK κ (arrOf st) (n - 1))
   case true=>
    simp only[P4];exact A4 (h n st hB hn1 hn2 hsn)
   case false=>
    simp only[J6,Pn];have hsz:n<=(arrOf st).size:=by rw[hB.size];omega
    have hall:∀k,0<=k->k < n->KK κ (arrOf st) k=KK κ (arrOf st) (n - 1):=by intro k _ hk;have a1:=hsn 0 k ⋯ hk;have a2:=hsn k (n - 1) ⋯ ⋯;exact KeyOrd.kle_antisymm a2 (KeyOrd.kle_trans hrose a1)
    show A3 (wpS_reverse (eX hO h0 hn ⋯ (hB.setArr (mirror_perm _ _ _ _)) ?_ h));intro i j hij hj;change κ.kle (KK κ (mirror (arrOf st) _ _ _) j) (KK κ (mirror (arrOf st) _ _ _) i);rw[KK_mirror_equal hsz hall,KK_mirror_equal hsz hall]
    by_cases hjn:j < n
    ·rw[hall i ⋯ ⋯,hall j ⋯ hjn];exact Ps _
    ·have hj':j=n:=⋯
     subst hj'
     by_cases hi':i=j
     ·subst hi';exact Ps _
     ·rw[hall i ⋯ ⋯];exact KeyOrd.kle_of_klt hlt
  ·rw[PZ hgt];have hn1':n=1:=⋯
   subst hn1';show eX hO h0 hn ⋯ hB ?_ h;intro i j hij hj
   by_cases hi':i=j
   ·subst hi';exact Ps _
   ·have hi0:i=0:=⋯
    have hj1:j=1:=⋯
    subst hi0;subst hj1;exact KeyOrd.kle_of_klt hlt
theorem SBaseT.doneK{st:SortSt}(hB:SBaseT κ0 a₀ st)(hs:SortedToK κ (arrOf st) a₀.size):SDoneK κ a₀ (setPending st ((pendingOf st).push (0,a₀.size,0))) :=
 %[hB.perm,hB.failed,by change(pendingOf st).push _=_;rw[hB.pend];rfl|hs]
theorem jb{st:SortSt}{Q:Unit->SortSt->Prop}(hO:cQ prog w A s κ0 κ)(h0:KeysOf κ a₀)(hB:SBaseT κ0 a₀ st)(h2:2<=a₀.size)(h64:a₀.size < 64\/SortedToK κ (arrOf st) a₀.size)
  (h:∀st',(arrOf st').Perm a₀->failedOf st'=none->SortedToK κ (arrOf st') a₀.size->Q () st'):wpS (model prog w) A E s sortRuns' Q st:=by
 rw[sortRuns'_eq];show A3 (wpS_get ?_);dsimp only;simp only[hB.size];generalize hmr:minRun' a₀.size a₀.size 0=mr;have cr:∀{Q:PM Nat->SortSt->Prop},(∀m st',SBaseT κ0 a₀ st'->m<=a₀.size->SortedToK κ (arrOf st') m->(m < mr->min a₀.size mr=a₀.size)->(¬ m < mr->m=a₀.size)->Q (some m) st')->wpS (model prog w) A E s (countRun' 0 a₀.size) Q st:=by
  intro Q h;rcases h64 with c | c
  ·have e:mr=a₀.size:=by
    obtain⟨f,hf⟩:∃f,a₀.size=f+1:=%[a₀.size - 1|⋯]
    have:minRun' (f+1) a₀.size 0=a₀.size:=by rw[minRun'_succ,Pa c];rfl
    rw[<- hf]at this;rw[<- hmr,this]
   exact ja hO h0 (B3 _) ⋯ hB λ m st' b1 _ b3 b4=>h m st' b1 b3 b4 (λ _=>by rw[e,Nat.min_self]) (λ z=>⋯)
  ·rw[countRun0_eq];show A3 (dL hO h0 (B3 _) (B3 1) ⋯ hB (λ i j hij hj=>c i j hij ⋯) λ n n1 n2 ns nor=>?_);have e:n=a₀.size:=by
    rcases nor with z | z
    ·exact z
    ·by_cases y:n=a₀.size
     ·exact y
     ·exact absurd z (KeyOrd.not_klt_of_kle (c (n - 1) n ⋯ ⋯))
   dsimp only;rw[Pa (by simpa using e)];exact A4 (h n st hB n2 ns (λ z=>Nat.min_eq_left ⋯) λ _=>e)
 show A3 (wpS_mono (wpS_forRange
  (I:=λ x c st'=>(x=0/\c=(none,0)/\st'=st)\/(1<=x/\c=(none,a₀.size)/\SDoneK κ a₀ st'))
  (Q:=λ c st'=>c=(none,a₀.size)/\SDoneK κ a₀ st') ?step ?fin (.inl %[O,O|O])) ?post)
 case fin=>
  rintro c st' (⟨hx,_,_⟩ | ⟨_,hc,hD⟩)
  ·omega
  ·exact%[hc|hD]
 case step=>
  rintro x c st' _ hx (⟨rfl,rfl,rfl⟩ | ⟨hx1,rfl,hD⟩)
  ·dsimp only;rw[PZ ⋯];simp only[Nat.sub_zero,Nat.zero_add];show A3 (cr λ m st2 hB2 hm2 hs2 hc1 hc2=>?_);dsimp only;have fin:∀ {st3},SBaseT κ0 a₀ st3->SortedToK κ (arrOf st3) a₀.size->(pendingOf st3).back?=none/\SDoneK κ a₀ (setPending st3 ((pendingOf st3).push (0,a₀.size,0))):=λ hB3 hs3=>%[by rw[hB3.pend];rfl|hB3.doneK hs3]
   by_cases hlt:m < mr
   ·rw[Pa hlt];show A3 (wpS_lift (P8 %[rfl|?_]));simp only[hc1 hlt];show A3 (gM hO h0 (B3 _) hm2 hB2 hs2 λ st3 hB3 hs3=>?_);simp only[Bool.not_true,J6,Pn];show A3 (wpS_get ?_);rw[(fin hB3 hs3).1];dsimp only;exact A3 (wpS_modify (A4 (.inr %[⋯,O|(fin hB3 hs3).2])))
   ·rw[PZ hlt];obtain rfl:=hc2 hlt;show A3 (wpS_get ?_);rw[(fin hB2 hs2).1];dsimp only;exact A3 (wpS_modify (A4 (.inr %[⋯,O|(fin hB2 hs2).2])))
  ·dsimp only;rw[Pa (B3 _)];exact A4 %[rfl|hD]
 case post=>
  rintro c st' ⟨rfl,hD⟩;dsimp only;show A3 (wpS_mono (wpS_forRange (I:=λ _ c st''=>st''=st'/\c=(none,())) (Q:=λ c st''=>st''=st'/\c=(none,())) ?_ (λ _ _ hh=>hh) %[rfl|rfl]) ?_)
  ·rintro x c st'' _ _ ⟨rfl,rfl⟩;show A3 (wpS_get ?_);rw[Pa (by rw[hD.2.2.1];exact B3 1)];exact A4 %[rfl|rfl]
  ·rintro c st'' ⟨rfl,rfl⟩;exact A4 (h _ hD.1 hD.2.1 hD.2.2.2)
end
section
variable{prog:F7}{w:F9}{A:Around}{E:G0->F6->Prop}{s:F6}
theorem eI{κ:KeyKind}{κ0:SortKind}{a:PK}{vs:PP G0}{n:Nat}{P:Fin->F6->Prop}(ho:s.heap.get? a=some (seqObj "list" vs.toArray n))
  (h0:KeysOf κ (pairsOf vs)) (hkk:∀s':F6,(∀b o,b≠a->s.heap.get? b=some o->s'.heap.get? b=some o)->cQ prog w A s' κ0 κ/\∀v₁ v₂ rest,vs=v₁ :: v₂ :: rest->∀(Q:SortKind->F6->Prop),Q κ0 s'->wpAny (model prog w) A (keyKind' (v₁ :: v₂ :: rest).toArray) Q E s') (h64:vs.length < 64\/SortedToK κ (pairsOf vs) (pairsOf vs).size) (hz:vs.length < 4096)
  (h:∀st':SortSt,(arrOf st').Perm (pairsOf vs)->SortedToK κ (arrOf st') (pairsOf vs).size->P (.done (.ret .none)) { s with heap:=sortedHeap s.heap a vs ((arrOf st').map (·.2)) }) :
  wpAny (model prog w) A (Builtin.«list.sort» %[[.ref a]|[]]) P E s:=by
 rw[list_sort_plain];have ha:a < s.heap.objs.size:=A9 ho;show A0 (listItems_at ho rfl ?_);show A0 (listUpdate_at ho rfl ?_);obtain⟨e1,ho1⟩:∃e1,(s.heap.update a (Obj.mapSeq λ _=>#[])).get? a=some (seqObj "list" #[] e1):=%[_|get?_update_seq ho (λ _=>#[])]
 show A0 (seqEpoch_at ho1 rfl ?_);show A0 (wpAny_newTuple ?_);show A0 (wpAny_newList ?_);show Ph ?_;have ho6:(((s.heap.update a (Obj.mapSeq λ _=>#[])).push (seqObj "tuple" vs.toArray 0)).push (seqObj "list" #[] 0)).get? a=some (seqObj "list" #[] e1):=by rw[Heap.get?_push_ne _ _ _ (by rw[size_push',Heap.size_update];exact B9 (OV ha)),Heap.get?_push_ne _ _ _ (by rw[Heap.size_update];exact B9 ha)];exact ho1
 change wpAny (model prog w) A _ P E { s with heap:=((s.heap.update a (Obj.mapSeq λ _=>#[])).push (seqObj "tuple" vs.toArray 0)).push (seqObj "list" #[] 0) };dsimp only;have hsz:vs.toArray.size=vs.length:=by simp
 have fin:=h
 by_cases h2:vs.toArray.size < 2
 ·rw[Pa h2,Pa h2];show A0 (A2 ?_);rw[StateT.run_pure];show A0 (A2 ?_);dsimp only;show A0 (seqEpoch_at ho6 rfl ?_);show A0 (listUpdate_at ho6 rfl ?_ (hsz2:=by rw[Array.size_map];change(pairsOf vs).size<=_;rw[pairsOf_size,sizeLine_eq];omega));simp only[bne_self_eq_false,J6,Pn];show A2 (fin (SortSt.mk' general' (vs.toArray.zip vs.toArray) #[] 7 none) (Array.Perm.refl _) ?_);intro i j hij hj;have:i=j:=by rw[pairsOf_size]at hj;omega
  subst this;exact Ps _
 ·rw[PZ h2,PZ h2];obtain⟨v₁,v₂,rest,rfl⟩:∃v₁ v₂ rest,vs=v₁ :: v₂ :: rest:=by
   match vs,hsz,h2 with
   | [],_,h2=>simp at h2
   | [_],_,h2=>simp at h2
   | v₁ :: v₂ :: rest,_,_=>exact%[v₁,v₂,rest|O]
  have kp:∀b o,b≠a->s.heap.get? b=some o->(((s.heap.update a (Obj.mapSeq λ _=>#[])).push (seqObj "tuple" (v₁ :: v₂ :: rest).toArray 0)).push (seqObj "list" #[] 0)).get? b=some o:=λ b o nb e=>
   A7 _ (A7 _ (by rw[Heap.get?_update_ne _ _ _ _ nb];exact e))
  obtain⟨hO,hK⟩:=hkk { s with heap:=((s.heap.update a (Obj.mapSeq λ _=>#[])).push (seqObj "tuple" (v₁ :: v₂ :: rest).toArray 0)).push (seqObj "list" #[] 0) } kp;show A0 (hK _ _ _ rfl _ ?_);show A0 (Po (jb (κ:=κ) (κ0:=κ0) hO (a₀:=pairsOf (v₁ :: v₂ :: rest)) (st:=SortSt.mk' κ0 ((v₁ :: v₂ :: rest).toArray.zip (v₁ :: v₂ :: rest).toArray) #[] 7 none)
   (Q:=λ _ st'=>(arrOf st').Perm (pairsOf (v₁ :: v₂ :: rest))/\failedOf st'=none/\SortedToK κ (arrOf st') (pairsOf (v₁ :: v₂ :: rest)).size)
   h0 %[Array.Perm.refl _,rfl,rfl|rfl] (by rw[pairsOf_size];simp) (by rw[pairsOf_size]at *;exact h64) λ st' a1 a2 a3=>%[a1,a2|a3]) ?_ λ _ _ e=>e)
  rintro⟨⟨⟩,st'⟩ s' ⟨rfl,hp,hf,hs⟩;dsimp only;show A0 (seqEpoch_at ho6 rfl ?_);show A0 (listUpdate_at ho6 rfl ?_ (hsz2:=by show C6 (Nat.le_of_eq ((Array.size_map ..).trans (hp.size_eq.trans (pairsOf_size _)))) ?_;rw[sizeLine_eq];omega));rw[hf];simp only[bne_self_eq_false,J6,Pn];exact A2 (fin st' hp hs)
theorem xg{κ:KeyKind}{κ0:SortKind}{l:PK}{vs:PP G0}{Q:G0->F6->Prop}(hl:s.heap.IsList l vs.toArray)(h0:KeysOf κ (pairsOf vs))(hkk:∀ (A':Around) (s':F6),(∀b o,s.heap.get? b=some o->s'.heap.get? b=some o)->cQ prog w A' s' κ0 κ/\∀v₁ v₂ rest,vs=v₁ :: v₂ :: rest->∀ (Q:SortKind->F6->Prop) (E':G0->F6->Prop),Q κ0 s'->wpAny (model prog w) A' (keyKind' (v₁ :: v₂ :: rest).toArray) Q E' s')(h64:vs.length < 64)
  (h:∀st':SortSt,(arrOf st').Perm (pairsOf vs)->SortedToK κ (arrOf st') (pairsOf vs).size->Q (.ref (s.heap.objs.size+1)) { s with heap:=sortedAll s.heap vs ((arrOf st').map (·.2)) }) :
  wpAny (model prog w) A (call (.builtin "sorted") [.ref l]) Q E s:=by
 show Calls.call_function_entry kind_sorted plain_sorted entry_sorted (args_sorted1 _) ?_;unfold Builtin.«sorted»;show A0 (m:=checkCount "sorted" 1 1 _) (A2 ?_);show A0 (collect_list hl ?_);show A0 (wpAny_newList ?_);have hsz:((s.heap.push (seqObj "list" #[] 0)).update s.heap.objs.size (Obj.mapSeq (· ++ vs.toArray))).objs.size=s.heap.objs.size+1:=by rw[Heap.size_update,size_push']
 have hoL:(((s.heap.push (seqObj "list" #[] 0)).update s.heap.objs.size (Obj.mapSeq (· ++ vs.toArray))).push (seqObj "list" vs.toArray 0)).get? (s.heap.objs.size+1)=some (seqObj "list" vs.toArray 0):=by rw[<- hsz];exact A8 _ rfl
 change wpAny _ _ _ _ _ { s with heap:=((s.heap.push (seqObj "list" #[] 0)).update s.heap.objs.size (Obj.mapSeq (· ++ vs.toArray))).push (seqObj "list" vs.toArray 0) };rw[hsz];show A0 (Ph (F3 slot_list_sort %[_,hoL|rfl] entry_list_sort (eI hoL h0 (λ s' k=>by obtain⟨a1,a2⟩:=hkk _ s' (λ b o e=>k b o (B9 (OV (A9 e))) (A7 _ (by rw[Heap.get?_update_ne _ _ _ _ (B9 (Heap.lt_size e))];exact A7 _ e)));exact%[a1|λ v1 v2 r e Q q=>a2 v1 v2 r e Q _ q]) (.inl h64) ⋯ λ st' a1 a2=>%[_,O|?_]) (args_list_sort _)));exact A2 %[_,rfl|h st' a1 a2]
end
end PyProof.Rows
namespace L2
open PySem PySem.Spec PyProof.Rows
def cK:PP Bool->PP G0->PM Q9
 | [],[]=>some []
 | false :: r,.int i _ :: vs=>(cK r vs).map (i :: ·)
 | true :: r,.bool b :: vs=>(cK r vs).map ((if b=true then 1 else 0) :: ·)
 | _,_=>none
def mq:PP Bool->PP V->PM Q9
 | [],[]=>some []
 | false :: r,.int i :: vs=>(mq r vs).map (i :: ·)
 | true :: r,.bl b :: vs=>(mq r vs).map ((if b=true then 1 else 0) :: ·)
 | _,_=>none
theorem nS:∀{sh:PP Bool}{vs:PP V}{us:PP G0}{k:Q9},Vals vs us->mq sh vs=some k->cK sh us=some k
 | [],[],_,_,r,h=>by cases r;exact h
 | [],_ :: _,_,_,_,h=>by cases h
 | false :: r,v :: vs,us,k,rv,h=>by
  cases rv with
  | cons r1 r2=>
   cases v with
   | int i=>
    obtain⟨t,rfl⟩:=r1;have h:(mq r vs).map (i :: ·)=some k:=h;change(cK r _).map (i :: ·)=some k;cases e:mq r vs with
    | none=>rw[e]at h;cases h
    | some k'=>rw[e]at h;rw[nS r2 e];exact h
   | _=>cases h
 | true :: r,v :: vs,us,k,rv,h=>by
  cases rv with
  | cons r1 r2=>
   cases v with
   | bl b=>
    cases(show _=Value.bool b from r1);have h:(mq r vs).map ((if b=true then 1 else 0) :: ·)=some k:=h;change(cK r _).map ((if b=true then 1 else 0) :: ·)=some k;cases e:mq r vs with
    | none=>rw[e]at h;cases h
    | some k'=>rw[e]at h;rw[nS r2 e];exact h
   | _=>cases h
 | false :: _,[],_,_,_,h=>by cases h
 | true :: _,[],_,_,_,h=>by cases h
def cu:Q9->Q9->Bool
 | [],[]=>false
 | [],_ :: _=>true
 | _ :: _,[]=>false
 | a :: r,b :: t=>if a=b then cu r t else decide (a < b)
theorem jc:∀a,cu a a=false
 | []=>rfl
 | a :: r=>by rw[cu,Pa rfl];exact jc r
theorem jQ:∀a b c,cu a b=true->cu b c=true->cu a c=true
 | [],[],_,h,_=>by cases h
 | [],_ :: _,[],_,h=>by cases h
 | [],_ :: _,_ :: _,_,_=>rfl
 | _ :: _,[],_,h,_=>by cases h
 | _ :: _,_ :: _,[],_,h=>by cases h
 | a :: r,b :: t,c :: u,h1,h2=>by
  rw[cu]at h1 h2 ⊢
  by_cases e1:a=b
  ·rw[Pa e1]at h1
   by_cases e2:b=c
   ·rw[Pa e2]at h2;rw[Pa (e1.trans e2)];exact jQ r t u h1 h2
   ·rw[PZ e2]at h2;rw[PZ (by rw[e1];exact e2),e1];exact h2
  ·rw[PZ e1]at h1;have h1:=C0 h1
   by_cases e2:b=c
   ·rw[PZ ⋯];exact B0 ⋯
   ·rw[PZ e2]at h2;have h2:=C0 h2;rw[PZ ⋯];exact B0 ⋯
theorem oY:∀a b c,cu a c=true->cu a b=true\/cu b c=true
 | [],[],_,h=>.inr h
 | [],_ :: _,_,_=>.inl rfl
 | _ :: _,_,[],h=>by cases h
 | _ :: _,[],_ :: _,_=>.inr rfl
 | a :: r,b :: t,c :: u,h=>by
  rw[cu]at h;rw[cu,cu]
  by_cases e1:a=b
  ·rw[Pa e1]
   by_cases e2:b=c
   ·rw[Pa (e1.trans e2)]at h;rw[Pa e2];exact oY r t u h
   ·rw[PZ (by rw[e1];exact e2)]at h;rw[PZ e2];exact .inr (by rw[<- e1];exact h)
  ·rw[PZ e1]
   by_cases e3:a=c
   ·rw[PZ ⋯]
    by_cases z:a < b
    ·exact .inl (B0 z)
    ·exact .inr (B0 ⋯)
   ·rw[PZ e3]at h;have h:=C0 h
    by_cases z:a < b
    ·exact .inl (B0 z)
    ·rw[PZ ⋯];exact .inr (B0 ⋯)
theorem gN:∀a b,cu a b=false->cu b a=false->a=b
 | [],[],_,_=>rfl
 | [],_ :: _,h,_=>by cases h
 | _ :: _,[],_,h=>by cases h
 | a :: r,b :: t,h1,h2=>by
  rw[cu]at h1 h2
  by_cases e:a=b
  ·rw[Pa e]at h1;rw[Pa e.symm]at h2;rw[e,gN r t h1 h2]
  ·rw[PZ e]at h1;rw[PZ (Ne.symm e)]at h2;have:=of_decide_eq_false h1;have:=of_decide_eq_false h2;exact absurd (show a=b by omega) e
def qz(h:Heap)(sh:PP Bool):KeyKind where
 α:=Q9
 blt:=cu
 irrefl:=jc
 trans:=jQ
 negTrans:=oY
 total:=gN
 keyOf:=λ v=>match v with
  | .ref a=>match h.get? a with
   | some o=>match o.data with
    | .seq xs _=>cK sh xs.toList
    | _=>none
   | none=>none
  | _=>none
 dflt:=[]
theorem oZ{h:Heap}{sh:PP Bool}{v:G0}{k:Q9}(e:(qz h sh).keyOf v=some k):∃a o xs n,v=.ref a/\h.get? a=some o/\o.data=.seq xs n/\cK sh xs.toList=some k:=by
 cases v with
 | ref a=>
  have e:(match h.get? a with
   | some o=>match o.data with
    | .seq xs _=>cK sh xs.toList
    | _=>none
   | none=>none)=some k:=e
  cases h1:h.get? a with
  | none=>rw[h1]at e;cases e
  | some o=>
   rw[h1]at e;cases h2:o.data with
   | seq xs n=>
    have e:(match o.data with
     | .seq xs _=>cK sh xs.toList
     | _=>none)=some k:=e
    rw[h2]at e;exact%[a,o,xs,n,O,h1,h2|e]
   | _=>
    have e:(match o.data with
     | .seq xs _=>cK sh xs.toList
     | _=>none)=some k:=e
    rw[h2]at e;cases e
 | _=>cases e
theorem gt:∀{sh:PP Bool}{us:PP G0}{k:Q9},cK sh us=some k->us.length=sh.length
 | [],[],_,_=>rfl
 | [],_ :: _,_,h=>by cases h
 | false :: r,[],_,h=>by cases h
 | true :: r,[],_,h=>by cases h
 | false :: r,v :: vs,k,h=>by
  cases v with
  | int i t=>
   have h:(cK r vs).map (i :: ·)=some k:=h;cases e:cK r vs with
   | none=>rw[e]at h;cases h
   | some k'=>rw[J0,J0,gt e]
  | _=>cases h
 | true :: r,v :: vs,k,h=>by
  cases v with
  | bool b=>
   have h:(cK r vs).map ((if b=true then 1 else 0) :: ·)=some k:=h;cases e:cK r vs with
   | none=>rw[e]at h;cases h
   | some k'=>rw[J0,J0,gt e]
  | _=>cases h
section
variable{prog:F7}{w:F9}{A:Around}{E:G0->F6->Prop}{s:F6}
theorem mt{a b:Bool}{Q:Bool->F6->Prop}(h:Q (a == b) s):wpAny (model prog w) A (eqBool (.bool a) (.bool b)) Q E s:=by
 unfold eqBool;change wpAny _ _ (if (Value.bool a == Value.bool b)=true then _ else _) Q E s
 by_cases hab:(Value.bool a == Value.bool b)=true
 ·rw[Pa hab];have e:a=b:=by have:=eq_of_beq hab;injection this
  subst e;exact A0 (P8 (A2 (by simpa using h)))
 ·rw[PZ hab];exact A0 (eq_bool (F2 h))
theorem kX{bb:Bool}{Q:Bool->F6->Prop}:∀(sh:PP Bool)(xs ys:PP G0)(a c:Q9)(i:Nat),cK sh xs=some a->cK sh ys=some c->((bb && i == 0)=true->sh.head?=some false\/sh=[])->Q (cu a c) s->PySem.W.KatLex prog w A bb false Q (xs.zip ys) i s
 | [],[],[],a,c,i,h1,h2,_,q=>by cases h1;cases h2;exact PySem.W.kat_nil q
 | [],_ :: _,_,_,_,_,h,_,_,_=>by cases h
 | [],[],_ :: _,_,_,_,_,h,_,_=>by cases h
 | false :: r,[],_,_,_,_,h,_,_,_=>by cases h
 | true :: r,[],_,_,_,_,h,_,_,_=>by cases h
 | false :: r,_ :: _,[],_,_,_,_,h,_,_=>by cases h
 | true :: r,_ :: _,[],_,_,_,_,h,_,_=>by cases h
 | false :: r,v :: vs,u :: us,a,c,i,h1,h2,hb,q=>by
  cases v with
  | int p t=>cases u with
   | int p' t'=>
    have h1:(cK r vs).map (p :: ·)=some a:=h1;have h2:(cK r us).map (p' :: ·)=some c:=h2;cases e1:cK r vs with
    | none=>rw[e1]at h1;cases h1
    | some a'=>
     cases e2:cK r us with
     | none=>rw[e2]at h2;cases h2
     | some c'=>
      rw[e1]at h1;rw[e2]at h2;cases h1;cases h2;rw[cu]at q;show PySem.W.kat_cons (wpAny_eqBool_int (PySem.W.kat_go (λ e=>PySem.W.kat_yes ?_) (λ e=>PySem.W.kat_no ?_)))
      ·rw[Pa (by simpa using e)]at q;exact kX r vs us a' c' (i+1) e1 e2 (λ z=>by simp at z) q
      ·rw[PZ (by simpa using e)]at q;cases z:(bb && i == 0)with
       | true=>exact oneLt_int q
       | false=>exact PySem.W.kat_one _ _ (PyProof.Rows.lt_int q)
   | _=>cases h2
  | _=>cases h1
 | true :: r,v :: vs,u :: us,a,c,i,h1,h2,hb,q=>by
  cases v with
  | bool p=>cases u with
   | bool p'=>
    have h1:(cK r vs).map ((if p=true then 1 else 0) :: ·)=some a:=h1;have h2:(cK r us).map ((if p'=true then 1 else 0) :: ·)=some c:=h2;cases e1:cK r vs with
    | none=>rw[e1]at h1;cases h1
    | some a'=>
     cases e2:cK r us with
     | none=>rw[e2]at h2;cases h2
     | some c'=>
      rw[e1]at h1;rw[e2]at h2;cases h1;cases h2;rw[cu]at q;show PySem.W.kat_cons (mt (PySem.W.kat_go (λ e=>PySem.W.kat_yes ?_) (λ e=>PySem.W.kat_no ?_)))
      ·have e:p=p':=by simpa using e
       rw[Pa (by rw[e])]at q;exact kX r vs us a' c' (i+1) e1 e2 (λ z=>by simp at z) q
      ·have e:p≠p':=by simpa using e
       rw[PZ (by cases p <;> cases p' <;> simp_all)]at q;cases z:(bb && i == 0)with
       | true=>rcases hb z with z | z <;> cases z
       | false=>
        show PySem.W.kat_one _ _ (PyProof.Rows.lt_bool ?_);change Q (decide (b2i p < b2i p')) s;rw[show decide (b2i p < b2i p')=decide ((if p=true then(1:Int)else 0) < (if p'=true then 1 else 0))by cases p <;> cases p' <;> rfl];exact q
   | _=>cases h2
  | _=>cases h1
theorem qA{h:Heap}{sh:PP Bool}(h0:sh.head?=some false)(k:∀b o,h.get? b=some o->s.heap.get? b=some o):cQ prog w A s (tuples' true) (qz h sh):=by intro E x y a b Q ha hb q;obtain⟨x',ox,xs,n,rfl,hx,dx,fx⟩:=oZ ha;obtain⟨y',oy,ys,m,rfl,hy,dy,fy⟩:=oZ hb;have l1:=gt fx;have l2:=gt fy;show PySem.W.kat_lt (k _ _ hx) dx (k _ _ hy) dy ?_;rw[show decide (xs.size < ys.size)=false from Pf (by rw[<- N4,<- N4];omega)];exact kX sh _ _ a b 0 fx fy (λ _=>.inl h0) q
end
theorem jR:∀{as:PP PK}{its:PP G0},Vals (as.map V.ref) its->its=as.map Value.ref
 | [],_,r=>by cases r;rfl
 | a :: as,_,r=>by
  cases r with
  | cons r1 r2=>
   have e:_=Value.ref a:=r1;subst e;rw[J3,jR r2]
theorem jS:∀as:PP PK,Vals (as.map V.ref) (as.map Value.ref)
 | []=>.nil
 | a :: as=>.cons rfl (jS as)
theorem uG{α β:Type}{f:α->β}(g:β->PM α)(hg:∀a,g (f a)=some a){l:PP β}{as:PP α}(h:l.Perm (as.map f)):∃as':PP α,l=as'.map f/\as'.Perm as:=by
 show%[l.filterMap g,?_|?_]
 ·have all:∀x∈l,∃a,f a=x:=λ x hx=>by obtain⟨a,_,e⟩:=M4.mp (h.mem_iff.mp hx);exact%[a|e]
  clear h
  induction l with
  | nil=>rfl
  | cons x r ih=>
   obtain⟨a,rfl⟩:=all x B7;rw[K7,hg a,J3,<- ih λ y hy=>all y (B4 _ hy)]
 ·have:=h.filterMap g;rw[List.filterMap_map,show(g∘f)=some from funext hg,List.filterMap_some]at this;exact this
theorem gZ{h:Heap}{sh:PP Bool}{key:PK->Q9}(h0:sh.head?=some false):∀(as:PP PK),(∀a∈as,∃o us n,h.get? a=some o/\o.cls=.type "tuple" /\ o.data=.seq (List.toArray us) n/\cK sh us=some (key a))->∃fs,PySem.W.KatTups h (as.map Value.ref) fs/\fs.length=as.length/\∀v∈fs,∃i t,v=Value.int i t
 | [],_=>%[[],trivial,O|λ v hv=>by cases hv]
 | a :: as,H=>by
  obtain⟨fs,h1,h2,h3⟩:=gZ h0 as λ b hb=>H b (B4 _ hb);obtain⟨o,us,n,e,c,d,f⟩:=H a B7;obtain⟨r,hr⟩:∃r,sh=false :: r:=by
   cases sh with
   | nil=>cases h0
   | cons x r=>cases h0;exact%[r|O]
  subst hr;cases us with
  | nil=>cases f
  | cons u us=>
   cases u with
   | int i t=>exact%[.int i t :: fs,PySem.W.KatTups.cons e c d (by simp) h1,by rw[J0,J0,h2]|λ v hv=>(G7.mp hv).elim (λ z=>%[i,t|z]) (h3 v)]
   | _=>cases f
section
variable{X:Cx}
def zx(K:C5)(xs:PP V)(H:Hp)(Q:VK):Prop:=∃(p:PK)(as:PP PK)(sh:PP Bool)(key:PK->Q9),xs=[.ref p]/\SqL K H p (as.map V.ref)/\as.length < 64/\sh.head?=some false/\(∀a∈as,∃vs,SqT K H a vs/\mq sh vs=some (key a)) /\
 ∀(l:PK)(as':PP PK),H l=none->as'.Perm as->(as'.map key).Pairwise (λ x y=>cu y x=false)->Q (.ref l) (upd H l (.lst (as'.map V.ref)))
theorem cZ:cU X (.builtin "sorted") (zx X.K):=by
 intro PR s σ H xs us Q I r h;obtain⟨p,as,sh,key,rfl,hs,h64,h0,hk,q⟩:=h;obtain⟨u,rfl,rfl⟩:=dN r;obtain⟨its,rv,pl,_⟩:=I.list hs;have ei:=jR rv;subst ei;have tu:∀a∈as,∃o us n,s.heap.get? a=some o/\o.cls=.type "tuple" /\ o.data=.seq (List.toArray us) n/\cK sh us=some (key a):=λ a ha=>by obtain⟨vs,hv,hf⟩:=hk a ha;obtain⟨us,r,⟨o,e,c,n,d⟩,_⟩:=I.tuple hv;exact%[o,us,n,e,c,d|nS r hf]
 have kof:∀a∈as,(qz s.heap sh).keyOf (.ref a)=some (key a):=λ a ha=>by
  obtain⟨o,us,n,e,c,d,f⟩:=tu a ha;change(match s.heap.get? a with
   | some o=>match o.data with
    | .seq xs _=>cK sh xs.toList
    | _=>none
   | none=>none)=some (key a)
  rw[e];change(match o.data with
    | .seq xs _=>cK sh xs.toList
    | _=>none)=some (key a)
  rw[d];exact f
 show xg (κ:=qz s.heap sh) (κ0:=tuples' true) pl.isList ?keys ?kk (by rw[G6];exact h64) λ st' hp hs'=>?_
 case keys=>
  intro pr hpr;rw[pairsOf_toList]at hpr;obtain⟨a,ha,e⟩:=M4.mp (PD (show(pr.1,pr.2)∈_ from hpr)).1;exact%[key a|by rw[<- e];exact kof a ha]
 case kk=>
  intro A' s' k;show%[qA h0 k|λ v1 v2 rest e Q E' q=>?_];obtain⟨fs,f1,f2,f3⟩:=gZ (h:=s'.heap) (key:=key) h0 as λ a ha=>by obtain⟨o,us,n,e,c,d,f⟩:=tu a ha;exact%[o,us,n,k _ _ e,c,d|f]
  rw[e]at f1;have:(as.map Value.ref).length=rest.length+2:=by rw[e];rfl
  rw[G6]at this;show PySem.W.kat_kind (T:=.type "int") f1 ⋯ (λ v hv=>?_) rfl q;obtain⟨i,t,rfl⟩:=f3 v hv;exact PySem.W.Looks.of_pure rfl
 have pz:∀l:PP PK,(l.map Value.ref).zip (l.map Value.ref)=l.map λ a=>(Value.ref a,Value.ref a):=λ l=>by
  induction l with
  | nil=>rfl
  | cons a l ih=>rw[J3,List.zip_cons_cons,ih,J3]
 have hp':=Array.perm_iff_toList_perm.mp hp;rw[pairsOf_toList,pz]at hp';obtain⟨as',ea,pa⟩:=uG (f:=λ a=>(Value.ref a,Value.ref a)) (λ pr=>match pr.1 with
  | .ref a=>some a
  | _=>none) (λ a=>rfl) hp'
 have eo:((arrOf st').map (·.2)).toList=as'.map Value.ref:=by rw[Array.toList_map,ea,PJ];rfl
 obtain⟨e,he⟩:=sortedAll_at s.heap (as.map Value.ref) ((arrOf st').map (·.2));have hn:H (s.heap.objs.size+1)=none:=I.hok.fresh (Nat.le_succ _);show%[.ref (s.heap.objs.size+1),upd H (s.heap.objs.size+1) (.lst (as'.map V.ref)),I.laid (o:=.lst (as'.map V.ref)) (t':=s.toks) (λ _ _=>sortedAll_old) (Nat.le_succ _) (show ObjOk _ _ _ _ _ (.lst _)from%[?_,((arrOf st').map (·.2)).toList,e,?_|?_]),O|q _ as' hn pa ?_]
 ·rw[G6,pa.length_eq];have:(64:Nat)<=sizeLine:=∅
  omega
 ·rw[eo];exact jS as'
 ·rw[he]
 ·rw[List.pairwise_iff_getElem];intro i j hi hj hij;rw[G6]at hi hj;have sz:(pairsOf (as.map Value.ref)).size=as.length:=by rw[pairsOf_size,G6]
  have kk:∀i (hi:i < as'.length),KK (qz s.heap sh) (arrOf st') i=key as'[i]:=λ i hi=>by
   have e:(arrOf st')[i]?=some (Value.ref as'[i],Value.ref as'[i]):=by rw[<- M9,ea,J1,F1 hi];rfl
   unfold KK;rw[e];change((qz s.heap sh).keyOf (.ref as'[i])).getD _=_;rw[kof _ (pa.mem_iff.mp (List.getElem_mem hi))];rfl
  have:=hs' i j ⋯ (by rw[sz,<- pa.length_eq];exact hj);rw[kk i hi,kk j hj]at this;rw[List.getElem_map,List.getElem_map];exact this
end
theorem b60{a:Int}(h0:0<=a)(h:a<=10 ^ 60):a.natAbs < 2 ^ 4096:=by
 have e:(10:Int) ^ 60 < 2 ^ 200:=∅
 have e2:(2:Nat) ^ 200<=2 ^ 4096:=Nat.pow_le_pow_right ∅ ∅;have e3:((2:Nat) ^ 200:Int)=2 ^ 200:=∅
 show C2 ?_ e2;have:(a.natAbs:Int) < ((2 ^ 200:Nat):Int):=by rw[Int.natAbs_of_nonneg h0];omega
 exact Int.ofNat_lt.mp this
section
variable{X:Cx}
theorem uH{lo:Int}{n:Nat}{σ:St}{cap:PP Nat}{k:Nat}{g:TG}{tt:TT}{te:TE}{Q:PP V->Hp->Prop}{H:Hp}(Pv:Nat->PP V->Hp->Prop)(h0:Pv 0 [] H)
  (ht:∀i ys H',i < n->Pv i ys H'->ys.length < sizeLine/\g (.int (lo+i)) (cD σ cap k) H' λ σ2 H2=>leS (cD σ cap k) σ2/\tt σ2 H2 λ ok H3=>if ok=true then te σ2 H3 (λ v H4=>Nx n Pv i (ys ++ [v]) H4)else Nx n Pv i ys H3)
  (hd:∀ys H',Pv n ys H'->ys.length<=sizeLine/\Q ys H'):∃W,(∃m,W 0 m [] H)/\iK σ cap k (Itr lo n) g tt te Q W:=by
 show%[λ i m ys H'=>m=n - i/\i<=n/\Pv i ys H',%[_,O,E8 _|h0]|?_];rintro i m ys H' ⟨rfl,hi,p⟩
 by_cases hin:i < n
 ·obtain⟨e,hg⟩:=ht i ys H' hin p;show .inr %[hin,e|λ x H2 yl=>?_];obtain⟨e1,e2⟩:=yl;subst e1 e2;exact hg
 ·have e:i=n:=⋯
  subst e;obtain⟨a1,a2⟩:=hd ys H' p;exact .inl %[B3 _,a1|a2]
end
end L2
namespace PySem
theorem Paired.getL{α β:Type}{F:α->β->Prop}:∀{l₁:PP α}{l₂:PP β}{i:Nat}{y:β},Paired F l₁ l₂->l₂[i]?=some y->∃x,l₁[i]?=some x/\F x y
 | _,_,_,_,.nil,e=>by simp at e
 | _,_,0,_,.cons h _,e=>by simp at e;subst e;exact%[_,O|h]
 | _,_,i+1,y,.cons _ t,e=>by obtain⟨x,h1,h2⟩:=Paired.getL (i:=i) t (by simpa using e);exact%[x,by simpa using h1|h2]
section
variable{prog:F7}{w:F9}{A:Around}{E:G0->F6->Prop}{s:F6}{l:PK}{xs:PN (Int×Tok)}
theorem nT{Q:G0->F6->Prop}(hh:A.handled=none)(hl:s.heap.IsTuple l (intItems xs))(hne:0 < xs.size)
  (h:∀v h' tk,(intItems xs)[argBest (λ i j=>decide (numAt xs i < numAt xs j)) (xs.size - 1)]?=some v->(∀b o,s.heap.get? b=some o->h'.get? b=some o)->Q v { s with heap:=h',toks:=tk }) :
  wpAny (model prog w) A (call (.builtin "min") [.ref l]) Q E s:=by
 have hlt:l < s.heap.objs.size:=by obtain⟨_,e,_⟩:=hl;exact A9 e
 show call_min_walk (wpAny_pyIter_tuple hl %[_,_,_,_,_,_,_,rfl,Walks.tuple (A:=A.in1) hh _ l (B9 hlt) (intItems xs),%[%[_,A8 _ rfl,rfl|rfl]|?_],λ b hb=>?_,by simpa[intItems]using hne,CmpOf.ints_lt (numAt xs) (λ _ _=>intItems_at)|λ v h' tk hP hk=>?_])
 ·obtain⟨o,e,r⟩:=hl;exact%[o,A7 _ e|r]
 ·change b < (s.heap.push _).objs.size;rw[Pr];rcases G7.mp hb with rfl | hb
  ·exact F0 _
  ·rcases G7.mp hb with rfl | hb
   ·exact OV hlt
   ·cases hb
 ·exact h v h' tk (by simpa[intItems]using hP) λ b o e=>hk b o (λ hm=>by
   have:b=s.heap.objs.size:=by simpa using hm
   subst this;exact absurd (A9 e) (E1 _)) (A7 _ e)
end
end PySem
namespace L2
open PySem PySem.Spec PyProof.Rows
section
variable{X:Cx}
inductive rz_call_minT(K:C5)(xs:PP V)(H:Hp)(Q:VK):Prop
|mk(p:PK)(ns:Q9)(_:xs=[.ref p])(_:SqT K H p (ns.map V.int))(_:ns≠[])(_:∀m,m∈ns->(∀x∈ns,m<=x)->Q (.int m) H)
theorem qB(hc:X.calm=true):cU X (.builtin "min") (rz_call_minT X.K):=by
 intro PR s σ H xs us Q I r h;obtain⟨p,ns,rfl,hs,hne,q⟩:=h;obtain⟨u,rfl,rfl⟩:=dN r;obtain⟨its,rv,pl,_⟩:=I.tuple hs;have hi:=kS rv;obtain⟨xs,e⟩:=hi.allInts.items;rw[e]at pl;have en:(xs.toList.map (·.1))=ns:=by have h1:=hi.numsOf;have h2:=nums_intItems (xs:=xs);rw[<- e,show its.toArray.toList=its from rfl]at h2;rw[<- h1,h2]
 have sz:xs.size=ns.length:=by rw[<- en,G6];rfl
 have hn:0 < xs.size:=by rw[sz];exact List.length_pos_iff.mpr hne
 have nat:∀i,i < xs.size->numAt xs i∈ns:=λ i h=>by unfold numAt;rw[<- en,M0 h];exact M4.mpr %[xs[i],by simp|O]
 have all:∀x∈ns,∃i,i < xs.size/\numAt xs i=x:=λ x hx=>by rw[<- en]at hx;obtain⟨y,hy,rfl⟩:=M4.mp hx;obtain⟨i,hi',e'⟩:=List.getElem_of_mem hy;show%[i,by simpa using hi'|?_];unfold numAt;rw[M0 (by simpa using hi')];simpa using Pw Prod.fst e'
 obtain⟨g1,g2⟩:=iY (numAt xs) (xs.size - 1);show nT (I.ok.hd hc) pl hn λ v h' tk hv hk=>?_;obtain⟨t,rfl⟩:=intItems_at hv;show%[.int _,H,I.kept hk,%[t|O]|q _ (nat _ (by have:argBest (λ i j=>decide (numAt xs i < numAt xs j)) (xs.size - 1)<=xs.size - 1:=g1;omega)) λ x hx=>?_];obtain⟨i,h1,h2⟩:=all x hx;rw[<- h2];exact g2 i ⋯
end
end L2
namespace PySem
open Sem (wp)
section
variable{prog:F7}{w:F9}{A:Around}{E:G0->F6->Prop}{s:F6}
theorem fV{d:PK}{es:PN DictEntry}{ep:Nat}{Q:G0->F6->Prop}(hd:(d == sysModules)=false)(hm:(∃o,s.heap.get? d=some o/\o.ExactDict/\o.data=.dict es ep))
  (hQ:Q (.ref s.heap.objs.size) { s with heap:=s.heap.push { cls:=.type "dict_keyiterator",data:=.fields #[.ref d,.int 0 0,.int es.size 0,.int ep 0] } }) :
  wpAny (model prog w) A (pyIter (.ref d)) Q E s:=by
 obtain⟨o,ho,hc,hdat⟩:=id hm;have hT:s.TypeIs (.ref d) "dict" := %[_,ho|hc.1]
 show wpAny_pyIter_slot hT F.slot_dict_iter (F3 F.slot_dict_iter hT F.entry_dict_iter ?_ (F.args_dict_iter_1 _));unfold Builtin.«dict.__iter__»;show A0 ?_;unfold Builtin.Dict.dictSlotNone;show A0 (wpAny_notOrdered_dict hT ?_);change wpAny _ _ (pure (Value.ref d)) _ _ s;show A2 ?_;change wpAny _ _ (Builtin.Dict.showsAll d >>= _) _ _ s;unfold Builtin.Dict.showsAll;rw[PZ (by rw[hd];exact B2)];show A0 (A2 ?_);show A0 (wpAny_dictEntries ho hdat ?_);show A0 (wpAny_dictEpoch ho hdat ?_);have hsz:es.size=es.size:=rfl;show A0 (F4 (A2 %[_,rfl,"dict_keyiterator",_,%[_,A8 _ rfl|rfl],F.slot_dict_keyiterator_next.lookup|?_]));simpa[rawInt,hsz]using hQ
theorem dS{it d:PK}{i ep:Nat}{es:PN DictEntry}{en:DictEntry}{Q:PM G0->F6->Prop}(hit:s.heap.IsKeyIter it d i es.size ep)
  (hm:(∃o,s.heap.get? d=some o/\o.ExactDict/\o.data=.dict es ep)) (hx:es[i]?=some en)
  (hQ:∀h',h'.IsKeyIter it d (i+1) es.size ep->Heap.SameBut it s.heap h'->Q (some en.key) { s with heap:=h' }) :
  wpAny (model prog w) A (pyNext (.ref it)) Q E s:=by
 obtain⟨o,ho,hc,hd⟩:=id hit;obtain⟨od,hod,hcd,hdd⟩:=id hm;unfold pyNext;show A0 (wpAny_attempt (wpAny_callSpecial?_slot (name:=Str.ofString "__next__") hit.typeIs Py
  (F3 Py hit.typeIs F.entry_dict_keyiterator_next ?_ (F.args_dict_keyiterator_next_1 _))))
 show A0 (A2 ?_);show A0 ?_;show A0 ?_
 first | show A0 (Px hit.typeIs (A2 ?_)) | show A0 (wpAny_typeNameOf_keyiter hit.typeIs (A2 ?_))
 show A0 (wpAny_fieldsOf ho hd ?_);have hown:Builtin.Dict_items.ownsTuple "dict_keyiterator" = false:=∅
 simp only[hown,J6,Pn];change wpAny _ _ (if (Value.ref d == Value.none)=true then _ else _) _ _ s;rw[PZ (show¬ ((Value.ref d == Value.none)=true)from B2)];show A0 (A2 ?_);show A0 (wpAny_dictEntries hod hdd ?_);have hsz:es.size=es.size:=rfl;rw[PZ (by simp)];show A0 (A2 ?_);show A0 (wpAny_dictEpoch hod hdd ?_);rw[PZ (by simp)];show A2 ?_;have hlt:i < es.size:=by
  rcases PH i es.size with h | h
  ·exact h
  ·rw[N7 h]at hx;cases hx
 have hlt':i < es.size:=by rw[hsz];exact hlt
 have hkey:es[i]=en:=by rw[M0 hlt']at hx;exact B8 hx
 simp only[show¬ ((i:Int) < 0)from by omega,Pn,K2,M0 hlt'];show A0 ?_
 first | show A0 (Px hit.typeIs (A2 ?_)) | show A0 (wpAny_typeNameOf_keyiter hit.typeIs (A2 ?_))
 show A0 (wpAny_isOneOf_keyiter hit.typeIs ?_);change wpAny _ _ (setField (.ref it) 1 (rawInt ((i:Int)+1)) >>= _) _ _ s;show A0 (wpAny_setField ho hd (by simp) ?_);have hit':(s.heap.update it (Obj.mapFields (·.setIfInBounds 1 (rawInt ((i:Int)+1))))).IsKeyIter it d (i+1) es.size ep :=
  %[_,Heap.get?_update_self _ ho (Obj.isFreed_of_fields (Obj.data_mapFields hd _)),(Obj.cls_mapFields ..).trans hc|by rw[Obj.data_mapFields hd];simp[rawInt]]
 show A0 (Ph ?_);show A0 (wpAny_isOneOf_keyiter (s:={ s with heap:=s.heap.update it (Obj.mapFields (·.setIfInBounds 1 (rawInt ((i:Int)+1)))) }) hit'.typeIs ?_);change wpAny _ _ (pure es[i].key) _ _ _;exact A2 (A2 %[_,rfl|A2 (by rw[hkey];exact hQ _ hit' (P6 ..))])
theorem eg{it d:PK}{i ep:Nat}{es:PN DictEntry}{Q:PM G0->F6->Prop}(hh:A.handled=none)(hit:s.heap.IsKeyIter it d i es.size ep)
  (hm:(∃o,s.heap.get? d=some o/\o.ExactDict/\o.data=.dict es ep)) (hx:es[i]?=none)
  (hQ:∀h',Heap.ExtBut it s.heap h'->Q none { s with heap:=h' }):wpAny (model prog w) A (pyNext (.ref it)) Q E s:=by
 obtain⟨o,ho,hc,hd⟩:=id hit;obtain⟨od,hod,hcd,hdd⟩:=id hm;unfold pyNext;show A0 (wpAny_attempt (wpAny_callSpecial?_slot (name:=Str.ofString "__next__") hit.typeIs Py
  (F3 Py hit.typeIs F.entry_dict_keyiterator_next ?_ (F.args_dict_keyiterator_next_1 _))))
 show A0 (A2 ?_);show A0 ?_;show A0 ?_
 first | show A0 (Px hit.typeIs (A2 ?_)) | show A0 (wpAny_typeNameOf_keyiter hit.typeIs (A2 ?_))
 show A0 (wpAny_fieldsOf ho hd ?_);have hown:Builtin.Dict_items.ownsTuple "dict_keyiterator" = false:=∅
 simp only[hown,J6,Pn];change wpAny _ _ (if (Value.ref d == Value.none)=true then _ else _) _ _ s;rw[PZ (show¬ ((Value.ref d == Value.none)=true)from B2)];show A0 (A2 ?_);show A0 (wpAny_dictEntries hod hdd ?_);have hsz:es.size=es.size:=rfl;rw[PZ (by simp)];show A0 (A2 ?_);show A0 (wpAny_dictEpoch hod hdd ?_);rw[PZ (by simp)];show A2 ?_;have hge:es.size<=i:=by simpa using hx
 simp only[show¬ ((i:Int) < 0)from by omega,Pn,K2,N7 hge];show A0 ?_
 first | show A0 (Px hit.typeIs (A2 ?_)) | show A0 (wpAny_typeNameOf_keyiter hit.typeIs (A2 ?_))
 change wpAny _ _ (setField (.ref it) 0 .none >>= _) _ _ s;show A0 (wpAny_setField ho hd (by simp) ?_);change wpAny _ _ (newExc (.type "StopIteration") [] >>= _) _ _ _;show A0 ?_;simp only[newExc,newTuple];show A0 (F4 ?_ (by size_fits));show A0 (m:=firstArgMember _ _) (wpAny_of_eq (a:=Value.none) (by first | rfl | (simp only[firstArgMember];rfl)) ?_);show F4 ?_ (by size_fits);simp only[raiseNew];show A0 (wpAny_handled ?_);rw[show A.in1.handled=none from hh];show A0 (A2 (wpAny_throw ?_));show A0 (wpAny_isInstance (T := "StopIteration") (b:=true) %[_,A8 _ rfl|rfl] isSubtype_stop ?_);exact A2 (hQ _ (((P6 ..).extBut.push _).push _))
end
end PySem
namespace L2
open PySem PySem.Spec PyProof.Rows
theorem Bi{P:F7}{w:F9}{k:Key}{u:G0}(h:(bK P w).is k u=true):RelV (kV k) u:=by
 cases k with
 | inl i=>
  cases u with
  | int j t=>
   have:=(bK P w).inj _ _ _ h (eK P w j t);cases this;exact%[t|O]
  | str x t=>have:=(bK P w).inj _ _ _ h (eL P w x t);cases this
  | _=>exact absurd (show false=true from h) ∅
 | inr x=>
  cases u with
  | int j t=>have:=(bK P w).inj _ _ _ h (eK P w j t);cases this
  | str y t=>
   have:=(bK P w).inj _ _ _ h (eL P w y t);cases this;exact%[t|O]
  | _=>exact absurd (show false=true from h) ∅
section
variable{P:F7}{w:F9}{K:C5}{mg:Str->PM G0}{base:Heap}
theorem FnOk.weak{k:Nat}{f:PK}{fd:F8}{ps:PP Str}{sp:Sp}(F:FnOk P w K mg base CX0 k f fd ps sp):FnOk P w K mg base (CXx P w) k f fd ps sp :=
 ⟨F.len,λ A outer s H args us vs Q E hr he hb hv hs=>codeAny_mono (F.run A outer s H args us vs Q E hr he hb hv hs) λ r s' h=>by
  cases r with
  | ok r=>cases r <;> exact h
  | error e=>exact E7 h⟩
theorem FnOk.or{CX:CXT}{k:Nat}{f:PK}{fd:F8}{ps:PP Str}{sp sp':Sp}(F:FnOk P w K mg base CX k f fd ps sp)(G:FnOk P w K mg base CX k f fd ps sp'):FnOk P w K mg base CX k f fd ps (λ vs H Q E=>sp vs H Q E\/sp' vs H Q E) :=
 %[λ vs H Q E h=>h.elim (F.len vs H Q E) (G.len vs H Q E)|λ A outer s H args us vs Q E hr he hb hv hs=>hs.elim (F.run A outer s H args us vs Q E hr he hb hv) (G.run A outer s H args us vs Q E hr he hb hv)]
variable{N:PP Str}{qual:Str}{scope:Scope}{f:PK}{cd:G0}{A:Around}{outer:PP Env}{s₀:F6}{H₀:Hp}{E:XK}
theorem fu{e:Expr}{tx:TX}(he:PEx (fQ (CXx P w) P w K mg base N qual scope f cd A outer s₀ H₀ E) e tx):PE (fQ (CXx P w) P w K mg base N qual scope f cd A outer s₀ H₀ E) e (λ σ H Q=>tx σ H Q E) :=
 λ PR s σ H Q I h=>Po (he PR s σ H Q E I h) (λ _ _ z=>z) λ v s1 hx=>xf hx
end
theorem qD{f:PP V->HO}(hf:∀xs ys,f xs=f ys->xs=ys){l:PK}{xs:PP V}{σ:St}{cap:PP Nat}{k:Nat}{g:TG}{tt:TT}{te:TE}{Q:PP V->Hp->Prop}{H:Hp}(Pv:Nat->PP V->Hp->Prop)
  (hk:∀i zs H',Pv i zs H'->H' l=some (f xs)) (h0:Pv 0 [] H)
  (hz:∀i zs H',i < xs.length->Pv i zs H'->zs.length < sizeLine)
  (ht:∀i x p zs H',xs[i]?=some x->H' p=none->Pv i zs H'->g (.ref p) (cD σ cap k) (upd H' p (.tup [.int i,x])) λ σ2 H2=>leS (cD σ cap k) σ2/\tt σ2 H2 λ ok H3=>if ok=true then te σ2 H3 (λ v H4=>Nx xs.length Pv i (zs ++ [v]) H4)else Nx xs.length Pv i zs H3)
  (hd:∀zs H',Pv xs.length zs H'->zs.length<=sizeLine/\Q zs H'):∃W,(∃m,W 0 m [] H)/\iK σ cap k (Ite f l) g tt te Q W:=by
 show%[λ i m zs H'=>m=xs.length - i/\i<=xs.length/\Pv i zs H',%[_,O,E8 _|h0]|?_];rintro i m zs H' ⟨rfl,hi,p⟩;have e1:=hk i zs H' p
 by_cases hlt:i < xs.length
 ·have hx:xs[i]?=some xs[i]:=by simp[hlt]
  show .inr %[%[xs,_,e1|hx],hz i zs H' hlt p|λ v H2 yl=>?_]
  ·obtain⟨q,xs',x,hq,rfl,rfl,e1',ex⟩:=yl;rw[e1]at e1';have e2:=hf _ _ (B8 e1');subst e2;exact ht i x q zs H' ex hq p
 ·have e:i=xs.length:=⋯
  subst e;obtain⟨a1,a2⟩:=hd zs H' p;exact .inl %[%[xs,e1|B3 _],a1|a2]
section
variable{X:Cx}
inductive rz_call_reprN(K:C5)(xs:PP V)(H:Hp)(Q:VK):Prop
|mk(a d:_)(_:xs=[.ref a])(_:DatV K H (.ref a) d)(_:d.showable=true)(_:d.hasDict=false)(_:d.depth<=200)(_:d.shown.length<=sizeLine)(_:Q (.str d.shown) H)
theorem eh(hg:X.A.guards=some [])(hu:X.A.units+220 < cLine):cU X (.builtin "repr") (rz_call_reprN X.K):=by intro PR s σ H xs us Q I r h;obtain⟨a,d,rfl,hd,h1,h2,h3,h4,q⟩:=h;obtain⟨u,rfl,rfl⟩:=dN r;obtain⟨as,ra⟩:=I.reads hd (u:=.ref a) rfl;exact repr_of_reads' ra h1 (λ z=>by rw[h2]at z;cases z) hg ⋯ (λ _ _ e=>e) (λ h' u tk hk=>%[.str d.shown,H,I.kept hk,%[_|O]|q]) h4
end
end L2
namespace L2
open PySem PySem.Spec PyProof.Rows PySem.SeqAt
section
variable{X:Cx}
inductive rz_op_neN(K:C5)(x:V)(y:V)(H:Hp)(Q:VK):Prop
|mk(da db:_)(_:DatV K H x da)(_:DatV K H y db)(_:da.canLay0=true)(_:db.canLay0=true)(_:da.depth<=210)(_:Q (.bl (!PyData.eqv da db)) H)
theorem zy(hu:X.A.units+220 < cLine):OpR X (compareOp .NotEq) (rz_op_neN X.K):=by intro PR s σ H x y v u Q I rx ry h;obtain⟨da,db,hx,hy,s1,s2,dz,q⟩:=h;obtain⟨as,ra⟩:=I.reads hx rx;obtain⟨bs,rb⟩:=I.reads hy ry;exact compareNe_reads ra rb s1 s2 (by have:min da.depth db.depth<=da.depth:=Nat.min_le_left _ _;omega) %[.bl _,H,I,rfl|q]
end
end L2
namespace L2
open PySem PySem.Spec PyProof.Rows
theorem qE{X:Cx}(K:C5){x y z:Str}{px py pz pos pos2:Pos}{k k2:Nat}(hK:X.K=K)(hc:X.calm=true)(hN:X.N.Nodup)(h0:X.N[0]?=some x)(h1:X.N[1]?=some y)(h2:X.N[2]?=some z)(l0:X.env.scope.names.lookup x=some .local)(l1:X.env.scope.names.lookup y=some .local)(l2:X.env.scope.names.lookup z=some .local) :
  PG X (.Tuple [.Name x px,.Tuple [.Name y py,.Name z pz] k2 pos2] k pos) (gTup K 2 (gCons (cB 0) (gCons (gTup K 2 (gCons (cB 1) (gCons (cB 2) mV))) mV))) :=
 hK ▸ bf hc (ah (ai hN h0 (.inl l0) (.inr l0)) (ah (bf hc (ah (ai hN h1 (.inl l1) (.inr l1)) (ah (ai hN h2 (.inl l2) (.inr l2)) aQ))) aQ))
end L2
namespace PySem
open PySem.W PyProof.Rows
section
variable{prog:F7}{w:F9}{A:Around}{E:G0->F6->Prop}{s:F6}{d:PK}{es:PN DictEntry}{ep:Nat}
def OKE(d:PK)(es:PN DictEntry)(ep:Nat)(h:Heap):Prop:=∃o,h.get? d=some o/\o.ExactDict/\o.data=.dict es ep
theorem zA(hh:A.handled=none)(I d:PK)(hne:d≠I)(es:PN DictEntry)(ep:Nat) :
  Walks prog w A I [I,d] [I] es.size (λ i v=>∃en,es[i]?=some en/\en.key=v) (λ i h=>h.IsKeyIter I d i es.size ep/\OKE d es ep h) where
 sub:=λ b hb=>by simp at hb;simp[hb]
 frame:=λ _ _ _ st hk=>%[st.1.at λ o e=>hk I (by simp) o e|let ⟨o,e,x⟩:=st.2;%[o,hk d (by simp) o e|x]]
 item:=λ i s Q E hi st hQ=>by
  obtain⟨en,hx⟩:∃en,es[i]?=some en:=%[es[i]|M0 hi]
  show dS st.1 st.2 hx λ h' hit' hs'=>?_;exact hQ en.key h' s.toks %[en,hx|O] %[hit'|let ⟨o,e,x⟩:=st.2;%[o,hs'.extBut d o hne e|x]] λ b o hb e=>hs'.extBut b o (λ h=>hb (by simp[h])) e
 done:=λ s Q E st hQ=>eg hh st.1 st.2 (N7 (B3 _)) λ h' he'=>hQ h' s.toks λ b o hb e=>he' b o (λ h=>hb (by simp[h])) e
 self:=λ _ _ _ _ st hQ=>wpAny_pyIter_keyiter st.1 hQ
theorem LL(lo:(d == sysModules)=false):KdlSrc prog w "dict" d d es.size (λ i v=>∃en,es[i]?=some en/\en.key=v) (OKE d es ep) where
 type:=λ _ ⟨o,e,c,_⟩=>%[o,e|c.1]
 there:=λ _ ⟨o,e,_⟩=>%[A9 e|A9 e]
 keep:=λ _ _ ⟨o,e,x⟩ hk=>%[o,hk d (.inl rfl) o e|x]
 notList:=∅
 notTuple:=∅
 hint:=λ _ _ _ _ ⟨o,e,c,_⟩ hq=>kdl_hint_dict %[o,e|c.1] hq
 iter:=λ _ _ hh hm=>%[_,_,(λ _ _ hq=>fV lo hm hq),zA hh _ d (let ⟨_,e,_⟩:=hm;B9 (A9 e)) es ep|%[%[_,A8 _ rfl,O|O]|let ⟨o,e,x⟩:=hm;%[o,A7 _ e|x]]]
theorem uI{α:Type}{T:String}{r d:PK}{n:Nat}{OK:Heap->Prop}{xs:PN α}{f:α->G0}(src:KdlSrc prog w T r d n (λ i v=>∃e,xs[i]?=some e/\f e=v) OK)(en:xs.size=n){Q:PP G0->F6->Prop}(hh:A.handled=none)(hm:OK s.heap)(hn:n<=sizeLine)
  (h:∀h' tk,(∀b o,s.heap.get? b=some o->h'.get? b=some o)->s.heap.objs.size<=h'.objs.size->Q (xs.toList.map f) { s with heap:=h',toks:=tk }):wpAny (model prog w) A (collect (.ref r)) Q E s:=by
 unfold collect;show A0 (wpAny_runValue (codeAny_builtin F.entry_proto_collect ?_));rw[Around.under_plainId F.plain_proto_collect _];change wpAny _ A.in1 (newList [] >>= λ l=>again (.builtin "list.__iadd__" %[[l,.ref r]|[]])) _ _ s;show A0 (F4 ?_);show A2 %[plainId_quiet F.plain_list_iadd _|codeAny_builtin F.entry_list_iadd ?_];rw[Around.under_plainId F.plain_list_iadd _];change wpAny _ A.in1 (Builtin.List.listExtendWith (.ref s.heap.objs.size) (.ref r) (.ref s.heap.objs.size)) _ _ { s with heap:=s.heap.push (seqObj "list" #[] 0) };obtain⟨rl,dl⟩:=src.there _ hm;have hS:(s.heap.push (seqObj "list" #[] 0)).get? s.heap.objs.size=some (seqObj "list" #[] 0):=A8 _ rfl;show kdl_extend (R:=λ r s'=>match r with
  | .ok (.ret v)=>wpAny (model prog w) A (match v with
   | .ref a=>do match (<- load a).data with
    | .seq xs _=>pure xs.toList
    | _=>unsupported "internal:collect"
   | _=>unsupported "internal:collect") Q E s'
  | .ok _=>False
  | .error e=>E e s') (s:={ s with heap:=s.heap.push (seqObj "list" #[] 0) }) src (by exact hh) (src.keep _ _ hm λ b _ o e=>A7 _ e) s.heap.objs.size (N2 rl) (N2 dl) (.ref s.heap.objs.size) 0 hS (λ h' tk acc' c' hk hS' hacc=>?_) hn
 have ea:acc'.toList=xs.toList.map f:=by
  show List.ext_getElem? λ j=>?_;rw[J1,M9,M9]
  by_cases c:j < n
  ·have c2:j < acc'.size:=by rw[hacc.1];exact c
   obtain⟨en,e1,e2⟩:=hacc.2 j acc'[j] (M0 c2);rw[e1,M0 c2,<- e2]
   rfl
  ·rw[N7 (by rw[hacc.1];omega),N7 ⋯]
   rfl
 change wpAny (model prog w) A (do
   let o<-load s.heap.objs.size
   match o.data with
   | .seq xs _=>pure xs.toList
   | _=>unsupported "internal:collect") Q E { s with heap:=h',toks:=tk }
 show A0 (wpAny_load hS' ?_);change wpAny _ _ (pure acc'.toList) Q E _;rw[ea];exact A2 (h h' tk (λ b o e=>hk b o (B9 (A9 e)) (A7 _ e)) (C8 (A9 hS')))
theorem uJ{Q:PP G0->F6->Prop}(lo:(d == sysModules)=false)(hh:A.handled=none)(hm:OKE d es ep s.heap)(hn:es.size<=sizeLine)
  (h:∀h' tk,(∀b o,s.heap.get? b=some o->h'.get? b=some o)->s.heap.objs.size<=h'.objs.size->Q (es.toList.map (·.key)) { s with heap:=h',toks:=tk }):wpAny (model prog w) A (collect (.ref d)) Q E s :=
 uI (LL lo) rfl hh hm hn h
end
end PySem
namespace HT
open PySem PyProof.Rows
section
variable{prog:F7}{w:F9}{A:Around}{E:G0->F6->Prop}{s:F6}
theorem getItem_tuple_whole{t sl:PK}{items:PN G0}{vl vu:G0}{lo hi:PM Int}{Q:G0->F6->Prop}(ht:IsTup s.heap t items)(hs:s.heap.IsSliceOf sl vl vu .none)(pl:IsPart vl lo)(pu:IsPart vu hi)
  (hw:sIx items.size 0 lo=0/\sIx items.size items.size hi=items.size)
  (h:Q (.ref t) s)
  (hsz:items.size<=sizeLine):wpAny (model prog w) A (getItem (.ref t) (.ref sl)) Q E s:=by
 have hj:sIx items.size items.size hi<=items.size:=tW _ _ (B3 _) hi;obtain⟨os,hos,hcs,hds⟩:=id hs;have hTs:s.TypeIs (.ref sl) "slice" := %[os,hos|hcs]
 unfold getItem
 try with_reducible show Ph ?_
 first | show A0 (A2 ?_) | skip
 show A0 (wpAny_sequenceKey ht.typeIs ∅ ?_);show A0 (wpAny_callSpecial?_slot (name:=Str.ofString "__getitem__") ht.typeIs Pu
  (F3 Pu ht.typeIs entry_tuple_getitem ?_ (args_tuple_getitem _ _)))
 change wpAny _ _ (Builtin.Tuple.tupleItemsOf (.ref t) >>= _) _ _ s;show A0 (tupleItemsOf_ ht ?_);show A0 (wpAny_typeOf hTs ?_);rw[Pa ∅];show A0 (dO hs pl pu ?_);have hyes:(((sIx items.size 0 lo:Nat):Int) == 0 && (1:Int) == 1 && (sIx items.size items.size hi - sIx items.size 0 lo) == items.size)=true:=by rw[hw.1,hw.2];simp
 change wpAny _ _ (if (((sIx items.size 0 lo:Nat):Int) == 0 && (1:Int) == 1 && (sIx items.size items.size hi - sIx items.size 0 lo) == items.size)=true then _ else _) _ _ s;rw[Pa hyes];unfold Builtin.Tuple.tupleIsExact;show A0 (A0 (wpAny_typeOf ht.typeIs (A2 ?_)));rw[Pa ∅]
 first
  | exact A0 (P8 (A2 ⟨_,rfl,A2 h⟩))
  | exact A0 (P8 (A0 (A2 ⟨_,rfl,A2 h⟩)))
  | exact A0 (A0 (P8 (A2 (A2 ⟨_,rfl,A2 h⟩))))
end
end HT
namespace L2
open PySem PySem.Spec PyProof.Rows PySem.SeqAt
theorem nU{xs:PP V}{lo hi:PM Int}(h:HT.sIx xs.length 0 lo=0/\HT.sIx xs.length xs.length hi=xs.length):lR xs lo hi=xs:=by unfold lR;rw[h.1,h.2,List.drop_zero,Nat.sub_zero,J9]
def LM:V->PM Int->PM Int->Hp->VK->Prop:=λ x lo hi H Q=>∃a xs,x=.ref a/\H a= ~~~xs/\∀p H',H' p= ~~~(lR xs lo hi)->Same H H'->Q (.ref p) H'
theorem xh{X:Cx}:SlR X LM:=by
 intro PR s σ H x v vl vu lo hi sl Q I rx hs pl pu h;obtain⟨a,xs,rfl,hx,q⟩:=h
 by_cases hw:HT.sIx xs.length 0 lo=0/\HT.sIx xs.length xs.length hi=xs.length
 ·cases rx;obtain⟨its,r,ht,hz⟩:=I.tuple (G2 hx);have PV:its.toArray.size=xs.length:=by rw[I9];exact r.length.symm
  show%["tuple",_,PyProof.Rows.slot_tuple_getitem.lookup,ht.typeIs|?_];show HT.getItem_tuple_whole ht hs pl pu (by rw[PV];exact hw) ?_ (by rw[PV];exact hz);exact%[.ref a,H,I,O|q _ _ (by rw[nU hw];exact hx) (Same.refl _)]
 ·exact iH PR s σ H _ v vl vu lo hi sl Q I rx hs pl pu %[a,xs,rfl,G2 hx,hw|λ p hp=>q p _ au λ b u e=>by rw[aw (ao e hp)];exact e]
end L2
namespace PyProof.Rows
open PySem
section
variable{prog:F7}{w:F9}{A:Around}{E:G0->F6->Prop}{s:F6}{a₀:PN PL}
@[reducible] def uK:KeyKind where
 α:=Int
 blt a b:=decide (a < b)
 irrefl:=by simp
 trans:=by simp only[decide_eq_true_eq];omega
 negTrans:=by simp only[decide_eq_true_eq];omega
 total:=by simp only[decide_eq_false_iff_not];omega
 keyOf v:=match v with
  | .int n _=>some n
  | _=>none
 dflt:=0
theorem nV:cQ prog w A s oneType' uK:=by intro E x y a b Q ha hb h;cases x <;> cases ha;cases y <;> cases hb;rw[keyLt'_oneType];exact oneLt_int h
theorem hG:∀{vs:PP G0}{ns:Q9},IntsAre vs ns->∀(i:Nat)(n:Int),ns[i]?=some n->∃t,vs[i]?=some (.int n t)
 | _,_,.nil,i,n,h=>by simp at h
 | _,_,.cons m t r,0,n,h=>by cases h;exact%[t|O]
 | _,_,.cons m t r,i+1,n,h=>hG r i n (by simpa using h)
theorem qF{vs:PP G0}{ns:Q9}(hI:IntsAre vs ns)(hup:ns.Pairwise (·<=·)):SortedToK uK (pairsOf vs) (pairsOf vs).size:=by
 intro i j hij hj;rw[pairsOf_size,hI.length]at hj;have kk:∀i (hi:i < ns.length),KK uK (pairsOf vs) i=ns[i]:=λ i hi=>by
  obtain⟨t,e⟩:=hG hI i ns[i] (F1 hi);unfold KK;rw[<- M9,pairsOf_toList,show(vs.zip vs)[i]?=some (.int ns[i] t,.int ns[i] t)from OT.mpr %[e|e]]
  rfl
 rw[kk i ⋯,kk j hj];show B1 (Int.not_lt.mpr ?_)
 by_cases c:i=j
 ·subst c;exact E5 _
 ·exact List.pairwise_iff_getElem.mp hup i j ⋯ hj ⋯
theorem zB(xs:PN PL)(i:Nat)(h:∀p∈xs.toList,∃n t,p.1=.int n t):KK uK xs i=K xs i:=by
 unfold KK K;cases e:xs[i]? with
 | none=>rfl
 | some p=>
  obtain⟨n,t,q⟩:=h p (by rw[<- M9]at e;exact B5 e);dsimp only;rw[q]
  rfl
theorem uL{d:PK}{es:PN DictEntry}{ep:Nat}{ns:Q9}{Q:G0->F6->Prop}(lo:(d == sysModules)=false)(hh:A.handled=none)(hm:OKE d es ep s.heap)(hI:IntsAre (es.toList.map (·.key)) ns)(h64:ns.length < 4096)(hup:ns.Pairwise (·<=·))
  (h:∀(out:PN G0)(L:PK)(h':Heap)(tk e:Nat),IntsAre out.toList ns->(∀b o,s.heap.get? b=some o->h'.get? b=some o)->s.heap.objs.size<=L->h'.get? L=some (seqObj "list" out e)->Q (.ref L) { s with heap:=h',toks:=tk }) :
  wpAny (model prog w) A (call (.builtin "sorted") [.ref d]) Q E s:=by
 have hl:=hI.length;have hsz:es.size<=sizeLine:=by
  rw[G6,N4]at hl;have z:(4096:Nat)<=sizeLine:=∅
  omega
 show Calls.call_function_entry kind_sorted plain_sorted entry_sorted (args_sorted1 _) ?_;unfold Builtin.«sorted»;show A0 (m:=checkCount "sorted" 1 1 _) (A2 ?_);show A0 (uJ lo (by exact hh) hm hsz λ h1 tk k1 hle=>?_);generalize es.toList.map (·.key)=vs at *;show A0 (wpAny_newList ?_);have hoL:(h1.push (seqObj "list" vs.toArray 0)).get? h1.objs.size=some (seqObj "list" vs.toArray 0):=A8 _ rfl;change wpAny _ _ _ _ _ { s with heap:=h1.push (seqObj "list" vs.toArray 0),toks:=tk };show A0 (Ph (F3 slot_list_sort %[_,hoL|rfl] entry_list_sort (eI hoL (λ p hp=>let ⟨n,_,e⟩:=hI.intKeys p hp;%[n|by rw[e]]) (λ s' _=>%[nV|λ v1 v2 r e Q q=>by subst e;rw[keyKind_ints hI];exact A2 q]) (.inr (qF hI hup)) ⋯ λ st' a1 a2=>%[_,O|?_]) (args_list_sort _)));have kk:∀i,KK uK (arrOf st') i=K (arrOf st') i:=λ i=>zB _ _ λ p hp=>hI.intKeys p ((Array.perm_iff_toList_perm.mp a1).mem_iff.mp hp);obtain⟨ns',a3,a4,a5⟩:=sorted_out hI a1 λ i j h1 h2=>by rw[<- kk,<- kk];exact Int.not_lt.mp (of_decide_eq_false (a2 i j h1 h2))
 generalize(arrOf st').map (·.2)=out at *;obtain⟨e,he⟩:=sortedHeap_at (out:=out) (vs:=vs) hoL;have en:ns'=ns:=a4.eq_of_pairwise (λ a b _ _ h1 h2=>Int.le_antisymm h1 h2) a5 hup;show A2 %[_,rfl|h out h1.objs.size _ tk e (by rw[<- en];exact a3) (λ b o eb=>?_) hle he];have:=A9 (k1 b o eb);rw[sortedHeap_old (B9 this) (by rw[size_push'];exact OV this)];exact A7 _ (k1 b o eb)
end
end PyProof.Rows
namespace L2
open PySem PySem.Spec PyProof.Rows
theorem jT{P:F7}{w:F9}:∀{es:PP DictEntry}{vs:PP (Key×G0)}{ns:Q9},PySem.Pairs (bK P w) es vs->vs.map (·.1)=ns.map Sum.inl->IntsAre (es.map (·.key)) ns
 | [],[],ns,_,e=>by cases ns with
  | nil=>exact .nil
  | cons _ _=>cases e
 | d :: es,v :: vs,ns,.cons k _ r,e=>by cases ns with
  | nil=>cases e
  | cons n ns=>
   rw[J3,J3]at e;injection e with e1 e2
   rw[e1]at k;obtain⟨t,et⟩:=Bi k;rw[J3,et];exact .cons n t (jT r e2)
section
variable{X:Cx}
inductive rSortDK(xs:PP V)(H:Hp)(Q:VK):Prop
|mk(p:PK)(kvs:PP (Key×V))(ns:Q9)(_:xs=[.ref p])(_:Rd H p (.dK kvs))(_:kvs.map (·.1)=ns.map Sum.inl)(_:ns.Pairwise (·<=·))(_:ns.length < 4096)(_:∀l,H l=none->Q (.ref l) (upd H l (.lst (ns.map V.int))))
theorem dM(hc:X.calm=true):cU X (.builtin "sorted") rSortDK:=by
 intro PR s σ H xs us Q I r h;obtain⟨p,kvs,ns,rfl,hp,ek,up,h64,q⟩:=h;obtain⟨u,rfl,ru⟩:=dN r;cases ru;obtain⟨z,hd,vs,rel,o,es,ep,d1,d2,d3,d4,d5,d6⟩:=iW I.hok hp;have kk:vs.map (·.1)=kvs.map (·.1):=by
  clear d5 d6 d4 d3 d2 d1 z ek q hp
  induction rel with
  | nil=>rfl
  | cons h _ ih=>rw[J3,J3,ih,h.1]
 show uL hd (I.ok.hd hc) %[o,d1,d2|d3] (jT d5 (by rw[kk,ek])) h64 up λ out L h' tk e hI kp hL he=>?_;show%[.ref L,_,I.laid (o:=.lst (ns.map V.int)) (t':=tk) kp hL %[?_,out.toList,e,gK hI|by rw[Array.toArray_toList];exact he],O|q L (I.hok.fresh hL)];rw[G6];have:(4096:Nat)<=sizeLine:=∅
 omega
inductive rDictK(xs:PP V)(H:Hp)(Q:VK):Prop
|mk(a:PK)(kvs:PP (Key×V))(_:xs=[.ref a])(_:Rd H a (.dK kvs))(_:∀p,H p=none->Q (.ref p) (upd H p (.dK kvs)))
theorem nW:cU X (.type "dict") rDictK:=by intro PR s σ H xs us Q I r h;obtain⟨a,kvs,rfl,ha,q⟩:=h;obtain⟨u,rfl,ru⟩:=dN r;cases ru;exact uD I ha λ p s' hp I'=>%[.ref p,_,I',O|q p hp]
def zC:pV:=λ o i v H Q=>∃a H',o=.ref a/\zr H a i v H'/\Q H'
theorem gu(hu:X.A.units+1 < cLine):wD X zC:=by intro PR s σ H x y v ov iv u Q I ro ri rv h;obtain⟨a,H',rfl,g,q⟩:=h;cases ro;exact jP hu I g ri rv λ s' I'=>%[H',I'|q]
inductive rEqNil(x y:V)(H:Hp)(Q:VK):Prop
|mk(a b:PK)(us:PP V)(_:x=.ref a)(_:y=.ref b)(ha:H a=↥us)(hb:H b=↥[])(q:Q (.bl us.isEmpty) H)
theorem jd(hu:X.A.units+64 < cLine):OpR X (compareOp .Eq) rEqNil:=by
 intro PR s σ H x y v u Q I rx ry h;obtain⟨a,b,us,rfl,rfl,ha,hb,q⟩:=h;cases rx;cases ry;obtain⟨its,rv,⟨o,m,e1,c1,_,d1⟩,_⟩:=I.list (G3 (K:=X.K) ha);obtain⟨its',rv',⟨o',m',e1',c1',_,d1'⟩,_⟩:=I.list (G3 (K:=X.K) hb);cases rv';cases rv with
 | nil=>
  have:=PySem.SeqAt.RcAt.lists (A:=X.A) (s:=s) (e:=λ _=>true) %[o,e1,c1,m|d1] %[o',e1',c1',m'|d1'] rfl ⋯ (λ j h1 h2=>absurd h1 (by simp));exact this X.prog X.w _ _ %[.bl true,H,I,rfl|q]
 | cons r rs=>
  have:=PySem.SeqAt.RcAt.lists_lengths (A:=X.A) (s:=s) %[o,e1,c1,m|d1] %[o',e1',c1',m'|d1'] (by simp) ⋯;exact this X.prog X.w _ _ %[.bl false,H,I,rfl|q]
end
end L2
namespace L2
open PySem PySem.Spec PyProof.Rows PySem.SeqAt
section
variable{X:Cx}{PR:RC}{σ:St}{H:Hp}{s:F6}
def PrQ(H:Hp)(z:V)(q:Int×Bool):Prop:=∃b,z=.ref b/\H b= ~~~[.int q.1,.bl q.2]
def ePQ(H:Hp)(i:Int)(c:Bool):G0->Bool
 | .ref b=>match H b with
  | some (.tup [.int j,.bl d])=>j == i && d == c
  | _=>false
 | _=>false
theorem pb{i:Int}{c:Bool}:∀{zs:PP V}{qs:PP (Int×Bool)}{its:PP G0},Paired (PrQ H) zs qs->Vals zs its->its.any (ePQ H i c)=qs.any λ q=>q.1 == i && q.2 == c
 | _,_,_,.nil,.nil=>rfl
 | _,_,_,.cons ⟨b,e,h⟩ r,.cons r1 rs=>by subst e;cases r1;rw[PB,PB,pb r rs];unfold ePQ;dsimp only;rw[h]
inductive rz_op_notInQ(x y:V)(H:Hp)(Q:VK):Prop
|mk(a l:PK)(i:Int)(c:Bool)(zs:PP V)(qs:PP (Int×Bool))(_:x=.ref a)(_:y=.ref l)(_:H a= ~~~[.int i,.bl c])(_:H l=↥zs)(_:Paired (PrQ H) zs qs)(_:Q (.bl (!qs.any λ q=>q.1 == i && q.2 == c)) H)
theorem qG(hu:X.A.units+65 < cLine):OpR X (compareOp .NotIn) rz_op_notInQ:=by
 intro PR s σ H x y v u Q I rx ry h;obtain⟨a,l,i,c,zs,qs,rfl,rfl,ha,hl,pq,q⟩:=h;cases rx;cases ry;obtain⟨its,rv,⟨o,n,e,cl,_,d⟩,_⟩:=I.list (G3 hl);obtain⟨ias,rva,⟨oa,ea,ca,na,da⟩,_⟩:=I.tuple (G2 ha);show notIn_listAt (ePQ H i c) %[o,e,cl,n|d] (λ y hy=>?_) ?_
 ·obtain⟨j,hj⟩:=K6.mp (show y∈its by simpa using hy);obtain⟨z,hz⟩:∃z,zs[j]?=some z:=%[_|F1 (by have:=rv.length;have:=(A6.mp hj).1;omega)]
  obtain⟨y',hy',rz⟩:=rv.get hz;obtain rfl:y'=y:=by rw[hj]at hy';exact(B8 hy').symm
  obtain⟨q',hq,b,rfl,hb⟩:=Pc.Paired.getR pq hz;cases rz;rw[show ePQ H i c (.ref b)=(q'.1 == i && q'.2 == c)by unfold ePQ;dsimp only;rw[hb]];obtain⟨ibs,rvb,⟨ob,eb,cb,nb,db⟩,_⟩:=I.tuple (G2 hb);cases rva with | cons ra1 ra=>cases ra with | cons ra2 ra=>cases ra with | nil=>cases rvb with | cons rb1 rb=>cases rb with | cons rb2 rb=>cases rb with | nil=>
  obtain⟨t,et⟩:=(show∃t,_=Value.int q'.1 t from rb1)
  subst et;obtain⟨t',et⟩:=(show∃t,_=Value.int i t from ra1)
  subst et;cases rb2;cases ra2
  by_cases hab:b=a
  ·subst hab;rw[ha]at hb;injection hb with hb
   injection hb with hb
   injection hb with h1 h2
   injection h1 with h1
   injection h2 with h2
   injection h2 with h2
   rw[<- h1,<- h2,beq_self_eq_true,beq_self_eq_true];exact EqAt.same _
  ·show EqAt.of_refs hab ?_;have:=RcAt.tuples (A:=X.A.in1) (s:=s) (e:=λ j=>if j=0 then q'.1 == i else q'.2 == c) %[ob,eb,cb,nb|db] %[oa,ea,ca,na|da] (show X.A.units+1 < cLine by omega) (λ j h1 h2=>?_)
   ·have hh:∀p r:Bool,(((List.range (min 2 2)).all λ j=>if j=0 then p else r) && (2 == 2))=(p && r):=λ p r=>by cases p <;> cases r <;> rfl
    rw[<- hh];exact this
   ·have:j=0\/j=1:=by have:j < 2:=h1;omega
    rcases this with rfl | rfl
    ·exact EqAt.int_int _ _ _ _
    ·exact EqAt.bool_bool _ _
 ·rw[List.any_toArray,pb pq rv];exact%[.bl _,H,I,O|q]
end
end L2
namespace PySem
def itO:Bool->PK->Obj
 | true,l=>{ cls:=.type "tuple_iterator",data:=.fields #[.ref l,.int 0 0] }
 | false,l=>{ cls:=.type "list_iterator",data:=.fields #[.ref l,.int 0 0] }
theorem ItA.new:∀{b:Bool}{h:Heap}{a l:PK},h.get? a=some (itO b l)->ItA b h a l 0
 | true,_,_,_,e=>%[_,e,O|O]
 | false,_,_,_,e=>%[_,e,O|O]
section
variable{prog:F7}{w:F9}{A:Around}{E:G0->F6->Prop}{s:F6}
theorem jU:∀{b:Bool}{l:PK}{items:PN G0}{Q:G0->F6->Prop},SqA b s.heap l items->Q (.ref s.heap.objs.size) { s with heap:=s.heap.push (itO b l) }->wpAny (model prog w) A (pyIter (.ref l)) Q E s
 | true,_,_,_,hl,h=>wpAny_pyIter_tuple hl h
 | false,_,_,_,hl,h=>wpAny_pyIter_list hl h
structure Zn(b c:Bool)(l1 l2:PK)(h h':Heap)(z TI TO i1 i2:Nat):Prop where
 st:StZ .none z TI TO [(b,i1,l1),(c,i2,l2)] 0 h'
 n1:h.objs.size<=i1
 n2:i1 < i2
 n3:i2 < TI
 n4:TI < TO
 n5:TO < z
 keep:∀a o,h.get? a=some o->h'.get? a=some o
theorem uM(b c : Bool)(l1 l2 : PK) : Meets (Builtin.«zip.__new__» %[[.type "zip",.ref l1,.ref l2]|[]]) (λ _ R s=>(∃ xs,SqA b s.heap l1 xs) /\ (∃ xs,SqA c s.heap l2 xs) /\
   ∀h' z TI TO i1 i2,Zn b c l1 l2 s.heap h' z TI TO i1 i2->R (.ok (.ret (.ref z))) { s with heap:=h' }) :=
 .of_wp λ prog w A R s h=>by
  obtain⟨⟨xs,x⟩,⟨ys,y⟩,h⟩:=h;unfold Builtin.«zip.__new__» Builtin.SmallTypes.newClass;simp only[isType,sub_zip,pure_bind];change wpAny _ _ (Builtin.SmallTypes.iterAll [.ref l1,.ref l2] >>= _) _ _ _;unfold Builtin.SmallTypes.iterAll;simp only[List.forIn_cons,List.forIn_nil,bind_assoc,pure_bind];show A0 (Ph (jU x ?_));show A0 (Ph (jU (y.at λ o e=>A7 _ e) ?_));have nine:9<=sizeLine:=∅
  show A0 (wpAny_newTuple ?_ (C6 (by simp) nine));show A0 (wpAny_newTuple ?_ (C6 (by simp) nine));generalize h1:s.heap.push _=g1;generalize h2:g1.push _=g2;generalize h3:g2.push _=g3;generalize h4:g3.push _=g4;change wpAny _ _ (newObj (.type "zip") (.fields #[.none,.bool false,.bool false,.ref g2.objs.size,.ref g3.objs.size]) >>= _) _ _ _;show A0 (F4 ?_);have p1:g1.objs.size=s.heap.objs.size+1:=h1 ▸ Pr ..;have p2:g2.objs.size=g1.objs.size+1:=h2 ▸ Pr ..;have p3:g3.objs.size=g2.objs.size+1:=h3 ▸ Pr ..;have p4:g4.objs.size=g3.objs.size+1:=h4 ▸ Pr ..;have u2:∀a o,g1.get? a=some o->g2.get? a=some o:=λ a o e=>h2 ▸ A7 _ e;have u3:∀a o,g2.get? a=some o->g3.get? a=some o:=λ a o e=>h3 ▸ A7 _ e;have u4:∀a o,g3.get? a=some o->g4.get? a=some o:=λ a o e=>h4 ▸ A7 _ e;have k1:g1.get? s.heap.objs.size=some (itO b l1):=h1 ▸ A8 _ (by cases b <;> rfl);have k2:g2.get? g1.objs.size=some (itO c l2):=h2 ▸ A8 _ (by cases c <;> rfl);show A2 %[_,rfl|h _ g4.objs.size g2.objs.size g3.objs.size s.heap.objs.size g1.objs.size %[%[A8 _ rfl,A7 _ (u4 _ _ (h3 ▸ A8 _ rfl)),%[[.none,.none],rfl|A7 _ (h4 ▸ A8 _ rfl)]|λ p hp=>?_],B3 _,⋯,⋯,⋯,⋯|λ a o e=>A7 _ (u4 _ _ (u3 _ _ (u2 _ _ (h1 ▸ A7 _ e))))]];simp only[G7,C1,Pl]at hp;rcases hp with rfl | rfl
  ·exact .new (A7 _ (u4 _ _ (u3 _ _ (u2 _ _ k1))))
  ·exact .new (A7 _ (u4 _ _ (u3 _ _ k2)))
theorem xi{b c:Bool}{l1 l2:PK}{Q:G0->F6->Prop}(h1:∃xs,SqA b s.heap l1 xs)(h2:∃xs,SqA c s.heap l2 xs)(h:∀h' z TI TO i1 i2,Zn b c l1 l2 s.heap h' z TI TO i1 i2->Q (.ref z) { s with heap:=h' }) :
  wpAny (model prog w) A (call (.type "zip") [.ref l1,.ref l2]) Q E s :=
 callType_new F.called_zip ∅ (F.typeCall_zip_2 _ _) (F.newCall_zip_2 _ _) (λ obj=>F.args_object_init_3 obj _ _) F.entry_zip_new (uM b c l1 l2) %[h1,h2|λ h' z TI TO i1 i2 Z=>show _/\_ from%[%[_,Z.st.1|rfl]|h h' z TI TO i1 i2 Z]]
end
end PySem
namespace L2
open PySem PySem.Spec PyProof.Rows
theorem Inv.sqs{X:Cx}{PR:RC}{σ:St}{H:Hp}{s:F6}(I:Inv X PR σ H s){b:Bool}{l:PK}{xs:PP V}(e:H l=some (sqO b xs)):∃its:PP G0,Vals xs its/\SqA b s.heap l its.toArray:=by
 cases b
 ·obtain⟨its,r,p,_⟩:=I.list (G3 e);exact%[its,r|p.isList]
 ·obtain⟨its,r,p,_⟩:=I.tuple (G2 e);exact%[its,r|p]
theorem StZ.objs{f:G0}{z TI TO:PK}{its:PP (Bool×PK×PK)}{i:Nat}{h:Heap}(st:StZ f z TI TO its i h):∀a∈fpZ z TI TO its,∃o,h.get? a=some o/\∀v,o.data≠.cell v:=by
 obtain⟨a1,a2,⟨os,_,a3⟩,a4⟩:=st;intro a ha;simp only[G7]at ha;rcases ha with rfl | rfl | rfl | ha
 ·exact%[_,a1|λ v q=>by cases q]
 ·exact%[_,a2|λ v q=>by cases q]
 ·exact%[_,a3|λ v q=>by cases q]
 ·obtain⟨p,hp,rfl⟩:=M4.mp ha;exact(a4 p hp).obj
theorem xk{P:F7}{w:F9}{K:C5}{es:PP Expr}{kk:Nat}{tp:Pos}{b c:Bool}{z TI TO i1 i2 l1 l2:PK}(nd:[z,TI,TO,i1,i2].Nodup) :
  Turn P w K (.Tuple es kk tp) (sqE b c l1 l2) [z,TI,TO,i1,i2] z (StZ .none z TI TO [(b,i1,l1),(c,i2,l2)]) where
 mem:=by simp
 obj:=λ i h st=>StZ.objs st
 keep:=λ i h h' st k=>by obtain⟨a1,a2,⟨os,l,a3⟩,a4⟩:=st;exact%[k z (by simp) _ a1,k TI (by simp) _ a2,%[os,l|k TO (by simp) _ a3]|λ p hp=>(a4 p hp).at λ o e=>k _ (B4 z (B4 TI (B4 TO (N5 (f:=λ p=>p.2.1) hp)))) o e]
 item:=by
  intro X hP hw hK hc i PR s σ H E I hf st ⟨xs,ys,x,y,e1,e2,ex,ey⟩;subst hP hw hK;obtain⟨t1,r1,q1⟩:=I.sqs e1;obtain⟨t2,r2,q2⟩:=I.sqs e2;obtain⟨u1,g1,v1⟩:=r1.get ex;obtain⟨u2,g2,v2⟩:=r2.get ey;show gX (I.ok.hd hc) nd (by simp) (by simp) st (λ p hp hb=>?_) (vs:=[u1,u2]) (B3 2) (λ j p e=>?_) (λ _ h' ⟨b1,b2,⟨ot,ol,b3⟩,b4⟩ b5 bk=>%[_,O|?_]) λ h=>by simp at h
  ·have:=(hf _ hb).1;simp only[G7,C1,Pl]at hp;rcases hp with rfl | rfl
   ·rw[e1]at this;cases this
   ·rw[e2]at this;cases this
  ·match j with
   | 0=>cases e;exact%[_,q1|λ _=>by simpa using g1]
   | 1=>cases e;exact%[_,q2|λ _=>by simpa using g2]
   | j+2=>simp at e
  ·have lt:=λ a ha=>let ⟨o,ho,_⟩:=StZ.objs st a ha;A9 ho
   show wpAny_letOwnedTupleGo_zip b1 λ h'' c1 cs=>?_;have zn:=(K8.mp nd).1;have up:∀a o,a≠z->h'.get? a=some o->h''.get? a=some o:=cs.extBut;have I1:Inv X PR σ H { s with heap:=h'' }:=I.turnedN (t':=s.toks) hf λ a o ha e=>up a o (λ e'=>ha (by simp[e'])) (bk a o ha e);have hn:H s.heap.objs.size=none:=I.hok.fresh (B3 _);have I2:Inv X PR σ (upd H s.heap.objs.size (.tup [x,y])) { s with heap:=h'' }:=I1.track (I.fpOk (H':=H) (B3 _) hn) I.sz %[by change 2<=sizeLine;decide,[u1,u2],.cons v1 (.cons v2 .nil),_,up _ _ (N2 (lt z (by simp))) b5,O,_|O];show%[.ref s.heap.objs.size,_,I2,O,%[_,xs,ys,x,y,hn,O,O,e1,e2,ex|ey],%[c1,up _ _ (λ e=>zn (by simp[e])) b2,%[ot,ol|up _ _ (λ e=>zn (by simp[e])) b3]|λ p hp=>(b4 p hp).at λ o e=>up _ o (λ e'=>zn (e' ▸ B4 TI (B4 TO (N5 (f:=λ p=>p.2.1) hp)))) e]|λ a ha=>?_];rw[aw (B9 (lt a ha))];exact(hf a ha).1
 done:=by
  intro X hP hw hK hc i PR s σ H E I hf st ⟨xs,ys,e1,e2,hl⟩;subst hP hw hK;obtain⟨t1,r1,q1⟩:=I.sqs e1;obtain⟨t2,r2,q2⟩:=I.sqs e2;have l1:=r1.length;have l2:=r2.length;obtain⟨vs,hv,g1,g2⟩:∃vs:PP G0,vs.length < 2/\t1[i]?=vs[0]?/\(1<=vs.length->t2[i]?=vs[1]?):=by
   cases h:t1[i]? with
   | none=>exact%[[],by simp,O|λ z=>by simp at z]
   | some u=>
    have:=(A6.mp h).1;exact%[[u],by simp,O|λ _=>C9 ⋯]
  show gX (I.ok.hd hc) nd (by simp) (by simp) st (λ p hp hb=>?_) (vs:=vs) (by simp;omega) (λ j p e=>?_) (λ h=>by simp at h;omega) λ _ h' bk=>%[O|I.turnedN (t':=s.toks) hf bk]
  ·have:=(hf _ hb).1;simp only[G7,C1,Pl]at hp;rcases hp with rfl | rfl
   ·rw[e1]at this;cases this
   ·rw[e2]at this;cases this
  ·match j with
   | 0=>cases e;exact%[_,q1|λ _=>by simpa using g1]
   | 1=>cases e;exact%[_,q2|λ z=>by simpa using g2 z]
   | j+2=>simp at e
 self:=λ _ _ _ _ _ st h=>wpAny_pyIter_zip st.1 h
theorem nd5{z TI TO i1 i2:Nat}(a:i1 < i2)(b:i2 < TI)(c:TI < TO)(d:TO < z):[z,TI,TO,i1,i2].Nodup:=by simp;omega
theorem uN{X:Cx}(bb cc:Bool){a b:Expr}{ta:TA}{p pos tp:Pos}{es:PP Expr}{kk:Nat}(hg:Gl X "zip")(hm:X.mg "zip" = none)(ha:PA X [a,b] ta)
  (hs:starEach [a,b] X.env=[(false,eval a X.env),(false,eval b X.env)]:=by rfl) (hs2:starEach [b] X.env=[(false,eval b X.env)]:=by rfl) :
  PI X (.Tuple es kk tp) (.Call (.Name "zip" p) [a,b] [] pos) (λ σ H R=>ta σ H λ vs H1=>∃l1 l2 xs ys,vs=[.ref l1,.ref l2]/\H1 l1=some (sqO bb xs)/\H1 l2=some (sqO cc ys)/\R (sqE bb cc l1 l2) H1):=by
 intro PR s σ H R I h;show Call_ (fI I hg hm PyProof.Rows.boot_zip (Pt (thn (ha pos PR s σ H _ I h) ?_) (by rw[hs,hs2]) (by rw[hs2];rfl)));rintro us s1 ⟨vs,H1,I1,r1,l1,l2,xs,ys,ev,e1,e2,q⟩;subst ev;obtain⟨u1,u2,rfl,v1,v2⟩:=tR r1;cases v1;cases v2;show xi (b:=bb) (c:=cc) (let ⟨_,_,z⟩:=I1.sqs e1;%[_|z]) (let ⟨_,_,z⟩:=I1.sqs e2;%[_|z]) λ h' z TI TO i1 i2 Z=>?_;obtain⟨st,n1,n2,n3,n4,n5,k⟩:=Z;have old:∀a∈[z,TI,TO,i1,i2],s1.heap.objs.size<=a:=λ a ha=>by simp only[G7,C1,Pl]at ha;rcases ha with rfl | rfl | rfl | rfl | rfl <;> omega
 exact wpAny_pyIter_zip st.1 %[z,_,_,_,H1,O,I1.kept (t':=s1.toks) k,xk (nd5 n2 n3 n4 n5),st,λ a ha=>I1.fpOk (old a ha) (I1.hok.fresh (old a ha))|q]
theorem kY{b c:Bool}{l1 l2:PK}{xs ys:PP V}{σ:St}{cap:PP Nat}{k:Nat}{g:TG}{tt:TT}{te:TE}{Q:PP V->Hp->Prop}{H:Hp}(Pv:Nat->PP V->Hp->Prop)(hn:xs.length=ys.length)
  (hk:∀i zs H',Pv i zs H'->H' l1=some (sqO b xs)/\H' l2=some (sqO c ys)) (h0:Pv 0 [] H)
  (hz:∀i zs H',i < xs.length->Pv i zs H'->zs.length < sizeLine)
  (ht:∀i x y p zs H',xs[i]?=some x->ys[i]?=some y->H' p=none->Pv i zs H'->g (.ref p) (cD σ cap k) (upd H' p (.tup [x,y])) λ σ2 H2=>leS (cD σ cap k) σ2/\tt σ2 H2 λ ok H3=>if ok=true then te σ2 H3 (λ v H4=>Nx xs.length Pv i (zs ++ [v]) H4)else Nx xs.length Pv i zs H3)
  (hd:∀zs H',Pv xs.length zs H'->zs.length<=sizeLine/\Q zs H'):∃W,(∃m,W 0 m [] H)/\iK σ cap k (sqE b c l1 l2) g tt te Q W:=by
 have inj:∀{d:Bool}{as bs:PP V},sqO d as=sqO d bs->as=bs:=λ {d as bs} e=>by cases d <;> (cases e;rfl)
 show%[λ i m zs H'=>m=xs.length - i/\i<=xs.length/\Pv i zs H',%[_,O,E8 _|h0]|?_];rintro i m zs H' ⟨rfl,hi,p⟩;obtain⟨e1,e2⟩:=hk i zs H' p
 by_cases hlt:i < xs.length
 ·show .inr %[%[xs,ys,_,_,e1,e2,F1 hlt|F1 (hn ▸ hlt)],hz i zs H' hlt p|λ v H2 ⟨q,xs',ys',x,y,hq,ev,eH,e1',e2',ex,ey⟩=>?_];subst ev eH;rw[e1,OX]at e1';rw[e2,OX]at e2';cases inj e1';cases inj e2';exact ht i x y q zs H' ex ey hq p
 ·obtain rfl:i=xs.length:=⋯
  obtain⟨a1,a2⟩:=hd zs H' p;exact .inl %[%[xs,ys,e1,e2|.inl (B3 _)],a1|a2]
section
variable{X:Cx}{e:Expr}{tx:TX}{ts:PK->TS}{j:Nat}{m y:Str}{CE:PK}{b₀:Stmt}{suite:PP Stmt}{h₀:ExceptHandler}{more:PP ExceptHandler}{np mp hpos epos pos:Pos}{th:G0->PK->TS}
def PHs(X:Cx)(hs:PP ExceptHandler)(th:G0->PK->TS):Prop:=∀PR σ D H0 s0 ea c H' B s1 a0 h5,Inv X PR σ H0 s0->Flew X.prog X.w X.stack H0 s0 ea c H' B s1->Heap.FlyingW B (X.env :: X.outer) ea c a0 h5->s1.heap.UpToSlots h5->Q2 ea h5->th c ea D σ H'->wpAny (model X.prog X.w) X.A (handleBy (.ref ea) X.env hs) (SP X PR D) X.xe { s1 with heap:=h5 }
theorem yJ{hs:PP ExceptHandler}:PHs X hs λ _ _ _ _ _=>False:=λ _ _ _ _ _ _ _ _ _ _ _ _ _ _ _ _ _ z=>z.elim
theorem kZ(hg:Gl X y)(hm:X.mg y=↑CE)(hsu:∀ea,PSs (X.marked ea) (b₀ :: suite) (ts ea))(hmo:PHs X more th)(hd:(y == ("__debug__" : Str))=false:=by decide) :
  PHs X (.ExceptHandler (some (.Name y np)) none (b₀ :: suite) hpos :: more) λ c ea D σ H=>(PySem.W.exmOne X.K c (.ref CE)=some true/\ts ea D σ H)\/(PySem.W.exmOne X.K c (.ref CE)=some false/\th c ea D σ H):=by
 intro PR σ D H0 s0 ea c H' B s1 a0 h5 I0 f fl5 sm5 q5 hq;have I5:Inv X PR σ H' { s1 with heap:=h5 }:=f.inv (t:=s1.toks) I0 fl5.1 sm5;obtain⟨ob,hob,hobc⟩:=fl5.there;show wpAny_handleBy_cons (codeAny_handlers_test (ff (X:=X.marked ea) (I5.mark ea) hg hm ?_ hd)) (by intro q;cases q);have LT:PySem.W.Looks (model X.prog X.w) h5 (typeOf (.ref ea)) c:=hobc ▸ (PySem.W.Looks.ld hob).andThen .now;rcases hq with⟨hm1,q⟩ | ⟨hm0,q⟩
 ·show(PySem.W.exm_one (M:=model X.prog X.w) I5.kIn LT hm1).here ?_;change codeAny _ _ _ _ _;show codeAny_handlers_suite ?_;show kQ fl5 q5 λ h6 fl6 sm6 q6=>?_;have I6:Inv X PR σ H' { s1 with heap:=h6 }:=f.inv (t:=s1.toks) I0 fl6.1 (sm5.trans sm6);show Po (hsu ea PR _ _ _ _ (I6.mark ea) q) (λ fl s8 hq=>?_) λ _ _ z=>E7 z;cases fl with
  | ret u=>
   obtain⟨v,σ',H'',J,r,q'⟩:=hq;exact%[_,_,_,J.unmark I5.ok,r|q']
  | _=>
   obtain⟨σ',H'',J,q'⟩:=hq;exact%[_,_,J.unmark I5.ok|q']
 ·exact(PySem.W.exm_one (M:=model X.prog X.w) I5.kIn LT hm0).here (hmo PR σ D H0 s0 ea c H' B s1 a0 h5 I0 f fl5 sm5 q5 q)
theorem pd(hst:X.stack=X.env :: X.outer)(hfr:X.env.frame=some X.env.locals)(he:PEx X e tx)(hN:X.N.Nodup)(hj:X.N[j]?=some m)(hl:X.env.scope.names.lookup m=some .local)(hh:PHs X (h₀ :: more) th)(hs:swapsWith e (some (.Name m mp)) epos.line X.env=pure false:=by rfl) :
  PS X (.Try [.Assign [.Name m mp] e epos] (h₀ :: more) [] [] pos) λ D σ H=>tx σ H (λ v H1=>D.nx (σ.set j (some v)) H1) λ c _ H1=>∀ea,H1 ea=none->th c ea D σ H1:=by
 intro PR s σ H D I h;show wpAny_Try_except (wpAny_execs_cons (wpAny_Assign_Name (Po (he PR s σ H _ _ I h) (λ v s1 ⟨x,H1,I1,r1,q1⟩=>?_) λ v s1 hx=>?_) hs))
 ·exact eM I1 hN hj (.inl hl) r1 (λ s2 I2=>P7 (P7 %[_,H1,I2|q1])) (.inr hl)
 obtain⟨ea,c,H0,H',B,s0,rfl,I0,f,q⟩:=hx;obtain⟨a0,fl⟩:=f.fly;rw[hst]at fl;show qt (by rw[<- hst];exact I.ok.frames) hfr fl f.ctx λ h4 held4 sm4 q4=>?_;exact zo held4 q4 λ h5 fl5 sm5 q5=>hh PR σ D H0 s0 ea c H' B s1 a0 h5 I0 f fl5 (sm4.trans sm5) q5 (q ea f.new.2)
end
def zD(ta:TA):TI:=λ σ H R=>ta σ H λ vs H1=>∃l xs,vs=[.ref l]/\H1 l=↥xs/\R (Ite .lst l) H1
theorem mv{X:Cx}{a:Expr}{ta:TA}{p pos tp:Pos}{es:PP Expr}{kk:Nat}(hg:Gl X "enumerate")(hm:X.mg "enumerate" = none)(ha:PA X [a] ta)
  (hs:starEach [a] X.env=[(false,eval a X.env)]:=by rfl) :
  PI X (.Tuple es kk tp) (.Call (.Name "enumerate" p) [a] [] pos) (zD ta):=by
 intro PR s σ H R I h;show Call_ (fI I hg hm PyProof.Rows.boot_enumerate (Pt (thn (ha pos PR s σ H _ I h) ?_) (by rw[hs];rfl) (by rfl)));rintro us s1 ⟨vs,H1,I1,r1,l,xs,ev,e1,q⟩;subst ev;obtain⟨u,rfl,r⟩:=dN r1;cases r;obtain⟨its1,rv1,p1,_⟩:=I1.list (G3 e1);show call_enumerate_list p1.isList λ h' z1 z2 sz keep=>?_;show wpAny_pyIter_enum z1 %[s1.heap.objs.size+1,[s1.heap.objs.size+1,s1.heap.objs.size],_,_,H1,rfl,I1.kept (t':=s1.toks) keep,nL l _ _ (Nat.succ_ne_self _),%[%[_|z1]|z2],λ b hb=>?_|q];have hb':s1.heap.objs.size<=b:=by simp only[G7,C1,Pl]at hb;rcases hb with rfl | rfl <;> omega
 exact I1.fpOk hb' (I1.hok.fresh hb')
end L2
namespace Pc
open PySem L2
def top(i:Nat):Stmt:=PySem.Challenge.pw_platecuts_k85_stores_told.main.body.getD i (.Pass %[0,0,0|0])
abbrev Bj:Stmt:=top 0
abbrev lg:Stmt:=top 11
abbrev lh:Stmt:=top 12
abbrev xo:Stmt:=top 13
abbrev cF:Stmt:=top 14
abbrev ij:Stmt:=top 19
abbrev fz:Stmt:=top 20
abbrev dI:Stmt:=top 27
abbrev li:Stmt:=top 28
abbrev ik:Stmt:=top 29
abbrev de:Stmt:=top 30
abbrev fA:Stmt:=top 31
abbrev cR:Stmt:=top 32
abbrev fB:Stmt:=top 33
abbrev fC:Stmt:=top 35
abbrev dC:Stmt:=top 36
abbrev dU:Stmt:=top 37
abbrev im:Stmt:=top 43
abbrev io:Stmt:=top 44
abbrev dW:Stmt:=inClass (top 45) 0
abbrev ej:Stmt:=inClass (top 45) 1
abbrev el:Stmt:=inClass (top 45) 2
abbrev my:Stmt:=inClass (top 45) 3
abbrev mz:Stmt:=inClass (top 45) 4
abbrev dg:Stmt:=inClass (top 45) 5
abbrev eA:Stmt:=inClass (top 45) 6
abbrev pi:Stmt:=top 47
abbrev xq:Stmt:=top 48
abbrev pj:Stmt:=top 49
abbrev pC:Stmt:=top 50
abbrev pE:Stmt:=top 51
abbrev lm:Stmt:=top 52
abbrev pF:Stmt:=top 53
abbrev lq:Stmt:=top 54
abbrev ip:Stmt:=top 55
abbrev iq:Stmt:=top 56
abbrev pG:Stmt:=top 57
abbrev jV:Stmt:=top 58
abbrev lr:Stmt:=top 59
abbrev gw:Stmt:=top 60
abbrev jW:Stmt:=top 61
abbrev ir:Stmt:=top 62
abbrev lx:Stmt:=top 63
abbrev pH:Stmt:=top 64
abbrev pI:Stmt:=top 65
abbrev xu:Stmt:=top 66
abbrev uO:Stmt:=top 67
abbrev iu:Stmt:=top 68
abbrev fW:Stmt:=top 69
abbrev lz:Stmt:=top 70
abbrev fX:Stmt:=top 71
abbrev iw:Stmt:=top 72
abbrev ix:Stmt:=top 73
abbrev cG:Stmt:=top 74
abbrev je:Stmt:=top 75
abbrev pJ:Stmt:=top 76
abbrev mB:Stmt:=top 77
theorem bF{CX:_}{P:F7}{w:F9}{K:C5}{mg:Str->PM G0}{base:Heap}{N:PP Str}{qual:Str}{scope:Scope}{f:PK}{cd:G0}{A:Around}{outer:PP Env}{s₀:F6}{H₀:Hp}{E:XK}:(fQ CX P w K mg base N qual scope f cd A outer s₀ H₀ E).nox.K=K:=rfl
@[elab_as_elim] theorem aK{H:Hp}{t:PK}{o:HO}{P:Hp->Prop}(ht:H t=none)(h:∀H',H' t=some o->Same H H'->P H'):P (upd H t o):=h _ au (G1 ht)
section
variable{P:F7}{w:F9}{K:C5}{mg:Str->PM G0}{base:Heap}
structure Blt(mg:Str->PM Value):Prop where
 isi:mg "isinstance" = none
 int:mg "int" = none
 bool:mg "bool" = none
 list:mg "list" = none
 tuple:mg "tuple" = none
 len:mg "len" = none
 range:mg "range" = none
 max:mg "max" = none
 min:mg "min" = none
 abs:mg "abs" = none
 divmod:mg "divmod" = none
 sum:mg "sum" = none
 sorted:mg "sorted" = none
 all:mg "all" = none
 repr:mg "repr" = none
 zip:mg "zip" = none
 enumerate:mg "enumerate" = none
 mostk:∃t,mg "MOST_KINDS" = some (.int 8 t)
 fivek:∃t,mg "THINGS_OF_A_KIND" = some (.int 5 t)
theorem Bk{H H':Hp}{p:PK}(s:Same H H'):But p H H':=λ c o _ e=>s c o e
theorem cg{t u:TS}{D:Ends}{σ:St}{H:Hp}(C:(St->Hp->Prop)->Prop)(h1:∀R:St->Hp->Prop,C R->t { D with nx:=R } σ H)(h2:C (u D)):tJ t u D σ H:=h1 _ h2
theorem ar{t u:TS}{D:Ends}{σ:St}{H:Hp}(C:(St->Hp->Prop)->Prop)(h1:∀D':Ends,C D'.nx->t D' σ H)(h2:C (u D)):tJ t u D σ H:=h1 _ h2
theorem cS{P:Prop}(h:∀G:Prop,(P->G)->G):P:=h P id
theorem bn{t u:TS}{D:Ends}{σ:St}{H:Hp}(J:St->Hp->Prop)(h1:∀R:St->Hp->Prop,(∀σ' H',J σ' H'->R σ' H')->t { D with nx:=R } σ H)(h2:∀σ' H',J σ' H'->u D σ' H'):tJ t u D σ H:=h1 _ h2
theorem xw:FnScope PX PX (defScope lg):=nofun
theorem uP{f:PK}{fd:F8}(F:Fun K "is_whole" "is_whole" lg f fd)(B:Blt mg):FnOk P w K mg base CX0 1 f fd PX (cJ K):=by
 exists xw;obtain⟨x,T,l,rfl,⟨tn,ty⟩,q⟩:=h;show⟨_,ag (ay (cO (aD bi rfl B.isi Pb (aa '0' (aa (bS (v:=.ty "int") rfl B.int Pg rfl) ad)))
  (cO (mU (aD bi rfl B.isi Pb (aa '0' (aa (bS (v:=.ty "bool") rfl B.bool Pz rfl) ad))))
  (dk (bB jD '0' '1' (aH _)))))),?_⟩
 show%[_,O,x,_,_,_,_,O,ty,O,oS T tn,_,O|?_];have tb:=oT ty;show cV (λ c=>?_) (λ c=>?_)
 ·show%[_,O,x,_,_,_,_,O,ty,O,dP T tn,_,O,_,O|?_];show cV (λ c2=>?_) (λ c2=>?_)
  ·have hT:(T == "int")=true:=by
    have:(T == "bool")=false:=by simpa using c2
    rw[this,Bool.or_false]at c;exact c
   obtain⟨i,rfl⟩:=zk ty tn hT;exact%[_,O,_,O,_,_,O,O|q]
  ·have hT:qp x=true:=by
    rw[<- tb];cases e:(T == "bool")with
    | true=>rfl
    | false=>rw[e]at c2;exact absurd rfl c2
   cases x <;> first | exact q | (exact absurd hT B2)
 ·have hx:aX x l=false:=by
   cases x with
   | int i=>
    exfalso;have ty':=ty;generalize hv:Value.type T=tv at ty';cases ty' with
    | int=>cases hv;exact c rfl
   | _=>rfl
  rw[hx]at q;exact q
theorem xz:FnScope QA QA (defScope lh):=nofun
theorem uQ{f:PK}{fd:F8}(F:Fun K "is_truth" "is_truth" lh f fd)(B:Blt mg):FnOk P w K mg base CX0 1 f fd QA (kO K):=by
 exists xz;obtain⟨x,T,rfl,⟨tn,ty⟩,q⟩:=h;show%[_,ag (ay (aD bi rfl B.isi Pb (aa '0' (aa (bS (v:=.ty "bool") rfl B.bool Pz rfl) ad))))|?_];show%[_,O,x,_,_,_,_,O,ty,O,dP T tn|?_];rw[oT ty];exact q
theorem Bl:FnScope QA QA (defScope xo):=nofun
theorem zE{f:PK}{fd:F8}(F:Fun K "is_row" "is_row" xo f fd)(B:Blt mg):FnOk P w K mg base CX0 1 f fd QA (oU K):=by
 exists Bl;obtain⟨x,T,rfl,ty,q⟩:=h;show%[_,ag (ay (aD kM rfl B.isi Pb (aa '0' (aa (aI (aa (bS (v:=.ty "list") rfl B.list Pk rfl) (aa (bS (v:=.ty "tuple") rfl B.tuple Pi rfl) ad))) ad))))|?_];show%[_,O,zS2|λ p hp=>?_];have s1:Same H (upd H p (.tup [.ty "list",.ty "tuple"])):=λ b o e=>by rw[aw (ao e hp)];exact e
 have t2:=Ty.same s1 ty;exact%[x,p,_,_,_,_,O,t2.2,au,O,wR T ty.1|q _ s1]
theorem scIsKind:FnScope ["thing","wide","high","worth","wanted","turns"] QA (defScope im):=nofun
theorem qH{f:PK}{fd:F8}(F:Fun K "is_kind" "is_kind" im f fd)(B:Blt mg)(DW:Dn P w K mg base "is_whole" PX 1 (cJ K))(DT:Dn P w K mg base "is_truth" QA 1 (kO K))(DR:Dn P w K mg base "is_row" QA 1 (oU K)) :
  FnOk P w K mg base CX0 2 f fd QA (iN K):=by
 exists scIsKind;obtain⟨x,T,rfl,ty,q⟩:=h;obtain⟨tk,htk⟩:=B.fivek;have nd:=scIsKind.nd;show⟨_,ae (aO (PW.pt (bQ (bh (aV (ax DR hr rfl (aa '0' ad)))) (bT (aJ eQ (aD aY rfl B.len Pj (aa '0' ad)) (ce (v:=.int 5) rfl htk %[tk|O]) (aH _))))) (ag (ay bP)) aG)
  (ae (bA '0' (nH rfl (ah (ai (i:=1) nd rfl (Or.inl rfl)) (ah (ai (i:=2) nd rfl (Or.inl rfl)) (ah (ai (i:=3) nd rfl (Or.inl rfl)) (ah (ai (i:=4) nd rfl (Or.inl rfl)) (ah (ai (i:=5) nd rfl (Or.inl rfl)) aQ)))))))
  (ae (aO (PW.pt (bQ (bh (aV (ax DW hr rfl (aa '1' (aa af ad))))) (bT (bh (aV (ax DW hr rfl (aa '2' (aa af ad)))))))) (ag (ay bP)) aG)
  (ag (ay (cO (ax DW hr rfl (aa '3' (aa af ad))) (cO (ax DW hr rfl (aa '4' (aa af ad))) (dk (ax DT hr rfl (aa '5' ad))))))))),?_⟩
 show%[_,O,x,T,O,ty|λ H1 s1=>%[_,O|?_]];rcases q with⟨n1,n2,q⟩ | ⟨a,xs,rfl,hx,its,q⟩
 ·have e:(T == "list" || T == "tuple")=false:=by simp[n1,n2]
  rw[e];show aU (aU ?_);exact q H1 s1
 ·have e:(T == "list" || T == "tuple")=true:=by
   have t2:=ty.2;generalize hv:Value.type T=tv at t2;generalize hr:V.ref a=rv at t2;cases t2 with
   | lst _=>cases hv;rfl
   | frz _=>cases hv;rfl
   | tup _=>cases hv;rfl
   | dK e=>cases hr;rcases hx with z | z <;> (rw[z]at e;cases e)
   | ins=>cases hv
   | _=>cases hr
  rw[e];have sq:SqL K H1 a xs\/SqT K H1 a xs:=by
   rcases hx with z | z
   ·exact .inl (G3 (s1 _ _ z))
   ·exact .inr (G2 (s1 _ _ z))
  show aT %[_,rfl,a,xs,rfl,sq,rfl,_,rfl|?_];show cV (λ c=>?_) (λ c=>?_)
  ·have hl:xs.length≠5:=λ z=>by rw[z]at c;exact absurd c ∅
   have:jO xs=false:=by
    unfold jO
    split
    ·exact absurd rfl hl
    ·rfl
   rw[this]at q;exact q H1 s1
  ·have hl:xs.length=5:=by
    by_cases z:xs.length=5
    ·exact z
    ·exfalso;show c ?_;have:¬ (V.int (xs.length:Int)=V.int 5):=λ h=>z (by have:=V.int.inj h;omega);rw[Pf this];rfl
   obtain⟨x1,x2,x3,x4,x5,rfl⟩:∃x1 x2 x3 x4 x5,xs=[x1,x2,x3,x4,x5]:=by
    match xs,hl with
    | [a,b,c,d,e],_=>exact%[a,b,c,d,e|O]
   obtain⟨T1,t1⟩:=its x1 (by simp);obtain⟨T2,t2⟩:=its x2 (by simp);obtain⟨T3,t3⟩:=its x3 (by simp);obtain⟨T4,t4⟩:=its x4 (by simp);obtain⟨T5,t5⟩:=its x5 (by simp);show%[_,O,a,_,O,sq,O,x1,_,O,x2,_,O,x3,_,O,x4,_,O,x5,_,O,O|?_];show%[_,O,x1,T1,1,O,Ty.same s1 t1,_,O|?_];have q':∀b,jO [x1,x2,x3,x4,x5]=b->Q (.bl b) H1:=λ b e=>by rw[<- e];exact q H1 s1
   have k5:jO [x1,x2,x3,x4,x5]=(aX x1 1 && aX x2 1 && aX x3 0 && aX x4 0 && qp x5):=rfl;cases w1:aX x1 1 with
   | false=>
    show aU (aU ?_);exact q' false (by rw[k5,w1];rfl)
   | true=>
    show aT %[_,rfl,x2,T2,1,rfl,Ty.same s1 t2,_,rfl|?_];cases w2:aX x2 1 with
    | false=>
     show aU ?_;exact q' false (by rw[k5,w1,w2];rfl)
    | true=>
     show aT %[_,rfl,x3,T3,0,rfl,Ty.same s1 t3,_,rfl|?_];cases w3:aX x3 0 with
     | false=>
      show aT ?_;exact q' false (by rw[k5,w1,w2,w3];rfl)
     | true=>
      show aU %[_,rfl,x4,T4,0,rfl,Ty.same s1 t4,_,rfl|?_];cases w4:aX x4 0 with
      | false=>
       show aT ?_;exact q' false (by rw[k5,w1,w2,w3,w4];rfl)
      | true=>
       show aU %[_,rfl,x5,T5,rfl,Ty.same s1 t5|?_];exact q' _ (by rw[k5,w1,w2,w3,w4];rfl)
theorem scInit:FnScope QB QC (defScope dW):=nofun
theorem xA{f C:PK}{fd:F8}(F:Fun K "__init__" "Shop.__init__" dW f fd)(B:Blt mg)(T:ShopTxt K C)(DW:Dn P w K mg base "is_whole" PX 1 (cJ K))(DR:Dn P w K mg base "is_row" QA 1 (oU K))
  (DK:Dn P w K mg base "is_kind" QA 2 (iN K)):FnOk P w K mg base CX0 3 f fd QC (nJ C):=by
 exists scInit;obtain⟨x,dx,ks,b,rs,kds,rfl,hx,b0,hks,hrs,hgd,n1,n8,q⟩:=h;have hr1:=hr.mono (show 1<=2 by decide);obtain⟨tk,htk⟩:=B.mostk;have nd:=scInit.nd;have n8':(8:Nat) < sizeLine:=∅
 show⟨_,ae (aO (bh (aV (ax DW hr1 rfl (aa '1' (aa af ad))))) gD aG)
  (ae (aO (PW.pt (bQ (bh (aV (ax DR hr1 rfl (aa '2' ad)))) (bT (bh (tQ gS gS af (aD aY rfl B.len Pj (aa '2' ad)) (ce (v:=.int 8) rfl htk %[tk|rfl])))))) gD aG)
  (ae (cP E4 rfl (uk '2') (ai (i:=3) nd rfl (Or.inl rfl)) (ag (aO (bh (aV (ax DK hr rfl (aa '3' ad)))) gD aG)))
  (ae (eR '0' '1' rfl)
  (ag (eR '0' (bg cw rfl B.tuple Pi (aa (cz (own:=QD) (cs:=[]) (cap:=[]) rfl (uk '2')
   (bj (sc:=defScope dW) (N:=QB) rfl rfl ∅)
   (λ _ _ _ _ _=>ai (i:=0) (by change List.Nodup (QD:PP Str);decide +kernel) rfl (Or.inl rfl) (Or.inr rfl)) (λ _ _ _ _ _=>bW)
   (λ _ _ _ _ _=>bg (r:=um K) cw rfl B.tuple Pi (aa '0' ad))) ad)) rfl))))),?_⟩
 show%[_,O,.int b,_,0,O,.int,_,O|?_];have wb:aX (.int b) 0=true:=B0 b0;rw[wb];show aT ?_;have tyk:∃T,Ty K H (.ref ks) T/\(T == "list" || T == "tuple")=true:=by
  rcases hks with e | e
  ·exact%[_,.lst e|O]
  ·exact%[_,.tup e|O]
 obtain⟨T0,ty0,te0⟩:=tyk;show%[_,O,.ref ks,T0,O,ty0|λ H1 s1=>%[_,O|?_]];rw[te0];have sq:∀{H2:Hp},Same H H2->SqL K H2 ks rs\/SqT K H2 ks rs:=λ s2=>by
  rcases hks with z | z
  ·exact .inl (G3 (s2 _ _ z))
  ·exact .inr (G2 (s2 _ _ z))
 show aT %[_,rfl,ks,rs,rfl,sq s1,_,_,rfl,rfl,_,rfl|?_];rw[PY (show(1:Int)<=(rs.length:Int)by omega)];show aU %[_,_,rfl,rfl,_,rfl|?_];rw[PY (show(rs.length:Int)<=8 by omega)];show aT ?_;have zX:=E3 hrs;show uo (j:=2) (a:=ks) (xs:=rs) rfl (hks.imp (λ z=>s1 _ _ z) λ z=>s1 _ _ z) (λ i σ H2=>∃v,σ=[↑x,⇑b,↑ks,v]/\Same H1 H2) %[none,rfl|Same.refl _] (λ i σ H2 _ ⟨_,_,s2⟩ o e=>s2 _ _ e) ?_ ?_
 ·rintro i y σ H2 hi ⟨v,rfl,s2⟩;obtain⟨k,hk,rk⟩:=G5 hrs hi;show%[_,O|?_];simp only[gI,K0];show qr ((rk.same s1).same s2) (hgd k (B5 hk)) λ H3 s3=>%[_,O|aT ?_]
  exact%[_,O|s2.trans s3]
 rintro σ H2 ⟨v,rfl,s12⟩;have s2:Same H H2:=s1.trans s12;show%[_,O,_,O,x,C,dx,[],O,s2 _ _ hx,T.cl,T.nB,(by change 0 < 1000;decide)|?_];have k3:∀c o,c≠x->H c=some o->(upd H2 x (.ins C dx (bN "blade_width" (.int b) []))) c=some o:=λ c o n e=>by rw[aw n];exact s2 c o e
 have x3:(upd H2 x (.ins C dx (bN "blade_width" (.int b) []))) x=some (.ins C dx (bN "blade_width" (.int b) [])):=au;generalize upd H2 x (.ins C dx (bN "blade_width" (.int b) []))=H3 at k3 x3 ⊢;have rx:∀c xs,H c=↥xs\/H c= ~~~xs->c≠x:=λ c xs e z=>by subst z;rcases e with e | e <;> (rw[hx]at e;cases e)
 dsimp only[AR,tCB,cf];show qq (j:=2) (a:=ks) (xs:=rs) rfl (hks.imp (λ z=>k3 _ _ (rx _ _ (.inl z)) z) λ z=>k3 _ _ (rx _ _ (.inr z)) z) (λ i ys H4=>ys.length=i/\Same H3 H4/\Tups H4 ys (kds.take i)) (λ i ys H4 _ ⟨_,s4,_⟩ o e=>s4 _ _ e) %[rfl,Same.refl _|.nil] ?_ ?_
 ·rintro i y ys H4 hi ⟨hy,s4,ty4⟩;have hin:i < rs.length:=(A6.mp hi).1;obtain⟨k,hk,rk⟩:=G5 hrs hi;have tk1:kds.take (i+1)=kds.take i ++ [k]:=by rw[J4,hk];rfl
  show%[⋯,leS.set rfl|bX ?_];rcases rk with⟨a,rfl,h⟩ | ⟨a,rfl,h⟩
  ·have h4:=s4 _ _ (k3 _ _ (rx _ _ (.inr h)) h);exact%[_,O,a,_,O|.inr %[G2 h4|Nx.of hin %[by rw[G8,hy];rfl,s4|by rw[tk1];exact Paired.snoc ty4 %[a,O|h4]]]]
  ·have h4:=s4 _ _ (k3 _ _ (rx _ _ (.inl h)) h);show%[_,O,a,_,O|.inl %[G3 h4|λ l hl=>Nx.of hin %[by rw[G8,hy];rfl,λ c o e=>?_|?_]]]
   ·have e4:=s4 c o e;rw[aw (ao e4 hl)];exact e4
   ·rw[tk1];exact Paired.snoc (Tups.keep (λ c xs e=>by rw[aw (ao e hl)];exact e) ty4) %[l,rfl|au]
 rintro ys H4 ⟨hy,s4,ty4⟩;show%[⋯|λ p hp=>?_];show%[p,ys,O|.inl %[G3 au|λ r hr'=>?_]];have hpr:r≠p:=λ z=>by rw[z,au]at hr';cases hr'
 have hr4:H4 r=none:=by rw[aw hpr]at hr';exact hr'
 have x4:=s4 _ _ x3;have xp:x≠p:=ao x4 hp;have xr:x≠r:=ao x4 hr4;show%[_,O,x,C,dx,_,O,(by rw[aw xr,aw xp];exact x4),T.cl,T.nK,(C7 (cj _ _ _) ∅)|?_];rw[zX,J9]at ty4;show q _ %[dx,r,ys,au,by rw[aw (Ne.symm xr),au]|?_] λ c o n e=>?_
 ·show Tups.keep (λ c xs e=>?_) ty4;rw[aw (λ z=>by rw[z,x4]at e;cases e),aw (ao e hr4),aw (ao e hp)];exact e
 ·have e4:=s4 _ _ (k3 c o n e);rw[aw n,aw (ao e4 hr4),aw (ao e4 hp)];exact e4
theorem xB:FnScope QE QE (defScope ej):=nofun
theorem uR{f C:PK}{fd:F8}(F:Fun K "blade" "Shop.blade" ej f fd)(T:ShopTxt K C):FnOk P w K mg base CX0 1 f fd QE (ig C):=by
 exists xB;obtain⟨x,b,ks,rfl,⟨dx,r,rs,h1,h2,h3⟩,q⟩:=h;exact%[_,ag (ay (bO '0' rfl)),_,O,x,C,dx,_,_,O,h1,T.cl,T.nB,iP _ _|q]
theorem xC:FnScope QE QE (defScope el):=nofun
theorem uS{f C:PK}{fd:F8}(F:Fun K "kinds" "Shop.kinds" el f fd)(T:ShopTxt K C)(ml:mg "list" = none):FnOk P w K mg base CX0 1 f fd QE (gq C):=by
 exists xC;obtain⟨x,b,ks,rfl,⟨dx,r,rs,h1,h2,h3⟩,q⟩:=h;show%[_,ag (ay (bg cI rfl ml Pk (aa (bO '0' rfl) ad)))|?_];exact%[_,O,x,C,dx,_,_,O,h1,T.cl,T.nK,fi _ _,r,rs,O,.inr (G2 h2)|λ l hl=>q l rs hl h3]
theorem uT:FnScope QD QD (defScope io):=nofun
theorem qI{f:PK}{fd:F8}(F:Fun K "can_lie_turned" "can_lie_turned" io f fd):FnOk P w K mg base CX0 1 f fd QD (lX K):=by
 exists uT;obtain⟨a,k,rfl,ha,q⟩:=h;show%[_,ag (ay (cO (aA ix_tup '0' af (λ _ _=>rfl)) (dk (bB eQ (aA ix_tup '0' af (λ _ _=>rfl)) (aA ix_tup '0' af (λ _ _=>rfl)) (aH _)))))|?_];show%[_,O,a,_,4,_,O,O,G2 ha,O,_,O|?_];unfold bL at q;show cV (λ c=>?_) (λ c=>?_)
 ·rw[c,N8]at q;show%[_,O,a,_,0,_,O,O,G2 ha,O,_,O,a,_,1,_,O,O,G2 ha,O,O|?_];rw[kC];rw[show(decide (k.w=k.h))=(k.w == k.h)from rfl]at q;exact q
 ·have c':k.tu=false:=by simpa using c
  rw[c',M8]at q;exact q
theorem qJ:FnScope QF QF (defScope dg):=nofun
theorem nX{f C:PK}{fd:F8}(F:Fun K "is_lying" "Shop.is_lying" dg f fd)(B:Blt mg)(T:ShopTxt K C)(DW:Dn P w K mg base "is_whole" PX 1 (cJ K))(DU:Dn P w K mg base "is_truth" QA 1 (kO K))(DT:Dn P w K mg base "can_lie_turned" QD 1 (lX K)) :
  FnOk P w K mg base CX0 2 f fd QF (fk K C):=by
 exists qJ;obtain⟨s,b,ks,x,t,T0,U,rfl,⟨dx,r,rs,h1,h2,h3⟩,tx,tt,q⟩:=h;have zY:=E3 h3;show⟨_,ae (aO (PW.pt (bQ (bh (aV (ax DW hr rfl (aa '1' (aa af ad))))) (bQ (aJ jD '1' (aD aY rfl B.len Pj (aa (bO '0' rfl) ad)) (aH _))
   (bT (bh (aV (ax DU hr rfl (aa '2' ad)))))))) (ag (ay bP)) aG)
  (ag (ay (AC (mU '2') (dk (ax DT hr rfl (aa (aA ix_tup (bO '0' rfl) '1' (λ _ _=>rfl)) ad)))))),?_⟩
 show%[_,O,x,_,0,O,tx,_,O|?_];cases hw:aX x 0 with
 | false=>
  have e:fE ks x t=false:=by
   cases x with
   | int i=>
    have h0:decide (0<=i)=false:=hw;cases t <;> first | rfl | (change(decide (0<=i) && _)=false;rw[h0,M8])
   | _=>rfl
  rw[e]at q;exact aU (aU q)
 | true=>
  have ex:∃i,x=.int i/\0<=i:=by
   cases x with
   | int i=>exact%[i,O|C0 hw]
   | _=>cases hw
  obtain⟨i,rfl,i0⟩:=ex;show aT %[_,rfl,_,rfl,s,C,dx,_,_,rfl,h1,T.cl,T.nK,fi _ _,r,rs,rfl,.inr (G2 h2),i,_,rfl,rfl,_,rfl|?_]
  by_cases hi:(rs.length:Int)<=i
  ·rw[PY hi];have e:fE ks (.int i) t=false:=by have hn:ks[i.toNat]?=none:=C9 ⋯;cases t <;> first | rfl | (change(decide (0<=i) && match ks[i.toNat]? with | some k=>_ | none=>false)=false;rw[hn,K4])
   rw[e]at q;exact aU (aU q)
  ·rw[Pf hi];show aT %[_,rfl,t,_,rfl,tt,_,rfl|?_];have hlt:i.toNat < ks.length:=⋯
   cases hb:qp t with
   | false=>
    have e:fE ks (.int i) t=false:=by cases t <;> first | rfl | cases hb
    rw[e]at q;exact aU q
   | true=>
    have ex:∃c,t=.bl c:=by cases t <;> first | exact%[_|O] | cases hb
    obtain⟨c,rfl⟩:=ex;obtain⟨y,hy⟩:∃y,rs[i.toNat]?=some y:=%[rs[i.toNat]'⋯|by simp[show i.toNat < rs.length by omega]]
    obtain⟨k,hk,a,rfl,ha⟩:=G5 h3 hy;have e:fE ks (.int i) (.bl c)=(!c || bL k):=by change(decide (0<=i) && match ks[i.toNat]? with | some k=>(!c || bL k) | none=>false)=_;rw[hk,PY i0,N8]
    rw[e]at q;show aT %[_,rfl,c,rfl,_,rfl|?_];show cV (λ d=>?_) (λ d=>?_)
    ·rw[d,Bool.true_or]at q;exact q
    ·have d':(!c)=false:=by simpa using d
     rw[d',Bool.false_or]at q;have at':atI rs i=↑a:=by
      have en:ixN rs.length i=some i.toNat:=by unfold ixN;rw[Pa i0,Pa ⋯]
      unfold atI;rw[en];exact hy
     exact%[_,O,s,C,dx,_,_,O,h1,T.cl,T.nK,fi _ _,_,O,r,rs,i,_,O,O,G2 h2,at',a,k,O,ha|q]
def uU(k:Kd)(c:Bool):PP V:=if c=true then[.int k.h,.int k.w]else[.int k.w,.int k.h]
inductive spSides(K:C5)(C:PK)(vs:PP V)(H:Hp)(Q:VK)(E_:XK):Prop
|mk(s:PK)(b:Int)(ks:PP Kd)(x t:V)(T U:String)(_:vs=[.ref s,x,t])(_:ShopAt C H s b ks)(_:Ty K H x T)(_:Ty K H t U)(_:fE ks x t=true)(_:∀(i:Int)(c:Bool)(k:Kd)(p:PK),x=.int i->t=.bl c->ks[i.toNat]?=some k->fE ks x t=true->H p=none->Q (.ref p) (upd H p (.tup (uU k c))))
theorem jX{ks:PP Kd}{x t:V}(h:fE ks x t=true):∃(i:Int)(c:Bool)(k:Kd),x=.int i/\t=.bl c/\0<=i/\ks[i.toNat]?=some k:=by
 unfold fE at h
 split at h
 ·rename_i i c
  rw[M6]at h;obtain⟨h1,h2⟩:=h
  split at h2
  ·rename_i k hk
   exact%[i,c,k,O,O,C0 h1|hk]
  ·cases h2
 ·cases h
theorem zF{rs:PP V}{i:Int}{v:V}(i0:0<=i)(h:rs[i.toNat]?=some v):atI rs i=some v:=by
 have en:ixN rs.length i=some i.toNat:=by unfold ixN;have:=(A6.mp h).1;rw[Pa i0,Pa ⋯]
 unfold atI;rw[en];exact h
theorem scSides:FnScope ["self","kind","turned","row"] QF (defScope eA):=nofun
theorem uV{f C:PK}{fd:F8}(F:Fun K "sides" "Shop.sides" eA f fd)(T:ShopTxt K C)(ML:Mn P w K mg base C "is_lying" QF 2 (fk K C)) :
  FnOk P w K mg base CX0 3 f fd QF (spSides K C):=by
 exists scSides;obtain⟨s,b,ks,x,t,T0,U,rfl,S,tx,tt,he,hq⟩:=h;show⟨_,ae (aO (bh (aV (iS '0' T.cl ML hr (aa '1' (aa '2' ad))))) (ag aP) aG)
  (ae (aE (i:=3) nd rfl (Or.inl rfl) (aA ix_tup (bO '0' rfl) '1' (λ _ _=>rfl)))
  (ae (aO (aV '2') (ag (ay (aI (aa (aA ix_tup '3' af (λ _ _=>rfl)) (aa (aA ix_tup '3' af (λ _ _=>rfl)) ad))))) aG)
  (ag (ay (aI (aa (aA ix_tup '3' af (λ _ _=>rfl)) (aa (aA ix_tup '3' af (λ _ _=>rfl)) ad))))))),?_⟩
 obtain⟨dx,r,rs,h1,h2,h3⟩:=id S;show%[_,O,s,dx,_,O,h1,cX _ _ ∅ ∅,_,O,_,O,s,b,ks,x,t,T0,U,O,S,tx,tt,_,O|?_];cases hl:fE ks x t with
 | false=>rw[hl]at he;cases he
 | true=>
  obtain⟨i,c,k,rfl,rfl,i0,hk⟩:=jX hl;have zY:=E3 h3;have hik:=(A6.mp hk).1;obtain⟨y,hy⟩:∃y,rs[i.toNat]?=some y:=%[rs[i.toNat]'⋯|by simp[show i.toNat < rs.length by omega]]
  obtain⟨k',hk',a,rfl,ha⟩:=G5 h3 hy;rw[hk]at hk';obtain rfl:=B8 hk';show aT ?_;show%[_,O,s,C,dx,_,_,O,h1,T.cl,T.nK,fi _ _,_,O,r,rs,i,_,O,O,G2 h2,zF i0 hy|?_];show%[_,O,_,O|?_];cases c with
  | true=>
   show aU ?_;show%[_,O,a,_,1,_,O,O,G2 ha,O,_,O,a,_,0,_,O,O,G2 ha,O,zS2|λ p hp=>?_];exact hq i true k p rfl rfl hk hl hp
  | false=>
   show aT ?_;show%[_,O,a,_,0,_,O,O,G2 ha,O,_,O,a,_,1,_,O,O,G2 ha,O,zS2|λ p hp=>?_];exact hq i false k p rfl rfl hk hl hp
mutual
inductive Dt(p:PK)(H:Hp):V->PyData->Prop
 | non:Dt p H .non .none
 | bl (b:Bool):Dt p H (.bl b) (.bool b)
 | int (i:Int):Dt p H (.int i) (.int i)
 | str (z:Str):Dt p H (.str z) (.str z)
 | lst {a:PK} {xs:PP V} {ds:PP PyData}:a≠p->H a=↥xs->Dts p H xs ds->Dt p H (.ref a) (.list ds)
 | tup {a:PK} {xs:PP V} {ds:PP PyData}:H a= ~~~xs->Dts p H xs ds->Dt p H (.ref a) (.tuple ds)
 | emp {a:PK}:H a=some (.dK [])->Dt p H (.ref a) (.dict [])
inductive Dts(p:PK)(H:Hp):PP V->PP PyData->Prop
 | nil:Dts p H [] []
 | cons {x:V} {d:PyData} {xs:PP V} {ds:PP PyData}:Dt p H x d->Dts p H xs ds->Dts p H (x :: xs) (d :: ds)
end
mutual
theorem Dt.same{p:PK}{H H':Hp}(s:Same H H'):∀{v:V}{d:PyData},Dt p H v d->Dt p H' v d
 | _,_,.non=>.non
 | _,_,.bl b=>.bl b
 | _,_,.int i=>.int i
 | _,_,.str z=>.str z
 | _,_,.lst n h r=>.lst n (s _ _ h) (r.same s)
 | _,_,.tup h r=>.tup (s _ _ h) (r.same s)
 | _,_,.emp h=>.emp (s _ _ h)
theorem Dts.same{p:PK}{H H':Hp}(s:Same H H'):∀{vs:PP V}{ds:PP PyData},Dts p H vs ds->Dts p H' vs ds
 | _,_,.nil=>.nil
 | _,_,.cons a r=>.cons (a.same s) (r.same s)
end
theorem Dts.length{p:PK}{H:Hp}:∀{vs:PP V}{ds:PP PyData},Dts p H vs ds->vs.length=ds.length
 | _,_,.nil=>rfl
 | _,_,.cons _ r=>by rw[J0,J0,r.length]
theorem Dt.ty{K:C5}{p:PK}{H:Hp}{v:V}{d:PyData}(h:Dt p H v d):∃T,Ty K H v T:=by
 cases h with
 | non=>exact%[_|Ty.non]
 | bl b=>exact%[_|Ty.bl]
 | int i=>exact%[_|Ty.int]
 | str z=>exact%[_|Ty.str]
 | lst _ h _=>exact%[_|Ty.lst h]
 | tup h _=>exact%[_|Ty.tup h]
 | emp h=>exact%[_|Ty.dK h]
mutual
theorem Dt.but{p:PK}{H H':Hp}(hp:∃xs,H p=↥xs)(b:But p H H'):∀{v:V}{d:PyData},Dt p H v d->Dt p H' v d
 | _,_,.non=>.non
 | _,_,.bl b=>.bl b
 | _,_,.int i=>.int i
 | _,_,.str z=>.str z
 | _,_,.lst n h r=>.lst n (b _ _ n h) (r.but hp b)
 | _,_,.tup h r=>.tup (b _ _ (λ z=>by obtain⟨_,e⟩:=hp;rw[z,e]at h;cases h) h) (r.but hp b)
 | _,_,.emp h=>.emp (b _ _ (λ z=>by obtain⟨_,e⟩:=hp;rw[z,e]at h;cases h) h)
theorem Dts.but{p:PK}{H H':Hp}(hp:∃xs,H p=↥xs)(b:But p H H'):∀{vs:PP V}{ds:PP PyData},Dts p H vs ds->Dts p H' vs ds
 | _,_,.nil=>.nil
 | _,_,.cons a r=>.cons (a.but hp b) (r.but hp b)
end
mutual
noncomputable def wt:PyData->Nat
 | .str z=>z.length+1
 | .list ds=>wts ds+1
 | .tuple ds=>wts ds+1
 | _=>1
noncomputable def wts:PP PyData->Nat
 | []=>0
 | d :: r=>wt d+wts r
end
theorem uW(d:PyData):1<=wt d:=by cases d <;> simp only[wt] <;> omega
def aZ:PyData->PM (PP PyData)
 | .list ds=>some ds
 | .tuple ds=>some ds
 | _=>none
theorem uX{d x:PyData}{ds:PP PyData}(h:aZ d=some ds)(hx:x∈ds):sizeOf x < sizeOf d:=by
 have:=List.sizeOf_lt_of_mem hx;cases d <;> simp only[aZ,OX,reduceCtorEq]at h
 ·subst h;simp;omega
 ·subst h;simp;omega
theorem Dt.row{K:C5}{p:PK}{H:Hp}{v:V}{d:PyData}(h:Dt p H v d):(aZ d=none/\∃T,Ty K H v T/\(T == "list" || T == "tuple")=false)\/∃a xs ds T,aZ d=some ds/\v=.ref a/\(H a=↥xs\/H a= ~~~xs)/\Dts p H xs ds/\Ty K H v T/\(T == "list" || T == "tuple")=true:=by
 cases h with
 | non=>exact .inl %[O,_,Ty.non|O]
 | bl b=>exact .inl %[O,_,Ty.bl|O]
 | int i=>exact .inl %[O,_,Ty.int|O]
 | str z=>exact .inl %[O,_,Ty.str|O]
 | lst _ h r=>exact .inr %[_,_,_,_,O,O,.inl h,r,Ty.lst h|O]
 | tup h r=>exact .inr %[_,_,_,_,O,O,.inr h,r,Ty.tup h|O]
 | emp h=>exact .inl %[O,_,Ty.dK h|O]
def bw(d:PyData)(z:Str)(n:Nat):Bool:=match aZ d with
 | some (.str y :: r)=>decide (r.length+1=n) && decide (y=z)
 | _=>false
inductive spBegins(vs:PP V)(H:Hp)(Q:VK)(E_:XK):Prop
|mk(pp:PK)(v:V)(d:PyData)(z:Str)(n:Nat)(_:vs=[v,.str z,.int n])(_:1<=n)(_:Dt pp H v d)(_:∀H',Same H H'->Q (.bl (bw d z n)) H')
theorem scbegins:FnScope QG QG (defScope dI):=nofun
theorem qK{f:PK}{fd:F8}(F:Fun K "begins_with" "begins_with" dI f fd)(B:Blt mg)(bs:mg "str" = none)(DR:Dn P w K mg base "is_row" QA 1 (oU K)):FnOk P w K mg base CX0 2 f fd QG (spBegins):=by
 exists scbegins;obtain⟨pp,v,d,z,n,rfl,n1,hd,q⟩:=h;show%[_,(((PW.pt (bQ (@bh _ _ _ _ (@aV _ _ _ (DR∪('0'^^^ad)) (by intro _;rfl))) (bT ((@aD _ _ _ _ _ _ _ _ _ aY O B.len Pj ('0'^^^ad) ∅ ∅ O O)<*>eQ<*>'2'))))<|>(bP⁻¹)<|>aG)<<<((cO (@aD _ _ _ _ _ _ _ _ _ bi O B.isi Pb (('0'&&&dw&&&af)^^^((bS (v:=.ty "str") O bs PyProof.Rows.boot_str O)^^^ad)) ∅ ∅ O O) (dk (@bB _ _ _ _ _ _ _ _ bC ('0'&&&dw&&&af) '1' (aH _))))⁻¹))|?_];dsimp only[bF];rcases hd.row (K:=K)with⟨e,T,ty,hT⟩ | ⟨a,xs,ds,T,e,rfl,hx,dx,ty,hT⟩
 ·show%[_,O,v,T,O,ty|λ H1 s1=>%[_,O|?_]];rw[hT];have q1:=q H1 s1;unfold bw at q1;rw[e]at q1;exact aU (aU q1)
 show%[_,O,_,T,O,ty|λ H1 s1=>%[_,O|?_]];rw[hT];have sq:SqL K H1 a xs\/SqT K H1 a xs:=hx.imp (λ z=>G3 (s1 _ _ z)) λ z=>G2 (s1 _ _ z);show aT %[_,rfl,a,_,rfl,sq,_,rfl,rfl,_,rfl|?_];have q1:=q H1 s1;have len:=dx.length;cases dx with
 | nil=>
  rw[show decide (V.int (([]:PP V).length:Int)=V.int (n:Int))=false from Pf (λ z=>by have:=V.int.inj z;simp at this;omega)];unfold bw at q1;rw[e]at q1;exact aU q1
 | @cons x d1 xs ds hd1 dr=>
  have a0:atI (x :: xs) 0=some x:=bq (E5 _) rfl;have ixs:∀Q':VK,Q' x H1->rIx K (.ref a) (.int 0) H1 Q':=λ Q' h=>sq.elim (λ z=>.inl %[a,_,0,x,O,O,z,a0|h]) (λ z=>.inr (.inl %[a,_,0,x,O,O,z,a0|h]));rw[J0,J0]at len
  by_cases hn:ds.length+1=n
  ·rw[show decide (V.int ((x :: xs).length:Int)=V.int (n:Int))=true from PY (by rw[J0,len,hn])];show aT %[_,rfl|ixs _ ?_];cases hd1 with
   | str y=>
    show%[_,_,_,_,_,O,(Ty.str (K:=K)).2,O,dH "str" (by simp[aM]),_,O|aU ?_];show%[_,O|ixs _ %[_,O,O|?_]];unfold bw at q1;rw[e]at q1;simp only[hn,decide_true,N8]at q1;rw[show decide (V.str y=V.str z)=decide (y=z)from decide_eq_decide.mpr %[V.str.inj|Pw _]];exact q1
   | non=>exact%[_,_,_,_,_,O,(Ty.non (K:=K)).2,O,dH "NoneType" (by simp[aM]),_,O|aT (by unfold bw at q1;rw[e]at q1;exact q1)]
   | bl b=>exact%[_,_,_,_,_,O,(Ty.bl (K:=K)).2,O,dH "bool" (by simp[aM]),_,O|aT (by unfold bw at q1;rw[e]at q1;exact q1)]
   | int i=>exact%[_,_,_,_,_,O,(Ty.int (K:=K)).2,O,dH "int" (by simp[aM]),_,O|aT (by unfold bw at q1;rw[e]at q1;exact q1)]
   | lst _ h r=>exact%[_,_,_,_,_,O,(Ty.lst (s1 _ _ h) (K:=K)).2,O,dH "list" (by simp[aM]),_,O|aT (by unfold bw at q1;rw[e]at q1;exact q1)]
   | tup h r=>exact%[_,_,_,_,_,O,(Ty.tup (s1 _ _ h) (K:=K)).2,O,dH "tuple" (by simp[aM]),_,O|aT (by unfold bw at q1;rw[e]at q1;exact q1)]
   | emp h=>exact%[_,_,_,_,_,O,(Ty.dK (s1 _ _ h) (K:=K)).2,O,dH "dict" (by simp[aM]),_,O|aT (by unfold bw at q1;rw[e]at q1;exact q1)]
  ·rw[show decide (V.int ((x :: xs).length:Int)=V.int (n:Int))=false from Pf (λ z=>hn (by have:=V.int.inj z;rw[J0,len]at this;omega))];show aU ?_;have z:bw d z n=false:=by unfold bw;rw[e];cases d1 <;> simp[hn]
   rw[z]at q1;exact q1
def sd1(k:Kd)(c:Bool):Int:=if c=true then k.h else k.w
def sd2(k:Kd)(c:Bool):Int:=if c=true then k.w else k.h
theorem uY(k:Kd)(c:Bool):uU k c=[.int (sd1 k c),.int (sd2 k c)]:=by cases c <;> rfl
def fY(ks:PP Kd)(w h:Int)(kv tv xv yv:V):Bool:=fE ks kv tv && aX xv 0 && aX yv 0 && (match kv,tv,xv,yv with
 | .int i,.bl c,.int x,.int y=>(match ks[i.toNat]? with
  | some k=>decide (x+sd1 k c<=w) && decide (y+sd2 k c<=h)
  | none=>false)
 | _,_,_,_=>false)
inductive spLiesG(K:C5)(C:PK)(vs:PP V)(H:Hp)(Q:VK)(E_:XK):Prop
|mk(s:PK)(b:Int)(ks:PP Kd)(w h:Int)(kv tv xv yv:V)(T1 T2 T3 T4:String)(_:vs=[.ref s,.int w,.int h,kv,tv,xv,yv])(_:ShopAt C H s b ks)(_:Ty K H kv T1)(_:Ty K H tv T2)(_:Ty K H xv T3)(_:Ty K H yv T4)(_:∀H',Same H H'->Q (.bl (fY ks w h kv tv xv yv)) H')
theorem scliesG:FnScope ["shop","wide","high","kind","turned","x","y","piece_wide","piece_high"] QH (defScope ij):=nofun
theorem uZ{f C:PK}{fd:F8}(F:Fun K "lies_in" "lies_in" ij f fd)(T:ShopTxt K C)(DW:Dn P w K mg base "is_whole" PX 1 (cJ K))(MI:Mn P w K mg base C "is_lying" QF 2 (fk K C))(MS:Mn P w K mg base C "sides" QF 3 (spSides K C)):FnOk P w K mg base CX0 4 f fd QH (spLiesG K C):=by
 exists scliesG;obtain⟨s,b,ks,w1,h1',kv,tv,xv,yv,T1,T2,T3,T4,rfl,S,t1,t2,t3,t4,q⟩:=h;have hr1:=hr.mono (show 1<=3 by decide);have hr2:=hr.mono (show 2<=3 by decide);show%[_,(((PW.pt (bQ (@bh _ _ _ _ (@aV _ _ _ (iS '0' T.cl MI hr2 ('3'^^^('4'^^^ad))) (by intro _;rfl))) (bQ (@bh _ _ _ _ (@aV _ _ _ (@ax _ _ _ _ _ _ _ _ _ _ DW hr1 O ('5'^^^(af^^^ad)) ∅ O O) (by intro _;rfl))) (bT (@bh _ _ _ _ (@aV _ _ _ (@ax _ _ _ _ _ _ _ _ _ _ DW hr1 O ('6'^^^(af^^^ad)) ∅ O O) (by intro _;rfl)))))))<|>(bP⁻¹)<|>aG)<<<((@bA _ _ _ _ _ _ (iS '0' T.cl MS hr ('3'^^^('4'^^^ad))) (bf O (7•(8•aQ))) O O O)<<<((cO (@bB _ _ _ _ _ _ _ _ gS ('5'|||aW|||'7') '1' (aH _)) (dk (@bB _ _ _ _ _ _ _ _ gS ('6'|||aW|||'8') '2' (aH _))))⁻¹)))|?_];dsimp only[bF];obtain⟨dx,r,rs,h1,h2,h3⟩:=id S;show%[_,O,s,dx,_,O,h1,(cX _ _ ∅ ∅),_,O,_,O,s,b,ks,kv,tv,T1,T2,O,S,t1,t2,_,O|?_];cases ly:fE ks kv tv with
 | false=>
  have q1:=q H (Same.refl _);unfold fY at q1;rw[ly]at q1;exact aU (aU q1)
 | true=>
 show aT %[_,rfl,xv,T3,0,rfl,t3,_,rfl|?_];cases hx:aX xv 0 with
 | false=>
  have q1:=q H (Same.refl _);unfold fY at q1;rw[ly,hx]at q1;exact aU (aU q1)
 | true=>
 show aT %[_,rfl,yv,T4,0,rfl,t4,_,rfl|?_];cases hy:aX yv 0 with
 | false=>
  have q1:=q H (Same.refl _);unfold fY at q1;rw[ly,hx,hy]at q1;exact aU q1
 | true=>
 show aT ?_;obtain⟨i,c,k,rfl,rfl,i0,hk⟩:=jX ly;obtain⟨x1,rfl⟩:∃i,xv=.int i:=by cases xv <;> first | exact%[_|O] | cases hx
 obtain⟨y1,rfl⟩:∃i,yv=.int i:=by cases yv <;> first | exact%[_|O] | cases hy
 show%[_,O,s,dx,_,O,h1,(cX _ _ ∅ ∅),_,O,_,O,s,b,ks,.int i,.bl c,T1,T2,O,S,t1,t2,ly|λ i' c' k' p e1 e2 hk' _ hp=>?_];cases e1;cases e2;rw[hk]at hk';cases hk';rw[uY];have q1:=q _ (G1 hp (o:=.tup [.int (sd1 k c),.int (sd2 k c)]));show%[p,_,O,G2 au,O,_,_,O,_,_,O,O|?_];show%[_,O,_,O,_,_,O,O,_,O,_,_,O,O,_,O|?_];unfold fY at q1;rw[ly,hx,hy]at q1;simp only[hk,N8]at q1;show cV (λ cc=>?_) (λ cc=>?_)
 ·show%[_,O,_,O,_,_,O,O,_,O,_,_,O,O|?_];rw[cc,N8]at q1;exact q1
 ·rw[show decide (x1+sd1 k c<=w1)=false by simpa using cc,M8]at q1;exact q1
theorem Dts.one{p:PK}{H:Hp}{xs:PP V}{ds:PP PyData}{n:Nat}(h:Dts p H xs ds)(hl:ds.length=n+1):∃x d xs' ds',xs=x :: xs'/\ds=d :: ds'/\Dt p H x d/\Dts p H xs' ds'/\ds'.length=n:=by
 cases h with
 | nil=>cases hl
 | cons a r=>exact%[_,_,_,_,O,O,a,r|Nat.succ.inj hl]
theorem Dts.zero{p:PK}{H:Hp}{xs:PP V}{ds:PP PyData}(h:Dts p H xs ds)(hl:ds.length=0):xs=[]/\ds=[]:=by
 cases h with
 | nil=>exact%[O|O]
 | cons a r=>cases hl
theorem Dts.three{p:PK}{H:Hp}{xs:PP V}{ds:PP PyData}(h:Dts p H xs ds)(hl:ds.length=3):∃x1 x2 x3 d1 d2 d3,xs=[x1,x2,x3]/\ds=[d1,d2,d3]/\Dt p H x1 d1/\Dt p H x2 d2/\Dt p H x3 d3:=by obtain⟨x1,d1,xs,ds,rfl,rfl,h1,h,hl⟩:=h.one hl;obtain⟨x2,d2,xs,ds,rfl,rfl,h2,h,hl⟩:=h.one hl;obtain⟨x3,d3,xs,ds,rfl,rfl,h3,h,hl⟩:=h.one hl;obtain⟨rfl,rfl⟩:=h.zero hl;exact%[_,_,_,_,_,_,O,O,h1,h2|h3]
theorem Dts.four{p:PK}{H:Hp}{xs:PP V}{ds:PP PyData}(h:Dts p H xs ds)(hl:ds.length=4):∃x1 x2 x3 x4 d1 d2 d3 d4,xs=[x1,x2,x3,x4]/\ds=[d1,d2,d3,d4]/\Dt p H x1 d1/\Dt p H x2 d2/\Dt p H x3 d3/\Dt p H x4 d4:=by obtain⟨x1,d1,xs,ds,rfl,rfl,h1,h,hl⟩:=h.one hl;obtain⟨x2,x3,x4,d2,d3,d4,rfl,rfl,h2,h3,h4⟩:=h.three hl;exact%[_,_,_,_,_,_,_,_,O,O,h1,h2,h3|h4]
structure TrC(K:C5)(mg:Str->PM Value)(wa:PK):Prop where
 dn:∃t,mg "DOWN" = some (.str "down" t)
 rs:∃t,mg "REST" = some (.str "rest" t)
 pc:∃t,mg "PIECE" = some (.str "piece" t)
 n1:∃t,mg "THINGS_OF_A_REST" = some (.int 1 t)
 n5:∃t,mg "THINGS_OF_A_PIECE" = some (.int 5 t)
 n4:∃t,mg "THINGS_OF_A_CUT" = some (.int 4 t)
 wy:mg "WAYS" = ↑wa
 wq:∀H,SqT K H wa [.str "down",.str "across"]
def xD(b side:Int):PyData->Bool
 | .int p=>decide (1<=p) && decide (p+b < side)
 | _=>false
def fH(b side:Int)(d:PyData):Bool:=match aZ d with
 | some [_,p,_,_]=>xD b side p
 | _=>false
def isC(b w h:Int)(d:PyData):Bool:=if bw d "down" 4=true then fH b w d else if bw d "across" 4=true then fH b h d else false
def mC(ks:PP Kd)(w h:Int):PyData->PyData->PyData->PyData->Bool
 | .int i,.bool c,.int x,.int y=>fY ks w h (.int i) (.bl c) (.int x) (.int y)
 | _,_,_,_=>false
def isL(ks:PP Kd)(w h:Int)(d:PyData):Bool:=if bw d "piece" 5=true then(match aZ d with
 | some [_,k,t,x,y]=>mC ks w h k t x y
 | _=>false)else bw d "rest" 1
inductive spParts2(vs:PP V)(H:Hp)(Q:VK)(E_:XK):Prop
|mk(b w h p:Int)(t:PK)(dn:Bool)(_:vs=[.int b,.ref t,.str (if dn=true then "down" else "across"),.int p])(_:H t= ~~~[.int w,.int h])(_:∀(u t1 t2:PK)(H':Hp),H' u= ~~~[.ref t1,.ref t2]->H' t1= ~~~(if dn=true then[.int p,.int h]else[.int w,.int p])->H' t2= ~~~(if dn=true then[.int (w - p - b),.int h]else[.int w,.int (h - p - b)])->Same H H'->Q (.ref u) H')
inductive spCut(vs:PP V)(H:Hp)(Q:VK)(E_:XK):Prop
|mk(pp:PK)(b x y w h:Int)(sp:PK)(v:V)(d:PyData)(_:vs=[.int b,.ref sp])(_:H sp= ~~~[.int x,.int y,.int w,.int h,v])(_:Dt pp H v d)(_:∀H',Same H H'->Q (.bl (isC b w h d)) H')
inductive spLeaf(C:PK)(vs:PP V)(H:Hp)(Q:VK)(E_:XK):Prop
|mk(pp:PK)(b' x y w h:Int)(s sp:PK)(ks:PP Kd)(v:V)(d:PyData)(_:vs=[.ref s,.ref sp])(_:ShopAt C H s b' ks)(_:H sp= ~~~[.int x,.int y,.int w,.int h,v])(_:Dt pp H v d)(_:∀H',Same H H'->Q (.bl (isL ks w h d)) H')
inductive spBehind(vs:PP V)(H:Hp)(Q:VK)(E_:XK):Prop
|mk(b x y w h p:Int)(sp a:PK)(dn:Bool)(l r:V)(_:vs=[.int b,.ref sp])(_:H sp= ~~~[.int x,.int y,.int w,.int h,.ref a])(_:(H a=some (.lst [.str (if dn=true then "down" else "across"),.int p,l,r])\/H a=some (.tup [.str (if dn=true then "down" else "across"),.int p,l,r])))(_:∀(u t1 t2:PK)(H':Hp),H u=none->H' u=↥[.ref t1,.ref t2]->H' t1= ~~~(if dn=true then[.int x,.int y,.int p,.int h,l]else[.int x,.int y,.int w,.int p,l])->H' t2= ~~~(if dn=true then[.int (x+(p+b)),.int y,.int (w - p - b),.int h,r]else[.int x,.int (y+(p+b)),.int w,.int (h - p - b),r])->Same H H'->Q (.ref u) H')
theorem scparts2:FnScope ["blade","part","way","p","wide","high"] QI (defScope fz):=nofun
theorem qL{f wa:PK}{fd:F8}(F:Fun K "cut_parts" "cut_parts" fz f fd)(Z:TrC K mg wa):FnOk P w K mg base CX0 1 f fd QI (spParts2):=by
 exists scparts2;obtain⟨b,w1,h1,p1,t,dn,rfl,ht,q⟩:=h;obtain⟨tdn,hdn⟩:=Z.dn;obtain⟨trs,hrs⟩:=Z.rs;obtain⟨tpc,hpc⟩:=Z.pc;obtain⟨tn1,hn1⟩:=Z.n1;obtain⟨tn5,hn5⟩:=Z.n5;obtain⟨tn4,hn4⟩:=Z.n4;show%[_,((@bA _ _ _ _ _ _ '1' (bf O (4•(5•aQ))) O O O)<<<((('2'<*>bC<*>(ce (v:=.str "down") O hdn %[tdn|O]))<|>((@aI _ _ _ _ _ ((@aI _ _ _ _ _ ('3'^^^('5'^^^ad)))^^^((@aI _ _ _ _ _ ((('4'|||bD|||'3')|||bD|||'0')^^^('5'^^^ad)))^^^ad)))⁻¹)<|>aG)<<<((@aI _ _ _ _ _ ((@aI _ _ _ _ _ ('4'^^^('3'^^^ad)))^^^((@aI _ _ _ _ _ ('4'^^^((('5'|||bD|||'3')|||bD|||'0')^^^ad)))^^^ad)))⁻¹)))|?_];dsimp only[bF];show%[_,O,t,_,O,G2 ht,O,_,_,O,_,_,O,O|?_];cases dn with
 | true=>
  show%[_,O,O,_,O|aU ?_];show%[_,O,_,O,zS2|λ t1 h1'=>?_];show aK h1' λ Ha ka sa=>?_;show%[_,O,_,O,_,_,O,O,_,O,_,_,O,O,_,O,zS2|λ t2 h2'=>?_];show aK h2' λ Hb kb sb=>?_;show%[zS2|λ u hu=>?_];show aK hu λ Hc kc sc=>?_;exact q u t1 t2 Hc kc (sc _ _ (sb _ _ ka)) (sc _ _ kb) ((sa.trans sb).trans sc)
 | false=>
  show%[_,O,O,_,O|aT ?_];show%[_,O,_,O,zS2|λ t1 h1'=>?_];show aK h1' λ Ha ka sa=>?_;show%[_,O,_,O,_,O,_,_,O,O,_,O,_,_,O,O,zS2|λ t2 h2'=>?_];show aK h2' λ Hb kb sb=>?_;show%[zS2|λ u hu=>?_];show aK hu λ Hc kc sc=>?_;exact q u t1 t2 Hc kc (sc _ _ (sb _ _ ka)) (sc _ _ kb) ((sa.trans sb).trans sc)
theorem jf{d:PyData}{z:Str}{n:Nat}(h:bw d z n=true):∃r,aZ d=some (.str z :: r)/\r.length+1=n:=by
 unfold bw at h
 split at h
 ·rename_i y r e
  rw[M6]at h;have:=C0 h.2;subst this;exact%[r,e|C0 h.1]
 ·cases h
theorem Dt.ref_row{p:PK}{H:Hp}{v:V}{d:PyData}{ds:PP PyData}(h:Dt p H v d)(e:aZ d=some ds):∃a xs,v=.ref a/\(H a=↥xs\/H a= ~~~xs)/\Dts p H xs ds:=by
 cases h <;> simp only[aZ,OX,reduceCtorEq]at e
 ·subst e;exact%[_,_,O,.inl ‹_›|‹_›]
 ·subst e;exact%[_,_,O,.inr ‹_›|‹_›]
theorem ixR{H H1:Hp}{a:PK}{xs:PP V}(s1:Same H H1)(hx:H a=↥xs\/H a= ~~~xs){i:Int}{x:V}(e:atI xs i=some x){Q':VK}(h:Q' x H1):rIx K (.ref a) (.int i) H1 Q' :=
 hx.elim (λ z=>.inl %[a,_,i,x,O,O,G3 (s1 _ _ z),e|h]) (λ z=>.inr (.inl %[a,_,i,x,O,O,G2 (s1 _ _ z),e|h]))
theorem sccut:FnScope ["blade","spot","tree","way","side"] QJ (defScope li):=nofun
theorem zG{f wa:PK}{fd:F8}(F:Fun K "is_cut" "is_cut" li f fd)(Z:TrC K mg wa)(DB:Dn P w K mg base "begins_with" QG 2 spBegins)(DW:Dn P w K mg base "is_whole" PX 1 (cJ K)):FnOk P w K mg base CX0 3 f fd QJ (spCut):=by
 exists sccut;show cS λ G9 k9=>?_;obtain⟨pp,b,x0',y0',w1,h1,sp,v,d,rfl,hsp,hd,q⟩:=h;show k9 ?_;obtain⟨tdn,hdn⟩:=Z.dn;obtain⟨trs,hrs⟩:=Z.rs;obtain⟨tpc,hpc⟩:=Z.pc;obtain⟨tn1,hn1⟩:=Z.n1;obtain⟨tn5,hn5⟩:=Z.n5;obtain⟨tn4,hn4⟩:=Z.n4;have hr1:=hr.mono (show 1<=2 by decide);show%[_,((2∣('1'&&&ix_tup&&&af))<<<((@cP _ _ _ _ _ _ _ _ E4 O (fJ (ce (v:=.ref wa) O Z.wy O)) (ai (i:=3) nd O (Or.inl O)) (@ag _ _ _ ((@aV _ _ _ (DB∪('2'^^^('3'^^^((ce (v:=.int 4) O hn4 %[tn4|O])^^^ad)))) (by intro _;rfl))<|>((4∣(lL ('3'<*>bC<*>(ce (v:=.str "down") O hdn ⟨tdn,O⟩)) ('1'&&&ix_tup&&&af) ('1'&&&ix_tup&&&af)))<<<((cO (@ax _ _ _ _ _ _ _ _ _ _ DW hr1 O (('2'&&&dw&&&af)^^^(af^^^ad)) ∅ O O) (dk (@bB _ _ _ _ _ _ _ _ tN (('2'&&&dw&&&af)|||aW|||'0') '4' (aH _))))⁻¹))<|>aG)) (by intro _;rfl))<<<(bP⁻¹)))|?_];dsimp only[bF];show%[_,O,sp,_,4,_,O,O,G2 hsp,O|?_];show%[wa,O,%[_|Z.wq H]|ib (xs:=[.str "down",.str "across"]) (λ i σ H'=>(∃v3 v4,σ=[⇑b,↑sp,some v,v3,v4])/\Same H H'/\(1<=i->bw d "down" 4=false)/\(2<=i->bw d "across" 4=false)) %[%[_,_|O],Same.refl _,λ z=>absurd z ∅|λ z=>absurd z ∅] (λ i σ H' _ _=>Z.wq H') ?_ ?_]
 ·rintro i y σ H1 hi ⟨⟨v3,v4,rfl⟩,s1,g1,g2⟩
  match i,hi with
  | 0,hi=>
   cases hi;show%[_,O,_,O,pp,v,d,"down",4,O,∅,hd.same s1|λ H2 s12=>%[_,O|?_]];have s2:=s1.trans s12;show cV (λ hb=>?_) (λ hb=>%[%[_,_|O],s2,λ _=>by simpa using hb|λ z=>absurd z ∅]);obtain⟨r0,er,rl⟩:=jf hb;obtain⟨a,xs,rfl,hx,dx⟩:=hd.ref_row er;cases dx with
   | @cons x0 _ xs0 _ hd0 dx=>
   obtain⟨x1,x2,x3,d1,d2,d3,rfl,rfl,hd1,hd2,hd3⟩:=dx.three (by simpa using rl);have sp2:=s2 _ _ hsp;have co:fH b w1 d=xD b w1 d1:=by unfold fH;rw[er]
   show%[_,O,O,_,O|aU %[_,O,sp,_,2,_,O,O,G2 sp2,O|?_]];have at1:atI [x0,x1,x2,x3] 1=some x1:=bq ∅ rfl;obtain⟨T1,t1⟩:=(hd1.same s2).ty (K:=K);show%[_,O|ixR s2 hx at1 %[x1,T1,1,O,t1,_,O|?_]];have q1:=q H2 s2;unfold isC at q1;rw[Pa hb,co]at q1;cases hd1 with
   | int p=>
    have q1:Q (.bl (decide (1<=p) && decide (p+b < w1))) H2:=q1;show cV (λ cc=>?_) (λ cc=>?_)
    ·have cc:decide (1<=p)=true:=cc;show%[_,O|ixR s2 hx at1 %[_,O,_,_,O,O,_,O,_,_,O,O|?_]];rw[cc,N8]at q1;exact q1
    ·have cc:¬ decide (1<=p)=true:=cc;rw[show decide (1<=p)=false by simpa using cc,M8]at q1;exact q1
   | _=>exact aT q1
  | 1,hi=>
   cases hi;have hb0:=g1 ∅;show%[_,O,_,O,pp,v,d,"across",4,O,∅,hd.same s1|λ H2 s12=>%[_,O|?_]];have s2:=s1.trans s12;show cV (λ hb=>?_) (λ hb=>%[%[_,_|O],s2,λ _=>hb0|λ _=>by simpa using hb]);obtain⟨r0,er,rl⟩:=jf hb;obtain⟨a,xs,rfl,hx,dx⟩:=hd.ref_row er;cases dx with
   | @cons x0 _ xs0 _ hd0 dx=>
   obtain⟨x1,x2,x3,d1,d2,d3,rfl,rfl,hd1,hd2,hd3⟩:=dx.three (by simpa using rl);have sp2:=s2 _ _ hsp;have co:fH b h1 d=xD b h1 d1:=by unfold fH;rw[er]
   show%[_,O,O,_,O|aT %[_,O,sp,_,3,_,O,O,G2 sp2,O|?_]];have at1:atI [x0,x1,x2,x3] 1=some x1:=bq ∅ rfl;obtain⟨T1,t1⟩:=(hd1.same s2).ty (K:=K);show%[_,O|ixR s2 hx at1 %[x1,T1,1,O,t1,_,O|?_]];have q1:=q H2 s2;unfold isC at q1;rw[PZ (by rw[hb0];decide),Pa hb,co]at q1;cases hd1 with
   | int p=>
    have q1:Q (.bl (decide (1<=p) && decide (p+b < h1))) H2:=q1;show cV (λ cc=>?_) (λ cc=>?_)
    ·have cc:decide (1<=p)=true:=cc;show%[_,O|ixR s2 hx at1 %[_,O,_,_,O,O,_,O,_,_,O,O|?_]];rw[cc,N8]at q1;exact q1
    ·have cc:¬ decide (1<=p)=true:=cc;rw[show decide (1<=p)=false by simpa using cc,M8]at q1;exact q1
   | _=>exact aT q1
 ·rintro σ H1 ⟨⟨v3,v4,rfl⟩,s1,g1,g2⟩;have q1:=q H1 s1;unfold isC at q1;rw[PZ (by rw[g1 ∅];decide),PZ (by rw[g2 ∅];decide)]at q1;exact q1
theorem jg{C:PK}{H H':Hp}{s:PK}{b:Int}{ks:PP Kd}(k:Same H H')(S:ShopAt C H s b ks):ShopAt C H' s b ks:=S.keep (λ c o e=>k _ _ e) (λ c C' d fs e=>k _ _ e)
theorem scleaf:FnScope ["shop","spot","x","y","wide","high","tree"] QK (defScope ik):=nofun
theorem xE{f wa C:PK}{fd:F8}(F:Fun K "is_leaf" "is_leaf" ik f fd)(Z:TrC K mg wa)(DB:Dn P w K mg base "begins_with" QG 2 spBegins)(DL:Dn P w K mg base "lies_in" QH 4 (spLiesG K C)):FnOk P w K mg base CX0 5 f fd QK (spLeaf C):=by
 apply F.ok scleaf (λ vs H Q E h=>?_) (λ cdv A outer s H vs Q E hr h=>?_)
 ·show cS λ G9 k9=>?_;obtain⟨pp,b',x1,y1,w1,h1,s,sp,ks,v,d,rfl,_⟩:=h;show k9 ?_
  rfl
 show cS λ G9 k9=>?_;obtain⟨pp,b',x0',y0',w1,h1,s,sp,ks,v,d,rfl,S,hsp,hd,q⟩:=h;show k9 ?_;have nd:=scleaf.nd;obtain⟨tdn,hdn⟩:=Z.dn;obtain⟨trs,hrs⟩:=Z.rs;obtain⟨tpc,hpc⟩:=Z.pc;obtain⟨tn1,hn1⟩:=Z.n1;obtain⟨tn5,hn5⟩:=Z.n5;obtain⟨tn4,hn4⟩:=Z.n4;have hr2:=hr.mono (show 2<=4 by decide);show%[_,((@bA _ _ _ _ _ _ '1' (bf O (2•(3•(4•(5•(6•aQ)))))) O O O)<<<(((@aV _ _ _ (@ax _ _ _ _ _ _ _ _ _ _ DB hr2 O ('6'^^^((ce (v:=.str "piece") O hpc %[tpc|O])^^^((ce (v:=.int 5) O hn5 %[tn5|O])^^^ad))) ∅ O O) (by intro _;rfl))<|>((DL∪('0'^^^('4'^^^('5'^^^(('6'&&&dw&&&af)^^^(('6'&&&dw&&&af)^^^(('6'&&&dw&&&af)^^^(('6'&&&dw&&&af)^^^ad))))))))⁻¹)<|>aG)<<<((@ax _ _ _ _ _ _ _ _ _ _ DB hr2 O ('6'^^^((ce (v:=.str "rest") O hrs ⟨trs,O⟩)^^^((ce (v:=.int 1) O hn1 ⟨tn1,O⟩)^^^ad))) ∅ O O)⁻¹)))|?_];dsimp only[bF];show%[_,O,sp,_,O,G2 hsp,O,_,_,O,_,_,O,_,_,O,_,_,O,_,_,O,O|?_];show%[_,O,pp,v,d,"piece",5,O,∅,hd|λ H1 s1=>%[_,O|?_]];show cV (λ hb=>?_) (λ hb=>?_)
 ·obtain⟨r0,er,rl⟩:=jf hb;obtain⟨a,xs,rfl,hx,dx⟩:=hd.ref_row er;cases dx with
  | @cons x0 _ xs0 _ hd0 dx=>
  show cS λ G9 k9=>?_;obtain⟨x1,x2,x3,x4,d1,d2,d3,d4,rfl,rfl,hd1,hd2,hd3,hd4⟩:=dx.four (by simpa using rl);show k9 ?_;have a1:atI [x0,x1,x2,x3,x4] 1=some x1:=bq ∅ rfl;have a2:atI [x0,x1,x2,x3,x4] 2=some x2:=bq ∅ rfl;have a3:atI [x0,x1,x2,x3,x4] 3=some x3:=bq ∅ rfl;have a4:atI [x0,x1,x2,x3,x4] 4=some x4:=bq ∅ rfl;obtain⟨T1,t1⟩:=(hd1.same s1).ty (K:=K);obtain⟨T2,t2⟩:=(hd2.same s1).ty (K:=K);obtain⟨T3,t3⟩:=(hd3.same s1).ty (K:=K);obtain⟨T4,t4⟩:=(hd4.same s1).ty (K:=K);show%[_,O,_,O,_,O,_,O|ixR s1 hx a1 %[_,O|ixR s1 hx a2 %[_,O|ixR s1 hx a3 %[_,O|ixR s1 hx a4 ?_]]]];show%[s,b',ks,w1,h1,x1,x2,x3,x4,T1,T2,T3,T4,O,jg s1 S,t1,t2,t3,t4|λ H2 s2=>?_];have q1:=q H2 (s1.trans s2);unfold isL at q1;rw[Pa hb,er]at q1;have e:mC ks w1 h1 d1 d2 d3 d4=fY ks w1 h1 x1 x2 x3 x4:=by
   cases hd1 with
   | int i=>cases hd2 with
    | bl c=>cases hd3 with
     | int x=>cases hd4 with
      | int y=>rfl
      | _=>simp[mC,fY,aX]
     | _=>simp[mC,fY,aX]
    | _=>simp[mC,fY,fE]
   | _=>simp[mC,fY,fE]
  have q1:Q (.bl (mC ks w1 h1 d1 d2 d3 d4)) H2:=q1;rw[e]at q1;exact q1
 ·show%[_,O,pp,v,d,"rest",1,O,∅,hd.same s1|λ H2 s2=>?_];have q1:=q H2 (s1.trans s2);unfold isL at q1;rw[PZ hb]at q1;exact q1
theorem scbehind:FnScope ["blade","spot","x","y","wide","high","tree","way","p","first","second","wide_ahead","high_ahead","wide_behind","high_behind","step","far_x","far_y"] QJ (defScope de):=nofun
theorem qM{f wa:PK}{fd:F8}(F:Fun K "spots_behind" "spots_behind" de f fd)(Z:TrC K mg wa)(DP:Dn P w K mg base "cut_parts" QI 1 spParts2):FnOk P w K mg base CX0 2 f fd QJ (spBehind):=by
 apply F.ok scbehind (λ vs H Q E h=>?_) (λ cdv A outer s H vs Q E hr h=>?_)
 ·show cS λ G9 k9=>?_;obtain⟨b,x1,y1,w1,h1,p1,sp,a,dn,l,r,rfl,_⟩:=h;show k9 ?_
  rfl
 show cS λ G9 k9=>?_;obtain⟨b,x1,y1,w1,h1,p1,sp,a,dn,l,r,rfl,hsp,ha,q⟩:=h;show k9 ?_;have nd:=scbehind.nd;obtain⟨tdn,hdn⟩:=Z.dn;obtain⟨trs,hrs⟩:=Z.rs;obtain⟨tpc,hpc⟩:=Z.pc;obtain⟨tn1,hn1⟩:=Z.n1;obtain⟨tn5,hn5⟩:=Z.n5;obtain⟨tn4,hn4⟩:=Z.n4;show%[_,((@bA _ _ _ _ _ _ '1' (bf O (2•(3•(4•(5•(6•aQ)))))) O O O)<<<((@bA _ _ _ _ _ _ '6' (nH O (7•(8•(9•(10•aQ))))) O O O)<<<((@bA _ _ _ _ _ _ (DP∪('0'^^^((@aI _ _ _ _ _ ('4'^^^('5'^^^ad)))^^^('7'^^^('8'^^^ad))))) (bf O (ah (bf O (11•(12•aQ))) (ah (bf O (13•(14•aQ))) aQ))) O O O)<<<((15∣('8'|||aW|||'0'))<<<((@bA _ _ _ _ _ _ (lL ('7'<*>bC<*>(ce (v:=.str "down") O hdn %[tdn|O])) (@aI _ _ _ _ _ (('2'|||aW|||'?')^^^('3'^^^ad))) (@aI _ _ _ _ _ ('2'^^^(('3'|||aW|||'?')^^^ad)))) (bf O (16•(17•aQ))) O O O)<<<((@aL _ _ _ _ ((@aI _ _ _ _ _ ('2'^^^('3'^^^(';'^^^('<'^^^('9'^^^ad))))))^^^((@aI _ _ _ _ _ ('@'^^^('A'^^^('='^^^('>'^^^(':'^^^ad))))))^^^ad)))⁻¹))))))|?_];dsimp only[bF];show%[_,O,sp,_,O,G2 hsp,O,_,_,O,_,_,O,_,_,O,_,_,O,_,_,O,O|?_];have sq:SqL K H a [.str (if dn=true then "down" else "across"),.int p1,l,r]\/SqT K H a [.str (if dn=true then "down" else "across"),.int p1,l,r]:=ha.imp (λ z=>G3 z) λ z=>G2 z;show%[_,O,a,_,O,sq,O,_,_,O,_,_,O,_,_,O,_,_,O,O|?_];clear sq;cases dn with
 | true=>
  show%[_,O,_,O,_,O,zS2|λ tp htp=>?_];show aK htp λ Ha ka sa=>?_;show%[_,O,_,O,b,w1,h1,p1,tp,true,O,ka|λ u t1 t2 Hb ku k1 k2 sb=>?_];show%[u,_,O,G2 ku,O,_,_,O,t1,_,O,G2 k1,O,_,_,O,_,_,O,O,_,_,O,t2,_,O,G2 k2,O,_,_,O,_,_,O,O,O|?_];show bn (λ σ' H'=>σ'=[⇑b,↑sp,⇑x1,⇑y1,⇑w1,⇑h1,↑a,some (.str "down"),⇑p1,some l,some r,⇑p1,⇑h1,⇑(w1 - p1 - b),⇑h1,none,none,none]/\Hb=H') (λ R hR=>hR _ _ %[rfl|rfl]) ?_;rintro _ _ ⟨rfl,rfl⟩;show%[_,O,_,O,_,_,O,O|?_];show%[_,O,O,_,O|aU %[_,O,_,O,_,_,O,O,_,O,zS2|λ tf hf=>?_]];show aK hf λ Hd kd sd=>?_;show%[tf,_,O,G2 kd,O,_,_,O,_,_,O,O|?_];show%[_,O,_,O,_,O,_,O,_,O,zS5|λ g1 hg1=>?_];show aK hg1 λ He ke se=>?_;show%[_,O,_,O,_,O,_,O,_,O,zS5|λ g2 hg2=>?_];show aK hg2 λ Hf kf sf=>?_;show%[zS2|λ lu hlu=>?_];show aK hlu λ Hg kg sg=>?_;have sA:=((((sa.trans sb).trans sd).trans se).trans sf)
  exact q lu g1 g2 Hg (sA.free hlu) kg (sg _ _ (sf _ _ ke)) (sg _ _ kf) (sA.trans sg)
 | false=>
  show%[_,O,_,O,_,O,zS2|λ tp htp=>?_];show aK htp λ Ha ka sa=>?_;show%[_,O,_,O,b,w1,h1,p1,tp,false,O,ka|λ u t1 t2 Hb ku k1 k2 sb=>?_];show%[u,_,O,G2 ku,O,_,_,O,t1,_,O,G2 k1,O,_,_,O,_,_,O,O,_,_,O,t2,_,O,G2 k2,O,_,_,O,_,_,O,O,O|?_];show bn (λ σ' H'=>σ'=[⇑b,↑sp,⇑x1,⇑y1,⇑w1,⇑h1,↑a,some (.str "across"),⇑p1,some l,some r,⇑w1,⇑p1,⇑w1,⇑(h1 - p1 - b),none,none,none]/\Hb=H') (λ R hR=>hR _ _ %[rfl|rfl]) ?_;rintro _ _ ⟨rfl,rfl⟩;show%[_,O,_,O,_,_,O,O|?_];show%[_,O,O,_,O|aT %[_,O,_,O,_,O,_,_,O,O,zS2|λ tf hf=>?_]];show aK hf λ Hd kd sd=>?_;show%[tf,_,O,G2 kd,O,_,_,O,_,_,O,O|?_];show%[_,O,_,O,_,O,_,O,_,O,zS5|λ g1 hg1=>?_];show aK hg1 λ He ke se=>?_;show%[_,O,_,O,_,O,_,O,_,O,zS5|λ g2 hg2=>?_];show aK hg2 λ Hf kf sf=>?_;show%[zS2|λ lu hlu=>?_];show aK hlu λ Hg kg sg=>?_;have sA:=((((sa.trans sb).trans sd).trans se).trans sf)
  exact q lu g1 g2 Hg (sA.free hlu) kg (sg _ _ (sf _ _ ke)) (sg _ _ kf) (sA.trans sg)
def isT(b:Int)(ks:PP Kd)(w h:Int)(d:PyData):Bool :=
 if isC b w h d=true then
  match e:aZ d with
  | some [_,.int p,l,r]=>if bw d "down" 4=true then isT b ks p h l && isT b ks (w - p - b) h r else isT b ks w p l && isT b ks w (h - p - b) r
  | _=>false
 else isL ks w h d
termination_by sizeOf d
decreasing_by all_goals (apply uX e;simp)
theorem cL{b:Int}{ks:PP Kd}{w h:Int}{d:PyData}(hc:isC b w h d=false):isT b ks w h d=isL ks w h d:=by rw[isT,PZ (by rw[hc];decide)]
theorem eC{b:Int}{ks:PP Kd}{w h:Int}{d:PyData}(hc:isC b w h d=true):∃(dn:Bool)(p:Int)(l r:PyData),aZ d=some [.str (if dn=true then "down" else "across"),.int p,l,r]/\1<=p/\(dn=true->p+b < w)/\(dn=false->p+b < h) /\
  isT b ks w h d=(if dn=true then isT b ks p h l && isT b ks (w - p - b) h r else isT b ks w p l && isT b ks w (h - p - b) r):=by
 have key:∀side,fH b side d=true->∃x p l r,aZ d=some [x,.int p,l,r]/\1<=p/\p+b < side:=λ side h=>by
  unfold fH at h
  split at h
  ·rename_i x p l r e
   unfold xD at h
   split at h
   ·rename_i p'
    rw[M6]at h;exact%[x,p',l,r,e,C0 h.1|C0 h.2]
   ·cases h
  ·cases h
 have hc':=hc;unfold isC at hc
 by_cases hb:bw d "down" 4=true
 ·rw[Pa hb]at hc;obtain⟨x,p,l,r,e,p1,p2⟩:=key _ hc;obtain⟨r',e',_⟩:=jf hb;rw[e]at e';cases e';show⟨true,p,l,r,e,p1,λ _=>p2,λ z=>(by cases z),?_⟩;rw[isT,Pa hc']
  split
  ·rename_i y p' l' r' e2
   rw[e]at e2;cases e2;rw[Pa hb];rfl
  ·rename_i z
   exact absurd e (z _ _ _ _)
 ·rw[PZ hb]at hc
  by_cases hb2:bw d "across" 4=true
  ·rw[Pa hb2]at hc;obtain⟨x,p,l,r,e,p1,p2⟩:=key _ hc;obtain⟨r',e',_⟩:=jf hb2;rw[e]at e';cases e';show⟨false,p,l,r,e,p1,λ z=>(by cases z),λ _=>p2,?_⟩;rw[isT,Pa hc']
   split
   ·rename_i y p' l' r' e2
    rw[e]at e2;cases e2;rw[PZ hb];rfl
   ·rename_i z
    exact absurd e (z _ _ _ _)
  ·rw[PZ hb2]at hc;cases hc
structure Spot where
 x:Int
 y:Int
 w:Int
 h:Int
 d:PyData
def SpAt(p:PK)(H0 H:Hp)(v:V)(t:Spot):Prop:=∃a u,v=.ref a/\H a= ~~~[.int t.x,.int t.y,.int t.w,.int t.h,u]/\Dt p H0 u t.d
theorem SpAt.keep{p:PK}{H0 H H':Hp}(k:∀a xs,H a= ~~~xs->H' a= ~~~xs){v:V}{t:Spot}(h:SpAt p H0 H v t):SpAt p H0 H' v t:=by obtain⟨a,u,e,h1,h2⟩:=h;exact%[a,u,e,k _ _ h1|h2]
def gO(ts:PP Spot):Nat:=(ts.map λ t=>wt t.d).sum
theorem eY(a b:PP Spot):gO (a ++ b)=gO a+gO b:=by unfold gO;rw[J7,List.sum_append]
theorem mD:∀ts:PP Spot,ts.length<=gO ts
 | []=>B3 _
 | t :: r=>by have:=mD r;have:=uW t.d;change r.length+1<=wt t.d+gO r;omega
theorem qN{d x y l r:PyData}(h:aZ d=some [x,y,l,r]):wt l+wt r < wt d:=by
 cases d <;> simp only[aZ,OX,reduceCtorEq]at h
 ·subst h;simp only[wt,wts];omega
 ·subst h;simp only[wt,wts];omega
theorem mE{α β:Type}{R:α->β->Prop}{x:α}:∀{xs:PP α}{zs:PP β},Paired R (xs ++ [x]) zs->∃ys y,zs=ys ++ [y]/\Paired R xs ys/\R x y
 | [],zs,h=>by
  cases h with
  | cons a t=>cases t;exact%[[],_,O,.nil|a]
 | z :: xs,zs,h=>by
  cases h with
  | cons a t=>
   obtain⟨ys,y,rfl,p,r⟩:=mE t;exact%[_ :: ys,y,O,.cons a p|r]
theorem eZ{α β:Type}{R:α->β->Prop}:∀{xs:PP α}{ys:PP β}{xs':PP α}{ys':PP β},Paired R xs ys->Paired R xs' ys'->Paired R (xs ++ xs') (ys ++ ys')
 | _,_,_,_,.nil,h=>h
 | _,_,_,_,.cons a t,h=>.cons a (eZ t h)
inductive spCP(vs:PP V)(H:Hp)(Q:VK)(E_:XK):Prop
|mk(w h:Int)(_:vs=[.int w,.int h])(_:1<=w)(_:1<=h)(_:Q .non H)
inductive spIsTree(C:PK)(vs:PP V)(H:Hp)(Q:VK)(E_:XK):Prop
|mk(pp s:PK)(b w h:Int)(ks:PP Kd)(v:V)(d:PyData)(_:vs=[.ref s,.int w,.int h,v])(_:ShopAt C H s b ks)(_:1<=w)(_:1<=h)(_:Dt pp H v d)(_:wt d<=30000)(_:∀H',Same H H'->Q (.bl (isT b ks w h d)) H')
theorem sccplate:FnScope QL QL (defScope cF):=nofun
theorem qO{f:PK}{fd:F8}(F:Fun K "check_plate" "check_plate" cF f fd)(DW:Dn P w K mg base "is_whole" PX 1 (cJ K)):FnOk P w K mg base CX0 2 f fd QL (spCP):=by
 exists sccplate;obtain⟨w1,h1,rfl,w0,h0,q⟩:=h;show%[_,(@ag _ _ _ ((PW.pt (bQ (@bh _ _ _ _ (@aV _ _ _ (DW∪('0'^^^(af^^^ad))) (by intro _;rfl))) (bT (@bh _ _ _ _ (@aV _ _ _ (DW∪('1'^^^(af^^^ad))) (by intro _;rfl))))))<|>(@ag _ _ _ aP)<|>aG))|?_];show%[_,O,.int w1,"int",1,O,Ty.int,_,O|?_];rw[show aX (.int w1) 1=true from PY w0];show aT %[_,rfl,.int h1,"int",1,rfl,Ty.int,_,rfl|?_];rw[show aX (.int h1) 1=true from PY h0];exact aT q
theorem scistree:FnScope QM QN (defScope fA):=nofun
theorem jY{f C:PK}{fd:F8}(F:Fun K "is_tree" "is_tree" fA f fd)(T:ShopTxt K C)(MB:Mn P w K mg base C "blade" QE 1 (ig C))(DCP:Dn P w K mg base "check_plate" QL 2 (spCP))(DC:Dn P w K mg base "is_cut" QJ 3 (spCut))(DF:Dn P w K mg base "is_leaf" QK 5 (spLeaf C))(DS:Dn P w K mg base "spots_behind" QJ 2 (spBehind)):FnOk P w K mg base CX0 6 f fd QN (spIsTree C):=by
 exists scistree;obtain⟨pp,s,b,w1,h1,ks,v,d,rfl,S,w0,h0,hd,dz,q⟩:=h;have hr1:=hr.mono (show 1<=5 by decide);have hr2:=hr.mono (show 2<=5 by decide);have hr3:=hr.mono (show 3<=5 by decide);show%[_,((@be _ _ _ _ (@ax _ _ _ _ _ _ _ _ _ _ DCP hr2 O ('1'^^^('2'^^^ad)) ∅ O O) O)<<<((4∣(ef '0' T.cl MB hr1))<<<((5∣(@aL _ _ _ _ ((@aI _ _ _ _ _ (af^^^(af^^^('1'^^^('2'^^^('3'^^^ad))))))^^^ad)))<<<((lM E4 (iF '5' (λ _=>O)) ((6∣(gJ F5 PySem.F.slot_list_pop PySem.F.type_list_pop kF '5'))>>>((@aV _ _ _ (@ax _ _ _ _ _ _ _ _ _ _ DC hr3 O ('4'^^^('6'^^^ad)) ∅ O O) (by intro _;rfl))<|>(@ag _ _ _ (@be _ _ _ _ (@dB _ _ _ _ _ _ _ _ _ _ _ _ F5 PySem.F.slot_list_extend PySem.F.type_list_extend jL '5' ((@ax _ _ _ _ _ _ _ _ _ _ DS hr2 O ('4'^^^('6'^^^ad)) ∅ O O)^^^ad) O O O O O) O))<|>(@ag _ _ _ ((@bh _ _ _ _ (@aV _ _ _ (DF∪('0'^^^('6'^^^ad))) (by intro _;rfl)))<|>(bP⁻¹)<|>aG)))))<<<(bP⁻¹)))))|?_];dsimp only[bF];have sz:(40000:Nat)<=sizeLine:=∅
 show%[_,O,_,O,w1,h1,O,w0,h0|?_];obtain⟨dx,r,rs,S1,S2,S3⟩:=id S;show%[_,O,s,dx,_,O,S1,(cX _ _ ∅ ∅),s,b,ks,O,S|?_];show%[_,O,_,O,_,O,zS5|λ t ht=>?_];show aK ht λ Ha ka sa=>?_;show%[zS1|λ wl hwl=>?_];show aK hwl λ Hb kb sb=>?_;have fw:H wl=none:=sa.free hwl;have sab:=sa.trans sb;show%[λ m σ H'=>∃(vs:PP V)(ts:PP Spot)(v6:PM V),σ=[↑s,⇑w1,⇑h1,some v,⇑b,↑wl,v6]/\m=gO ts/\H' wl=↥vs/\Paired (SpAt pp H H') vs ts/\gO ts<=30000/\isT b ks w1 h1 d=ts.all (λ t=>isT b ks t.w t.h t.d)/\Same H H',%[_,[.ref t],[%[0,0,w1,h1|d]],none,O,O,kb,.cons %[t,v,O,sb _ _ ka|hd] .nil,by change wt d+0<=30000;omega,by rw[O9,List.all_nil,O2]|sab]|?_];rintro m σ H1 ⟨vs,ts,v6,rfl,rfl,hw,pr,sz1,al,s1⟩;show%[_,O,_,.inl %[vs,G3 hw|O]|?_];rcases O3 vs with rfl | ⟨vs',v0,rfl⟩
 ·have ets:ts=[]:=by
   have:=E3 pr;cases ts with
   | nil=>rfl
   | cons _ _=>simp at this
  subst ets;have q1:=q H1 s1;rw[al]at q1;exact aT q1
 rw[O4]at pr hw ⊢;obtain⟨ts',t0,rfl,prp,⟨sp,u,rfl,hsp,hdu⟩⟩:=mE pr;rw[show(!(vs' ++ [V.ref sp]).isEmpty)=true by cases vs' <;> rfl];have ssz:gO (ts' ++ [t0])=gO ts'+wt t0.d:=by rw[eY];change _+(wt t0.d+0)=_;omega
 rw[ssz]at sz1 ⊢;show aU %[λ σ' H'=>∃(vs:PP V)(ts:PP Spot)(v6:PM V),σ'=[↑s,⇑w1,⇑h1,some v,⇑b,↑wl,v6]/\gO ts < gO ts'+wt t0.d/\H' wl=↥vs/\Paired (SpAt pp H H') vs ts/\gO ts<=30000/\isT b ks w1 h1 d=ts.all (λ t=>isT b ks t.w t.h t.d)/\Same H H',λ σ' H' ⟨vs,ts,v6,e,l,r⟩=>%[_,l,vs,ts,v6,e,rfl|r]|?_];rw[List.all_append,O9,List.all_nil,O2]at al;have ml:(vs' ++ [V.ref sp]).length=vs'.length+1:=by rw[G8];rfl
 have keep:∀{Hx:Hp}{o:HO},Same H Hx->Same H (upd Hx wl o):=λ {Hx o} sx c oo e=>by rw[aw (λ z=>by rw[z,fw]at e;cases e)];exact sx _ _ e
 show ar (λ R=>∀(H':Hp),H' wl=↥vs'->Paired (SpAt pp H H') vs' ts'->H' sp= ~~~[.int t0.x,.int t0.y,.int t0.w,.int t0.h,u]->Same H H'->R [↑s,⇑w1,⇑h1,some v,⇑b,↑wl,↑sp] H') (λ Dd hR=>?_) ?_
 ·show%[_,O,.inl %[O,_|G3 hw],wl,_,.ref sp,O,O,hw,(by rw[ml];simp)|?_];rw[List.dropLast_concat];have kt:∀{c:PK}{xs:PP V},H1 c= ~~~xs->(upd H1 wl (.lst vs')) c= ~~~xs:=λ {c xs} e=>by rw[aw (λ z=>by rw[z,hw]at e;cases e)];exact e
  exact hR _ au (G4 prp λ v t h=>h.keep λ a xs e=>kt e) (kt hsp) (keep s1)
 rintro H2 hw2 pr2 hsp2 s2;show%[_,O,_,O,pp,b,t0.x,t0.y,t0.w,t0.h,sp,u,t0.d,O,hsp2,hdu.same s2|λ H3 s3=>%[_,O|?_]];have s03:=s2.trans s3;show cV (λ hc=>?_) (λ hc=>?_)
 ·obtain⟨dn,p,l,r,er,p1,pw,ph,eT⟩:=eC (ks:=ks) hc;obtain⟨a,xs,rfl,hx,dxs⟩:=hdu.ref_row er;cases dxs with
  | @cons x0 _ xs0 _ hd0 dxs=>
  cases dxs with
  | @cons x1 _ xs1 _ hd1 dxs=>
  cases dxs with
  | @cons lv _ xs2 _ hdl dxs=>
  cases dxs with
  | @cons rv _ xs3 _ hdr dxs=>
  cases dxs;cases hd0;cases hd1;show%[_,O,.inl %[O,_|G3 (s3 _ _ hw2)],_,O,_,O|?_];show%[b,t0.x,t0.y,t0.w,t0.h,p,sp,a,dn,lv,rv,O,s3 _ _ hsp2,hx.imp (s03 _ _) (s03 _ _)|λ lu t1 t2 H4 hlu ku k1 k2 s4=>?_];have hw4:=s4 _ _ (s3 _ _ hw2);have pl:=E3 pr2;have sl:=mD ts';have two:=qN er;show%[wl,lu,_,_,O,O,hw4,ku,by change _+2<=_;omega|?_];have kt:∀{c:PK}{xs:PP V},H4 c= ~~~xs->(upd H4 wl (.lst (vs' ++ [.ref t1,.ref t2]))) c= ~~~xs:=λ {c xs} e=>by rw[aw (λ z=>by rw[z,hw4]at e;cases e)];exact e
  have pr4:Paired (SpAt pp H (upd H4 wl (.lst (vs' ++ [.ref t1,.ref t2])))) vs' ts':=G4 pr2 λ v t h=>h.keep λ a xs e=>kt (s4 _ _ (s3 _ _ e));cases dn with
  | true=>
   have k1:H4 t1= ~~~[.int t0.x,.int t0.y,.int p,.int t0.h,lv]:=k1;have k2:H4 t2= ~~~[.int (t0.x+(p+b)),.int t0.y,.int (t0.w - p - b),.int t0.h,rv]:=k2;show%[vs' ++ [.ref t1,.ref t2],ts' ++ [%[t0.x,t0.y,p,t0.h|l],%[t0.x+(p+b),t0.y,t0.w - p - b,t0.h|r]],_,O,?_,au,eZ pr4 (.cons %[t1,lv,O,kt k1|hdl] (.cons %[t2,rv,O,kt k2|hdr] .nil)),?_,?_|keep (s03.trans s4)]
   ·rw[eY];change _+(wt l+(wt r+0)) < _;omega
   ·rw[eY];change _+(wt l+(wt r+0))<=_;omega
   ·rw[al,eT,List.all_append];simp only[P4,O9,List.all_nil,O2]
  | false=>
   have k1:H4 t1= ~~~[.int t0.x,.int t0.y,.int t0.w,.int p,lv]:=k1;have k2:H4 t2= ~~~[.int t0.x,.int (t0.y+(p+b)),.int t0.w,.int (t0.h - p - b),rv]:=k2;show%[vs' ++ [.ref t1,.ref t2],ts' ++ [%[t0.x,t0.y,t0.w,p|l],%[t0.x,t0.y+(p+b),t0.w,t0.h - p - b|r]],_,O,?_,au,eZ pr4 (.cons %[t1,lv,O,kt k1|hdl] (.cons %[t2,rv,O,kt k2|hdr] .nil)),?_,?_|keep (s03.trans s4)]
   ·rw[eY];change _+(wt l+(wt r+0)) < _;omega
   ·rw[eY];change _+(wt l+(wt r+0))<=_;omega
   ·rw[al,eT,List.all_append];simp only[J6,Pn,O9,List.all_nil,O2]
 ·have hc:isC b t0.w t0.h t0.d=false:=by simpa using hc
  have lf:=cL (ks:=ks) hc;show%[_,O,_,O,pp,b,t0.x,t0.y,t0.w,t0.h,s,sp,ks,u,t0.d,O,jg s03 S,s3 _ _ hsp2,hdu.same s03|λ H4 s4=>%[_,O|?_]];have s04:=s03.trans s4;have sp0:=uW t0.d;cases hl:isL ks t0.w t0.h t0.d with
  | true=>
   rw[lf,hl,O2]at al;exact aT %[vs',ts',_,rfl,⋯,s4 _ _ (s3 _ _ hw2),G4 pr2 λ v t h=>h.keep λ a xs e=>s4 _ _ (s3 _ _ e),⋯,al|s04]
  | false=>
   rw[lf,hl,K4]at al;have q1:=q H4 s04;rw[al]at q1;exact aU q1
def pK(k:Kd):PP Bool:=if bL k=true then[false,true]else[false]
inductive Tr where
 | rest
 | piece (i:Nat) (c:Bool) (x y:Int)
 | cut (dn:Bool) (p:Int) (l r:Tr)
def toD:Tr->PyData
 | .rest=>.tuple [.str "rest"]
 | .piece i c x y=>.tuple [.str "piece",.int i,.bool c,.int x,.int y]
 | .cut dn p l r=>.tuple [.str (if dn=true then "down" else "across"),.int p,toD l,toD r]
def lvN:Tr->Nat
 | .cut _ _ l r=>lvN l+lvN r
 | _=>1
theorem Lu:∀t:Tr,1<=(toD t).depth
 | .rest=>∅
 | .piece ..=>by change 1<=PyData.depthAll _+1;omega
 | .cut ..=>by change 1<=PyData.depthAll _+1;omega
def TrV(H:Hp):Tr->V->Prop
 | .rest,v=>∃a,v=.ref a/\H a=some (.tup [.str "rest"])
 | .piece i c x y,v=>∃a,v=.ref a/\H a=some (.tup [.str "piece",.int i,.bl c,.int x,.int y])
 | .cut dn p l r,v=>∃a x y,v=.ref a/\H a=some (.tup [.str (if dn=true then "down" else "across"),.int p,x,y])/\TrV H l x/\TrV H r y
theorem TrV.keep{H H':Hp}(k:∀a xs,H a= ~~~xs->H' a= ~~~xs):∀(t:Tr){v:V},TrV H t v->TrV H' t v
 | .rest,_,⟨a,e,h⟩=>%[a,e|k _ _ h]
 | .piece ..,_,⟨a,e,h⟩=>%[a,e|k _ _ h]
 | .cut _ _ l r,_,⟨a,x,y,e,h,h1,h2⟩=>%[a,x,y,e,k _ _ h,TrV.keep k l h1|TrV.keep k r h2]
theorem TrV.dt{p:PK}{H:Hp}:∀(t:Tr){v:V},TrV H t v->Dt p H v (toD t)
 | .rest,_,⟨a,e,h⟩=>by subst e;exact .tup h (.cons (.str _) .nil)
 | .piece ..,_,⟨a,e,h⟩=>by subst e;exact .tup h (.cons (.str _) (.cons (.int _) (.cons (.bl _) (.cons (.int _) (.cons (.int _) .nil)))))
 | .cut _ _ l r,_,⟨a,x,y,e,h,h1,h2⟩=>by subst e;exact .tup h (.cons (.str _) (.cons (.int _) (.cons (TrV.dt l h1) (.cons (TrV.dt r h2) .nil))))
def okT(b:Int)(ks:PP Kd):Int->Int->Tr->Prop
 | _,_,.rest=>True
 | w,h,.piece i c x y=>∃k,ks[i]?=some k/\c∈pK k/\0<=x/\0<=y/\x+sd1 k c<=w/\y+sd2 k c<=h
 | w,h,.cut dn p l r=>1<=p/\(if dn=true then p+b < w/\okT b ks p h l/\okT b ks (w - p - b) h r else p+b < h/\okT b ks w p l/\okT b ks w (h - p - b) r)
theorem xF{ks:PP Kd}{i:Nat}{c:Bool}{k:Kd}(hk:ks[i]?=some k)(hc:c∈pK k):fE ks (.int i) (.bl c)=true:=by
 unfold fE;simp only[K2,hk];rw[PY (show(0:Int)<=i by omega),N8];cases c with
 | false=>rfl
 | true=>
  unfold pK at hc;cases t:bL k with
  | true=>rfl
  | false=>rw[t]at hc;simp at hc
def But2(p q:PK)(H H':Hp):Prop:=∀c o,c≠p->c≠q->H c=some o->H' c=some o
theorem But2.trans{p q:PK}{H H' H'':Hp}(a:But2 p q H H')(b:But2 p q H' H''):But2 p q H H'':=λ c o n1 n2 e=>b c o n1 n2 (a c o n1 n2 e)
theorem But2.but{p q:PK}{H H':Hp}(a:But p H H'):But2 p q H H':=λ c o n1 _ e=>a c o n1 e
theorem hJ{d:PyData}{y:Str}{r:PP PyData}(e:aZ d=some (.str y :: r))(z:Str)(n:Nat):bw d z n=(decide (r.length+1=n) && decide (y=z)):=by unfold bw;rw[e]
def pcD(ks:PP Kd)(w h:Int):PP PyData->Bool
 | [k,t,x,y]=>mC ks w h k t x y
 | _=>false
theorem jZ{b:Int}{ks:PP Kd}{w h:Int}{d:PyData}{y:Str}{r:PP PyData}(e:aZ d=some (.str y :: r))(h1:(decide (y = "down"))=false)(h2:(decide (y = "across"))=false):isT b ks w h d=(if decide (y = "rest")=true then decide (r.length+1=1)else if decide (y = "piece")=true then pcD ks w h r else false):=by
 have hc:isC b w h d=false:=by
  unfold isC;rw[hJ e,hJ e,h1,h2];simp only[K4]
  rfl
 rw[cL hc];unfold isL;rw[hJ e,hJ e,e]
 by_cases hr:y = "rest"
 ·subst hr;rw[show decide ((Str.ofString "rest")=(Str.ofString "piece"))=false by decide +kernel,K4,PZ B2,PY (rfl:(Str.ofString "rest")=Str.ofString "rest"),Pa rfl,O2]
 ·rw[Pf hr,PZ B2]
  by_cases hp:y = "piece"
  ·subst hp;rw[PY (rfl:(Str.ofString "piece")=Str.ofString "piece"),O2,Pa (rfl:true=true),K4]
   match r with
   | []=>rfl
   | [_]=>rfl
   | [_,_]=>rfl
   | [_,_,_]=>rfl
   | [_,_,_,_]=>rfl
   | _ :: _ :: _ :: _ :: _ :: r=>simp[pcD]
  ·rw[Pf hp,K4,K4,PZ B2,PZ B2]
theorem pL{b:Int}{ks:PP Kd}{w h:Int}{d:PyData}{dn:Bool}{r:PP PyData}(e:aZ d=some (.str (if dn=true then "down" else "across") :: r)):isT b ks w h d=(match r with
  | [.int p,l,r']=>decide (1<=p) && (if dn=true then decide (p+b < w) && (isT b ks p h l && isT b ks (w - p - b) h r')else decide (p+b < h) && (isT b ks w p l && isT b ks w (h - p - b) r'))
  | _=>false):=by
 have leafF:isC b w h d=false->isT b ks w h d=false:=λ hc=>by
  rw[cL hc];unfold isL;rw[hJ e,hJ e];cases dn
  ·rw[show decide ((if false=true then(Str.ofString "down")else Str.ofString "across")=Str.ofString "piece")=false by decide +kernel,show decide ((if false=true then(Str.ofString "down")else Str.ofString "across")=Str.ofString "rest")=false by decide +kernel,K4,K4,PZ B2]
  ·rw[show decide ((if true=true then(Str.ofString "down")else Str.ofString "across")=Str.ofString "piece")=false by decide +kernel,show decide ((if true=true then(Str.ofString "down")else Str.ofString "across")=Str.ofString "rest")=false by decide +kernel,K4,K4,PZ B2]
 cases hc:isC b w h d with
 | false=>
  rw[leafF hc]
  split
  ·rename_i p l r' e
   unfold isC at hc;rw[hJ e,hJ e]at hc;cases dn
   ·rw[show decide ((if false=true then(Str.ofString "down")else Str.ofString "across")=Str.ofString "down")=false by decide +kernel,show decide ((if false=true then(Str.ofString "down")else Str.ofString "across")=Str.ofString "across")=true by decide +kernel]at hc;unfold fH at hc;rw[e]at hc;have hc:(decide (1<=p) && decide (p+b < h))=false:=hc;rw[PZ B2,<- Bool.and_assoc,hc,M8]
   ·rw[show decide ((if true=true then(Str.ofString "down")else Str.ofString "across")=Str.ofString "down")=true by decide +kernel]at hc;unfold fH at hc;rw[e]at hc;have hc:(decide (1<=p) && decide (p+b < w))=false:=hc;rw[Pa rfl,<- Bool.and_assoc,hc,M8]
  ·rfl
 | true=>
  obtain⟨dn',p,l,r',e',p1,pw,ph,eT⟩:=eC (ks:=ks) hc;rw[e]at e';have hdn:dn=dn':=by have:=PyData.str.inj (List.cons.inj (B8 e')).1;cases dn <;> cases dn' <;> first | rfl | exact absurd this ∅
  subst hdn;cases e';rw[eT];cases dn
  ·simp only[J6,Pn];rw[PY p1,PY (ph rfl)];rfl
  ·simp only[P4];rw[PY p1,PY (pw rfl)];rfl
def TrD:Tr->PyData->Prop
 | .rest,d=>aZ d=some [.str "rest"]
 | .piece i c x y,d=>aZ d=some [.str "piece",.int i,.bool c,.int x,.int y]
 | .cut dn p l r,d=>∃dl dr,aZ d=some [.str (if dn=true then "down" else "across"),.int p,dl,dr]/\TrD l dl/\TrD r dr
theorem TrD.to:∀t:Tr,TrD t (toD t)
 | .rest=>rfl
 | .piece ..=>rfl
 | .cut _ _ l r=>%[toD l,toD r,O,TrD.to l|TrD.to r]
theorem TrD.good{b:Int}{ks:PP Kd}:∀(t:Tr)(d:PyData)(w h:Int),TrD t d->okT b ks w h t->isT b ks w h d=true
 | .rest,d,w,h,e,_=>by have e:aZ d=some (.str "rest" :: []):=e;rw[jZ e ∅ ∅,Pa ∅];rfl
 | .piece i c x y,d,w,h,e,⟨k,hk,hc,x0,y0,hx,hy⟩=>by
  have e:aZ d=some (.str "piece" :: [.int i,.bool c,.int x,.int y]):=e;rw[jZ e ∅ ∅,PZ ∅,Pa ∅];change fY ks w h (.int i) (.bl c) (.int x) (.int y)=true;unfold fY;rw[xF hk hc];simp only[K2,hk];rw[show aX (.int x) 0=true from PY x0,show aX (.int y) 0=true from PY y0,PY hx,PY hy]
  rfl
 | .cut true p l r,d,w,h,⟨dl,dr,e,tl,tr⟩,⟨p1,hp,hl,hr⟩=>by have eT:isT b ks w h d=(decide (1<=p) && (decide (p+b < w) && (isT b ks p h dl && isT b ks (w - p - b) h dr))):=pL (dn:=true) (r:=[.int p,dl,dr]) e;rw[eT,PY p1,PY hp,TrD.good l dl p h tl hl,TrD.good r dr _ h tr hr];rfl
 | .cut false p l r,d,w,h,⟨dl,dr,e,tl,tr⟩,⟨p1,hp,hl,hr⟩=>by have eT:isT b ks w h d=(decide (1<=p) && (decide (p+b < h) && (isT b ks w p dl && isT b ks w (h - p - b) dr))):=pL (dn:=false) (r:=[.int p,dl,dr]) e;rw[eT,PY p1,PY hp,TrD.good l dl w p tl hl,TrD.good r dr w _ tr hr];rfl
def dT:Tr->Nat
 | .cut _ _ l r=>max (dT l) (dT r)+1
 | _=>0
def szT:Tr->Nat
 | .cut _ _ l r=>szT l+szT r+1
 | _=>1
theorem Bm(t:Tr):1<=szT t:=by cases t <;> simp only[szT] <;> omega
theorem gx{d:PyData}{ds:PP PyData}(h:aZ d=some ds):wt d=wts ds+1:=by
 cases d <;> simp only[aZ,OX,reduceCtorEq]at h
 ·subst h;rw[wt]
 ·subst h;rw[wt]
theorem kh{x:PyData}:∀{ds:PP PyData},x∈ds->x.depth<=PyData.depthAll ds
 | d :: r,h=>by
  rw[PyData.depthAll];rcases G7.mp h with h | h
  ·rw[h];omega
  ·have:=kh h;omega
theorem km{C x dx:PK}{H:Hp}(hx:H x=none)(hd:H dx=none):Same H (upd (upd H dx (.own x)) x (.ins C dx [])):=λ c o e=>by rw[aw (ao e hx),aw (ao e hd)];exact e
def dpT:Tr->Nat
 | .cut _ _ l r=>max (dpT l) (dpT r)+1
 | _=>0
mutual
theorem Dt.fresh{p q:PK}{H:Hp}(hq:H q=none):∀{v:V}{d:PyData},Dt p H v d->Dt q H v d
 | _,_,.non=>.non
 | _,_,.bl b=>.bl b
 | _,_,.int i=>.int i
 | _,_,.str z=>.str z
 | _,_,.lst n h r=>.lst (ao h hq) h (r.fresh hq)
 | _,_,.tup h r=>.tup h (r.fresh hq)
 | _,_,.emp h=>.emp h
theorem Dts.fresh{p q:PK}{H:Hp}(hq:H q=none):∀{vs:PP V}{ds:PP PyData},Dts p H vs ds->Dts q H vs ds
 | _,_,.nil=>.nil
 | _,_,.cons a r=>.cons (a.fresh hq) (r.fresh hq)
end
def okU(b:Int)(ks:PP Kd):Int->Int->Tr->Prop
 | _,_,.rest=>True
 | w,h,.piece i c x y=>∃k,ks[i]?=some k/\(i,c)∈lyK ks 0/\0<=x/\0<=y/\x+sd1 k c<=w/\y+sd2 k c<=h
 | w,h,.cut dn p l r=>1<=p/\(if dn=true then p+b < w/\okU b ks p h l/\okU b ks (w - p - b) h r else p+b < h/\okU b ks w p l/\okU b ks w (h - p - b) r)
theorem nY:∀{ks:PP Kd}{i:Nat}{q:Nat×Bool},q∈lyK ks i->i<=q.1/\∃k,ks[q.1 - i]?=some k/\(q.2=false\/bL k=true)
 | [],_,_,h=>by simp[lyK]at h
 | x :: ks,i,q,h=>by
  rcases C3.mp (show q∈lyT i x ++ lyK ks (i+1)from h)with h | h
  ·unfold lyT at h;rcases G7.mp h with rfl | h
   ·exact%[B3 _,x,by simp|.inl rfl]
   ·split at h
    ·rename_i ht
     rw[E2.mp h];exact%[B3 _,x,by simp|.inr ht]
    ·simp at h
  ·obtain⟨h1,k,h2,h3⟩:=nY h;exact%[⋯,k,by rw[show q.1 - i=(q.1 - (i+1))+1 by omega,List.getElem?_cons_succ];exact h2|h3]
theorem zH{ds:PP PyData}(d3:PyData.canLayAll0 ds=true)(d4:PyData.depthAll ds<=1):SeqAt.shaped (.list ds)=true/\(ds=[]->PyData.eqv (.list ds) (.list [])=true)/\(ds≠[]->PyData.eqv (.list ds) (.list [])=false):=by
 show%[?_,λ e=>by subst e;exact PySem.SeqAt.eqv_refl _ rfl|λ e=>?_]
 ·unfold SeqAt.shaped;rw[PyData.canLay0,d3,PyData.depth,PY (show PyData.depthAll ds+1<=64 by omega)];rfl
 ·cases ds with
  | nil=>exact absurd rfl e
  | cons d r=>rfl
def PotC(H:Hp)(p:PK):Prop:=∃a b:Int,0<=a/\0<=b/\b < 4294967296/\H p=↥[.int a,.int b]
theorem PotC.same{H H':Hp}{p:PK}(x:PotC H p)(s:Same H H'):PotC H' p:=by obtain⟨a,b,h1,h2,h3,e⟩:=x;exact%[a,b,h1,h2,h3|s _ _ e]
theorem PotC.new{H:Hp}{p q:PK}{o:HO}(x:PotC H p)(h:H q=none):PotC (upd H q o) p:=x.same (G1 h)
theorem PotC.some{H:Hp}{p:PK}(x:PotC H p):H p≠none:=by obtain⟨a,b,h1,h2,h3,e⟩:=x;rw[e];exactλ z=>by cases z
theorem PotC.ne{H:Hp}{p q:PK}(x:PotC H p)(h:H q=none):p≠q:=λ z=>x.some (z ▸ h)
theorem cA{H:Hp}{p:PK}(h:PotC H p):∃xs,H p=↥xs:=by obtain⟨_,_,_,_,_,e⟩:=h;exact%[_|e]
theorem PotC.put{H:Hp}{p l:PK}{o:HO}(x:PotC H p)(n:p≠l):PotC (upd H l o) p:=by obtain⟨a,b,h1,h2,h3,e⟩:=x;exact%[a,b,h1,h2,h3|by rw[aw n];exact e]
theorem But.freeC{p q:PK}{H H':Hp}(b:But p H H')(x:PotC H' p)(h:H' q=none):q≠p/\H q=none:=by
 have n:q≠p:=λ z=>x.some (z ▸ h);show%[n|?_];cases e:H q with
 | none=>rfl
 | some o=>rw[b q o n e]at h;cases h
theorem LN{p c:PK}{H0 H:Hp}{o:HO}(b:But p H0 H)(pt:PotC H p)(h:H c=none):∃H',upd H c o=H'/\H' c=some o/\c≠p/\Same H H'/\But p H0 H'/\PotC H' p :=
 %[_,rfl,au,Ne.symm (pt.ne h),G1 h,b.trans (But.new h)|pt.new h]
@[elab_as_elim] theorem dG{H H0:Hp}{p t:PK}{o:HO}{P:Hp->Prop}(ht:H t=none)(pt:PotC H p)(b:But p H0 H)(h:∀H',H' t=some o->t≠p->Same H H'->But p H0 H'->PotC H' p->P H'):P (upd H t o):=by obtain⟨H',e,k,n,s,b,q⟩:=LN (o:=o) b pt ht;rw[e];exact h H' k n s b q
theorem lA{p:PK}{H H':Hp}(b:But p H H')(pt:PotC H p){c:PK}{xs:PP V}(e:H c= ~~~xs):H' c= ~~~xs:=by obtain⟨_,hp⟩:=cA pt;exact b _ _ (λ z=>by rw[z,hp]at e;cases e) e
theorem yK{p:PK}{rs:PP V}{ks:PP Kd}{H H':Hp}(b:But p H H')(pt:PotC H p)(h:Tups H rs ks):Tups H' rs ks:=Tups.keep (λ x xs e=>lA b pt e) h
theorem But.refl'{p:PK}{H:Hp}:But p H H:=λ _ _ _ e=>e
inductive spPotC(vs:PP V)(H:Hp)(Q:VK)(E_:XK):Prop
|mk(c k:Int)(_:vs=[.int c,.int k])(_:0<=k)(_:k<=63)(_:∀(p:PK)(H':Hp),H p=none->PotC H' p->Same H H'->Q (.ref p) H')
inductive spTake(vs:PP V)(H:Hp)(Q:VK)(E_:XK):Prop
|mk(p:PK)(m:Int)(_:vs=[.ref p,.int m])(_:PotC H p)(_:0 < m)(_:m<=10 ^ 60)(_:∀(r:Int)(H':Hp),0<=r->r < m->PotC H' p->But p H H'->Q (.int r) H')
inductive spUnit(vs:PP V)(H:Hp)(Q:VK)(E_:XK):Prop
|mk(p:PK)(_:vs=[.ref p])(_:PotC H p)(_:∀(r:Int)(H':Hp),1<=r->r < 2 * 10 ^ 56->PotC H' p->But p H H'->Q (.int r) H')
inductive spSideC(vs:PP V)(H:Hp)(Q:VK)(E_:XK):Prop
|mk(p:PK)(u m:Int)(_:vs=[.ref p,.int u,.int m])(_:PotC H p)(_:1<=u)(_:u < 2 * 10 ^ 56)(_:1<=m)(_:m<=40)(_:∀(r:Int)(H':Hp),1<=r->r < 10 ^ 58->PotC H' p->But p H H'->Q (.int r) H')
inductive spWorthC(vs:PP V)(H:Hp)(Q:VK)(E_:XK):Prop
|mk(p:PK)(_:vs=[.ref p])(_:PotC H p)(_:∀(r:Int)(H':Hp),0<=r->r < 10 ^ 60->PotC H' p->But p H H'->Q (.int r) H')
theorem sccell:FnScope QO QO (defScope pi):=nofun
theorem xG{f:PK}{fd:F8}(F:Fun K "_law_cell" "_law_cell" pi f fd)(B:Blt mg):FnOk P w K mg base CX0 1 f fd QO (uw K):=by
 exists sccell;obtain⟨a,ns,n,rfl,hS,n0,q⟩:=h;show%[_,((('1'<*>tN<*>(@aD _ _ _ _ _ _ _ _ _ aY O B.len Pj ('0'^^^ad) ∅ ∅ O O))<|>(('0'&&&ix_list&&&'1')⁻¹)<|>aG)<<<(af⁻¹))|?_];dsimp only[bF];have hl:(ns.map V.int).length=ns.length:=G6 _;show%[_,O,_,O,a,_,O,.inl hS,_,_,O,O,_,O|?_];show cV (λ c=>?_) (λ c=>?_)
 ·have c':n < ((ns.map V.int).length:Int):=C0 c;rw[hl]at c';have hk:n.toNat < ns.length:=⋯
  have hv:atI (ns.map V.int) n=some (.int ns[n.toNat]):=bq n0 (by rw[J1,F1 hk];rfl);exact%[_,O,_,O,a,_,_,_,O,O,hS,hv|q _]
 ·exact q _
theorem scpotc:FnScope QP QP (defScope xq):=nofun
theorem xH{f:PK}{fd:F8}(F:Fun K "_law_pot" "_law_pot" xq f fd)(B:Blt mg):FnOk P w K mg base CX0 1 f fd QP (spPotC):=by
 exists scpotc;obtain⟨c,k,rfl,k0,k1,q⟩:=h;show%[_,((@aL _ _ _ _ ((@aD _ _ _ _ _ _ _ _ _ (jE O) O B.max PyProof.Rows.boot_max (af^^^(((@aD _ _ _ _ _ _ _ _ _ lO O B.abs PyProof.Rows.boot_abs ('0'^^^ad) ∅ ∅ O O)|||bD|||(af|||fM|||af))^^^ad)) ∅ ∅ O O)^^^(((((@aD _ _ _ _ _ _ _ _ _ lO O B.abs PyProof.Rows.boot_abs ('0'^^^ad) ∅ ∅ O O)|||iD|||af)|||aW|||(af|||gE|||'1'))|||aW|||af)^^^ad)))⁻¹)|?_];show%[_,O,_,O,_,_,O,O,%[∅,∅|∅],_,_,O,O,_,_,O,_,O,_,O,_,_,O,O,(by change(0:Int) < 2147483563;decide),_,O,_,_,O,O,.inl %[∅|∅],_,_,O,O,_,_,O,O,zS2|λ p hp=>?_];have e1:=Int.emod_nonneg (if c < 0 then -c else c) (show(2147483563:Int)≠0 by decide);have e2:=Int.emod_lt_of_pos (if c < 0 then -c else c) (show(0:Int) < 2147483563 by decide);show q p _ hp %[_,_,?_,?_,?_|au] (G1 hp)
 ·split <;> omega
 ·omega
 ·omega
theorem sctake:FnScope ["_law_pot_here","_law_many","_law_digit"] QQ (defScope pj):=nofun
theorem xI{f:PK}{fd:F8}(F:Fun K "_law_take" "_law_take" pj f fd)(B:Blt mg):FnOk P w K mg base CX0 1 f fd QQ (spTake):=by
 exists sctake;obtain⟨p,m,rfl,⟨a,b,a0,b0,b1,hp⟩,m0,m1,q⟩:=h;show%[_,(((('0'&&&ix_list&&&af)<*>tO<*>af)<|>((2∣(('0'&&&ix_list&&&af)|||iD|||'1'))<<<((@bA _ _ _ _ _ _ (('0'&&&ix_list&&&af)|||iL|||'1') (eO '0' af eU) O O O)<<<('2'⁻¹)))<|>aG)<<<((@bA _ _ _ _ _ _ (((('0'&&&ix_list&&&af)|||gE|||af)|||aW|||af)|||iD|||af) (eO '0' af eU) O O O)<<<(((((('0'&&&ix_list&&&af)|||gE|||('0'&&&ix_list&&&af))|||iD|||af)|||iL|||af)|||iD|||'1')⁻¹)))|?_];dsimp only[bF];have at0:atI [V.int a,V.int b] 0=⇑a:=rfl;have at1:atI [V.int a,V.int b] 1=⇑b:=rfl;show%[_,O,p,_,_,_,O,O,G3 hp,at0,_,_,O,O,_,O|?_];show cV (λ c=>?_) (λ c=>?_)
 ·have c':0 < a:=C0 c;show%[_,O,p,_,_,_,O,O,G3 hp,at0,_,O,_,_,O,O,m0|?_];show%[_,O,p,_,_,_,O,O,G3 hp,at0,_,O,_,_,O,O,%[m0|m1],_,O,p,_,_,_,O,O,hp,O|?_];show%[_,O|q _ _ (Int.emod_nonneg _ ⋯) (Int.emod_lt_of_pos _ m0) %[a / m,b,Int.ediv_nonneg a0 ⋯,b0,b1|au] But.upd]
 ·show%[_,O,p,_,_,_,O,O,G3 hp,at1,_,_,O,O,.inr %[∅|∅],_,_,O,O,_,_,O,O,(by change(0:Int) < 2147483629;decide),_,O,p,_,_,_,O,O,hp,O|?_];have n0:0<=(b * 39373+7919) % 2147483629:=Int.emod_nonneg _ ∅;have n1:(b * 39373+7919) % 2147483629 < 2147483629:=Int.emod_lt_of_pos _ ∅;show%[_,O,p,_,_,_,O,O,G3 au,O,_,O,p,_,_,_,O,O,G3 au,O,_,_,O,O,.inl %[⋯|⋯],_,_,O,O,(by change(0:Int) < 2147483563;decide),_,_,O,O,%[∅|∅],_,O,_,_,O,O,m0|?_];exact q _ _ (Int.emod_nonneg _ ⋯) (Int.emod_lt_of_pos _ m0) %[a,_,a0,n0,⋯|au] But.upd
theorem scunit:FnScope ["_law_pot_here","_law_some"] QR (defScope pC):=nofun
theorem xJ{f:PK}{fd:F8}(F:Fun K "_law_unit" "_law_unit" pC f fd)(B:Blt mg)(DD:Dn P w K mg base "_law_take" QQ 1 (spTake)):FnOk P w K mg base CX0 2 f fd QR (spUnit):=by
 exists scunit;obtain⟨p,rfl,pt,q⟩:=h;show%[_,((1∣(@aL _ _ _ _ (af^^^(af^^^((af|||aW|||(DD∪('0'^^^((af|||fM|||af)^^^ad))))^^^(((af|||fM|||af)|||aW|||(DD∪('0'^^^((af|||fM|||af)^^^ad))))^^^ad))))))<<<(('1'&&&ix_list&&&(DD∪('0'^^^(af^^^ad))))⁻¹))|?_];dsimp only[bF];have e56:(10:Int) ^ (56:Int).toNat=10 ^ 56:=rfl;have e66:(10:Int) ^ 6 < 10 ^ 56:=∅
 show ar (λ R=>∀(l:PK)(c d:Int)(H':Hp),l≠p->H' l=↥[.int 1,.int 1,.int c,.int d]->1<=c->c < 2 * 10 ^ 56->1<=d->d < 2 * 10 ^ 56->PotC H' p->But p H H'->R [↑p,↑l] H') (λ Dd hR=>?_) ?_
 ·show%[_,O,_,_,O,O,%[∅,∅|∅],p,_,O,pt,(by change(0:Int) < 10 ^ (6:Int).toNat;decide),(by change(10:Int) ^ (6:Int).toNat<=10 ^ 60;decide)|λ r H1 r0 r1 pt1 b1=>%[_,_,O,O,_,_,O,O,%[∅,∅|∅],_,O,_,_,O,O,%[∅,∅|∅],p,_,O,pt1,(by change(0:Int) < 10 ^ (56:Int).toNat;decide),(by change(10:Int) ^ (56:Int).toNat<=10 ^ 60;decide)|λ r2 H2 r20 r21 pt2 b2=>%[_,_,O,O,zS4|λ l hl=>?_]]];have r1:r < 10 ^ 6:=r1;rw[e56]at r21;show dG hl pt2 (b1.trans b2) λ H3 k3 n3 s3 b3 pt3=>?_;exact hR l _ _ _ n3 k3 ⋯ ⋯ (by rw[e56];omega) (by rw[e56];omega) pt3 b3
 rintro l c d H1 nlp hl1 c0 c1 d0 d1 pt1 b1;show%[_,O,_,O,p,4,O,pt1,∅,∅|λ r H2 r0 r1 pt2 b2=>?_];have hl2:=b2 _ _ nlp hl1;have one:(1:Int) < 2 * 10 ^ 56:=∅
 obtain⟨x,hx,x0,x1⟩:∃x:Int,atI [V.int 1,V.int 1,V.int c,V.int d] r=⇑x/\1<=x/\x < 2 * 10 ^ 56:=by
  have:r=0\/r=1\/r=2\/r=3:=⋯
  rcases this with rfl | rfl | rfl | rfl
  ·exact%[1,O,∅|one]
  ·exact%[1,O,∅|one]
  ·exact%[c,O,c0|c1]
  ·exact%[d,O,d0|d1]
 exact%[l,_,_,_,O,O,G3 hl2,hx|q x H2 x0 x1 pt2 (b1.trans b2)]
theorem scsidecc:FnScope QS QS (defScope pE):=nofun
theorem qQ{f:PK}{fd:F8}(F:Fun K "_law_side" "_law_side" pE f fd)(B:Blt mg)(DD:Dn P w K mg base "_law_take" QQ 1 (spTake)):FnOk P w K mg base CX0 2 f fd QS (spSideC):=by
 exists scsidecc;obtain⟨p,u,m,rfl,pt,u0,u1,m1,m40,q⟩:=h;show%[_,((((DD∪('0'^^^(af^^^ad)))<*>bC<*>af)<|>(('1'|||gE|||(af|||aW|||(DD∪('0'^^^('2'^^^ad)))))⁻¹)<|>aG)<<<((af|||aW|||(DD∪('0'^^^(('2'|||gE|||'1')^^^ad))))⁻¹))|?_];have e58:40 * (2 * 10 ^ 56) < (10:Int) ^ 58:=∅
 have e60:40 * (2 * 10 ^ 56) < (10:Int) ^ 60:=∅
 have mu:m * u<=40 * (2 * 10 ^ 56):=O5 m40 (Int.le_of_lt u1) ⋯ ∅;have mu1:1<=m * u:=by have:=O5 m1 u0 ∅ ⋯;omega
 show cg (λ R=>∀(H':Hp),PotC H' p->But p H H'->R [↑p,⇑u,⇑m] H') (λ R hR=>?_) ?_
 ·show%[_,O,p,2,O,pt,∅,∅|λ z H1 z0 z1 pt1 b1=>%[O,_,O|?_]];show cV (λ cc=>?_) (λ cc=>hR _ pt1 b1);show%[_,O,_,O,_,O,p,m,O,pt1,⋯,⋯|λ r H2 r0 r1 pt2 b2=>%[_,_,O,O,_,_,O,O,.inr %[⋯|⋯]|q _ H2 ?_ ?_ pt2 (b1.trans b2)]]
  ·have:=O5 u0 (show(1:Int)<=1+r by omega) ∅ ⋯;omega
  ·have:u * (1+r)<=u * m:=Int.mul_le_mul_of_nonneg_left ⋯ ⋯;rw[Int.mul_comm u m]at this;omega
 rintro H1 pt1 b1;exact%[_,O,_,O,_,O,_,_,O,O,.inl %[⋯|⋯],p,m * u,O,pt1,⋯,⋯|λ r H2 r0 r1 pt2 b2=>%[_,_,O,O|q _ H2 ⋯ ⋯ pt2 (b1.trans b2)]]
theorem scworthc:FnScope ["_law_pot_here","_law_some"] QR (defScope lm):=nofun
theorem qR{f:PK}{fd:F8}(F:Fun K "_law_worth" "_law_worth" lm f fd)(B:Blt mg)(DD:Dn P w K mg base "_law_take" QQ 1 (spTake)):FnOk P w K mg base CX0 2 f fd QR (spWorthC):=by
 exists scworthc;obtain⟨p,rfl,pt,q⟩:=h;show%[_,((1∣(@aL _ _ _ _ ((DD∪('0'^^^(af^^^ad)))^^^((DD∪('0'^^^((af|||fM|||af)^^^ad)))^^^((((af|||fM|||af)|||bD|||af)|||bD|||(DD∪('0'^^^(af^^^ad))))^^^ad)))))<<<(('1'&&&ix_list&&&(DD∪('0'^^^(af^^^ad))))⁻¹))|?_];dsimp only[bF];have e60:(10:Int) ^ (60:Int).toNat=10 ^ 60:=rfl;have e100:(100:Int) < 10 ^ 60:=∅
 show ar (λ R=>∀(l:PK)(c d e:Int)(H':Hp),l≠p->H' l=↥[.int c,.int d,.int e]->0<=c->c < 10 ^ 60->0<=d->d < 10 ^ 60->0<=e->e < 10 ^ 60->PotC H' p->But p H H'->R [↑p,↑l] H') (λ Dd hR=>?_) ?_
 ·show%[_,O,p,10,O,pt,∅,∅|λ r H1 r0 r1 pt1 b1=>%[_,O,_,_,O,O,%[∅,∅|∅],p,_,O,pt1,(by change(0:Int) < 10 ^ (60:Int).toNat;decide),(by change(10:Int) ^ (60:Int).toNat<=10 ^ 60;decide)|λ r2 H2 r20 r21 pt2 b2=>%[_,_,O,O,%[∅,∅|∅],_,_,O,O,_,O,p,10,O,pt2,∅,∅|λ r3 H3 r30 r31 pt3 b3=>%[_,_,O,O,zS3|λ l hl=>?_]]]];rw[e60]at r21;show dG hl pt3 (b1.trans (b2.trans b3)) λ H4 k4 n4 s4 b4 pt4=>?_;exact hR l _ _ _ _ n4 k4 r0 ⋯ r20 r21 (by rw[e60];omega) (by rw[e60];omega) pt4 b4
 rintro l c d e H1 nlp hl1 c0 c1 d0 d1 e0 e1 pt1 b1;show%[_,O,_,O,p,3,O,pt1,∅,∅|λ r H2 r0 r1 pt2 b2=>?_];have hl2:=b2 _ _ nlp hl1;obtain⟨x,hx,x0,x1⟩:∃x:Int,atI [V.int c,V.int d,V.int e] r=⇑x/\0<=x/\x < 10 ^ 60:=by
  have:r=0\/r=1\/r=2:=⋯
  rcases this with rfl | rfl | rfl
  ·exact%[c,O,c0|c1]
  ·exact%[d,O,d0|d1]
  ·exact%[e,O,e0|e1]
 exact%[l,_,_,_,O,O,G3 hl2,hx|q x H2 x0 x1 pt2 (b1.trans b2)]
def LS(H:Hp)(t:PK)(b:Int)(ks:PP Kd)(kl:PK):Prop:=∃rs,H t= ~~~[.int b,.ref kl]/\H kl=↥rs/\Tups H rs ks
theorem LS.same{H H':Hp}{t kl:PK}{b:Int}{ks:PP Kd}(x:LS H t b ks kl)(s:Same H H'):LS H' t b ks kl:=by obtain⟨rs,h1,h2,h3⟩:=x;exact%[rs,s _ _ h1,s _ _ h2|Tups.keep (λ c xs e=>s _ _ e) h3]
theorem LS.but{p:PK}{H H':Hp}{t kl:PK}{b:Int}{ks:PP Kd}(x:LS H t b ks kl)(n:kl≠p)(pt:PotC H p)(bt:But p H H'):LS H' t b ks kl:=by obtain⟨rs,h1,h2,h3⟩:=x;exact%[rs,lA bt pt h1,bt _ _ n h2|yK bt pt h3]
def LyC(H:Hp)(v:V)(q:Nat×Bool):Prop:=∃a,v=.ref a/\H a= ~~~[.int q.1,.bl q.2]
theorem LyC.keep{H H':Hp}(k:∀a xs,H a= ~~~xs->H' a= ~~~xs){v:V}{q:Nat×Bool}(h:LyC H v q):LyC H' v q:=by obtain⟨a,e,h⟩:=h;exact%[a,e|k _ _ h]
structure Pq where
 k:Nat
 c:Bool
 x:Int
 y:Int
def pqV(p:Pq):PP V:=[.int p.k,.bl p.c,.int p.x,.int p.y]
structure Bx where
 a:Int
 b:Int
 c:Int
 d:Int
def bxV(x:Bx):PP V:=[.int x.a,.int x.b,.int x.c,.int x.d]
def LO(k:Kd)(p:Pq):Bx:=%[p.x,p.y,p.x+sd1 k p.c|p.y+sd2 k p.c]
def apB(o r:Bx):Bool:=decide (o.c<=r.a) || decide (r.c<=o.a) || decide (o.d<=r.b) || decide (r.d<=o.b)
def Sq(H:Hp)(a:PK)(xs:PP V):Prop:=H a=↥xs\/H a= ~~~xs
def jh(k:Kd):Prop:=Good k/\k.w < 10 ^ 58/\k.h < 10 ^ 58
inductive spShopC(vs:PP V)(H:Hp)(Q:VK)(E_:XK):Prop
|mk(p:PK)(u:Int)(_:vs=[.ref p,.int u])(_:PotC H p)(_:1<=u)(_:u < 2 * 10 ^ 56)(_:∀(t kl:PK)(b:Int)(ks:PP Kd)(H':Hp),LS H' t b ks kl->kl≠p->H kl=none->(∀k∈ks,jh k)->1<=ks.length->ks.length<=8->0<=b->b < 10 ^ 58->PotC H' p->But p H H'->Q (.ref t) H')
inductive spSidesC(vs:PP V)(H:Hp)(Q:VK)(E_:XK):Prop
|mk(t kl:PK)(b:Int)(ks:PP Kd)(i:Nat)(c:Bool)(k:Kd)(_:vs=[.ref t,.int i,.bl c])(_:LS H t b ks kl)(_:ks[i]?=some k)(_:∀(r:PK)(H':Hp),H' r= ~~~[.int (sd1 k c),.int (sd2 k c)]->Same H H'->Q (.ref r) H')
inductive spLyingsC(vs:PP V)(H:Hp)(Q:VK)(E_:XK):Prop
|mk(t kl:PK)(b:Int)(ks:PP Kd)(_:vs=[.ref t])(_:LS H t b ks kl)(_:ks.length<=8)(_:∀(l:PK)(ys:PP V)(H':Hp),H' l=↥ys->H l=none->Paired (LyC H') ys (lyK ks 0)->Same H H'->Q (.ref l) H')
inductive spBox(vs:PP V)(H:Hp)(Q:VK)(E_:XK):Prop
|mk(t kl a:PK)(b:Int)(ks:PP Kd)(p:Pq)(k:Kd)(_:vs=[.ref t,.ref a])(_:LS H t b ks kl)(_:Sq H a (pqV p))(_:ks[p.k]?=some k)(_:∀(r:PK)(H':Hp),H' r= ~~~(bxV (LO k p))->Same H H'->Q (.ref r) H')
inductive spApart(vs:PP V)(H:Hp)(Q:VK)(E_:XK):Prop
|mk(a1 a2:PK)(o r:Bx)(_:vs=[.ref a1,.ref a2])(_:H a1= ~~~(bxV o))(_:H a2= ~~~(bxV r))(_:Q (.bl (apB o r)) H)
theorem scshopc:FnScope ["_law_pot_here","_law_unit_here","_law_blade","_law_kinds","_law_k","_law_wide","_law_high"] QT (defScope pF):=nofun
theorem va{f:PK}{fd:F8}(F:Fun K "_law_shop" "_law_shop" pF f fd)(B:Blt mg)(DD:Dn P w K mg base "_law_take" QQ 1 (spTake))(DSi:Dn P w K mg base "_law_side" QS 2 (spSideC))(DWo:Dn P w K mg base "_law_worth" QR 2 (spWorthC)):FnOk P w K mg base CX0 3 f fd QT (spShopC):=by
 exists scshopc;obtain⟨p,u,rfl,pt,u0,u1,q⟩:=h;show%[_,((2∣((@aL _ _ _ _ (af^^^('1'^^^((DD∩('0'^^^(af^^^ad)))^^^((DD∩('0'^^^(((af|||gE|||'1')|||aW|||af)^^^ad)))^^^ad)))))&&&ix_list&&&(DD∩('0'^^^(af^^^ad)))))<<<((3∣(@aL _ _ _ _ ad))<<<((@cP _ _ _ _ _ _ _ _ E4 O (jz O B.range ((af|||aW|||(DD∩('0'^^^(af^^^ad))))^^^ad)) (ai (i:=4) nd O (Or.inl O)) ((5∣(DSi∪('0'^^^('1'^^^(af^^^ad)))))<<<((6∣((@aL _ _ _ _ ('5'^^^((DSi∪('0'^^^('1'^^^(af^^^ad))))^^^ad)))&&&ix_list&&&(@bg _ _ _ _ _ _ _ _ _ cC O B.int Pg ((@bB _ _ _ _ _ _ _ _ tO (DD∩('0'^^^(af^^^ad))) af (aH _))^^^ad) ∅ ∅ O O)))>>>(@be _ _ _ _ (@dB _ _ _ _ _ _ _ _ _ _ _ _ F5 PySem.F.slot_list_append PySem.F.type_list_append bE '3' ((@aI _ _ _ _ _ ('5'^^^('6'^^^((DWo∪('0'^^^ad))^^^((DWo∪('0'^^^ad))^^^((@bB _ _ _ _ _ _ _ _ bC (DD∩('0'^^^(af^^^ad))) af (aH _))^^^ad))))))^^^ad) O O O O O) O))) (by intro _;rfl))<<<((@aI _ _ _ _ _ ('2'^^^('3'^^^ad)))⁻¹))))|?_];dsimp only[bF];have e60:(100:Int) < 10 ^ 60:=∅
 have e58:(10:Int) ^ 58 < 10 ^ 60:=∅
 have e59:2 * (2 * 10 ^ 56)+100 < (10:Int) ^ 58:=∅
 have e57:2 * (2 * 10 ^ 56)+1 < (10:Int) ^ 60:=∅
 have sz:(100:Nat) < sizeLine:=∅
 show ar (λ R=>∀(b:Int)(H':Hp),0<=b->b < 10 ^ 58->PotC H' p->But p H H'->R [↑p,⇑u,⇑b,none,none,none,none] H') (λ Dd hR=>?_) ?_
 ·show%[_,O,_,O,p,3,O,pt,∅,∅|λ r1 H1 r10 r11 pt1 b1=>%[_,O,_,O,_,_,O,O,.inl %[∅|∅],_,_,O,O,p,_,O,pt1,⋯,⋯|λ r2 H2 r20 r21 pt2 b2=>%[zS4|λ l hl=>?_]]];show dG hl pt2 (b1.trans b2) λ H3 k3 n3 s3 b3 pt3=>?_;show%[_,O,p,4,O,pt3,∅,∅|λ r H4 r0 r1' pt4 b4=>?_];have hl4:=b4 _ _ n3 k3;obtain⟨x,hx,x0,x1⟩:∃x:Int,atI [V.int 0,V.int u,V.int r1,V.int r2] r=⇑x/\0<=x/\x < 10 ^ 58:=by
   have:r=0\/r=1\/r=2\/r=3:=⋯
   rcases this with rfl | rfl | rfl | rfl
   ·exact%[0,O,∅|⋯]
   ·exact%[u,O,⋯|⋯]
   ·exact%[r1,O,r10|⋯]
   ·exact%[r2,O,r20|⋯]
  exact%[l,_,_,_,O,O,G3 hl4,hx|hR x _ x0 x1 pt4 (b3.trans b4)]
 rintro b H1 b0 b1' pt1 b1;show ar (λ R=>∀(l:PK)(H':Hp),l≠p->H1 l=none->H' l=↥[]->PotC H' p->But p H H'->R [↑p,⇑u,⇑b,↑l,none,none,none] H') (λ Dd hR=>?_) ?_
 ·show%[∅|λ l hl=>?_];show dG hl pt1 b1 λ H2 k2 n2 s2 b2 pt2=>?_;exact hR l _ n2 hl k2 pt2 b2
 rintro l H2 nlp hl1 hl2 pt2 b2;have hl0:H l=none:=(b1.freeC pt1 hl1).2;show bn (λ σ' H'=>(∃(v4 v5 v6:PM V)(rs:PP V)(ks:PP Kd),σ'=[↑p,⇑u,⇑b,↑l,v4,v5,v6]/\H' l=↥rs/\Tups H' rs ks/\(∀k∈ks,jh k)/\(1<=rs.length/\rs.length<=8)/\PotC H' p/\But p H H')) (λ R hR=>?_) ?_
 ·show%[_,O,p,8,O,pt2,∅,∅|λ m H3 m0 m1 pt3 b3=>%[_,_,O,O,_,O,⋯,⋯|?_]];show jB (n:=(1+m).toNat) (λ i σ' H'=>(∃(v4 v5 v6:PM V)(rs:PP V)(ks:PP Kd),σ'=[↑p,⇑u,⇑b,↑l,v4,v5,v6]/\H' l=↥rs/\Tups H' rs ks/\(∀k∈ks,jh k)/\rs.length=i/\PotC H' p/\But p H H')) %[_,_,_,[],[],rfl,b3 _ _ nlp hl2,.nil,λ k hk=>by simp at hk,rfl,pt3|b2.trans b3] ?_ ?_
  ·intro i _ H4 hi hI9;show cS λ G9 k9=>?_;obtain⟨v4,v5,v6,rs,ks,rfl,hl4,tp4,gk4,rl4,pt4,bt4⟩:=hI9;show k9 ?_;show%[_,O,_,O,p,u,6,O,pt4,u0,u1,∅,∅|λ w1 H5 w0 w1' pt5 b5=>?_];show%[_,O,_,O,_,O,p,u,6,O,pt5,u0,u1,∅,∅|λ h1 H6 h0 h1' pt6 b6=>%[zS2|λ l2 hl2'=>?_]];show dG hl2' pt6 (b5.trans b6) λ H7 k7 n7 s7 b7 pt7=>?_;show%[_,O,p,5,O,pt7,∅,∅|λ z H8 z0 z1 pt8 b8=>%[_,_,O,O|.inr %[_,O|?_]]];have l28:=b8 _ _ n7 k7;obtain⟨nn,hnn,nn0,nn1⟩:∃nn:Int,atI [V.int w1,V.int h1] (if decide (0 < z)=true then(1:Int)else 0)=⇑nn/\1<=nn/\nn < 10 ^ 58:=by
    by_cases c:(0:Int) < z
    ·exact%[h1,by rw[PY c];rfl,h0|h1']
    ·exact%[w1,by rw[Pf c];rfl,w0|w1']
   show%[l2,_,_,_,O,O,G3 l28,hnn|?_];have b48:=b7.trans b8;have hl8:=b48 _ _ nlp hl4;show%[_,O,.inl %[O,_|G3 hl8],_,O,_,O,_,O,p,O,pt8|λ wo H9 wo0 wo1 pt9 b9=>?_];show%[_,O,p,O,pt9|λ wa Ha wa0 wa1 pta ba=>?_];show%[_,O,p,2,O,pta,∅,∅|λ tu Hb tu0 tu1 ptb bb=>%[O,zS5|λ t ht=>?_]];have b4b:=b48.trans (b9.trans (ba.trans bb));show dG ht ptb (bt4.trans b4b) λ H12 k12 n12 s12 b12 pt12=>?_;have k12:H12 t= ~~~(kdV %[w1,nn,wo,wa|decide (V.int tu=V.int 0)]):=k12;have hlc:=s12 _ _ (b4b _ _ nlp hl4);show%[l,_,_,O,O,hlc,(by have:i < (1+m).toNat:=hi;omega)|?_];have kt:∀{c:PK}{xs:PP V},H12 c= ~~~xs->(upd H12 l (.lst (rs ++ [.ref t]))) c= ~~~xs:=λ {c xs} e=>by rw[aw (λ z=>by rw[z,hlc]at e;cases e)];exact e
   show%[_,_,_,rs ++ [.ref t],ks ++ [%[w1,nn,wo,wa|decide (V.int tu=V.int 0)]],O,au,?_,λ k hk=>?_,by rw[G8,rl4];rfl,pt12.put (Ne.symm nlp)|λ c o n e=>?_]
   ·exact eZ (Tups.keep (λ c xs e=>kt (s12 _ _ e)) (yK b4b pt4 tp4)) (.cons %[t,O|kt k12] .nil)
   ·rcases C3.mp hk with hk | hk
    ·exact gk4 k hk
    ·rw[E2.mp hk];exact%[%[by change(1:Int)<=w1;omega,by change(1:Int)<=nn;omega,wo0,wa0,by change w1 < _;omega,by change nn < _;omega,wo1|wa1],w1'|nn1]
   ·rw[aw (λ z=>by rw[z,hl0]at e;cases e)];exact b12 _ _ n e
  ·intro _ H4 hI9;show cS λ G9 k9=>?_;obtain⟨v4,v5,v6,rs,ks,rfl,hl4,tp4,gk4,rl4,pt4,bt4⟩:=hI9;show k9 ?_;exact hR _ _ %[_,_,_,rs,ks,rfl,hl4,tp4,gk4,%[⋯|⋯],pt4|bt4]
 intro _ H3 hI9;show cS λ G9 k9=>?_;obtain⟨v4,v5,v6,rs,ks,rfl,hl3,tp3,gk3,⟨r1,r8⟩,pt3,bt3⟩:=hI9;show k9 ?_;show%[_,O,_,O,zS2|λ t ht=>?_];show dG ht pt3 bt3 λ H6 k6 n6 s6 b6 pt6=>?_;have rl:=E3 tp3;exact q t l b ks H6 %[rs,k6,s6 _ _ hl3|Tups.keep (λ c xs e=>s6 _ _ e) tp3] nlp hl0 gk3 ⋯ ⋯ b0 b1' pt6 b6
theorem scsidesc:FnScope ["_law_shop_here","_law_kind","_law_turned","_law_wide","_law_high"] QU (defScope lq):=nofun
theorem qS{f:PK}{fd:F8}(F:Fun K "_law_sides" "_law_sides" lq f fd)(B:Blt mg):FnOk P w K mg base CX0 1 f fd QU (spSidesC):=by
 exists scsidesc;obtain⟨t,kl,b,ks,i,c,k,rfl,sh,hi,q⟩:=h;show%[_,((@bA _ _ _ _ _ _ (@eS _ _ _ _ _ _ _ _ _ _ iH (('0'&&&ix_tup&&&af)&&&ix_list&&&'1') ic (fh af)) (bf O (3•(4•aQ))) O O O)<<<(((@aL _ _ _ _ ((@aI _ _ _ _ _ ('3'^^^('4'^^^ad)))^^^((@aI _ _ _ _ _ ('4'^^^('3'^^^ad)))^^^ad)))&&&ix_list&&&(@bg _ _ _ _ _ _ _ _ _ cC O B.int Pg ('2'^^^ad) ∅ ∅ O O))⁻¹))|?_];dsimp only[bF];have sz:(100:Nat) < sizeLine:=∅
 obtain⟨rs,h1,h2,h3⟩:=id sh;obtain⟨vv,hvv,ak,rfl,hak⟩:=Paired.getL h3 hi;have hak:H ak= ~~~[.int k.w,.int k.h,.int k.wo,.int k.wa,.bl k.tu]:=hak;have hat:atI rs (i:Int)=↑ak:=bq ⋯ (by rw[K2];exact hvv);show ar (λ R=>∀(H':Hp),Same H H'->R [↑t,⇑i,some (.bl c),⇑k.w,⇑k.h] H') (λ Dd hR=>?_) ?_
 ·show%[_,O,t,_,1,_,O,O,G2 h1,O,_,O,kl,_,_,_,O,O,G3 h2,hat,_,O,ak,_,O,G2 hak,(λ z=>absurd z.2 (show¬ HT.sIx 5 5 (some 2)=5 by decide))|λ a ha=>?_];show aK ha λ H1 k1 s1=>?_;exact%[a,_,O,G2 (show H1 a= ~~~[.int k.w,.int k.h]from k1),O,_,_,O,_,_,O,O|hR _ s1]
 rintro H1 s1;show%[_,O,_,O,zS2|λ a ha=>?_];show aK ha λ H2 k2 s2=>?_;show%[_,O,_,O,zS2|λ a2 ha2=>?_];show aK ha2 λ H3 k3 s3=>?_;show%[zS2|λ l hl=>?_];show aK hl λ H4 k4 s4=>?_;show%[_,O|.inr %[_,O|?_]];cases c with
 | true=>exact%[l,_,_,_,O,O,G3 k4,O|q a2 H4 (s4 _ _ k3) (s1.trans (s2.trans (s3.trans s4)))]
 | false=>exact%[l,_,_,_,O,O,G3 k4,O|q a H4 (s4 _ _ (s3 _ _ k2)) (s1.trans (s2.trans (s3.trans s4)))]
theorem sclyingsc:FnScope ["_law_shop_here","_law_found","_law_k","_law_kind"] QV (defScope ip):=nofun
theorem nZ{f:PK}{fd:F8}(F:Fun K "_law_lyings" "_law_lyings" ip f fd)(B:Blt mg):FnOk P w K mg base CX0 1 f fd QV (spLyingsC):=by
 exists sclyingsc;obtain⟨t,kl,b,ks,rfl,sh,k8,q⟩:=h;show%[_,((1∣(@aL _ _ _ _ ad))<<<((@cP _ _ _ _ _ _ _ _ E4 O (mv O B.enumerate (('0'&&&ix_tup&&&af)^^^ad)) (bf O (2•(3•aQ))) ((@be _ _ _ _ (@dB _ _ _ _ _ _ _ _ _ _ _ _ F5 PySem.F.slot_list_append PySem.F.type_list_append bE '1' ((@aI _ _ _ _ _ ('2'^^^(bP^^^ad)))^^^ad) O O O O O) O)>>>((PW.pt (tI (@aV _ _ _ ('3'&&&ix_tup&&&af) (by intro _;rfl)) (oK (('3'&&&ix_tup&&&af)<*>eQ<*>('3'&&&ix_tup&&&af)))))<|>(@ag _ _ _ (@be _ _ _ _ (@dB _ _ _ _ _ _ _ _ _ _ _ _ F5 PySem.F.slot_list_append PySem.F.type_list_append bE '1' ((@aI _ _ _ _ _ ('2'^^^(bP^^^ad)))^^^ad) O O O O O) O))<|>aG)) (by intro _;rfl))<<<('1'⁻¹)))|?_];dsimp only[bF];have sz:(100:Nat) < sizeLine:=∅
 obtain⟨rs,h1,h2,h3⟩:=id sh;have rl:=E3 h3;show ar (λ R=>∀(l:PK)(H':Hp),H l=none->H' l=↥[]->Same H H'->R [↑t,↑l,none,none] H') (λ Dd hR=>?_) ?_
 ·show%[∅|λ l hl=>?_];show aK hl λ H1 k1 s1=>?_;exact hR l _ hl k1 s1
 rintro l H1 hl hl1 s1;have nkl:kl≠l:=ao h2 hl;show bn (λ σ' H'=>(∃v2 v3:PM V,σ'=[↑t,↑l,v2,v3])/\(∃ys,H' l=↥ys/\Paired (LyC H') ys (lyK ks 0))/\But l H1 H') (λ R hR=>?_) ?_
 ·show%[_,O,t,_,1,_,O,O,G2 (s1 _ _ h1),O,kl,rs,O,s1 _ _ h2|uu (f:=.lst) (λ _ _ e=>by cases e;rfl) (l:=kl) (xs:=rs) (λ i σ' H'=>(∃(v2 v3:PM V)(ys:PP V),σ'=[↑t,↑l,v2,v3]/\H' l=↥ys/\Paired (LyC H') ys (lyK (ks.take i) 0)/\But l H1 H')) %[_,_,[],O,hl1,.nil|λ _ _ _ e=>e] (λ i σ Hx h9=>by obtain⟨v2,v3,ys,_,_,_,b⟩:=h9;exact b _ _ nkl (s1 _ _ h2)) ?_ (λ σ Hx h9=>by obtain⟨v2,v3,ys,e,hy,py,b⟩:=h9;exact hR _ _ %[%[v2,v3|e],%[ys,hy|by rw[rl,J9]at py;exact py]|b])];intro i x pp σ H2 hx hp hI9;show cS λ G9 k9=>?_;obtain⟨v2,v3,ys,rfl,l2,py,b2⟩:=hI9;show k9 ?_;obtain⟨k,hk',ka,rfl,hka⟩:=G5 h3 hx;have hin:i < rs.length:=(A6.mp hx).1;show aK hp λ H3 k3 s3=>?_;have nka:ka≠l:=ao hka hl;have ka3:H3 ka= ~~~[.int k.w,.int k.h,.int k.wo,.int k.wa,.bl k.tu]:=s3 _ _ (b2 _ _ nka (s1 _ _ hka));have yl:=E3 py;have yl2:=kR (ks.take i) 0;rw[J2]at yl2;have lt:lyK (ks.take (i+1)) 0=lyK (ks.take i) 0 ++ lyT i k:=by rw[J4,hk'];change lyK (ks.take i ++ [k]) 0=_;rw[lW,J2,Nat.zero_add,Nat.min_eq_left ⋯]
  show%[pp,_,O,G2 k3,O,_,_,O,_,_,O,O|?_];have app:∀(Hx:Hp)(a:PK)(zs:PP V)(q:Nat×Bool)(L:PP (Nat×Bool)),Hx l=↥zs->Paired (LyC Hx) zs L->Hx a= ~~~[.int q.1,.bl q.2]->But l H1 Hx->Paired (LyC (upd Hx l (.lst (zs ++ [.ref a])))) (zs ++ [.ref a]) (L ++ [q])/\But l H1 (upd Hx l (.lst (zs ++ [.ref a]))):=λ Hx a zs q L hx pz ha bx=>by
   have kt:∀c xs,Hx c= ~~~xs->(upd Hx l (.lst (zs ++ [.ref a]))) c= ~~~xs:=λ c xs e=>by rw[aw (λ z=>by rw[z,hx]at e;cases e)];exact e
   exact%[eZ (G4 pz λ v q h=>h.keep kt) (.cons %[a,O|kt _ _ ha] .nil)|λ c o n e=>by rw[aw n];exact bx _ _ n e]
  show ar (λ R=>∀(H':Hp),(∃ys,H' l=↥ys/\ys.length<=2 * i+1/\Paired (LyC H') ys (lyK (ks.take i) 0 ++ [(i,false)]))->But l H1 H'->R [↑t,↑l,⇑i,↑ka] H') (λ Dd hR=>?_) ?_
  ·show%[_,O,.inl %[O,_|G3 (s3 _ _ l2)],_,O,zS2|λ a ha=>?_];show aK ha λ H4 k4 s4=>?_;have l4:=s4 _ _ (s3 _ _ l2);obtain⟨a1,a2⟩:=app H4 a ys (i,false) _ l4 (G4 py λ v q h=>h.keep λ c xs e=>s4 _ _ (s3 _ _ e)) k4 (λ c o n e=>s4 _ _ (s3 _ _ (b2 _ _ n e)));exact%[l,_,_,O,O,l4,⋯|hR _ %[_,au,by rw[G8];change ys.length+1<=_;omega|a1] a2]
  rintro H4 ⟨zs,l4,zl,py4⟩ b4;have ka4:H4 ka= ~~~[.int k.w,.int k.h,.int k.wo,.int k.wa,.bl k.tu]:=b4 _ _ nka (s1 _ _ hka);have no:bL k=false->(∃(v2 v3:PM V)(ys:PP V),([↑t,↑l,⇑i,↑ka]:St)=[↑t,↑l,v2,v3]/\H4 l=↥ys/\Paired (LyC H4) ys (lyK (ks.take (i+1)) 0)/\But l H1 H4):=λ ht=>%[_,_,zs,O,l4,by rw[lt];unfold lyT;rw[ht];exact py4|b4]
  show%[_,O,ka,_,4,_,O,O,G2 ka4,O,_,O|?_];cases htu:k.tu with
  | false=>exact aT (no (by unfold bL;rw[htu];rfl))
  | true=>
   show aU %[_,rfl,ka,_,0,_,rfl,rfl,G2 ka4,rfl,_,rfl,ka,_,1,_,rfl,rfl,G2 ka4,rfl,rfl,_,rfl|?_]
   by_cases hwh:k.w=k.h
   ·rw[show(!decide (V.int k.w=V.int k.h))=false by rw[PY (by rw[hwh])];rfl];exact aT (no (by unfold bL;rw[PY hwh];simp))
   ·rw[show(!decide (V.int k.w=V.int k.h))=true by rw[Pf (λ z=>hwh (V.int.inj z))];rfl];have ht:bL k=true:=by unfold bL;rw[htu,Pf hwh];rfl
    show aU %[_,rfl,.inl %[rfl,_|G3 l4],_,rfl,zS2|λ a ha=>?_];show aK ha λ H5 k5 s5=>?_;have l5:=s5 _ _ l4;obtain⟨a1,a2⟩:=app H5 a zs (i,true) _ l5 (G4 py4 λ v q h=>h.keep λ c xs e=>s5 _ _ e) k5 (λ c o n e=>s5 _ _ (b4 _ _ n e));exact%[l,_,_,O,O,l5,⋯,_,_,_,O,au,by rw[lt];unfold lyT;rw[Pa ht];rw[K9]at a1;exact a1|a2]
 rintro _ H2 ⟨⟨v2,v3,rfl⟩,⟨ys,hy,py⟩,b2⟩;exact%[_,O|q l ys H2 hy hl py (λ c o e=>b2 _ _ (ao e hl) (s1 _ _ e))]
def wyS(dn:Bool):Str:=if dn=true then "down" else "across"
theorem Bn{K:C5}{H:Hp}:∀{ys:PP V}{qs:PP (Nat×Bool)},Paired (LyC H) ys qs->∃ds,DatVs K H ys ds/\ds.length=ys.length/\PyData.canLayAll0 ds=true/\PyData.depthAll ds<=1
 | _,_,.nil=>%[[],.nil,O,O|E8 _]
 | _,_,.cons ⟨a,e,ha⟩ r=>by
  subst e;obtain⟨ds,d1,d2,d3,d4⟩:=Bn (K:=K) r;show%[_ :: ds,.cons (.tup (G2 ha) (.cons (.int _) (.cons (.bl _) .nil))) d1,by rw[J0,J0,d2],?_|?_]
  ·simp[PyData.canLayAll0,PyData.canLay0,d3]
  ·simp only[PyData.depthAll,PyData.depth];omega
theorem LS.keep2{H H':Hp}{t kl p rm:PK}{b:Int}{ks:PP Kd}{xs ys:PP V}(x:LS H t b ks kl)(hp:H p=↥xs)(hr:H rm=↥ys)(n1:kl≠p)(n2:kl≠rm)(bt:But2 p rm H H'):LS H' t b ks kl:=by obtain⟨rs,h1,h2,h3⟩:=x;have k:∀a zs,H a= ~~~zs->H' a= ~~~zs:=λ a zs e=>bt _ _ (λ z=>by rw[z,hp]at e;cases e) (λ z=>by rw[z,hr]at e;cases e) e;exact%[rs,k _ _ h1,bt _ _ n1 n2 h2|Tups.keep k h3]
def FtL(ks:PP Kd)(W h:Int)(q:Nat×Bool):Prop:=q∈lyK ks 0/\∃k,ks[q.1]?=some k/\sd1 k q.2<=W/\sd2 k q.2<=h
theorem vb{c:Bool}{a b:Prop}(h:c=true)(x:a):if c=true then a else b:=by rw[Pa h];exact x
theorem kn{c:Bool}{a b:Prop}(h:c=false)(x:b):if c=true then a else b:=by rw[PZ (by rw[h];exact B2)];exact x
inductive spBeh(vs:PP V)(H:Hp)(Q:VK)(E_:XK):Prop
|mk(t kl:PK)(b W h p:Int)(ks:PP Kd)(dn:Bool)(_:vs=[.ref t,.int W,.int h,.str (wyS dn),.int p])(_:LS H t b ks kl)(_:∀(r r1 r2:PK)(H':Hp),H' r= ~~~[.ref r1,.ref r2]->H' r1= ~~~[.int (if dn=true then p else W),.int (if dn=true then h else p)]->H' r2= ~~~[.int (if dn=true then W - p - b else W),.int (if dn=true then h else h - p - b)]->Same H H'->Q (.ref r) H')
inductive spLeafC(vs:PP V)(H:Hp)(Q:VK)(E_:XK):Prop
|mk(p t kl:PK)(b W h:Int)(ks:PP Kd)(_:vs=[.ref p,.ref t,.int W,.int h])(_:PotC H p)(_:LS H t b ks kl)(_:kl≠p)(_:ks.length<=8)(_:(∀k∈ks,Good k))(_:W < (9 * 10 ^ 59))(_:h < (9 * 10 ^ 59))(_:∀(v:V)(T:Tr)(H':Hp),TrV H' T v->(∀b,okU b ks W h T)->lvN T=1->dT T=0->PotC H' p->But p H H'->Q v H')
inductive spTreeC(n:Nat)(vs:PP V)(H:Hp)(Q:VK)(E_:XK):Prop
|mk(p t kl rm:PK)(b W h r:Int)(ks:PP Kd)(deep:Nat)(_:vs=[.ref p,.ref t,.int W,.int h,.int deep,.ref rm])(_:PotC H p)(_:LS H t b ks kl)(_:kl≠p)(_:kl≠rm)(_:rm≠p)(_:ks.length<=8)(_:(∀k∈ks,Good k))(_:0<=b)(_:W < (9 * 10 ^ 59))(_:h < (9 * 10 ^ 59))(_:H rm=↥[.int r])(_:0<=r)(_:deep < n)(_:∀(v:V)(T:Tr)(r':Int)(H':Hp),TrV H' T v->okU b ks W h T->0<=r'->(lvN T:Int)<=r - r'+1->dT T<=deep->H' rm=↥[.int r']->PotC H' p->But2 p rm H H'->Q v H')
theorem scbeh:FnScope QW QW (defScope iq):=nofun
theorem zI{f:PK}{fd:F8}(F:Fun K "_law_behind" "_law_behind" iq f fd)(B:Blt mg):FnOk P w K mg base CX0 1 f fd QW (spBeh):=by
 exists scbeh;obtain⟨t,kl,b,W,h1,p,ks,dn,rfl,sh,q⟩:=h;show%[_,((('3'<*>bC<*>aB)<|>((@aI _ _ _ _ _ ((@aI _ _ _ _ _ ('4'^^^('2'^^^ad)))^^^((@aI _ _ _ _ _ ((('1'|||bD|||'4')|||bD|||('0'&&&ix_tup&&&af))^^^('2'^^^ad)))^^^ad)))⁻¹)<|>aG)<<<((@aI _ _ _ _ _ ((@aI _ _ _ _ _ ('1'^^^('4'^^^ad)))^^^((@aI _ _ _ _ _ ('1'^^^((('2'|||bD|||'4')|||bD|||('0'&&&ix_tup&&&af))^^^ad)))^^^ad)))⁻¹))|?_];dsimp only[bF];obtain⟨kr,ht,_⟩:=id sh;show cg (λ R=>dn=false->R [↑t,⇑W,⇑h1,some (.str (wyS dn)),⇑p] H) (λ R hR=>?_) ?_
 ·show%[_,O,O,_,O|?_];cases dn with
  | false=>exact kn ∅ (hR rfl)
  | true=>
   show vb ∅ ?_;show%[_,O,_,O,zS2|λ r1 hr1=>?_];show aK hr1 λ H1 k1 s1=>?_;show%[_,O,_,O,_,_,O,O,_,O,t,_,0,_,O,O,G2 (s1 _ _ ht),O,_,_,O,O,_,O,zS2|λ r2 hr2=>?_];show aK hr2 λ H2 k2 s2=>?_;show%[zS2|λ r hr=>?_];show aK hr λ H3 k3 s3=>?_;exact q r r1 r2 H3 k3 (s3 _ _ (s2 _ _ k1)) (s3 _ _ k2) (s1.trans (s2.trans s3))
 rintro rfl;show%[_,O,_,O,zS2|λ r1 hr1=>?_];show aK hr1 λ H1 k1 s1=>?_;show%[_,O,_,O,_,O,_,_,O,O,_,O,t,_,0,_,O,O,G2 (s1 _ _ ht),O,_,_,O,O,zS2|λ r2 hr2=>?_];show aK hr2 λ H2 k2 s2=>?_;show%[zS2|λ r hr=>?_];show aK hr λ H3 k3 s3=>?_;exact q r r1 r2 H3 k3 (s3 _ _ (s2 _ _ k1)) (s3 _ _ k2) (s1.trans (s2.trans s3))
theorem scleafc:FnScope ["_law_pot_here","_law_shop_here","_law_wide","_law_high","_law_some","_law_kind","_law_turned","_law_own"] QX (defScope pG):=nofun
theorem vc{f:PK}{fd:F8}(F:Fun K "_law_leaf" "_law_leaf" pG f fd)(B:Blt mg)(DD:Dn P w K mg base "_law_take" QQ 1 (spTake))(DSd:Dn P w K mg base "_law_sides" QU 1 (spSidesC))(DLy:Dn P w K mg base "_law_lyings" QV 1 (spLyingsC)):FnOk P w K mg base CX0 2 f fd QX (spLeafC):=by
 exists scleafc;show cS λ G9 k9=>?_;obtain⟨p,t,kl,b,W,h1,ks,rfl,pt,sh,nk,k8,gk,w58,h58,q⟩:=h;show k9 ?_;have hu:=hr.units;show%[_,((4∣(@aL _ _ _ _ ad))<<<((@cP _ _ _ _ _ _ _ _ E4 O (bU (DLy∩('1'^^^ad))) (bf O (5•(6•aQ))) ((7∣(DSd∩('1'^^^('5'^^^('6'^^^ad)))))>>>((PW.pt (tI (('7'&&&ix_tup&&&af)<*>gS<*>'2') (oK (('7'&&&ix_tup&&&af)<*>gS<*>'3'))))<|>(@ag _ _ _ (@be _ _ _ _ (@dB _ _ _ _ _ _ _ _ _ _ _ _ F5 PySem.F.slot_list_append PySem.F.type_list_append bE '4' ((@aI _ _ _ _ _ ('5'^^^('6'^^^ad)))^^^ad) O O O O O) O))<|>aG)) (by intro _;rfl))<<<(((PW.pt (bQ ('4'<*>(kN hu)<*>(@aL _ _ _ _ ad)) (bT ((DD∩('0'^^^(af^^^ad)))<*>bC<*>af))))<|>((@aI _ _ _ _ _ (aB^^^ad))⁻¹)<|>aG)<<<((@bA _ _ _ _ _ _ ('4'&&&ix_list&&&(DD∩('0'^^^((@aD _ _ _ _ _ _ _ _ _ aY O B.len PySem.boot_len ('4'^^^ad) ∅ ∅ O O)^^^ad)))) (bf O (5•(6•aQ))) O O O)<<<((7∣(DSd∩('1'^^^('5'^^^('6'^^^ad)))))<<<((@aI _ _ _ _ _ (aB^^^('5'^^^('6'^^^((DD∩('0'^^^((('2'|||bD|||('7'&&&ix_tup&&&af))|||aW|||af)^^^ad)))^^^((DD∩('0'^^^((('3'|||bD|||('7'&&&ix_tup&&&af))|||aW|||af)^^^ad)))^^^ad))))))⁻¹))))))|?_];dsimp only[bF];have sz:(1000:Nat) < sizeLine:=∅
 have e58:(10:Int) ^ 58+10 < 10 ^ 60:=∅
 have e60:(100:Int) < 10 ^ 60:=∅
 have ly8:=kR ks 0;show ar (λ R=>∀(so:PK)(H':Hp),H so=none->H' so=↥[]->Same H H'->R [↑p,↑t,⇑W,⇑h1,↑so,none,none,none] H') (λ Dd hR=>?_) ?_
 ·show%[∅|λ so hso=>?_];show aK hso λ H1 k1 s1=>?_;exact hR so _ hso k1 s1
 rintro so H1 hso0 hso1 s1;have sh1:=sh.same s1;have pt1:=pt.same s1;have nsp:so≠p:=Ne.symm (pt.ne hso0);obtain⟨kr,lst1,lst2,lst3⟩:=id sh;have nks:kl≠so:=ao lst2 hso0;have shk:∀{Hx:Hp},But so H1 Hx->LS Hx t b ks kl:=λ bx=>by have k:∀a zs,H a= ~~~zs->_:=λ a zs e=>bx _ _ (ao e hso0) (s1 _ _ e);exact%[kr,k _ _ lst1,bx _ _ nks (s1 _ _ lst2)|Tups.keep k lst3]
 have tks:∀{Hx Hy:Hp}{us:PP V},Hx so=↥us->But so Hx Hy->∀a zs,Hx a= ~~~zs->Hy a= ~~~zs:=λ h bx a zs e=>bx _ _ (λ z=>by rw[z,h]at e;cases e) e;show bn (λ σ' H'=>∃(v5 v6 v7:PM V)(us:PP V)(qs:PP (Nat×Bool)),σ'=[↑p,↑t,⇑W,⇑h1,↑so,v5,v6,v7]/\H' so=↥us/\Paired (LyC H') us qs/\(∀q∈qs,FtL ks W h1 q)/\us.length<=16/\But so H1 H') (λ R hR=>?_) ?_
 ·show%[_,O,t,kl,b,ks,O,sh1,k8|λ l ys H2 hl hl0 pl s2=>?_];have yl:=E3 pl;have nls:l≠so:=λ z=>by rw[z,hso1]at hl0;cases hl0
  show%[l,O,%[_|G3 hl]|dq (xs:=ys) (λ i σ' H'=>(∃(v5 v6 v7:PM V)(us:PP V)(qs:PP (Nat×Bool)),σ'=[↑p,↑t,⇑W,⇑h1,↑so,v5,v6,v7]/\H' so=↥us/\Paired (LyC H') us qs/\(∀q∈qs,FtL ks W h1 q)/\us.length<=i/\But so H1 H')/\But so H2 H') %[%[_,_,_,[],[],O,s2 _ _ hso1,.nil,(λ q hq=>by simp at hq),B3 _|Bk s2]|But.refl'] (λ i σ H' _ h=>G3 (h.2 _ _ nls hl)) ?_ (λ σ H' h=>hR _ _ (by obtain⟨v5,v6,v7,us,qs,h1,h2,h3,h4,h5,h6⟩:=h.1;exact%[v5,v6,v7,us,qs,h1,h2,h3,h4,⋯|h6]))];rintro i x _ H3 hi ⟨⟨v5,v6,v7,us,qs,rfl,hu3,pu3,ft3,ul3,b13⟩,b23⟩;obtain⟨q0,hq0,aq,rfl,haq⟩:=G5 pl hi;have hin:i < ys.length:=(A6.mp hi).1;have hly:=B5 hq0;obtain⟨_,kk,hkk,_⟩:=nY hly;have hkk:ks[q0.1]?=some kk:=by simpa using hkk
  have haq3:=tks (s2 _ _ hso1) b23 _ _ haq;show%[aq,_,O,G2 haq3,O,_,_,O,_,_,O,O|?_];show ar (λ R=>∀(ow:PK)(H':Hp),H' ow= ~~~[.int (sd1 kk q0.2),.int (sd2 kk q0.2)]->Same H3 H'->R [↑p,↑t,⇑W,⇑h1,↑so,⇑q0.1,some (.bl q0.2),↑ow] H') (λ Dd hR=>?_) ?_
  ·exact%[_,O,_,O,_,O,t,kl,b,ks,q0.1,q0.2,kk,O,shk b13,hkk|λ r H4 hr s4=>hR r _ hr s4]
  rintro ow H4 how s34;have hu4:=s34 _ _ hu3;have pu4:Paired (LyC H4) us qs:=G4 pu3 λ v q h=>h.keep λ a xs e=>s34 _ _ e;have b14:But so H1 H4:=λ c o n e=>s34 _ _ (b13 _ _ n e);have b24:But so H2 H4:=λ c o n e=>s34 _ _ (b23 _ _ n e);have skip:(∃(v5 v6 v7:PM V)(us':PP V)(qs':PP (Nat×Bool)),[↑p,↑t,⇑W,⇑h1,↑so,⇑q0.1,some (.bl q0.2),↑ow]=[↑p,↑t,⇑W,⇑h1,↑so,v5,v6,v7]/\H4 so=↥us'/\Paired (LyC H4) us' qs'/\(∀q∈qs',FtL ks W h1 q)/\us'.length<=i+1/\But so H1 H4)/\But so H2 H4:=%[%[_,_,_,us,qs,O,hu4,pu4,ft3,⋯|b14]|b24]
  show%[_,O,ow,_,0,_,O,O,G2 how,O,_,O,_,_,O,O,_,O|?_];show cV (λ c1=>?_) (λ c1=>skip);show%[_,O,ow,_,1,_,O,O,G2 how,O,_,O,_,_,O,O,_,O|?_];show cV (λ c2=>?_) (λ c2=>skip);show%[_,O,.inl %[O,_|G3 hu4],_,O,_,O,zS2|λ tp htp=>?_];show aK htp λ H5 k5 s5=>?_;have hu5:=s5 _ _ hu4;have bu:But so H5 (upd H5 so (.lst (us ++ [.ref tp]))):=λ c o n e=>by rw[aw n];exact e
  show%[so,_,_,O,O,hu5,⋯,%[_,_,_,us ++ [.ref tp],qs ++ [q0],O,au,?_,λ q hq=>?_,by rw[G8];change us.length+1<=_;omega|λ c o n e=>bu _ _ n (s5 _ _ (b14 _ _ n e))]|λ c o n e=>bu _ _ n (s5 _ _ (b24 _ _ n e))]
  ·exact eZ (G4 pu4 λ v q h=>h.keep λ a xs e=>tks hu5 bu _ _ (s5 _ _ e)) (.cons %[tp,O|tks hu5 bu _ _ k5] .nil)
  ·rcases C3.mp hq with hq | hq
   ·exact ft3 q hq
   ·rw[E2.mp hq];exact%[hly,kk,hkk,C0 c1|C0 c2]
 intro _ H2 hI9;show cS λ G9 k9=>?_;obtain⟨v5,v6,v7,us,qs,rfl,hu2,pu2,ft,ul,b12⟩:=hI9;show k9 ?_;have pt2:PotC H2 p:=by obtain⟨a,b,h1,h2,h3,e⟩:=pt1;exact%[a,b,h1,h2,h3|b12 _ _ (Ne.symm nsp) e]
 have b02:But p H H2:=λ c o n e=>b12 _ _ (ao e hso0) (s1 _ _ e);have sh2:=shk b12;have rest:∀Hx,But p H Hx->PotC Hx p->∀r,Hx r=none->Q (.ref r) (upd Hx r (.tup [.str "rest"])):=λ Hx bx px r hr=>by show dG hr px bx λ H9 k9 n9 s9 b9 pt9=>?_;exact q _ .rest H9 %[r,rfl|k9] (λ _=>trivial) rfl rfl pt9 b9
 show cg (λ R=>∀(H':Hp),us≠[]->H' so=↥us->Paired (LyC H') us qs->LS H' t b ks kl->PotC H' p->But p H H'->R [↑p,↑t,⇑W,⇑h1,↑so,v5,v6,v7] H') (λ R hR=>?_) ?_
 ·show%[_,O,∅|λ e he=>?_];show dG he pt2 b02 λ H3 k3 n3 s3 b3 pt3=>?_;obtain⟨ds,d1,d2,d3,d4⟩:=Bn (K:=K) (G4 pu2 λ v q h=>h.keep λ a xs e=>s3 _ _ e);obtain⟨sh1,sh2',sh3⟩:=zH d3 d4;show%[.list ds,.list [],.lst (G3 (s3 _ _ hu2)) d1,.lst (G3 k3) .nil,sh1,∅,_,O|?_]
  by_cases hz0:us=[]
  ·rw[sh2' (by rw[hz0]at d2;exact List.eq_nil_of_length_eq_zero d2)];exact aU (aU %[zS1|λ r hr=>rest _ b3 pt3 r hr])
  rw[sh3 (λ z=>hz0 (by rw[z]at d2;exact List.eq_nil_of_length_eq_zero d2.symm))];show aT %[_,rfl,p,5,rfl,pt3,∅,∅|λ z H4 z0 z1 pt4 b4=>%[rfl,_,rfl|?_]];show cV (λ cc=>%[zS1|λ r hr=>rest _ (b3.trans b4) pt4 r hr]) (λ cc=>?_);exact hR _ hz0 (b4 _ _ nsp (s3 _ _ hu2)) (G4 pu2 (λ v q h=>h.keep λ a xs e=>lA b4 pt3 (s3 _ _ e))) ((sh2.same s3).but nk pt3 b4) pt4 (b3.trans b4)
 rintro H3 une hu3 pu3 sh3 pt3 b03;have u1:1<=us.length:=Nat.pos_of_ne_zero λ z=>une (List.eq_nil_of_length_eq_zero z);show ar (λ R=>∀(i:Nat)(c:Bool)(k:Kd)(H':Hp),(i,c)∈lyK ks 0->ks[i]?=some k->sd1 k c<=W->sd2 k c<=h1->LS H' t b ks kl->PotC H' p->But p H H'->R [↑p,↑t,⇑W,⇑h1,↑so,⇑i,some (.bl c),v7] H') (λ Dd hR=>?_) ?_
 ·show%[_,O,_,O,_,O,so,_,O,.inl (G3 hu3),p,_,O,pt3,⋯,⋯|λ r H4 r0 r1 pt4 b4=>?_];obtain⟨v,hv⟩:∃v,us[r.toNat]?=some v:=%[_|F1 (show r.toNat < us.length by omega)]
  obtain⟨q0,hq0,aq,rfl,haq⟩:=G5 pu3 hv;obtain⟨f1,k,hk,f2,f3⟩:=ft q0 (B5 hq0);exact%[so,_,_,_,O,O,G3 (b4 _ _ nsp hu3),bq r0 hv,aq,_,O,G2 (lA b4 pt3 haq),O,_,_,O,_,_,O,O|hR q0.1 q0.2 k _ f1 hk f2 f3 (sh3.but nk pt3 b4) pt4 (b03.trans b4)]
 rintro i c k H4 hly hk f2 f3 sh4 pt4 b04;show ar (λ R=>∀(ow:PK)(H':Hp),H' ow= ~~~[.int (sd1 k c),.int (sd2 k c)]->PotC H' p->But p H H'->R [↑p,↑t,⇑W,⇑h1,↑so,⇑i,some (.bl c),↑ow] H') (λ Dd hR=>?_) ?_
 ·exact%[_,O,_,O,_,O,t,kl,b,ks,i,c,k,O,sh4,hk|λ r H5 hr s5=>hR r _ hr (pt4.same s5) (λ c o n e=>s5 _ _ (b04 _ _ n e))]
 rintro ow H5 how pt5 b05;have g:=gk k (B5 hk);have sp:1<=sd1 k c/\1<=sd2 k c:=by have:=g.w;have:=g.h;cases c <;> exact%[by assumption|by assumption]
 show%[_,O,_,O,_,O,_,O,_,O,ow,_,0,_,O,O,G2 how,O,_,_,O,O,_,_,O,O,p,W - sd1 k c+1,O,pt5,⋯,⋯|λ x H6 x0 x1 pt6 b6=>?_];have how6:=lA b6 pt5 how;show%[_,O,_,O,_,O,ow,_,1,_,O,O,G2 how6,O,_,_,O,O,_,_,O,O,p,h1 - sd2 k c+1,O,pt6,⋯,⋯|λ y H7 y0 y1 pt7 b7=>?_];show%[zS5|λ r hr=>?_];show dG hr pt7 ((b05.trans b6).trans b7) λ H8 k8 n8 s8 b8 pt8=>?_;exact q _ (.piece i c x y) H8 %[r,rfl|k8] (λ _=>%[k,hk,hly,x0,y0,⋯|⋯]) rfl rfl pt8 b8
theorem sctreec:FnScope ["_law_pot_here","_law_shop_here","_law_wide","_law_high","_law_deep","_law_room","_law_way","_law_side_here","_law_p","_law_one","_law_other","_law_first"] QY (defScope jV):=nofun
theorem vd{f:PK}{fd:F8}(F:Fun K "_law_tree" "_law_tree" jV f fd)(B:Blt mg)(n:Nat)(DD:Dn P w K mg base "_law_take" QQ 1 (spTake))(DBh:Dn P w K mg base "_law_behind" QW 1 (spBeh))(DLf:Dn P w K mg base "_law_leaf" QX 2 (spLeafC))(DT:Dn P w K mg base "_law_tree" QY (3+n) (spTreeC n)):FnOk P w K mg base CX0 (3+(n+1)) f fd QY (spTreeC (n+1)):=by
 exists sctreec;obtain⟨p,t,kl,rm,b,W,h1,r,ks,deep,rfl,pt,sh,nk,nkr,nrp,k8,gk,b0,w58,h58,hrm,r0,dn0,q⟩:=h;show%[_,((6∣((@aL _ _ _ _ (aB^^^(aB^^^ad)))&&&ix_list&&&(@ax _ _ _ _ _ _ _ _ _ _ DD (hr.mono (show 1<=3+n by omega)) O ('0'^^^(af^^^ad)) ∅ O O)))<<<((7∣((((@aL _ _ _ _ ('2'^^^('3'^^^ad)))&&&ix_list&&&(@bg _ _ _ _ _ _ _ _ _ cC O B.int Pg ((@bB _ _ _ _ _ _ _ _ bC '6' aB (aH _))^^^ad) ∅ ∅ O O))|||bD|||('1'&&&ix_tup&&&af))|||bD|||af))<<<(((PW.pt (bQ ('4'<*>bC<*>af) (bQ (('5'&&&ix_list&&&af)<*>bC<*>af) (bQ ('7'<*>tN<*>af) (bT ((@ax _ _ _ _ _ _ _ _ _ _ DD (hr.mono (show 1<=3+n by omega)) O ('0'^^^(af^^^ad)) ∅ O O)<*>bC<*>af))))))<|>((@ax _ _ _ _ _ _ _ _ _ _ DLf (hr.mono (show 2<=3+n by omega)) O ('0'^^^('1'^^^('2'^^^('3'^^^ad)))) ∅ O O)⁻¹)<|>aG)<<<((@bA _ _ _ _ _ _ (('5'&&&ix_list&&&af)|||bD|||af) (eO '5' af eU) O O O)<<<((8∣(af|||aW|||((@aL _ _ _ _ ((@ax _ _ _ _ _ _ _ _ _ _ DD (hr.mono (show 1<=3+n by omega)) O ('0'^^^('7'^^^ad)) ∅ O O)^^^(('7'|||iL|||af)^^^((@ax _ _ _ _ _ _ _ _ _ _ DD (hr.mono (show 1<=3+n by omega)) O ('0'^^^((@aD _ _ _ _ _ _ _ _ _ (fg O) O B.min P1 ('7'^^^(af^^^ad)) ∅ ∅ O O)^^^ad)) ∅ O O)^^^ad))))&&&ix_list&&&(@ax _ _ _ _ _ _ _ _ _ _ DD (hr.mono (show 1<=3+n by omega)) O ('0'^^^(af^^^ad)) ∅ O O))))<<<((8∣(@aD _ _ _ _ _ _ _ _ _ (fg O) O B.min P1 ('8'^^^('7'^^^ad)) ∅ ∅ O O))<<<((@bA _ _ _ _ _ _ (@ax _ _ _ _ _ _ _ _ _ _ DBh (hr.mono (show 1<=3+n by omega)) O ('1'^^^('2'^^^('3'^^^('6'^^^('8'^^^ad))))) ∅ O O) (bf O (9•(10•aQ))) O O O)<<<((11∣(DT∪('0'^^^('1'^^^(('9'&&&ix_tup&&&af)^^^(('9'&&&ix_tup&&&af)^^^(('4'|||bD|||af)^^^('5'^^^ad))))))))<<<((@aI _ _ _ _ _ ('6'^^^('8'^^^(';'^^^((DT∪('0'^^^('1'^^^((':'&&&ix_tup&&&af)^^^((':'&&&ix_tup&&&af)^^^(('4'|||bD|||af)^^^('5'^^^ad)))))))^^^ad)))))⁻¹)))))))))|?_];dsimp only[bF];have e58:(10:Int) ^ 58+10 < 10 ^ 60:=∅
 have e60:(100:Int) < 10 ^ 60:=∅
 have sz:(1000:Nat) < sizeLine:=∅
 obtain⟨_,hp0⟩:=cA pt;show ar (λ R=>∀(dn:Bool)(H':Hp),PotC H' p->But p H H'->R [↑p,↑t,⇑W,⇑h1,⇑deep,↑rm,some (.str (wyS dn)),none,none,none,none,none] H') (λ Dd hR=>?_) ?_
 ·show%[zS2|λ l hl=>?_];show dG hl pt But.refl' λ H1 k1 n1 s1 b1 pt1=>?_;show%[_,O,p,2,O,pt1,∅,∅|λ z H2 z0 z1 pt2 b2=>?_];have:z=0\/z=1:=⋯
  rcases this with rfl | rfl
  ·exact%[l,_,_,_,O,O,G3 (b2 _ _ n1 k1),O|hR true _ pt2 (b1.trans b2)]
  ·exact%[l,_,_,_,O,O,G3 (b2 _ _ n1 k1),O|hR false _ pt2 (b1.trans b2)]
 rintro dn H1 pt1 b1;have sh1:=sh.but nk pt b1;have hrm1:=b1 _ _ nrp hrm;show ar (λ R=>∀(sd:Int)(H':Hp),sd=(if dn=true then W else h1) - b - 1->Same H1 H'->R [↑p,↑t,⇑W,⇑h1,⇑deep,↑rm,some (.str (wyS dn)),⇑sd,none,none,none,none] H') (λ Dd hR=>?_) ?_
 ·show%[_,O,_,O,zS2|λ rl hrl=>?_];show aK hrl λ H2 k2 s2=>?_;obtain⟨kr,ht,_⟩:=id (sh1.same s2);show%[_,O,O|.inr %[_,O,rl,_,_,.int (if dn=true then W else h1),O,O,G3 k2,?_,_,O,t,_,0,_,O,O,G2 ht,O,_,_,O,O,_,_,O,O|hR _ _ rfl s2]];cases dn with
  | true=>
   rw[show decide (V.str (wyS true)=V.str "across")=false by decide +kernel]
   rfl
  | false=>
   rw[show decide (V.str (wyS false)=V.str "across")=true by decide +kernel]
   rfl
 rintro sd H2 esd s12;have pt2:=pt1.same s12;have sh2:=sh1.same s12;have hrm2:=s12 _ _ hrm1;have b2:But p H H2:=λ c o n e=>s12 _ _ (b1 _ _ n e);have leaf:∀Hx,But p H Hx->PotC Hx p->spLeafC [.ref p,.ref t,.int W,.int h1] Hx Q E0:=λ Hx bx px=>
  %[p,t,kl,b,W,h1,ks,rfl,px,sh.but nk pt bx,nk,k8,gk,w58,h58|λ v T H' tv ok ln d0 pt' b'=>q v T r H' tv (ok b) r0 ⋯ ⋯ (b' _ _ nrp (bx _ _ nrp hrm)) pt' (But2.but (bx.trans b'))]
 show cg (λ R=>∀(H':Hp),1<=r->1<=deep->1<=sd->PotC H' p->But p H H'->R [↑p,↑t,⇑W,⇑h1,⇑deep,↑rm,some (.str (wyS dn)),⇑sd,none,none,none,none] H') (λ R hR=>?_) ?_
 ·show%[_,O,O,_,O|?_]
  by_cases c1:deep=0
  ·rw[show decide (V.int (deep:Int)=V.int 0)=true from PY (by rw[c1];rfl)];exact aU (aU %[_,rfl,_,rfl,_,rfl,_,rfl|leaf _ b2 pt2])
  rw[show decide (V.int (deep:Int)=V.int 0)=false from Pf (λ z=>c1 (by have:=V.int.inj z;omega))];show aT %[_,rfl,rm,_,0,_,rfl,rfl,G3 hrm2,rfl,rfl,_,rfl|?_]
  by_cases c2:r=0
  ·rw[show decide (V.int r=V.int 0)=true from PY (by rw[c2])];exact aU (aU %[_,rfl,_,rfl,_,rfl,_,rfl|leaf _ b2 pt2])
  rw[show decide (V.int r=V.int 0)=false from Pf (λ z=>c2 (V.int.inj z))];show aT %[_,rfl,_,_,rfl,rfl,_,rfl|?_]
  by_cases c3:sd < 1
  ·rw[PY c3];exact aU (aU %[_,rfl,_,rfl,_,rfl,_,rfl|leaf _ b2 pt2])
  rw[Pf c3];show aT %[_,rfl,p,4,rfl,pt2,∅,∅|λ z H3 z0 z1 pt3 b3=>%[rfl,_,rfl|?_]];show cV (λ cc=>%[_,O,_,O,_,O,_,O|leaf _ (b2.trans b3) pt3]) (λ cc=>hR _ ⋯ ⋯ ⋯ pt3 (b2.trans b3))
 clear leaf sh2 pt2 b2 hrm2 s12 sh1 hrm1 b1 pt1;clear H2 H1;rintro H3 r1 deep1 sd1' pt3 b3;have hrm3:=b3 _ _ nrp hrm;obtain⟨d',hd'⟩:∃d',deep=d'+1:=%[deep - 1|⋯]
 have ed:((deep:Int) - 1)=(d':Int):=⋯
 show ar (λ R=>∀(H':Hp),H' rm=↥[.int (r - 1)]->PotC H' p->But2 p rm H H'->R [↑p,↑t,⇑W,⇑h1,⇑deep,↑rm,some (.str (wyS dn)),⇑sd,none,none,none,none] H') (λ Dd hR=>?_) ?_
 ·exact%[_,O,rm,_,0,_,O,O,G3 hrm3,O,_,_,O,O,_,O,rm,_,0,0,O,O,hrm3,O|hR _ au (pt3.put (Ne.symm nrp)) (λ c o n1 n2 e=>by rw[aw n2];exact b3 _ _ n1 e)]
 rintro H4 hrm4 pt4 b4;have sdm:sd < (9 * 10 ^ 59):=by rw[esd];cases dn <;> simp only[P4,J6,Pn] <;> omega
 show ar (λ R=>∀(pl:Int)(H':Hp),1<=pl->PotC H' p->But p H4 H'->R [↑p,↑t,⇑W,⇑h1,⇑deep,↑rm,some (.str (wyS dn)),⇑sd,⇑pl,none,none,none] H') (λ Dd hR=>?_) ?_
 ·show%[_,O,_,O,p,sd,O,pt4,⋯,⋯|λ z1 H5 z10 z11 pt5 b5=>%[_,O,_,_,O,O,%[∅|∅],_,O,_,O,_,_,O,p,_,O,pt5,?_,?_|λ z2 H6 z20 z21 pt6 b6=>%[zS3|λ l hl=>?_]]]
  ·change 0 < (if (9:Int) < sd then 9 else sd)
   split <;> omega
  ·change(if (9:Int) < sd then 9 else sd)<=_
   split <;> omega
  show dG hl pt6 (b5.trans b6) λ H7 k7 n7 s7 b7 pt7=>?_;show%[_,O,p,3,O,pt7,∅,∅|λ z H8 z0 z1' pt8 b8=>?_];have d0:0<=sd / 2:=Int.ediv_nonneg ⋯ ∅;obtain⟨xx,hxx,xx0⟩:∃xx:Int,atI [V.int z1,V.int (sd / 2),V.int z2] z=⇑xx/\0<=xx:=by
   have:z=0\/z=1\/z=2:=⋯
   rcases this with rfl | rfl | rfl
   ·exact%[_,O|z10]
   ·exact%[_,O|d0]
   ·exact%[_,O|z20]
  exact%[l,_,_,_,O,O,G3 (b8 _ _ n7 k7),hxx,_,_,O,O|hR (1+xx) _ ⋯ pt8 (b7.trans b8)]
 rintro pl0 H5 pl01 pt5 b45;show ar (λ R=>∀(pl:Int),1<=pl->pl<=sd->R [↑p,↑t,⇑W,⇑h1,⇑deep,↑rm,some (.str (wyS dn)),⇑sd,⇑pl,none,none,none] H5) (λ Dd hR=>?_) ?_
 ·show%[_,O,_,O,_,_,O|hR _ ?_ ?_]
  ·split <;> omega
  ·split <;> omega
 rintro pl pl1 pls;have b05:But2 p rm H H5:=b4.trans (But2.but b45);have hrm5:=b45 _ _ nrp hrm4;have sh5:LS H5 t b ks kl:=sh.keep2 hp0 hrm nk nkr b05;show ar (λ R=>∀(o1 o2:PK)(H':Hp),H' o1= ~~~[.int (if dn=true then pl else W),.int (if dn=true then h1 else pl)]->H' o2= ~~~[.int (if dn=true then W - pl - b else W),.int (if dn=true then h1 else h1 - pl - b)]->Same H5 H'->R [↑p,↑t,⇑W,⇑h1,⇑deep,↑rm,some (.str (wyS dn)),⇑sd,⇑pl,↑o1,↑o2,none] H') (λ Dd hR=>?_) ?_
 ·exact%[_,O,_,O,_,O,_,O,_,O,t,kl,b,W,h1,pl,ks,dn,O,sh5|λ rr r1 r2 H6 e1 e2 e3 s6=>%[rr,_,O,G2 e1,O,_,_,O,_,_,O,O|hR r1 r2 _ e2 e3 s6]]
 rintro o1 o2 H6 ho1 ho2 s56;have pt6:=pt5.same s56;have hrm6:=s56 _ _ hrm5;have sh6:=sh5.same s56;obtain⟨_,hp6⟩:=cA pt6;have a1:(if dn=true then pl else W) < (9 * 10 ^ 59):=by split <;> omega
 have a2:(if dn=true then h1 else pl) < (9 * 10 ^ 59):=by cases dn <;> simp only[P4,J6,Pn]at * <;> omega
 have a3:(if dn=true then W - pl - b else W) < (9 * 10 ^ 59):=by split <;> omega
 have a4:(if dn=true then h1 else h1 - pl - b) < (9 * 10 ^ 59):=by split <;> omega
 show ar (λ R=>∀(v1:V)(T1:Tr)(r1:Int)(H':Hp),TrV H' T1 v1->okU b ks (if dn=true then pl else W) (if dn=true then h1 else pl) T1->0<=r1->(lvN T1:Int)<=r - 1 - r1+1->dT T1<=d'->H' rm=↥[.int r1]->PotC H' p->But2 p rm H6 H'->R [↑p,↑t,⇑W,⇑h1,⇑deep,↑rm,some (.str (wyS dn)),⇑sd,⇑pl,↑o1,↑o2,some v1] H') (λ Dd hR=>?_) ?_
 ·exact%[_,O,_,O,_,O,o1,_,0,_,O,O,G2 ho1,O,_,O,o1,_,1,_,O,O,G2 ho1,O,_,O,_,_,O,O,_,O,p,t,kl,rm,b,_,_,r - 1,ks,d',(by rw[<- ed];rfl),pt6,sh6,nk,nkr,nrp,k8,gk,b0,a1,a2,hrm6,⋯,⋯|λ v T r' H7 tv ok r0' ln dp hrm7 pt7 b7=>hR v T r' _ tv ok r0' ln dp hrm7 pt7 b7]
 rintro v1 T1 q1 H7 tv1 ok1 q10 ln1 dp1 hrm7 pt7 b67;have sh7:=sh6.keep2 hp6 hrm6 nk nkr b67;have kt:∀{Ha Hb:Hp}{xs ys:PP V},Ha p=↥xs->Ha rm=↥ys->But2 p rm Ha Hb->∀a zs,Ha a= ~~~zs->Hb a= ~~~zs:=λ e1 e2 bb a zs e=>bb _ _ (λ z=>by rw[z,e1]at e;cases e) (λ z=>by rw[z,e2]at e;cases e) e;have ho2':=kt hp6 hrm6 b67 _ _ ho2;show%[_,O,_,O,_,O,_,O,_,O,_,O,o2,_,0,_,O,O,G2 ho2',O,_,O,o2,_,1,_,O,O,G2 ho2',O,_,O,_,_,O,O,_,O,p,t,kl,rm,b,_,_,q1,ks,d',(by rw[<- ed];rfl),pt7,sh7,nk,nkr,nrp,k8,gk,b0,a3,a4,hrm7,q10,⋯|λ v2 T2 q2 H8 tv2 ok2 q20 ln2 dp2 hrm8 pt8 b78=>?_];obtain⟨_,hp7⟩:=cA pt7;show%[zS4|λ tt htt=>?_];show aK htt λ H9 k9 s9=>?_;show q _ (.cut dn pl T1 T2) q2 H9 %[tt,v1,v2,rfl,k9,TrV.keep (λ a xs e=>s9 _ _ (kt hp7 hrm7 b78 _ _ e)) T1 tv1|TrV.keep (λ a xs e=>s9 _ _ e) T2 tv2] %[pl1|?_] q20 (by change((lvN T1+lvN T2:Nat):Int)<=_;omega) (by change max (dT T1) (dT T2)+1<=_;omega) (s9 _ _ hrm8) (pt8.same s9) (λ c o n1 n2 e=>s9 _ _ (b78 _ _ n1 n2 (b67 _ _ n1 n2 (s56 _ _ (b05 _ _ n1 n2 e)))));cases dn with
 | true=>
  have esd:sd=W - b - 1:=esd;exact%[⋯,ok1|ok2]
 | false=>
  have esd:sd=h1 - b - 1:=esd;exact%[⋯,ok1|ok2]
theorem qU{f:PK}{fd:F8}(F:Fun K "_law_tree" "_law_tree" jV f fd):FnOk P w K mg base CX0 3 f fd QY (spTreeC 0):=by
 apply F.ok sctreec (λ vs H Q E h=>?_) (λ cdv A outer s H vs Q E hr h=>?_)
 ·obtain⟨p,t,kl,rm,b,W,h1,r,ks,deep,rfl,_⟩:=h
  rfl
 ·obtain⟨p,t,kl,rm,b,W,h1,r,ks,deep,_,_,_,_,_,_,_,_,_,_,_,_,_,z,_⟩:=h;exact absurd z (E9 _)
theorem ko{f:PK}{fd:F8}(F:Fun K "_law_tree" "_law_tree" jV f fd)(B:Blt mg)(DD:Dn P w K mg base "_law_take" QQ 1 (spTake))(DBh:Dn P w K mg base "_law_behind" QW 1 (spBeh))(DLf:Dn P w K mg base "_law_leaf" QX 2 (spLeafC))(mk:∀n,FnOk P w K mg base CX0 (3+n) f fd QY (spTreeC n)->Dn P w K mg base "_law_tree" QY (3+n) (spTreeC n)):∀n,FnOk P w K mg base CX0 (3+n) f fd QY (spTreeC n)
 | 0=>qU F
 | n+1=>vd F B n DD DBh DLf (mk n (ko F B DD DBh DLf mk n))
theorem pM:∀ds:PP PyData,ds.length<=wts ds
 | []=>B3 _
 | d :: r=>by have:=pM r;have:=uW d;rw[J0,wts];omega
theorem pN{x:PyData}:∀{ds:PP PyData},x∈ds->wt x<=wts ds
 | d :: r,h=>by
  rw[wts];rcases G7.mp h with h | h
  ·rw[h];omega
  ·have:=pN h;omega
theorem Dts.get{p:PK}{H:Hp}:∀{vs:PP V}{ds:PP PyData}{i:Nat}{x:V},Dts p H vs ds->vs[i]?=some x->∃d,ds[i]?=some d/\Dt p H x d
 | _,_,0,_,.cons a _,e=>%[_,O|by cases e;exact a]
 | _,_,i+1,_,.cons _ r,e=>by obtain⟨d,h1,h2⟩:=r.get (i:=i) (by simpa using e);exact%[d,by simpa using h1|h2]
theorem Dts.app{p:PK}{H:Hp}:∀{vs us:PP V}{ds es:PP PyData},Dts p H vs ds->Dts p H us es->Dts p H (vs ++ us) (ds ++ es)
 | _,_,_,_,.nil,h=>h
 | _,_,_,_,.cons a r,h=>.cons a (r.app h)
mutual
inductive Lsd:PyData->PyData->Prop
 | same (d:PyData):Lsd d d
 | row {ds ds':PP PyData}:Lsds ds ds'->Lsd (.tuple ds) (.list ds')
inductive Lsds:PP PyData->PP PyData->Prop
 | nil:Lsds [] []
 | cons {d d':PyData} {ds ds':PP PyData}:Lsd d d'->Lsds ds ds'->Lsds (d :: ds) (d' :: ds')
end
theorem Lsds.snoc:∀{ds ds':PP PyData}{d d':PyData},Lsds ds ds'->Lsd d d'->Lsds (ds ++ [d]) (ds' ++ [d'])
 | _,_,_,_,.nil,h=>.cons h .nil
 | _,_,_,_,.cons a r,h=>.cons a (r.snoc h)
theorem Lsds.length:∀{ds ds':PP PyData},Lsds ds ds'->ds'.length=ds.length
 | _,_,.nil=>rfl
 | _,_,.cons _ r=>by rw[J0,J0,r.length]
theorem Lsd.row_of{d d':PyData}{ds:PP PyData}(h:Lsd d d')(e:d=.tuple ds):∃ds',aZ d'=some ds'/\Lsds ds ds':=by
 cases h with
 | same d=>
  subst e;show%[ds,O|?_]
  induction ds with
  | nil=>exact .nil
  | cons d ds ih=>exact .cons (.same d) ih
 | row r=>cases e;exact%[_,O|r]
theorem Lsd.str{z:Str}{d:PyData}(h:Lsd (.str z) d):d=.str z:=by cases h;rfl
theorem Lsd.int{i:Int}{d:PyData}(h:Lsd (.int i) d):d=.int i:=by cases h;rfl
theorem Lsd.bool{b:Bool}{d:PyData}(h:Lsd (.bool b) d):d=.bool b:=by cases h;rfl
theorem Lsds.one{d:PyData}{ds es:PP PyData}(h:Lsds (d :: ds) es):∃e es',es=e :: es'/\Lsd d e/\Lsds ds es':=by
 cases h with
 | cons a r=>exact%[_,_,O,a|r]
theorem Lsds.zero{es:PP PyData}(h:Lsds [] es):es=[]:=by cases h;rfl
theorem Lsd.tree:∀(t:Tr){d:PyData},Lsd (toD t) d->TrD t d
 | .rest,d,h=>by obtain⟨ds',e,r⟩:=h.row_of rfl;obtain⟨x1,es,rfl,h1,r⟩:=r.one;cases r.zero;cases h1.str;exact e
 | .piece i c x y,d,h=>by obtain⟨ds',e,r⟩:=h.row_of rfl;obtain⟨x1,es,rfl,h1,r⟩:=r.one;obtain⟨x2,es,rfl,h2,r⟩:=r.one;obtain⟨x3,es,rfl,h3,r⟩:=r.one;obtain⟨x4,es,rfl,h4,r⟩:=r.one;obtain⟨x5,es,rfl,h5,r⟩:=r.one;cases r.zero;cases h1.str;cases h2.int;cases h3.bool;cases h4.int;cases h5.int;exact e
 | .cut dn p l r,d,h=>by obtain⟨ds',e,r'⟩:=h.row_of rfl;obtain⟨x1,es,rfl,h1,r'⟩:=r'.one;obtain⟨x2,es,rfl,h2,r'⟩:=r'.one;obtain⟨x3,es,rfl,h3,r'⟩:=r'.one;obtain⟨x4,es,rfl,h4,r'⟩:=r'.one;cases r'.zero;cases h1.str;cases h2.int;exact%[x3,x4,e,Lsd.tree l h3|Lsd.tree r h4]
mutual
theorem Lsd.wt:∀{d d':PyData},Lsd d d'->wt d'=wt d
 | _,_,.same _=>rfl
 | _,_,.row r=>by simp only[Pc.wt];rw[r.wts]
theorem Lsds.wts:∀{d d':PP PyData},Lsds d d'->wts d'=wts d
 | _,_,.nil=>rfl
 | _,_,.cons a r=>by simp only[Pc.wts];rw[a.wt,r.wts]
end
mutual
theorem Lsd.depth:∀{d d':PyData},Lsd d d'->d'.depth=d.depth
 | _,_,.same _=>rfl
 | _,_,.row r=>by simp only[PyData.depth];rw[r.depth]
theorem Lsds.depth:∀{d d':PP PyData},Lsds d d'->PyData.depthAll d'=PyData.depthAll d
 | _,_,.nil=>rfl
 | _,_,.cons a r=>by simp only[PyData.depthAll];rw[a.depth,r.depth]
end
inductive spLists(n:Nat)(vs:PP V)(H:Hp)(Q:VK)(E_:XK):Prop
|mk(p:PK)(v:V)(d:PyData)(_:vs=[.ref p,v])(_:PotC H p)(_:Dt p H v d)(_:d.depth < n)(_:wt d<=30000)(_:∀(v':V)(d':PyData)(H':Hp),Dt p H' v' d'->Lsd d d'->((v'=v/\d'=d)\/∃a xs,v'=.ref a/\H a=none/\H' a=↥xs)->PotC H' p->But p H H'->Q v' H')
theorem sclists:FnScope QZ QZ (defScope fX):=nofun
theorem ve{f:PK}{fd:F8}(F:Fun K "_law_lists" "_law_lists" fX f fd)(B:Blt mg)(n:Nat)(DD:Dn P w K mg base "_law_take" QQ 1 (spTake))(DLs:Dn P w K mg base "_law_lists" QZ (2+n) (spLists n)):FnOk P w K mg base CX0 (2+(n+1)) f fd QZ (spLists (n+1)):=by
 exists sclists;obtain⟨p,v,d,rfl,pt,hd,hn,dz,q⟩:=h;show%[_,(((PW.pt (bQ (@bh _ _ _ _ (@aV _ _ _ (@aD _ _ _ _ _ _ _ _ _ bi O B.isi Pb ('1'^^^((bS (v:=.ty "tuple") O B.tuple Pi O)^^^ad)) ∅ ∅ O O) (by intro _;rfl))) (bT ((@ax _ _ _ _ _ _ _ _ _ _ DD (hr.mono (show 1<=2+n by omega)) O ('0'^^^(af^^^ad)) ∅ O O)<*>bC<*>af))))<|>('1'⁻¹)<|>aG)<<<((cz (own:=["_law_one"]) (cs:=QR) (cap:=[0]) O (fJ '1') (bj (sc:=defScope fX) (N:=QZ) O O ∅) (λ _ _ _ _ _=>ai (i:=0) (by change List.Nodup (["_law_one","_law_pot_here"]:PP Str) ;decide +kernel) O (Or.inl O) (Or.inr O)) (λ _ _ _ _ _=>bW) (λ _ _ _ _ _=>(DLs∪('1'^^^('0'^^^ad)))))⁻¹))|?_];dsimp only[bF];obtain⟨_,hp0⟩:=cA pt;cases hd with
 | non=>exact%[_,O,_,_,_,_,_,O,(Ty.non (K:=K)).2,O,cp "NoneType" (by simp[aM]),_,O|aU (aU %[_,O|q _ _ _ (.non) (.same _) (.inl %[O|O]) pt But.refl'])]
 | bl b=>exact%[_,O,_,_,_,_,_,O,(Ty.bl (K:=K)).2,O,cp "bool" (by simp[aM]),_,O|aU (aU %[_,O|q _ _ _ (.bl b) (.same _) (.inl %[O|O]) pt But.refl'])]
 | int i=>exact%[_,O,_,_,_,_,_,O,(Ty.int (K:=K)).2,O,cp "int" (by simp[aM]),_,O|aU (aU %[_,O|q _ _ _ (.int i) (.same _) (.inl %[O|O]) pt But.refl'])]
 | str z=>exact%[_,O,_,_,_,_,_,O,(Ty.str (K:=K)).2,O,cp "str" (by simp[aM]),_,O|aU (aU %[_,O|q _ _ _ (.str z) (.same _) (.inl %[O|O]) pt But.refl'])]
 | lst n h r=>exact%[_,O,_,_,_,_,_,O,(Ty.lst h (K:=K)).2,O,cp "list" (by simp[aM]),_,O|aU (aU %[_,O|q _ _ _ (.lst n h r) (.same _) (.inl %[O|O]) pt But.refl'])]
 | emp h=>exact%[_,O,_,_,_,_,_,O,(Ty.dK h (K:=K)).2,O,cp "dict" (by simp[aM]),_,O|aU (aU %[_,O|q _ _ _ (.emp h) (.same _) (.inl %[O|O]) pt But.refl'])]
 | @tup a xs ds h r=>
  show%[_,O,_,_,_,_,_,O,(Ty.tup h (K:=K)).2,O,cp "tuple" (by simp[aM]),_,O|aT %[_,O,p,3,O,pt,∅,∅|λ z H1 z0 z1 pt1 b1=>%[O,_,O|?_]]];have np:a≠p:=λ z=>by rw[z,hp0]at h;cases h
  have h1:=b1 _ _ np h;have r1:=r.but %[_|hp0] b1;show cV (λ c=>%[_,O|q _ _ _ (.tup h1 r1) (.same _) (.inl %[O|O]) pt1 b1]) (λ c=>?_);have hl:=r1.length;have wl:=pM ds;have dz:wts ds+1<=30000:=dz;have hn:PyData.depthAll ds+1 < n+1:=hn;have sz:40000 < sizeLine:=∅
  show%[_,O,a,O,%[_|G2 h1]|(bY (K:=K) (.inr h1) (λ i ys Hx=>PotC Hx p/\But p H1 Hx/\∃ds',Dts p Hx ys ds'/\Lsds (ds.take i) ds') (λ i ys Hx _ e o ho=>e.2.1 _ _ np ho) %[pt1,But.refl',[],.nil|.nil] ?_ ?_).2 h1]
  ·rintro i x ys Hx hi ⟨ptx,bx,ds',dy,ly⟩;have hin:i < xs.length:=(A6.mp hi).1;obtain⟨d,hd,hx⟩:=r1.get hi;have yl:=dy.length;have yl2:=ly.length;rw[J2]at yl2;have dm:=B5 hd;have d1:=kh dm;have w1:=pN dm;obtain⟨_,hp1⟩:=cA pt1;show%[⋯,leS.set rfl|bX %[_,O,_,O,p,x,d,O,ptx,hx.but %[_|hp1] bx,⋯,⋯|λ v' d' H2 dv ld _ pt2 b2=>?_]];obtain⟨_,hpx⟩:=cA ptx;show Nx.of hin %[pt2,bx.trans b2,ds' ++ [d'],(dy.but %[_|hpx] b2).app (.cons dv .nil)|?_];rw[J4,hd];exact ly.snoc ld
  ·rintro ys Hx ⟨ptx,bx,ds',dy,ly⟩;have yl:=dy.length;have yl2:=ly.length;rw[J2]at yl2;show%[⋯|λ t ht=>?_];obtain⟨n1,n2⟩:=(b1.trans bx).freeC ptx ht;rw[hl,J9]at ly;exact q _ _ _ (.lst n1 au (dy.same (G1 ht))) (.row ly) (.inr %[t,ys,O,n2|au]) (ptx.new ht) (b1.trans (bx.trans (But.new ht)))
theorem qV{f:PK}{fd:F8}(F:Fun K "_law_lists" "_law_lists" fX f fd):FnOk P w K mg base CX0 2 f fd QZ (spLists 0):=by
 apply F.ok sclists (λ vs H Q E h=>?_) (λ cdv A outer s H vs Q E hr h=>?_)
 ·obtain⟨p,v,d,rfl,_⟩:=h
  rfl
 ·obtain⟨p,v,d,rfl,_,_,z,_⟩:=h;exact absurd z (E9 _)
theorem kq{f:PK}{fd:F8}(F:Fun K "_law_lists" "_law_lists" fX f fd)(B:Blt mg)(DD:Dn P w K mg base "_law_take" QQ 1 (spTake))(mk:∀n,FnOk P w K mg base CX0 (2+n) f fd QZ (spLists n)->Dn P w K mg base "_law_lists" QZ (2+n) (spLists n)):∀n,FnOk P w K mg base CX0 (2+n) f fd QZ (spLists n)
 | 0=>qV F
 | n+1=>ve F B n DD (mk n (kq F B DD mk n))
def pO(K:C5)(H:Hp)(wv hv:V):Prop:=(∃T,Ty K H wv T)/\(∃T,Ty K H hv T)/\(aX wv 1 && aX hv 1)=false
inductive spCPX(K:C5)(NP:PK)(vs:PP V)(H:Hp)(Q:VK)(E:XK):Prop
|mk(wv hv:V)(_:vs=[wv,hv])(_:(∃T,Ty K H wv T))(_:(∃T,Ty K H hv T))(_:((aX wv 1 && aX hv 1)=false->E (.ref NP) none H))(_:((aX wv 1 && aX hv 1)=true->Q .non H))
inductive spNoPl(K:C5)(NP:PK)(vs:PP V)(H:Hp)(Q:VK)(E:XK):Prop
|mk(s:PK)(wv hv v:V)(_:vs=[.ref s,wv,hv,v])(_:pO K H wv hv)(_:E (.ref NP) none H)
inductive spRef(K:C5)(C NP NT:PK):PP V->Hp->VK->XK->Prop
 | pl {s:PK} {wv hv v:V} {H:Hp} {Q:VK} {E:XK} (b:pO K H wv hv) (e:E (.ref NP) none H):spRef K C NP NT [.ref s,wv,hv,v] H Q E
 | tr {pp s:PK} {b w h:Int} {ks:PP Kd} {v:V} {d:PyData} {H:Hp} {Q:VK} {E:XK} (sh:ShopAt C H s b ks) (w1:1<=w) (h1:1<=h) (dt:Dt pp H v d) (wd:wt d<=30000) (no:isT b ks w h d=false) (e:∀H',Same H H'->E (.ref NT) none H'):spRef K C NP NT [.ref s,.int w,.int h,v] H Q E
theorem spRef.to{C NP NT:PK}{vs:PP V}{H:Hp}{Q Q':VK}{E:XK}(h:spRef K C NP NT vs H Q E):spRef K C NP NT vs H Q' E:=by
 cases h with
 | pl b e=>exact .pl b e
 | tr a b c d e f g=>exact .tr a b c d e f g
theorem spRef.four{C NP NT:PK}{vs:PP V}{H:Hp}{Q:VK}{E:XK}(h:spRef K C NP NT vs H Q E):∃a b c d,vs=[a,b,c,d]:=by cases h <;> exact%[_,_,_,_|O]
theorem sccplateX:FnScope QL QL (defScope cF):=nofun
theorem og{f NP:PK}{fd:F8}(F:Fun K "check_plate" "check_plate" cF f fd)(mP:mg "NoPlate" = ↑NP)(eP:ExcC K NP)(DW:Dn P w K mg base "is_whole" PX 1 (cJ K)):FnOk P w K mg base (CXx P w) 2 f fd QL (spCPX K NP):=by
 show F.okX sccplateX (λ vs H Q E h=>?_) (λ cdv A outer s H vs Q E hr h=>?_)
 ·obtain⟨wv,hv,rfl,_⟩:=h
  rfl
 obtain⟨wv,hv,rfl,⟨Tw,tw⟩,⟨Th,th⟩,qe,q⟩:=h;have nd:=sccplateX.nd;show%[_,(@ag _ _ _ ((PW.pt (bQ (@bh _ _ _ _ (@aV _ _ _ (DW∪('0'^^^(af^^^ad))) (by intro _;rfl))) (bT (@bh _ _ _ _ (@aV _ _ _ (DW∪('1'^^^(af^^^ad))) (by intro _;rfl))))))<|>(@ag _ _ _ (iQ (R:=λ c H=>E c none H) O O mP eP (aB^^^ad) fT))<|>aG))|?_];show%[_,O,wv,_,1,O,tw,_,O|?_];cases hw:aX wv 1 with
 | false=>exact aU (aU %[zS1|qe (by rw[hw];rfl)])
 | true=>
  show aT %[_,rfl,hv,_,1,rfl,th,_,rfl|?_];cases hh:aX hv 1 with
  | false=>exact aU %[zS1|qe (by rw[hw,hh];rfl)]
  | true=>exact aT (q (by rw[hw,hh];rfl))
theorem scistreeP:FnScope QM QN (defScope fA):=nofun
theorem oh{f NP:PK}{fd:F8}(F:Fun K "is_tree" "is_tree" fA f fd)(DCP:DnX P w K mg base "check_plate" QL 2 (spCPX K NP)):FnOk P w K mg base (CXx P w) 3 f fd QN (spNoPl K NP):=by
 show F.okX scistreeP (λ vs H Q E h=>?_) (λ cdv A outer s H vs Q E hr h=>?_)
 ·obtain⟨s,wv,hv,v,rfl,_⟩:=h
  rfl
 obtain⟨s,wv,hv,v,rfl,bp,e⟩:=h;have nd:=scistreeP.nd;show%[_,((@be _ _ _ _ (fu (iU DCP (hr.mono ∅) O ('1'^^^('2'^^^ad)))) O)<<<(aP<<<(aP<<<(aP>>>aP))))|?_];show bn (λ σ' H'=>False) (λ R hR=>?_) (λ _ _ z=>z.elim);exact%[_,O,_,O,wv,hv,O,bp.1,bp.2.1,λ _=>e|λ g=>by rw[bp.2.2]at g;cases g]
theorem scchecktR:FnScope QN QN (defScope cR):=nofun
theorem oi{f C NP NT:PK}{fd:F8}(F:Fun K "check_tree" "check_tree" cR f fd)(mT:mg "NoTree" = ↑NT)(eT:ExcC K NT)(DI:DnX P w K mg base "is_tree" QN 6 (λ vs H Q E=>spIsTree C vs H Q E\/spNoPl K NP vs H Q E)):FnOk P w K mg base (CXx P w) 7 f fd QN (spRef K C NP NT):=by
 show F.okX scchecktR (λ vs H Q E h=>?_) (λ cdv A outer s H vs Q E hr h=>?_)
 ·obtain⟨_,_,_,_,rfl⟩:=h.four
  rfl
 obtain⟨v1,v2,v3,v4,rfl⟩:=h.four;have nd:=scchecktR.nd;show%[_,(@ag _ _ _ ((@bh _ _ _ _ (@aV _ _ _ (fu (iU DI hr O ('0'^^^('1'^^^('2'^^^('3'^^^ad)))))) (by intro _;rfl)))<|>(@ag _ _ _ (iQ (R:=λ c H=>E c none H) O O mT eT (aB^^^ad) fT))<|>aG))|?_];show%[_,O,_,O,_,O,_,O|?_];cases h with
 | pl b e=>exact .inr %[_,_,_,_,O,b|e]
 | tr sh w1 h1 dt wd no e=>
  show .inl %[_,_,_,_,_,_,_,_,O,sh,w1,h1,dt,wd|λ H1 s1=>%[_,O|?_]];rw[no];exact aU %[zS1|e _ s1]
structure Lf where
 x:Int
 y:Int
 w:Int
 h:Int
 t:Tr
def lvs(b:Int):Tr->Int->Int->Int->Int->PP Lf
 | .cut true p l r,x,y,w,h=>lvs b r (x+(p+b)) y (w - p - b) h ++ lvs b l x y p h
 | .cut false p l r,x,y,w,h=>lvs b r x (y+(p+b)) w (h - p - b) ++ lvs b l x y w p
 | .rest,x,y,w,h=>[%[x,y,w,h|.rest]]
 | .piece i c u v,x,y,w,h=>[%[x,y,w,h|.piece i c u v]]
def LfAt(p:PK)(H0 H:Hp)(v:V)(t:Lf):Prop:=∃a u d,v=.ref a/\H a= ~~~[.int t.x,.int t.y,.int t.w,.int t.h,u]/\Dt p H0 u d/\TrD t.t d
theorem LfAt.keep{p:PK}{H0 H H':Hp}(k:∀a xs,H a= ~~~xs->H' a= ~~~xs){v:V}{t:Lf}(h:LfAt p H0 H v t):LfAt p H0 H' v t:=by obtain⟨a,u,d,e,h1,h2,h3⟩:=h;exact%[a,u,d,e,k _ _ h1,h2|h3]
def lsz(ts:PP Lf):Nat:=(ts.map λ t=>szT t.t).sum
theorem dh(a b:PP Lf):lsz (a ++ b)=lsz a+lsz b:=by unfold lsz;rw[J7,List.sum_append]
theorem iy:∀ts:PP Lf,ts.length<=lsz ts
 | []=>B3 _
 | t :: r=>by have:=iy r;have:=Bm t.t;change r.length+1<=szT t.t+lsz r;omega
def qW(b:Int)(ts:PP Lf):PP Lf:=ts.reverse.flatMap λ t=>lvs b t.t t.x t.y t.w t.h
theorem dY(b:Int)(ts:PP Lf)(t:Lf):qW b (ts ++ [t])=lvs b t.t t.x t.y t.w t.h ++ qW b ts:=by
 unfold qW;rw[List.reverse_append]
 rfl
inductive spLeaves(C:PK)(vs:PP V)(H:Hp)(Q:VK)(E_:XK):Prop
|mk(pp s:PK)(b w h:Int)(ks:PP Kd)(v:V)(d:PyData)(t:Tr)(_:vs=[.ref s,.int w,.int h,v])(_:ShopAt C H s b ks)(_:Dt pp H v d)(_:TrD t d)(_:szT t<=10000)(_:∀(l:PK)(us:PP V)(H':Hp),H l=none->H' l=↥us->Paired (LfAt pp H H') us (lvs b t 0 0 w h)->Same H H'->Q (.ref l) H')
inductive spCheckT(C:PK)(vs:PP V)(H:Hp)(Q:VK)(E_:XK):Prop
|mk(pp s:PK)(b w h:Int)(ks:PP Kd)(v:V)(d:PyData)(_:vs=[.ref s,.int w,.int h,v])(_:ShopAt C H s b ks)(_:1<=w)(_:1<=h)(_:Dt pp H v d)(_:wt d<=30000)(_:isT b ks w h d=true)(_:∀H',Same H H'->Q .non H')
theorem scleaves:FnScope ["shop","wide","high","tree","leaves","waiting","spot"] Qa (defScope fB):=nofun
theorem qX{f C wa:PK}{fd:F8}(F:Fun K "leaves_of" "leaves_of" fB f fd)(T:ShopTxt K C)(Z:TrC K mg wa)(MB:Mn P w K mg base C "blade" QE 1 (ig C))(DS:Dn P w K mg base "spots_behind" QJ 2 (spBehind)):FnOk P w K mg base CX0 3 f fd Qa (spLeaves C):=by
 exists scleaves;obtain⟨pp,s,b,w1,h1,ks,v,d,t,rfl,SH,hd,td,tz,q⟩:=h;show%[_,((4∣(@aL _ _ _ _ ad))<<<((5∣(@aL _ _ _ _ ((@aI _ _ _ _ _ (af^^^(af^^^('1'^^^('2'^^^('3'^^^ad))))))^^^ad)))<<<((lM E4 (iF '5' (λ _=>O)) ((6∣(gJ F5 PySem.F.slot_list_pop PySem.F.type_list_pop kF '5'))>>>((@aJ _ _ _ _ _ _ _ _ jJ (('6'&&&ix_tup&&&af)&&&dw&&&af) (ce (v:=.ref wa) O Z.wy O) O)<|>(@ag _ _ _ (@be _ _ _ _ (@dB _ _ _ _ _ _ _ _ _ _ _ _ F5 PySem.F.slot_list_extend PySem.F.type_list_extend jL '5' ((DS∪((ef '0' T.cl MB (hr.mono ∅))^^^('6'^^^ad)))^^^ad) O O O O O) O))<|>(@ag _ _ _ (@be _ _ _ _ (@dB _ _ _ _ _ _ _ _ _ _ _ _ F5 PySem.F.slot_list_append PySem.F.type_list_append bE '4' ('6'^^^ad) O O O O O) O)))))<<<('4'⁻¹))))|?_];dsimp only[bF];have sz:(40000:Nat)<=sizeLine:=∅
 obtain⟨dx,r,rs,S1,S2,S3⟩:=id SH;show%[∅|λ ll hll=>?_];show aK hll λ H0 k0 s0=>?_;show%[_,O,_,O,_,O,zS5|λ t' ht=>?_];show aK ht λ Ha ka sa=>?_;show%[zS1|λ wl hwl=>?_];show aK hwl λ Hb kb sb=>?_;have fw:H wl=none:=(s0.trans sa).free hwl;have nlw:ll≠wl:=λ z=>by rw[<- z,sa _ _ k0]at hwl;cases hwl
 have sab:=(s0.trans sa).trans sb;show%[λ m σ H'=>∃(vs us:PP V)(ts L:PP Lf)(v6:PM V),σ=[↑s,⇑w1,⇑h1,some v,↑ll,↑wl,v6]/\m=lsz ts/\H' wl=↥vs/\H' ll=↥us/\Paired (LfAt pp H H') vs ts/\Paired (LfAt pp H H') us L/\lsz ts+L.length<=10000/\L ++ qW b ts=lvs b t 0 0 w1 h1/\Same H H',%[_,[.ref t'],[],[%[0,0,w1,h1|t]],[],none,O,O,kb,sb _ _ (sa _ _ k0),.cons %[t',v,d,O,sb _ _ ka,hd|td] .nil,.nil,(by change szT t+0+0<=10000;omega),(by change[] ++ (lvs b t 0 0 w1 h1 ++ [])=_;rw[K0];rfl)|sab]|?_];rintro m σ H1 ⟨vs,us,ts,L,v6,rfl,rfl,hw,hl,pr,pu,sz1,al,s1⟩;show%[_,O,_,.inl %[vs,G3 hw|O]|?_];rcases O3 vs with rfl | ⟨vs',v0,rfl⟩
 ·have ets:ts=[]:=by
   have:=E3 pr;cases ts with
   | nil=>rfl
   | cons _ _=>simp at this
  subst ets;rw[show qW b []=[]from rfl,K0]at al;rw[al]at pu;exact aT %[_,rfl|q ll us H1 hll hl pu s1]
 rw[O4]at pr hw ⊢;obtain⟨ts',t0,rfl,prp,⟨sp,u,du,rfl,hsp,hdu,tdu⟩⟩:=mE pr;rw[show(!(vs' ++ [V.ref sp]).isEmpty)=true by cases vs' <;> rfl];have ssz:lsz (ts' ++ [t0])=lsz ts'+szT t0.t:=by rw[dh];change _+(szT t0.t+0)=_;omega
 rw[ssz]at sz1 ⊢;show aU %[λ σ' H'=>∃(vs us:PP V)(ts L:PP Lf)(v6:PM V),σ'=[↑s,⇑w1,⇑h1,some v,↑ll,↑wl,v6]/\lsz ts < lsz ts'+szT t0.t/\H' wl=↥vs/\H' ll=↥us/\Paired (LfAt pp H H') vs ts/\Paired (LfAt pp H H') us L/\lsz ts+L.length<=10000/\L ++ qW b ts=lvs b t 0 0 w1 h1/\Same H H',λ σ' H' ⟨vs,us,ts,L,v6,e,l,r⟩=>%[_,l,vs,us,ts,L,v6,e,rfl|r]|?_];rw[dY]at al;have ml:(vs' ++ [V.ref sp]).length=vs'.length+1:=by rw[G8];rfl
 have keep:∀{Hx:Hp}{o:HO},Same H Hx->Same H (upd Hx wl o):=λ {Hx o} sx c oo e=>by rw[aw (λ z=>by rw[z,fw]at e;cases e)];exact sx _ _ e
 have keepL:∀{Hx:Hp}{o:HO},Same H Hx->Same H (upd Hx ll o):=λ {Hx o} sx c oo e=>by rw[aw (λ z=>by rw[z,hll]at e;cases e)];exact sx _ _ e
 show bn (λ σ' H'=>σ'=[↑s,⇑w1,⇑h1,some v,↑ll,↑wl,↑sp]/\H' wl=↥vs'/\H' ll=↥us/\Paired (LfAt pp H H') vs' ts'/\Paired (LfAt pp H H') us L/\H' sp= ~~~[.int t0.x,.int t0.y,.int t0.w,.int t0.h,u]/\Same H H') (λ R hR=>?_) ?_
 ·show%[_,O,.inl %[O,_|G3 hw],wl,_,.ref sp,O,O,hw,(by rw[ml];simp)|?_];rw[List.dropLast_concat];have kt:∀{c:PK}{xs:PP V},H1 c= ~~~xs->(upd H1 wl (.lst vs')) c= ~~~xs:=λ {c xs} e=>by rw[aw (λ z=>by rw[z,hw]at e;cases e)];exact e
  exact hR _ _ %[rfl,au,by rw[aw nlw];exact hl,G4 prp λ v t h=>h.keep λ a xs e=>kt e,G4 pu λ v t h=>h.keep λ a xs e=>kt e,kt hsp|keep s1]
 rintro _ H2 ⟨rfl,hw2,hl2,pr2,pu2,hsp2,s02⟩;have a4:atI [.int t0.x,.int t0.y,.int t0.w,.int t0.h,u] 4=some u:=bq ∅ rfl;have inT:∀z:Str,(z = "down" \/ z = "across")->inV (V.str z) [V.str "down",V.str "across"]=true:=λ z hz=>by rcases hz with e | e <;> subst e <;> decide +kernel
 have go:∀(y:Str)(ys:PP PyData),aZ du=some (.str y :: ys)->∃a xs,u=.ref a/\(H a=↥(.str y :: xs)\/H a= ~~~(.str y :: xs))/\Dts pp H xs ys:=λ y ys er=>by
  obtain⟨a,xs,e,hx,dxs⟩:=hdu.ref_row er;cases dxs with
  | cons hd0 dxs=>
   cases hd0;exact%[a,_,e,hx|dxs]
 show%[_,O,sp,_,4,_,O,O,G2 hsp2,a4|?_];obtain⟨tt,et⟩:∃tt,t0.t=tt:=%[_|O]
 cases tt with
 | cut dn p l r=>
  rw[et]at tdu;obtain⟨dl,dr,er,tl,tr⟩:=tdu;obtain⟨a,xs,eu,hx,dxs⟩:=go _ _ er;have hx0:=hx;cases dxs with
  | @cons x1 _ xs1 _ hd1 dxs=>
  cases dxs with
  | @cons lv _ xs2 _ hdl dxs=>
  cases dxs with
  | @cons rv _ xs3 _ hdr dxs=>
  cases dxs;cases hd1;subst eu;change rIx K (.ref a) (.int 0) H2 _;show ixR s02 hx (bq (E5 _) rfl) ?_;show%[wa,_,O,.inr (Z.wq _),O,O,_,O|?_];change(if (inV (V.str (if dn=true then "down" else "across")) [V.str "down",V.str "across"])=true then _ else _);rw[inT _ (by cases dn <;> first | exact .inl rfl | exact .inr rfl)];have SH2:=jg s02 SH;obtain⟨dx',r',rs',S1',S2',S3'⟩:=id SH2;show aU %[_,rfl,.inl %[rfl,_|G3 hw2],_,rfl,s,dx',_,rfl,S1',(cX _ _ ∅ ∅),s,b,ks,rfl,SH2,_,rfl|?_];show%[b,t0.x,t0.y,t0.w,t0.h,p,sp,a,dn,lv,rv,O,hsp2,hx.imp (s02 _ _) (s02 _ _)|λ lu t1 t2 H4 hlu ku k1 k2 s4=>?_];have hw4:=s4 _ _ hw2;have pl:=E3 pr2;have sl:=iy ts';have sz0:szT t0.t=szT l+szT r+1:=by rw[et];rfl
  show%[wl,lu,_,_,O,O,hw4,ku,by change _+2<=_;omega|?_];have kt:∀{c:PK}{xs:PP V},H4 c= ~~~xs->(upd H4 wl (.lst (vs' ++ [.ref t1,.ref t2]))) c= ~~~xs:=λ {c xs} e=>by rw[aw (λ z=>by rw[z,hw4]at e;cases e)];exact e
  have kl4:(upd H4 wl (.lst (vs' ++ [.ref t1,.ref t2]))) ll=↥us:=by rw[aw nlw];exact s4 _ _ hl2
  have pr4:Paired (LfAt pp H (upd H4 wl (.lst (vs' ++ [.ref t1,.ref t2])))) vs' ts':=G4 pr2 λ v t h=>h.keep λ a xs e=>kt (s4 _ _ e);have pu4:Paired (LfAt pp H (upd H4 wl (.lst (vs' ++ [.ref t1,.ref t2])))) us L:=G4 pu2 λ v t h=>h.keep λ a xs e=>kt (s4 _ _ e);cases dn with
  | true=>
   have k1:H4 t1= ~~~[.int t0.x,.int t0.y,.int p,.int t0.h,lv]:=k1;have k2:H4 t2= ~~~[.int (t0.x+(p+b)),.int t0.y,.int (t0.w - p - b),.int t0.h,rv]:=k2;show%[vs' ++ [.ref t1,.ref t2],us,ts' ++ [%[t0.x,t0.y,p,t0.h|l]] ++ [%[t0.x+(p+b),t0.y,t0.w - p - b,t0.h|r]],L,_,O,?_,au,kl4,?_,pu4,?_,?_|keep (s02.trans s4)]
   ·rw[dh,dh];change _+(szT l+0)+(szT r+0) < _;rw[sz0];omega
   ·rw[K9];exact eZ pr4 (.cons %[t1,lv,dl,O,kt k1,hdl|tl] (.cons %[t2,rv,dr,O,kt k2,hdr|tr] .nil))
   ·rw[dh,dh];change _+(szT l+0)+(szT r+0)+_<=_;rw[sz0]at sz1;omega
   ·rw[dY,dY,<- al,et,lvs,K9]
  | false=>
   have k1:H4 t1= ~~~[.int t0.x,.int t0.y,.int t0.w,.int p,lv]:=k1;have k2:H4 t2= ~~~[.int t0.x,.int (t0.y+(p+b)),.int t0.w,.int (t0.h - p - b),rv]:=k2;show%[vs' ++ [.ref t1,.ref t2],us,ts' ++ [%[t0.x,t0.y,t0.w,p|l]] ++ [%[t0.x,t0.y+(p+b),t0.w,t0.h - p - b|r]],L,_,O,?_,au,kl4,?_,pu4,?_,?_|keep (s02.trans s4)]
   ·rw[dh,dh];change _+(szT l+0)+(szT r+0) < _;rw[sz0];omega
   ·rw[K9];exact eZ pr4 (.cons %[t1,lv,dl,O,kt k1,hdl|tl] (.cons %[t2,rv,dr,O,kt k2,hdr|tr] .nil))
   ·rw[dh,dh];change _+(szT l+0)+(szT r+0)+_<=_;rw[sz0]at sz1;omega
   ·rw[dY,dY,<- al,et,lvs,K9]
 | rest=>
  rw[et]at tdu;obtain⟨a,xs,eu,hx,dxs⟩:=go _ _ tdu;subst eu;change rIx K (.ref a) (.int 0) H2 _;show ixR s02 hx (bq (E5 _) rfl) ?_;show%[wa,_,O,.inr (Z.wq _),O,O,_,O|?_];change(if (inV (V.str "rest") [V.str "down",V.str "across"])=true then _ else _);rw[show inV (V.str "rest") [V.str "down",V.str "across"]=false by decide +kernel];have sl:=iy ts';have ul:=E3 pu2;have SZ:szT t0.t=1:=by rw[et];rfl
  show aT %[_,rfl,.inl %[rfl,_|G3 hl2],_,rfl,ll,us,_,rfl,rfl,hl2,⋯|?_];have kt:∀{c:PK}{xs:PP V},H2 c= ~~~xs->(upd H2 ll (.lst (us ++ [.ref sp]))) c= ~~~xs:=λ {c xs} e=>by rw[aw (λ z=>by rw[z,hl2]at e;cases e)];exact e
  show%[vs',us ++ [.ref sp],ts',L ++ [t0],_,O,⋯,by rw[aw (Ne.symm nlw)];exact hw2,au,G4 pr2 λ v t h=>h.keep λ a xs e=>kt e,eZ (G4 pu2 λ v t h=>h.keep λ a xs e=>kt e) (.cons %[sp,.ref a,du,O,kt hsp2,hdu|by rw[et];exact tdu] .nil),?_,?_|keepL s02]
  ·rw[G8];change _+(_+1)<=_;omega
  ·rw[<- al,K9];congr 2;rw[et];cases t0;cases et
   rfl
 | piece i c x y=>
  rw[et]at tdu;obtain⟨a,xs,eu,hx,dxs⟩:=go _ _ tdu;subst eu;change rIx K (.ref a) (.int 0) H2 _;show ixR s02 hx (bq (E5 _) rfl) ?_;show%[wa,_,O,.inr (Z.wq _),O,O,_,O|?_];change(if (inV (V.str "piece") [V.str "down",V.str "across"])=true then _ else _);rw[show inV (V.str "piece") [V.str "down",V.str "across"]=false by decide +kernel];have sl:=iy ts';have ul:=E3 pu2;have SZ:szT t0.t=1:=by rw[et];rfl
  show aT %[_,rfl,.inl %[rfl,_|G3 hl2],_,rfl,ll,us,_,rfl,rfl,hl2,⋯|?_];have kt:∀{c:PK}{xs:PP V},H2 c= ~~~xs->(upd H2 ll (.lst (us ++ [.ref sp]))) c= ~~~xs:=λ {c xs} e=>by rw[aw (λ z=>by rw[z,hl2]at e;cases e)];exact e
  show%[vs',us ++ [.ref sp],ts',L ++ [t0],_,O,⋯,by rw[aw (Ne.symm nlw)];exact hw2,au,G4 pr2 λ v t h=>h.keep λ a xs e=>kt e,eZ (G4 pu2 λ v t h=>h.keep λ a xs e=>kt e) (.cons %[sp,.ref a,du,O,kt hsp2,hdu|by rw[et];exact tdu] .nil),?_,?_|keepL s02]
  ·rw[G8];change _+(_+1)<=_;omega
  ·rw[<- al,K9];congr 2;rw[et];cases t0;cases et
   rfl
theorem sccheckt:FnScope QN QN (defScope cR):=nofun
theorem qY{f C:PK}{fd:F8}(F:Fun K "check_tree" "check_tree" cR f fd)(DI:Dn P w K mg base "is_tree" QN 6 (spIsTree C)):FnOk P w K mg base CX0 7 f fd QN (spCheckT C):=by
 exists sccheckt;obtain⟨pp,s,b,w1,h1,ks,v,d,rfl,SH,w0,h0,hd,dz,ht,q⟩:=h;show%[_,(@ag _ _ _ ((@bh _ _ _ _ (@aV _ _ _ (DI∪('0'^^^('1'^^^('2'^^^('3'^^^ad))))) (by intro _;rfl)))<|>(@ag _ _ _ aP)<|>aG))|?_];show%[_,O,_,O,_,O,_,O,pp,s,b,w1,h1,ks,v,d,O,SH,w0,h0,hd,dz|λ H1 s1=>%[_,O|?_]];rw[ht];exact aT (q _ s1)
theorem TrD.many{b:Int}:∀(t:Tr)(d:PyData)(x y w h:Int),TrD t d->(lvs b t x y w h).length=lvN t/\szT t<=wt d
 | .rest,d,_,_,_,_,e=>by
  have:=gx (show aZ d=some [.str "rest"]from e);have w1:wts [.str "rest"]=5:=∅
  show%[O|?_];change 1<=wt d;omega
 | .piece i c u v,d,_,_,_,_,e=>by
  have:=gx (show aZ d=some [.str "piece",.int i,.bool c,.int u,.int v]from e);have w1:wts [.str "piece",.int i,.bool c,.int u,.int v]=10:=by
   change wt (.str "piece")+(1+(1+(1+(1+0))))=10
   decide +kernel
  show%[O|?_];change 1<=wt d;omega
 | .cut true p l r,d,x,y,w,h,⟨dl,dr,e,tl,tr⟩=>by
  have h0:=gx e;have w1:wts [.str (if true=true then "down" else "across"),.int p,dl,dr]=5+(1+(wt dl+(wt dr+0))):=by change wt (.str "down")+(1+(wt dl+(wt dr+0)))=_;rw[show wt (.str "down")=5 by decide +kernel]
  have h1:=TrD.many (b:=b) r dr (x+(p+b)) y (w - p - b) h tr;have h2:=TrD.many (b:=b) l dl x y p h tl;rw[lvs,G8,szT,lvN];omega
 | .cut false p l r,d,x,y,w,h,⟨dl,dr,e,tl,tr⟩=>by
  have h0:=gx e;have w1:wts [.str (if false=true then "down" else "across"),.int p,dl,dr]=7+(1+(wt dl+(wt dr+0))):=by change wt (.str "across")+(1+(wt dl+(wt dr+0)))=_;rw[show wt (.str "across")=7 by decide +kernel]
  have h1:=TrD.many (b:=b) r dr x (y+(p+b)) w (h - p - b) tr;have h2:=TrD.many (b:=b) l dl x y w p tl;rw[lvs,G8,szT,lvN];omega
theorem dD(b:Int):∀(t:Tr)(x y w h:Int),∀f∈lvs b t x y w h,f.t=.rest\/∃i c u v,f.t=.piece i c u v
 | .rest,_,_,_,_,f,hf=>by cases E2.mp hf;exact .inl rfl
 | .piece i c u v,_,_,_,_,f,hf=>by cases E2.mp hf;exact .inr %[i,c,u,v|O]
 | .cut true p l r,x,y,w,h,f,hf=>by rw[lvs]at hf;exact(C3.mp hf).elim (dD b r _ _ _ _ f) (dD b l _ _ _ _ f)
 | .cut false p l r,x,y,w,h,f,hf=>by rw[lvs]at hf;exact(C3.mp hf).elim (dD b r _ _ _ _ f) (dD b l _ _ _ _ f)
structure TrH(C pp s:PK)(b w h:Int)(ks:PP Kd)(v:V)(d:PyData)(t:Tr)(H:Hp):Prop where
 sh:ShopAt C H s b ks
 w1:1<=w
 h1:1<=h
 dt:Dt pp H v d
 td:TrD t d
 ok:okT b ks w h t
 wd:wt d<=2000
 ln:lvN t<=63
theorem TrH.same{C pp s:PK}{b w h:Int}{ks:PP Kd}{v:V}{d:PyData}{t:Tr}{H H':Hp}(x:TrH C pp s b w h ks v d t H)(k:Same H H'):TrH C pp s b w h ks v d t H':=%[jg k x.sh,x.w1,x.h1,x.dt.same k,x.td,x.ok,x.wd|x.ln]
structure Pce where
 k:Nat
 c:Bool
 x:Int
 y:Int
def qZ(p:Pce):PP V:=[.int p.k,.bl p.c,.int p.x,.int p.y]
def rc(p:Pce):Q9:=[(p.k:Int),if p.c=true then 1 else 0,p.x,p.y]
def lfP(f:Lf):PM Pce:=match f.t with
 | .piece i c u v=>some %[i,c,f.x+u|f.y+v]
 | _=>none
def pcs(b:Int)(t:Tr)(w h:Int):PP Pce:=(lvs b t 0 0 w h).filterMap lfP
def PA(H:Hp)(a:PK)(p:Pce):Prop:=H a= ~~~(qZ p)
def cW(H:Hp)(a:PK):Pce:=match H a with
 | some (.tup [.int k,.bl c,.int x,.int y])=>%[k.toNat,c,x|y]
 | _=>%[0,false,0|0]
theorem PA.of{H:Hp}{a:PK}{p:Pce}(h:PA H a p):cW H a=p:=by unfold cW;rw[show H a= ~~~[.int p.k,.bl p.c,.int p.x,.int p.y]from h];change(%[(p.k:Int).toNat,p.c,p.x|p.y]:Pce)=p;rw[K2]
theorem PA.map{H:Hp}:∀{as:PP PK}{ps:PP Pce},Paired (PA H) as ps->as.map (cW H)=ps
 | _,_,.nil=>rfl
 | _,_,.cons h r=>by rw[J3,h.of,PA.map r]
theorem PA.mem{H:Hp}:∀{as:PP PK}{ps:PP Pce},Paired (PA H) as ps->∀a∈as,PA H a (cW H a)
 | _,_,.nil,a,h=>by cases h
 | _,_,.cons h r,a,hm=>by
  rcases G7.mp hm with e | e
  ·subst e;rw[h.of];exact h
  ·exact PA.mem r a e
theorem PA.back{H:Hp}:∀{as:PP PK},(∀a∈as,PA H a (cW H a))->Paired (PA H) as (as.map (cW H))
 | [],_=>.nil
 | a :: as,h=>.cons (h a B7) (PA.back λ b hb=>h b (B4 _ hb))
theorem PA.keep{H H':Hp}(k:∀a xs,H a= ~~~xs->H' a= ~~~xs){as:PP PK}{ps:PP Pce}(h:Paired (PA H) as ps):Paired (PA H') as ps:=G4 h λ a p e=>k _ _ e
inductive spPieces(C:PK)(vs:PP V)(H:Hp)(Q:VK)(E_:XK):Prop
|mk(pp s:PK)(b w h:Int)(ks:PP Kd)(v:V)(d:PyData)(t:Tr)(_:vs=[.ref s,.int w,.int h,v])(_:TrH C pp s b w h ks v d t H)(_:∀(l:PK)(as:PP PK)(ps:PP Pce)(H':Hp),H l=none->H' l=↥(as.map V.ref)->Paired (PA H') as ps->ps.Perm (pcs b t w h)->(ps.map rc).Pairwise (λ x y=>cu y x=false)->Same H H'->Q (.ref l) H')
theorem scpieces:FnScope ["shop","wide","high","tree","pieces","x","y","part_wide","part_high","leaf","word","kind","turned","piece_x","piece_y"] Qa (defScope fC):=nofun
theorem rd{f C wa:PK}{fd:F8}(F:Fun K "pieces_of" "pieces_of" fC f fd)(B:Blt mg)(Z:TrC K mg wa)(DC:Dn P w K mg base "check_tree" QN 7 (spCheckT C))(DL:Dn P w K mg base "leaves_of" Qa 3 (spLeaves C)):FnOk P w K mg base CX0 8 f fd Qa (spPieces C):=by
 exists scpieces;obtain⟨pp,s,b,w1,h1,ks,v,d,t,rfl,th,q⟩:=h;obtain⟨trs,hrs⟩:=Z.rs;show%[_,((@be _ _ _ _ (DC∪('0'^^^('1'^^^('2'^^^('3'^^^ad))))) O)<<<((4∣(@aL _ _ _ _ ad))<<<((@cP _ _ _ _ _ _ _ _ E4 O (bU (DL∩('0'^^^('1'^^^('2'^^^('3'^^^ad)))))) (bf O (5•(6•(7•(8•(9•aQ)))))) (@ag _ _ _ ((('9'&&&dw&&&af)<*>eQ<*>(ce (v:=.str "rest") O hrs %[trs|O]))<|>((@bA _ _ _ _ _ _ '9' (nH O (10•(11•(12•(13•(14•aQ)))))) O O O)>>>(@be _ _ _ _ (@dB _ _ _ _ _ _ _ _ _ _ _ _ F5 PySem.F.slot_list_append PySem.F.type_list_append bE '4' ((@aI _ _ _ _ _ (';'^^^('<'^^^(('5'|||aW|||'=')^^^(('6'|||aW|||'>')^^^ad)))))^^^ad) O O O O O) O))<|>aG)) (by intro _;rfl))<<<((@aD _ _ _ _ _ _ _ _ _ cZ O B.sorted PyProof.Rows.boot_sorted ('4'^^^ad) ∅ ∅ O O)⁻¹))))|?_];dsimp only[bF];have sz:(40000:Nat)<=sizeLine:=∅
 obtain⟨m1,m2⟩:=TrD.many (b:=b) t d 0 0 w1 h1 th.td;have wd:=th.wd;have ln:=th.ln;show%[_,O,_,O,_,O,_,O,pp,s,b,w1,h1,ks,v,d,O,th.sh,th.w1,th.h1,th.dt,⋯,TrD.good t d w1 h1 th.td th.ok|λ H1 s1=>?_];show%[∅|λ pl hpl=>?_];have s2:Same H1 (upd H1 pl (.lst [])):=G1 hpl;have k2:(upd H1 pl (.lst [])) pl=↥[]:=au;generalize upd H1 pl (.lst [])=H2 at s2 k2 ⊢;have s02:=s1.trans s2;have th2:=th.same s02;have fp:H pl=none:=s1.free hpl;have dp:Dt pl H2 v d:=(th.dt.fresh fp).same s02;show bn (λ σ' H'=>σ'=[↑s,⇑w1,⇑h1,some v,↑pl,none,none,none,none,none,none,none,none,none,none]/\H2=H') (λ R hR=>hR _ _ %[rfl|rfl]) ?_;rintro _ _ ⟨rfl,rfl⟩;show bn (λ σ' H'=>(∃v5 v6 v7 v8 v9 v10 v11 v12 v13 v14,σ'=[↑s,⇑w1,⇑h1,some v,↑pl,v5,v6,v7,v8,v9,v10,v11,v12,v13,v14])/\(∃as,H' pl=↥(as.map V.ref)/\Paired (PA H') as (pcs b t w1 h1)/\as.length<=63)/\Same H H') (λ R hR=>?_) ?_
 ·show%[_,O,_,O,_,O,_,O,pl,s,b,w1,h1,ks,v,d,t,O,th2.sh,dp,th2.td,⋯|λ ll us H3 hll l3 pu s23=>?_];have s03:=s02.trans s23;have ul:=E3 pu;have npl:ll≠pl:=λ z=>by rw[z,k2]at hll;cases hll
  show%[ll,O,%[_|G3 l3]|dq (xs:=us) (λ i σ' H'=>(∃v5 v6 v7 v8 v9 v10 v11 v12 v13 v14,σ'=[↑s,⇑w1,⇑h1,some v,↑pl,v5,v6,v7,v8,v9,v10,v11,v12,v13,v14])/\(∃as,H' pl=↥(as.map V.ref)/\Paired (PA H') as (((lvs b t 0 0 w1 h1).take i).filterMap lfP))/\H' ll=↥us/\Paired (LfAt pl H2 H') us (lvs b t 0 0 w1 h1)/\But pl H2 H'/\Same H H') %[%[_,_,_,_,_,_,_,_,_,_|O],%[[],s23 _ _ k2|.nil],l3,pu,Bk s23|s03] (λ i σ H' _ h=>G3 h.2.2.1) ?_ ?_]
  ·rintro i x σ H4 hi ⟨⟨v5,v6,v7,v8,v9,v10,v11,v12,v13,v14,rfl⟩,⟨as,hp4,pa4⟩,l4,pu4,b4,s4⟩;have hin:i < us.length:=(A6.mp hi).1;obtain⟨f,hf,a,u,du,rfl,ha,hdu,tdu⟩:=G5 pu4 hi;have pal:=E3 pa4;have fml:(((lvs b t 0 0 w1 h1).take i).filterMap lfP).length<=i:=C6 (J5 _ _) (by rw[J2];omega);have tk:(lvs b t 0 0 w1 h1).take (i+1)=(lvs b t 0 0 w1 h1).take i ++ [f]:=by rw[J4,hf];rfl
   show%[a,_,O,G2 ha,O,_,_,O,_,_,O,_,_,O,_,_,O,_,_,O,O|?_];have hdu4:Dt pl H4 u du:=hdu.but %[_|k2] b4;rcases dD b t 0 0 w1 h1 f (B5 hf)with et | ⟨ki,c,px,py,et⟩
   ·rw[et]at tdu;obtain⟨a',xs,rfl,hx,dxs⟩:=hdu4.ref_row (show aZ du=some [.str "rest"]from tdu);cases dxs with
    | cons hd0 dxs=>
    cases hd0;cases dxs;show%[_,O|ixR (Same.refl _) hx (bq (E5 _) rfl) %[O,_,O|?_]];show aT %[%[_,_,_,_,_,_,_,_,_,_|rfl],%[as,hp4|?_],l4,pu4,b4|s4];rw[tk,N0,show[f].filterMap lfP=[]by rw[K7,show lfP f=none by unfold lfP;rw[et]];rfl,K0];exact pa4
   ·rw[et]at tdu;obtain⟨a',xs,rfl,hx,dxs⟩:=hdu4.ref_row (show aZ du=some [.str "piece",.int ki,.bool c,.int px,.int py]from tdu);cases dxs with
    | cons hd0 dxs=>
    cases dxs with
    | cons hd1 dxs=>
    cases dxs with
    | cons hd2 dxs=>
    cases dxs with
    | cons hd3 dxs=>
    cases dxs with
    | cons hd4 dxs=>
    cases dxs;cases hd0;cases hd1;cases hd2;cases hd3;cases hd4;show%[_,O|ixR (Same.refl _) hx (bq (E5 _) rfl) %[O,_,O|?_]];show aU ?_;show%[_,O,a',_,O,hx.imp (λ z=>G3 z) (λ z=>G2 z),O,_,_,O,_,_,O,_,_,O,_,_,O,_,_,O,O|?_];show%[_,O,.inl %[O,_|G3 hp4],_,O,_,O,_,O,_,O,_,_,O,O,_,O,_,O,_,_,O,O,zS4|λ tp htp=>?_];have s5:=G1 htp (o:=.tup [.int ki,.bl c,.int (f.x+px),.int (f.y+py)]);have k5:(upd H4 tp (.tup [.int ki,.bl c,.int (f.x+px),.int (f.y+py)])) tp= ~~~[.int ki,.bl c,.int (f.x+px),.int (f.y+py)]:=au;rw[show upd H4 tp _=upd H4 tp (.tup [.int ki,.bl c,.int (f.x+px),.int (f.y+py)])from rfl];generalize upd H4 tp (.tup [.int ki,.bl c,.int (f.x+px),.int (f.y+py)])=H5 at s5 k5 ⊢;have hp5:=s5 _ _ hp4;show%[pl,_,_,O,O,hp5,(by rw[G6];omega)|?_];have kt:∀(a:PK)(xs:PP V),H4 a= ~~~xs->(upd H5 pl (.lst (as.map V.ref ++ [.ref tp]))) a= ~~~xs:=λ a xs e=>by rw[aw (λ z=>by rw[z,hp4]at e;cases e)];exact s5 _ _ e
    show%[%[_,_,_,_,_,_,_,_,_,_|O],%[as ++ [tp],by rw[au,J7];rfl|?_],by rw[aw npl];exact s5 _ _ l4,G4 pu4 λ v f h=>h.keep kt,b4.trans (λ cc o n e=>by rw[aw n];exact s5 _ _ e)|λ cc o e=>by rw[aw (λ z=>by rw[z,fp]at e;cases e)];exact s5 _ _ (s4 _ _ e)];rw[tk,N0,show[f].filterMap lfP=[%[ki,c,f.x+px|f.y+py]]by rw[K7,show lfP f=some %[ki,c,f.x+px|f.y+py]by unfold lfP;rw[et]];rfl];exact eZ (PA.keep kt pa4) (.cons (show _=_ by rw[aw (λ z=>by rw[z,hp5]at k5;cases k5)];exact k5) .nil)
  ·rintro σ H4 ⟨⟨v5,v6,v7,v8,v9,v10,v11,v12,v13,v14,rfl⟩,⟨as,hp4,pa4⟩,l4,pu4,b4,s4⟩;rw[ul,J9]at pa4;have:=E3 pa4;have fml:((lvs b t 0 0 w1 h1).filterMap lfP).length<=(lvs b t 0 0 w1 h1).length:=J5 _ _;exact hR _ _ %[%[_,_,_,_,_,_,_,_,_,_|rfl],%[as,hp4,pa4|⋯]|s4]
 rintro _ H3 ⟨⟨v5,v6,v7,v8,v9,v10,v11,v12,v13,v14,rfl⟩,⟨as,hp3,pa3,al⟩,s3⟩;have mem:=PA.mem pa3;have mp:=PA.map pa3;show%[_,O,pl,as,[false,true,false,false],λ a=>rc (cW H3 a),O,G3 hp3,⋯,O,λ a ha=>%[_,G2 (mem a ha)|O]|λ l as' hl pa so=>?_];have s4:=G1 hl (o:=.lst (as'.map V.ref));show q l as' (as'.map (cW H3)) _ (s3.free hl) au (PA.keep (λ a xs e=>s4 _ _ e) (PA.back λ a ha=>mem a (pa.mem_iff.mp ha))) ?_ ?_ (s3.trans s4)
 ·rw[<- mp];exact pa.map _
 ·rw[PJ];exact so
theorem vf{X:Cx}:AH X (λ o i H Q=>∃p xs k x,o=.ref p/\i=.int k/\0<=k/\H p=↥xs/\atI xs k=some x/\Q x H):=by
 intro PR s σ H o i ov iv Q I ro ri h;obtain⟨p,xs,k,x,rfl,rfl,k0,hp,hx,q⟩:=h;cases ro;obtain⟨t,rfl⟩:=ri;obtain⟨its,r,pl,hz⟩:=I.list (G3 hp);obtain⟨j,h1,h2,h3,h4,h5⟩:=ie hx;obtain⟨w,ew,rw'⟩:=r.get h2;have hl:=r.length;have hn:=fN;have hj:k.toNat=j:=by rw[seqIndex_of k0 h5]at h1;exact B8 h1
 exact wpAny_getItem_list pl.isList k0 ⋯ (by rw[hj];simpa using ew) %[x,H,I,rw'|q]
def bI(ps:PP Pce)(n:Nat):Q9:=(List.range n).map λ k=>((ps.filter λ p=>p.k == k).length:Int)
theorem cx(ps:PP Pce)(n:Nat):(bI ps n).length=n:=by unfold bI;rw[G6,List.length_range]
theorem eD{ps:PP Pce}{n k:Nat}(h:k < n):(bI ps n)[k]?=some ((ps.filter λ p=>p.k == k).length:Int):=by unfold bI;rw[J1,List.getElem?_range h];rfl
theorem kx{ps qs:PP Pce}(h:ps.Perm qs)(n:Nat):bI ps n=bI qs n:=by unfold bI;apply List.map_congr_left;intro k _;rw[(h.filter _).length_eq]
theorem vg{ps:PP Pce}{p:Pce}{n:Nat}(h:p.k < n):((bI ps n).map V.int).set p.k (.int (((ps.filter λ q=>q.k == p.k).length:Int)+1))=(bI (ps ++ [p]) n).map V.int:=by
 apply List.ext_getElem?;intro j;rw[List.getElem?_set]
 by_cases hj:j < n
 ·rw[J1,J1,eD hj,eD hj,G6,cx]
  by_cases e:p.k=j
  ·subst e;rw[Pa rfl,Pa h,N1,G8];simp
  ·rw[PZ e,N1,G8];have:([p].filter λ q=>q.k == j)=[]:=by simp[e]
   rw[this];rfl
 ·have h1:((bI ps n).map V.int)[j]?=none:=C9 (by rw[G6,cx];omega);have h2:((bI (ps ++ [p]) n).map V.int)[j]?=none:=C9 (by rw[G6,cx];omega);rw[h1,h2,PZ ⋯]
theorem jk{b:Int}{ks:PP Kd}:∀(t:Tr)(x y w h:Int),okT b ks w h t->∀f∈lvs b t x y w h,∀i c u v,f.t=.piece i c u v->i < ks.length
 | .rest,_,_,_,_,_,f,hf,i,c,u,v,e=>by cases E2.mp hf;cases e
 | .piece ..,_,_,_,_,⟨k,hk,_⟩,f,hf,i,c,u,v,e=>by cases E2.mp hf;cases e;exact(A6.mp hk).1
 | .cut true p l r,x,y,w,h,⟨_,_,hl,hr⟩,f,hf,i,c,u,v,e=>by rw[lvs]at hf;exact(C3.mp hf).elim (λ z=>jk r _ _ _ _ hr f z i c u v e) (λ z=>jk l _ _ _ _ hl f z i c u v e)
 | .cut false p l r,x,y,w,h,⟨_,_,hl,hr⟩,f,hf,i,c,u,v,e=>by rw[lvs]at hf;exact(C3.mp hf).elim (λ z=>jk r _ _ _ _ hr f z i c u v e) (λ z=>jk l _ _ _ _ hl f z i c u v e)
theorem vh{b:Int}{ks:PP Kd}{t:Tr}{w h:Int}(ok:okT b ks w h t){p:Pce}(hp:p∈pcs b t w h):p.k < ks.length:=by
 obtain⟨f,hf,e⟩:=O0.mp hp;rcases dD b t 0 0 w h f hf with et | ⟨i,c,u,v,et⟩
 ·unfold lfP at e;rw[et]at e;cases e
 ·have:=jk t 0 0 w h ok f hf i c u v et;unfold lfP at e;rw[et]at e;cases e;exact this
inductive spCountsO(C:PK)(vs:PP V)(H:Hp)(Q:VK)(E_:XK):Prop
|mk(pp s:PK)(b w h:Int)(ks:PP Kd)(v:V)(d:PyData)(t:Tr)(_:vs=[.ref s,.int w,.int h,v])(_:TrH C pp s b w h ks v d t H)(_:ks.length<=8)(_:∀(l:PK)(H':Hp),H l=none->H' l=↥((bI (pcs b t w h) ks.length).map V.int)->Same H H'->Q (.ref l) H')
inductive spWorthO(C:PK)(vs:PP V)(H:Hp)(Q:VK)(E_:XK):Prop
|mk(pp s:PK)(b w h:Int)(ks:PP Kd)(v:V)(d:PyData)(t:Tr)(_:vs=[.ref s,.int w,.int h,v])(_:TrH C pp s b w h ks v d t H)(_:ks.length<=8)(_:(∀k∈ks,Good k))(_:∀(H':Hp),Same H H'->Q (.int (((bI (pcs b t w h) ks.length).zip ks).map λ z=>z.1 * z.2.wo).sum) H')
theorem sccountso:FnScope Qb Qa (defScope dU):=nofun
theorem oj{f C:PK}{fd:F8}(F:Fun K "counts_of" "counts_of" dU f fd)(B:Blt mg)(T:ShopTxt K C)(MK:Mn P w K mg base C "kinds" QE 1 (gq C))(DP:Dn P w K mg base "pieces_of" Qa 8 (spPieces C)):FnOk P w K mg base CX0 9 f fd Qa (spCountsO C):=by
 exists sccountso;obtain⟨pp,s,b,w1,h1,ks,v,d,t,rfl,th,k8,q⟩:=h;show%[_,((4∣(DP∪('0'^^^('1'^^^('2'^^^('3'^^^ad))))))<<<((gj (i:=5) (own:=QD) (cs:=[]) (cap:=[]) O nd O O O (bU (ef '0' T.cl MK (hr.mono ∅))) (bj (sc:=defScope dU) (N:=Qb) O O ∅) (λ _ _ _ _ _=>ai (i:=0) (by change List.Nodup (QD:PP Str) ;decide +kernel) O (Or.inl O) (Or.inr O)) (λ _ _ _ _ _=>bW) (λ _ _ _ _ _=>af))<<<((@cP _ _ _ _ _ _ _ _ E4 O (bU '4') (bf O (6•(7•(8•(9•aQ))))) (@ag _ _ _ (wE '5' '6' vf af yY eU)) (by intro _;rfl))<<<('5'⁻¹))))|?_];dsimp only[bF];have sz:(40000:Nat)<=sizeLine:=∅
 show bn (λ σ' H'=>∃pl as ps,σ'=[↑s,⇑w1,⇑h1,some v,↑pl,none,none,none,none,none]/\H' pl=↥(as.map V.ref)/\Paired (PA H') as ps/\ps.Perm (pcs b t w1 h1)/\Same H H') (λ R hR=>?_) ?_
 ·exact%[_,O,_,O,_,O,_,O,pp,s,b,w1,h1,ks,v,d,t,O,th|λ l as ps H1 hl l1 pa pe so s1=>hR _ _ %[l,as,ps,O,l1,pa,pe|s1]]
 rintro _ H1 ⟨pl,as,ps,rfl,hp1,pa1,pe,s1⟩;have th1:=th.same s1;show bn (λ σ' H'=>∃cl,σ'=[↑s,⇑w1,⇑h1,some v,↑pl,↑cl,none,none,none,none]/\H1 cl=none/\H' cl=↥((bI [] ks.length).map V.int)/\Same H1 H') (λ R hR=>?_) ?_
 ·obtain⟨dx,r,rs,S1,S2,S3⟩:=id th1.sh;show%[_,O,s,dx,_,O,S1,(cX _ _ ∅ ∅),s,b,ks,O,th1.sh|λ l rs' hl tp=>?_];show aK hl λ H2 k2 s2=>?_;have tl:=E3 tp;show%[l,O,%[_|G3 k2]|(bY (K:=K) (.inl k2) (λ i ys Hx=>Same H2 Hx/\ys=List.replicate i (.int 0)) (λ i ys Hx _ ⟨sx,_⟩ o e=>sx _ _ e) %[Same.refl _|O] ?_ ?_).1 k2]
  ·rintro i x ys Hx hi ⟨sx,rfl⟩;have hin:i < rs'.length:=(A6.mp hi).1;show%[by rw[M3];omega,leS.set rfl|bX ?_];change Nx rs'.length (λ i ys Hx=>Same H2 Hx/\ys=List.replicate i (V.int 0)) i (List.replicate i (V.int 0) ++ [.int 0]) Hx;show Nx.of hin ?_;exact%[sx|(List.replicate_succ' ..).symm]
  ·rintro ys Hx ⟨sx,rfl⟩;show%[by rw[M3];omega|λ cl hcl=>hR _ _ %[cl,O,(s2.trans sx).free hcl,?_|(s2.trans sx).trans (G1 hcl)]];rw[au];congr 2;rw[tl];unfold bI;apply List.ext_getElem
   ·simp
   ·intro j h1 h2;simp
 rintro _ H2 ⟨cl,rfl,hcl,hc2,s2⟩;have fc:H cl=none:=s1.free hcl;have npc:pl≠cl:=λ z=>by rw[<- z,hp1]at hcl;cases hcl
 have pal:=E3 pa1;have pa2:Paired (PA H2) as ps:=PA.keep (λ a xs e=>s2 _ _ e) pa1;have hp2:=s2 _ _ hp1;show bn (λ σ' H'=>(∃v6 v7 v8 v9,σ'=[↑s,⇑w1,⇑h1,some v,↑pl,↑cl,v6,v7,v8,v9])/\H' cl=↥((bI ps ks.length).map V.int)/\Same H H') (λ R hR=>?_) ?_
 ·show%[_,O,pl,O,%[_|G3 hp2]|dq (xs:=as.map V.ref) (λ i σ' H'=>(∃v6 v7 v8 v9,σ'=[↑s,⇑w1,⇑h1,some v,↑pl,↑cl,v6,v7,v8,v9])/\H' cl=↥((bI (ps.take i) ks.length).map V.int)/\H' pl=↥(as.map V.ref)/\Paired (PA H') as ps/\Same H H') %[%[_,_,_,_|O],hc2,hp2,pa2|s1.trans s2] (λ i σ H' _ h=>G3 h.2.2.1) ?_ ?_]
  ·rintro i x σ H3 hi ⟨⟨v6,v7,v8,v9,rfl⟩,hc3,hp3,pa3,s3⟩;rw[J1]at hi;obtain⟨a,ha,rfl⟩:=K5.mp hi;obtain⟨p,hpi,pA⟩:=G5 pa3 ha;have hk:=vh th.ok (pe.mem_iff.mp (B5 hpi));have pA:H3 a= ~~~[.int p.k,.bl p.c,.int p.x,.int p.y]:=pA;show%[a,_,O,G2 pA,O,_,_,O,_,_,O,_,_,O,_,_,O,O|?_];have hat:atI ((bI (ps.take i) ks.length).map V.int) (p.k:Int)=⇑(((ps.take i).filter λ q=>q.k == p.k).length:Int):=bq ⋯ (by rw[K2,J1,eD hk];rfl);have hix:ixN ((bI (ps.take i) ks.length).map V.int).length (p.k:Int)=some p.k:=by unfold ixN;rw[Pa ⋯,G6,cx,Pa ⋯,K2]
   show%[_,O,_,O,cl,_,_,_,O,O,⋯,hc3,hat,_,_,O,O,cl,_,_,p.k,O,O,hc3,hix|?_];have kt:∀(o:HO)(a:PK)(xs:PP V),H3 a= ~~~xs->(upd H3 cl o) a= ~~~xs:=λ o a xs e=>by rw[aw (λ z=>by rw[z,hc3]at e;cases e)];exact e
   show%[%[_,_,_,_|O],?_,by rw[aw npc];exact hp3,PA.keep (kt _) pa3|λ c o e=>by rw[aw (λ z=>by rw[z,fc]at e;cases e)];exact s3 _ _ e];rw[au,vg hk,J4,hpi];rfl
  ·rintro σ H3 ⟨⟨v6,v7,v8,v9,rfl⟩,hc3,hp3,pa3,s3⟩;rw[G6,pal,J9]at hc3;exact hR _ _ %[%[_,_,_,_|rfl],hc3|s3]
 rintro _ H3 ⟨⟨v6,v7,v8,v9,rfl⟩,hc3,s3⟩;rw[kx pe]at hc3;exact%[_,O|q cl H3 fc hc3 s3]
theorem fF{a b c:St}(h1:leS a b)(h2:leS b c):leS a c:=%[h2.1.trans h1.1|λ i v e=>h2.2 i v (h1.2 i v e)]
theorem xK{X:Cx}(K:C5){x y z u t:Str}{px py pz pu pt pos:Pos}{k:Nat}(hK:X.K=K)(hc:X.calm=true)(hN:X.N.Nodup)(h0:X.N[0]?=some x)(h1:X.N[1]?=some y)(h2:X.N[2]?=some z)(h3:X.N[3]?=some u)(h4:X.N[4]?=some t)(l0:X.env.scope.names.lookup x=some .local)(l1:X.env.scope.names.lookup y=some .local)(l2:X.env.scope.names.lookup z=some .local)(l3:X.env.scope.names.lookup u=some .local)(l4:X.env.scope.names.lookup t=some .local) :
  PG X (.Tuple [.Name x px,.Name y py,.Name z pz,.Name u pu,.Name t pt] k pos) (gTup K 5 (gCons (cB 0) (gCons (cB 1) (gCons (cB 2) (gCons (cB 3) (gCons (cB 4) mV)))))) :=
 hK ▸ bf hc (ah (ai hN h0 (.inl l0) (.inr l0)) (ah (ai hN h1 (.inl l1) (.inr l1)) (ah (ai hN h2 (.inl l2) (.inr l2)) (ah (ai hN h3 (.inl l3) (.inr l3)) (ah (ai hN h4 (.inl l4) (.inr l4)) aQ)))))
structure Rst where
 x:Int
 y:Int
 w:Int
 h:Int
def LP(p:Rst):PP V:=[.int p.x,.int p.y,.int p.w,.int p.h]
def fb(p:Rst):Q9:=[p.x,p.y,p.w,p.h]
def lfR(f:Lf):PM Rst:=match f.t with
 | .rest=>some %[f.x,f.y,f.w|f.h]
 | _=>none
def jl(b:Int)(t:Tr)(w h:Int):PP Rst:=(lvs b t 0 0 w h).filterMap lfR
def RA(H:Hp)(a:PK)(p:Rst):Prop:=H a= ~~~(LP p)
def dE(H:Hp)(a:PK):Rst:=match H a with
 | some (.tup [.int k,.int c,.int x,.int y])=>%[k,c,x|y]
 | _=>%[0,0,0|0]
theorem RA.of{H:Hp}{a:PK}{p:Rst}(h:RA H a p):dE H a=p:=by unfold dE;rw[show H a= ~~~[.int p.x,.int p.y,.int p.w,.int p.h]from h]
theorem RA.map{H:Hp}:∀{as:PP PK}{ps:PP Rst},Paired (RA H) as ps->as.map (dE H)=ps
 | _,_,.nil=>rfl
 | _,_,.cons h r=>by rw[J3,h.of,RA.map r]
theorem RA.mem{H:Hp}:∀{as:PP PK}{ps:PP Rst},Paired (RA H) as ps->∀a∈as,RA H a (dE H a)
 | _,_,.nil,a,h=>by cases h
 | _,_,.cons h r,a,hm=>by
  rcases G7.mp hm with e | e
  ·subst e;rw[h.of];exact h
  ·exact RA.mem r a e
theorem RA.back{H:Hp}:∀{as:PP PK},(∀a∈as,RA H a (dE H a))->Paired (RA H) as (as.map (dE H))
 | [],_=>.nil
 | a :: as,h=>.cons (h a B7) (RA.back λ b hb=>h b (B4 _ hb))
theorem RA.keep{H H':Hp}(k:∀a xs,H a= ~~~xs->H' a= ~~~xs){as:PP PK}{ps:PP Rst}(h:Paired (RA H) as ps):Paired (RA H') as ps:=G4 h λ a p e=>k _ _ e
inductive spRests(C:PK)(vs:PP V)(H:Hp)(Q:VK)(E_:XK):Prop
|mk(pp s:PK)(b w h:Int)(ks:PP Kd)(v:V)(d:PyData)(t:Tr)(_:vs=[.ref s,.int w,.int h,v])(_:TrH C pp s b w h ks v d t H)(_:∀(l:PK)(as:PP PK)(ps:PP Rst)(H':Hp),H l=none->H' l=↥(as.map V.ref)->Paired (RA H') as ps->ps.Perm (jl b t w h)->(ps.map fb).Pairwise (λ x y=>cu y x=false)->Same H H'->Q (.ref l) H')
theorem scrests:FnScope Qc Qa (defScope dC):=nofun
theorem vi{f C wa:PK}{fd:F8}(F:Fun K "rests_of" "rests_of" dC f fd)(B:Blt mg)(Z:TrC K mg wa)(DC:Dn P w K mg base "check_tree" QN 7 (spCheckT C))(DL:Dn P w K mg base "leaves_of" Qa 3 (spLeaves C)):FnOk P w K mg base CX0 8 f fd Qa (spRests C):=by
 exists scrests;obtain⟨pp,s,b,w1,h1,ks,v,d,t,rfl,th,q⟩:=h;obtain⟨trs,hrs⟩:=Z.rs;show%[_,((@be _ _ _ _ (DC∪('0'^^^('1'^^^('2'^^^('3'^^^ad))))) O)<<<((4∣(DL∩('0'^^^('1'^^^('2'^^^('3'^^^ad))))))<<<((@aD _ _ _ _ _ _ _ _ _ cZ O B.sorted Pm ((cz (own:=Qd) (cs:=[]) (cap:=[]) O (bU '4') (bj (sc:=defScope dC) (N:=Qc) O O ∅) (λ _ _ _ _ _=>xK K O O (by change List.Nodup (Qd:PP Str) ;decide +kernel) O O O O O O O O O O) (λ _ _ _ _ _=>(eW ((aA (r:=rIx K) dw '4' af (λ _ _=>O))<*>bC<*>(ce (v:=.str "rest") O hrs %[trs|O])))) (λ _ _ _ _ _=>(@aI _ _ _ _ _ ('0'^^^('1'^^^('2'^^^('3'^^^ad)))))))^^^ad) ∅ ∅ O O)⁻¹)))|?_];dsimp only[bF];have sz:(40000:Nat)<=sizeLine:=∅
 obtain⟨m1,m2⟩:=TrD.many (b:=b) t d 0 0 w1 h1 th.td;have wd:=th.wd;have ln:=th.ln;show%[_,O,_,O,_,O,_,O,pp,s,b,w1,h1,ks,v,d,O,th.sh,th.w1,th.h1,th.dt,⋯,TrD.good t d w1 h1 th.td th.ok|λ H1 s1=>?_];have th1:=th.same s1;show bn (λ σ' H'=>σ'=[↑s,⇑w1,⇑h1,some v,none]/\H1=H') (λ R hR=>hR _ _ %[rfl|rfl]) ?_;rintro _ _ ⟨rfl,rfl⟩;show bn (λ σ' H'=>∃ll us,σ'=[↑s,⇑w1,⇑h1,some v,↑ll]/\H' ll=↥us/\Paired (LfAt pp H1 H') us (lvs b t 0 0 w1 h1)/\Same H1 H') (λ R hR=>?_) ?_
 ·exact%[_,O,_,O,_,O,_,O,pp,s,b,w1,h1,ks,v,d,t,O,th1.sh,th1.dt,th1.td,⋯|λ ll us H3 hll l3 pu s23=>hR _ _ %[ll,us,O,l3,pu|s23]]
 rintro _ H2 ⟨ll,us,rfl,l2,pu,s2⟩;have ul:=E3 pu;have s02:=s1.trans s2;show%[_,O,ll,O,%[_|G3 l2]|(bY (K:=K) (.inl l2) (λ i ys Hx=>Same H2 Hx/\∃as,ys=as.map V.ref/\Paired (RA Hx) as (((lvs b t 0 0 w1 h1).take i).filterMap lfR)) (λ i ys Hx _ ⟨sx,_⟩ o e=>sx _ _ e) %[Same.refl _,[],O|.nil] ?_ ?_).1 l2]
 ·rintro i x ys Hx hi ⟨sx,as,rfl,px⟩;have hin:i < us.length:=(A6.mp hi).1;obtain⟨f,hf,a,u,du,rfl,ha,hdu,tdu⟩:=G5 pu hi;have yl:=E3 px;have fml:(((lvs b t 0 0 w1 h1).take i).filterMap lfR).length<=i:=C6 (J5 _ _) (by rw[J2];omega);have tk:(lvs b t 0 0 w1 h1).take (i+1)=(lvs b t 0 0 w1 h1).take i ++ [f]:=by rw[J4,hf];rfl
  have hdx:Dt pp Hx u du:=hdu.same (s2.trans sx);show%[by rw[G6];omega,a,_,O,G2 (sx _ _ ha),O,_,_,O,_,_,O,_,_,O,_,_,O,_,_,O,O,fF (fF (fF (fF (leS.set rfl) (leS.set rfl)) (leS.set rfl)) (leS.set rfl)) (leS.set rfl)|?_];rcases dD b t 0 0 w1 h1 f (B5 hf)with et | ⟨ki,c,px',py',et⟩
  ·rw[et]at tdu;obtain⟨a',xs,rfl,hx,dxs⟩:=hdx.ref_row (show aZ du=some [.str "rest"]from tdu);cases dxs with
   | cons hd0 dxs=>
   cases hd0;cases dxs;show%[_,O|ixR (Same.refl _) hx (bq (E5 _) rfl) %[O,_,O|?_]];show aU %[_,rfl,_,rfl,_,rfl,_,rfl,zS4|λ tp htp=>Nx.of hin %[sx.trans (G1 htp),as ++ [tp],by rw[J7];rfl|?_]];rw[tk,N0,show[f].filterMap lfR=[%[f.x,f.y,f.w|f.h]]by rw[K7,show lfR f=some %[f.x,f.y,f.w|f.h]by unfold lfR;rw[et]];rfl];exact eZ (RA.keep (λ a xs e=>G1 htp _ _ e) px) (.cons au .nil)
  ·rw[et]at tdu;obtain⟨a',xs,rfl,hx,dxs⟩:=hdx.ref_row (show aZ du=some [.str "piece",.int ki,.bool c,.int px',.int py']from tdu);cases dxs with
   | cons hd0 dxs=>
   cases hd0;show%[_,O|ixR (Same.refl _) hx (bq (E5 _) rfl) %[O,_,O|?_]];show aT (Nx.of hin %[sx,as,rfl|?_]);rw[tk,N0,show[f].filterMap lfR=[]by rw[K7,show lfR f=none by unfold lfR;rw[et]];rfl,K0];exact px
 ·rintro ys Hx ⟨sx,as,rfl,px⟩;have yl:=E3 px;rw[ul,J9]at px yl;have fml:((lvs b t 0 0 w1 h1).filterMap lfR).length<=(lvs b t 0 0 w1 h1).length:=J5 _ _;show%[by rw[G6];omega|λ cl hcl=>?_];show aK hcl λ H4 k4 s4=>?_;have pa4:Paired (RA H4) as ((lvs b t 0 0 w1 h1).filterMap lfR):=RA.keep (λ a xs e=>s4 _ _ e) px;have mem:=RA.mem pa4;have mp:=RA.map pa4;show%[cl,as,[false,false,false,false],λ a=>fb (dE H4 a),O,G3 k4,⋯,O,λ a ha=>%[_,G2 (mem a ha)|O]|λ l as' hl pa so=>?_];have s5:=G1 hl (o:=.lst (as'.map V.ref));have s05:=(s02.trans sx).trans s4;show q l as' (as'.map (dE H4)) _ (s05.free hl) au (RA.keep (λ a xs e=>s5 _ _ e) (RA.back λ a ha=>mem a (pa.mem_iff.mp ha))) ?_ ?_ (s05.trans s5)
  ·rw[show jl b t w1 h1=as.map (dE H4)from mp.symm];exact pa.map _
  ·rw[PJ];exact so
theorem screstsR:FnScope Qc Qa (defScope dC):=nofun
theorem rf{f C NP NT:PK}{fd:F8}(F:Fun K "rests_of" "rests_of" dC f fd)(DC:DnX P w K mg base "check_tree" QN 7 (spRef K C NP NT)):FnOk P w K mg base (CXx P w) 8 f fd Qa (spRef K C NP NT):=by
 show F.okX screstsR (λ vs H Q E h=>?_) (λ cdv A outer s H vs Q E hr h=>?_)
 ·obtain⟨_,_,_,_,rfl⟩:=h.four
  rfl
 obtain⟨v1,v2,v3,v4,rfl⟩:=h.four;have nd:=screstsR.nd;show%[_,((@be _ _ _ _ (fu (iU DC hr O ('0'^^^('1'^^^('2'^^^('3'^^^ad)))))) O)<<<(aP>>>aP))|?_];show bn (λ σ' H'=>False) (λ R hR=>?_) (λ _ _ z=>z.elim);exact%[_,O,_,O,_,O,_,O|h.to]
abbrev dF:Stmt:=inClass (top 39) 0
abbrev bH:Stmt:=inClass (top 39) 1
abbrev dj:Stmt:=inClass (top 39) 2
abbrev bZ:Stmt:=inClass (top 39) 3
abbrev bG:Stmt:=inClass (top 39) 4
abbrev di:Stmt:=inClass (top 39) 5
abbrev eE:Stmt:=inClass (top 39) 6
abbrev cH:Stmt:=inClass (top 39) 7
abbrev eF:Stmt:=inClass (top 39) 8
structure Stn where
 pl:PP (Int×Int×Int)
 nu:Int
 md:Q9
 pu:Int
def PlA(H:Hp)(v:V)(q:Int×Int×Int):Prop:=∃a,v=.ref a/\H a= ~~~[.int q.1,.int q.2.1,.int q.2.2]
theorem PlA.keep{H H':Hp}(k:∀a xs,H a= ~~~xs->H' a= ~~~xs){v:V}{q:Int×Int×Int}(h:PlA H v q):PlA H' v q:=h.imp λ _ %[e|h]=>%[e|k _ _ h]
inductive StnA(H:Hp):V->Stn->Prop
|mk{a b c:PK}{rs:PP V}{g:Stn}(h:H a= ~~~[.ref b,.int g.nu,.ref c,.int g.pu])(hb:H b= ~~~rs)(pr:Paired (PlA H) rs g.pl)(hc:H c= ~~~(g.md.map V.int)):StnA H (.ref a) g
theorem StnA.keep{H H':Hp}(k:∀a xs,H a= ~~~xs->H' a= ~~~xs){v:V}{g:Stn}(h:StnA H v g):StnA H' v g:=by
 cases h with
 | mk h hb pr hc=>exact .mk (k _ _ h) (k _ _ hb) (G4 pr λ v q h=>h.keep k) (k _ _ hc)
theorem vj:¬ (("past" : Str) = "standing")/\¬ (("past" : Str) = "least")/\¬ (("past" : Str) = "shop")/\¬ (("standing" : Str) = "past")/\¬ (("standing" : Str) = "least")/\¬ (("standing" : Str) = "shop")/\¬ (("least" : Str) = "past")/\¬ (("least" : Str) = "standing")/\¬ (("least" : Str) = "shop")/\¬ (("shop" : Str) = "past")/\¬ (("shop" : Str) = "standing")/\¬ (("shop" : Str) = "least"):=∅
def sfl(sh:PK)(le:Int)(sg:V)(pa:PK):PP (Str×V):=[("shop",.ref sh),("least",.int le),("standing",sg),("past",.ref pa)]
theorem gP(sh:PK)(le:Int)(sg:V)(pa:PK):bN "past" (.ref pa) (bN "standing" sg (bN "least" (.int le) (bN "shop" (.ref sh) [])))=sfl sh le sg pa:=by obtain⟨h1,h2,h3,h4,h5,h6,h7,h8,h9,h10,h11,h12⟩:=vj;simp only[bN,h9,h10,h11,h12,h7,h8,h4,h5,h6,Pn,sfl]
theorem pP(sh:PK)(le:Int)(sg v:V)(pa:PK):bN "standing" v (sfl sh le sg pa)=sfl sh le v pa:=by obtain⟨h1,h2,h3,h4,h5,h6,h7,h8,h9,h10,h11,h12⟩:=vj;simp only[bN,sfl,h11,h8,Pn,P4]
section
variable(sh:PK)(le:Int)(sg:V)(pa:PK)
theorem fe:(sfl sh le sg pa).lookup ("shop" : Str)=↑sh:=by rw[<- gP];obtain⟨h1,h2,h3,h4,h5,h6,h7,h8,h9,h10,h11,h12⟩:=vj;simp only[br,h10,h11,h12,Pn,P4]
theorem rg:(sfl sh le sg pa).lookup ("least" : Str)=⇑le:=by rw[<- gP];obtain⟨h1,h2,h3,h4,h5,h6,h7,h8,h9,h10,h11,h12⟩:=vj;simp only[br,h7,h8,Pn,P4]
theorem bM:(sfl sh le sg pa).lookup ("standing" : Str)=some sg:=by rw[<- gP];obtain⟨h1,h2,h3,h4,h5,h6,h7,h8,h9,h10,h11,h12⟩:=vj;simp only[br,h4,Pn,P4]
theorem jm:(sfl sh le sg pa).lookup ("past" : Str)=↑pa:=by rw[<- gP];simp only[br,P4]
theorem cM{m:Str}(h1:¬ m = "past")(h2:¬ m = "standing")(h3:¬ m = "least")(h4:¬ m = "shop"):(sfl sh le sg pa).lookup m=none:=by rw[<- gP];simp only[br,h1,h2,h3,h4,Pn];rfl
end
inductive StoreAt(CS C:PK)(H:Hp)(s sh:PK)(b:Int)(ks:PP Kd)(le:Int)(g:Stn)(gs:PP Stn)(pa:PK):Prop
|mk{dx:PK}{sg:V}{ps:PP V}(h:H s=some (.ins CS dx (sfl sh le sg pa)))(sp:ShopAt C H sh b ks)(st:StnA H sg g)(hp:H pa=↥ps)(pr:Paired (StnA H) ps gs)
def FrS(s pa:PK)(H H':Hp):Prop:=∀c o,c≠s->c≠pa->H c=some o->H' c=some o
theorem FrS.trans{s pa:PK}{H H' H'':Hp}(a:FrS s pa H H')(b:FrS s pa H' H''):FrS s pa H H'':=λ c o n1 n2 e=>b c o n1 n2 (a c o n1 n2 e)
theorem Same.frS{s pa:PK}{H H':Hp}(x:Same H H'):FrS s pa H H':=λ _ _ _ _ e=>x _ _ e
theorem xL{CS C s sh dx pa:PK}{H:Hp}{b le:Int}{ks:PP Kd}{sg:V}(h:H s=some (.ins CS dx (sfl sh le sg pa)))(x:ShopAt C H sh b ks):sh≠s:=λ z=>by obtain⟨dx',r,rs,h1,_⟩:=x;rw[z,h]at h1;have e:=HO.ins.inj (B8 h1);have:=Pw (List.lookup ("shop" : Str)) e.2.2;rw[fe,cX _ _ ∅ ∅]at this;cases this
theorem FrS.tup{CS C s sh pa:PK}{H H':Hp}{b le:Int}{ks:PP Kd}{g:Stn}{gs:PP Stn}(x:StoreAt CS C H s sh b ks le g gs pa)(f:FrS s pa H H'):∀a xs,H a= ~~~xs->H' a= ~~~xs:=λ a xs e=>by
 cases x with
 | mk h sp st hp pr=>exact f _ _ (λ z=>by rw[z,h]at e;cases e) (λ z=>by rw[z,hp]at e;cases e) e
theorem FrS.shop{CS C s sh pa:PK}{H H':Hp}{b le:Int}{ks:PP Kd}{g:Stn}{gs:PP Stn}(x:StoreAt CS C H s sh b ks le g gs pa)(f:FrS s pa H H'):ShopAt C H' sh b ks:=by
 have t:=FrS.tup x f;cases x with
 | mk h sp st hp pr=>
  have ne:=xL h sp;obtain⟨dx',r,rs,h1,h2,h3⟩:=sp;exact⟨dx',r,rs,f _ _ ne (λ z=>by rw[z,hp]at h1;cases h1) h1,t _ _ h2,Tups.keep t h3⟩
theorem StoreAt.same{CS C s sh pa:PK}{H H':Hp}{b le:Int}{ks:PP Kd}{g:Stn}{gs:PP Stn}(x:StoreAt CS C H s sh b ks le g gs pa)(k:Same H H'):StoreAt CS C H' s sh b ks le g gs pa:=by
 cases x with
 | mk h sp st hp pr=>exact .mk (k _ _ h) (jg k sp) (st.keep λ _ _ e=>k _ _ e) (k _ _ hp) (G4 pr λ v q h=>h.keep λ _ _ e=>k _ _ e)
theorem StoreAt.look{CS C s sh pa:PK}{H:Hp}{b le:Int}{ks:PP Kd}{g:Stn}{gs:PP Stn}(x:StoreAt CS C H s sh b ks le g gs pa):∃dx sg ps,H s=some (.ins CS dx (sfl sh le sg pa))/\ShopAt C H sh b ks/\StnA H sg g/\H pa=↥ps/\Paired (StnA H) ps gs:=by
 cases x with
 | mk h sp st hp pr=>exact%[_,_,_,h,sp,st,hp|pr]
structure StoreTxt(K:C5)(CS:PK):Prop where
 cl:Cls K CS
 n1:NoAttr K CS "shop"
 n2:NoAttr K CS "least"
 n3:NoAttr K CS "standing"
 n4:NoAttr K CS "past"
theorem Paired.snoc{α β:Type}{R:α->β->Prop}{xs:PP α}{ys:PP β}{x:α}{y:β}(h:Paired R xs ys)(r:R x y):Paired R (xs ++ [x]) (ys ++ [y]):=eZ h (.cons r .nil)
inductive spSInit(CS C:PK)(vs:PP V)(H:Hp)(Q:VK)(E_:XK):Prop
|mk(s dx sh:PK)(b le:Int)(ks:PP Kd)(_:vs=[.ref s,.ref sh,.int le])(_:H s=some (.ins CS dx []))(_:ShopAt C H sh b ks)(_:ks.length<=8)(_:1<=le)(_:∀(pa:PK)(H':Hp),H pa=none->StoreAt CS C H' s sh b ks le ⟨[],0,List.replicate ks.length 0,0⟩ [] pa->(∀c o,c≠s->H c=some o->H' c=some o)->Q .non H')
inductive spRepl(CS C:PK)(vs:PP V)(H:Hp)(Q:VK)(E_:XK):Prop
|mk(s sh pa:PK)(b le:Int)(ks:PP Kd)(g g':Stn)(gs:PP Stn)(v:V)(_:vs=[.ref s,v])(_:StoreAt CS C H s sh b ks le g gs pa)(_:gs.length<=1000)(_:StnA H v g')(_:∀H',StoreAt CS C H' s sh b ks le g' (gs ++ [g]) pa->FrS s pa H H'->Q .non H')
inductive spPut(CS C:PK)(vs:PP V)(H:Hp)(Q:VK)(E_:XK):Prop
|mk(s sh pa:PK)(b le w h:Int)(ks:PP Kd)(g:Stn)(gs:PP Stn)(_:vs=[.ref s,.int w,.int h])(_:StoreAt CS C H s sh b ks le g gs pa)(_:gs.length<=1000)(_:g.pl.length<=10000)(_:1<=w)(_:w<=10 ^ 60)(_:1<=h)(_:h<=10 ^ 60)(_:∀H',StoreAt CS C H' s sh b ks le ⟨g.pl ++ [(g.nu,w,h)],g.nu+1,g.md,g.pu+w * h⟩ (gs ++ [g]) pa->FrS s pa H H'->Q (.int g.nu) H')
inductive spPlates(CS C:PK)(vs:PP V)(H:Hp)(Q:VK)(E_:XK):Prop
|mk(s sh pa:PK)(b le:Int)(ks:PP Kd)(g:Stn)(gs:PP Stn)(_:vs=[.ref s])(_:StoreAt CS C H s sh b ks le g gs pa)(_:∀(l:PK)(rs:PP V)(H':Hp),H l=none->H' l=↥rs->Paired (PlA H') rs g.pl->Same H H'->Q (.ref l) H')
inductive spMade(CS C:PK)(vs:PP V)(H:Hp)(Q:VK)(E_:XK):Prop
|mk(s sh pa:PK)(b le:Int)(ks:PP Kd)(g:Stn)(gs:PP Stn)(_:vs=[.ref s])(_:StoreAt CS C H s sh b ks le g gs pa)(_:∀(l:PK)(H':Hp),H l=none->H' l=↥(g.md.map V.int)->Same H H'->Q (.ref l) H')
inductive spUndo(CS C:PK)(vs:PP V)(H:Hp)(Q:VK)(E_:XK):Prop
|mk(s sh pa:PK)(b le:Int)(ks:PP Kd)(g:Stn)(gs:PP Stn)(_:vs=[.ref s])(_:StoreAt CS C H s sh b ks le g gs pa)(_:gs.length<=1001)(_:(gs=[]->Q (.bl false) H))(_:∀gs' g' H',gs=gs' ++ [g']->StoreAt CS C H' s sh b ks le g' gs' pa->FrS s pa H H'->Q (.bl true) H')
inductive spPlOf(CS C:PK)(vs:PP V)(H:Hp)(Q:VK)(E_:XK):Prop
|mk(s sh pa:PK)(b le:Int)(ks:PP Kd)(g:Stn)(gs:PP Stn)(i:Nat)(q:Int×Int×Int)(_:vs=[.ref s,.int q.1])(_:StoreAt CS C H s sh b ks le g gs pa)(_:0<=q.1)(_:g.pl[i]?=some q)(_:(∀j q',j < i->g.pl[j]?=some q'->q'.1≠q.1))(_:∀a,H a= ~~~[.int q.1,.int q.2.1,.int q.2.2]->Q (.ref a) H)
theorem screpl:FnScope Qe Qe (defScope bH):=nofun
theorem xM{f C CS:PK}{fd:F8}(F:Fun K "replace_standing" "Store.replace_standing" bH f fd)(TS:StoreTxt K CS):FnOk P w K mg base CX0 1 f fd Qe (spRepl CS C):=by
 show F.ok screpl (λ vs H Q E h=>?_) (λ cdv A outer s0 H vs Q E hr h=>?_)
 ·obtain⟨s,sh,pa,b,le,ks,g,g',gs,v,rfl,_⟩:=h
  rfl
 obtain⟨s,sh,pa,b,le,ks,g,g',gs,v,rfl,x,g1000,st',q⟩:=h;have nd:=screpl.nd;show%[_,((@be _ _ _ _ (@dB _ _ _ _ _ _ _ _ _ _ _ _ F5 PySem.F.slot_list_append PySem.F.type_list_append bE (bO '0' O) ((bO '0' O)^^^ad) O O O O O) O)>>>(eR '0' '1' O))|?_];dsimp only[bF];obtain⟨dx,sg,ps,hs,sp,st,hp,pr⟩:=x.look;have nps:pa≠s:=λ z=>by rw[z,hs]at hp;cases hp
 have pl:=E3 pr;have z2:(2000:Nat) < sizeLine:=∅
 show ar (λ R=>∀(H':Hp),H' pa=↥(ps ++ [sg])->(∀c o,c≠pa->H c=some o->H' c=some o)->R [↑s,some v] H') (λ Dd hR=>?_) ?_
 ·show%[_,O,s,CS,dx,_,_,O,hs,TS.cl,TS.n4,jm _ _ _ _,.inl %[O,_|G3 hp],_,O,s,CS,dx,_,_,O,hs,TS.cl,TS.n3,bM _ _ _ _,pa,_,_,O,O,hp,(by rw[pl];omega)|?_];exact hR _ au (λ c o n e=>by rw[aw n];exact e)
 rintro H1 hp1 k1;have hs1:=k1 _ _ (Ne.symm nps) hs;have kt:∀a xs,H a= ~~~xs->H1 a= ~~~xs:=λ a xs e=>k1 _ _ (λ z=>by rw[z,hp]at e;cases e) e;show%[_,O,_,O,s,CS,dx,_,O,hs1,TS.cl,TS.n3,(by change 4 < 1000;decide)|?_];rw[pP];have kt2:∀a xs,H a= ~~~xs->(upd H1 s (.ins CS dx (sfl sh le v pa))) a= ~~~xs:=λ a xs e=>by have e1:=kt _ _ e;rw[aw (λ z=>by rw[z,hs1]at e1;cases e1)];exact e1
 have fr:FrS s pa H (upd H1 s (.ins CS dx (sfl sh le v pa))):=λ c o n1 n2 e=>by rw[aw n1];exact k1 _ _ n2 e
 exact q _ (.mk au (FrS.shop x fr) (st'.keep kt2) (by rw[aw nps];exact hp1) (Paired.snoc (G4 pr λ v q h=>h.keep kt2) (st.keep kt2))) fr
theorem scplates:FnScope QE QE (defScope di):=nofun
theorem rh{f C CS:PK}{fd:F8}(F:Fun K "plates" "Store.plates" di f fd)(B:Blt mg)(TS:StoreTxt K CS):FnOk P w K mg base CX0 1 f fd QE (spPlates CS C):=by
 show F.ok scplates (λ vs H Q E h=>?_) (λ cdv A outer s0 H vs Q E hr h=>?_)
 ·obtain⟨s,sh,pa,b,le,ks,g,gs,rfl,_⟩:=h
  rfl
 obtain⟨s,sh,pa,b,le,ks,g,gs,rfl,x,q⟩:=h;have nd:=scplates.nd;show%[_,((@bg _ _ _ _ _ _ _ _ _ cI O B.list Pk (((bO '0' O)&&&ix_tup&&&af)^^^ad) ∅ ∅ O O)⁻¹)|?_];dsimp only[bF];obtain⟨dx,sg,ps,hs,sp,st,hp,pr⟩:=x.look;cases st with
 | mk ha hb pr' hc=>
  show%[_,O,s,CS,dx,_,_,O,hs,TS.cl,TS.n3,bM _ _ _ _,_,_,0,_,O,O,G2 ha,O,_,_,O,.inr (G2 hb)|λ l hl=>?_];exact q l _ _ hl au (G4 pr' λ v q h=>h.keep λ _ _ e=>G1 hl _ _ e) (G1 hl)
theorem scmade:FnScope QE QE (defScope eE):=nofun
theorem xN{f C CS:PK}{fd:F8}(F:Fun K "made" "Store.made" eE f fd)(B:Blt mg)(TS:StoreTxt K CS):FnOk P w K mg base CX0 1 f fd QE (spMade CS C):=by
 show F.ok scmade (λ vs H Q E h=>?_) (λ cdv A outer s0 H vs Q E hr h=>?_)
 ·obtain⟨s,sh,pa,b,le,ks,g,gs,rfl,_⟩:=h
  rfl
 obtain⟨s,sh,pa,b,le,ks,g,gs,rfl,x,q⟩:=h;have nd:=scmade.nd;show%[_,((@bg _ _ _ _ _ _ _ _ _ cI O B.list Pk (((bO '0' O)&&&ix_tup&&&af)^^^ad) ∅ ∅ O O)⁻¹)|?_];dsimp only[bF];obtain⟨dx,sg,ps,hs,sp,st,hp,pr⟩:=x.look;cases st with
 | mk ha hb pr' hc=>
  show%[_,O,s,CS,dx,_,_,O,hs,TS.cl,TS.n3,bM _ _ _ _,_,_,2,_,O,O,G2 ha,O,_,_,O,.inr (G2 hc)|λ l hl=>?_];exact q l _ hl au (G1 hl)
theorem scundo:FnScope QE QE (defScope eF):=nofun
theorem xO{f C CS:PK}{fd:F8}(F:Fun K "undo" "Store.undo" eF f fd)(TS:StoreTxt K CS):FnOk P w K mg base CX0 1 f fd QE (spUndo CS C):=by
 show F.ok scundo (λ vs H Q E h=>?_) (λ cdv A outer s0 H vs Q E hr h=>?_)
 ·obtain⟨s,sh,pa,b,le,ks,g,gs,rfl,_⟩:=h
  rfl
 obtain⟨s,sh,pa,b,le,ks,g,gs,rfl,x,g1,q1,q2⟩:=h;have nd:=scundo.nd;show%[_,(((@bh _ _ _ _ (iF (bO '0' O) (λ _=>O)))<|>(bP⁻¹)<|>aG)<<<((eR '0' (gJ F5 PySem.F.slot_list_pop PySem.F.type_list_pop kF (bO '0' O)) O)<<<(bP⁻¹)))|?_];dsimp only[bF];obtain⟨dx,sg,ps,hs,sp,st,hp,pr⟩:=x.look;have nps:pa≠s:=λ z=>by rw[z,hs]at hp;cases hp
 show cg (λ R=>ps≠[]->R [↑s] H) (λ R hR=>?_) ?_
 ·show%[_,O,s,CS,dx,_,_,O,hs,TS.cl,TS.n4,jm _ _ _ _,_,.inl %[ps,G3 hp|O]|?_];cases ps with
  | nil=>
   cases pr;exact aU (q1 rfl)
  | cons p0 ps=>exact aT (hR (List.cons_ne_nil _ _))
 rintro ne;obtain⟨ps',p0,rfl⟩:∃ps' p0,ps=ps' ++ [p0]:=by
  rcases O3 ps with e | ⟨ps',p0,e⟩
  ·exact absurd e ne
  ·exact%[ps',p0|by rw[e,O4]]
 obtain⟨gs',g',rfl,pr',st'⟩:=mE pr;show ar (λ R=>∀(H':Hp),StoreAt CS C H' s sh b ks le g' gs' pa->FrS s pa H H'->R [↑s] H') (λ Dd hR=>?_) ?_
 ·show%[_,O,s,CS,dx,_,_,O,hs,TS.cl,TS.n4,jm _ _ _ _,.inl %[O,_|G3 hp],pa,_,p0,O,O,hp,(by simp)|?_];rw[List.dropLast_concat];have k1:∀c o,c≠pa->H c=some o->(upd H pa (.lst ps')) c=some o:=λ c o n e=>by rw[aw n];exact e
  have hp1:(upd H pa (.lst ps')) pa=↥ps':=au;generalize upd H pa (.lst ps')=H1 at k1 hp1 ⊢;have hs1:=k1 _ _ (Ne.symm nps) hs;show%[_,O,s,CS,dx,_,O,hs1,TS.cl,TS.n3,(by change 4 < 1000;decide)|?_];rw[pP];have kt2:∀a xs,H a= ~~~xs->(upd H1 s (.ins CS dx (sfl sh le p0 pa))) a= ~~~xs:=λ a xs e=>by have e1:=k1 _ _ (λ z=>by rw[z,hp]at e;cases e) e;rw[aw (λ z=>by rw[z,hs1]at e1;cases e1)];exact e1
  have fr:FrS s pa H (upd H1 s (.ins CS dx (sfl sh le p0 pa))):=λ c o n1 n2 e=>by rw[aw n1];exact k1 _ _ n2 e
  exact hR _ (.mk au (FrS.shop x fr) (st'.keep kt2) (by rw[aw nps];exact hp1) (G4 pr' λ v q h=>h.keep kt2)) fr
 rintro H1 x1 fr;exact q2 gs' g' H1 rfl x1 fr
theorem scput:FnScope Qg Qh (defScope dj):=nofun
theorem zJ{f C CS:PK}{fd:F8}(F:Fun K "put" "Store.put" dj f fd)(TS:StoreTxt K CS)(DCP:Dn P w K mg base "check_plate" QL 2 (spCP))(MR:Mn P w K mg base CS "replace_standing" Qe 1 (spRepl CS C)):FnOk P w K mg base CX0 3 f fd Qh (spPut CS C):=by
 show F.ok scput (λ vs H Q E h=>?_) (λ cdv A outer s0 H vs Q E hr h=>?_)
 ·obtain⟨s,sh,pa,b,le,w1,h1,ks,g,gs,rfl,_⟩:=h
  rfl
 obtain⟨s,sh,pa,b,le,w1,h1,ks,g,gs,rfl,x,g1,p1,w0,w60,h0,h60,q⟩:=h;have nd:=scput.nd;show%[_,((@be _ _ _ _ (DCP∪('1'^^^('2'^^^ad))) O)<<<((@bA _ _ _ _ _ _ (bO '0' O) (bf O (3•(4•(5•(6•aQ))))) O O O)<<<((@be _ _ _ _ (iS '0' TS.cl MR (hr.mono ∅) ((@aI _ _ _ _ _ (('3'|||gr|||(@aI _ _ _ _ _ ((@aI _ _ _ _ _ ('4'^^^('1'^^^('2'^^^ad))))^^^ad)))^^^(('4'|||aW|||af)^^^('5'^^^(('6'|||aW|||('1'|||cY|||'2'))^^^ad)))))^^^ad)) O)<<<('4'⁻¹))))|?_];dsimp only[bF];have z2:(20000:Nat) < sizeLine:=∅
 obtain⟨dx,sg,ps,hs,sp,st,hp,pr⟩:=x.look;show ar (λ R=>R [↑s,⇑w1,⇑h1,none,none,none,none] H) (λ Dd hR=>?_) ?_
 ·exact%[_,O,_,O,w1,h1,O,w0,h0|hR]
 skip
 cases st with
 | @mk a b' c rs _ ha hb pr' hc=>
  show ar (λ R=>R [↑s,⇑w1,⇑h1,↑b',⇑g.nu,↑c,⇑g.pu] H) (λ Dd hR=>?_) ?_
  ·exact%[_,O,s,CS,dx,_,_,O,hs,TS.cl,TS.n3,bM _ _ _ _,a,_,O,G2 ha,O,_,_,O,_,_,O,_,_,O,_,_,O,O|hR]
  skip
  have rl:=E3 pr';show ar (λ R=>∀(H':Hp),StoreAt CS C H' s sh b ks le %[g.pl ++ [(g.nu,w1,h1)],g.nu+1,g.md|g.pu+w1 * h1] (gs ++ [g]) pa->FrS s pa H H'->R [↑s,⇑w1,⇑h1,↑b',⇑g.nu,↑c,⇑g.pu] H') (λ Dd hR=>?_) ?_
  ·show%[_,O,s,dx,_,O,hs,cM _ _ _ _ ∅ ∅ ∅ ∅|?_];show%[_,O,_,O,_,O,_,O,zS3|λ t1 ht1=>?_];show aK ht1 λ H1 k1 s1=>?_;show%[zS1|λ t2 ht2=>?_];show aK ht2 λ H2 k2 s2=>?_;show%[b',t2,_,_,O,O,(s1.trans s2) _ _ hb,k2,(by rw[rl];change _+1<=sizeLine;omega)|λ t3 H3 c3 k3=>?_];have s3:Same H2 H3:=by
    rcases c3 with⟨rfl,_⟩ | ⟨hm,rfl⟩
    ·exact Same.refl _
    ·exact G1 hm
   have s03:=(s1.trans s2).trans s3;show%[_,O,_,_,O,O,_,O,_,O,_,O,_,O,_,_,O,O,%[b60 ⋯ ⋯|b60 ⋯ ⋯],_,_,O,O,zS4|λ t4 ht4=>?_];show aK ht4 λ H4 k4 s4=>?_;have s04:=s03.trans s4;show%[s,sh,pa,b,le,ks,g,%[g.pl ++ [(g.nu,w1,h1)],g.nu+1,g.md|g.pu+w1 * h1],gs,_,O,x.same s04,g1,.mk k4 (s4 _ _ k3) ?_ (s04 _ _ hc)|λ H5 x5 f5=>hR _ x5 ((Same.frS s04).trans f5)];exact Paired.snoc (G4 pr' λ v q h=>h.keep λ _ _ e=>s04 _ _ e) %[t1,rfl|s4 _ _ (s3 _ _ (s2 _ _ k1))]
  rintro H5 x5 f5;exact%[_,O|q _ x5 f5]
theorem scplof:FnScope ["self","number","plate"] Qi (defScope bZ):=nofun
theorem xP{f C CS:PK}{fd:F8}(F:Fun K "plate_of" "Store.plate_of" bZ f fd)(TS:StoreTxt K CS)(DW:Dn P w K mg base "is_whole" PX 1 (cJ K)):FnOk P w K mg base CX0 2 f fd Qi (spPlOf CS C):=by
 show F.ok scplof (λ vs H Q E h=>?_) (λ cdv A outer s0 H vs Q E hr h=>?_)
 ·obtain⟨s,sh,pa,b,le,ks,g,gs,i,q0,rfl,_⟩:=h
  rfl
 obtain⟨s,sh,pa,b,le,ks,g,gs,i,q0,rfl,x,n0,hi,first,q⟩:=h;have nd:=scplof.nd;show%[_,(((@aV _ _ _ (DW∪('1'^^^(af^^^ad))) (by intro _;rfl))<|>(@ag _ _ _ (@cP _ _ _ _ _ _ _ _ E4 O (fJ ((bO '0' O)&&&ix_tup&&&af)) (ai (i:=2) nd O (Or.inl O)) (@ag _ _ _ ((('2'&&&ix_tup&&&af)<*>bC<*>'1')<|>('2'⁻¹)<|>aG)) (by intro _;rfl)))<|>aG)>>>aP)|?_];dsimp only[bF];obtain⟨dx,sg,ps,hs,sp,st,hp,pr⟩:=x.look;show bn (λ σ' H'=>False) (λ R hR=>?_) (λ _ _ z=>z.elim);show%[_,O,.int q0.1,_,0,O,Ty.int,_,O|?_];rw[show aX (.int q0.1) 0=true from PY n0];show aU ?_;cases st with
 | @mk a b' c rs _ ha hb pr' hc=>
  show%[_,O,s,CS,dx,_,_,O,hs,TS.cl,TS.n3,bM _ _ _ _,a,_,0,_,O,O,G2 ha,O,b',O,%[_|G2 hb]|ib (xs:=rs) (λ j σ' H'=>(∃v2,σ'=[↑s,⇑q0.1,v2])/\H=H'/\j<=i) %[%[_|O],O|E8 _] (λ j σ H' _ h=>by rw[<- h.2.1];exact G2 hb) ?_ ?_]
  ·rintro j v σ _ hj ⟨⟨v2,rfl⟩,rfl,ji⟩;obtain⟨q',hq',a',rfl,ha'⟩:=G5 pr' hj;show%[_,O,a',_,0,_,O,O,G2 ha',O,_,O,O,_,O|?_]
   by_cases e:j=i
   ·subst e;rw[hi]at hq';cases hq';rw[show decide (V.int q0.1=V.int q0.1)=true from PY rfl];exact aU %[_,rfl|q a' ha']
   ·have:=first j q' ⋯ hq'
    rw[show decide (V.int q'.1=V.int q0.1)=false from Pf (λ z=>this (V.int.inj z))];exact aT %[%[_|rfl],rfl|⋯]
  ·rintro σ _ ⟨⟨v2,rfl⟩,rfl,ji⟩;have:=(A6.mp hi).1;have:=E3 pr';omega
theorem scsinit:FnScope Qj Qj (defScope dF):=nofun
theorem vk{f C CS:PK}{fd:F8}(F:Fun K "__init__" "Store.__init__" dF f fd)(B:Blt mg)(TS:StoreTxt K CS)(T:ShopTxt K C)(DW:Dn P w K mg base "is_whole" PX 1 (cJ K))(MK:Mn P w K mg base C "kinds" QE 1 (gq C)):FnOk P w K mg base CX0 2 f fd Qj (spSInit CS C):=by
 show F.ok scsinit (λ vs H Q E h=>?_) (λ cdv A outer s0 H vs Q E hr h=>?_)
 ·obtain⟨s,dx,sh,b,le,ks,rfl,_⟩:=h
  rfl
 obtain⟨s,dx,sh,b,le,ks,rfl,hs,sp,k8,l1,q⟩:=h;have nd:=scsinit.nd;show%[_,(((@bh _ _ _ _ (@aV _ _ _ (DW∪('2'^^^(af^^^ad))) (by intro _;rfl)))<|>(@ag _ _ _ aP)<|>aG)<<<((eR '0' '1' O)<<<((eR '0' '2' O)<<<((eR '0' (@aI _ _ _ _ _ ((@aI _ _ _ _ _ ad)^^^(af^^^((@bg _ _ _ _ _ _ _ _ _ cw O B.tuple Pi ((cz (own:=QD) (cs:=[]) (cap:=[]) O (bU (ef '1' T.cl MK (hr.mono ∅))) (bj (sc:=defScope dF) (N:=Qj) O O ∅) (λ _ _ _ _ _=>ai (i:=0) (by change List.Nodup (QD:PP Str) ;decide +kernel) O (Or.inl O) (Or.inr O)) (λ _ _ _ _ _=>bW) (λ _ _ _ _ _=>af))^^^ad) ∅ ∅ O O)^^^(af^^^ad))))) O)>>>(eR '0' (@aL _ _ _ _ ad) O)))))|?_];dsimp only[bF];have z2:(2000:Nat) < sizeLine:=∅
 have ns:sh≠s:=λ z=>by obtain⟨dx',r,rs,h1,_⟩:=sp;rw[z,hs]at h1;have e:=HO.ins.inj (B8 h1);have:=Pw (List.lookup ("blade_width" : Str)) e.2.2;rw[iP]at this;cases this
 have set:∀{Hx Hy:Hp}{fs fs':PP (Str×V)},Hx s=some (.ins CS dx fs)->(∀c o,c≠s->H c=some o->Hx c=some o)->upd Hx s (.ins CS dx fs')=Hy->Hy s=some (.ins CS dx fs')/\(∀c o,c≠s->H c=some o->Hy c=some o)/\∀c o,c≠s->Hx c=some o->Hy c=some o:=λ {Hx Hy fs fs'} _ k e=>by subst e;exact%[au,λ c o n e=>by rw[aw n];exact k c o n e|λ c o n e=>by rw[aw n];exact e]
 have shK:∀{Hx:Hp},(∀c o,c≠s->H c=some o->Hx c=some o)->ShopAt C Hx sh b ks:=λ {Hx} k=>by obtain⟨dx',r,rs,h1,h2,h3⟩:=sp;have kt:∀a xs,H a= ~~~xs->Hx a= ~~~xs:=λ a xs e=>k _ _ (λ z=>by rw[z,hs]at e;cases e) e;exact%[dx',r,rs,k _ _ ns h1,kt _ _ h2|Tups.keep kt h3]
 show ar (λ R=>R [↑s,↑sh,⇑le] H) (λ Dd hR=>?_) ?_
 ·show%[_,O,.int le,_,1,O,Ty.int,_,O|?_];rw[show aX (.int le) 1=true from PY l1];exact aT (hR)
 skip
 show ar (λ R=>∀(H':Hp),H' s=some (.ins CS dx (bN "shop" (.ref sh) []))->((∀c o,c≠s->H c=some o->H' c=some o))->R [↑s,↑sh,⇑le] H') (λ Dd hR=>?_) ?_
 ·show%[_,O,_,O,s,CS,dx,_,O,hs,TS.cl,TS.n1,(by change 0 < 1000;decide)|?_];obtain⟨g1,g2,_⟩:=set (fs':=bN "shop" (.ref sh) []) hs (λ _ _ _ e=>e) rfl;exact hR _ g1 g2
 rintro H1 hs1 k1;show ar (λ R=>∀(H':Hp),H' s=some (.ins CS dx (bN "least" (.int le) (bN "shop" (.ref sh) [])))->((∀c o,c≠s->H c=some o->H' c=some o))->R [↑s,↑sh,⇑le] H') (λ Dd hR=>?_) ?_
 ·show%[_,O,_,O,s,CS,dx,_,O,hs1,TS.cl,TS.n2,(by have:=cj ("shop" : Str) (.ref sh) [];exact C7 this (by change 1 < 1000;decide))|?_];obtain⟨g1,g2,_⟩:=set (fs':=bN "least" (.int le) (bN "shop" (.ref sh) [])) hs1 k1 rfl;exact hR _ g1 g2
 rintro H2 hs2 k2;have lp:(bN ("least" : Str) (.int le) (bN ("shop" : Str) (.ref sh) [])).length<=2:=C6 (cj _ _ _) (Nat.succ_le_succ (cj _ _ _));show ar (λ R=>∀(H':Hp),(∃sg,StnA H' sg %[[],0,List.replicate ks.length 0|0]/\H' s=some (.ins CS dx (bN "standing" sg (bN "least" (.int le) (bN "shop" (.ref sh) []))))/\(∀c o,c≠s->H c=some o->H' c=some o))->R [↑s,↑sh,⇑le] H') (λ Dd hR=>?_) ?_
 ·show%[zS0|λ t1 ht1=>?_];show aK ht1 λ H3 k3 s3=>?_;have k3':∀c o,c≠s->H c=some o->H3 c=some o:=λ c o n e=>s3 _ _ (k2 _ _ n e);have sp3:=shK k3';obtain⟨dx',r,rs,S1,S2,S3⟩:=id sp3;show%[_,O,sh,dx',_,O,S1,(cX _ _ ∅ ∅),sh,b,ks,O,sp3|λ l rs' hl tp=>?_];show aK hl λ H4 k4 s4=>?_;have tl:=E3 tp;show%[l,O,%[_|G3 k4]|(bY (K:=K) (.inl k4) (λ i ys Hx=>Same H4 Hx/\ys=List.replicate i (.int 0)) (λ i ys Hx _ ⟨sx,_⟩ o e=>sx _ _ e) %[Same.refl _|O] ?_ ?_).1 k4]
  ·rintro i x ys Hx hi ⟨sx,rfl⟩;have hin:i < rs'.length:=(A6.mp hi).1;show%[by rw[M3];omega,leS.set rfl|bX ?_];change Nx rs'.length (λ i ys Hx=>Same H4 Hx/\ys=List.replicate i (V.int 0)) i (List.replicate i (V.int 0) ++ [.int 0]) Hx;show Nx.of hin %[sx|?_];rw[List.replicate_succ']
  ·rintro ys Hx ⟨sx,rfl⟩;show%[by rw[M3];omega|λ lc hlc=>?_];show aK hlc λ H5 k5 s5=>?_;show%[lc,_,O|.inl %[G3 k5|λ t2 ht2=>?_]];show aK ht2 λ H6 k6 s6=>?_;show%[zS4|λ t3 ht3=>?_];show aK ht3 λ H7 k7 s7=>?_;have s37:=s4.trans (sx.trans (s5.trans (s6.trans s7)));have hs7:=s37 _ _ (s3 _ _ hs2);have k7':∀c o,c≠s->H c=some o->H7 c=some o:=λ c o n e=>s37 _ _ (k3' _ _ n e);show%[_,O,s,CS,dx,_,O,hs7,TS.cl,TS.n3,C7 lp ∅|?_];obtain⟨H8,e8⟩:∃H8,upd H7 s (.ins CS dx (bN "standing" (.ref t3) (bN "least" (.int le) (bN "shop" (.ref sh) []))))=H8:=%[_|O]
   obtain⟨g1,g2,g3⟩:=set hs7 k7' e8;rw[show upd H7 s _=H8 from e8];have kt:∀a xs,H7 a= ~~~xs->H8 a= ~~~xs:=λ a xs e=>g3 _ _ (λ z=>by rw[z,hs7]at e;cases e) e;show hR _ %[.ref t3,?_,g1|g2];show .mk (kt _ _ k7) (kt _ _ (s37 _ _ k3)) .nil (kt _ _ (s7 _ _ ?_));rw[k6,List.map_replicate,tl]
 rintro H3 ⟨sg,st3,hs3,k3⟩;show%[∅|λ pa hpa=>?_];show aK hpa λ H4 k4 s4=>?_;have hs4:=s4 _ _ hs3;have nps:pa≠s:=λ z=>by rw[z,hs3]at hpa;cases hpa
 show%[_,O,s,CS,dx,_,O,hs4,TS.cl,TS.n4,C7 (C6 (cj _ _ _) (Nat.succ_le_succ lp)) ∅|?_];have k4':∀c o,c≠s->H c=some o->H4 c=some o:=λ c o n e=>s4 _ _ (k3 _ _ n e);rw[gP];obtain⟨g1,g2,g3⟩:=set (fs':=sfl sh le sg pa) hs4 k4' rfl;have hH:H pa=none:=by
  cases e:H pa with
  | none=>rfl
  | some o=>rw[k3 _ _ nps e]at hpa;cases hpa
 exact q pa _ hH (.mk g1 (shK g2) (st3.keep λ a xs e=>g3 _ _ (λ z=>by rw[z,hs3]at e;cases e) (s4 _ _ e)) (g3 _ _ nps k4) .nil) g2
theorem b70{x:Int}(h0:0<=x)(h1:x<=10 ^ 70):x.natAbs < 2 ^ 4096:=by
 have e:(10:Nat) ^ 70 < 2 ^ 4096:=∅
 have e2:((10 ^ 70:Nat):Int)=10 ^ 70:=∅
 generalize(10:Nat) ^ 70=a at e e2;generalize(2:Nat) ^ 4096=b at e;generalize(10:Int) ^ 70=c at e2 h1;omega
theorem yL{m w:Int}(m0:0<=m)(m1:m<=10 ^ 6)(w0:0<=w)(w1:w<=10 ^ 60):0<=m * w/\m * w<=10 ^ 70:=by
 have h1:=Int.mul_nonneg m0 w0;have h2:=O5 (a:=m) (b:=w) (c:=10 ^ 6) (d:=10 ^ 60) m1 w1 w0 ∅;have h3:(10:Int) ^ 6 * 10 ^ 60<=10 ^ 70:=∅
 exact%[h1|O7 h2 h3]
def thr(g:Stn):Int:=(g.pl.map λ q=>q.2.1 * q.2.2).sum
def mdc(ks:PP Kd)(g:Stn):Int:=((g.md.zip ks).map λ z=>z.1 * z.2.w * z.2.h).sum
def xQ(g:Stn):Prop:=g.pl.length<=10000/\∀q∈g.pl,1<=q.2.1/\q.2.1<=10 ^ 60/\1<=q.2.2/\q.2.2<=10 ^ 60
def xR(ks:PP Kd)(g:Stn):Prop:=g.md.length=ks.length/\∀m∈g.md,0<=m/\m<=10 ^ 6
inductive spCells(CS C:PK)(vs:PP V)(H:Hp)(Q:VK)(E_:XK):Prop
|mk(s sh pa:PK)(b le:Int)(ks:PP Kd)(g:Stn)(gs:PP Stn)(_:vs=[.ref s])(_:StoreAt CS C H s sh b ks le g gs pa)(_:ks.length<=8)(_:(∀k∈ks,Good k))(_:xQ g)(_:xR ks g)(_:∀(t:PK)(H':Hp),H' t= ~~~[.int g.pu,.int (thr g),.int (mdc ks g),.int (g.pu - thr g - mdc ks g)]->Same H H'->Q (.ref t) H')
theorem sccells:FnScope Qk QE (defScope cH):=nofun
theorem vm{f C CS:PK}{fd:F8}(F:Fun K "cells" "Store.cells" cH f fd)(B:Blt mg)(TS:StoreTxt K CS)(T:ShopTxt K C)(MK:Mn P w K mg base C "kinds" QE 1 (gq C)):FnOk P w K mg base CX0 2 f fd QE (spCells CS C):=by
 show F.ok sccells (λ vs H Q E h=>?_) (λ cdv A outer s0 H vs Q E hr h=>?_)
 ·obtain⟨s,sh,pa,b,le,ks,g,gs,rfl,_⟩:=h
  rfl
 obtain⟨s,sh,pa,b,le,ks,g,gs,rfl,x,k8,gk,plo,mdo,q⟩:=h;have nd:=sccells.nd;show%[_,((@bA _ _ _ _ _ _ (bO '0' O) (bf O (1•(2•(3•(4•aQ))))) O O O)<<<((5∣(@aD _ _ _ _ _ _ _ _ _ (fq O) O B.sum PyProof.Rows.boot_sum ((cz (own:=["number","wide","high"]) (cs:=[]) (cap:=[]) O (fJ '1') (bj (sc:=defScope cH) (N:=Qk) O O ∅) (λ _ _ _ _ _=>mj K O O (by change List.Nodup (["number","wide","high"]:PP Str) ;decide +kernel) O O O O O O) (λ _ _ _ _ _=>bW) (λ _ _ _ _ _=>('1'|||cY|||'2')))^^^ad) ∅ ∅ O O))<<<((6∣(@aD _ _ _ _ _ _ _ _ _ (fq O) O B.sum PyProof.Rows.boot_sum ((cz (own:=["many","kind"]) (cs:=[]) (cap:=[]) O (uN true false O B.zip ('3'^^^((ef (bO '0' O) T.cl MK (hr.mono ∅))^^^ad))) (bj (sc:=defScope cH) (N:=Qk) O O ∅) (λ _ _ _ _ _=>nP K O O (by change List.Nodup (["many","kind"]:PP Str) ;decide +kernel) O O O O) (λ _ _ _ _ _=>bW) (λ _ _ _ _ _=>(('0'|||cY|||(aA (r:=rIxT K) ix_tup '1' af (λ _ _=>O)))|||cY|||(aA (r:=rIxT K) ix_tup '1' af (λ _ _=>O)))))^^^ad) ∅ ∅ O O))<<<((@aI _ _ _ _ _ ('4'^^^('5'^^^('6'^^^((('4'|||bD|||'5')|||bD|||'6')^^^ad)))))⁻¹))))|?_];dsimp only[bF];have sz:(20000:Nat) < sizeLine:=∅
 obtain⟨pl1,pl2⟩:=plo;obtain⟨ml,mb⟩:=mdo;obtain⟨dx,sg,ps,hs,sp,st,hp,pr⟩:=x.look;cases st with
 | @mk a b' c rs _ ha hb pr' hc=>
  show ar (λ R=>R [↑s,↑b',⇑g.nu,↑c,⇑g.pu,none,none] H) (λ Dd hR=>?_) ?_
  ·exact%[_,O,s,CS,dx,_,_,O,hs,TS.cl,TS.n3,bM _ _ _ _,a,_,O,G2 ha,O,_,_,O,_,_,O,_,_,O,_,_,O,O|hR]
  skip
  have rl:=E3 pr';show ar (λ R=>∀(H':Hp),Same H H'->R [↑s,↑b',⇑g.nu,↑c,⇑g.pu,⇑(thr g),none] H') (λ Dd hR=>?_) ?_
  ·show%[_,O,b',O,%[_|G2 hb]|(bY (K:=K) (.inr hb) (λ i ys Hx=>Same H Hx/\ys=((g.pl.take i).map λ q=>q.2.1 * q.2.2).map V.int) (λ i ys Hx _ ⟨sx,_⟩ o e=>sx _ _ e) %[Same.refl _|O] ?_ ?_).2 hb]
   ·rintro i v ys Hx hi ⟨sx,rfl⟩;have hin:i < rs.length:=(A6.mp hi).1;obtain⟨q',hq',a',rfl,ha'⟩:=G5 pr' hi;obtain⟨q1,q2,q3,q4⟩:=pl2 q' (B5 hq');show%[by rw[G6,G6,J2];omega|?_];show%[a',_,O,G2 (sx _ _ ha'),O,_,_,O,_,_,O,_,_,O,O,fF (leS.set rfl) (fF (leS.set rfl) (leS.set rfl))|bX ?_];show%[_,O,_,O,_,_,O,O,%[b60 ⋯ ⋯|b60 ⋯ ⋯]|Nx.of hin %[sx|?_]];rw[J4,hq'];simp only[M5,J7,J3,O1]
   ·rintro ys Hx ⟨sx,rfl⟩;rw[rl,J9];show%[by rw[G6,G6];omega|λ p hp=>?_];exact%[p,_,O,G3 au|hR _ (sx.trans (G1 hp))]
  rintro H1 s1;show ar (λ R=>∀(H':Hp),Same H H'->R [↑s,↑b',⇑g.nu,↑c,⇑g.pu,⇑(thr g),⇑(mdc ks g)] H') (λ Dd hR=>?_) ?_
  ·have sp1:=jg s1 sp;obtain⟨dx',r,rs0,S1,S2,S3⟩:=id sp1;show%[_,O,_,O,s,CS,dx,_,_,O,s1 _ _ hs,TS.cl,TS.n1,fe _ _ _ _,sh,dx',_,O,S1,(cX _ _ ∅ ∅),sh,b,ks,O,sp1|λ l rs' hl tp=>?_];show aK hl λ H2 k2 s2=>?_;have tp2:Tups H2 rs' ks:=Tups.keep (λ c xs e=>s2 _ _ e) tp;have tl:=E3 tp;have hc2:=s2 _ _ (s1 _ _ hc);show%[c,l,_,_,O,hc2,k2|kY (b:=true) (c:=false) (xs:=g.md.map V.int) (ys:=rs') (λ i zs H4=>Same H2 H4/\zs=(((g.md.zip ks).take i).map λ z=>z.1 * z.2.w * z.2.h).map V.int) (by rw[G6,ml];exact tl.symm) (λ i zs H4 ⟨s4,_⟩=>%[s4 _ _ hc2|s4 _ _ k2]) %[Same.refl _|O] (λ i zs H4 hi ⟨_,e⟩=>by rw[e,G6,G6,J2];rw[G6]at hi;omega) ?_ ?_]
   ·rintro i x y tz zs H4 hx hy htz ⟨s4,rfl⟩;rw[J1]at hx;obtain⟨cc,hcc,rfl⟩:=K5.mp hx;obtain⟨k,hk,ak,rfl,hak⟩:=G5 tp2 hy;have gg:=gk k (B5 hk);have g1:=gg.w;have g2:=gg.h;have g3:=gg.w';have g4:=gg.h';have hcb:=mb cc (B5 hcc);show aK htz λ H5 k5 s5=>?_;have ak5:H5 ak= ~~~[.int k.w,.int k.h,.int k.wo,.int k.wa,.bl k.tu]:=s5 _ _ (s4 _ _ hak);have mw:=yL hcb.1 hcb.2 (show 0<=k.w by omega) ⋯;have c6:cc<=10 ^ 70:=O7 hcb.2 ∅;have w7:k.w<=10 ^ 70:=O7 (Int.le_of_lt g3) ∅;have h7:k.h<=10 ^ 70:=O7 (Int.le_of_lt g4) ∅;show%[tz,_,O,G2 k5,O,_,_,O,_,_,O,O,fF (leS.set rfl) (leS.set rfl)|bX ?_];show%[_,O,_,O,ak,_,0,_,O,O,G2 ak5,O,_,_,O,O,%[b70 hcb.1 c6|b70 ⋯ w7],_,O,ak,_,1,_,O,O,G2 ak5,O,_,_,O,O,%[b70 mw.1 mw.2|b70 ⋯ h7]|Nx.of (by rw[G6,ml];exact(A6.mp hk).1) %[s4.trans s5|?_]];have hzz:(g.md.zip ks)[i]?=some (cc,k):=by rw[OT];exact%[hcc|hk]
    rw[J4,hzz];simp only[M5,J7,J3,O1]
   ·rintro zs H4 ⟨s4,rfl⟩;show%[by rw[G6,G6,J2,PF];omega|λ p hp=>?_];rw[G6,M7 (by rw[PF];omega)];exact%[p,_,O,G3 au|hR _ (((s1.trans s2).trans s4).trans (G1 hp))]
  rintro H2 s2;show%[_,O,_,O,_,O,_,O,_,O,_,_,O,O,_,O,_,_,O,O,zS4|λ t ht=>?_];exact q t _ au (s2.trans (G1 ht))
theorem xS{X:Cx}(K:C5){x y z u:Str}{px py pz pu pos:Pos}{k:Nat}(hK:X.K=K)(hc:X.calm=true)(hN:X.N.Nodup)(h0:X.N[0]?=some x)(h1:X.N[1]?=some y)(h2:X.N[2]?=some z)(h3:X.N[3]?=some u)(l0:X.env.scope.names.lookup x=some .local)(l1:X.env.scope.names.lookup y=some .local)(l2:X.env.scope.names.lookup z=some .local)(l3:X.env.scope.names.lookup u=some .local) :
  PG X (.Tuple [.Name x px,.Name y py,.Name z pz,.Name u pu] k pos) (gTup K 4 (gCons (cB 0) (gCons (cB 1) (gCons (cB 2) (gCons (cB 3) mV))))) :=
 hK ▸ bf hc (ah (ai hN h0 (.inl l0) (.inr l0)) (ah (ai hN h1 (.inl l1) (.inr l1)) (ah (ai hN h2 (.inl l2) (.inr l2)) (ah (ai hN h3 (.inl l3) (.inr l3)) aQ))))
theorem xT{X:Cx}{e:Expr}{f:Str}{pos:Pos}{ta:TE}(K:C5)(hK:X.K=K)(he:PE X e ta)(hb:attributeBase e f X.env (eval e X.env)=eval e X.env):PE X (.Attribute e f pos) (AQ K ta f):=hK ▸ bO he hb
abbrev LQ(K:C5):R2:=rz_op_neD K
theorem xU{X:Cx}(K:C5)(hK:X.K=K)(hu:X.A.units+64 < cLine):OpR X (compareOp .NotEq) (LQ K):=hK ▸ zi hu
abbrev NW(K:C5):R2:=rz_op_inD K
def kpB(le:Int)(r:Rst):Bool:=decide (le<=if r.h < r.w then r.h else r.w)
def aS(le:Int)(rs:PP Rst):PP (Int×Int):=(rs.filter (kpB le)).map λ r=>(r.w,r.h)
def bz(nu:Int):PP (Int×Int)->PP (Int×Int×Int)
 | []=>[]
 | z :: r=>(nu,z.1,z.2) :: bz (nu+1) r
theorem eG:∀(nu:Int)(l:PP (Int×Int))(z:Int×Int),bz nu (l ++ [z])=bz nu l ++ [(nu+l.length,z.1,z.2)]
 | nu,[],z=>by change[(nu,z.1,z.2)]=[(nu+((0:Nat):Int),z.1,z.2)];rw[show nu+((0:Nat):Int)=nu by omega]
 | nu,y :: l,z=>by rw[List.cons_append,bz,bz,eG (nu+1) l z,List.cons_append,J0];rw[show nu+1+(l.length:Int)=nu+((l.length+1:Nat):Int)by omega]
theorem bR:∀(nu:Int)(l:PP (Int×Int)),(bz nu l).length=l.length
 | _,[]=>rfl
 | nu,_ :: l=>by rw[bz,J0,J0,bR (nu+1) l]
def gy(le:Int)(g:Stn)(q0:Int×Int×Int)(rs:PP Rst)(cs:Q9):Stn:=%[(g.pl.filter λ q=>decide (q≠q0)) ++ bz g.nu (aS le rs),g.nu+(aS le rs).length,List.zipWith (· + ·) g.md cs|g.pu]
def WhA(H:Hp)(v:V)(z:Int×Int):Prop:=∃a,v=.ref a/\H a= ~~~[.int z.1,.int z.2]
theorem WhA.same{H H':Hp}(s:Same H H'){v:V}{z:Int×Int}(h:WhA H v z):WhA H' v z:=h.imp λ _ %[e|h]=>%[e|s _ _ h]
theorem PlA.same{H H':Hp}(s:Same H H'){v:V}{z:Int×Int×Int}(h:PlA H v z):PlA H' v z:=h.keep λ _ _ e=>s _ _ e
theorem LR(a b c d e f:Int):PyData.eqv (.tuple [.int a,.int b,.int c]) (.tuple [.int d,.int e,.int f])=decide ((a,b,c)=(d,e,f)):=by by_cases h1:a=d <;> by_cases h2:b=e <;> by_cases h3:c=f <;> simp[PyData.eqv,PyData.eqvAll,h1,h2,h3]
inductive spCutS(CS C:PK)(vs:PP V)(H:Hp)(Q:VK)(E_:XK):Prop
|mk(pp s sh pa:PK)(b le:Int)(ks:PP Kd)(g:Stn)(gs:PP Stn)(v:V)(d:PyData)(t:Tr)(i:Nat)(q0:Int×Int×Int)(_:vs=[.ref s,.int q0.1,v])(_:StoreAt CS C H s sh b ks le g gs pa)(_:gs.length<=1000)(_:g.pl.length<=10000)(_:0<=q0.1)(_:g.pl[i]?=some q0)(_:(∀j q',j < i->g.pl[j]?=some q'->q'.1≠q0.1))(_:TrH C pp sh b q0.2.1 q0.2.2 ks v d t H)(_:ks.length<=8)(_:g.md.length=ks.length)(_:∀(rs:PP Rst)(l:PK)(H':Hp),rs.Perm (jl b t q0.2.1 q0.2.2)->(rs.map fb).Pairwise (λ x y=>cu y x=false)->StoreAt CS C H' s sh b ks le (gy le g q0 rs (bI (pcs b t q0.2.1 q0.2.2) ks.length)) (gs ++ [g]) pa->FrS s pa H H'->H l=none->H' l=↥((bz g.nu (aS le rs)).map λ z=>V.int z.1)->Q (.ref l) H')
theorem sccuts:FnScope Ql Qm (defScope bG):=nofun
theorem xV{f C CS:PK}{fd:F8}(F:Fun K "cut" "Store.cut" bG f fd)(B:Blt mg)(TS:StoreTxt K CS)(MP:Mn P w K mg base CS "plate_of" Qi 2 (spPlOf CS C))(MR:Mn P w K mg base CS "replace_standing" Qe 1 (spRepl CS C))(DR:Dn P w K mg base "rests_of" Qa 8 (spRests C))(DC:Dn P w K mg base "counts_of" Qa 9 (spCountsO C)):FnOk P w K mg base CX0 10 f fd Qm (spCutS CS C):=by
 show F.ok sccuts (λ vs H Q E h=>?_) (λ cdv A outer s0 H vs Q E hr h=>?_)
 ·obtain⟨pp,s,sh,pa,b,le,ks,g,gs,v,d,t,i,q0,rfl,_⟩:=h
  rfl
 obtain⟨pp,s,sh,pa,b,le,ks,g,gs,v,d,t,i,q0,rfl,x,g1,p1,n0,hi,first,th,k8,ml,q⟩:=h;have nd:=sccuts.nd;have hu:=hr.units;show%[_,((@aE _ _ 3 _ _ _ _ nd O (Or.inr O) (iS '0' TS.cl MP (hr.mono ∅) ('1'^^^ad)) O (Or.inl O))<<<((4∣(DR∩((bO '0' O)^^^(('3'&&&ix_tup&&&af)^^^(('3'&&&ix_tup&&&af)^^^('2'^^^ad))))))<<<((5∣(DC∪((bO '0' O)^^^(('3'&&&ix_tup&&&af)^^^(('3'&&&ix_tup&&&af)^^^('2'^^^ad))))))<<<((@bA _ _ _ _ _ _ (bO '0' O) (bf O (6•(ah (ai (i:=7) nd O (Or.inr O)) (8•(9•aQ))))) O O O)<<<((gj (i:=10) (own:=["x","y","wide","high"]) (cs:=QE) (cap:=[0]) O nd O O O (bU '4') (bj (sc:=defScope bG) (N:=Ql) O O ∅) (λ _ _ _ _ _=>xS K O O (by change List.Nodup (["x","y","wide","high","self"]:PP Str) ;decide +kernel) O O O O O O O O) (λ _ _ _ _ _=>(eW ((@aD _ _ _ _ _ _ _ _ _ (fg O) O B.min P1 ('2'^^^('3'^^^ad)) ∅ ∅ O O)<*>jD<*>(xT K O '4' O)))) (λ _ _ _ _ _=>(@aI _ _ _ _ _ ('2'^^^('3'^^^ad)))))<<<((gj (i:=11) (own:=["at","wide","high"]) (cs:=["upcoming"]) (cap:=[7]) O nd O O O (mv O B.enumerate (':'^^^ad)) (bj (sc:=defScope bG) (N:=Ql) O O ∅) (λ _ _ _ _ _=>qE K O O (by change List.Nodup (["at","wide","high","upcoming"]:PP Str) ;decide +kernel) O O O O O O) (λ _ _ _ _ _=>bW) (λ _ _ _ _ _=>(@aI _ _ _ _ _ (('3'|||aW|||'0')^^^('1'^^^('2'^^^ad))))))<<<((gj (i:=12) (own:=["plate"]) (cs:=["gone"]) (cap:=[3]) O nd O O O (fJ '6') (bj (sc:=defScope bG) (N:=Ql) O O ∅) (λ _ _ _ _ _=>ai (i:=0) (by change List.Nodup (["plate","gone"]:PP Str) ;decide +kernel) O (Or.inl O) (Or.inr O)) (λ _ _ _ _ _=>(eW ('0'<*>(xU K O hu)<*>'1'))) (λ _ _ _ _ _=>'0'))<<<((13∣(@bg _ _ _ _ _ _ _ _ _ cw O B.tuple Pi ((cz (own:=["before","more"]) (cs:=[]) (cap:=[]) O (uN true false O B.zip ('8'^^^('5'^^^ad))) (bj (sc:=defScope bG) (N:=Ql) O O ∅) (λ _ _ _ _ _=>nP K O O (by change List.Nodup (["before","more"]:PP Str) ;decide +kernel) O O O O) (λ _ _ _ _ _=>bW) (λ _ _ _ _ _=>('0'|||aW|||'1')))^^^ad) ∅ ∅ O O))<<<((@be _ _ _ _ (iS '0' TS.cl MR (hr.mono ∅) ((@aI _ _ _ _ _ ((@bg _ _ _ _ _ _ _ _ _ cw O B.tuple Pi (('<'|||kG|||';')^^^ad) ∅ ∅ O O)^^^(('7'|||aW|||(@aD _ _ _ _ _ _ _ _ _ aY O B.len Pj (';'^^^ad) ∅ ∅ O O))^^^('='^^^('9'^^^ad)))))^^^ad)) O)<<<((cz (own:=["plate"]) (cs:=[]) (cap:=[]) O (bU ';') (bj (sc:=defScope bG) (N:=Ql) O O ∅) (λ _ _ _ _ _=>ai (i:=0) (by change List.Nodup (["plate"]:PP Str) ;decide +kernel) O (Or.inl O) (Or.inr O)) (λ _ _ _ _ _=>bW) (λ _ _ _ _ _=>(aA (r:=rIxT K) ix_tup '0' af (λ _ _=>O))))⁻¹))))))))))|?_]
 dsimp only[bF];have sz:(40000:Nat) < sizeLine:=∅
 obtain⟨dx,sg,ps,hs,sp,st,hp,pr⟩:=x.look;have nps:pa≠s:=λ z=>by rw[z,hs]at hp;cases hp
 show ar (λ R=>∀go,H go= ~~~[.int q0.1,.int q0.2.1,.int q0.2.2]->R [↑s,⇑q0.1,some v,↑go,none,none,none,none,none,none,none,none,none,none] H) (λ Dd hR=>?_) ?_
 ·exact⟨_,O,s,dx,_,O,hs,cM _ _ _ _ ∅ ∅ ∅ ∅,_,O,s,sh,pa,b,le,ks,g,gs,i,q0,O,x,n0,hi,first,λ a ha=>hR a ha⟩
 rintro go hgo;show ar (λ R=>∀re as rs (H':Hp),H' re=↥(as.map V.ref)->Paired (RA H') as rs->rs.Perm (jl b t q0.2.1 q0.2.2)->(rs.map fb).Pairwise (λ x y=>cu y x=false)->Same H H'->R [↑s,⇑q0.1,some v,↑go,↑re,none,none,none,none,none,none,none,none,none] H') (λ Dd hR=>?_) ?_
 ·exact%[_,O,s,CS,dx,_,_,O,hs,TS.cl,TS.n1,fe _ _ _ _,_,O,go,_,1,_,O,O,G2 (id hgo),O,_,O,go,_,2,_,O,O,G2 (id hgo),O,_,O,pp,sh,b,q0.2.1,q0.2.2,ks,v,d,t,O,th|λ l as rs H1 hl kl pa' pe so s1=>hR l as rs _ kl pa' pe so s1]
 rintro re as rs H1 hre pra pe so s1;obtain⟨m1,m2⟩:=TrD.many (b:=b) t d 0 0 q0.2.1 q0.2.2 th.td;have ln:=th.ln;have rl63:rs.length<=63:=by rw[pe.length_eq];exact C6 (J5 _ _) ⋯
 show ar (λ R=>∀co (H':Hp),H' co=↥((bI (pcs b t q0.2.1 q0.2.2) ks.length).map V.int)->Same H1 H'->R [↑s,⇑q0.1,some v,↑go,↑re,↑co,none,none,none,none,none,none,none,none] H') (λ Dd hR=>?_) ?_
 ·exact%[_,O,s,CS,dx,_,_,O,(s1 _ _ hs),TS.cl,TS.n1,fe _ _ _ _,_,O,go,_,1,_,O,O,G2 (s1 _ _ hgo),O,_,O,go,_,2,_,O,O,G2 (s1 _ _ hgo),O,_,O,pp,sh,b,q0.2.1,q0.2.2,ks,v,d,t,O,th.same s1,k8|λ l H2 hl kl s2=>hR l _ kl s2]
 rintro co H2 hco s2;generalize hcn:bI (pcs b t q0.2.1 q0.2.2) ks.length=cn at *;have cl0:cn.length=ks.length:=by rw[<- hcn,cx]
 have s02:=s1.trans s2;cases st with
 | @mk a b' c rp _ ha hb pr' hc=>
  have rpl:=E3 pr';show ar (λ R=>R [↑s,⇑q0.1,some v,↑go,↑re,↑co,↑b',⇑g.nu,↑c,⇑g.pu,none,none,none,none] H2) (λ Dd hR=>?_) ?_
  ·exact%[_,O,s,CS,dx,_,_,O,s02 _ _ hs,TS.cl,TS.n3,bM _ _ _ _,a,_,O,G2 (s02 _ _ ha),O,_,_,O,_,_,O,_,_,O,_,_,O,O|hR]
  skip
  show ar (λ R=>∀ke zs (H':Hp),H' ke=↥zs->Paired (WhA H') zs (aS le rs)->Same H2 H'->R [↑s,⇑q0.1,some v,↑go,↑re,↑co,↑b',⇑g.nu,↑c,⇑g.pu,↑ke,none,none,none] H') (λ Dd hR=>?_) ?_
  ·have hre2:=s2 _ _ hre;have al:(as.map V.ref).length=rs.length:=by rw[G6];exact E3 pra
   show%[_,O,re,O,%[_|G3 hre2]|(bY (K:=K) (.inl hre2) (λ i ys Hx=>Same H2 Hx/\Paired (WhA Hx) ys (aS le (rs.take i))) (λ i ys Hx _ ⟨sx,_⟩ o e=>sx _ _ e) %[Same.refl _|.nil] ?_ ?_).1 hre2]
   ·rintro j y ys Hx hj ⟨sx,py⟩;have hjn:j < (as.map V.ref).length:=(A6.mp hj).1;rw[J1]at hj;obtain⟨aj,haj,rfl⟩:=K5.mp hj;obtain⟨r,hr',har⟩:=G5 pra haj;have har:H1 aj= ~~~[.int r.x,.int r.y,.int r.w,.int r.h]:=har;have yl:=E3 py;have kl:(aS le (rs.take j)).length<=63:=by unfold aS;rw[G6];exact C6 (K1 _ _) (by rw[J2];omega)
    have tk:aS le (rs.take (j+1))=aS le (rs.take j) ++ (if kpB le r=true then[(r.w,r.h)]else[]):=by
     rw[J4,hr'];unfold aS;rw[N1,J7];congr 1;simp only[M5,O6,List.filter_nil]
     split <;> rfl
    show%[⋯,aj,_,O,G2 (sx _ _ (s2 _ _ har)),O,_,_,O,_,_,O,_,_,O,_,_,O,O,fF (leS.set rfl) (fF (leS.set rfl) (fF (leS.set rfl) (leS.set rfl)))|?_];show%[_,O,_,O,_,_,O,_,O,s,CS,dx,_,_,O,sx _ _ (s02 _ _ hs),TS.cl,TS.n2,rg _ _ _ _,_,_,O,O,_,O|?_];change(if kpB le r=true then _ else _);rw[<- al]at *;cases kb:kpB le r with
    | true=>
     show aU %[_,rfl,_,rfl,zS2|λ tq htq=>Nx.of hjn %[sx.trans (G1 htq)|?_]];rw[tk,kb];exact Paired.snoc (G4 py λ v z h=>h.same (G1 htq)) %[tq,rfl|au]
    | false=>
     show aT (Nx.of hjn %[sx|?_]);rw[tk,kb,PZ ∅,K0];exact py
   ·rintro ys Hx ⟨sx,py⟩;rw[al,J9]at py;have yl:=E3 py;have kl:(aS le rs).length<=63:=by unfold aS;rw[G6];exact C6 (K1 _ _) rl63
    show%[⋯|λ ke hke=>hR ke ys _ au (G4 py λ v z h=>h.same (G1 hke)) (sx.trans (G1 hke))]
  rintro ke zs H3 hke pk s3;have zl:=E3 pk;have kl63:(aS le rs).length<=63:=by unfold aS;rw[G6];exact C6 (K1 _ _) rl63
  have s03:=s02.trans s3;show ar (λ R=>∀ca cs (H':Hp),H ca=none->H' ca=↥cs->Paired (PlA H') cs (bz g.nu (aS le rs))->Same H3 H'->R [↑s,⇑q0.1,some v,↑go,↑re,↑co,↑b',⇑g.nu,↑c,⇑g.pu,↑ke,↑ca,none,none] H') (λ Dd hR=>?_) ?_
  ·show%[_,O,ke,zs,O,hke|qD (f:=HO.lst) (xs:=zs) (λ _ _ e=>HO.lst.inj e) (λ n ws Hx=>Same H3 Hx/\Paired (PlA Hx) ws (bz g.nu ((aS le rs).take n))) (λ n ws Hx e=>e.1 _ _ hke) %[Same.refl _|.nil] (λ n ws Hx hn e=>by have:=E3 e.2;rw[bR,J2]at this;omega) ?_ ?_]
   ·rintro n y tz ws Hx hy htz ⟨sx,pw⟩;have hn:n < zs.length:=(A6.mp hy).1;obtain⟨z,hz,az,rfl,haz⟩:=G5 pk hy;show aK htz λ H5 k5 s5=>?_;show%[tz,_,O,G2 k5,O,_,_,O,_,_,O,az,_,O,G2 (s5 _ _ (sx _ _ haz)),O,_,_,O,_,_,O,O,O,fF (leS.set rfl) (fF (leS.set rfl) (leS.set rfl))|bX ?_];show%[_,O,_,O,_,_,O,O,_,O,_,O,zS3|λ tq htq=>Nx.of hn %[sx.trans (s5.trans (G1 htq))|?_]];have tk:(aS le rs).take (n+1)=(aS le rs).take n ++ [z]:=by rw[J4,hz];rfl
    have ln':((aS le rs).take n).length=n:=by rw[J2];omega
    rw[tk,eG,ln'];exact Paired.snoc (G4 pw λ v z h=>h.same (s5.trans (G1 htq))) %[tq,rfl|au]
   ·rintro ws Hx ⟨sx,pw⟩;rw[zl,J9]at pw;have wl:=E3 pw;rw[bR]at wl;show%[⋯|λ ca hca=>hR ca ws _ ((s03.trans sx).free hca) au (G4 pw λ v z h=>h.same (G1 hca)) (sx.trans (G1 hca))]
  rintro ca cs H4 fca hca pc s4;have cl:=E3 pc;rw[bR]at cl;have s04:=s03.trans s4;show ar (λ R=>∀ot os (H':Hp),H' ot=↥os->Paired (PlA H') os (g.pl.filter λ q=>decide (q≠q0))->Same H4 H'->R [↑s,⇑q0.1,some v,↑go,↑re,↑co,↑b',⇑g.nu,↑c,⇑g.pu,↑ke,↑ca,↑ot,none] H') (λ Dd hR=>?_) ?_
  ·have hb4:=s04 _ _ hb;show%[_,O,b',O,%[_|G2 hb4]|(bY (K:=K) (.inr hb4) (λ i ys Hx=>Same H4 Hx/\Paired (PlA Hx) ys ((g.pl.take i).filter λ q=>decide (q≠q0))) (λ i ys Hx _ ⟨sx,_⟩ o e=>sx _ _ e) %[Same.refl _|.nil] ?_ ?_).2 hb4]
   ·rintro j y ys Hx hj ⟨sx,py⟩;have hjn:j < rp.length:=(A6.mp hj).1;obtain⟨q',hq',a',rfl,ha'⟩:=G5 pr' hj;have yl:=E3 py;have fl:=K1 (λ q=>decide (q≠q0)) (g.pl.take j);rw[J2]at fl;have tk:(g.pl.take (j+1)).filter (λ q=>decide (q≠q0))=(g.pl.take j).filter (λ q=>decide (q≠q0)) ++ (if decide (q'≠q0)=true then[q']else[]):=by rw[J4,hq',N1];congr 1;simp only[M5,O6,List.filter_nil]
    show%[⋯,leS.set rfl|?_];show%[_,O,_,O,.tuple [.int q'.1,.int q'.2.1,.int q'.2.2],.tuple [.int q0.1,.int q0.2.1,.int q0.2.2],.tup (G2 (sx _ _ (s04 _ _ ha'))) (.cons (.int _) (.cons (.int _) (.cons (.int _) .nil))),.tup (G2 (sx _ _ (s04 _ _ hgo))) (.cons (.int _) (.cons (.int _) (.cons (.int _) .nil))),O,O,_,O|?_];rw[LR]
    by_cases e:q'=q0
    ·rw[show(!decide ((q'.1,q'.2.1,q'.2.2)=(q0.1,q0.2.1,q0.2.2)))=false by rw[e,PY rfl];rfl];show aT (Nx.of hjn %[sx|?_]);rw[tk,PZ (by simp[e]),K0];exact py
    ·rw[show(!decide ((q'.1,q'.2.1,q'.2.2)=(q0.1,q0.2.1,q0.2.2)))=true by rw[Pf (λ z=>e z)];rfl];show aU %[_,rfl|Nx.of hjn %[sx|?_]];rw[tk,Pa (by simp[e])];exact Paired.snoc py %[a',rfl|sx _ _ (s04 _ _ ha')]
   ·rintro ys Hx ⟨sx,py⟩;rw[rpl,J9]at py;have yl:=E3 py;have fl:=K1 (λ q=>decide (q≠q0)) g.pl;show%[⋯|λ ot hot=>hR ot ys _ au (G4 py λ v z h=>h.same (G1 hot)) (sx.trans (G1 hot))]
  rintro ot os H5 hot po s5;have ol:=E3 po;have fl:=K1 (λ q=>decide (q≠q0)) g.pl;have s05:=s04.trans s5;show ar (λ R=>∀am (H':Hp),H' am= ~~~((List.zipWith (· + ·) g.md cn).map V.int)->Same H5 H'->R [↑s,⇑q0.1,some v,↑go,↑re,↑co,↑b',⇑g.nu,↑c,⇑g.pu,↑ke,↑ca,↑ot,↑am] H') (λ Dd hR=>?_) ?_
  ·have hc5:=s05 _ _ hc;have hco5:=(s3.trans (s4.trans s5)) _ _ hco;show%[_,O,_,O,c,co,_,_,O,hc5,hco5|kY (b:=true) (c:=false) (xs:=g.md.map V.int) (ys:=cn.map V.int) (λ i zs H4=>Same H5 H4/\zs=((List.zipWith (· + ·) g.md cn).take i).map V.int) (by rw[G6,G6,cl0,ml]) (λ i zs H4 ⟨s4,_⟩=>%[s4 _ _ hc5|s4 _ _ hco5]) %[Same.refl _|O] (λ i zs H4 hi ⟨_,e⟩=>by rw[e,G6,J2];rw[G6]at hi;omega) ?_ ?_]
   ·rintro n x' y' tz zs' Hx hx hy htz ⟨sx,rfl⟩;rw[J1]at hx hy;obtain⟨m',hm,rfl⟩:=K5.mp hx;obtain⟨c',hc',rfl⟩:=K5.mp hy;show aK htz λ H6 k6 s6=>?_;show%[tz,_,O,G2 k6,O,_,_,O,_,_,O,O,fF (leS.set rfl) (leS.set rfl)|bX ?_];show%[_,O,_,O,_,_,O,O|Nx.of (by rw[G6];exact(A6.mp hm).1) %[sx.trans s6|?_]];have hzz:(List.zipWith (· + ·) g.md cn)[n]?=some (m'+c'):=by rw[N9,hm,hc']
    rw[J4,hzz];simp only[M5,J7,J3,O1]
   ·rintro zs' Hx ⟨sx,rfl⟩;have wl:(List.zipWith (· + ·) g.md cn).length=ks.length:=by rw[N6,cl0,ml];omega
    show%[by rw[G6,J2];omega|λ lc hlc=>?_];rw[G6,M7 ⋯];show aK hlc λ H6 k6 s6=>?_;exact%[lc,_,O|.inl %[G3 k6|λ am ham=>hR am _ au ((sx.trans s6).trans (G1 ham))]]
  rintro am H6 ham s6;have s06:=s05.trans s6;show ar (λ R=>∀(H':Hp),StoreAt CS C H' s sh b ks le (gy le g q0 rs cn) (gs ++ [g]) pa->H' ca=↥cs->Paired (PlA H') cs (bz g.nu (aS le rs))->FrS s pa H H'->R [↑s,⇑q0.1,some v,↑go,↑re,↑co,↑b',⇑g.nu,↑c,⇑g.pu,↑ke,↑ca,↑ot,↑am] H') (λ Dd hR=>?_) ?_
  ·show%[_,O,s,dx,_,O,s06 _ _ hs,cM _ _ _ _ ∅ ∅ ∅ ∅|?_];have hca6:=(s5.trans s6) _ _ hca;show%[_,O,_,O,ot,ca,os,cs,O,O,s6 _ _ hot,hca6,⋯|λ l1 hl1=>?_];show aK hl1 λ H7 k7 s7=>?_;show%[l1,_,O|.inl %[G3 k7|λ t1 ht1=>?_]];show aK ht1 λ H8 k8 s8=>?_;have s68:=s7.trans s8;show%[_,O,_,O,ca,cs,O,.inl (G3 (s68 _ _ hca6)),_,_,O,O,_,O,_,O,zS4|λ t2 ht2=>?_];show aK ht2 λ H9 k9 s9=>?_;have s69:=s68.trans s9;have s09:=s06.trans s69;have pc9:Paired (PlA H9) cs (bz g.nu (aS le rs)):=G4 pc λ v z h=>h.same ((s5.trans s6).trans s69);have po9:Paired (PlA H9) os (g.pl.filter λ q=>decide (q≠q0)):=G4 po λ v z h=>h.same (s6.trans s69);show%[s,sh,pa,b,le,ks,g,gy le g q0 rs cn,gs,_,O,x.same s09,g1,?_|λ H10 x10 f10=>?_]
   ·show .mk (b:=t1) (c:=am) ?_ (s9 _ _ k8) (eZ po9 pc9) (s69 _ _ ham);rw[k9,cl];rfl
   ·have nca:ca≠s:=λ z=>by rw[z,hs]at fca;cases fca
    have nca2:ca≠pa:=λ z=>by rw[z,hp]at fca;cases fca
    exact hR _ x10 (f10 _ _ nca nca2 (s69 _ _ hca6)) (G4 pc9 λ v z h=>h.keep (FrS.tup (x.same s09) f10)) ((Same.frS s09).trans f10)
  rintro H7 x7 hca7 pc7 f7;show%[_,O,ca,O,%[_|G3 hca7]|(bY (K:=K) (.inl hca7) (λ i ys Hx=>Same H7 Hx/\ys=((bz g.nu (aS le rs)).take i).map λ z=>V.int z.1) (λ i ys Hx _ ⟨sx,_⟩ o e=>sx _ _ e) %[Same.refl _|O] ?_ ?_).1 hca7]
  ·rintro j y ys Hx hj ⟨sx,rfl⟩;have hjn:j < cs.length:=(A6.mp hj).1;obtain⟨z,hz,az,rfl,haz⟩:=G5 pc7 hj;show%[by rw[G6,J2,bR];omega,leS.set rfl|bX ?_];show%[_,O,az,_,0,_,O,O,G2 (sx _ _ haz),O|Nx.of hjn %[sx|?_]];rw[J4,hz];simp only[M5,J7,J3,O1]
  ·rintro ys Hx ⟨sx,rfl⟩;rw[M7 (by rw[bR];omega)];show%[by rw[G6,bR];omega|λ l hl=>?_];have fl':H l=none:=by
    cases e:H l with
    | none=>rfl
    | some o=>
     exfalso;have h7:H7 l=none:=sx.free hl
     by_cases e1:l=s
     ·obtain⟨_,_,_,hs7,_⟩:=x7.look;rw[e1,hs7]at h7;cases h7
     ·by_cases e2:l=pa
      ·obtain⟨_,_,_,_,_,_,hp7,_⟩:=x7.look;rw[e2,hp7]at h7;cases h7
      ·rw[f7 _ _ e1 e2 e]at h7;cases h7
   exact q rs l _ pe so (x7.same (sx.trans (G1 hl))) (f7.trans (Same.frS (sx.trans (G1 hl)))) fl' au
def lvT(b:Int):Tr->Int->Int->Int->Int->PP Lf
 | .cut dn p l r,x,y,w,h=>if dn=true then lvT b l x y p h ++ lvT b r (x+(p+b)) y (w - p - b) h else lvT b l x y w p ++ lvT b r x (y+(p+b)) w (h - p - b)
 | .rest,x,y,w,h=>[%[x,y,w,h|.rest]]
 | .piece i c px py,x,y,w,h=>[%[x,y,w,h|.piece i c px py]]
theorem fZ(b:Int):∀(t:Tr)(x y w h:Int),(lvT b t x y w h).Perm (lvs b t x y w h)
 | .rest,_,_,_,_=>.refl _
 | .piece ..,_,_,_,_=>.refl _
 | .cut true p l r,x,y,w,h=>by change(lvT b l x y p h ++ lvT b r (x+(p+b)) y (w - p - b) h).Perm _;rw[lvs];exact((fZ b l _ _ _ _).append (fZ b r _ _ _ _)).trans List.perm_append_comm
 | .cut false p l r,x,y,w,h=>by change(lvT b l x y w p ++ lvT b r x (y+(p+b)) w (h - p - b)).Perm _;rw[lvs];exact((fZ b l _ _ _ _).append (fZ b r _ _ _ _)).trans List.perm_append_comm
theorem cT(b:Int):∀(t:Tr)(x y w h:Int),(lvT b t x y w h).length=lvN t
 | .rest,_,_,_,_=>rfl
 | .piece ..,_,_,_,_=>rfl
 | .cut true p l r,x,y,w,h=>by change(lvT b l x y p h ++ lvT b r (x+(p+b)) y (w - p - b) h).length=lvN l+lvN r;rw[G8,cT b l,cT b r]
 | .cut false p l r,x,y,w,h=>by change(lvT b l x y w p ++ lvT b r x (y+(p+b)) w (h - p - b)).length=lvN l+lvN r;rw[G8,cT b l,cT b r]
def Bo(H:Hp)(v:V)(q:Pce):Prop:=∃a,v=.ref a/\PA H a q
theorem TrV.dat{K:C5}{H:Hp}:∀(t:Tr){v:V},TrV H t v->DatV K H v (toD t)
 | .rest,_,⟨a,e,h⟩=>by subst e;exact .tup (G2 h) (.cons (.str _) .nil)
 | .piece ..,_,⟨a,e,h⟩=>by subst e;exact .tup (G2 h) (.cons (.str _) (.cons (.int _) (.cons (.bl _) (.cons (.int _) (.cons (.int _) .nil)))))
 | .cut _ _ l r,_,⟨a,x,y,e,h,h1,h2⟩=>by subst e;exact .tup (G2 h) (.cons (.str _) (.cons (.int _) (.cons (TrV.dat l h1) (.cons (TrV.dat r h2) .nil))))
theorem om:∀t:Tr,(toD t).canLay0=true/\(toD t).depth=dT t+1
 | .rest=>%[∅|O]
 | .piece ..=>%[by simp[toD,PyData.canLay0,PyData.canLayAll0];decide +kernel|O]
 | .cut dn p l r=>by
  obtain⟨l1,l2⟩:=om l;obtain⟨r1,r2⟩:=om r;show%[?_|?_]
  ·simp[toD,PyData.canLay0,PyData.canLayAll0,l1,r1];cases dn <;> decide +kernel
  ·simp only[toD,PyData.depth,PyData.depthAll,l2,r2,dT];omega
theorem jn{t:Tr}(h:dT t<=40):SeqAt.shaped (toD t)=true:=by
 obtain⟨h1,h2⟩:=om t;unfold SeqAt.shaped;rw[h1,h2,PY ⋯]
 rfl
def LfV(H:Hp)(v:V)(f:Lf):Prop:=∃a lv,v=.ref a/\H a= ~~~[.int f.x,.int f.y,.int f.w,.int f.h,lv]/\TrV H f.t lv/\dT f.t=0
theorem LfV.same{H H':Hp}(s:Same H H'){v:V}{f:Lf}(h:LfV H v f):LfV H' v f:=by obtain⟨a,lv,e,h,t,d⟩:=h;exact%[a,lv,e,s _ _ h,TrV.keep (λ a xs e=>s _ _ e) f.t t|d]
theorem vo{H:Hp}:∀{ys:PP V}{qs:PP (Nat×Bool)},Paired (LyC H) ys qs->Paired (PrQ H) ys (qs.map λ q=>((q.1:Int),q.2))
 | _,_,.nil=>.nil
 | _,_,.cons h r=>.cons h (vo r)
def iA:Sp:=λ vs H Q _=>∃(i l:Int),vs=[.int i,.int l]/\Q (.bl (decide (l<=i))) H
def oq:Sp:=λ vs H Q _=>∃(t kl a:PK)(b W h x y:Int)(ks:PP Kd)(i:Nat)(c:Bool),vs=[.ref t,.int W,.int h,.ref a]/\LS H t b ks kl/\ks.length<=8/\H a=some (.tup [.str "piece",.int i,.bl c,.int x,.int y])/\okU b ks W h (.piece i c x y)/\∀H',Same H H'->Q (.bl true) H'
def ga(n:Nat):Sp:=λ vs H Q _=>∃(t kl pa:PK)(b x y W h:Int)(ks:PP Kd)(v:V)(T:Tr),vs=[.ref t,.ref pa,v]/\LS H t b ks kl/\ks.length<=8/\H pa= ~~~[.int x,.int y,.int W,.int h]/\TrV H T v/\okU b ks W h T/\dT T<=40/\lvN T<=1000/\dT T < n/\∀(l:PK)(us:PP V)(H':Hp),H l=none->H' l=↥us->Paired (LfV H') us (lvT b T x y W h)->Same H H'->Q (.ref l) H'
def yM(K:C5):Sp:=λ vs H Q _=>∃(l:PK)(us:PP V)(fs:PP Lf),vs=[.ref l]/\H l=↥us/\Paired (LfV H) us fs/\fs.length < 64/\∀(r:PK)(ys:PP V)(qs:PP Pce)(H':Hp),H r=none->H' r=↥ys->Paired (Bo H') ys qs->qs.Perm (fs.filterMap lfP)->((qs.map rc).Pairwise λ x y=>cu y x=false)->Same H H'->Q (.ref r) H'
theorem scplain:FnScope Qn Qn (defScope lr):=nofun
theorem vp{f:PK}{fd:F8}(F:Fun K "_law_plain" "_law_plain" lr f fd)(B:Blt mg):FnOk P w K mg base CX0 1 f fd Qn (iA):=by
 exists scplain;obtain⟨i,l,rfl,q⟩:=h;show%[_,((cO (@aD _ _ _ _ _ _ _ _ _ bi O B.isi Pb ('0'^^^((bS (v:=.ty "int") O B.int Pg O)^^^ad)) ∅ ∅ O O) (cO (mU (@aD _ _ _ _ _ _ _ _ _ bi O B.isi Pb ('0'^^^((bS (v:=.ty "bool") O B.bool Pz O)^^^ad)) ∅ ∅ O O)) (dk (@bB _ _ _ _ _ _ _ _ jD '0' '1' (aH _)))))⁻¹)|?_];dsimp only[bF];have ty:TyOf K H (.int i) (.type "int"):=.int i;show%[_,O,.int i,_,_,_,_,O,ty,O,oS "int" ∅,_,O|?_];show aU %[_,rfl,.int i,_,_,_,_,rfl,ty,rfl,dP "int" ∅,_,rfl,_,rfl|?_];exact aU %[_,rfl,_,rfl,_,_,rfl,rfl|q]
theorem scislf:FnScope ["_law_shop_here","_law_wide","_law_high","_law_tree_here","_law_own"] Qo (defScope gw):=nofun
theorem xW{f:PK}{fd:F8}(F:Fun K "_law_is_leaf" "_law_is_leaf" gw f fd)(B:Blt mg)(DPl:Dn P w K mg base "_law_plain" Qn 1 (iA))(DSd:Dn P w K mg base "_law_sides" QU 1 (spSidesC))(DLy:Dn P w K mg base "_law_lyings" QV 1 (spLyingsC)):FnOk P w K mg base CX0 2 f fd Qo (oq):=by
 apply F.ok scislf (λ vs H Q E h=>?_) (λ cdv A outer s H vs Q E hr h=>?_)
 ·show cS λ G9 k9=>?_;obtain⟨t,kl,a,b,W,h1,x,y,ks,i,c,rfl,_⟩:=h;show k9 ?_
  rfl
 show cS λ G9 k9=>?_;obtain⟨t,kl,a,b,W,h1,x,y,ks,i,c,rfl,sh,k8,ha,okp,q⟩:=h;show k9 ?_;have nd:=scislf.nd;have hu65:=Nat.lt_of_succ_lt hr.units66;show%[_,(((PW.pt (bQ ((@aD _ _ _ _ _ _ _ _ _ aY O B.len Pj ('3'^^^ad) ∅ ∅ O O)<*>eQ<*>af) (bQ (@bh _ _ _ _ (@aV _ _ _ (DPl∩(('3'&&&ix_tup&&&af)^^^(af^^^ad))) (by intro _;rfl))) (bT (@bh _ _ _ _ (@aV _ _ _ (@aD _ _ _ _ _ _ _ _ _ bi O B.isi Pb (('3'&&&ix_tup&&&af)^^^((bS (v:=.ty "bool") O B.bool Pz O)^^^ad)) ∅ ∅ O O) (by intro _;rfl)))))))<|>(bP⁻¹)<|>aG)<<<(((PW.pt (bQ (@aJ _ _ _ _ _ _ _ _ (qG hu65) (@eS _ _ _ _ _ _ _ _ _ _ iH '3' (fh af) (fh af)) (DLy∩('0'^^^ad)) O) (bQ (@bh _ _ _ _ (@aV _ _ _ (DPl∩(('3'&&&ix_tup&&&af)^^^(af^^^ad))) (by intro _;rfl))) (bT (@bh _ _ _ _ (@aV _ _ _ (DPl∩(('3'&&&ix_tup&&&af)^^^(af^^^ad))) (by intro _;rfl)))))))<|>(bP⁻¹)<|>aG)<<<((4∣(DSd∩('0'^^^(('3'&&&ix_tup&&&af)^^^(('3'&&&ix_tup&&&af)^^^ad)))))<<<((cO (@bB _ _ _ _ _ _ _ _ gS (('3'&&&ix_tup&&&af)|||aW|||('4'&&&ix_tup&&&af)) '1' (aH _)) (dk (@bB _ _ _ _ _ _ _ _ gS (('3'&&&ix_tup&&&af)|||aW|||('4'&&&ix_tup&&&af)) '2' (aH _))))⁻¹))))|?_];dsimp only[bF];obtain⟨k,hk,hly,x0,y0,fx,fy⟩:=okp;show ar (λ R=>R [↑t,⇑W,⇑h1,↑a,none] H) (λ Dd hR=>?_) ?_
 ·show%[_,O,a,_,O,.inr (G2 ha),O,_,O|?_];show aT %[_,rfl,a,_,1,_,rfl,rfl,G2 ha,rfl,i,0,rfl,_,rfl|?_];rw[PY (show(0:Int)<=i by omega)];show aT %[_,rfl,a,_,2,_,rfl,rfl,G2 ha,rfl,.bl c,_,_,_,_,rfl,.bl c,rfl,dP "bool" ∅,_,rfl|?_];exact aT (hR)
 skip
 show ar (λ R=>∀(H':Hp),Same H H'->R [↑t,⇑W,⇑h1,↑a,none] H') (λ Dd hR=>?_) ?_
 ·show%[_,O,_,O,_,O,a,_,O,G2 ha,(λ z=>absurd z.1 (show¬ HT.sIx 5 0 (some 1)=0 by decide))|λ s2 hs2=>?_];show aK hs2 λ H1 k1 s1=>?_;have k1:H1 s2= ~~~[.int i,.bl c]:=k1;show%[_,O,t,kl,b,ks,O,sh.same s1,k8|λ l ys H2 hl hl0 pl s12=>?_];show%[s2,l,i,c,ys,_,O,O,s12 _ _ k1,hl,vo pl,_,O|?_];have ha2:=s12 _ _ (s1 _ _ ha);rw[show(!((lyK ks 0).map λ q=>((q.1:Int),q.2)).any λ q=>q.1 == i && q.2 == c)=false by
   rw[List.any_eq_true.mpr %[((i:Int),c),M4.mpr %[(i,c),hly|O]|by rw[beq_self_eq_true,beq_self_eq_true];rfl]]
   rfl]
  show aT %[_,rfl,a,_,3,_,rfl,rfl,G2 ha2,rfl,x,0,rfl,_,rfl|?_];rw[PY x0];show aT %[_,rfl,a,_,4,_,rfl,rfl,G2 ha2,rfl,y,0,rfl,_,rfl|?_];rw[PY y0];exact aT (hR _ (s1.trans s12))
 rintro H2 s2;have ha2:=s2 _ _ ha;show ar (λ R=>∀(ow:PK)(H':Hp),H' ow= ~~~[.int (sd1 k c),.int (sd2 k c)]->Same H2 H'->R [↑t,⇑W,⇑h1,↑a,↑ow] H') (λ Dd hR=>?_) ?_
 ·exact%[_,O,_,O,a,_,1,_,O,O,G2 ha2,O,_,O,a,_,2,_,O,O,G2 ha2,O,t,kl,b,ks,i,c,k,O,sh.same s2,hk|λ r H3 hr s3=>hR r _ hr s3]
 rintro ow H3 how s23;have ha3:=s23 _ _ ha2;show%[_,O,a,_,3,_,O,O,G2 ha3,O,_,O,ow,_,0,_,O,O,G2 how,O,_,_,O,O,_,O,_,_,O,O,_,O|?_];rw[PY fx];show aU %[_,rfl,a,_,4,_,rfl,rfl,G2 ha3,rfl,_,rfl,ow,_,1,_,rfl,rfl,G2 how,rfl,_,_,rfl,rfl,_,rfl,_,_,rfl,rfl|?_];have:=q H3 (s2.trans s23);change Q (V.bl (decide (y+sd2 k c<=h1))) H3;rw[PY fy];exact this
theorem jo{t:Tr}(h:t≠.rest):PyData.eqv (toD t) (.tuple [.str "rest"])=false:=by
 cases t with
 | rest=>exact absurd rfl h
 | piece i c x y=>simp[toD,PyData.eqv,PyData.eqvAll]
 | cut dn p l r=>simp[toD,PyData.eqv,PyData.eqvAll]
theorem xX{H H':Hp}{a b m:PK}{o:HO}(h:(H'=H/\(m=a\/m=b))\/(H m=none/\H'=upd H m o)):Same H H':=by
 rcases h with⟨e,_⟩ | ⟨e1,e2⟩
 ·rw[e];exact Same.refl _
 ·rw[e2];exact G1 e1
theorem scwalk:FnScope ["_law_shop_here","_law_part","_law_tree_here","_law_x","_law_y","_law_wide","_law_high","_law_way","_law_p","_law_first","_law_second","_law_one","_law_other","_law_far","_law_start","_law_left","_law_right"] Qp (defScope jW):=nofun
theorem xY{f:PK}{fd:F8}(F:Fun K "_law_walk" "_law_walk" jW f fd)(n:Nat)(B:Blt mg)(hst:mg "str" = none)(DPl:Dn P w K mg base "_law_plain" Qn 1 (iA))(DIL:Dn P w K mg base "_law_is_leaf" Qo 2 (oq))(DBh:Dn P w K mg base "_law_behind" QW 1 (spBeh))(DWk:Dn P w K mg base "_law_walk" Qp (3+n) (ga n)):FnOk P w K mg base CX0 (3+(n+1)) f fd Qp (ga (n+1)):=by
 apply F.ok scwalk (λ vs H Q E h=>?_) (λ cdv A outer s H vs Q E hr h=>?_)
 ·show cS λ G9 k9=>?_;obtain⟨t,kl,pa,b,x,y,W,h1,ks,v,T,rfl,_⟩:=h;show k9 ?_
  rfl
 show cS λ G9 k9=>?_;obtain⟨t,kl,pa,b,x,y,W,h1,ks,v,T,rfl,sh,k8,hpa,tv,okT,d40,l1000,dn0,q⟩:=h;show k9 ?_;have nd:=scwalk.nd;have hu:=hr.units;show%[_,((@bA _ _ _ _ _ _ '1' (bf O (3•(4•(5•(6•aQ))))) O O O)<<<(((PW.pt (bQ (@bh _ _ _ _ (@aV _ _ _ (@aD _ _ _ _ _ _ _ _ _ bi O B.isi Pb ('2'^^^((bS (v:=.ty "tuple") O B.tuple Pi O)^^^ad)) ∅ ∅ O O) (by intro _;rfl))) (bQ ('2'<*>(kN hu)<*>(@aI _ _ _ _ _ ad)) (bT (@bh _ _ _ _ (@aV _ _ _ (@aD _ _ _ _ _ _ _ _ _ bi O B.isi Pb (('2'&&&ix_tup&&&af)^^^((bS (v:=.ty "str") O hst PyProof.Rows.boot_str O)^^^ad)) ∅ ∅ O O) (by intro _;rfl)))))))<|>(ci⁻¹)<|>aG)<<<((('2'<*>(kN hu)<*>(@aI _ _ _ _ _ (aB^^^ad)))<|>((@aL _ _ _ _ ((@aI _ _ _ _ _ ('3'^^^('4'^^^('5'^^^('6'^^^('2'^^^ad))))))^^^ad))⁻¹)<|>aG)<<<(((('2'&&&ix_tup&&&af)<*>bC<*>aB)<|>(((@aL _ _ _ _ (ci^^^((@aL _ _ _ _ ((@aI _ _ _ _ _ ('3'^^^('4'^^^('5'^^^('6'^^^('2'^^^ad))))))^^^ad))^^^ad)))&&&ix_list&&&(@bg _ _ _ _ _ _ _ _ _ cC O B.int Pg ((@ax _ _ _ _ _ _ _ _ _ _ DIL (hr.mono (show 2<=3+n by omega)) O ('0'^^^('5'^^^('6'^^^('2'^^^ad)))) ∅ O O)^^^ad) ∅ ∅ O O))⁻¹)<|>aG)<<<(((PW.pt (bQ (@aJ _ _ _ _ _ _ _ _ kD ('2'&&&ix_tup&&&af) (@aI _ _ _ _ _ (aB^^^(aB^^^ad))) O) (bQ ((@aD _ _ _ _ _ _ _ _ _ aY O B.len Pj ('2'^^^ad) ∅ ∅ O O)<*>eQ<*>af) (bT (@bh _ _ _ _ (@aV _ _ _ (@ax _ _ _ _ _ _ _ _ _ _ DPl (hr.mono (show 1<=3+n by omega)) O (('2'&&&ix_tup&&&af)^^^(af^^^ad)) ∅ O O) (by intro _;rfl)))))))<|>(ci⁻¹)<|>aG)<<<((@bA _ _ _ _ _ _ '2' (bf O (7•(8•(9•(10•aQ))))) O O O)<<<(((('8'|||aW|||('0'&&&ix_tup&&&af))<*>jD<*>((@aL _ _ _ _ ('5'^^^('6'^^^ad)))&&&ix_list&&&(@bg _ _ _ _ _ _ _ _ _ cC O B.int Pg ((@bB _ _ _ _ _ _ _ _ bC '7' aB (aH _))^^^ad) ∅ ∅ O O)))<|>(ci⁻¹)<|>aG)<<<((@bA _ _ _ _ _ _ (@ax _ _ _ _ _ _ _ _ _ _ DBh (hr.mono (show 1<=3+n by omega)) O ('0'^^^('5'^^^('6'^^^('7'^^^('8'^^^ad))))) ∅ O O) (bf O (11•(12•aQ))) O O O)<<<((13∣('8'|||aW|||('0'&&&ix_tup&&&af)))<<<((14∣((@aL _ _ _ _ ((@aI _ _ _ _ _ (('3'|||aW|||'=')^^^('4'^^^ad)))^^^((@aI _ _ _ _ _ ('3'^^^(('4'|||aW|||'=')^^^ad)))^^^ad)))&&&ix_list&&&(@bg _ _ _ _ _ _ _ _ _ cC O B.int Pg ((@bB _ _ _ _ _ _ _ _ bC '7' aB (aH _))^^^ad) ∅ ∅ O O)))<<<((15∣(DWk∪('0'^^^(((@aI _ _ _ _ _ ('3'^^^('4'^^^ad)))|||gr|||';')^^^('9'^^^ad)))))<<<((16∣(DWk∪('0'^^^(('>'|||gr|||'<')^^^(':'^^^ad)))))<<<(((PW.pt (bQ ('?'<*>tP<*>ci) (bT ('@'<*>tP<*>ci))))<|>(ci⁻¹)<|>aG)<<<(('?'|||kG|||'@')⁻¹))))))))))))))|?_]
 dsimp only[bF];have sz:(5000:Nat) < sizeLine:=∅
 have shT:=jn d40;have dat:=TrV.dat (K:=K) T tv;obtain⟨av,xs,rfl,hav,y0,rest',exs⟩:∃av xs,v=.ref av/\H av= ~~~xs/\∃(y0:Str)(r:PP V),xs=.str y0 :: r:=by
  cases T with
  | rest=>obtain⟨a,e,h⟩:=tv;exact%[a,_,e,h,_,_|O]
  | piece i c px py=>obtain⟨a,e,h⟩:=tv;exact%[a,_,e,h,_,_|O]
  | cut dn p l r=>obtain⟨a,x',y',e,h,_⟩:=tv;exact%[a,_,e,h,_,_|O]
 show ar (λ R=>R [↑t,↑pa,↑av,⇑x,⇑y,⇑W,⇑h1,none,none,none,none,none,none,none,none,none,none] H) (λ Dd hR=>?_) ?_
 ·exact%[_,O,pa,_,O,G2 hpa,O,_,_,O,_,_,O,_,_,O,_,_,O,O|hR]
 skip
 show ar (λ R=>∀(H':Hp),Same H H'->R [↑t,↑pa,↑av,⇑x,⇑y,⇑W,⇑h1,none,none,none,none,none,none,none,none,none,none] H') (λ Dd hR=>?_) ?_
 ·subst exs;show%[_,O,.ref av,_,_,_,_,O,.tup hav,O,cp "tuple" ∅,_,O|?_];show aT %[_,rfl,zS0|λ e he=>?_];show aK he λ H1 k1 s1=>?_;show%[toD T,.tuple [],TrV.dat (K:=K) T (TrV.keep (λ a xs e=>s1 _ _ e) T tv),.tup (G2 k1) .nil,shT,∅,_,O|?_];rw[show PyData.eqv (toD T) (.tuple [])=false by cases T <;> rfl];show aT %[_,rfl,av,_,0,_,rfl,rfl,G2 (s1 _ _ hav),bq (E5 _) rfl,.str y0,_,_,_,_,rfl,.str y0,rfl,dH "str" ∅,_,rfl|aT (hR _ s1)]
 rintro H1 s1;have ret:∀{Hx:Hp}{a l:PK},H l=none->Same H Hx->dT T=0->lvT b T x y W h1=[%[x,y,W,h1|T]]->Hx a= ~~~[.int x,.int y,.int W,.int h1,.ref av]->Hx l=↥[.ref a]->Q (.ref l) Hx:=λ fl sx d0 e ha hl=>by show q _ [.ref _] _ fl hl ?_ sx;rw[e];exact .cons %[_,.ref av,O,ha,TrV.keep (λ a xs e=>sx _ _ e) T tv|d0] .nil
 show cg (λ R=>∀(H':Hp),Same H H'->T≠.rest->R [↑t,↑pa,↑av,⇑x,⇑y,⇑W,⇑h1,none,none,none,none,none,none,none,none,none,none] H') (λ R hR=>?_) ?_
 ·show%[_,O,zS1|λ e he=>?_];show aK he λ H2 k2 s2=>?_;have s02:=s1.trans s2;show%[toD T,.tuple [.str "rest"],TrV.dat (K:=K) T (TrV.keep (λ a xs e=>s02 _ _ e) T tv),.tup (G2 k2) (.cons (.str _) .nil),shT,∅,_,O|?_];cases T with
  | rest=>
   rw[show PyData.eqv (toD .rest) (.tuple [.str "rest"])=true by decide +kernel];show aU %[_,rfl,_,rfl,_,rfl,_,rfl,_,rfl,zS5|λ a ha=>?_];show aK ha λ H3 k3 s3=>?_;show%[zS1|λ l hl=>?_];show aK hl λ H4 k4 s4=>?_;exact ret ((s02.trans s3).free hl) (s02.trans (s3.trans s4)) rfl rfl (s4 _ _ k3) k4
  | piece i c px py=>
   rw[jo (t:=.piece i c px py) (λ z=>nomatch z)];exact aT (hR _ s02 (λ z=>nomatch z))
  | cut dn p l r=>
   rw[jo (t:=.cut dn p l r) (λ z=>nomatch z)];exact aT (hR _ s02 (λ z=>nomatch z))
 clear s1;clear H1;rintro H1 s1 nr;show cg (λ R=>∀(H':Hp),Same H H'->(∃dn p l r,T=.cut dn p l r)->R [↑t,↑pa,↑av,⇑x,⇑y,⇑W,⇑h1,none,none,none,none,none,none,none,none,none,none] H') (λ R hR=>?_) ?_
 ·cases T with
  | rest=>exact absurd rfl nr
  | piece i c px py=>
   obtain⟨a0,e0,h0⟩:=id tv;cases e0;rw[hav]at h0;cases h0;show%[_,O,av,_,0,_,O,O,G2 (s1 _ _ hav),O,O,_,O|?_];show vb ∅ %[_,rfl,_,rfl,_,rfl,_,rfl,_,rfl,zS5|λ a ha=>?_];show aK ha λ H3 k3 s3=>?_;show%[zS1|λ l hl=>?_];show aK hl λ H4 k4 s4=>?_;show%[zS2|λ l2 hl2=>?_];show aK hl2 λ H5 k5 s5=>?_;have s05:=s1.trans (s3.trans (s4.trans s5));show%[_,O,_,O,_,O,_,O,t,kl,av,b,W,h1,px,py,ks,i,c,O,sh.same s05,k8,s05 _ _ hav,okT|λ H6 s6=>.inr %[true,O,l2,_,_,.ref l,O,O,G3 (s6 _ _ k5),O|ret ((s1.trans s3).free hl) (s05.trans s6) rfl rfl (s6 _ _ (s5 _ _ (s4 _ _ k3))) (s6 _ _ (s5 _ _ k4))]]
  | cut dn p l r=>
   obtain⟨a0,x',y',e0,h0,_⟩:=id tv;cases e0;rw[hav]at h0;cases h0;show%[_,O,av,_,0,_,O,O,G2 (s1 _ _ hav),O,O,_,O|?_];exact kn (by cases dn <;> decide +kernel) (hR _ s1 %[dn,p,l,r|rfl])
 clear s1 ret;clear H1;rintro H1 s1 ⟨dn,p,l,r,rfl⟩;obtain⟨a0,fv,sv,e0,h0,tl,tr⟩:=id tv;cases e0;have h0:H av= ~~~[.str (wyS dn),.int p,fv,sv]:=h0;rw[hav]at h0;obtain rfl:=HO.tup.inj (B8 h0);clear h0;obtain⟨p1,okc⟩:=id okT;show ar (λ R=>∀(H':Hp),Same H H'->R [↑t,↑pa,↑av,⇑x,⇑y,⇑W,⇑h1,none,none,none,none,none,none,none,none,none,none] H') (λ Dd hR=>?_) ?_
 ·show%[_,O,av,_,0,_,O,O,G2 (s1 _ _ hav),O,zS2|λ tt htt=>?_];show aK htt λ H2 k2 s2=>?_;have hav2:=s2 _ _ (s1 _ _ hav);show%[tt,_,O,.inr (G2 k2),O,O,_,O|?_];rw[show inV (V.str (wyS dn)) [V.str "down",V.str "across"]=true by cases dn <;> decide +kernel];show aT %[_,rfl,av,_,rfl,.inr (G2 hav2),rfl,_,rfl|?_];show aT %[_,rfl,av,_,1,_,rfl,rfl,G2 hav2,rfl,p,1,rfl,_,rfl|?_];rw[PY p1];exact aT (hR _ (s1.trans s2))
 clear s1;clear H1;rintro H1 s1;show ar (λ R=>R [↑t,↑pa,↑av,⇑x,⇑y,⇑W,⇑h1,some (.str (wyS dn)),⇑p,some fv,some sv,none,none,none,none,none,none] H1) (λ Dd hR=>?_) ?_
 ·exact%[_,O,av,_,O,G2 (s1 _ _ hav),O,_,_,O,_,_,O,_,_,O,_,_,O,O|hR]
 skip
 obtain⟨kr,ht0,_⟩:=id sh;have hix:∀{Hx:Hp}{rl:PK}{u1 u2:V},Hx rl=↥[u1,u2]->atI [u1,u2] (if decide (V.str (wyS dn)=V.str "across")=true then 1 else 0)=some (if dn=true then u1 else u2):=λ _=>by
  cases dn with
  | true=>
   rw[show decide (V.str (wyS true)=V.str "across")=false by decide +kernel]
   rfl
  | false=>
   rw[show decide (V.str (wyS false)=V.str "across")=true by decide +kernel]
   rfl
 show ar (λ R=>∀(H':Hp),Same H H'->R [↑t,↑pa,↑av,⇑x,⇑y,⇑W,⇑h1,some (.str (wyS dn)),⇑p,some fv,some sv,none,none,none,none,none,none] H') (λ Dd hR=>?_) ?_
 ·show%[_,O,_,O,t,_,0,_,O,O,G2 (s1 _ _ ht0),O,_,_,O,O,_,O,_,O,zS2|λ rl hrl=>?_];show aK hrl λ H2 k2 s2=>?_;show%[_,O,O|.inr %[_,O,rl,_,_,.int (if dn=true then W else h1),O,O,G3 k2,?_,_,_,O,O,_,O|?_]]
  ·rw[hix k2];cases dn <;> rfl
  ·show kn (B1 ?_) (hR _ (s1.trans s2));cases dn with
   | true=>
    have:p+b < W:=okc.1;change¬ W<=p+b;omega
   | false=>
    have:p+b < h1:=okc.1;change¬ h1<=p+b;omega
 clear s1;clear H1;rintro H1 s1;show ar (λ R=>∀(o1 o2:PK)(H':Hp),H' o1= ~~~[.int (if dn=true then p else W),.int (if dn=true then h1 else p)]->H' o2= ~~~[.int (if dn=true then W - p - b else W),.int (if dn=true then h1 else h1 - p - b)]->Same H H'->R [↑t,↑pa,↑av,⇑x,⇑y,⇑W,⇑h1,some (.str (wyS dn)),⇑p,some fv,some sv,↑o1,↑o2,none,none,none,none] H') (λ Dd hR=>?_) ?_
 ·exact%[_,O,_,O,_,O,_,O,_,O,t,kl,b,W,h1,p,ks,dn,O,sh.same s1|λ rr r1 r2 H6 e1 e2 e3 s6=>%[rr,_,O,G2 e1,O,_,_,O,_,_,O,O|hR r1 r2 _ e2 e3 (s1.trans s6)]]
 clear s1;clear H1;rintro o1 o2 H1 ho1 ho2 s1;show ar (λ R=>R [↑t,↑pa,↑av,⇑x,⇑y,⇑W,⇑h1,some (.str (wyS dn)),⇑p,some fv,some sv,↑o1,↑o2,⇑(p+b),none,none,none] H1) (λ Dd hR=>?_) ?_
 ·exact%[_,O,_,O,t,_,0,_,O,O,G2 (s1 _ _ ht0),O,_,_,O,O|hR]
 skip
 show ar (λ R=>∀(st:PK)(H':Hp),H' st= ~~~[.int (if dn=true then x+(p+b)else x),.int (if dn=true then y else y+(p+b))]->Same H1 H'->R [↑t,↑pa,↑av,⇑x,⇑y,⇑W,⇑h1,some (.str (wyS dn)),⇑p,some fv,some sv,↑o1,↑o2,⇑(p+b),↑st,none,none] H') (λ Dd hR=>?_) ?_
 ·show%[_,O,_,O,_,_,O,O,_,O,zS2|λ a1 ha1=>?_];show aK ha1 λ H2 k2 s2=>?_;show%[_,O,_,O,_,O,_,_,O,O,zS2|λ a2 ha2=>?_];show aK ha2 λ H3 k3 s3=>?_;show%[zS2|λ l3 hl3=>?_];show aK hl3 λ H4 k4 s4=>?_;show%[_,O,O|.inr %[_,O,l3,_,_,_,O,O,G3 k4,hix k4|?_]];cases dn with
  | true=>exact hR a1 _ (s4 _ _ (s3 _ _ k2)) (s2.trans (s3.trans s4))
  | false=>exact hR a2 _ (s4 _ _ k3) (s2.trans (s3.trans s4))
 rintro st H2 hst s12;have s02:=s1.trans s12;have ok1:okU b ks (if dn=true then p else W) (if dn=true then h1 else p) l:=by
  cases dn with
  | true=>exact okc.2.1
  | false=>exact okc.2.1
 have ok2:okU b ks (if dn=true then W - p - b else W) (if dn=true then h1 else h1 - p - b) r:=by
  cases dn with
  | true=>exact okc.2.2
  | false=>exact okc.2.2
 have dd:max (dT l) (dT r)+1<=40:=d40;have dn1:max (dT l) (dT r)+1 < n+1:=dn0;have ll:lvN l+lvN r<=1000:=l1000;show ar (λ R=>∀(ll:PK)(lu:PP V)(H':Hp),H' ll=↥lu->Paired (LfV H') lu (lvT b l x y (if dn=true then p else W) (if dn=true then h1 else p))->Same H2 H'->R [↑t,↑pa,↑av,⇑x,⇑y,⇑W,⇑h1,some (.str (wyS dn)),⇑p,some fv,some sv,↑o1,↑o2,⇑(p+b),↑st,↑ll,none] H') (λ Dd hR=>?_) ?_
 ·show%[_,O,_,O,_,O,zS2|λ a1 ha1=>?_];show aK ha1 λ H3 k3 s3=>?_;show%[_,O,a1,o1,_,_,O,O,k3,s3 _ _ (s12 _ _ ho1),(by change 2+2<=sizeLine;decide)|λ mm Hm hm hm'=>?_];have sm:Same H2 Hm:=s3.trans (xX hm);have s0m:=s02.trans sm;exact%[_,O,t,kl,mm,b,x,y,_,_,ks,fv,l,O,sh.same s0m,k8,hm',TrV.keep (λ a xs e=>s0m _ _ e) l tl,ok1,⋯,⋯,⋯|λ la us H' _ hl pl s'=>hR la us _ hl pl (sm.trans s')]
 rintro la lu H3 hla plu s23;have s03:=s02.trans s23;show ar (λ R=>∀(lb:PK)(lw:PP V)(H':Hp),H' lb=↥lw->Paired (LfV H') lw (lvT b r (if dn=true then x+(p+b)else x) (if dn=true then y else y+(p+b)) (if dn=true then W - p - b else W) (if dn=true then h1 else h1 - p - b))->Same H3 H'->R [↑t,↑pa,↑av,⇑x,⇑y,⇑W,⇑h1,some (.str (wyS dn)),⇑p,some fv,some sv,↑o1,↑o2,⇑(p+b),↑st,↑la,↑lb] H') (λ Dd hR=>?_) ?_
 ·show%[_,O,_,O,_,O,st,o2,_,_,O,O,s23 _ _ hst,s23 _ _ (s12 _ _ ho2),(by change 2+2<=sizeLine;decide)|λ mm Hm hm hm'=>?_];have sm:Same H3 Hm:=xX hm;have s0m:=s03.trans sm;exact%[_,O,t,kl,mm,b,_,_,_,_,ks,sv,r,O,sh.same s0m,k8,hm',TrV.keep (λ a xs e=>s0m _ _ e) r tr,ok2,⋯,⋯,⋯|λ lb us H' _ hl pl s'=>hR lb us _ hl pl (sm.trans s')]
 rintro lb lw H4 hlb plw s34;show ar (λ R=>R [↑t,↑pa,↑av,⇑x,⇑y,⇑W,⇑h1,some (.str (wyS dn)),⇑p,some fv,some sv,↑o1,↑o2,⇑(p+b),↑st,↑la,↑lb] H4) (λ Dd hR=>?_) ?_
 ·exact%[_,O,O,_,O|kn rfl %[_,O,O,_,O|kn rfl (hR)]]
 skip
 have le1:=E3 plu;have le2:=E3 plw;rw[cT]at le1 le2;show%[_,O,_,O,la,lb,lu,lw,O,O,s34 _ _ hla,hlb,⋯|λ lo hlo=>?_];show aK hlo λ H5 k5 s5=>?_;show q lo _ H5 ((s03.trans s34).free hlo) k5 ?_ (s03.trans (s34.trans s5));have pa:=eZ (G4 plu λ v f h=>h.same (s34.trans s5)) (G4 plw λ v f h=>h.same s5);cases dn with
 | true=>exact pa
 | false=>exact pa
theorem vq{f:PK}{fd:F8}(F:Fun K "_law_walk" "_law_walk" jW f fd):FnOk P w K mg base CX0 3 f fd Qp (ga 0):=by
 apply F.ok scwalk (λ vs H Q E h=>?_) (λ cdv A outer s H vs Q E hr h=>?_)
 ·show cS λ G9 k9=>?_;obtain⟨t,kl,pa,b,x,y,W,h1,ks,v,T,rfl,_⟩:=h;show k9 ?_
  rfl
 ·show cS λ G9 k9=>?_;obtain⟨t,kl,pa,b,x,y,W,h1,ks,v,T,_,_,_,_,_,_,_,_,z,_⟩:=h;show k9 ?_;exact absurd z (E9 _)
theorem mF{f:PK}{fd:F8}(F:Fun K "_law_walk" "_law_walk" jW f fd)(B:Blt mg)(hst:mg "str" = none)(DPl:Dn P w K mg base "_law_plain" Qn 1 (iA))(DIL:Dn P w K mg base "_law_is_leaf" Qo 2 (oq))(DBh:Dn P w K mg base "_law_behind" QW 1 (spBeh))(mk:∀n,FnOk P w K mg base CX0 (3+n) f fd Qp (ga n)->Dn P w K mg base "_law_walk" Qp (3+n) (ga n)):∀n,FnOk P w K mg base CX0 (3+n) f fd Qp (ga n)
 | 0=>vq F
 | n+1=>xY F n B hst DPl DIL DBh (mk n (mF F B hst DPl DIL DBh mk n))
theorem scpcs:FnScope ["_law_leaves","_law_found","_law_x","_law_y","_law_wide","_law_high","_law_leaf_here"] Qq (defScope ir):=nofun
theorem zK{f:PK}{fd:F8}(F:Fun K "_law_pieces" "_law_pieces" ir f fd)(B:Blt mg):FnOk P w K mg base CX0 1 f fd Qq (yM K):=by
 exists scpcs;obtain⟨l,us,fs,rfl,hl,pf,f64,q⟩:=h;show%[_,((1∣(@aL _ _ _ _ ad))<<<((@cP _ _ _ _ _ _ _ _ E4 O (bU '0') (bf O (2•(3•(4•(5•(6•aQ)))))) (@ag _ _ _ ((('6'&&&ix_tup&&&af)<*>bC<*>aB)<|>(@ag _ _ _ (@be _ _ _ _ (@dB _ _ _ _ _ _ _ _ _ _ _ _ F5 PySem.F.slot_list_append PySem.F.type_list_append bE '1' ((@aI _ _ _ _ _ (('6'&&&ix_tup&&&af)^^^(('6'&&&ix_tup&&&af)^^^(('2'|||aW|||('6'&&&ix_tup&&&af))^^^(('3'|||aW|||('6'&&&ix_tup&&&af))^^^ad)))))^^^ad) O O O O O) O))<|>aG)) (by intro _;rfl))<<<((@aD _ _ _ _ _ _ _ _ _ cZ O B.sorted PyProof.Rows.boot_sorted ('1'^^^ad) ∅ ∅ O O)⁻¹)))|?_];dsimp only[bF];have sz:(2000:Nat) < sizeLine:=∅
 have ul:=E3 pf;show ar (λ R=>∀(fo:PK)(H':Hp),H fo=none->H' fo=↥[]->Same H H'->R [↑l,↑fo,none,none,none,none,none] H') (λ Dd hR=>?_) ?_
 ·show%[∅|λ fo hfo=>?_];show aK hfo λ H1 k1 s1=>?_;exact hR fo _ hfo k1 s1
 rintro fo H1 hfo0 hfo1 s1;have nlf:l≠fo:=ao hl hfo0;have hl1:=s1 _ _ hl;have pf1:Paired (LfV H1) us fs:=G4 pf λ v f h=>h.same s1;have tk:∀{Ha Hb:Hp}{xs:PP V},Ha fo=↥xs->But fo Ha Hb->∀a zs,Ha a= ~~~zs->Hb a= ~~~zs:=λ e bb a zs e'=>bb _ _ (λ z=>by rw[z,e]at e';cases e') e';show bn (λ σ' H'=>∃(v2 v3 v4 v5 v6:PM V)(as:PP PK)(qs:PP Pce),σ'=[↑l,↑fo,v2,v3,v4,v5,v6]/\H' fo=↥(as.map V.ref)/\Paired (λ a q=>H' a= ~~~(qZ q)) as qs/\qs=(fs.take fs.length).filterMap lfP/\But fo H1 H') (λ R hR=>?_) ?_
 ·show%[_,O,l,O,%[_|G3 hl1]|dq (xs:=us) (λ i σ' H'=>∃(v2 v3 v4 v5 v6:PM V)(as:PP PK)(qs:PP Pce),σ'=[↑l,↑fo,v2,v3,v4,v5,v6]/\H' fo=↥(as.map V.ref)/\Paired (λ a q=>H' a= ~~~(qZ q)) as qs/\qs=(fs.take i).filterMap lfP/\But fo H1 H') %[_,_,_,_,_,[],[],O,hfo1,.nil,O|But.refl'] (λ i σ H' _ h9=>by obtain⟨_,_,_,_,_,_,_,_,_,_,_,bx⟩:=h9;exact G3 (bx _ _ nlf hl1)) ?_ (λ σ H' h=>hR _ _ (by rw[ul]at h;exact h))];intro i x _ H2 hi hI9;show cS λ G9 k9=>?_;obtain⟨v2,v3,v4,v5,v6,as,qs,rfl,hf2,pa2,eq2,b12⟩:=hI9;show k9 ?_;have hin:i < us.length:=(A6.mp hi).1;obtain⟨f,hf,a,lv,rfl,ha,tv,d0⟩:=G5 pf1 hi;have ha2:=tk hfo1 b12 _ _ ha;have tv2:=TrV.keep (tk hfo1 b12) f.t tv;have al:=E3 pa2;have ql:qs.length<=fs.length:=by rw[eq2];show C6 (J5 _ _) ?_;rw[J2];omega
  have etk:(fs.take (i+1)).filterMap lfP=qs ++ (lfP f).toList:=by rw[J4,hf,N0,<- eq2];cases e:lfP f <;> simp[e]
  show%[a,_,O,G2 ha2,O,_,_,O,_,_,O,_,_,O,_,_,O,_,_,O,O|?_];cases et:f.t with
  | cut dn p l r=>rw[et]at d0;cases d0
  | rest=>
   rw[et]at tv2;obtain⟨la,rfl,hla⟩:=tv2;show%[_,O,la,_,0,_,O,O,G2 hla,O,O,_,O|kn ∅ ?_];show%[_,_,_,_,_,as,qs,O,hf2,pa2,?_|b12];rw[etk,show lfP f=none by unfold lfP;rw[et]];simp
  | piece k c px py=>
   rw[et]at tv2;obtain⟨la,rfl,hla⟩:=tv2;show%[_,O,la,_,0,_,O,O,G2 hla,O,O,_,O|vb ∅ ?_];show%[_,O,.inl %[O,_|G3 hf2],_,O,la,_,1,_,O,O,G2 hla,O,_,O,la,_,2,_,O,O,G2 hla,O,_,O,_,O,la,_,3,_,O,O,G2 hla,O,_,_,O,O,_,O,_,O,la,_,4,_,O,O,G2 hla,O,_,_,O,O,zS4|λ tp htp=>?_];show aK htp λ H3 k3 s3=>?_;have hf3:=s3 _ _ hf2;have bu:But fo H3 (upd H3 fo (.lst (as.map V.ref ++ [.ref tp]))):=λ c o n e=>by rw[aw n];exact e
   show%[fo,_,_,O,O,hf3,by rw[G6];omega,_,_,_,_,_,as ++ [tp],qs ++ [%[k,c,f.x+px|f.y+py]],O,by rw[J7];exact au,?_,?_|λ c o n e=>bu _ _ n (s3 _ _ (b12 _ _ n e))]
   ·exact eZ (G4 pa2 λ a q h=>tk hf3 bu _ _ (s3 _ _ h)) (.cons (tk hf3 bu _ _ k3) .nil)
   ·rw[etk,show lfP f=some %[k,c,f.x+px|f.y+py]by unfold lfP;rw[et]]
    rfl
 intro _ H2 hI9;show cS λ G9 k9=>?_;obtain⟨v2,v3,v4,v5,v6,as,qs,rfl,hf2,pa2,eq2,b12⟩:=hI9;show k9 ?_;rw[J9]at eq2;have al:=E3 pa2;have ql:qs.length<=fs.length:=by rw[eq2];exact J5 _ _
 show%[_,O,fo,as,[false,true,false,false],(λ a=>rc (cW H2 a)),O,G3 hf2,⋯,O,λ a ha=>?_|λ r as' hr pm so=>?_]
 ·obtain⟨i,hi⟩:=K6.mp ha;obtain⟨q0,hq0,h0⟩:=G5 pa2 hi;exact%[_,G2 h0|by change _=some (rc (cW H2 a));rw[PA.of h0];rfl]
 have qm:∀{xs:PP PK}{zs:PP Pce},Paired (λ a q=>H2 a= ~~~(qZ q)) xs zs->zs=xs.map (cW H2):=λ {xs zs} h=>by
  induction h with
  | nil=>rfl
  | cons h r ih=>rw[J3,PA.of h,<- ih]
 have hm:∀a∈as',H2 a= ~~~(qZ (cW H2 a)):=λ a ha=>by obtain⟨i,hi⟩:=K6.mp (pm.mem_iff.mp ha);obtain⟨q0,hq0,h0⟩:=G5 pa2 hi;rw[PA.of h0];exact h0
 have mkP:∀{xs:PP PK},(∀a∈xs,H2 a= ~~~(qZ (cW H2 a)))->Paired (Bo (upd H2 r (.lst (as'.map V.ref)))) (xs.map V.ref) (xs.map (cW H2)):=λ {xs} h=>by
  induction xs with
  | nil=>exact .nil
  | cons a xs ih=>exact .cons %[a,O|G1 hr _ _ (h a B7)] (ih λ c hc=>h c (B4 _ hc))
 have hr0:H r=none:=by
  cases e:H r with
  | none=>rfl
  | some o=>rw[b12 _ _ (ao e hfo0) (s1 _ _ e)]at hr;cases hr
 show q r _ (as'.map (cW H2)) _ hr0 au (mkP hm) ?_ ?_ (λ c o e=>G1 hr _ _ (b12 _ _ (ao e hfo0) (s1 _ _ e)))
 ·rw[<- eq2,qm pa2];exact pm.map _
 ·rw[PJ,List.map_congr_left (g:=(λ a=>rc (cW H2 a))) (λ a ha=>by rw[PA.of (hm a ha)];rfl)];exact so
def mK(le:Int)(t:PK)(nu:Int)(md:PK)(pu:Int)(pa:PK):PP (Key×V):=[(.inr "least",.int le),(.inr "there",.ref t),(.inr "coming",.int nu),(.inr "made",.ref md),(.inr "put",.int pu),(.inr "past",.ref pa)]
theorem zL:¬ (("least" : Str) = "there")/\¬ (("least" : Str) = "coming")/\¬ (("least" : Str) = "made")/\¬ (("least" : Str) = "put")/\¬ (("least" : Str) = "past")/\¬ (("there" : Str) = "coming")/\¬ (("there" : Str) = "made")/\¬ (("there" : Str) = "put")/\¬ (("there" : Str) = "past")/\¬ (("coming" : Str) = "made")/\¬ (("coming" : Str) = "put")/\¬ (("coming" : Str) = "past")/\¬ (("made" : Str) = "put")/\¬ (("made" : Str) = "past")/\¬ (("put" : Str) = "past"):=∅
def mI:PP Str:=["least","there","coming","made","put","past"]
theorem bV(le:Int)(t:PK)(nu:Int)(md:PK)(pu:Int)(pa:PK):dJ (mK le t nu md pu pa) (.inr "least")=⇑le/\dJ (mK le t nu md pu pa) (.inr "there")=↑t/\dJ (mK le t nu md pu pa) (.inr "coming")=⇑nu/\dJ (mK le t nu md pu pa) (.inr "made")=↑md/\dJ (mK le t nu md pu pa) (.inr "put")=⇑pu/\dJ (mK le t nu md pu pa) (.inr "past")=↑pa:=by show cS λ G9 k9=>?_;obtain⟨h1,h2,h3,h4,h5,h6,h7,h8,h9,h10,h11,h12,h13,h14,h15⟩:=zL;show k9 ?_;show%[?_,?_,?_,?_,?_|?_] <;> simp[dJ,mK,h1,h2,h3,h4,h5,h6,h7,h8,h9,h10,h11,h12,h13,h14,h15]
theorem gQ(le:Int)(t:PK)(nu:Int)(md:PK)(pu:Int)(pa:PK):(∀t',eJ (mK le t nu md pu pa) (.inr "there") (.ref t')=mK le t' nu md pu pa)/\(∀nu',eJ (mK le t nu md pu pa) (.inr "coming") (.int nu')=mK le t nu' md pu pa)/\(∀md',eJ (mK le t nu md pu pa) (.inr "made") (.ref md')=mK le t nu md' pu pa)/\(∀pu',eJ (mK le t nu md pu pa) (.inr "put") (.int pu')=mK le t nu md pu' pa):=by show cS λ G9 k9=>?_;obtain⟨h1,h2,h3,h4,h5,h6,h7,h8,h9,h10,h11,h12,h13,h14,h15⟩:=zL;show k9 ?_;show%[?_,?_,?_|?_] <;> intro <;> simp[eJ,mK,h1,h2,h3,h4,h5,h6,h7,h8,h9,h10,h11,h12,h13,h14,h15,Ne.symm,eq_comm]
theorem vt(le:Int)(t:PK)(nu:Int)(md:PK)(pu:Int)(pa:PK):fU [] (mK le t nu md pu pa)=mK le t nu md pu pa:=by show cS λ G9 k9=>?_;obtain⟨h1,h2,h3,h4,h5,h6,h7,h8,h9,h10,h11,h12,h13,h14,h15⟩:=zL;show k9 ?_;simp[fU,eJ,mK,h1,h2,h3,h4,h5,h6,h7,h8,h9,h10,h11,h12,h13,h14,h15]
def ThK(H:Hp)(kv:Key×V)(q:Int×Int×Int):Prop:=kv.1=.inl q.1/\WhA H kv.2 q.2
def ThA(H:Hp)(t:PK)(pl:PP (Int×Int×Int)):Prop:=∃kvs,H t=some (.dK kvs)/\Paired (ThK H) kvs pl
inductive KpA(H:Hp)(v:V)(z:Stn×PK×PK):Prop
|mk{a:PK}(e:v=.ref a)(h:H a= ~~~[.ref z.2.1,.int z.1.nu,.ref z.2.2,.int z.1.pu])(ht:ThA H z.2.1 z.1.pl)(hm:H z.2.2=↥(z.1.md.map V.int))
def aN(m pa t md:PK)(ps:PP (Stn×PK×PK)):PP PK:=m :: pa :: t :: md :: ps.flatMap λ z=>[z.2.1,z.2.2]
inductive MdA(H:Hp)(m pa t md:PK)(le:Int)(g:Stn)(ps:PP (Stn×PK×PK)):Prop
|mk{us:PP V}(h:H m=some (.dK (mK le t g.nu md g.pu pa)))(ht:ThA H t g.pl)(hm:H md=↥(g.md.map V.int))(hp:H pa=↥us)(pr:Paired (KpA H) us ps)(nd:(aN m pa t md ps).Nodup)
def Kept(own own':PP PK)(H H':Hp):Prop:=(∀c o,c∉own->H c=some o->H' c=some o)/\∀c∈own',c∈own\/H c=none
theorem Kept.trans{a b c:PP PK}{H H' H'':Hp}(x:Kept a b H H')(y:Kept b c H' H''):Kept a c H H'':=by
 show%[λ d o n e=>y.1 d o (λ z=>?_) (x.1 d o n e)|λ d hd=>?_]
 ·rcases x.2 d z with z | z
  ·exact n z
  ·rw[z]at e;cases e
 ·rcases y.2 d hd with z | z
  ·exact x.2 d z
  ·by_cases c1:d∈a
   ·exact .inl c1
   ·show .inr ?_;cases e:H d with
    | none=>rfl
    | some o=>rw[x.1 d o c1 e]at z;cases z
structure Gd(ks:PP Kd)(g:Stn):Prop where
 n0:0<=g.nu
 up:(g.pl.map (·.1)).Pairwise (· < ·)
 lt:∀q∈g.pl,0<=q.1/\q.1 < g.nu/\1<=q.2.1/\1<=q.2.2
 ml:g.md.length=ks.length
theorem ThA.keys{H:Hp}{kvs:PP (Key×V)}{pl:PP (Int×Int×Int)}(h:Paired (ThK H) kvs pl):kvs.map (·.1)=(pl.map (·.1)).map Sum.inl:=by
 induction h with
 | nil=>rfl
 | cons h _ ih=>rw[J3,J3,J3,ih,h.1]
theorem ThA.same{H H':Hp}(s:Same H H'){t:PK}{pl:PP (Int×Int×Int)}(h:ThA H t pl):ThA H' t pl:=h.imp λ _ %[e|p]=>%[s _ _ e|G4 p λ _ _ z=>%[z.1|z.2.same s]]
theorem MdA.nes{m pa t md:PK}{ps:PP (Stn×PK×PK)}(h:(aN m pa t md ps).Nodup):m≠t/\m≠md/\md≠t/\m≠pa/\pa≠t:=by unfold aN at h;simp only[K8,G7,P9]at h;obtain⟨⟨a1,a2,a3,_⟩,⟨b1,b2,_⟩,⟨c1,_⟩,_⟩:=h;exact%[a2,a3,λ z=>c1 z.symm,a1|b1]
theorem MdA.past{m pa t md:PK}{ps:PP (Stn×PK×PK)}(h:(aN m pa t md ps).Nodup){z:Stn×PK×PK}(hz:z∈ps):z.2.1≠t/\z.2.1≠m/\z.2.2≠t/\z.2.2≠m:=by have i1:z.2.1∈ps.flatMap λ z=>[z.2.1,z.2.2]:=K3.mpr %[z,hz|by simp];have i2:z.2.2∈ps.flatMap λ z=>[z.2.1,z.2.2]:=K3.mpr %[z,hz|by simp];unfold aN at h;simp only[K8,G7,P9]at h;obtain⟨⟨_,_,_,a4⟩,_,⟨_,c2⟩,_⟩:=h;exact%[λ e=>c2 (e ▸ i1),λ e=>a4 (e ▸ i1),λ e=>c2 (e ▸ i2)|λ e=>a4 (e ▸ i2)]
theorem KpA.keep{H H':Hp}(k:∀a xs,H a= ~~~xs->H' a= ~~~xs){v:V}{z:Stn×PK×PK}(k1:∀o,H z.2.1=some o->H' z.2.1=some o)(k2:∀o,H z.2.2=some o->H' z.2.2=some o)(h:KpA H v z):KpA H' v z:=by obtain⟨e,h,⟨kvs,ht,p⟩,hm⟩:=h;exact .mk e (k _ _ h) %[kvs,k1 _ ht|G4 p λ _ _ z=>%[z.1|z.2.imp λ _ y=>%[y.1|k _ _ y.2]]] (k2 _ hm)
theorem KpA.all{H H':Hp}{us:PP V}{ps:PP (Stn×PK×PK)}(h:Paired (KpA H) us ps)(k:∀z∈ps,∀v,KpA H v z->KpA H' v z):Paired (KpA H') us ps:=by
 induction h with
 | nil=>exact .nil
 | cons h _ ih=>exact .cons (k _ B7 _ h) (ih λ z hz=>k z (B4 _ hz))
theorem gR{m pa t md:PK}{ps:PP (Stn×PK×PK)}{z:Stn×PK×PK}:aN m pa t md (ps ++ [z])=aN m pa t md ps ++ [z.2.1,z.2.2]:=by unfold aN;rw[List.flatMap_append];simp
theorem MdA.there{H:Hp}{m pa t md:PK}{le:Int}{g:Stn}{ps:PP (Stn×PK×PK)}(x:MdA H m pa t md le g ps):∀c∈aN m pa t md ps,H c≠none:=by
 obtain⟨h,⟨kvs,ht,_⟩,hm,hp,pr,nd⟩:=x;intro c hc z;unfold aN at hc;simp only[G7]at hc;rcases hc with rfl | rfl | rfl | rfl | hc
 ·rw[h]at z;cases z
 ·rw[hp]at z;cases z
 ·rw[ht]at z;cases z
 ·rw[hm]at z;cases z
 ·obtain⟨y,hy,hc⟩:=K3.mp hc;obtain⟨i,hi⟩:=K6.mp hy;obtain⟨v,hv,e,_,⟨k,h1,_⟩,h2⟩:=Paired.getL pr hi;simp only[G7,C1,Pl]at hc;rcases hc with rfl | rfl
  ·rw[h1]at z;cases z
  ·rw[h2]at z;cases z
theorem vw{m pa t md:PK}{ps:PP (Stn×PK×PK)}{z:Stn×PK×PK}(nd:(aN m pa t md (ps ++ [z])).Nodup):(aN m pa z.2.1 z.2.2 ps).Nodup/\(∀c∈aN m pa z.2.1 z.2.2 ps,c∈aN m pa t md (ps ++ [z]))/\z.2.1≠m/\z.2.1≠pa/\z.2.2≠m/\z.2.2≠pa/\∀y∈ps,y.2.1≠m/\y.2.1≠pa/\y.2.2≠m/\y.2.2≠pa:=by
 have pm:(aN m pa z.2.1 z.2.2 ps).Perm (m :: pa :: ((ps.flatMap λ z=>[z.2.1,z.2.2]) ++ [z.2.1,z.2.2])):=by unfold aN;exact((List.perm_append_comm (l₁:=[z.2.1,z.2.2])).cons _).cons _
 have sl:(m :: pa :: ((ps.flatMap λ z=>[z.2.1,z.2.2]) ++ [z.2.1,z.2.2])).Sublist (aN m pa t md (ps ++ [z])):=by rw[gR];unfold aN;exact((((List.Sublist.refl _).cons md).cons t).cons₂ pa).cons₂ m
 have nd2:(aN m pa z.2.1 z.2.2 ps).Nodup:=pm.nodup_iff.mpr (nd.sublist sl);show%[nd2,λ c hc=>sl.subset (pm.mem_iff.mp hc)|?_];have i1:∀y∈ps,y.2.1∈ps.flatMap λ z=>[z.2.1,z.2.2]:=λ y hy=>K3.mpr %[y,hy|by simp];have i2:∀y∈ps,y.2.2∈ps.flatMap λ z=>[z.2.1,z.2.2]:=λ y hy=>K3.mpr %[y,hy|by simp];unfold aN at nd2;simp only[K8,G7,P9]at nd2;obtain⟨⟨_,a2,a3,a4⟩,⟨b2,b3,b4⟩,_⟩:=nd2;exact%[Ne.symm a2,Ne.symm b2,Ne.symm a3,Ne.symm b3|λ y hy=>%[λ e=>a4 (e ▸ i1 y hy),λ e=>b4 (e ▸ i1 y hy),λ e=>a4 (e ▸ i2 y hy)|λ e=>b4 (e ▸ i2 y hy)]]
def vx(H H':Hp)(m pa t md:PK)(le:Int)(g:Stn)(ps:PP (Stn×PK×PK)):Prop:=∃z:Stn×PK×PK,MdA H' m pa t md le g (ps ++ [(g,z.2)])/\Kept (aN m pa t md ps) (aN m pa t md (ps ++ [(g,z.2)])) H H'
theorem MdA.push{H:Hp}{m pa t md:PK}{le:Int}{g:Stn}{ps:PP (Stn×PK×PK)}(x:MdA H m pa t md le g ps):∃us,H pa=↥us/\us.length=ps.length/\∀(t' md':PK)(v:V)(H1:Hp),H t'=none->H md'=none->t'≠md'->KpA H1 v (g,t',md')->Same H H1->vx H (upd H1 pa (.lst (us ++ [v]))) m pa t md le g ps:=by
 have ow:=x.there;obtain@⟨us,h,⟨kvs,ht,pt⟩,hm,hp,pr,nd⟩:=x;show%[_,hp,E3 pr|λ t' md' v H1 f1 f2 ne kp s1=>%[(g,t',md'),?_|?_]]
 ·obtain⟨n1,n2,n3,n4,n5⟩:=MdA.nes nd;have n6:md≠pa:=λ z=>by unfold aN at nd;simp only[K8,G7,P9]at nd;exact nd.2.1.2.1 z.symm
  have k:∀c o,c≠pa->H1 c=some o->upd H1 pa (.lst (us ++ [v])) c=some o:=λ c o n e=>by rw[aw n];exact e
  have kt:∀a xs,H1 a= ~~~xs->upd H1 pa (.lst (us ++ [v])) a= ~~~xs:=λ a xs e=>k _ _ (λ z=>by rw[z,s1 _ _ hp]at e;cases e) e;have pin:pa∈aN m pa t md ps:=by simp[aN]
  show .mk (k _ _ n4 (s1 _ _ h)) %[kvs,k _ _ (Ne.symm n5) (s1 _ _ ht)|G4 pt λ _ _ z=>%[z.1|z.2.imp λ _ y=>%[y.1|kt _ _ (s1 _ _ y.2)]]] (k _ _ n6 (s1 _ _ hm)) au (Paired.snoc (KpA.all pr λ z hz v y=>?_) (kp.keep kt (λ o e=>k _ _ (λ z=>ow _ pin (z ▸ f1)) e) (λ o e=>k _ _ (λ z=>ow _ pin (z ▸ f2)) e))) ?_
  ·have nz:z.2.1≠pa/\z.2.2≠pa:=by have i1:z.2.1∈ps.flatMap λ z=>[z.2.1,z.2.2]:=K3.mpr %[z,hz|by simp];have i2:z.2.2∈ps.flatMap λ z=>[z.2.1,z.2.2]:=K3.mpr %[z,hz|by simp];unfold aN at nd;simp only[K8,G7,P9]at nd;exact%[λ e=>nd.2.1.2.2 (e ▸ i1)|λ e=>nd.2.1.2.2 (e ▸ i2)]
   exact y.keep (λ a xs e=>kt _ _ (s1 _ _ e)) (λ o e=>k _ _ nz.1 (s1 _ _ e)) (λ o e=>k _ _ nz.2 (s1 _ _ e))
  ·rw[gR];show List.nodup_append.mpr %[nd,by simp[ne]|λ a ha b hb e=>?_];simp only[G7,C1,Pl]at hb;rcases hb with rfl | rfl
   ·exact ow _ ha (e ▸ f1)
   ·exact ow _ ha (e ▸ f2)
 ·show%[λ c o n e=>by rw[aw (λ z=>n (by rw[z];simp[aN]))];exact s1 _ _ e|λ c hc=>?_];rw[gR]at hc;rcases C3.mp hc with hc | hc
  ·exact .inl hc
  ·simp only[G7,C1,Pl]at hc;rcases hc with rfl | rfl
   ·exact .inr f1
   ·exact .inr f2
theorem MdA.setm{H:Hp}{m pa t md:PK}{le nu pu:Int}{g:Stn}{ps:PP (Stn×PK×PK)}(x:MdA H m pa t md le g ps):MdA (upd H m (.dK (mK le t nu md pu pa))) m pa t md le %[g.pl,nu,g.md|pu] ps/\Kept (aN m pa t md ps) (aN m pa t md ps) H (upd H m (.dK (mK le t nu md pu pa))):=by
 obtain⟨h,⟨kvs,ht,pt⟩,hm,hp,pr,nd⟩:=x;obtain⟨n1,n2,n3,n4,n5⟩:=MdA.nes nd;have k:∀c o,c≠m->H c=some o->upd H m (.dK (mK le t nu md pu pa)) c=some o:=λ c o n e=>by rw[aw n];exact e
 have kt:∀a xs,H a= ~~~xs->upd H m (.dK (mK le t nu md pu pa)) a= ~~~xs:=λ a xs e=>k _ _ (λ z=>by rw[z,h]at e;cases e) e;show%[.mk au %[kvs,k _ _ (Ne.symm n1) ht|G4 pt λ _ _ z=>%[z.1|z.2.imp λ _ y=>%[y.1|kt _ _ y.2]]] (k _ _ (Ne.symm n2) hm) (k _ _ (Ne.symm n4) hp) (KpA.all pr λ z hz v y=>?_) nd,λ c o n e=>k _ _ (λ z=>n (by rw[z];simp[aN])) e|λ c hc=>.inl hc];have nz:=MdA.past nd hz;exact y.keep kt (λ o e=>k _ _ nz.2.1 e) (λ o e=>k _ _ nz.2.2.2 e)
inductive spKept(vs:PP V)(H:Hp)(Q:VK)(E_:XK):Prop
|mk(m pa t md:PK)(le:Int)(g:Stn)(ps:PP (Stn×PK×PK))(_:vs=[.ref m])(_:MdA H m pa t md le g ps)(_:∀(t' md':PK)(v:V)(H':Hp),H t'=none->H md'=none->t'≠md'->KpA H' v (g,t',md')->Same H H'->Q v H')
inductive spCame(vs:PP V)(H:Hp)(Q:VK)(E_:XK):Prop
|mk(m pa t md:PK)(le wd hg:Int)(ks:PP Kd)(g:Stn)(ps:PP (Stn×PK×PK))(_:vs=[.ref m,.int wd,.int hg])(_:MdA H m pa t md le g ps)(_:Gd ks g)(_:g.pl.length<=3000)(_:∀(H':Hp),MdA H' m pa t md le ⟨g.pl ++ [(g.nu,wd,hg)],g.nu+1,g.md,g.pu⟩ ps->Kept (aN m pa t md ps) (aN m pa t md ps) H H'->Q (.int g.nu) H')
inductive spPutM(vs:PP V)(H:Hp)(Q:VK)(E_:XK):Prop
|mk(m pa t md:PK)(le wd hg:Int)(ks:PP Kd)(g:Stn)(ps:PP (Stn×PK×PK))(_:vs=[.ref m,.int wd,.int hg])(_:MdA H m pa t md le g ps)(_:Gd ks g)(_:g.pl.length<=3000)(_:ps.length<=1000)(_:1<=wd)(_:wd<=10 ^ 60)(_:1<=hg)(_:hg<=10 ^ 60)(_:∀(z:Stn×PK×PK)(H':Hp),MdA H' m pa t md le ⟨g.pl ++ [(g.nu,wd,hg)],g.nu+1,g.md,g.pu+wd * hg⟩ (ps ++ [(g,z.2)])->Kept (aN m pa t md ps) (aN m pa t md (ps ++ [(g,z.2)])) H H'->Q (.int g.nu) H')
inductive spBegun(vs:PP V)(H:Hp)(Q:VK)(E_:XK):Prop
|mk(t kl:PK)(b le:Int)(ks:PP Kd)(_:vs=[.ref t,.int le])(_:LS H t b ks kl)(_:ks.length<=8)(_:∀(m pa t md:PK)(H':Hp),(∀c∈aN m pa t md [],H c=none)->Same H H'->MdA H' m pa t md le ⟨[],0,List.replicate ks.length 0,0⟩ []->Q (.ref m) H')
inductive spUndone(vs:PP V)(H:Hp)(Q:VK)(E_:XK):Prop
|mk(m pa t md:PK)(le:Int)(g:Stn)(ps:PP (Stn×PK×PK))(_:vs=[.ref m])(_:MdA H m pa t md le g ps)(_:ps=[]->∀H',Same H H'->Q (.bl false) H')(_:∀(ps':PP (Stn×PK×PK))(z:Stn×PK×PK)(H':Hp),ps=ps' ++ [z]->MdA H' m pa z.2.1 z.2.2 le z.1 ps'->Kept (aN m pa t md ps) (aN m pa z.2.1 z.2.2 ps') H H'->Q (.bl true) H')
theorem sckept:FnScope Qr Qr (defScope pH):=nofun
theorem xZ{f:PK}{fd:F8}(F:Fun K "_law_kept" "_law_kept" pH f fd)(B:Blt mg)(hdc:mg "dict" = none):FnOk P w K mg base CX0 1 f fd Qr (spKept):=by
 exists sckept;obtain⟨m,pa,t,md,le,g,ps,rfl,x,q⟩:=h;have hu:=hr.units;have hu1:=C7 (M2 (show 1<=64 by decide) _) hu;show%[_,((@aI _ _ _ _ _ ((@bg _ _ _ _ _ _ _ _ _ nW O hdc PyProof.Rows.boot_dict ((aR hu1 '0' aB (λ _ _=>O))^^^ad) ∅ ∅ O O)^^^((aR hu1 '0' aB (λ _ _=>O))^^^((@bg _ _ _ _ _ _ _ _ _ cI O B.list Pk ((aR hu1 '0' aB (λ _ _=>O))^^^ad) ∅ ∅ O O)^^^((aR hu1 '0' aB (λ _ _=>O))^^^ad)))))⁻¹)|?_];dsimp only[bF];obtain⟨h,⟨kvs,ht,pt⟩,hm,hp,pr,nd'⟩:=x;obtain⟨g1,g2,g3,g4,g5,g6⟩:=bV le t g.nu md g.pu pa;show%[_,O,m,_,O,.inl %[_,_,.inl h,O|g2.symm],t,kvs,O,.inl ht|λ t' ht'=>?_];show aK ht' λ H1 k1 s1=>?_;show%[_,O,m,_,O,.inl %[_,_,.inl (s1 _ _ h),O|g3.symm]|?_];show%[_,O,m,_,O,.inl %[_,_,.inl (s1 _ _ h),O|g4.symm],_,_,O,.inl (G3 (s1 _ _ hm))|λ md' hmd'=>?_];show aK hmd' λ H2 k2 s2=>?_;show%[_,O,m,_,O,.inl %[_,_,.inl (s2 _ _ (s1 _ _ h)),O|g5.symm],zS4|λ a ha=>?_];show aK ha λ H3 k3 s3=>?_;have s03:=s1.trans (s2.trans s3);exact q t' md' _ H3 ht' (s1.free hmd') (λ z=>by rw[<- z,k1]at hmd';cases hmd') (.mk rfl k3 %[kvs,s3 _ _ (s2 _ _ k1)|G4 pt λ _ _ z=>%[z.1|z.2.same s03]] (s3 _ _ k2)) s03
theorem sccame:FnScope Qs Qs (defScope pI):=nofun
theorem ya{f:PK}{fd:F8}(F:Fun K "_law_came" "_law_came" pI f fd) : FnOk P w K mg base CX0 1 f fd Qs (spCame):=by
 apply F.ok sccame (λ vs H Q E h=>?_) (λ cdv A outer s H vs Q E hr h=>?_)
 ·show cS λ G9 k9=>?_;obtain⟨m,pa,t,md,le,wd,hg,ks,g,ps,rfl,_⟩:=h;show k9 ?_
  rfl
 show cS λ G9 k9=>?_;obtain⟨m,pa,t,md,le,wd,hg,ks,g,ps,rfl,x,gd,p3,q⟩:=h;show k9 ?_;have nd:=sccame.nd;have hu:=hr.units;have hu1:=C7 (M2 (show 1<=64 by decide) _) hu;show%[_,((kW hu1 (aR hu1 '0' aB (λ _ _=>O)) (aR hu1 '0' aB (λ _ _=>O)) (@aI _ _ _ _ _ ('1'^^^('2'^^^ad))) O)<<<((kW hu1 '0' aB ((aR hu1 '0' aB (λ _ _=>O))|||aW|||af) O)<<<(((aR hu1 '0' aB (λ _ _=>O))|||bD|||af)⁻¹)))|?_];obtain⟨h,⟨kvs,ht,pt⟩,hm,hp,pr,nd'⟩:=x;obtain⟨n1,n2,n3,n4,n5⟩:=MdA.nes nd';have kl:=E3 pt;have z3:(4000:Nat) < sizeLine:=∅
 show ar (λ R=>∀(H':Hp),ThA H' t (g.pl ++ [(g.nu,wd,hg)])->((∀c o,c≠t->H c=some o->H' c=some o))->R [↑m,⇑wd,⇑hg] H') (λ Dd hR=>?_) ?_
 ·obtain⟨g1,g2,g3,g4,g5,g6⟩:=bV le t g.nu md g.pu pa;show%[_,O,_,O,zS2|λ a ha=>?_];show aK ha λ H1 k1 s1=>?_;show%[_,O,m,_,O,.inl %[_,_,.inl (s1 _ _ h),O|g2.symm],_,O,m,_,O,.inl %[_,_,.inl (s1 _ _ h),O|g3.symm],t,_,O,.inl %[kvs,.inl g.nu,s1 _ _ ht,O,⋯|O]|hR _ %[_,au|?_] (λ c o n e=>by rw[aw n];exact s1 _ _ e)];have ex:eJ kvs (.inl g.nu) (.ref a)=kvs ++ [(.inl g.nu,.ref a)]:=by unfold eJ;rw[PZ];intro z;obtain⟨kv,hk,e⟩:=List.any_eq_true.mp z;have e:=C0 e;obtain⟨i,hi⟩:=K6.mp hk;obtain⟨q',hq',e1,_⟩:=G5 pt hi;have:=(gd.lt q' (B5 hq')).2.1;rw[e]at e1;have:=Sum.inl.inj e1;omega
  rw[ex];show Paired.snoc (G4 pt λ _ _ z=>%[z.1|z.2.imp λ b y=>%[y.1|?_]]) %[rfl,a,rfl|?_]
  ·have y2:=s1 _ _ y.2;rw[aw (λ c=>by rw[c,s1 _ _ ht]at y2;cases y2)];exact y2
  ·rw[aw (λ c=>by rw[c,s1 _ _ ht]at k1;cases k1)];exact k1
 rintro H1 ⟨kvs1,ht1,pt1⟩ f1;have h1:=f1 _ _ n1 h;show ar (λ R=>∀(H':Hp),MdA H' m pa t md le %[g.pl ++ [(g.nu,wd,hg)],g.nu+1,g.md|g.pu] ps->((∀c o,c≠t->c≠m->H c=some o->H' c=some o))->R [↑m,⇑wd,⇑hg] H') (λ Dd hR=>?_) ?_
 ·obtain⟨g1,g2,g3,g4,g5,g6⟩:=bV le t g.nu md g.pu pa;obtain⟨p1,p2,p3',p4⟩:=gQ le t g.nu md g.pu pa;show%[_,O,m,_,O,.inl %[_,_,.inl h1,O|g3.symm],_,_,O,O,_,O,m,_,O,.inl %[_,.inr "coming",h1,O,by change 6 < sizeLine;decide|O]|?_];rw[p2];obtain⟨H2,e2⟩:∃H2,upd H1 m (.dK (mK le t (g.nu+1) md g.pu pa))=H2:=%[_|O]
  rw[show upd H1 m _=H2 from e2];have f2:∀c o,c≠m->H1 c=some o->H2 c=some o:=λ c o n e=>by rw[<- e2,aw n];exact e
  have f12:∀c o,c≠t->c≠m->H c=some o->H2 c=some o:=λ c o n n' e=>f2 _ _ n' (f1 _ _ n e);have kt:∀a xs,H a= ~~~xs->H2 a= ~~~xs:=λ a xs e=>f12 _ _ (λ z=>by rw[z,ht]at e;cases e) (λ z=>by rw[z,h]at e;cases e) e;have kt1:∀a xs,H1 a= ~~~xs->H2 a= ~~~xs:=λ a xs e=>f2 _ _ (λ z=>by rw[z,h1]at e;cases e) e;show hR _ (.mk (by rw[<- e2];exact au) %[kvs1,f2 _ _ (Ne.symm n1) ht1|G4 pt1 λ _ _ z=>%[z.1|z.2.imp λ _ y=>%[y.1|kt1 _ _ y.2]]] (f12 _ _ n3 (Ne.symm n2) hm) (f12 _ _ n5 (Ne.symm n4) hp) (KpA.all pr λ z hz v y=>?_) nd') f12;have nz:=MdA.past nd' hz;exact y.keep kt (λ o e=>f12 _ _ nz.1 nz.2.1 e) (λ o e=>f12 _ _ nz.2.2.1 nz.2.2.2 e)
 rintro H2 x2 f2;obtain⟨h2,_,_,_,_,_⟩:=id x2;obtain⟨g1,g2,g3,g4,g5,g6⟩:=bV le t (g.nu+1) md g.pu pa;show%[_,O,m,_,O,.inl %[_,_,.inl h2,O|g3.symm],_,_,O,O|?_];have:=q H2 x2 %[λ c o n e=>f2 _ _ (λ z=>n (by rw[z];simp[aN])) (λ z=>n (by rw[z];simp[aN])) e|λ c hc=>.inl hc];rw[show g.nu+1 - 1=g.nu by omega];exact this
theorem scputm:FnScope Qs Qs (defScope xu):=nofun
theorem yb{f:PK}{fd:F8}(F:Fun K "_law_put" "_law_put" xu f fd)(DK:Dn P w K mg base "_law_kept" Qr 1 (spKept))(DC:Dn P w K mg base "_law_came" Qs 1 (spCame)):FnOk P w K mg base CX0 2 f fd Qs (spPutM):=by
 apply F.ok scputm (λ vs H Q E h=>?_) (λ cdv A outer s H vs Q E hr h=>?_)
 ·show cS λ G9 k9=>?_;obtain⟨m,pa,t,md,le,wd,hg,ks,g,ps,rfl,_⟩:=h;show k9 ?_
  rfl
 show cS λ G9 k9=>?_;obtain⟨m,pa,t,md,le,wd,hg,ks,g,ps,rfl,x,gd,p3,l1,w0,w60,h0,h60,q⟩:=h;show k9 ?_;have nd:=scputm.nd;have hu:=hr.units;have hu1:=C7 (M2 (show 1<=64 by decide) _) hu;show%[_,((@be _ _ _ _ (@dB _ _ _ _ _ _ _ _ _ _ _ _ F5 PySem.F.slot_list_append PySem.F.type_list_append bE (aR hu1 '0' aB (λ _ _=>O)) ((DK∪('0'^^^ad))^^^ad) O O O O O) O)<<<((kW hu1 '0' aB ((aR hu1 '0' aB (λ _ _=>O))|||aW|||('1'|||cY|||'2')) O)<<<((DC∪('0'^^^('1'^^^('2'^^^ad))))⁻¹)))|?_];dsimp only[bF];show ar (λ R=>∀(H':Hp),vx H H' m pa t md le g ps->R [↑m,⇑wd,⇑hg] H') (λ Dd hR=>?_) ?_
 ·obtain⟨us,hp,ul,go⟩:=x.push;obtain⟨h,_,_,_,_,_⟩:=id x;obtain⟨g1,g2,g3,g4,g5,g6⟩:=bV le t g.nu md g.pu pa;show%[_,O,m,_,O,.inl %[_,_,.inl h,O|g6.symm],.inl %[O,_|G3 hp],_,O,m,pa,t,md,le,g,ps,O,x|λ t' md' v H1 f1 f2 ne kp s1=>?_];have z2:(2000:Nat) < sizeLine:=∅
  exact%[pa,_,_,O,O,s1 _ _ hp,by rw[ul];omega|hR _ (go t' md' v H1 f1 f2 ne kp s1)]
 rintro H1 ⟨z,x1,k1⟩;show bn (λ σ' H'=>σ'=[↑m,⇑wd,⇑hg]/\MdA H' m pa t md le %[g.pl,g.nu,g.md|g.pu+wd * hg] (ps ++ [(g,z.2)])/\Kept (aN m pa t md (ps ++ [(g,z.2)])) (aN m pa t md (ps ++ [(g,z.2)])) H1 H') (λ R hR=>?_) ?_
 ·obtain⟨h,_,_,_,_,_⟩:=id x1;obtain⟨g1,g2,g3,g4,g5,g6⟩:=bV le t g.nu md g.pu pa;obtain⟨p1,p2,p3',p4⟩:=gQ le t g.nu md g.pu pa;show%[_,O,m,_,O,.inl %[_,_,.inl h,O|g5.symm],_,O,_,O,_,_,O,O,%[b60 ⋯ ⋯|b60 ⋯ ⋯],_,_,O,O,_,O,m,_,O,.inl %[_,.inr "put",h,O,by change 6 < sizeLine;decide|O]|?_];rw[p4];exact hR _ _ %[rfl|x1.setm]
 rintro _ H2 ⟨rfl,x2,k2⟩;exact%[_,O,_,O,_,O,m,pa,t,md,le,wd,hg,ks,_,_,O,x2,%[gd.n0,gd.up,gd.lt|gd.ml],p3|λ H3 x3 k3=>q z H3 x3 (k1.trans (k2.trans k3))]
theorem scbegun:FnScope Qt Qt (defScope lx):=nofun
theorem vy{f:PK}{fd:F8}(F:Fun K "_law_begun" "_law_begun" lx f fd)(B:Blt mg):FnOk P w K mg base CX0 1 f fd Qt (spBegun):=by
 exists scbegun;obtain⟨t,kl,b,le,ks,rfl,sh,k8,q⟩:=h;have hu:=hr.units;have hu1:=C7 (M2 (show 1<=64 by decide) _) hu;show%[_,((wZ (dQ aB '1' (dQ aB nN (dQ aB af (dQ aB ((@aL _ _ _ _ (af^^^ad))|||uh|||(@aD _ _ _ _ _ _ _ _ _ aY O B.len Pj (('0'&&&ix_tup&&&af)^^^ad) ∅ ∅ O O)) (dQ aB af (dQ aB (@aL _ _ _ _ ad) wY)))))) O O ∅ ∅)⁻¹)|?_];dsimp only[bF];obtain⟨rs,ht,hk,tu⟩:=sh;have rl:=E3 tu;have z2:(2000:Nat) < sizeLine:=∅
 refineλ m hm=>%[_,O|λ t' ht'=>?_]
 have s1:=G1 (o:=.dK []) hm;have k1:upd H m (.dK []) m=some (.dK []):=au;generalize upd H m (.dK [])=H1 at *;show aK ht' λ H2 k2 s2=>?_;show%[∅|λ l0 hl0=>?_];show aK hl0 λ H3 k3 s3=>?_;have s03:=s1.trans (s2.trans s3);show%[_,O,t,_,1,_,O,O,G2 (s03 _ _ ht),O,kl,rs,O,.inl (G3 (s03 _ _ hk)),l0,_,_,O,O,k3,⋯,⋯,by rw[K2];change 1 * _<=_;omega|λ md hmd=>?_];rw[K2,List.flatten_replicate_singleton,rl];show aK hmd λ H4 k4 s4=>?_;have m4:H3 m=some (.dK []):=s3 _ _ (s2 _ _ k1);have m4':H4 m=some (.dK []):=s4 _ _ m4;show%[∅|λ pa hpa=>?_];show aK hpa λ H5 k5 s5=>?_;have s15:=s2.trans (s3.trans (s4.trans s5));have m5:=s15 _ _ k1;show%[m5,mK le t' 0 md 0 pa,O,by change 6<=15;decide|?_];rw[vt];have t5:=s5 _ _ (s4 _ _ (s3 _ _ k2));have d5:=s5 _ _ k4;have a1:m≠t':=λ z=>by rw[z,ht']at k1;cases k1
 have a2:m≠md:=λ z=>by rw[z,hmd]at m4;cases m4
 have a3:m≠pa:=λ z=>by rw[z,hpa]at m4';cases m4'
 have a4:pa≠t':=λ z=>by rw[z,s4 _ _ (s3 _ _ k2)]at hpa;cases hpa
 have a5:pa≠md:=λ z=>by rw[z,k4]at hpa;cases hpa
 have a6:t'≠md:=λ z=>by rw[<- z,s3 _ _ k2]at hmd;cases hmd
 show q m pa t' md _ (λ c hc=>?_) (λ c o e=>?_) (.mk au %[[],by rw[aw (Ne.symm a1)];exact t5|.nil] ?_ (by rw[aw (Ne.symm a3)];exact k5) .nil ?_)
 ·simp only[aN,List.flatMap_nil,G7,C1,Pl]at hc;rcases hc with rfl | rfl | rfl | rfl
  ·exact hm
  ·exact(s1.trans (s2.trans (s3.trans s4))).free hpa
  ·exact s1.free ht'
  ·exact(s1.trans (s2.trans s3)).free hmd
 ·rw[aw (λ z=>by rw[z,hm]at e;cases e)];exact s15 _ _ (s1 _ _ e)
 ·rw[aw (Ne.symm a2),d5,List.map_replicate]
 ·simp[aN,a1,a2,a3,a4,a5,a6]
theorem scundone:FnScope Qr Qr (defScope iu):=nofun
theorem rj{f:PK}{fd:F8}(F:Fun K "_law_undone" "_law_undone" iu f fd) : FnOk P w K mg base CX0 1 f fd Qr (spUndone):=by
 exists scundone;obtain⟨m,pa,t,md,le,g,ps,rfl,x,q1,q2⟩:=h;have hu:=hr.units;have hu1:=C7 (M2 (show 1<=64 by decide) _) hu;show%[_,((((aR hu1 '0' aB (λ _ _=>O))<*>(jd hu)<*>(@aL _ _ _ _ ad))<|>(bP⁻¹)<|>aG)<<<((@bA _ _ _ _ _ _ (gJ F5 PySem.F.slot_list_pop PySem.F.type_list_pop kF (aR hu1 '0' aB (λ _ _=>O))) (bf O (ah (eO '0' aB (gu hu1)) (ah (eO '0' aB (gu hu1)) (ah (eO '0' aB (gu hu1)) (ah (eO '0' aB (gu hu1)) aQ))))) O O O)<<<(bP⁻¹)))|?_];dsimp only[bF];obtain@⟨us,h,⟨kvs,ht,pt⟩,hm,hp,pr,nd⟩:=id x;obtain⟨g1,g2,g3,g4,g5,g6⟩:=bV le t g.nu md g.pu pa;obtain⟨n1,n2,n3,n4,n5⟩:=MdA.nes nd;show cg (λ R=>∀(H':Hp),Same H H'->us≠[]->R [↑m] H') (λ R hR=>?_) ?_
 ·show%[_,O,m,_,O,.inl %[_,_,.inl h,O|g6.symm],∅|λ e he=>?_];show aK he λ H1 k1 s1=>?_;show%[pa,e,us,O,O,s1 _ _ hp,k1,_,O|?_];cases us with
  | nil=>
   cases pr;exact aU (q1 rfl _ s1)
  | cons u us=>exact aT (hR _ s1 (List.cons_ne_nil _ _))
 rintro H1 s1 ne;obtain⟨us',u0,rfl⟩:∃us' u0,us=us' ++ [u0]:=by
  rcases O3 us with e | ⟨ps',p0,e⟩
  ·exact absurd e ne
  ·exact%[ps',p0|by rw[e,O4]]
 obtain⟨ps',z,rfl,pr',kp⟩:=mE pr;obtain⟨zg,zt,zm⟩:=z;obtain⟨rfl,ha,hth,hmm⟩:=kp
 rename_i a
 have hp1:=s1 _ _ hp;have h1:=s1 _ _ h;show ar (λ R=>∀(H':Hp),H' m=some (.dK (mK le zt zg.nu zm zg.pu pa))->H' pa=↥us'->(∀c o,c≠m->c≠pa->H1 c=some o->H' c=some o)->R [↑m] H') (λ Dd hR=>?_) ?_
 ·show%[_,O,m,_,O,.inl %[_,_,.inl h1,O|g6.symm],.inl %[O,_|G3 hp1],pa,_,.ref a,O,O,hp1,(by simp)|?_];rw[List.dropLast_concat];have h2:upd H1 pa (.lst us') m=some (.dK (mK le t g.nu md g.pu pa)):=by rw[aw n4];exact h1
  have ha2:upd H1 pa (.lst us') a= ~~~[.ref zt,.int zg.nu,.ref zm,.int zg.pu]:=by rw[aw (λ z=>by rw[z,hp]at ha;cases ha)];exact s1 _ _ ha
  have six:∀(le:Int)(t:PK)(nu:Int)(md:PK)(pu:Int)(pa:PK),(mK le t nu md pu pa).length < sizeLine:=λ _ _ _ _ _ _=>by change 6 < sizeLine;decide
  show%[a,_,O,G2 ha2,O,_,_,O,_,O,m,upd (upd H1 pa (.lst us')) m (.dK (mK le zt g.nu md g.pu pa)),O,.inl %[_,.inr "there",h2,O,six _ _ _ _ _ _|by rw[(gQ le t g.nu md g.pu pa).1]]|?_];show%[_,_,O,_,O,m,upd (upd (upd H1 pa (.lst us')) m (.dK (mK le zt g.nu md g.pu pa))) m (.dK (mK le zt zg.nu md g.pu pa)),O,.inl %[_,.inr "coming",au,O,six _ _ _ _ _ _|by rw[(gQ le zt g.nu md g.pu pa).2.1]]|?_];show%[_,_,O,_,O,m,upd (upd (upd (upd H1 pa (.lst us')) m (.dK (mK le zt g.nu md g.pu pa))) m (.dK (mK le zt zg.nu md g.pu pa))) m (.dK (mK le zt zg.nu zm g.pu pa)),O,.inl %[_,.inr "made",au,O,six _ _ _ _ _ _|by rw[(gQ le zt zg.nu md g.pu pa).2.2.1]]|?_];show%[_,_,O,_,O,m,upd (upd (upd (upd (upd H1 pa (.lst us')) m (.dK (mK le zt g.nu md g.pu pa))) m (.dK (mK le zt zg.nu md g.pu pa))) m (.dK (mK le zt zg.nu zm g.pu pa))) m (.dK (mK le zt zg.nu zm zg.pu pa)),O,.inl %[_,.inr "put",au,O,six _ _ _ _ _ _|by rw[(gQ le zt zg.nu zm g.pu pa).2.2.2]],O|?_];show hR _ au ?_ (λ c o c1 c2 e=>?_)
  ·rw[aw (Ne.symm n4),aw (Ne.symm n4),aw (Ne.symm n4),aw (Ne.symm n4)];exact au
  ·rw[aw c1,aw c1,aw c1,aw c1,aw c2];exact e
 rintro H2 hm2 hp2 f2;have f02:∀c o,c≠m->c≠pa->H c=some o->H2 c=some o:=λ c o c1 c2 e=>f2 _ _ c1 c2 (s1 _ _ e);have kt:∀a xs,H a= ~~~xs->H2 a= ~~~xs:=λ a xs e=>f02 _ _ (λ z=>by rw[z,h]at e;cases e) (λ z=>by rw[z,hp]at e;cases e) e;obtain⟨nd2,sub,nin⟩:=vw nd;show q2 ps' (zg,zt,zm) H2 rfl (.mk hm2 ?_ ?_ hp2 (KpA.all pr' λ y hy v k=>?_) nd2) %[λ c o n e=>f02 _ _ (λ z=>n (by rw[z];simp[aN])) (λ z=>n (by rw[z];simp[aN])) e|λ c hc=>.inl (sub c hc)]
 ·obtain⟨kz,e1,e2⟩:=hth;exact%[kz,f02 _ _ nin.1 nin.2.1 e1|G4 e2 λ _ _ z=>%[z.1|z.2.imp λ _ y=>%[y.1|kt _ _ y.2]]]
 ·exact f02 _ _ nin.2.2.1 nin.2.2.2.1 hmm
 ·obtain⟨b1,b2,b3,b4⟩:=nin.2.2.2.2 y hy;exact k.keep kt (λ o e=>f02 _ _ b1 b2 e) (λ o e=>f02 _ _ b3 b4 e)
theorem pQ:∀{kvs:PP (Key×V)}{i:Nat}{kv:Key×V},(kvs.map (·.1)).Nodup->kvs[i]?=some kv->dJ kvs kv.1=some kv.2
 | [],i,kv,_,h=>by simp at h
 | a :: r,0,kv,_,h=>by
  cases h;unfold dJ;rw[List.find?_cons_of_pos (by simp)]
  rfl
 | a :: r,i+1,kv,nd,h=>by
  rw[J3,K8]at nd;have h:r[i]?=some kv:=by simpa using h
  have ne:¬ a.1=kv.1:=λ e=>nd.1 (by rw[e];exact M4.mpr %[kv,B5 h|O]);have:=pQ nd.2 h;unfold dJ at this ⊢;rw[List.find?_cons_of_neg (by simpa using ne)];exact this
theorem Gd.nd{ks:PP Kd}{g:Stn}(h:Gd ks g){H:Hp}{kvs:PP (Key×V)}(p:Paired (ThK H) kvs g.pl):(kvs.map (·.1)).Nodup:=by rw[ThA.keys p];exact List.Pairwise.map _ (λ a b h e=>by have:=Sum.inl.inj e;omega) h.up
theorem Gd.at{ks:PP Kd}{g:Stn}(h:Gd ks g){H:Hp}{kvs:PP (Key×V)}(p:Paired (ThK H) kvs g.pl){i:Nat}{q0:Int×Int×Int}(hi:g.pl[i]?=some q0):∃a,dJ kvs (.inl q0.1)=↑a/\H a= ~~~[.int q0.2.1,.int q0.2.2]:=by obtain⟨kv,hk,e1,a,e2,ha⟩:=Paired.getL p hi;show%[a,?_|ha];rw[<- e1,pQ (h.nd p) hk,e2]
theorem Gd.num{ks:PP Kd}{g:Stn}(h:Gd ks g){q q':Int×Int×Int}(m:q∈g.pl)(m':q'∈g.pl)(e:q.1=q'.1):q=q':=by
 obtain⟨i,hi⟩:=K6.mp m;obtain⟨j,hj⟩:=K6.mp m';have ii:(g.pl.map (·.1))[i]?=some q.1:=by rw[J1,hi];rfl
 have jj:(g.pl.map (·.1))[j]?=some q.1:=by rw[J1,hj,e];rfl
 have nd:(g.pl.map (·.1)).Nodup:=h.up.imp λ z e=>⋯
 have il:i < (g.pl.map (·.1)).length:=(A6.mp ii).1;have:=(List.getElem?_inj il nd).mp (ii.trans jj.symm);subst this;rw[hi]at hj;exact B8 hj
theorem ky{ks:PP Kd}{g:Stn}(h:Gd ks g){H:Hp}{q0:Int×Int×Int}(m0:q0∈g.pl):∀{kvs:PP (Key×V)}{pl:PP (Int×Int×Int)},Paired (ThK H) kvs pl->(∀q∈pl,q∈g.pl)->Paired (ThK H) (iV kvs (.inl q0.1)) (pl.filter λ q=>decide (q≠q0))
 | _,_,.nil,_=>.nil
 | kv :: kvs,q :: pl,.cons e r,hp=>by
  have ih:=ky h m0 r λ q hq=>hp q (B4 _ hq);unfold iV at ih ⊢
  by_cases c:q=q0
  ·rw[List.filter_cons_of_neg (by rw[e.1,c];simp),List.filter_cons_of_neg (by simp[c])];exact ih
  ·rw[List.filter_cons_of_pos (by
    rw[e.1];simp only[ne_eq,Sum.inl.injEq,decide_not,Bool.not_eq_true',decide_eq_false_iff_not];exactλ z=>c (h.num (hp q B7) m0 z)),List.filter_cons_of_pos (by simp[c])]
   exact .cons e ih
theorem MdA.setT{H:Hp}{m pa t md:PK}{le:Int}{g:Stn}{ps:PP (Stn×PK×PK)}(x:MdA H m pa t md le g ps){kvs:PP (Key×V)}{pl:PP (Int×Int×Int)}(p:Paired (ThK H) kvs pl):MdA (upd H t (.dK kvs)) m pa t md le %[pl,g.nu,g.md|g.pu] ps/\Kept (aN m pa t md ps) (aN m pa t md ps) H (upd H t (.dK kvs)):=by
 obtain⟨h,⟨kv0,ht,pt⟩,hm,hp,pr,nd⟩:=x;obtain⟨n1,n2,n3,n4,n5⟩:=MdA.nes nd;have k:∀c o,c≠t->H c=some o->upd H t (.dK kvs) c=some o:=λ c o n e=>by rw[aw n];exact e
 have kt:∀a xs,H a= ~~~xs->upd H t (.dK kvs) a= ~~~xs:=λ a xs e=>k _ _ (λ z=>by rw[z,ht]at e;cases e) e;show%[.mk (k _ _ n1 h) %[kvs,au|G4 p λ _ _ z=>%[z.1|z.2.imp λ _ y=>%[y.1|kt _ _ y.2]]] (k _ _ n3 hm) (k _ _ n5 hp) (KpA.all pr λ z hz v y=>?_) nd,λ c o n e=>k _ _ (λ z=>n (by rw[z];simp[aN])) e|λ c hc=>.inl hc];have nz:=MdA.past nd hz;exact y.keep kt (λ o e=>k _ _ nz.1 e) (λ o e=>k _ _ nz.2.2.1 e)
theorem MdA.same{H H':Hp}(s:Same H H'){m pa t md:PK}{le:Int}{g:Stn}{ps:PP (Stn×PK×PK)}(x:MdA H m pa t md le g ps):MdA H' m pa t md le g ps:=by obtain⟨h,ht,hm,hp,pr,nd⟩:=x;exact .mk (s _ _ h) (ht.same s) (s _ _ hm) (s _ _ hp) (KpA.all pr λ z hz v y=>y.keep (λ a xs e=>s _ _ e) (λ o e=>s _ _ e) (λ o e=>s _ _ e)) nd
theorem Kept.same{H H':Hp}(s:Same H H'){own:PP PK}:Kept own own H H':=%[λ c o _ e=>s _ _ e|λ c hc=>.inl hc]
theorem MdA.notup{H:Hp}{m pa t md:PK}{le:Int}{g:Stn}{ps:PP (Stn×PK×PK)}(x:MdA H m pa t md le g ps):∀c∈aN m pa t md ps,∃o,H c=some o/\∀xs,o≠.tup xs:=by
 obtain⟨h,⟨kvs,ht,_⟩,hm,hp,pr,nd⟩:=x;intro c hc;unfold aN at hc;simp only[G7]at hc;rcases hc with rfl | rfl | rfl | rfl | hc
 ·exact%[_,h|λ _ z=>nomatch z]
 ·exact%[_,hp|λ _ z=>nomatch z]
 ·exact%[_,ht|λ _ z=>nomatch z]
 ·exact%[_,hm|λ _ z=>nomatch z]
 ·obtain⟨y,hy,hc⟩:=K3.mp hc;obtain⟨i,hi⟩:=K6.mp hy;obtain⟨v,hv,e,_,⟨k,h1,_⟩,h2⟩:=Paired.getL pr hi;simp only[G7,C1,Pl]at hc;rcases hc with rfl | rfl
  ·exact%[_,h1|λ _ z=>nomatch z]
  ·exact%[_,h2|λ _ z=>nomatch z]
theorem LfV.keep{H H':Hp}(k:∀a xs,H a= ~~~xs->H' a= ~~~xs){v:V}{f:Lf}(h:LfV H v f):LfV H' v f:=by obtain⟨a,lv,e,h,t,d⟩:=h;exact%[a,lv,e,k _ _ h,TrV.keep k f.t t|d]
theorem Gd.filter{ks:PP Kd}{g:Stn}(h:Gd ks g)(f:Int×Int×Int->Bool):Gd ks %[g.pl.filter f,g.nu,g.md|g.pu]:=%[h.n0,h.up.sublist (List.filter_sublist.map _),λ q hq=>h.lt q (OU.mp hq).1|h.ml]
theorem Gd.one{ks:PP Kd}{g:Stn}(h:Gd ks g){z:Int×Int}(hz:1<=z.1/\1<=z.2):Gd ks %[g.pl ++ [(g.nu,z.1,z.2)],g.nu+1,g.md|g.pu]:=by
 have n0:=h.n0;show%[by change 0<=g.nu+1;omega,?_,λ q hq=>?_|h.ml]
 ·change((g.pl ++ [(g.nu,z.1,z.2)]).map (·.1)).Pairwise (· < ·);rw[J7];show List.pairwise_append.mpr %[h.up,List.pairwise_singleton _ _|λ a ha b hb=>?_];obtain⟨q,hq,rfl⟩:=M4.mp ha;rw[List.map_singleton,E2]at hb;rw[hb];exact(h.lt q hq).2.1
 ·change 0<=q.1/\q.1 < g.nu+1/\_;rcases C3.mp hq with hq | hq
  ·have:=h.lt q hq;exact%[this.1,⋯|this.2.2]
  ·rw[E2.mp hq];exact%[n0,by change g.nu < g.nu+1;omega|hz]
theorem Gd.came{ks:PP Kd}:∀{l:PP (Int×Int)},(∀z∈l,1<=z.1/\1<=z.2)->∀{g:Stn},Gd ks g->Gd ks %[g.pl ++ bz g.nu l,g.nu+l.length,g.md|g.pu]
 | [],_,g,h=>by change Gd ks %[g.pl ++ [],g.nu+0,g.md|g.pu];rw[K0,Int.add_zero];exact h
 | z :: r,hl,g,h=>by have:=Gd.came (λ y hy=>hl y (B4 _ hy)) (h.one (hl z B7));rw[bz,J0,show g.nu+((r.length+1:Nat):Int)=g.nu+1+(r.length:Int)by omega,show g.pl ++ (g.nu,z.1,z.2) :: bz (g.nu+1) r=(g.pl ++ [(g.nu,z.1,z.2)]) ++ bz (g.nu+1) r by rw[K9];rfl];exact this
theorem kA{le:Int}(h:1<=le)(rs:PP Rst):∀z∈aS le rs,1<=z.1/\1<=z.2:=λ z hz=>by
 obtain⟨r,hr,rfl⟩:=M4.mp hz;have:=C0 (OU.mp hr).2;change 1<=r.w/\1<=r.h
 split at this <;> omega
theorem MdA.out{H:Hp}{m pa t md:PK}{le:Int}{g:Stn}{ps:PP (Stn×PK×PK)}(x:MdA H m pa t md le g ps){fo:PK}{o:HO}(hf:fo∉aN m pa t md ps)(nt:∀xs,H fo≠some (.tup xs)):MdA (upd H fo o) m pa t md le g ps:=by
 obtain⟨h,⟨kvs,ht,pt⟩,hm,hp,pr,nd⟩:=x;have k:∀c q,c∈aN m pa t md ps->H c=some q->upd H fo o c=some q:=λ c q hc e=>by rw[@aw _ fo c _ (λ z=>hf (by rw[<- z];exact hc))];exact e
 have kt:∀a xs,H a= ~~~xs->upd H fo o a= ~~~xs:=λ a xs e=>by rw[@aw _ fo a _ (λ z=>nt xs (by rw[<- z];exact e))];exact e
 show .mk (k _ _ (by simp[aN]) h) %[kvs,k _ _ (by simp[aN]) ht|G4 pt λ _ _ z=>%[z.1|z.2.imp λ _ y=>%[y.1|kt _ _ y.2]]] (k _ _ (by simp[aN]) hm) (k _ _ (by simp[aN]) hp) (KpA.all pr λ z hz v y=>?_) nd;have i1:z.2.1∈ps.flatMap λ z=>[z.2.1,z.2.2]:=K3.mpr %[z,hz|by simp];have i2:z.2.2∈ps.flatMap λ z=>[z.2.1,z.2.2]:=K3.mpr %[z,hz|by simp];have up:∀c,c∈(ps.flatMap λ z=>[z.2.1,z.2.2])->c∈aN m pa t md ps:=λ c hc=>B4 _ (B4 _ (B4 _ (B4 _ hc)));exact y.keep kt (λ q e=>k _ _ (up _ i1) e) (λ q e=>k _ _ (up _ i2) e)
theorem MdA.setM{H:Hp}{m pa t md:PK}{le:Int}{g:Stn}{ps:PP (Stn×PK×PK)}(x:MdA H m pa t md le g ps)(l:Q9):MdA (upd H md (.lst (l.map V.int))) m pa t md le %[g.pl,g.nu,l|g.pu] ps/\Kept (aN m pa t md ps) (aN m pa t md ps) H (upd H md (.lst (l.map V.int))):=by
 obtain⟨h,⟨kv0,ht,pt⟩,hm,hp,pr,nd⟩:=x;obtain⟨n1,n2,n3,n4,n5⟩:=MdA.nes nd;have k:∀c o,c≠md->H c=some o->upd H md (.lst (l.map V.int)) c=some o:=λ c o n e=>by rw[aw n];exact e
 have kt:∀a xs,H a= ~~~xs->upd H md (.lst (l.map V.int)) a= ~~~xs:=λ a xs e=>k _ _ (λ z=>by rw[z,hm]at e;cases e) e;have nd':=nd;unfold aN at nd';simp only[K8,G7,P9]at nd';obtain⟨_,⟨_,b2,_⟩,_,⟨d1,_⟩⟩:=nd';show%[.mk (k _ _ n2 h) %[kv0,k _ _ (Ne.symm n3) ht|G4 pt λ _ _ z=>%[z.1|z.2.imp λ _ y=>%[y.1|kt _ _ y.2]]] au (k _ _ b2 hp) (KpA.all pr λ z hz v y=>?_) nd,λ c o n e=>k _ _ (λ z=>n (by rw[z];simp[aN])) e|λ c hc=>.inl hc];have i1:z.2.1∈ps.flatMap λ z=>[z.2.1,z.2.2]:=K3.mpr %[z,hz|by simp];have i2:z.2.2∈ps.flatMap λ z=>[z.2.1,z.2.2]:=K3.mpr %[z,hz|by simp];exact y.keep kt (λ o e=>k _ _ (λ c=>d1 (by rw[<- c];exact i1)) e) (λ o e=>k _ _ (λ c=>d1 (by rw[<- c];exact i2)) e)
theorem LU{l:Q9}{n:Nat}(h:l.length=n):List.zipWith (· + ·) l (bI [] n)=l:=by
 apply List.ext_getElem?;intro j;rw[N9]
 by_cases c:j < n
 ·rw[eD c,F1 (show j < l.length by omega)];simp
 ·rw[C9 (show l.length<=j by omega)]
theorem zM{l:Q9}{ps:PP Pce}{n k:Nat}(hl:l.length=n)(h:k < n):∃x,(List.zipWith (· + ·) l (bI ps n))[k]?=some x:=%[_|F1 (by rw[N6,cx,hl,Nat.min_self];exact h)]
theorem yd{l:Q9}{ps:PP Pce}{p:Pce}{n:Nat}{x:Int}(hl:l.length=n)(h:p.k < n)(hx:(List.zipWith (· + ·) l (bI ps n))[p.k]?=some x):((List.zipWith (· + ·) l (bI ps n)).map V.int).set p.k (.int (x+1))=(List.zipWith (· + ·) l (bI (ps ++ [p]) n)).map V.int:=by
 apply List.ext_getElem?;intro j;rw[List.getElem?_set];have hl1:((List.zipWith (· + ·) l (bI ps n)).map V.int).length=n:=by rw[G6,N6,cx,hl,Nat.min_self]
 by_cases hj:j < n
 ·have lj:l[j]?=some l[j]:=F1 ⋯;rw[J1,J1,N9,N9,eD hj,eD hj,lj,hl1]
  by_cases c:p.k=j
  ·subst c;rw[N9,eD h,lj]at hx;cases hx;rw[Pa rfl,Pa h,N1,G8];simp[Int.add_assoc]
  ·rw[PZ c,N1];have:([p].filter λ q=>q.k == j)=[]:=by simp[c]
   rw[this,K0]
 ·rw[C9 (show((List.zipWith (· + ·) l (bI (ps ++ [p]) n)).map V.int).length<=j by rw[G6,N6,cx];omega),C9 (show((List.zipWith (· + ·) l (bI ps n)).map V.int).length<=j by omega)]
  split
  ·split
   ·omega
   ·rfl
  ·rfl
theorem jp{b:Int}{ks:PP Kd}:∀(t:Tr){w h:Int},okU b ks w h t->okT b ks w h t
 | .rest,_,_,_=>trivial
 | .piece i c x y,w,h,⟨k,hk,hm,x0,y0,hx,hy⟩=>by
  show%[k,hk,?_,x0,y0,hx|hy];obtain⟨_,k',hk',hc⟩:=nY hm;have hk':ks[i]?=some k':=hk';rw[hk]at hk';cases hk';unfold pK;rcases hc with hc | hc
  ·have hc:c=false:=hc;rw[hc]
   split <;> simp
  ·rw[Pa hc];cases c <;> simp
 | .cut true p l r,w,h,⟨p1,hp,hl,hr⟩=>%[p1,hp,jp l hl|jp r hr]
 | .cut false p l r,w,h,⟨p1,hp,hl,hr⟩=>%[p1,hp,jp l hl|jp r hr]
inductive spCutM(vs:PP V)(H:Hp)(Q:VK)(E_:XK):Prop
|mk(sh kl m pa t md:PK)(b le:Int)(ks:PP Kd)(g:Stn)(ps:PP (Stn×PK×PK))(v:V)(T:Tr)(i:Nat)(q0:Int×Int×Int)(_:vs=[.ref sh,.ref m,.int q0.1,v])(_:LS H sh b ks kl)(_:ks.length<=8)(_:kl∉aN m pa t md ps)(_:MdA H m pa t md le g ps)(_:Gd ks g)(_:g.pl.length<=2000)(_:ps.length<=1000)(_:g.pl[i]?=some q0)(_:TrV H T v)(_:okU b ks q0.2.1 q0.2.2 T)(_:dT T<=40)(_:lvN T<=63)(_:1<=le)
  (e_14:∀(z:Stn×PK×PK)(rs:PP Rst)(l:PK)(H':Hp),rs.Perm (jl b T q0.2.1 q0.2.2)->(rs.map fb).Pairwise (λ x y=>cu y x=false)->MdA H' m pa t md le (gy le g q0 rs (bI (pcs b T q0.2.1 q0.2.2) ks.length)) (ps ++ [(g,z.2)])->Kept (aN m pa t md ps) (aN m pa t md (ps ++ [(g,z.2)])) H H'->l∉aN m pa t md (ps ++ [(g,z.2)])->H' l=↥((bz g.nu (aS le rs)).map λ z=>V.int z.1)->Q (.ref l) H'):spCutM vs H Q E_
inductive spState(vs:PP V)(H:Hp)(Q:VK)(E_:XK):Prop
|mk(sh kl m pa t md:PK)(b le:Int)(ks:PP Kd)(g:Stn)(ps:PP (Stn×PK×PK))(_:vs=[.ref sh,.ref m])(_:LS H sh b ks kl)(_:ks.length<=8)(_:MdA H m pa t md le g ps)(_:Gd ks g)(_:g.pl.length<=3000)(_:∀k∈ks,Good k)(_:xQ g)(_:xR ks g)(_:∀(l pl ml ct:PK)(rs:PP V)(H':Hp),H' l=↥[.ref pl,.ref ml,.ref ct]->H' pl=↥rs->Paired (PlA H') rs g.pl->H' ml=↥(g.md.map V.int)->H' ct= ~~~[.int g.pu,.int (thr g),.int (mdc ks g),.int (g.pu - thr g - mdc ks g)]->Same H H'->Q (.ref l) H')
def LV(K:C5):R2:=rz_op_eqD K
theorem ye{X:Cx}(K:C5)(hK:X.K=K)(hu:X.A.units+64 < cLine):OpR X (compareOp .Eq) (LV K):=hK ▸ kN hu
theorem sccutm:FnScope Qu Qv (defScope uO):=nofun
theorem yf{f:PK}{fd:F8}(F:Fun K "_law_cut" "_law_cut" uO f fd)(B:Blt mg)(DK:Dn P w K mg base "_law_kept" Qr 1 (spKept))(DC:Dn P w K mg base "_law_came" Qs 1 (spCame))(DW:Dn P w K mg base "_law_walk" Qp 44 (ga 41))(DP:Dn P w K mg base "_law_pieces" Qq 1 (yM K)):FnOk P w K mg base CX0 45 f fd Qv (spCutM):=by
 exists sccutm;obtain⟨sh,kl,m,pa,t,md,b,le,ks,g,ps,v,T,i,q0,rfl,ls,k8,nk,x,gd,p2,l1,hi,tv,okT,d40,l63,le1,q⟩:=h;have hu:=hr.units;have hu1:=C7 (M2 (show 1<=64 by decide) _) hu;show%[_,((@bA _ _ _ _ _ _ (aR hu1 (aR hu1 '1' aB (λ _ _=>O)) '2' (λ _ _=>O)) (bf O (4•(5•aQ))) O O O)<<<((6∣(DW∪('0'^^^((@aI _ _ _ _ _ (af^^^(af^^^('4'^^^('5'^^^ad)))))^^^('3'^^^ad)))))<<<((@be _ _ _ _ (@dB _ _ _ _ _ _ _ _ _ _ _ _ F5 PySem.F.slot_list_append PySem.F.type_list_append bE (aR hu1 '1' aB (λ _ _=>O)) ((DK∩('1'^^^ad))^^^ad) O O O O O) O)<<<((@be _ _ _ _ (uC (aR hu1 '1' aB (λ _ _=>O)) '2' %[O,O,O|O]) O)<<<((7∣(@aL _ _ _ _ ad))<<<((@cP _ _ _ _ _ _ _ _ E4 O (bU (@aD _ _ _ _ _ _ _ _ _ cZ O B.sorted PyProof.Rows.boot_sorted ((cz (own:=["_law_leaf_here"]) (cs:=[]) (cap:=[]) O (bU '6') (bj (sc:=defScope uO) (N:=Qu) O O ∅) (λ _ _ _ _ _=>ai (i:=0) (by change List.Nodup (["_law_leaf_here"]:PP Str) ;decide +kernel) O (Or.inl O) (Or.inr O)) (λ _ _ _ _ _=>(eW ((aA (r:=rIxT K) ix_tup '0' af (λ _ _=>O))<*>(ye K O hu)<*>(@aI _ _ _ _ _ (aB^^^ad))))) (λ _ _ _ _ _=>(eS (r:=AV K) iH '0' ic (fh af))))^^^ad) ∅ ∅ O O)) (ai (i:=8) nd O (Or.inl O)) (@ag _ _ _ (((@aD _ _ _ _ _ _ _ _ _ (qB O) O B.min P1 ((@eS _ _ _ _ _ _ _ _ _ _ iH '8' (fh af) ic)^^^ad) ∅ ∅ O O)<*>jD<*>(aR hu1 '1' aB (λ _ _=>O)))<|>(@ag _ _ _ (@be _ _ _ _ (@dB _ _ _ _ _ _ _ _ _ _ _ _ F5 PySem.F.slot_list_append PySem.F.type_list_append bE '7' ((DC∩('1'^^^(('8'&&&ix_tup&&&af)^^^(('8'&&&ix_tup&&&af)^^^ad))))^^^ad) O O O O O) O))<|>aG)) (by intro _;rfl))<<<((@cP _ _ _ _ _ _ _ _ E4 O (bU (DP∩('6'^^^ad))) (ai (i:=9) nd O (Or.inl O)) (@ag _ _ _ (@bA _ _ _ _ _ _ (((aR hu1 '1' aB (λ _ _=>O))&&&ix_list&&&('9'&&&ix_tup&&&af))|||aW|||af) (eO (aR hu1 '1' aB (λ _ _=>O)) ('9'&&&ix_tup&&&af) eU) O O O)) (by intro _;rfl))<<<('7'⁻¹))))))))|?_];dsimp only[bF];have z3:(5000:Nat) < sizeLine:=∅
 have m0:=B5 hi;obtain⟨n0,nlt,w1,h1⟩:=gd.lt q0 m0;have SS:∀(W h lf fo l1 l2:PM V),True:=λ _ _ _ _ _ _=>trivial;show ar (λ R=>R [↑sh,↑m,⇑q0.1,some v,⇑q0.2.1,⇑q0.2.2,none,none,none,none] H) (λ Dd hR=>?_) ?_
 ·obtain⟨h,⟨kvs,ht,pt⟩,hm,hp,pr,nd'⟩:=id x;obtain⟨g1,g2,g3,g4,g5,g6⟩:=bV le t g.nu md g.pu pa;obtain⟨a,ea,ha⟩:=gd.at pt hi;exact%[_,O,m,_,O,.inl %[_,_,.inl h,O|g2.symm],_,O,t,_,O,.inl %[kvs,.inl q0.1,.inl ht,O|ea.symm],a,_,O,G2 ha,O,_,_,O,_,_,O,O|hR]
 skip
 show ar (λ R=>∀(lf:PK)(us:PP V)(H':Hp),H lf=none->H' lf=↥us->Paired (LfV H') us (lvT b T 0 0 q0.2.1 q0.2.2)->Same H H'->R [↑sh,↑m,⇑q0.1,some v,⇑q0.2.1,⇑q0.2.2,↑lf,none,none,none] H') (λ Dd hR=>?_) ?_
 ·show%[_,O,_,O,_,O,zS4|λ pp hpp=>?_];show aK hpp λ H1 k1 s1=>?_;exact%[_,O,sh,kl,pp,b,0,0,q0.2.1,q0.2.2,ks,v,T,O,ls.same s1,k8,k1,TrV.keep (λ a xs e=>s1 _ _ e) T tv,okT,d40,⋯,⋯|λ l us H2 fl hl pl s2=>hR l us _ (s1.free fl) hl pl (s1.trans s2)]
 rintro lf us H1 flf hlf plf s1;have x1:=x.same s1;show ar (λ R=>∀(H':Hp),vx H1 H' m pa t md le g ps->R [↑sh,↑m,⇑q0.1,some v,⇑q0.2.1,⇑q0.2.2,↑lf,none,none,none] H') (λ Dd hR=>?_) ?_
 ·obtain⟨uq,hp,ul,go⟩:=x1.push;obtain⟨h,_,_,_,_,_⟩:=id x1;obtain⟨g1,g2,g3,g4,g5,g6⟩:=bV le t g.nu md g.pu pa;show%[_,O,m,_,O,.inl %[_,_,.inl h,O|g6.symm],.inl %[O,_|G3 hp],_,O,m,pa,t,md,le,g,ps,O,x1|λ t' md' v H2 f1 f2 ne kp s2=>?_];exact%[pa,_,_,O,O,s2 _ _ hp,by rw[ul];omega|hR _ (go t' md' v H2 f1 f2 ne kp s2)]
 rintro H2 ⟨z,x2,k12⟩;show bn (λ σ' H'=>σ'=[↑sh,↑m,⇑q0.1,some v,⇑q0.2.1,⇑q0.2.2,↑lf,none,none,none]/\MdA H' m pa t md le %[g.pl.filter λ q=>decide (q≠q0),g.nu,g.md|g.pu] (ps ++ [(g,z.2)])/\Kept (aN m pa t md (ps ++ [(g,z.2)])) (aN m pa t md (ps ++ [(g,z.2)])) H2 H') (λ R hR=>?_) ?_
 ·obtain⟨h,⟨kvs,ht,pt⟩,hm,hp,pr,nd'⟩:=id x2;obtain⟨g1,g2,g3,g4,g5,g6⟩:=bV le t g.nu md g.pu pa;obtain⟨a,ea,ha⟩:=gd.at pt hi;exact%[_,O,m,_,O,.inl %[_,_,.inl h,O|g2.symm],t,O,.inl %[kvs|.inl ht],_,O,kvs,.inl q0.1,_,ht,O,ea|hR _ _ %[O|x2.setT (ky gd m0 pt λ _ h=>h)]]
 rintro _ H3 ⟨rfl,x3,k23⟩;have ow:=x.there;have k13:=k12.trans k23;have k03:Kept (aN m pa t md ps) (aN m pa t md (ps ++ [(g,z.2)])) H H3:=(Kept.same s1).trans k13;have nlf:lf∉aN m pa t md (ps ++ [(g,z.2)]):=λ c=>by
  rcases k13.2 _ c with e | e
  ·exact ow _ e flf
  ·rw[hlf]at e;cases e
 have nlf0:lf∉aN m pa t md ps:=λ c=>ow _ c flf;have hlf3:=k13.1 _ _ nlf0 hlf;have kt:∀a xs,H1 a= ~~~xs->H3 a= ~~~xs:=λ a xs e=>k13.1 _ _ (λ c=>by
  obtain⟨o,ho,nt⟩:=x1.notup _ c;rw[ho]at e;cases e;exact nt _ rfl) e
 have plf3:Paired (LfV H3) us (lvT b T 0 0 q0.2.1 q0.2.2):=G4 plf λ v f h=>h.keep kt;generalize hOW:aN m pa t md (ps ++ [(g,z.2)])=OW at *;show ar (λ R=>∀(fo:PK)(H':Hp),H3 fo=none->H' fo=↥[]->Same H3 H'->R [↑sh,↑m,⇑q0.1,some v,⇑q0.2.1,⇑q0.2.2,↑lf,↑fo,none,none] H') (λ Dd hR=>?_) ?_
 ·exact%[∅|λ fo hfo=>hR fo _ hfo au (G1 hfo)]
 rintro fo H4 ffo hfo s34;have x4:=x3.same s34;have hlf4:=s34 _ _ hlf3;have ul:=E3 plf3;rw[cT]at ul;have nfo:fo∉OW:=λ c=>by rw[<- hOW]at c;exact x3.there _ c ffo
 show ar (λ R=>∀(rs:PP Rst)(v8:PM V)(H':Hp),rs.Perm (jl b T q0.2.1 q0.2.2)->(rs.map fb).Pairwise (λ x y=>cu y x=false)->MdA H' m pa t md le %[(g.pl.filter λ q=>decide (q≠q0)) ++ bz g.nu (aS le rs),g.nu+(aS le rs).length,g.md|g.pu] (ps ++ [(g,z.2)])->H' fo=↥((bz g.nu (aS le rs)).map λ z=>.int z.1)->(∀c o,c∉OW->c≠fo->H4 c=some o->H' c=some o)->R [↑sh,↑m,⇑q0.1,some v,⇑q0.2.1,⇑q0.2.2,↑lf,↑fo,v8,none] H') (λ Dd hR=>?_) ?_
 ·show%[_,O,lf,O,%[_|G3 hlf4]|(bY (K:=K) (.inl hlf4) (λ i ys Hx=>Same H4 Hx/\∃as:PP PK,ys=as.map V.ref/\Paired (RA Hx) as (((lvT b T 0 0 q0.2.1 q0.2.2).take i).filterMap lfR)) (λ i ys Hx _ ⟨sx,_⟩ o e=>sx _ _ e) %[Same.refl _,[],O|.nil] ?_ ?_).1 hlf4]
  ·rintro j y ys Hx hj ⟨sx,as,rfl,px⟩;have hjn:j < us.length:=(A6.mp hj).1;obtain⟨f,hf,a,lv,rfl,ha,tl,d0⟩:=G5 plf3 hj;have s3x:=s34.trans sx;have yl:=E3 px;have fml:(((lvT b T 0 0 q0.2.1 q0.2.2).take j).filterMap lfR).length<=((lvT b T 0 0 q0.2.1 q0.2.2).take j).length:=J5 _ _;rw[J2,cT]at fml;have tl4:=TrV.keep (λ a xs e=>s3x _ _ e) f.t tl;have tk:((lvT b T 0 0 q0.2.1 q0.2.2).take (j+1)).filterMap lfR=((lvT b T 0 0 q0.2.1 q0.2.2).take j).filterMap lfR ++ (lfR f).toList:=by rw[J4,hf,N0];cases e:lfR f <;> simp[e]
   show%[by rw[G6];omega,leS.set rfl|?_];show%[_,O,a,_,4,_,O,O,G2 (s3x _ _ ha),O,zS1|λ e he=>?_];show aK he λ H6 k6 s6=>?_;show%[toD f.t,.tuple [.str "rest"],TrV.dat (K:=K) f.t (TrV.keep (λ a xs e=>s6 _ _ e) f.t tl4),.tup (G2 k6) (.cons (.str _) .nil),jn ⋯,∅,_,O|?_]
   by_cases c:f.t=.rest
   ·rw[c,show PyData.eqv (toD .rest) (.tuple [.str "rest"])=true by decide +kernel];show aU %[_,rfl,_,rfl,a,_,rfl,G2 (s6 _ _ (s3x _ _ ha)),(λ z=>absurd z.2 (show¬ HT.sIx 5 5 (some 4)=5 by decide))|λ s2 hs2=>Nx.of hjn %[(sx.trans s6).trans (G1 hs2),as ++ [s2],by rw[J7];rfl|?_]];rw[tk,show lfR f=some %[f.x,f.y,f.w|f.h]by unfold lfR;rw[c]];exact eZ (G4 px λ a q h=>G1 hs2 _ _ (s6 _ _ h)) (.cons au .nil)
   ·rw[jo c];show aT (Nx.of hjn %[sx.trans s6,as,rfl|?_]);rw[tk,show lfR f=none by
     unfold lfR;cases e:f.t with
     | rest=>exact absurd e c
     | _=>rfl]
    rw[Option.toList_none,K0];exact G4 px λ a q h=>s6 _ _ h
  ·rintro ys Hx ⟨sx,as,rfl,px⟩;have yl:=E3 px;rw[ul,<- cT b T 0 0 q0.2.1 q0.2.2,J9]at px yl;have fml:((lvT b T 0 0 q0.2.1 q0.2.2).filterMap lfR).length<=(lvT b T 0 0 q0.2.1 q0.2.2).length:=J5 _ _;rw[cT]at fml;show%[by rw[G6];omega|λ cl hcl=>?_];show aK hcl λ H6 k6 s6=>?_;have pa6:Paired (RA H6) as ((lvT b T 0 0 q0.2.1 q0.2.2).filterMap lfR):=RA.keep (λ a xs e=>s6 _ _ e) px;have mem:=RA.mem pa6;have mp:=RA.map pa6;show%[cl,as,[false,false,false,false],λ a=>fb (dE H6 a),O,G3 k6,⋯,O,λ a ha=>%[_,G2 (mem a ha)|O]|λ ll as' hll pas so=>?_];show aK hll λ H7 k7 s7=>?_;have s47:=sx.trans (s6.trans s7);have x7:=x4.same s47;have pm:(as'.map (dE H6)).Perm (jl b T q0.2.1 q0.2.2):=by have h1:=pas.map (dE H6);rw[mp]at h1;exact h1.trans ((fZ b T 0 0 q0.2.1 q0.2.2).filterMap _)
   have so':((as'.map (dE H6)).map fb).Pairwise (λ x y=>cu y x=false):=by rw[PJ];exact so
   have pr7:Paired (RA H7) as' (as'.map (dE H6)):=RA.keep (λ a xs e=>s7 _ _ e) (RA.back λ a ha=>mem a (pas.mem_iff.mp ha));have hll4:H4 ll=none:=(sx.trans s6).free hll;generalize as'.map (dE H6)=rs at *;have fo7:=s47 _ _ hfo;have rl:=E3 pr7;have rl63:rs.length<=63:=by have e1:=pas.length_eq;omega
   have nll:ll≠fo:=λ z=>by rw[z,hfo]at hll4;cases hll4
   have nllO:ll∉OW:=λ c=>by rw[<- hOW]at c;exact x4.there _ c hll4
   show%[ll,O,%[_|G3 k7]|dq (xs:=as'.map V.ref) (λ i σ' H'=>∃v8,σ'=[↑sh,↑m,⇑q0.1,some v,⇑q0.2.1,⇑q0.2.2,↑lf,↑fo,v8,none]/\MdA H' m pa t md le %[(g.pl.filter λ q=>decide (q≠q0)) ++ bz g.nu (aS le (rs.take i)),g.nu+(aS le (rs.take i)).length,g.md|g.pu] (ps ++ [(g,z.2)])/\H' fo=↥((bz g.nu (aS le (rs.take i))).map λ z=>.int z.1)/\∀c o,c∉OW->c≠fo->H7 c=some o->H' c=some o) %[_,O,?_,fo7|λ c o _ _ e=>e] (λ i σ H' _ h=>?_) ?_ ?_]
   ·have e0:aS le (rs.take 0)=[]:=rfl;rw[e0];have:=x7;change MdA H7 m pa t md le %[_ ++ [],g.nu+0,g.md|g.pu] _;rw[K0,Int.add_zero];exact x7
   ·obtain⟨_,_,_,_,kj⟩:=h;exact G3 (kj _ _ nllO nll k7)
   ·rintro j x _ Hy hj ⟨v8,rfl,xj,fj,kj⟩;rw[J1]at hj;obtain⟨a,hja,rfl⟩:=K5.mp hj;obtain⟨r,hr,har⟩:=G5 pr7 hja;have kyt:∀a xs,H7 a= ~~~xs->Hy a= ~~~xs:=λ a xs e=>kj _ _ (λ c=>by
     rw[<- hOW]at c;obtain⟨o,ho,nt⟩:=x7.notup _ c;rw[ho]at e;cases e;exact nt _ rfl) (λ c=>by rw[c,fo7]at e;cases e) e
    have hary:=kyt _ _ har;have klen:(aS le (rs.take j)).length<=63:=by unfold aS;rw[G6];show C6 (K1 _ _) ?_;rw[J2];omega
    have fle:=K1 (λ q=>decide (q≠q0)) g.pl;show%[_,O,_,O,a,_,O,G2 hary,(λ z=>absurd z.1 (show¬ HT.sIx 4 0 (some 2)=0 by decide))|λ s2 hs2=>?_];show aK hs2 λ H8 k8 s8=>?_;have k8':H8 s2= ~~~([r.w,r.h].map V.int):=k8;obtain⟨hm8,_,_,_,_,_⟩:=id (xj.same s8);obtain⟨g1,g2,g3,g4,g5,g6⟩:=bV le t (g.nu+(aS le (rs.take j)).length) md g.pu pa;show%[s2,[r.w,r.h],O,G2 k8',by simp|λ mn i1 i2=>%[_,O,m,_,O,.inl %[_,_,.inl hm8,O|g1.symm],_,_,O,O,_,O|?_]];have tk:aS le (rs.take (j+1))=aS le (rs.take j) ++ (if kpB le r=true then[(r.w,r.h)]else[]):=by
     rw[J4,hr];unfold aS;rw[N1,J7];congr 1;simp only[M5,O6,List.filter_nil]
     split <;> rfl
    have kb:decide (le<=mn)=kpB le r:=by
     have:=i2 r.w (by simp);have:=i2 r.h (by simp);unfold kpB;simp only[G7,C1,Pl]at i1;congr 1;apply propext
     split <;> (rcases i1 with rfl | rfl <;> constructor <;> intro <;> omega)
    change(if decide (le<=mn)=true then _ else _);rw[kb];cases c:kpB le r with
    | false=>
     show aT %[_,rfl,?_,?_|λ c o n1 n2 e=>s8 _ _ (kj _ _ n1 n2 e)]
     ·rw[tk,c,PZ ∅,K0];exact xj.same s8
     ·rw[tk,c,PZ ∅,K0];exact s8 _ _ fj
    | true=>
     have sd:=kA le1 (rs.take (j+1));have har8:=s8 _ _ hary;show aU %[_,rfl,.inl %[rfl,_|G3 (s8 _ _ fj)],_,rfl,_,rfl,a,_,2,_,rfl,rfl,G2 har8,rfl,_,rfl,a,_,3,_,rfl,rfl,G2 har8,rfl,m,pa,t,md,le,r.w,r.h,ks,_,_,rfl,xj.same s8,Gd.came (kA le1 (rs.take j)) (gd.filter _),?_|λ H9 x9 k9=>?_]
     ·rw[G8,bR];omega
     ·have fo9:=k9.1 _ _ (by rw[hOW];exact nfo) (s8 _ _ fj);show%[fo,_,_,O,O,fo9,by rw[G6,bR];omega,_,O,?_,?_|λ c o n1 n2 e=>?_]
      ·have:=x9.out (o:=.lst (((bz g.nu (aS le (rs.take j))).map λ z=>V.int z.1) ++ [.int (g.nu+(aS le (rs.take j)).length)])) (by rw[hOW];exact nfo) (λ xs z=>by rw[fo9]at z;cases z);rw[tk,c,Pa rfl,eG,G8,<- K9,show g.nu+(((aS le (rs.take j)).length+[(r.w,r.h)].length:Nat):Int)=g.nu+(aS le (rs.take j)).length+1 by simp;omega];exact this
      ·rw[tk,c,Pa rfl,eG,J7];exact au
      ·rw[aw n2];exact k9.1 _ _ (by rw[hOW];exact n1) (s8 _ _ (kj _ _ n1 n2 e))
   ·rintro _ Hy ⟨v8,rfl,xj,fj,kj⟩;rw[show(as'.map V.ref).length=rs.length by rw[G6];exact rl,J9]at xj fj;exact hR rs v8 _ pm so' xj fj (λ c o n1 n2 e=>kj _ _ n1 n2 (s47 _ _ e))
 rintro rs v8 H5 pm so x5 hfo5 f45;have nlf_fo:lf≠fo:=λ z=>by rw[z,ffo]at hlf3;cases hlf3
 have hlf5:=f45 _ _ nlf nlf_fo hlf4;have kt45:∀a xs,H3 a= ~~~xs->H5 a= ~~~xs:=λ a xs e=>f45 _ _ (λ c=>by
  rw[<- hOW]at c;obtain⟨o,ho,nt⟩:=x3.notup _ c;rw[ho]at e;cases e;exact nt _ rfl) (λ c=>by rw[c,ffo]at e;cases e) (s34 _ _ e)
 have plf5:Paired (LfV H5) us (lvT b T 0 0 q0.2.1 q0.2.2):=G4 plf3 λ v f h=>h.keep kt45;show ar (λ R=>∀(v9:PM V)(H':Hp),MdA H' m pa t md le (gy le g q0 rs (bI (pcs b T q0.2.1 q0.2.2) ks.length)) (ps ++ [(g,z.2)])->(∀c o,c∉OW->H5 c=some o->H' c=some o)->R [↑sh,↑m,⇑q0.1,some v,⇑q0.2.1,⇑q0.2.2,↑lf,↑fo,v8,v9] H') (λ Dd hR=>?_) ?_
 ·show%[_,O,lf,us,_,O,hlf5,plf5,by rw[cT];omega|λ ll ys qs H6 fll hll pq pmq soq s56=>?_];have x6:=x5.same s56;have nllO:ll∉OW:=λ c=>by rw[<- hOW]at c;exact x5.there _ c fll
  have cq:bI (pcs b T q0.2.1 q0.2.2) ks.length=bI qs ks.length:=(kx (pmq.trans ((fZ b T 0 0 q0.2.1 q0.2.2).filterMap lfP)) _).symm;have ql:=E3 pq;show%[ll,O,%[_|G3 hll]|dq (xs:=ys) (λ i σ' H'=>∃v9,σ'=[↑sh,↑m,⇑q0.1,some v,⇑q0.2.1,⇑q0.2.2,↑lf,↑fo,v8,v9]/\MdA H' m pa t md le (gy le g q0 rs (bI (qs.take i) ks.length)) (ps ++ [(g,z.2)])/\∀c o,c∉OW->H6 c=some o->H' c=some o) %[_,O,?_|λ c o _ e=>e] (λ i σ H' _ h=>?_) ?_ ?_]
  ·have e0:=LU gd.ml;rw[List.take_zero];unfold gy;rw[e0];exact x6
  ·obtain⟨_,_,_,kj⟩:=h;exact G3 (kj _ _ nllO hll)
  ·rintro j x _ Hy hj ⟨v9,rfl,xj,kj⟩;obtain⟨p,hp,a,rfl,ha⟩:=G5 pq hj;have pk:p.k < ks.length:=by have m1:=(pmq.trans ((fZ b T 0 0 q0.2.1 q0.2.2).filterMap lfP)).mem_iff.mp (B5 hp);exact vh (jp T okT) m1
   have ha':=kj _ _ (λ c=>by
    rw[<- hOW]at c;obtain⟨o,ho,nt⟩:=x6.notup _ c;rw[show H6 a=_ from ha]at ho;cases ho;exact nt _ rfl) (show H6 a= ~~~[.int p.k,.bl p.c,.int p.x,.int p.y]from ha)
   obtain⟨h,_,hm,_,_,_⟩:=id xj;obtain⟨g1,g2,g3,g4,g5,g6⟩:=bV le t (g.nu+(aS le rs).length) md g.pu pa;obtain⟨x0,hx0⟩:=zM (ps:=qs.take j) gd.ml pk;have hat:atI ((gy le g q0 rs (bI (qs.take j) ks.length)).md.map V.int) (p.k:Int)=⇑x0:=bq ⋯ (by rw[K2,J1];change((List.zipWith (· + ·) g.md (bI (qs.take j) ks.length))[p.k]?).map _=_;rw[hx0];rfl);have hix:ixN ((gy le g q0 rs (bI (qs.take j) ks.length)).md.map V.int).length (p.k:Int)=some p.k:=by
    have ll:(gy le g q0 rs (bI (qs.take j) ks.length)).md.length=ks.length:=by change(List.zipWith (· + ·) g.md (bI (qs.take j) ks.length)).length=_;rw[N6,cx,gd.ml,Nat.min_self]
    unfold ixN;rw[Pa ⋯,G6,ll,Pa ⋯,K2]
   show%[_,O,m,_,O,.inl %[_,_,.inl h,O|g4.symm],_,O,a,_,0,_,O,O,G2 ha',O,md,_,_,_,O,O,G3 hm,hat,_,_,O,O,_,O,m,_,O,.inl %[_,_,.inl h,O|g4.symm],_,O,a,_,0,_,O,O,G2 ha',O,md,_,_,p.k,O,O,hm,hix|?_];have es:=yd gd.ml pk hx0;have tk:qs.take (j+1)=qs.take j ++ [p]:=by rw[J4,hp];rfl
   rw[show((gy le g q0 rs (bI (qs.take j) ks.length)).md.map V.int).set p.k (.int (x0+1))=_ from es,<- tk];obtain⟨y1,y2⟩:=xj.setM (List.zipWith (· + ·) g.md (bI (qs.take (j+1)) ks.length));exact%[_,O,y1|λ c o n e=>y2.1 _ _ (by rw[hOW];exact n) (kj _ _ n e)]
  ·rintro _ Hy ⟨v9,rfl,xj,kj⟩;rw[ql,J9,<- cq]at xj;exact hR v9 _ xj (λ c o n e=>kj _ _ n (s56 _ _ e))
 rintro v9 H6 x6 f56;exact%[_,O|q z rs fo H6 pm so x6 (k03.trans ⟨λ c o n e=>f56 _ _ n (f45 _ _ n (λ z=>by rw[z,ffo]at e;cases e) (s34 _ _ e)),λ c hc=>.inl (by rw[<- hOW];exact hc)⟩) (by rw[hOW];exact nfo) (f56 _ _ nfo hfo5)]
theorem scstate:FnScope Qw Qx (defScope fW):=nofun
theorem vz{f:PK}{fd:F8}(F:Fun K "_law_state" "_law_state" fW f fd)(B:Blt mg):FnOk P w K mg base CX0 1 f fd Qx (spState):=by
 exists scstate;obtain⟨sh,kl,m,pa,t,md,b,le,ks,g,ps,rfl,ls,k8,x,gd,p3,gk,plo,mdo,q⟩:=h;have hu:=hr.units;have hu1:=C7 (M2 (show 1<=64 by decide) _) hu;show%[_,((gj (i:=2) (own:=["_law_number"]) (cs:=Qr) (cap:=[1]) O nd O O O (bU (@aD _ _ _ _ _ _ _ _ _ (dM O) O B.sorted Pm ((aR hu1 '1' aB (λ _ _=>O))^^^ad) ∅ ∅ O O)) (bj (sc:=defScope fW) (N:=Qw) O O ∅) (λ _ _ _ _ _=>ai (i:=0) (by change List.Nodup (["_law_number","_law_model"]:PP Str) ;decide +kernel) O (Or.inl O) (Or.inr O)) (λ _ _ _ _ _=>bW) (λ _ _ _ _ _=>((@aI _ _ _ _ _ ('0'^^^ad))|||gr|||(aR hu1 (aR hu1 '1' aB (λ _ _=>O)) '0' (λ _ _=>O)))))<<<((3∣(@aD _ _ _ _ _ _ _ _ _ (fq O) O B.sum PyProof.Rows.boot_sum ((cz (own:=Qy) (cs:=[]) (cap:=[]) O (bU '2') (bj (sc:=defScope fW) (N:=Qw) O O ∅) (λ _ _ _ _ _=>mj K O O (by change List.Nodup (Qy:PP Str) ;decide +kernel) O O O O O O) (λ _ _ _ _ _=>bW) (λ _ _ _ _ _=>('1'|||cY|||'2')))^^^ad) ∅ ∅ O O))<<<((4∣(@aD _ _ _ _ _ _ _ _ _ (fq O) O B.sum PyProof.Rows.boot_sum ((cz (own:=["_law_many","_law_kind"]) (cs:=[]) (cap:=[]) O (uN false false O B.zip ((aR hu1 '1' aB (λ _ _=>O))^^^(('0'&&&ix_tup&&&af)^^^ad))) (bj (sc:=defScope fW) (N:=Qw) O O ∅) (λ _ _ _ _ _=>nP K O O (by change List.Nodup (["_law_many","_law_kind"]:PP Str) ;decide +kernel) O O O O) (λ _ _ _ _ _=>bW) (λ _ _ _ _ _=>(('0'|||cY|||(aA (r:=rIxT K) ix_tup '1' af (λ _ _=>O)))|||cY|||(aA (r:=rIxT K) ix_tup '1' af (λ _ _=>O)))))^^^ad) ∅ ∅ O O))<<<((@aL _ _ _ _ ('2'^^^((@bg _ _ _ _ _ _ _ _ _ cI O B.list Pk ((aR hu1 '1' aB (λ _ _=>O))^^^ad) ∅ ∅ O O)^^^((@aI _ _ _ _ _ ((aR hu1 '1' aB (λ _ _=>O))^^^('3'^^^('4'^^^((((aR hu1 '1' aB (λ _ _=>O))|||bD|||'3')|||bD|||'4')^^^ad)))))^^^ad))))⁻¹))))|?_];dsimp only[bF];have sz:(20000:Nat) < sizeLine:=∅
 obtain⟨pl1,pl2⟩:=plo;obtain⟨ml,mb⟩:=mdo;obtain@⟨us,h,⟨kvs,ht,pt⟩,hm,hp,pr,nd'⟩:=id x;obtain⟨g1,g2,g3,g4,g5,g6⟩:=bV le t g.nu md g.pu pa;show ar (λ R=>∀(pA:PK)(rs:PP V)(H':Hp),H' pA=↥rs->Paired (PlA H') rs g.pl->Same H H'->R [↑sh,↑m,↑pA,none,none] H') (λ Dd hR=>?_) ?_
 ·show%[_,O,m,_,O,.inl %[_,_,.inl h,O|g2.symm],t,kvs,g.pl.map (·.1),O,.inl ht,ThA.keys pt,gd.up.imp λ z=>⋯,by rw[G6];omega|λ so hso=>?_];show aK hso λ H1 k1 s1=>?_;show%[so,O,%[_|G3 k1]|(bY (K:=K) (.inl k1) (λ i ys Hx=>Same H1 Hx/\Paired (PlA Hx) ys (g.pl.take i)) (λ i ys Hx _ ⟨sx,_⟩ o e=>sx _ _ e) %[Same.refl _|.nil] ?_ ?_).1 k1]
  ·rintro j v ys Hx hj ⟨sx,py⟩;have hjn:j < ((g.pl.map (·.1)).map V.int).length:=(A6.mp hj).1;rw[J1,J1]at hj;obtain⟨n,hn,rfl⟩:=K5.mp hj;obtain⟨q',hq',rfl⟩:=K5.mp hn;obtain⟨a,ea,ha⟩:=gd.at pt hq';have yl:=E3 py;rw[J2]at yl;have s0x:=s1.trans sx;show%[⋯,leS.set rfl|bX ?_];show%[_,O,zS1|λ t1 ht1=>?_];show aK ht1 λ H2 k2 s2=>?_;have s02:=s0x.trans s2;show%[_,O,m,_,O,.inl %[_,_,.inl (s02 _ _ h),O|g2.symm],_,O,t,_,O,.inl %[kvs,.inl q'.1,.inl (s02 _ _ ht),O|ea.symm],t1,a,_,_,O,O,k2,s02 _ _ ha,(by change 1+2<=sizeLine;decide)|λ mm Hm c3 k3=>Nx.of hjn %[(sx.trans s2).trans (xX c3)|?_]];rw[J4,hq'];exact Paired.snoc (G4 py λ v z h=>h.keep λ _ _ e=>xX c3 _ _ (s2 _ _ e)) %[mm,rfl|k3]
  ·rintro ys Hx ⟨sx,py⟩;have yl:=E3 py;rw[G6,G6,J9]at py yl;show%[⋯|λ pA hpA=>hR pA ys _ au (G4 py λ v z h=>h.keep λ _ _ e=>G1 hpA _ _ e) ((s1.trans sx).trans (G1 hpA))]
 rintro pA rs H1 hpA prs s1;have rl:=E3 prs;show ar (λ R=>∀(H':Hp),Same H1 H'->R [↑sh,↑m,↑pA,⇑(thr g),none] H') (λ Dd hR=>?_) ?_
 ·show%[_,O,pA,O,%[_|G3 hpA]|(bY (K:=K) (.inl hpA) (λ i ys Hx=>Same H1 Hx/\ys=((g.pl.take i).map λ q=>q.2.1 * q.2.2).map V.int) (λ i ys Hx _ ⟨sx,_⟩ o e=>sx _ _ e) %[Same.refl _|O] ?_ ?_).1 hpA]
  ·rintro i v ys Hx hi ⟨sx,rfl⟩;have hin:i < rs.length:=(A6.mp hi).1;obtain⟨q',hq',a',rfl,ha'⟩:=G5 prs hi;obtain⟨q1,q2,q3,q4⟩:=pl2 q' (B5 hq');show%[by rw[G6,G6,J2];omega|?_];show%[a',_,O,G2 (sx _ _ ha'),O,_,_,O,_,_,O,_,_,O,O,fF (leS.set rfl) (fF (leS.set rfl) (leS.set rfl))|bX ?_];show%[_,O,_,O,_,_,O,O,%[b60 ⋯ ⋯|b60 ⋯ ⋯]|Nx.of hin %[sx|?_]];rw[J4,hq'];simp only[M5,J7,J3,O1]
  ·rintro ys Hx ⟨sx,rfl⟩;rw[rl,J9];show%[by rw[G6,G6];omega|λ p hp=>?_];exact%[p,_,O,G3 au|hR _ (sx.trans (G1 hp))]
 rintro H2 s2;have s02:=s1.trans s2;obtain⟨kr,hsh,hkl,tp⟩:=ls;have tl:=E3 tp;have tp2:Tups H2 kr ks:=Tups.keep (λ c xs e=>s02 _ _ e) tp;have hm2:=s02 _ _ hm;have hk2:=s02 _ _ hkl;show ar (λ R=>∀(H':Hp),Same H2 H'->R [↑sh,↑m,↑pA,⇑(thr g),⇑(mdc ks g)] H') (λ Dd hR=>?_) ?_
 ·show%[_,O,m,_,O,.inl %[_,_,.inl (s02 _ _ h),O|g4.symm],_,O,sh,_,1,_,O,O,G2 (s02 _ _ hsh),O,md,kl,_,_,O,hm2,hk2|kY (b:=false) (c:=false) (xs:=g.md.map V.int) (ys:=kr) (λ i zs H4=>Same H2 H4/\zs=(((g.md.zip ks).take i).map λ z=>z.1 * z.2.w * z.2.h).map V.int) (by rw[G6,ml];exact tl.symm) (λ i zs H4 ⟨s4,_⟩=>%[s4 _ _ hm2|s4 _ _ hk2]) %[Same.refl _|O] (λ i zs H4 hi ⟨_,e⟩=>by rw[e,G6,G6,J2];rw[G6]at hi;omega) ?_ ?_]
  ·rintro i x y tz zs H4 hx hy htz ⟨s4,rfl⟩;rw[J1]at hx;obtain⟨cc,hcc,rfl⟩:=K5.mp hx;obtain⟨k,hk,ak,rfl,hak⟩:=G5 tp2 hy;have gg:=gk k (B5 hk);have g1:=gg.w;have g2:=gg.h;have g3:=gg.w';have g4:=gg.h';have hcb:=mb cc (B5 hcc);show aK htz λ H5 k5 s5=>?_;have ak5:H5 ak= ~~~[.int k.w,.int k.h,.int k.wo,.int k.wa,.bl k.tu]:=s5 _ _ (s4 _ _ hak);have mw:=yL hcb.1 hcb.2 (show 0<=k.w by omega) ⋯;have c6:cc<=10 ^ 70:=O7 hcb.2 ∅;have w7:k.w<=10 ^ 70:=O7 (Int.le_of_lt g3) ∅;have h7:k.h<=10 ^ 70:=O7 (Int.le_of_lt g4) ∅;show%[tz,_,O,G2 k5,O,_,_,O,_,_,O,O,fF (leS.set rfl) (leS.set rfl)|bX ?_];show%[_,O,_,O,ak,_,0,_,O,O,G2 ak5,O,_,_,O,O,%[b70 hcb.1 c6|b70 ⋯ w7],_,O,ak,_,1,_,O,O,G2 ak5,O,_,_,O,O,%[b70 mw.1 mw.2|b70 ⋯ h7]|Nx.of (by rw[G6,ml];exact(A6.mp hk).1) %[s4.trans s5|?_]];have hzz:(g.md.zip ks)[i]?=some (cc,k):=by rw[OT];exact%[hcc|hk]
   rw[J4,hzz];simp only[M5,J7,J3,O1]
  ·rintro zs H4 ⟨s4,rfl⟩;show%[by rw[G6,G6,J2,PF];omega|λ p hp=>?_];rw[G6,M7 (by rw[PF];omega)];exact%[p,_,O,G3 au|hR _ (s4.trans (G1 hp))]
 rintro H3 s3;have s03:=s02.trans s3;show%[_,O,_,O,m,_,O,.inl %[_,_,.inl (s03 _ _ h),O|g4.symm],_,_,O,.inl (G3 (s03 _ _ hm))|λ la hla=>?_];show aK hla λ H4 k4 s4=>?_;show%[_,O,m,_,O,.inl %[_,_,.inl (s4 _ _ (s03 _ _ h)),O|g5.symm],_,O,_,O,_,O,m,_,O,.inl %[_,_,.inl (s4 _ _ (s03 _ _ h)),O|g5.symm],_,O,_,_,O,O,_,O,_,_,O,O,zS4|λ ct hct=>?_];show aK hct λ H5 k5 s5=>?_;show%[zS3|λ l hl=>?_];show aK hl λ H6 k6 s6=>?_;have s26:=s2.trans (s3.trans (s4.trans (s5.trans s6)));exact q l pA la ct rs H6 k6 (s26 _ _ hpA) (G4 prs λ v z h=>h.keep λ _ _ e=>s26 _ _ e) (s6 _ _ (s5 _ _ k4)) (s6 _ _ k5) (s1.trans s26)
def rn(K:C5)(H:Hp)(g:Stn)(v:V):Prop:=(∃T,Ty K H v T)/\(aX v 0=false\/∃i:Int,v=.int i/\0<=i/\∀q∈g.pl,q.1≠i)
inductive spPlNo(K:C5)(CS C NN:PK)(vs:PP V)(H:Hp)(Q:VK)(E:XK):Prop
|mk(s sh pa:PK)(b le:Int)(ks:PP Kd)(g:Stn)(gs:PP Stn)(v:V)(_:vs=[.ref s,v])(_:StoreAt CS C H s sh b ks le g gs pa)(_:rn K H g v)(_:E (.ref NN) none H)
inductive spPutNo(K:C5)(NP:PK)(vs:PP V)(H:Hp)(Q:VK)(E:XK):Prop
|mk(s:PK)(wv hv:V)(_:vs=[.ref s,wv,hv])(_:pO K H wv hv)(_:E (.ref NP) none H)
inductive spCutNo(K:C5)(CS C NN:PK)(vs:PP V)(H:Hp)(Q:VK)(E:XK):Prop
|mk(s sh pa:PK)(b le:Int)(ks:PP Kd)(g:Stn)(gs:PP Stn)(v u:V)(_:vs=[.ref s,v,u])(_:StoreAt CS C H s sh b ks le g gs pa)(_:rn K H g v)(_:E (.ref NN) none H)
inductive spCutBad(CS C NT:PK)(vs:PP V)(H:Hp)(Q:VK)(E:XK):Prop
|mk(pp s sh pa:PK)(b le:Int)(ks:PP Kd)(g:Stn)(gs:PP Stn)(i:Nat)(q0:Int×Int×Int)(u:V)(d:PyData)(_:vs=[.ref s,.int q0.1,u])(_:StoreAt CS C H s sh b ks le g gs pa)(_:0<=q0.1)(_:g.pl[i]?=some q0)(_:∀j q',j < i->g.pl[j]?=some q'->q'.1≠q0.1)(_:1<=q0.2.1)(_:1<=q0.2.2)(_:Dt pp H u d)(_:wt d<=30000)(_:isT b ks q0.2.1 q0.2.2 d=false)(_:∀H',Same H H'->E (.ref NT) none H')
theorem scplno:FnScope ["self","number","plate"] Qi (defScope bZ):=nofun
theorem yg{f C CS NN:PK}{fd:F8}(F:Fun K "plate_of" "Store.plate_of" bZ f fd)(TS:StoreTxt K CS)(DW:Dn P w K mg base "is_whole" PX 1 (cJ K))(mN:mg "NoNumber" = ↑NN)(eN:ExcC K NN):FnOk P w K mg base (CXx P w) 2 f fd Qi (spPlNo K CS C NN):=by
 show F.okX scplno (λ vs H Q E h=>?_) (λ cdv A outer s0 H vs Q E hr h=>?_)
 ·obtain⟨s,sh,pa,b,le,ks,g,gs,v,rfl,_⟩:=h
  rfl
 obtain⟨s,sh,pa,b,le,ks,g,gs,v,rfl,x,no,e⟩:=h;have nd:=scplno.nd;show%[_,(((@aV _ _ _ (DW∩('1'^^^(af^^^ad))) (by intro _;rfl))<|>(@ag _ _ _ (@cP _ _ _ _ _ _ _ _ PassesOwn.leaving O (fJ ((bO '0' O)&&&ix_tup&&&af)) (ai (i:=2) nd O (Or.inl O)) (@ag _ _ _ ((('2'&&&ix_tup&&&af)<*>bC<*>'1')<|>('2'⁻¹)<|>aG)) (by intro _;rfl)))<|>aG)>>>(iQ (R:=λ c H=>E c none H) O O mN eN (aB^^^ad) fT))|?_];obtain⟨dx,sg,ps,hs,sp,st,hp,pr⟩:=x.look;obtain⟨⟨Tv,ty⟩,no⟩:=no;show ar (λ R=>∀v2,R [↑s,some v,v2] H) (λ Dd hR=>?_) ?_
 ·show%[_,O,v,_,0,O,ty,_,O|?_];rcases no with hw | ⟨i,rfl,i0,no⟩
  ·rw[hw];exact aT (hR _)
  rw[show aX (.int i) 0=true from PY i0];show aU ?_;cases st with
  | @mk a b' c rs _ ha hb pr' hc=>
   show%[_,O,s,CS,dx,_,_,O,hs,TS.cl,TS.n3,bM _ _ _ _,a,_,0,_,O,O,G2 ha,O,b',O,%[_|G2 hb]|ib (xs:=rs) (λ j σ' H'=>∃v2,σ'=[↑s,⇑i,v2]/\H=H') %[_,O|O] (λ j σ H' _ h=>by obtain⟨_,_,e⟩:=h;rw[<- e];exact G2 hb) ?_ ?_]
   ·rintro j v σ _ hj ⟨v2,rfl,rfl⟩;obtain⟨q',hq',a',rfl,ha'⟩:=G5 pr' hj;show%[_,O,a',_,0,_,O,O,G2 ha',O,_,O,O,_,O|?_];have:=no q' (B5 hq');rw[show decide (V.int q'.1=V.int i)=false from Pf (λ z=>this (V.int.inj z))];exact aT %[_,rfl|rfl]
   ·rintro σ _ ⟨v2,rfl,rfl⟩;exact hR _
 rintro v2;exact%[zS1|e]
theorem scputno:FnScope Qg Qh (defScope dj):=nofun
theorem vA{f NP:PK}{fd:F8}(F:Fun K "put" "Store.put" dj f fd)(DCP:DnX P w K mg base "check_plate" QL 2 (spCPX K NP)):FnOk P w K mg base (CXx P w) 3 f fd Qh (spPutNo K NP):=by
 show F.okX scputno (λ vs H Q E h=>?_) (λ cdv A outer s0 H vs Q E hr h=>?_)
 ·obtain⟨s,wv,hv,rfl,_⟩:=h
  rfl
 obtain⟨s,wv,hv,rfl,bp,e⟩:=h;have nd:=scputno.nd;show%[_,((@be _ _ _ _ (fu (iU DCP (hr.mono ∅) O ('1'^^^('2'^^^ad)))) O)<<<(aP<<<(aP>>>aP)))|?_];show bn (λ σ' H'=>False) (λ R hR=>?_) (λ _ _ z=>z.elim);exact%[_,O,_,O,wv,hv,O,bp.1,bp.2.1,λ _=>e|λ g=>by rw[bp.2.2]at g;cases g]
theorem sccutno:FnScope Ql Qm (defScope bG):=nofun
theorem vB{f C CS NN:PK}{fd:F8}(F:Fun K "cut" "Store.cut" bG f fd)(TS:StoreTxt K CS)(MX:MnX P w K mg base CS "plate_of" Qi 2 (spPlNo K CS C NN)):FnOk P w K mg base (CXx P w) 9 f fd Qm (spCutNo K CS C NN):=by
 show F.okX sccutno (λ vs H Q E h=>?_) (λ cdv A outer s0 H vs Q E hr h=>?_)
 ·obtain⟨s,sh,pa,b,le,ks,g,gs,v,u,rfl,_⟩:=h
  rfl
 obtain⟨s,sh,pa,b,le,ks,g,gs,v,u,rfl,x,no,e⟩:=h;have nd:=sccutno.nd;show%[_,((@aE _ _ 3 _ _ _ _ nd O (Or.inr O) (fu (nM '0' TS.cl MX (hr.mono ∅) ('1'^^^ad))) O (Or.inl O))<<<(aP<<<(aP<<<(aP<<<(aP<<<(aP<<<(aP<<<(aP<<<(aP>>>aP)))))))))|?_];obtain⟨dx,sg,ps,hs,sp,st,hp,pr⟩:=x.look;show bn (λ σ' H'=>False) (λ R hR=>?_) (λ _ _ z=>z.elim);exact%[_,O,s,dx,_,O,hs,cM _ _ _ _ ∅ ∅ ∅ ∅,_,O,s,sh,pa,b,le,ks,g,gs,v,O,x,no|e]
theorem sccutbad:FnScope Ql Qm (defScope bG):=nofun
theorem rq{f C CS NP NT:PK}{fd:F8}(F:Fun K "cut" "Store.cut" bG f fd)(TS:StoreTxt K CS)(MP:Mn P w K mg base CS "plate_of" Qi 2 (spPlOf CS C))(DR:DnX P w K mg base "rests_of" Qa 8 (spRef K C NP NT)):FnOk P w K mg base (CXx P w) 9 f fd Qm (spCutBad CS C NT):=by
 show F.okX sccutbad (λ vs H Q E h=>?_) (λ cdv A outer s0 H vs Q E hr h=>?_)
 ·obtain⟨pp,s,sh,pa,b,le,ks,g,gs,i,q0,u,d,rfl,_⟩:=h
  rfl
 obtain⟨pp,s,sh,pa,b,le,ks,g,gs,i,q0,u,d,rfl,x,n0,hi,first,w1,h1,hd,wd,no,e⟩:=h;have nd:=sccutbad.nd;show%[_,((@aE _ _ 3 _ _ _ _ nd O (Or.inr O) (iS '0' TS.cl MP (hr.mono ∅) ('1'^^^ad)) O (Or.inl O))<<<((4∣(fu (iU DR (hr.mono ∅) O ((bO '0' O)^^^(('3'&&&ix_tup&&&af)^^^(('3'&&&ix_tup&&&af)^^^('2'^^^ad)))))))<<<(aP<<<(aP<<<(aP<<<(aP<<<(aP<<<(aP<<<(aP>>>aP)))))))))|?_];dsimp only[bF];obtain⟨dx,sg,ps,hs,sp,st,hp,pr⟩:=x.look;show ar (λ R=>∀go,H go= ~~~[.int q0.1,.int q0.2.1,.int q0.2.2]->R [↑s,⇑q0.1,some u,↑go,none,none,none,none,none,none,none,none,none,none] H) (λ Dd hR=>?_) ?_
 ·exact⟨_,O,s,dx,_,O,hs,cM _ _ _ _ ∅ ∅ ∅ ∅,_,O,s,sh,pa,b,le,ks,g,gs,i,q0,O,x,n0,hi,first,λ a ha=>hR a ha⟩
 rintro go hgo;show bn (λ σ' H'=>False) (λ R hR=>?_) (λ _ _ z=>z.elim);exact%[_,O,s,CS,dx,_,_,O,hs,TS.cl,TS.n1,fe _ _ _ _,_,O,go,_,1,_,O,O,G2 hgo,O,_,O,go,_,2,_,O,O,G2 hgo,O,_,O|.tr sp w1 h1 hd wd no e]
inductive spAsked(CS C:PK)(vs:PP V)(H:Hp)(Q:VK)(E_:XK):Prop
|mk(s sh pa:PK)(b le:Int)(ks:PP Kd)(g:Stn)(gs:PP Stn)(_:vs=[.ref s])(_:StoreAt CS C H s sh b ks le g gs pa)(_:ks.length<=8)(_:∀k∈ks,Good k)(_:xQ g)(_:xR ks g)(_:∀(l pl ml ct:PK)(rs:PP V)(H':Hp),H pl=none->H ml=none->pl≠ml->H' l=↥[.ref pl,.ref ml,.ref ct]->H' pl=↥rs->Paired (PlA H') rs g.pl->H' ml=↥(g.md.map V.int)->H' ct= ~~~[.int g.pu,.int (thr g),.int (mdc ks g),.int (g.pu - thr g - mdc ks g)]->Same H H'->Q (.ref l) H')
inductive spDidPut(K:C5)(CS C:PK)(vs:PP V)(H:Hp)(Q:VK)(E_:XK):Prop
 | ok (s sh pa:PK) (b le wd hg:Int) (ks:PP Kd) (g:Stn) (gs:PP Stn) (e_1:vs=[.ref s,.int wd,.int hg]) (e_2:StoreAt CS C H s sh b ks le g gs pa) (e_3:gs.length<=1000) (e_4:g.pl.length<=10000) (e_5:1<=wd) (e_6:wd<=10 ^ 60) (e_7:1<=hg) (e_8:hg<=10 ^ 60) (e_9:∀H',StoreAt CS C H' s sh b ks le ⟨g.pl ++ [(g.nu,wd,hg)],g.nu+1,g.md,g.pu+wd * hg⟩ (gs ++ [g]) pa->FrS s pa H H'->Q (.int g.nu) H'):spDidPut K CS C vs H Q E_
 | no (s sh pa:PK) (b le:Int) (ks:PP Kd) (g:Stn) (gs:PP Stn) (wv hv:V) (e_1:vs=[.ref s,wv,hv]) (e_2:StoreAt CS C H s sh b ks le g gs pa) (e_3:pO K H wv hv) (e_4:∀H',Same H H'->Q (.str "plate") H'):spDidPut K CS C vs H Q E_
inductive spDidCut(K:C5)(CS C:PK)(vs:PP V)(H:Hp)(Q:VK)(E_:XK):Prop
 | ok (s dx:PK) (fs:PP (Str×V)) (n u:V) (e_1:vs=[.ref s,n,u]) (e_2:H s=some (.ins CS dx fs)) (e_0:fs.lookup ("cut" : Str)=none) (e_3:spCutS CS C vs H Q E0):spDidCut K CS C vs H Q E_
 | nu (s sh pa:PK) (b le:Int) (ks:PP Kd) (g:Stn) (gs:PP Stn) (v u:V) (e_1:vs=[.ref s,v,u]) (e_2:StoreAt CS C H s sh b ks le g gs pa) (e_3:rn K H g v) (e_4:∀H',Same H H'->Q (.str "number") H'):spDidCut K CS C vs H Q E_
 | tr (pp s sh pa:PK) (b le:Int) (ks:PP Kd) (g:Stn) (gs:PP Stn) (i:Nat) (q0:Int×Int×Int) (u:V) (d:PyData) (e_1:vs=[.ref s,.int q0.1,u]) (e_2:StoreAt CS C H s sh b ks le g gs pa) (e_3:0<=q0.1) (e_4:g.pl[i]?=some q0) (e_5:∀j q',j < i->g.pl[j]?=some q'->q'.1≠q0.1) (e_6:1<=q0.2.1) (e_7:1<=q0.2.2) (e_8:Dt pp H u d) (e_9:wt d<=30000) (e_10:isT b ks q0.2.1 q0.2.2 d=false) (e_11:∀H',Same H H'->Q (.str "tree") H'):spDidCut K CS C vs H Q E_
theorem scasked:FnScope Qz Qz (defScope lz):=nofun
theorem vC{f C CS:PK}{fd:F8}(F:Fun K "_law_asked" "_law_asked" lz f fd)(B:Blt mg)(TS:StoreTxt K CS)(MP:Mn P w K mg base CS "plates" QE 1 (spPlates CS C))(MM:Mn P w K mg base CS "made" QE 1 (spMade CS C))(MC:Mn P w K mg base CS "cells" QE 2 (spCells CS C)):FnOk P w K mg base CX0 3 f fd Qz (spAsked CS C):=by
 exists scasked;obtain⟨s,sh,pa,b,le,ks,g,gs,rfl,x,k8,gk,plo,mdo,q⟩:=h;show%[_,((@aL _ _ _ _ ((ef '0' TS.cl MP (hr.mono ∅))^^^((ef '0' TS.cl MM (hr.mono ∅))^^^((ef '0' TS.cl MC (hr.mono ∅))^^^ad))))⁻¹)|?_];obtain⟨dx,sg,ps,hs,sp,st,hp,pr⟩:=x.look;show%[_,O,s,dx,_,O,hs,cM _ _ _ _ ∅ ∅ ∅ ∅,s,sh,pa,b,le,ks,g,gs,O,x|λ pl rs H1 fpl hpl prs s1=>?_];show%[_,O,s,dx,_,O,s1 _ _ hs,cM _ _ _ _ ∅ ∅ ∅ ∅,s,sh,pa,b,le,ks,g,gs,O,x.same s1|λ ml H2 fml hml s2=>?_];show%[_,O,s,dx,_,O,s2 _ _ (s1 _ _ hs),cM _ _ _ _ ∅ ∅ ∅ ∅,s,sh,pa,b,le,ks,g,gs,O,x.same (s1.trans s2),k8,gk,plo,mdo|λ ct H3 hct s3=>?_];show%[zS3|λ l hl=>?_];show aK hl λ H4 k4 s4=>?_;have s14:=s2.trans (s3.trans s4);exact q l pl ml ct rs H4 fpl (s1.free fml) (λ z=>by rw[z,fml]at hpl;cases hpl) k4 (s14 _ _ hpl) (G4 prs λ v z h=>h.keep λ _ _ e=>s14 _ _ e) ((s3.trans s4) _ _ hml) (s4 _ _ hct) (s1.trans s14)
theorem scdidput:FnScope ["_law_store","_law_wide","_law_high","_law_told"] Q0 (defScope ix):=nofun
theorem rA{f C CS NP:PK}{fd:F8}(F:Fun K "_law_did_put" "_law_did_put" ix f fd)(TS:StoreTxt K CS)(MX:MnX P w K mg base CS "put" Qh 3 (λ vs H Q E=>spPut CS C vs H Q E\/spPutNo K NP vs H Q E))(mP:mg "NoPlate" = ↑NP)(xm:PySem.W.exmOne K (.ref NP) (.ref NP)=some true):FnOk P w K mg base CX0 4 f fd Q0 (spDidPut K CS C):=by
 apply F.ok scdidput (λ vs H Q E h=>?_) (λ cdv A outer s H vs Q E hr h=>?_)
 ·rcases h with⟨s,sh,pa,b,le,wd,hg,ks,g,gs,rfl,_⟩ | ⟨s,sh,pa,b,le,ks,g,gs,wv,hv,rfl,_⟩ <;> rfl
 obtain⟨v1,v2,v3,rfl⟩:∃v1 v2 v3,vs=[v1,v2,v3]:=by rcases h with⟨s,sh,pa,b,le,wd,hg,ks,g,gs,rfl,_⟩ | ⟨s,sh,pa,b,le,ks,g,gs,wv,hv,rfl,_⟩ <;> exact%[_,_,_|O]
 have nd:=scdidput.nd;show%[_,((3∣ci)<<<((pd (j:=3) O O (nM '0' TS.cl MX hr ('1'^^^('2'^^^ad))) nd O O (kZ O mP (λ ea=>(@ag _ _ _ (3∣aB))) yJ))<<<('3'⁻¹)))|?_];dsimp only[bF];rcases h with⟨s,sh,pa,b,le,wd,hg,ks,g,gs,e,x,g1,p1,w1,w60,h1,h60,q⟩ | ⟨s,sh,pa,b,le,ks,g,gs,wv,hv,e,x,bp,q⟩
 ·cases e;obtain⟨dx,sg,ps,hs,sp,st,hp,pr⟩:=x.look;show bn (λ σ' H'=>σ'=[↑s,⇑wd,⇑hg,some .non]/\H=H') (λ R hR=>hR _ _ %[rfl|rfl]) ?_;rintro _ _ ⟨rfl,rfl⟩;show ar (λ R=>∀(H':Hp),StoreAt CS C H' s sh b ks le %[g.pl ++ [(g.nu,wd,hg)],g.nu+1,g.md|g.pu+wd * hg] (gs ++ [g]) pa->FrS s pa H H'->R [↑s,⇑wd,⇑hg,⇑g.nu] H') (λ Dd hR=>?_) ?_
  ·exact%[_,O,s,dx,_,O,hs,cM _ _ _ _ ∅ ∅ ∅ ∅,_,O,_,O|.inl %[s,sh,pa,b,le,wd,hg,ks,g,gs,O,x,g1,p1,w1,w60,h1,h60|λ H1 x1 f1=>hR _ x1 f1]]
  rintro H1 x1 f1;exact%[_,O|q _ x1 f1]
 ·cases e;obtain⟨dx,sg,ps,hs,sp,st,hp,pr⟩:=x.look;show bn (λ σ' H'=>σ'=[↑s,some v2,some v3,some .non]/\H=H') (λ R hR=>hR _ _ %[rfl|rfl]) ?_;rintro _ _ ⟨rfl,rfl⟩;show ar (λ R=>R [↑s,some v2,some v3,some (.str "plate")] H) (λ Dd hR=>?_) ?_
  ·exact%[_,O,s,dx,_,O,hs,cM _ _ _ _ ∅ ∅ ∅ ∅,_,O,_,O|.inr %[s,v2,v3,O,bp|λ ea hea=>.inl %[xm|hR]]]
  skip
  exact%[_,O|q _ (Same.refl _)]
theorem spCutS.to{CS C:PK}{vs:PP V}{H:Hp}{Q Q':VK}{E E':XK}(c:spCutS CS C vs H Q E)(k:∀v H',Q v H'->Q' v H'):spCutS CS C vs H Q' E':=by obtain⟨pp,s,sh,pa,b,le,ks,g,gs,v,d,t,i,q0,e,x,g1,p1,n0,hi,first,th,k8,ml,q⟩:=c;exact⟨pp,s,sh,pa,b,le,ks,g,gs,v,d,t,i,q0,e,x,g1,p1,n0,hi,first,th,k8,ml,λ rs l H' a1 a2 a3 a4 a5 a6=>k _ _ (q rs l H' a1 a2 a3 a4 a5 a6)⟩
theorem scdidcut:FnScope ["_law_store","_law_number","_law_tree_here","_law_told"] Q1 (defScope iw):=nofun
theorem rB{f C CS NN NT:PK}{fd:F8}(F:Fun K "_law_did_cut" "_law_did_cut" iw f fd)(TS:StoreTxt K CS)(MX:MnX P w K mg base CS "cut" Qm 10 (λ vs H Q E=>spCutS CS C vs H Q E\/spCutNo K CS C NN vs H Q E\/spCutBad CS C NT vs H Q E))(mN:mg "NoNumber" = ↑NN)(mT:mg "NoTree" = ↑NT)(xm:PySem.W.exmOne K (.ref NN) (.ref NN)=some true)(xt:PySem.W.exmOne K (.ref NT) (.ref NN)=some false)(xn:PySem.W.exmOne K (.ref NT) (.ref NT)=some true):FnOk P w K mg base CX0 11 f fd Q1 (spDidCut K CS C):=by
 apply F.ok scdidcut (λ vs H Q E h=>?_) (λ cdv A outer s H vs Q E hr h=>?_)
 ·rcases h with⟨s,dx,fs,n,u,rfl,_⟩ | ⟨s,sh,pa,b,le,ks,g,gs,v,u,rfl,_⟩ | ⟨pp,s,sh,pa,b,le,ks,g,gs,i,q0,u,d,rfl,_⟩ <;> rfl
 obtain⟨v1,v2,v3,rfl⟩:∃v1 v2 v3,vs=[v1,v2,v3]:=by rcases h with⟨s,dx,fs,n,u,rfl,_⟩ | ⟨s,sh,pa,b,le,ks,g,gs,v,u,rfl,_⟩ | ⟨pp,s,sh,pa,b,le,ks,g,gs,i,q0,u,d,rfl,_⟩ <;> exact%[_,_,_|O]
 have nd:=scdidcut.nd;show%[_,((3∣ci)<<<((pd (j:=3) O O (nM '0' TS.cl MX hr ('1'^^^('2'^^^ad))) nd O O (kZ O mN (λ ea=>(@ag _ _ _ (3∣aB))) (kZ O mT (λ ea=>(@ag _ _ _ (3∣aB))) yJ)))<<<('3'⁻¹)))|?_];dsimp only[bF];rcases h with⟨s,dx,fs,n,u,e,hs,no,c⟩ | ⟨s,sh,pa,b,le,ks,g,gs,v,u,e,x,no,q⟩ | ⟨pp,s,sh,pa,b,le,ks,g,gs,i,q0,u,d,e,x,n0,hi,first,w1,h1,hd,wd,nt,q⟩
 ·cases e;show bn (λ σ' H'=>σ'=[↑s,some v2,some v3,some .non]/\H=H') (λ R hR=>hR _ _ %[rfl|rfl]) ?_;rintro _ _ ⟨rfl,rfl⟩;show ar (λ R=>∀v4 (H':Hp),Q v4 H'->R [↑s,some v2,some v3,some v4] H') (λ Dd hR=>?_) ?_
  ·exact%[_,O,s,dx,_,O,hs,no,_,O,_,O|.inl (spCutS.to c λ v H' hq=>hR v _ hq)]
  rintro v4 H1 hq;exact%[_,O|hq]
 ·cases e;obtain⟨dx,sg,ps,hs,sp,st,hp,pr⟩:=x.look;show bn (λ σ' H'=>σ'=[↑s,some v2,some v3,some .non]/\H=H') (λ R hR=>hR _ _ %[rfl|rfl]) ?_;rintro _ _ ⟨rfl,rfl⟩;show ar (λ R=>∀(H':Hp),Same H H'->R [↑s,some v2,some v3,some (.str "number")] H') (λ Dd hR=>?_) ?_
  ·exact%[_,O,s,dx,_,O,hs,cM _ _ _ _ ∅ ∅ ∅ ∅,_,O,_,O|.inr (.inl %[s,sh,pa,b,le,ks,g,gs,v2,v3,O,x,no|λ ea hea=>.inl %[xm|hR _ (Same.refl _)]])]
  rintro H1 s1;exact%[_,O|q _ s1]
 ·cases e;obtain⟨dx,sg,ps,hs,sp,st,hp,pr⟩:=x.look;show bn (λ σ' H'=>σ'=[↑s,⇑q0.1,some v3,some .non]/\H=H') (λ R hR=>hR _ _ %[rfl|rfl]) ?_;rintro _ _ ⟨rfl,rfl⟩;show ar (λ R=>∀(H':Hp),Same H H'->R [↑s,⇑q0.1,some v3,some (.str "tree")] H') (λ Dd hR=>?_) ?_
  ·exact%[_,O,s,dx,_,O,hs,cM _ _ _ _ ∅ ∅ ∅ ∅,_,O,_,O|.inr (.inr ⟨pp,s,sh,pa,b,le,ks,g,gs,i,q0,v3,d,O,x,n0,hi,first,w1,h1,hd,wd,nt,λ H1 s1 ea hea=>.inr %[xt|.inl %[xn|hR _ s1]]⟩)]
  rintro H1 s1;exact%[_,O|q _ s1]
theorem zN(dn:Bool)(p:Int)(l r:Tr):dT l < dT (.cut dn p l r)/\dT r < dT (.cut dn p l r)/\szT (.cut dn p l r)=szT l+szT r+1/\lvN (.cut dn p l r)=lvN l+lvN r:=by
 show%[?_,?_,O|O]
 ·change dT l < max (dT l) (dT r)+1;omega
 ·change dT r < max (dT l) (dT r)+1;omega
def whD:PyData->Int->Bool
 | .int n,l=>decide (l<=n)
 | _,_=>false
theorem Lsds.refl:∀ds:PP PyData,Lsds ds ds
 | []=>.nil
 | d :: ds=>.cons (.same d) (Lsds.refl ds)
theorem gz{d d':PyData}(h:Lsd d d'):(aZ d=none/\d'=d)\/∃ds ds',aZ d=some ds/\aZ d'=some ds'/\Lsds ds ds':=by
 cases h with
 | same d=>
  cases e:aZ d with
  | none=>exact .inl %[O|O]
  | some ds=>exact .inr %[ds,ds,O,O|Lsds.refl ds]
 | row r=>exact .inr %[_,_,O,O|r]
theorem yh{d d':PyData}(h:Lsd d d')(l:Int):whD d' l=whD d l:=by
 cases h with
 | same=>rfl
 | row _=>rfl
theorem Dt.tupD{p:PK}{H:Hp}{v:V}{ds:PP PyData}(h:Dt p H v (.tuple ds)):∃a xs,v=.ref a/\H a= ~~~xs/\Dts p H xs ds:=by
 cases h with
 | tup h r=>exact%[_,_,O,h|r]
theorem Dts.pick{p:PK}{H:Hp}{xs:PP V}{ds:PP PyData}(D:Dts p H xs ds){r:Int}(r0:0<=r)(r1:r < (xs.length:Int)):∃x d,atI xs r=some x/\Dt p H x d/\d∈ds:=by
 obtain⟨n,rfl⟩:=N3 r0;have hn:n < xs.length:=⋯
 obtain⟨d,hd,dt⟩:=D.get (F1 hn);exact%[_,d,gf (F1 hn),dt|B5 hd]
theorem Dts.take{p:PK}{H:Hp}:∀(n:Nat){vs:PP V}{ds:PP PyData},Dts p H vs ds->Dts p H (vs.take n) (ds.take n)
 | 0,_,_,_=>by rw[List.take_zero,List.take_zero];exact .nil
 | n+1,_,_,.nil=>.nil
 | n+1,_,_,.cons a r=>.cons a (r.take n)
theorem rC{H H':Hp}{m a b:PK}{o:HO}(h:(H'=H/\(m=a\/m=b))\/(H m=none/\H'=upd H m o)):Same H H':=by
 rcases h with⟨rfl,_⟩ | ⟨hm,rfl⟩
 ·exact Same.refl _
 ·exact G1 hm
theorem lB:∀a b:PP PyData,wts (a ++ b)=wts a+wts b
 | [],b=>by change wts b=0+wts b;omega
 | x :: a,b=>by change wt x+wts (a ++ b)=wt x+wts a+wts b;rw[lB a b];omega
theorem zO(i:Nat)(es:PP PyData):wts (es.take i)+wts (es.drop i)=wts es:=by rw[<- lB,List.take_append_drop]
theorem vD{n:Nat}:∀{ds:PP PyData},(∀d∈ds,d.depth<=n)->PyData.depthAll ds<=n
 | [],_=>E8 _
 | d :: ds,h=>by have h1:=h d B7;have h2:=vD λ x hx=>h x (B4 _ hx);change max d.depth (PyData.depthAll ds)<=n;omega
theorem ou{d:PyData}:∀{ds:PP PyData},d∈ds->d.depth<=PyData.depthAll ds
 | x :: ds,h=>by
  change _<=max x.depth (PyData.depthAll ds);rcases G7.mp h with e | h
  ·rw[e];omega
  ·have:=ou h;omega
theorem rD(x:V)(ys:PP V):lR (x :: ys) none (some (-1))=(x :: ys).take ys.length:=by
 have e:HT.sIx (ys.length+1) (ys.length+1) (some (-1))=ys.length:=by unfold HT.sIx;dsimp only;rw[Pa ∅];omega
 change((x :: ys).drop 0).take (HT.sIx (ys.length+1) (ys.length+1) (some (-1)) - 0)=_;rw[e,List.drop_zero,Nat.sub_zero]
inductive Bt:PyData->Prop
 | norow {d:PyData}:aZ d=none->Bt d
 | head {d:PyData} {ds:PP PyData}:aZ d=some ds->(∀y r,ds=.str y :: r->(y = "down" -> r.length≠3)/\(y = "across" -> r.length≠3)/\(y = "piece" -> r.length≠4)/\(y = "rest" -> r.length≠0))->Bt d
 | size {d x z l r:PyData}:aZ d=some [x,z,l,r]->whD z 1=false->Bt d
 | left {d x z l r:PyData}:aZ d=some [x,z,l,r]->Bt l->Bt d
 | right {d x z l r:PyData}:aZ d=some [x,z,l,r]->Bt r->Bt d
theorem yN{d:PyData}{y:Str}{n:Nat}(h:bw d y n=true):∃r,aZ d=some (.str y :: r)/\r.length+1=n:=by
 unfold bw at h
 split at h
 ·rename_i z r e
  rw[M6]at h;exact%[r,by rw[e,of_decide_eq_true h.2]|C0 h.1]
 ·cases h
theorem lC{ks:PP Kd}{w h:Int}{d:PyData}(hl:isL ks w h d=true):(∃r,aZ d=some (.str "piece" :: r)/\r.length+1=5)\/∃r,aZ d=some (.str "rest" :: r)/\r.length+1=1:=by
 unfold isL at hl
 split at hl
 ·rename_i hb;exact .inl (yN hb)
 ·exact .inr (yN hl)
theorem jq{ks:PP Kd}{w h:Int}{d x z l r:PyData}(e:aZ d=some [x,z,l,r]):isL ks w h d=false:=by
 cases hl:isL ks w h d with
 | false=>rfl
 | true=>
  rcases lC hl with⟨r,e',h⟩ | ⟨r,e',h⟩
  ·rw[e]at e';cases e';simp at h
  ·rw[e]at e';cases e';simp at h
theorem Bt.no{d:PyData}(hb:Bt d):∀(b:Int)(ks:PP Kd)(w h:Int),isT b ks w h d=false:=by
 induction hb with
 | @norow d e=>
  intro b ks w h;cases hc:isC b w h d with
  | true=>obtain⟨dn,p,l,r,e',_⟩:=eC (ks:=ks) hc;rw[e]at e';cases e'
  | false=>
   rw[cL hc];cases hl:isL ks w h d with
   | false=>rfl
   | true=>rcases lC hl with⟨r,e',_⟩ | ⟨r,e',_⟩ <;> rw[e]at e' <;> cases e'
 | @head d ds e hh=>
  intro b ks w h;cases hc:isC b w h d with
  | true=>
   obtain⟨dn,p,l,r,e',_⟩:=eC (ks:=ks) hc;rw[e]at e';cases e';have:=hh _ _ rfl;cases dn with
   | true=>exact absurd rfl (this.1 rfl)
   | false=>exact absurd rfl (this.2.1 rfl)
  | false=>
   rw[cL hc];cases hl:isL ks w h d with
   | false=>rfl
   | true=>
    rcases lC hl with⟨r,e',h⟩ | ⟨r,e',h⟩
    ·rw[e]at e';cases e';exact absurd ⋯ ((hh _ _ rfl).2.2.1 rfl)
    ·rw[e]at e';cases e';exact absurd ⋯ ((hh _ _ rfl).2.2.2 rfl)
 | @size d x z l r e hz=>
  intro b ks w h;cases hc:isC b w h d with
  | true=>
   obtain⟨dn,p,l,r,e',p1,_⟩:=eC (ks:=ks) hc;rw[e]at e';cases e';rw[show whD (.int p) 1=true from PY p1]at hz;cases hz
  | false=>rw[cL hc];exact jq e
 | @left d x z l r e _ ih=>
  intro b ks w h;cases hc:isC b w h d with
  | true=>
   obtain⟨dn,p,l',r',e',p1,_,_,e2⟩:=eC (ks:=ks) hc;rw[e]at e';cases e';rw[e2,ih,ih]
   split <;> rfl
  | false=>rw[cL hc];exact jq e
 | @right d x z l r e _ ih=>
  intro b ks w h;cases hc:isC b w h d with
  | true=>
   obtain⟨dn,p,l',r',e',p1,_,_,e2⟩:=eC (ks:=ks) hc;rw[e]at e';cases e';rw[e2,ih,ih,K4,K4]
   split <;> rfl
  | false=>rw[cL hc];exact jq e
theorem vE{x z l r:PyData}{ds:PP PyData}(h:Lsds [x,z,l,r] ds):∃x' z' l' r',ds=[x',z',l',r']/\Lsd x x'/\Lsd z z'/\Lsd l l'/\Lsd r r':=by
 cases h with
 | cons h0 h=>cases h with
  | cons h1 h=>cases h with
   | cons h2 h=>cases h with
    | cons h3 h=>cases h;exact%[_,_,_,_,O,h0,h1,h2|h3]
theorem Bt.lsd{d:PyData}(hb:Bt d):∀{d':PyData},Lsd d d'->Bt d':=by
 induction hb with
 | @norow d e=>
  intro d' h;rcases gz h with⟨_,rfl⟩ | ⟨ds,ds',e',_⟩
  ·exact .norow e
  ·rw[e]at e';cases e'
 | @head d ds e hh=>
  intro d' h;rcases gz h with⟨_,rfl⟩ | ⟨ds2,ds',e2,e',r⟩
  ·exact .head e hh
  ·rw[e]at e2;cases e2;show .head e' λ y r' ey=>?_;subst ey;cases r with
   | @cons x _ xs _ hx r=>
    have rl:=r.length;cases hx with
    | same _=>
     have:=hh _ _ rfl;rw[rl];exact this
 | @size d x z l r e hz=>
  intro d' h;rcases gz h with⟨_,rfl⟩ | ⟨ds2,ds',e2,e',r⟩
  ·exact .size e hz
  ·rw[e]at e2;cases e2;obtain⟨x',z',l',r',rfl,h0,h1,h2,h3⟩:=vE r;exact .size e' (by rw[yh h1];exact hz)
 | @left d x z l r e _ ih=>
  intro d' h;rcases gz h with⟨_,rfl⟩ | ⟨ds2,ds',e2,e',r⟩
  ·exact .left e (ih (.same _))
  ·rw[e]at e2;cases e2;obtain⟨x',z',l',r',rfl,h0,h1,h2,h3⟩:=vE r;exact .left e' (ih h2)
 | @right d x z l r e _ ih=>
  intro d' h;rcases gz h with⟨_,rfl⟩ | ⟨ds2,ds',e2,e',r⟩
  ·exact .right e (ih (.same _))
  ·rw[e]at e2;cases e2;obtain⟨x',z',l',r',rfl,h0,h1,h2,h3⟩:=vE r;exact .right e' (ih h3)
theorem dp4{d0 d1 d2 d3:PyData}{D:Nat}(h0:d0.depth<=D)(h1:d1.depth<=D)(h2:d2.depth<=D)(h3:d3.depth<=D):(PyData.tuple [d0,d1,d2,d3]).depth<=D+1:=Nat.succ_le_succ (Nat.max_le.mpr %[h0|Nat.max_le.mpr %[h1|Nat.max_le.mpr %[h2|Nat.max_le.mpr %[h3|E8 _]]]])
theorem lD{d:PyData}{z:Str}{r:PP PyData}(e:aZ d=some (.str z :: r))(h:(z = "rest" /\ r.length≠0)\/(z = "piece" /\ r.length≠4)):Bt d:=by
 show .head e λ y r' ey=>?_;cases ey;rcases h with⟨rfl,h⟩ | ⟨rfl,h⟩
 ·exact%[λ z=>absurd z ∅,λ z=>absurd z ∅,λ z=>absurd z ∅|λ _=>h]
 ·exact%[λ z=>absurd z ∅,λ z=>absurd z ∅,λ _=>h|λ z=>absurd z ∅]
theorem yi{d a b c:PyData}{z:Str}(e:aZ d=some [.str z,a,b,c])(h1:z ≠ "down")(h2:z ≠ "across"):Bt d:=by show .head e λ y r' ey=>?_;cases ey;exact%[λ z=>absurd z h1,λ z=>absurd z h2,λ _=>by change 3≠4;decide|λ _=>by change 3≠0;decide]
theorem lE:∀t:Tr,wt (toD t)<=11 * szT t
 | .rest=>∅
 | .piece ..=>by
  have:wt (.str "piece")=6:=∅
  change wt (.str "piece")+(1+(1+(1+(1+0))))+1<=11 * 1;omega
 | .cut dn p l r=>by
  have h1:=lE l;have h2:=lE r;have h3:wt (.str (if dn=true then "down" else "across"))<=7:=by cases dn <;> decide +kernel
  change wt (.str (if dn=true then "down" else "across"))+(1+(wt (toD l)+(wt (toD r)+0)))+1<=11 * (szT l+szT r+1);omega
theorem lF:∀t:Tr,(toD t).depth=dT t+1
 | .rest=>∅
 | .piece ..=>by change max 0 (max 0 (max 0 (max 0 (max 0 0))))+1=1;decide
 | .cut dn p l r=>by change max 0 (max 0 (max (toD l).depth (max (toD r).depth 0)))+1=max (dT l) (dT r)+1+1;rw[lF l,lF r,Nat.zero_max,Nat.zero_max,Nat.max_zero,Nat.succ_max_succ]
theorem vF{H:Hp}{T:Tr}{v:V}(h:TrV H T v):(∃(a:PK)(z:Str)(ys:PP V)(es:PP PyData),v=.ref a/\H a= ~~~(.str z :: ys)/\((z = "rest" /\ es.length=0)\/(z = "piece" /\ es.length=4))/\toD T=.tuple (.str z :: es))\/∃(a:PK)(dn:Bool)(p:Int)(l r:Tr)(x y:V),T=.cut dn p l r/\v=.ref a/\H a=some (.tup [.str (if dn=true then "down" else "across"),.int p,x,y])/\TrV H l x/\TrV H r y:=by
 cases T with
 | rest=>obtain⟨a,e,h⟩:=h;exact .inl %[a,_,_,_,e,h,.inl %[O|O]|O]
 | piece i c x y=>obtain⟨a,e,h⟩:=h;exact .inl %[a,_,_,_,e,h,.inr %[O|O]|O]
 | cut dn p l r=>obtain⟨a,x,y,e,h1,h2,h3⟩:=h;exact .inr %[a,dn,p,l,r,x,y,O,e,h1,h2|h3]
theorem zP:∀d∈[PyData.int 0,.int (-1),.none,.bool true,.str "1"],wt d<=2/\d.depth=0/\whD d 1=false:=by simp only[OY];exact%[%[∅,O|∅],%[∅,O|∅],%[∅,O|∅],%[∅,O|∅],%[∅,O|∅]|λ _ h=>by cases h]
theorem yj:∀d∈[PyData.none,.str "",.str "up",.str "downs",.str "dow",.str "acros",.str "across ",.str "Down",.str "rest",.str "d"],wt d<=8/\d.depth=0/\(d=.none\/∃z:Str,d=.str z/\z ≠ "down" /\ z ≠ "across"):=by simp only[OY];exact%[%[∅,O|.inl trivial],%[∅,O|.inr %[_,O,∅|∅]],%[∅,O|.inr %[_,O,∅|∅]],%[∅,O|.inr %[_,O,∅|∅]],%[∅,O|.inr %[_,O,∅|∅]],%[∅,O|.inr %[_,O,∅|∅]],%[∅,O|.inr %[_,O,∅|∅]],%[∅,O|.inr %[_,O,∅|∅]],%[∅,O|.inr %[_,O,∅|∅]],%[∅,O|.inr %[_,O,∅|∅]]|λ _ h=>by cases h]
inductive spTrS(n:Nat)(vs:PP V)(H:Hp)(Q:VK)(E_:XK):Prop
|mk(p:PK)(v:V)(T:Tr)(_:vs=[.ref p,v])(_:PotC H p)(_:TrV H T v)(_:dT T < n)(_:∀(v':V)(d:PyData)(H':Hp),Dt p H' v' d->Bt d->wt d<=wt (toD T)+20->d.depth<=(toD T).depth->PotC H' p->But p H H'->Q v' H')
theorem sctrs:FnScope ["_law_pot_here","_law_tree_here","_law_way","_law_size","_law_first","_law_second","_law_turn","_law_words"] Q3 (defScope cG):=nofun
theorem zQ{f:PK}{fd:F8}(F:Fun K "_law_tree_spoilt" "_law_tree_spoilt" cG f fd)(B:Blt mg)(n:Nat)(DD:Dn P w K mg base "_law_take" QQ 1 (spTake))(DS:Dn P w K mg base "_law_tree_spoilt" Q3 (2+n) (spTrS n)):FnOk P w K mg base CX0 (2+(n+1)) f fd Q3 (spTrS (n+1)):=by
 exists sctrs;obtain⟨p,v,T,rfl,pt,tv,dn0,q⟩:=h;show%[_,(((@aJ _ _ _ _ _ _ _ _ jJ ('1'&&&ix_tup&&&af) (@aI _ _ _ _ _ (aB^^^(aB^^^ad))) O)<|>(((@aL _ _ _ _ ((@eS _ _ _ _ _ _ _ _ _ _ xh '1' ic (fh (@jC _ _ _ _ _ _ gF af)))^^^(('1'|||gr|||(@aI _ _ _ _ _ (af^^^ad)))^^^(ci^^^(aB^^^ad)))))&&&ix_list&&&(@ax _ _ _ _ _ _ _ _ _ _ DD (hr.mono (show 1<=2+n by omega)) O ('0'^^^(af^^^ad)) ∅ O O))⁻¹)<|>aG)<<<((@bA _ _ _ _ _ _ '1' (bf O (2•(3•(4•(5•aQ))))) O O O)<<<((6∣(@ax _ _ _ _ _ _ _ _ _ _ DD (hr.mono (show 1<=2+n by omega)) O ('0'^^^(af^^^ad)) ∅ O O))<<<((('6'<*>bC<*>af)<|>((@aI _ _ _ _ _ ('2'^^^(((@aL _ _ _ _ (af^^^((@jC _ _ _ _ _ _ gF af)^^^(ci^^^(bP^^^(aB^^^ad))))))&&&ix_list&&&(@ax _ _ _ _ _ _ _ _ _ _ DD (hr.mono (show 1<=2+n by omega)) O ('0'^^^(af^^^ad)) ∅ O O))^^^('4'^^^('5'^^^ad)))))⁻¹)<|>aG)<<<((('6'<*>bC<*>af)<|>((7∣(@aL _ _ _ _ (ci^^^(aB^^^(aB^^^(aB^^^(aB^^^(aB^^^(aB^^^(aB^^^(aB^^^(aB^^^ad))))))))))))<<<((@aI _ _ _ _ _ (('7'&&&ix_list&&&(@ax _ _ _ _ _ _ _ _ _ _ DD (hr.mono (show 1<=2+n by omega)) O ('0'^^^(af^^^ad)) ∅ O O))^^^('3'^^^('4'^^^('5'^^^ad)))))⁻¹))<|>aG)<<<((('6'<*>bC<*>af)<|>((@aI _ _ _ _ _ ('2'^^^('3'^^^((DS∪('0'^^^('4'^^^ad)))^^^('5'^^^ad)))))⁻¹)<|>aG)<<<((@aI _ _ _ _ _ ('2'^^^('3'^^^('4'^^^((DS∪('0'^^^('5'^^^ad)))^^^ad)))))⁻¹)))))))|?_];dsimp only[bF];have sz:(1000:Nat) < sizeLine:=∅
 have e60:(100:Int) < 10 ^ 60:=∅
 rcases vF tv with⟨a,z,ys,es,rfl,ha,hz,et⟩ | ⟨a,dn,z,l,r,x,y,rfl,rfl,ha,hl,hr2⟩
 ·show bn (λ σ' H'=>False) (λ R hR=>?_) (λ _ _ z=>z.elim);rw[et]at q;have D0:Dt p H (.ref a) (.tuple (.str z :: es)):=by have:=TrV.dt (p:=p) T tv;rw[et]at this;exact this
  obtain⟨a',xs',e',ha',D0⟩:=D0.tupD;cases e';rw[ha]at ha';cases ha';have xl:ys.length+1=es.length+1:=D0.length;show%[_,O,a,_,0,_,O,O,G2 ha,bq (E5 _) rfl,zS2|λ e0 he0=>?_];show dG he0 pt But.refl' λ H1 k1 n1 s1 b1 pt1=>?_;show%[e0,_,O,.inr (G2 k1),O,O,_,O|?_];rw[show inV (V.str z) [V.str "rest",V.str "piece"]=true by rcases hz with⟨rfl,_⟩ | ⟨rfl,_⟩ <;> decide +kernel];show aU ?_;have ha1:=lA b1 pt ha;show%[_,O,_,O,_,O,a,_,O,ha1|λ t2 H2 k2 s2=>?_];rw[rD,show ys.length=es.length by omega]at k2;have pt2:=pt1.same s2;have b02:But p H H2:=λ c o n e=>s2 _ _ (b1 _ _ n e);show%[_,O,zS1|λ t3 ht3=>?_];show dG ht3 pt2 b02 λ H3 k3 n3 s3 b3 pt3=>?_;show⟨a,t3,_,_,O,O,s3 _ _ (s2 _ _ ha1),k3,by rw[J0];change _+1+1<=_;rcases hz with⟨_,h⟩ | ⟨_,h⟩ <;> omega,λ t4 H4 c4 k4=>?_⟩;have s4:=rC c4;have b4:But p H H4:=λ c o n e=>s4 _ _ (b3 _ _ n e);have pt4:=pt3.same s4;have D4:=D0.but (cA pt) b4;have g1:Dt p H4 (.ref t2) (.tuple ((PyData.str z :: es).take es.length)):=.tup (s4 _ _ (s3 _ _ k2)) (D4.take es.length);have g2:Dt p H4 (.ref t4) (.tuple ((PyData.str z :: es) ++ [.int 0])):=.tup k4 (D4.app (.cons (.int 0) .nil));show%[zS4|λ l5 hl5=>?_];show dG hl5 pt4 b4 λ H5 k5 n5 s5 b5 pt5=>?_;show%[_,O,p,4,O,pt5,∅,∅|λ r H6 r0 r1 pt6 b6=>?_];have hl6:=b6 _ _ n5 k5;have g1':=(g1.same s5).but (cA pt5) b6;have g2':=(g2.same s5).but (cA pt5) b6;have hwt:wt (.tuple (.str z :: es))=wts (.str z :: es)+1:=rfl;have hdp:(PyData.tuple (.str z :: es)).depth=PyData.depthAll (.str z :: es)+1:=rfl;have wr:wt (.str "rest")=5:=∅
  have:r=0\/r=1\/r=2\/r=3:=⋯
  rcases this with rfl | rfl | rfl | rfl
  ·show%[l5,_,_,_,O,O,G3 hl6,O|q _ _ H6 g1' ?_ ?_ ?_ pt6 (b5.trans b6)]
   ·rcases hz with⟨rfl,h⟩ | ⟨rfl,h⟩
    ·rw[h];exact .head rfl λ y r e=>by cases e
    ·rw[h];exact lD rfl (.inr %[O|by rw[J2,h];decide])
   ·have:=zO es.length (PyData.str z :: es);change wts _+1<=_;omega
   ·have:=vD (ds:=(PyData.str z :: es).take es.length) λ d hd=>ou (List.mem_of_mem_take hd);change PyData.depthAll _+1<=_;omega
  ·show%[l5,_,_,_,O,O,G3 hl6,O|q _ _ H6 g2' ?_ ?_ ?_ pt6 (b5.trans b6)]
   ·show lD (z:=z) (r:=es ++ [.int 0]) rfl ?_;rw[G8,List.length_singleton];rcases hz with⟨rfl,h⟩ | ⟨rfl,h⟩
    ·exact .inl %[O|⋯]
    ·exact .inr %[O|⋯]
   ·change wts _+1<=_;rw[lB];change _+(1+0)+1<=_;omega
   ·have:=vD (n:=PyData.depthAll (PyData.str z :: es)) (ds:=(PyData.str z :: es) ++ [.int 0]) λ d hd=>by
     rcases C3.mp hd with hd | hd
     ·exact ou hd
     ·rw[E2.mp hd];exact E8 _
    change PyData.depthAll _+1<=_;omega
  ·exact%[l5,_,_,_,O,O,G3 hl6,O|q _ _ H6 .non (.norow rfl) (by change 1<=_;omega) (E8 _) pt6 (b5.trans b6)]
  ·exact%[l5,_,_,_,O,O,G3 hl6,O|q _ _ H6 (.str _) (.norow rfl) ⋯ (E8 _) pt6 (b5.trans b6)]
 have dl:=TrV.dt (p:=p) l hl;have dr:=TrV.dt (p:=p) r hr2;have hwt:wt (toD (.cut dn z l r))=wt (.str (if dn=true then "down" else "across"))+wt (toD l)+wt (toD r)+2:=by change wt (.str (if dn=true then "down" else "across"))+(1+(wt (toD l)+(wt (toD r)+0)))+1=_;omega
 obtain⟨D,hD,hDl,hDr⟩:∃D,(toD (.cut dn z l r)).depth=D+1/\(toD l).depth<=D/\(toD r).depth<=D:=%[_,O,C6 (Nat.le_max_left _ _) (C6 (O8 _ _) (O8 _ _))|C6 (C6 (Nat.le_max_left _ _) (O8 _ _)) (C6 (O8 _ _) (O8 _ _))]
 have dTs:=zN dn z l r;have w5:5<=wt (.str (if dn=true then "down" else "across")):=by cases dn <;> decide +kernel
 have four:∀{d0 d1 d2 d3:PyData},wt (.tuple [d0,d1,d2,d3])=wt d0+wt d1+wt d2+wt d3+1:=λ {d0 d1 d2 d3}=>by change wt d0+(wt d1+(wt d2+(wt d3+0)))+1=_;omega
 rw[hD]at q;show ar (λ R=>∀(H':Hp),PotC H' p->But p H H'->R [↑p,↑a,none,none,none,none,none,none] H') (λ Dd hR=>?_) ?_
 ·show%[_,O,a,_,0,_,O,O,G2 ha,bq (E5 _) rfl,zS2|λ e0 he0=>?_];show dG he0 pt But.refl' λ H1 k1 n1 s1 b1 pt1=>?_;show%[e0,_,O,.inr (G2 k1),O,O,_,O|?_];rw[show inV (V.str (if dn=true then "down" else "across")) [V.str "rest",V.str "piece"]=false by cases dn <;> decide +kernel];exact aT (hR _ pt1 b1)
 rintro H1 pt1 b1;show ar (λ R=>R [↑p,↑a,some (.str (if dn=true then "down" else "across")),⇑z,some x,some y,none,none] H1) (λ Dd hR=>?_) ?_
 ·exact%[_,O,a,_,O,G2 (lA b1 pt ha),O,_,_,O,_,_,O,_,_,O,_,_,O,O|hR]
 skip
 show ar (λ R=>∀(k:Nat)(H':Hp),k < 4->PotC H' p->But p H H'->R [↑p,↑a,some (.str (if dn=true then "down" else "across")),⇑z,some x,some y,⇑(k:Int),none] H') (λ Dd hR=>?_) ?_
 ·show%[_,O,p,4,O,pt1,∅,∅|λ r H3 r0 r1 pt3 b3=>?_];obtain⟨k,rfl⟩:=N3 r0;exact hR k _ ⋯ pt3 (b1.trans b3)
 rintro k H3 k5 pt3 b3;have kk:∀j:Int,(k:Int)≠j->decide (V.int (k:Int)=V.int j)=false:=λ j z=>B1 (λ e=>z (V.int.inj e));show cg (λ R=>k≠0->R [↑p,↑a,some (.str (if dn=true then "down" else "across")),⇑z,some x,some y,⇑(k:Int),none] H3) (λ R hR=>?_) ?_
 ·show%[_,O,O,_,O|?_]
  by_cases c:k=0
  ·subst c;show aU ?_;show%[_,O,_,O,zS5|λ l4 hl4=>?_];show dG hl4 pt3 b3 λ H4 k4 n4 s4 b4 pt4=>?_;show%[_,O,p,5,O,pt4,∅,∅|λ j H5 j0 j1 pt5 b5=>?_];have hl5:=b5 _ _ n4 k4;have b05:=b4.trans b5;have D5:Dts p H5 [V.int 0,.int (-1),.non,.bl true,.str "1"] [.int 0,.int (-1),.none,.bool true,.str "1"]:=(.cons (.int _) (.cons (.int _) (.cons (.non) (.cons (.bl _) (.cons (.str _) .nil)))))
   obtain⟨x9,dx,hx',hdx,mx⟩:=D5.pick j0 j1;obtain⟨wx,px,nx⟩:=zP dx mx;show%[l4,_,_,_,O,O,G3 hl5,hx',_,O,_,O,zS4|λ t6 ht6=>?_];show dG ht6 pt5 b05 λ H6 k6 n6 s6 b6 pt6=>?_;have f1:=four (d0:=.str (if dn=true then "down" else "across")) (d1:=dx) (d2:=toD l) (d3:=toD r);exact q _ (.tuple [.str (if dn=true then "down" else "across"),dx,toD l,toD r]) H6 (.tup k6 (.cons (.str _) (.cons (hdx.same s6) (.cons (dl.but (cA pt) b6) (.cons (dr.but (cA pt) b6) .nil))))) (.size rfl nx) ⋯ (dp4 (E8 _) (px ▸ E8 _) hDl hDr) pt6 b6
  ·rw[kk 0 ⋯];exact aT (hR c)
 rintro c0;show bn (λ σ' H'=>σ'=[↑p,↑a,some (.str (if dn=true then "down" else "across")),⇑z,some x,some y,⇑(k:Int),none]/\H3=H'/\k≠1) (λ R hR=>?_) ?_
 ·show%[_,O,O,_,O|?_]
  by_cases c:k=1
  ·subst c;show aU ?_;show ar (λ R=>∀(l:PK)(H':Hp),l≠p->H' l=some (.lst [.non,.str "",.str "up",.str "downs",.str "dow",.str "acros",.str "across ",.str "Down",.str "rest",.str "d"])->PotC H' p->But p H H'->R [↑p,↑a,some (.str (if dn=true then "down" else "across")),⇑z,some x,some y,⇑((1:Nat):Int),↑l] H') (λ Dd hR=>?_) ?_
   ·show%[zS10|λ l hl=>?_];show dG hl pt3 b3 λ H5 k5 n5 s5 b5 pt5=>?_;exact hR l _ n5 k5 pt5 b5
   rintro l4 H4 nl hl4 pt4 b4;show%[_,O,_,O,p,10,O,pt4,∅,∅|λ j H5 j0 j1 pt5 b5=>?_];have hl5:=b5 _ _ nl hl4;have b05:=b4.trans b5;have D5:Dts p H5 [.non,.str "",.str "up",.str "downs",.str "dow",.str "acros",.str "across ",.str "Down",.str "rest",.str "d"] [.none,.str "",.str "up",.str "downs",.str "dow",.str "acros",.str "across ",.str "Down",.str "rest",.str "d"]:=.cons .non (.cons (.str _) (.cons (.str _) (.cons (.str _) (.cons (.str _) (.cons (.str _) (.cons (.str _) (.cons (.str _) (.cons (.str _) (.cons (.str _) .nil)))))))));obtain⟨x9,dx,hx',hdx,mx⟩:=D5.pick j0 j1;obtain⟨wx,px,nx⟩:=yj dx mx;show%[l4,_,_,_,O,O,G3 hl5,hx',_,O,_,O,_,O,zS4|λ t6 ht6=>?_];show dG ht6 pt5 b05 λ H6 k6 n6 s6 b6 pt6=>?_;have f1:=four (d0:=dx) (d1:=.int z) (d2:=toD l) (d3:=toD r);have wi:wt (.int z)=1:=rfl;show q _ (.tuple [dx,.int z,toD l,toD r]) H6 (.tup k6 (.cons (hdx.same s6) (.cons (.int _) (.cons (dl.but (cA pt) b6) (.cons (dr.but (cA pt) b6) .nil))))) ?_ ⋯ (dp4 (px ▸ E8 _) (E8 _) hDl hDr) pt6 b6;rcases nx with rfl | ⟨z9,rfl,h1,h2⟩
   ·exact .head rfl λ y r e=>by cases e
   ·exact yi rfl h1 h2
  ·rw[kk 1 ⋯];exact aT (hR _ _ %[rfl,rfl|c])
 rintro _ _ ⟨rfl,rfl,c1⟩;show cg (λ R=>k≠2->R [↑p,↑a,some (.str (if dn=true then "down" else "across")),⇑z,some x,some y,⇑(k:Int),none] H3) (λ R hR=>?_) ?_
 ·show%[_,O,O,_,O|?_]
  by_cases c:k=2
  ·subst c;show aU ?_;show%[_,O,_,O,_,O,_,O,p,x,l,O,pt3,TrV.keep (λ c ys e=>lA b3 pt e) l hl,⋯|λ v d H4 hd bt wd dd pt4 b4=>%[_,O,zS4|λ t6 ht6=>?_]];show dG ht6 pt4 (b3.trans b4) λ H6 k6 n6 s6 b6 pt6=>?_;have f1:=four (d0:=.str (if dn=true then "down" else "across")) (d1:=.int z) (d2:=d) (d3:=toD r);have wi:wt (.int z)=1:=rfl;exact q _ (.tuple [.str (if dn=true then "down" else "across"),.int z,d,toD r]) H6 (.tup k6 (.cons (.str _) (.cons (.int _) (.cons (hd.same s6) (.cons (dr.but (cA pt) b6) .nil))))) (.left rfl bt) ⋯ (dp4 (E8 _) (E8 _) (C6 dd hDl) hDr) pt6 b6
  ·rw[kk 2 ⋯];exact aT (hR c)
 rintro c2;show%[_,O,_,O,_,O,_,O,_,O,p,y,r,O,pt3,TrV.keep (λ c ys e=>lA b3 pt e) r hr2,⋯|λ v d H4 hd bt wd dd pt4 b4=>%[zS4|λ t6 ht6=>?_]];show dG ht6 pt4 (b3.trans b4) λ H6 k6 n6 s6 b6 pt6=>?_;have f1:=four (d0:=.str (if dn=true then "down" else "across")) (d1:=.int z) (d2:=toD l) (d3:=d);have wi:wt (.int z)=1:=rfl;exact q _ (.tuple [.str (if dn=true then "down" else "across"),.int z,toD l,d]) H6 (.tup k6 (.cons (.str _) (.cons (.int _) (.cons (dl.but (cA pt) b6) (.cons (hd.same s6) .nil))))) (.right rfl bt) ⋯ (dp4 (E8 _) (E8 _) hDl (C6 dd hDr)) pt6 b6
theorem yk{f:PK}{fd:F8}(F:Fun K "_law_tree_spoilt" "_law_tree_spoilt" cG f fd):FnOk P w K mg base CX0 2 f fd Q3 (spTrS 0):=by
 apply F.ok sctrs (λ vs H Q E h=>?_) (λ cdv A outer s H vs Q E hr h=>?_)
 ·obtain⟨p,v,t,rfl,_⟩:=h
  rfl
 ·obtain⟨p,v,t,rfl,_,_,z,_⟩:=h;exact absurd z (E9 _)
theorem pR{f:PK}{fd:F8}(F:Fun K "_law_tree_spoilt" "_law_tree_spoilt" cG f fd)(B:Blt mg)(DD:Dn P w K mg base "_law_take" QQ 1 (spTake))(mk:∀n,FnOk P w K mg base CX0 (2+n) f fd Q3 (spTrS n)->Dn P w K mg base "_law_tree_spoilt" Q3 (2+n) (spTrS n)):∀n,FnOk P w K mg base CX0 (2+n) f fd Q3 (spTrS n)
 | 0=>yk F
 | n+1=>zQ F B n DD (mk n (pR F B DD mk n))
theorem gA{b:Int}{ks:PP Kd}(b0:0<=b):∀(t:Tr)(x y w h:Int),1<=w->1<=h->okT b ks w h t->∀f∈lvs b t x y w h,1<=f.w/\f.w<=w/\1<=f.h/\f.h<=h/\okT b ks f.w f.h f.t
 | .rest,x,y,w,h,w0,h0,ok,f,hf=>by cases E2.mp hf;exact%[w0,E5 _,h0,E5 _|ok]
 | .piece ..,x,y,w,h,w0,h0,ok,f,hf=>by cases E2.mp hf;exact%[w0,E5 _,h0,E5 _|ok]
 | .cut true p l r,x,y,w,h,w0,h0,⟨p1,hp,hl,hr⟩,f,hf=>by
  rw[lvs]at hf;rcases C3.mp hf with z | z
  ·have:=gA b0 r _ _ _ _ ⋯ h0 hr f z;exact%[this.1,⋯,this.2.2.1,this.2.2.2.1|this.2.2.2.2]
  ·have:=gA b0 l _ _ _ _ p1 h0 hl f z;exact%[this.1,⋯,this.2.2.1,this.2.2.2.1|this.2.2.2.2]
 | .cut false p l r,x,y,w,h,w0,h0,⟨p1,hp,hl,hr⟩,f,hf=>by
  rw[lvs]at hf;rcases C3.mp hf with z | z
  ·have:=gA b0 r _ _ _ _ w0 ⋯ hr f z;exact%[this.1,this.2.1,this.2.2.1,⋯|this.2.2.2.2]
  ·have:=gA b0 l _ _ _ _ w0 p1 hl f z;exact%[this.1,this.2.1,this.2.2.1,⋯|this.2.2.2.2]
theorem vG{p q:Rst}(h:fb p=fb q):p=q:=by
 obtain⟨x,y,w,z⟩:=p;obtain⟨x',y',w',z'⟩:=q;unfold fb at h;simp only[List.cons.injEq,and_true]at h;obtain⟨h1,h2,h3,h4⟩:=h;subst h1 h2 h3 h4
 rfl
theorem zR{ps qs:PP Rst}(h:ps.Perm qs)(h1:(ps.map fb).Pairwise λ x y=>cu y x=false)(h2:(qs.map fb).Pairwise λ x y=>cu y x=false):ps=qs :=
 List.Perm.eq_of_pairwise (le:=λ p q=>cu (fb q) (fb p)=false) (λ p q _ _ a1 a2=>vG (gN _ _ a2 a1)) (List.pairwise_map.mp h1) (List.pairwise_map.mp h2) h
def ShD(k n:Nat)(d:PyData):Prop:=d.showable=true/\d.depth<=k/\d.shown.length<=n
theorem oA{k n:Nat}:∀{ds:PP PyData},(∀d∈ds,ShD k n d)->PyData.showableAll ds=true/\PyData.depthAll ds<=k/\((PyData.shownAll ds).map (·.length)).sum<=n * ds.length/\(PyData.shownAll ds).length=ds.length
 | [],_=>%[O,E8 _,E8 _|O]
 | d :: r,h=>by obtain⟨d1,d2,d3⟩:=h d B7;obtain⟨e1,e2,e3,e4⟩:=oA (ds:=r) λ x hx=>h x (B4 _ hx);show%[by simp only[PyData.showableAll,d1,e1,Bool.and_self],by simp only[PyData.depthAll];omega,?_|by simp only[PyData.shownAll,J0];omega];simp only[PyData.shownAll,J3,List.sum_cons,J0,Nat.mul_succ];omega
inductive Deed where
 | put (w h:Int)
 | cut (q:Int×Int×Int) (t:Tr)
structure GI(ks:PP Kd)(c:Nat)(g:Stn):Prop where
 pl:∀q∈g.pl,0<=q.1/\q.1 < g.nu/\1<=q.2.1/\q.2.1 < 10 ^ 58/\1<=q.2.2/\q.2.2 < 10 ^ 58
 so:g.pl.Pairwise λ x y=>x.1 < y.1
 ln:g.pl.length<=40 * c
 nu:0<=g.nu/\g.nu<=40 * c
 ml:g.md.length=ks.length
 md:∀m∈g.md,0<=m/\m<=40 * c
 pu:0<=g.pu/\g.pu<=c * 10 ^ 116
def OkD(b:Int)(ks:PP Kd)(g:Stn):Deed->Prop
 | .put w h=>1<=w/\w < 10 ^ 58/\1<=h/\h < 10 ^ 58
 | .cut q t=>q∈g.pl/\okU b ks q.2.1 q.2.2 t/\lvN t<=31
def Stp(b le:Int)(ks:PP Kd)(g:Stn)(d:Deed)(g':Stn):Prop:=match d with
 | .put w h=>g'=%[g.pl ++ [(g.nu,w,h)],g.nu+1,g.md|g.pu+w * h]
 | .cut q t=>∃rs:PP Rst,rs.Perm (jl b t q.2.1 q.2.2)/\(rs.map fb).Pairwise (λ x y=>cu y x=false)/\g'=gy le g q rs (bI (pcs b t q.2.1 q.2.2) ks.length)
def g00(n:Nat):Stn:=%[[],0,List.replicate n 0|0]
theorem GI.zero(ks:PP Kd):GI ks 0 (g00 ks.length):=⟨λ _ h=>(C1 h).elim,.nil,B3 _,%[E5 _|E5 _],M3,λ m hm=>by
 rw[(List.mem_replicate.mp hm).2];exact%[E5 _|⋯],%[E5 _|by change(0:Int)<=((0:Nat):Int) * _;omega]⟩
theorem mG(b:Int)(t:Tr)(x y w h:Int):(lvs b t x y w h).length=lvN t:=(TrD.many (b:=b) t _ x y w h (TrD.to t)).1
theorem dZ:∀{nu:Int}{l:PP (Int×Int)}{z:Int×Int×Int},z∈bz nu l->nu<=z.1/\z.1 < nu+l.length/\z.2∈l
 | _,[],_,h=>(C1 h).elim
 | nu,y :: l,z,h=>by
  rw[bz]at h;rw[J0];rcases G7.mp h with e | h
  ·rw[e];exact%[E5 _,by change nu < nu+((l.length+1:Nat):Int);omega|B7]
  ·obtain⟨h1,h2,h3⟩:=dZ h;exact%[⋯,⋯|B4 _ h3]
theorem mH:∀(nu:Int)(l:PP (Int×Int)),(bz nu l).Pairwise λ x y=>x.1 < y.1
 | _,[]=>.nil
 | nu,y :: l=>by rw[bz];exact .cons (λ z hz=>by have:=(dZ hz).1;change nu < z.1;omega) (mH _ l)
theorem vH{le:Int}{rs:PP Rst}{z:Int×Int}(h:z∈aS le rs):∃r∈rs,z=(r.w,r.h):=by unfold aS at h;obtain⟨r,hr,e⟩:=M4.mp h;exact%[r,(OU.mp hr).1|e.symm]
theorem mJ(le:Int)(rs:PP Rst):(aS le rs).length<=rs.length:=by unfold aS;rw[G6];exact K1 _ _
theorem vI{b:Int}{t:Tr}{w h:Int}{r:Rst}(hr:r∈jl b t w h):∃f∈lvs b t 0 0 w h,r.w=f.w/\r.h=f.h:=by
 obtain⟨f,hf,e⟩:=O0.mp hr;show%[f,hf|?_];unfold lfR at e
 split at e
 ·cases e;exact%[O|O]
 ·cases e
theorem mL{f:Int->Int->Int}:∀{xs ys:Q9}{z:Int},z∈List.zipWith f xs ys->∃x∈xs,∃y∈ys,z=f x y
 | [],_,z,h=>by simp at h
 | _ :: _,[],z,h=>by simp at h
 | x :: xs,y :: ys,z,h=>by
  rw[List.zipWith_cons_cons]at h;rcases G7.mp h with e | h
  ·exact%[x,B7,y,B7|e]
  ·obtain⟨a,ha,c,hc,e⟩:=mL h;exact%[a,B4 _ ha,c,B4 _ hc|e]
theorem zS{w h:Int}(w0:1<=w)(w1:w < 10 ^ 58)(h0:1<=h)(h1:h < 10 ^ 58):0<=w * h/\w * h<=10 ^ 116:=by
 show%[Int.mul_nonneg ⋯ ⋯|?_];have:=O5 (a:=w) (b:=h) (c:=10 ^ 58) (d:=10 ^ 58) ⋯ ⋯ ⋯ ∅;have e:(10:Int) ^ 58 * 10 ^ 58=10 ^ 116:=∅
 omega
theorem GI.step{b le:Int}{ks:PP Kd}{c:Nat}{g g':Stn}(b0:0<=b)(gi:GI ks c g):∀{d:Deed},OkD b ks g d->Stp b le ks g d g'->GI ks (c+1) g'
 | .put w h,⟨w0,w1,h0,h1⟩,e=>by
  cases e;obtain⟨sq0,sq1⟩:=zS w0 w1 h0 h1;obtain⟨n0,n1⟩:=gi.nu;have:=gi.ln;obtain⟨p0,p1⟩:=gi.pu;show%[λ q hq=>?_,?_,by rw[G8];change _+1<=_;omega,%[by change 0<=g.nu+1;omega|by change g.nu+1<=_;omega],gi.ml,λ m hm=>?_|%[by change 0<=g.pu+w * h;omega|?_]]
  ·rcases C3.mp hq with z | z
   ·obtain⟨a1,a2,a3⟩:=gi.pl q z;exact%[a1,by change q.1 < g.nu+1;omega|a3]
   ·rw[E2.mp z];exact%[n0,by change g.nu < g.nu+1;omega,w0,w1,h0|h1]
  ·show List.pairwise_append.mpr %[gi.so,List.pairwise_singleton _ _|λ x hx y hy=>?_];rw[E2.mp hy];exact(gi.pl x hx).2.1
  ·obtain⟨a1,a2⟩:=gi.md m hm;exact%[a1|⋯]
  ·change g.pu+w * h<=((c+1:Nat):Int) * 10 ^ 116;rw[show((c+1:Nat):Int)=(c:Int)+1 by omega,Int.add_mul];omega
 | .cut q t,⟨hq,ok,l7⟩,⟨rs,pe,so,e⟩=>by
  cases e;obtain⟨n0,n1⟩:=gi.nu;have gl:=gi.ln;obtain⟨p0,p1⟩:=gi.pu;obtain⟨_,_,q1,q2,q3,q4⟩:=gi.pl q hq;have okt:=jp t ok;have ll:=mG b t 0 0 q.2.1 q.2.2;have rl:rs.length<=31:=by rw[pe.length_eq];exact C6 (J5 _ _) ⋯
  have kl:=mJ le rs;have cl:=bR g.nu (aS le rs);have fl:=K1 (λ z=>decide (z≠q)) g.pl;have cm:∀z∈bz g.nu (aS le rs),1<=z.2.1/\z.2.1 < 10 ^ 58/\1<=z.2.2/\z.2.2 < 10 ^ 58:=λ z hz=>by obtain⟨r,hr,ez⟩:=vH (dZ hz).2.2;obtain⟨f,hf,e1,e2⟩:=vI (pe.mem_iff.mp hr);obtain⟨f1,f2,f3,f4,_⟩:=gA b0 t 0 0 q.2.1 q.2.2 q1 q3 okt f hf;rw[ez];exact%[by change 1<=r.w;omega,by change r.w < _;omega,by change 1<=r.h;omega|by change r.h < _;omega]
  show%[λ z hz=>?_,?_,?_,%[?_|?_],?_,λ m hm=>?_|%[p0|?_]]
  ·rcases C3.mp hz with z1 | z1
   ·obtain⟨a1,a2,a3⟩:=gi.pl z (OU.mp z1).1;exact%[a1,by change z.1 < g.nu+((aS le rs).length:Int);omega|a3]
   ·obtain⟨a1,a2,_⟩:=dZ z1;exact%[⋯,a2|cm z z1]
  ·show List.pairwise_append.mpr %[gi.so.sublist List.filter_sublist,mH _ _|λ x hx y hy=>?_];have:=(gi.pl x (OU.mp hx).1).2.1;have:=(dZ hy).1;omega
  ·change((g.pl.filter λ z=>decide (z≠q)) ++ bz g.nu (aS le rs)).length<=_;rw[G8];omega
  ·change 0<=g.nu+((aS le rs).length:Int);omega
  ·change g.nu+((aS le rs).length:Int)<=_;omega
  ·change(List.zipWith (· + ·) g.md _).length=_;rw[N6,cx,gi.ml,Nat.min_self]
  ·obtain⟨x,hx,y,hy,em⟩:=mL hm;obtain⟨x0,x1⟩:=gi.md x hx;unfold bI at hy;obtain⟨k,_,ey⟩:=M4.mp hy;have:((pcs b t q.2.1 q.2.2).filter λ p=>p.k == k).length<=31:=C6 (K1 _ _) (C6 (J5 _ _) ⋯);have em:m=x+y:=em;omega
  ·have:(0:Int)<=10 ^ 116:=∅
   change g.pu<=((c+1:Nat):Int) * 10 ^ 116;rw[show((c+1:Nat):Int)=(c:Int)+1 by omega,Int.add_mul];omega
def rsC(ks:PP Kd)(g:Stn):Int:=g.pu - thr g - mdc ks g
theorem GI.plo{ks:PP Kd}{c:Nat}{g:Stn}(h:GI ks c g)(c1:c<=25):xQ g:=⟨by have:=h.ln;omega,λ q hq=>by
 obtain⟨_,_,a,b,c,d⟩:=h.pl q hq;have:(10:Int) ^ 58<=10 ^ 60:=∅
 exact%[a,⋯,c|⋯]⟩
theorem GI.mdo{ks:PP Kd}{c:Nat}{g:Stn}(h:GI ks c g)(c1:c<=25):xR ks g:=⟨h.ml,λ m hm=>by
 obtain⟨a,b⟩:=h.md m hm;have:(1000:Int)<=10 ^ 6:=∅
 exact%[a|⋯]⟩
def plD(q:Int×Int×Int):PyData:=.tuple [.int q.1,.int q.2.1,.int q.2.2]
def gb(ks:PP Kd)(g:Stn):PyData:=.list [.list (g.pl.map plD),.list (g.md.map PyData.int),.tuple [.int g.pu,.int (thr g),.int (mdc ks g),.int (rsC ks g)]]
theorem PlA.dat{K:C5}{H:Hp}:∀{rs:PP V}{qs:PP (Int×Int×Int)},Paired (PlA H) rs qs->DatVs K H rs (qs.map plD)
 | _,_,.nil=>.nil
 | _,_,.cons ⟨a,e,h⟩ r=>by subst e;exact .cons (.tup (G2 h) (.cons (.int _) (.cons (.int _) (.cons (.int _) .nil)))) (PlA.dat r)
theorem gB{K:C5}{H:Hp}:∀ns:Q9,DatVs K H (ns.map V.int) (ns.map PyData.int)
 | []=>.nil
 | _ :: r=>.cons (.int _) (gB r)
def FrL(M:PP PK)(H H':Hp):Prop:=∀c o,c∉M->H c=some o->H' c=some o
theorem Same.frL{M:PP PK}{H H':Hp}(s:Same H H'):FrL M H H':=λ _ _ _ e=>s _ _ e
theorem zT{i:Int}(h:i.natAbs < 10 ^ 130):ShD 1 131 (.int i):=by
 show%[?_,by simp[PyData.depth]|?_]
 ·have:i.natAbs.log2 < 1920:=by
   rcases Nat.eq_zero_or_pos i.natAbs with h0 | hp
   ·rw[h0];decide
   ·show(Nat.log2_lt (N2 hp)).mpr (Nat.lt_trans h ?_)
    decide +kernel
  simp[PyData.showable,this]
 ·change(Str.ofString (toString i)).length<=131;rw[ofString_length];exact int_text_length_le10 ∅ h
theorem zU{i:Int}(h0:-(10 ^ 129)<=i)(h1:i<=10 ^ 129):ShD 1 131 (.int i):=zT (by
 have e1:((10 ^ 130:Nat):Int)=10 * 10 ^ 129:=∅
 have e2:(0:Int) < 10 ^ 129:=∅
 generalize(10:Int) ^ 129=a at *;generalize(10:Nat) ^ 130=c at *;omega)
theorem ShD.le{k n m:Nat}{d:PyData}(h:ShD k n d)(e:n<=m):ShD k m d:=%[h.1,h.2.1|C6 h.2.2 e]
theorem vJ{k n m l:Nat}{ds:PP PyData}(h:∀d∈ds,ShD k n d)(hl:ds.length<=l)(e:n * l+2 * l+3<=m):ShD (k+1) m (.tuple ds):=by obtain⟨e1,e2,e3,e4⟩:=oA h;have:=tupleText_len_le (PyData.shownAll ds);have h3:=Nat.mul_le_mul_left n hl;show%[by simp only[PyData.showable,e1],by simp only[PyData.depth];omega|by simp only[PyData.shown];omega]
theorem oB{k n m l:Nat}{ds:PP PyData}(h:∀d∈ds,ShD k n d)(hl:ds.length<=l)(e:n * l+2 * l+3<=m):ShD (k+1) m (.list ds):=by obtain⟨e1,e2,e3,e4⟩:=oA h;have:=listText_len_le (PyData.shownAll ds);have h3:=Nat.mul_le_mul_left n hl;show%[by simp only[PyData.showable,e1],by simp only[PyData.depth];omega|by simp only[PyData.shown];omega]
theorem ShD.up{k k' n:Nat}{d:PyData}(h:ShD k n d)(e:k<=k'):ShD k' n d:=%[h.1,C6 h.2.1 e|h.2.2]
theorem lG{B:Int}(hB:0<=B):∀{l:Q9}{n:Nat},l.length<=n->(∀x∈l,0<=x/\x<=B)->0<=l.sum/\l.sum<=n * B
 | [],n,_,_=>%[E5 _|Int.mul_nonneg ⋯ hB]
 | x :: l,0,h,_=>absurd h (by simp)
 | x :: l,n+1,h,hx=>by obtain⟨a,b⟩:=hx x B7;obtain⟨c,d⟩:=lG hB (l:=l) (n:=n) (by simpa using h) λ y hy=>hx y (B4 _ hy);rw[List.sum_cons,show((n+1:Nat):Int)=(n:Int)+1 by omega,Int.add_mul];exact%[⋯|⋯]
theorem GI.bnds{ks:PP Kd}{c:Nat}{g:Stn}(gi:GI ks c g)(c1:c<=25)(gk:∀k∈ks,jh k)(k8:ks.length<=8):(0<=g.pu/\g.pu<=10 ^ 119)/\(0<=thr g/\thr g<=10 ^ 119)/\(0<=mdc ks g/\mdc ks g<=10 ^ 120):=by
 have e0:(0:Int)<=10 ^ 116:=∅
 have e1:(10:Int) ^ 119=1000 * 10 ^ 116:=∅
 have e2:(10:Int) ^ 120=10 * (1000 * 10 ^ 116):=∅
 have ln:=gi.ln;obtain⟨p0,p1⟩:=gi.pu;have t:=lG (B:=10 ^ 116) e0 (l:=g.pl.map λ q=>q.2.1 * q.2.2) (n:=1000) (by rw[G6];omega) λ x hx=>by obtain⟨q,hq,rfl⟩:=M4.mp hx;obtain⟨_,_,a1,a2,a3,a4⟩:=gi.pl q hq;exact zS a1 a2 a3 a4
 have m:=lG (B:=1000 * 10 ^ 116) ∅ (l:=(g.md.zip ks).map λ z=>z.1 * z.2.w * z.2.h) (n:=8) (by rw[G6,PF];omega) λ x hx=>by obtain⟨z,hz,rfl⟩:=M4.mp hx;obtain⟨z1,z2⟩:=PD hz;obtain⟨a1,a2⟩:=gi.md _ z1;obtain⟨gd,w58,h58⟩:=gk _ z2;obtain⟨b1,b2⟩:=zS gd.w w58 gd.h h58;have:z.1 * (z.2.w * z.2.h)<=1000 * 10 ^ 116:=O5 ⋯ b2 b1 ∅;have h0:=Int.mul_nonneg a1 b1;change 0<=z.1 * z.2.w * z.2.h/\z.1 * z.2.w * z.2.h<=_;rw[Int.mul_assoc];exact%[h0|this]
 have pc:(c:Int) * 10 ^ 116<=100 * 10 ^ 116:=Int.mul_le_mul_of_nonneg_right ⋯ e0;show%[%[p0|⋯],%[t.1|?_],m.1|?_]
 ·have:=t.2;change(g.pl.map λ q=>q.2.1 * q.2.2).sum<=_;rw[e1];exact this
 ·have:=m.2;change((g.md.zip ks).map λ z=>z.1 * z.2.w * z.2.h).sum<=_;omega
theorem mM:∀ns:Q9,PyData.hasDictAll (ns.map PyData.int)=false
 | []=>rfl
 | _ :: r=>by simp[PyData.hasDictAll,PyData.hasDict,mM r]
theorem mO:∀ns:PP (Int×Int×Int),PyData.hasDictAll (ns.map plD)=false
 | []=>rfl
 | _ :: r=>by simp[plD,PyData.hasDictAll,PyData.hasDict,mO r]
theorem ym{ks:PP Kd}{c:Nat}{g:Stn}(gi:GI ks c g)(c1:c<=25)(gk:∀k∈ks,jh k)(k8:ks.length<=8):(gb ks g).showable=true/\(gb ks g).hasDict=false/\(gb ks g).depth<=200/\(gb ks g).shown.length<=sizeLine:=by
 obtain⟨⟨p0,p1⟩,⟨t0,t1⟩,m0,m1⟩:=gi.bnds c1 gk k8;have eq1:(10:Int) ^ 129=10 ^ 10 * 10 ^ 119:=∅
 have eq2:(10:Int) ^ 129=10 ^ 9 * 10 ^ 120:=∅
 have eq3:(10:Int) ^ 129=10 ^ 71 * 10 ^ 58:=∅
 have eq4:(0:Int) < 10 ^ 119/\(0:Int) < 10 ^ 120/\(1000000:Int) < 10 ^ 58:=∅
 obtain⟨n0,n1⟩:=gi.nu;have ln:=gi.ln;have h1:ShD 4 510000 (.list (g.pl.map plD)):=(oB (k:=2) (n:=500) (l:=1000) (λ d hd=>by
  obtain⟨q,hq,rfl⟩:=M4.mp hd;obtain⟨a0,a1,a2,a3,a4,a5⟩:=gi.pl q hq;show vJ (k:=1) (n:=131) (l:=3) (λ d hd=>?_) (B3 _) ∅;simp only[G7,C1,Pl]at hd;rcases hd with rfl | rfl | rfl <;> exact zU ⋯ ⋯) (by rw[G6];omega) ∅).up ∅
 have h2:ShD 4 510000 (.list (g.md.map PyData.int)):=((oB (k:=1) (n:=131) (l:=8) (λ d hd=>by
  obtain⟨q,hq,rfl⟩:=M4.mp hd;obtain⟨a0,a1⟩:=gi.md q hq;exact zU ⋯ ⋯) (by rw[G6,gi.ml];exact k8) ∅).le (m:=510000) (by decide:131 * 8+2 * 8+3<=510000)).up ∅
 have h3:ShD 4 510000 (.tuple [.int g.pu,.int (thr g),.int (mdc ks g),.int (rsC ks g)]):=((vJ (k:=1) (n:=131) (l:=4) (λ d hd=>by
  have er:rsC ks g=g.pu - thr g - mdc ks g:=rfl;simp only[G7,C1,Pl]at hd;rcases hd with rfl | rfl | rfl | rfl <;> exact zU ⋯ ⋯) (B3 _) ∅).le (m:=510000) (by decide:131 * 4+2 * 4+3<=510000)).up ∅
 obtain⟨s1,s2,s3⟩:=oB (k:=4) (n:=510000) (l:=3) (m:=1600000) (ds:=[.list (g.pl.map plD),.list (g.md.map PyData.int),.tuple [.int g.pu,.int (thr g),.int (mdc ks g),.int (rsC ks g)]]) (λ d hd=>by
  simp only[G7,C1,Pl]at hd;rcases hd with rfl | rfl | rfl
  ·exact h1
  ·exact h2
  ·exact h3) (B3 _) ∅
 exact%[s1,by simp[gb,PyData.hasDict,PyData.hasDictAll,mM,mO],C6 s2 ∅|C6 s3 ∅]
theorem StoreAt.frL{CS C s sh pa:PK}{M:PP PK}{H H':Hp}{b le:Int}{ks:PP Kd}{g:Stn}{gs:PP Stn}(x:StoreAt CS C H s sh b ks le g gs pa)(f:FrL M H H')(hs:s∉M)(hp:pa∉M)(hh:sh∉M)(nt:∀m∈M,∀xs,H m≠some (.tup xs)):StoreAt CS C H' s sh b ks le g gs pa:=by
 have kt:∀a xs,H a= ~~~xs->H' a= ~~~xs:=λ a xs e=>f _ _ (λ z=>nt _ z _ e) e;cases x with
 | mk h sp st hpa pr=>
  obtain⟨dx',r,rs,h1,h2,h3⟩:=sp;exact .mk (f _ _ hs h) %[dx',r,rs,f _ _ hh h1,kt _ _ h2|Tups.keep kt h3] (st.keep kt) (f _ _ hp hpa) (G4 pr λ v q h=>h.keep kt)
theorem StoreAt.nt{CS C s sh pa:PK}{H:Hp}{b le:Int}{ks:PP Kd}{g:Stn}{gs:PP Stn}(x:StoreAt CS C H s sh b ks le g gs pa):(H s≠none/\∀xs,H s≠some (.tup xs))/\H pa≠none/\∀xs,H pa≠some (.tup xs):=by obtain⟨dx,sg,ps,hs,sp,st,hp,_⟩:=x.look;rw[hs,hp];exact%[%[by simp|by simp],by simp|by simp]
theorem GI.mono{ks:PP Kd}{c c':Nat}{g:Stn}(h:GI ks c g)(e:c<=c'):GI ks c' g:=by
 have e0:(0:Int)<=10 ^ 116:=∅
 have:=Int.mul_le_mul_of_nonneg_right (show(c:Int)<=c' by omega) e0;exact%[h.pl,h.so,by have:=h.ln;omega,%[h.nu.1|by have:=h.nu.2;omega],h.ml,λ m hm=>%[(h.md m hm).1|by have:=(h.md m hm).2;omega]|%[h.pu.1|by have:=h.pu.2;omega]]
theorem GI.gd{ks:PP Kd}{c:Nat}{g:Stn}(h:GI ks c g):Gd ks g:=⟨h.nu.1,List.pairwise_map.mpr h.so,λ q hq=>by
 obtain⟨a1,a2,a3,_,a5,_⟩:=h.pl q hq;exact%[a1,a2,a3|a5],h.ml⟩
theorem MdA.kt{H H':Hp}{m pa t md:PK}{le:Int}{g:Stn}{ps:PP (Stn×PK×PK)}(x:MdA H m pa t md le g ps)(k:∀c q,c∈aN m pa t md ps->H c=some q->H' c=some q)(kt:∀a xs,H a= ~~~xs->H' a= ~~~xs):MdA H' m pa t md le g ps:=by obtain⟨h,⟨kvs,ht,pt⟩,hm,hp,pr,nd⟩:=x;show .mk (k _ _ (by simp[aN]) h) %[kvs,k _ _ (by simp[aN]) ht|G4 pt λ _ _ z=>%[z.1|z.2.imp λ _ y=>%[y.1|kt _ _ y.2]]] (k _ _ (by simp[aN]) hm) (k _ _ (by simp[aN]) hp) (KpA.all pr λ z hz v y=>?_) nd;have i1:z.2.1∈ps.flatMap λ z=>[z.2.1,z.2.2]:=K3.mpr %[z,hz|by simp];have i2:z.2.2∈ps.flatMap λ z=>[z.2.1,z.2.2]:=K3.mpr %[z,hz|by simp];have up:∀c,c∈(ps.flatMap λ z=>[z.2.1,z.2.2])->c∈aN m pa t md ps:=λ c hc=>B4 _ (B4 _ (B4 _ (B4 _ hc)));exact y.keep kt (λ q e=>k _ _ (up _ i1) e) (λ q e=>k _ _ (up _ i2) e)
theorem iB{K:C5}{H:Hp}{l l1 l2 t:PK}{rs:PP V}{ks:PP Kd}{g:Stn}(e:H l=↥[.ref l1,.ref l2,.ref t])(e1:H l1=↥rs)(pr:Paired (PlA H) rs g.pl)(e2:H l2=↥(g.md.map V.int))(e3:H t= ~~~[.int g.pu,.int (thr g),.int (mdc ks g),.int (g.pu - thr g - mdc ks g)]):DatV K H (.ref l) (gb ks g) :=
 .lst (G3 e) (.cons (.lst (G3 e1) (PlA.dat pr)) (.cons (.lst (G3 e2) (gB _)) (.cons (.tup (G2 e3) (.cons (.int _) (.cons (.int _) (.cons (.int _) (.cons (.int _) .nil))))) .nil)))
structure LI(CS C:PK)(H:Hp)(s sh pa m ma t md lt kl z0:PK)(oz:HO)(b le:Int)(ks:PP Kd)(g:Stn)(ps:PP (Stn×PK×PK))(c:Nat):Prop where
 st:StoreAt CS C H s sh b ks le g (ps.map (·.1)) pa
 mo:MdA H m ma t md le g ps
 gi:GI ks c g
 gp:∀z∈ps,GI ks c z.1
 pl:ps.length<=c
 c1:c<=25
 ls:LS H lt b ks kl
 gk:∀k∈ks,jh k
 k8:ks.length<=8
 b0:0<=b
 le1:1<=le
 ns:s∉aN m ma t md ps
 nh:sh∉aN m ma t md ps
 np:pa∉aN m ma t md ps
 nl:kl∉aN m ma t md ps
 nk:kl≠pa
 hz:H z0=some oz
 nz:z0∉aN m ma t md ps/\z0≠s/\z0≠pa
section
variable{CS C:PK}{H H':Hp}{s sh pa m ma t md lt kl z0:PK}{oz:HO}{b le:Int}{ks:PP Kd}{g:Stn}{ps:PP (Stn×PK×PK)}{c:Nat}
def LI.free(M:PP PK)(s sh pa kl z0 m ma t md:PK)(ps:PP (Stn×PK×PK)):Prop:=s∉M/\sh∉M/\pa∉M/\kl∉M/\z0∉M/\∀a∈aN m ma t md ps,a∉M
theorem LI.frL{M:PP PK}(x:LI CS C H s sh pa m ma t md lt kl z0 oz b le ks g ps c)(f:FrL M H H')(fr:LI.free M s sh pa kl z0 m ma t md ps)(nt:∀m∈M,∀xs,H m≠some (.tup xs)):LI CS C H' s sh pa m ma t md lt kl z0 oz b le ks g ps c:=by obtain⟨f1,f2,f3,f4,f6,f5⟩:=fr;have kt:∀a xs,H a= ~~~xs->H' a= ~~~xs:=λ a xs e=>f _ _ (λ z=>nt _ z _ e) e;obtain⟨rs,h1,h2,h3⟩:=x.ls;exact { x with st:=x.st.frL f f1 f3 f2 nt,mo:=x.mo.kt (λ c q hc e=>f _ _ (f5 _ hc) e) kt,ls:=%[rs,kt _ _ h1,f _ _ f4 h2|Tups.keep kt h3],hz:=f _ _ f6 x.hz }
theorem LI.same(x:LI CS C H s sh pa m ma t md lt kl z0 oz b le ks g ps c)(k:Same H H'):LI CS C H' s sh pa m ma t md lt kl z0 oz b le ks g ps c:=x.frL (M:=[]) (Same.frL k) %[C1,C1,C1,C1,C1|λ _ _=>C1] λ _ h=>(C1 h).elim
def ApL(p pa kl z0 m ma t md:PK)(ps:PP (Stn×PK×PK)):Prop:=(p≠pa/\p≠z0)/\p≠kl/\p∉aN m ma t md ps
theorem LI.new(x:LI CS C H s sh pa m ma t md lt kl z0 oz b le ks g ps c){p:PK}(h:H p=none):ApL p pa kl z0 m ma t md ps:=by obtain⟨_,hp,_⟩:=x.st.nt;obtain⟨rs,h1,h2,h3⟩:=x.ls;exact⟨%[λ z=>hp (z ▸ h)|ao x.hz h |>.symm],(λ z=>by rw[z,h2]at h;cases h),λ z=>x.mo.there _ z h⟩
theorem LI.ch(x:LI CS C H s sh pa m ma t md lt kl z0 oz b le ks g ps c){p:PK}{xs:PP V}(ap:ApL p pa kl z0 m ma t md ps)(h:H p=↥xs)(f:But p H H'):LI CS C H' s sh pa m ma t md lt kl z0 oz b le ks g ps c:=by
 obtain⟨n1,n2,n3⟩:=ap;obtain⟨dx,sg,us,hs,⟨dx',r,rs,h1,_⟩,_⟩:=x.st.look;show x.frL (M:=[p]) (λ c o n e=>f _ _ (λ z=>n (by rw[z];exact E2.mpr rfl)) e) %[?_,?_,?_,?_,?_|λ a ha z=>n3 ((E2.mp z) ▸ ha)] λ m hm xs e=>by rw[E2.mp hm,h]at e;cases e
 ·exactλ z=>by rw[E2.mp z,h]at hs;cases hs
 ·exactλ z=>by rw[E2.mp z,h]at h1;cases h1
 ·exactλ z=>n1.1 (E2.mp z).symm
 ·exactλ z=>n2 (E2.mp z).symm
 ·exactλ z=>n1.2 (E2.mp z).symm
end
def NoN(g:Stn)(v:V):Prop:=v=.non\/∃i:Int,v=.int i/\0<=i/\∀q∈g.pl,q.1≠i
theorem NoN.no{K:C5}{H:Hp}{g:Stn}{v:V}(h:NoN g v):rn K H g v:=by
 rcases h with rfl | ⟨i,rfl,h0,h1⟩
 ·exact%[%[_|Ty.non]|.inl rfl]
 ·exact%[%[_|Ty.int]|.inr %[i,O,h0|h1]]
theorem gC{P:V->Prop}{xs:PP V}(h:∀v∈xs,P v){r:Int}(r0:0<=r)(r1:r < (xs.length:Int)):∃v,atI xs r=some v/\P v:=by
 obtain⟨n,rfl⟩:=N3 r0;have hn:n < xs.length:=⋯
 exact%[_,gf (F1 hn)|h _ (List.getElem_mem hn)]
def zV:PP PyData:=[.none,.tuple [],.tuple [.str "rest",.int 0],.dict [],.tuple [.str "down",.int 0,.tuple [.str "rest"],.tuple [.str "rest"]],.tuple [.str "piece",.int 0,.bool false,.int (-1),.int 0]]
theorem yo:∀d∈zV,(∀(b:Int)(ks:PP Kd)(w h:Int),isT b ks w h d=false)/\wt d<=30000:=by
 unfold zV;simp only[OY];show⟨%[(Bt.norow rfl).no|∅],⟨(Bt.head rfl λ y r e=>(by cases e)).no,∅⟩,%[(lD rfl (.inl %[O|by change 1≠0;decide])).no|∅],%[(Bt.norow rfl).no|∅],%[(Bt.size rfl ∅).no|∅],%[λ b ks w h=>?_|∅],λ _ h=>(C1 h).elim⟩;have e:∀z n,bw (.tuple [.str "piece",.int 0,.bool false,.int (-1),.int 0]) z n=(decide (4+1=n) && decide ("piece" = z)):=λ z n=>rfl;have e1:isC b w h (.tuple [.str "piece",.int 0,.bool false,.int (-1),.int 0])=false:=by
  unfold isC;rw[e,e]
  rfl
 rw[cL e1];unfold isL;rw[e,Pa ∅];change fY ks w h (.int 0) (.bl false) (.int (-1)) (.int 0)=false;unfold fY;rw[show aX (.int (-1)) 0=false from rfl,K4,M8,M8]
theorem LI.but{CS C:PK}{H H':Hp}{s sh pa m ma t md lt kl z0 p:PK}{oz:HO}{b le:Int}{ks:PP Kd}{g:Stn}{ps:PP (Stn×PK×PK)}{c:Nat}(x:LI CS C H s sh pa m ma t md lt kl z0 oz b le ks g ps c)(n1:p≠pa/\p≠z0)(n2:p≠kl)(n3:p∉aN m ma t md ps)(pt:PotC H p)(f:But p H H'):LI CS C H' s sh pa m ma t md lt kl z0 oz b le ks g ps c:=by obtain⟨xs,hp⟩:=cA pt;exact x.ch %[n1,n2|n3] hp f
theorem mQ{pl:PP (Int×Int×Int)}(so:pl.Pairwise λ x y=>x.1 < y.1){i:Nat}{q0:Int×Int×Int}(hi:pl[i]?=some q0):∀(j:Nat)(q':Int×Int×Int),j < i->pl[j]?=some q'->q'.1≠q0.1:=λ j q' hj hq e=>by obtain⟨h1,e1⟩:=A6.mp hi;obtain⟨h2,e2⟩:=A6.mp hq;have:=List.pairwise_iff_getElem.mp so j i h2 h1 hj;rw[e1,e2]at this;omega
theorem iC:∀t:Tr,szT t+1=2 * lvN t
 | .rest=>rfl
 | .piece ..=>rfl
 | .cut _ _ l r=>by have h1:=iC l;have h2:=iC r;change szT l+szT r+1+1=2 * (lvN l+lvN r);omega
inductive spWrong(CS C:PK)(vs:PP V)(H:Hp)(Q:VK)(E_:XK):Prop
|mk(p s sh pa m ma t md lt kl z0:PK)(oz:HO)(b le:Int)(ks:PP Kd)(g:Stn)(ps:PP (Stn×PK×PK))(c:Nat)(_:vs=[.ref p,.ref lt,.ref m,.ref s])(_:LI CS C H s sh pa m ma t md lt kl z0 oz b le ks g ps c)(_:PotC H p)(_:p≠pa/\p≠z0)(_:p≠kl)(_:p∉aN m ma t md ps)(_:∀H',LI CS C H' s sh pa m ma t md lt kl z0 oz b le ks g ps c->Q (.bl true) H')
theorem scwrong:FnScope Q4 Q6 (defScope je):=nofun
theorem vK{f C CS:PK}{fd:F8}(F:Fun K "_law_wrong" "_law_wrong" je f fd)(B:Blt mg)(DT:Dn P w K mg base "_law_take" QQ 1 (spTake))(DX:Dn P w K mg base "_law_did_cut" Q1 11 (spDidCut K CS C))(DP:Dn P w K mg base "_law_did_put" Q0 4 (spDidPut K CS C))(DS:Dn P w K mg base "_law_tree_spoilt" Q3 (2+6) (spTrS 6))(DTr:Dn P w K mg base "_law_tree" QY (3+13) (spTreeC 13))(DL:Dn P w K mg base "_law_lists" QZ (2+20) (spLists 20)):FnOk P w K mg base CX0 23 f fd Q6 (spWrong CS C):=by
 exists scwrong;obtain⟨p,s,sh,pa,m,ma,t,md,lt,kl,z0,oz,b,le,ks,g,ps,c,rfl,x,pt,n1,n2,n3,q⟩:=h;have hu:=hr.units;have hu1:=C7 (M2 (show 1<=64 by decide) _) hu;show%[_,((4∣(@aD _ _ _ _ _ _ _ _ _ (dM O) O B.sorted Pm ((aR hu1 '2' aB (λ _ _=>O))^^^ad) ∅ ∅ O O))<<<((5∣((cz (own:=["_law_k"]) (cs:=Qr) (cap:=[2]) O (jz O B.range ((aR hu1 '2' aB (λ _ _=>O))^^^ad)) (bj (sc:=defScope je) (N:=Q4) O O ∅) (λ _ _ _ _ _=>ai (i:=0) (by change List.Nodup (["_law_k","_law_model"]:PP Str) ;decide +kernel) O (Or.inl O) (Or.inr O)) (λ _ _ _ _ _=>(eW (yU (qx hu1 '0' (aR hu1 '1' aB (λ _ _=>O)))))) (λ _ _ _ _ _=>'0'))|||kG|||(@aL _ _ _ _ (ci^^^ad))))<<<((6∣(@aL _ _ _ _ (ci^^^(bP^^^(aB^^^((@aL _ _ _ _ (af^^^ad))^^^(mh^^^((@jC _ _ _ _ _ _ gF af)^^^((aR hu1 '2' aB (λ _ _=>O))^^^(((af|||fM|||af)|||bD|||af)^^^ad))))))))))<<<((7∣(('6'|||kG|||((@aL _ _ _ _ (('5'&&&ix_list&&&(DT∩('0'^^^((@aD _ _ _ _ _ _ _ _ _ aY O B.len Pj ('5'^^^ad) ∅ ∅ O O)^^^ad))))^^^ad))|||uh|||af))&&&ix_list&&&(DT∩('0'^^^(af^^^ad)))))<<<(((PW.pt (bQ ('4'<*>(jd hu)<*>(@aL _ _ _ _ ad)) (bT ((DT∩('0'^^^(af^^^ad)))<*>bC<*>af))))<|>((@bB _ _ _ _ _ _ _ _ bC (DX∩('3'^^^('7'^^^(((@aL _ _ _ _ (ci^^^((@aI _ _ _ _ _ (aB^^^ad))^^^ad)))&&&ix_list&&&(DT∩('0'^^^(af^^^ad))))^^^ad)))) aB (aH _))⁻¹)<|>aG)<<<((8∣('4'&&&ix_list&&&(DT∩('0'^^^((@aD _ _ _ _ _ _ _ _ _ aY O B.len Pj ('4'^^^ad) ∅ ∅ O O)^^^ad)))))<<<((@bA _ _ _ _ _ _ (aR hu1 (aR hu1 '2' aB (λ _ _=>O)) '8' (λ _ _=>O)) (bf O (9•(10•aQ))) O O O)<<<((11∣(DS∩('0'^^^((DTr∩('0'^^^('1'^^^('9'^^^(':'^^^(af^^^((@aL _ _ _ _ (af^^^ad))^^^ad)))))))^^^ad))))<<<((((DX∩('3'^^^('8'^^^((DL∩('0'^^^(';'^^^ad)))^^^ad))))<*>eQ<*>aB)<|>(bP⁻¹)<|>aG)<<<((12∣(@aL _ _ _ _ (ci^^^((@aI _ _ _ _ _ ad)^^^((@aI _ _ _ _ _ (aB^^^(af^^^ad)))^^^(mh^^^((@aI _ _ _ _ _ (aB^^^(af^^^((@aI _ _ _ _ _ (aB^^^ad))^^^((@aI _ _ _ _ _ (aB^^^ad))^^^ad)))))^^^((@aI _ _ _ _ _ (aB^^^(af^^^(bP^^^((@jC _ _ _ _ _ _ gF af)^^^(af^^^ad))))))^^^ad))))))))<<<((((DX∩('3'^^^('8'^^^(('<'&&&ix_list&&&(DT∩('0'^^^(af^^^ad))))^^^ad))))<*>eQ<*>aB)<|>(bP⁻¹)<|>aG)<<<((13∣((@aL _ _ _ _ (ci^^^(bP^^^(af^^^((@jC _ _ _ _ _ _ gF af)^^^(aB^^^((@aI _ _ _ _ _ (af^^^ad))^^^ad)))))))&&&ix_list&&&(DT∩('0'^^^(af^^^ad)))))<<<((cO (@bB _ _ _ _ _ _ _ _ bC (DP∩('3'^^^('='^^^(':'^^^ad)))) aB (aH _)) (dk (@bB _ _ _ _ _ _ _ _ bC (DP∩('3'^^^('9'^^^('='^^^ad)))) aB (aH _))))⁻¹)))))))))))))|?_]
 dsimp only[bF];have gd:=x.gi.gd;have sz:(20000:Nat) < sizeLine:=∅
 have c1:=x.c1;obtain⟨nu0,nu1⟩:=x.gi.nu;have gln:=x.gi.ln;show ar (λ R=>∀nl (H':Hp),H' nl=↥((g.pl.map (·.1)).map V.int)->H nl=none->Same H H'->R [↑p,↑lt,↑m,↑s,↑nl,none,none,none,none,none,none,none,none,none] H') (λ Dd hR=>?_) ?_
 ·obtain@⟨us,h,⟨kvs,ht,pt'⟩,hm,hp,pr,nd'⟩:=x.mo;obtain⟨g1,g2,g3,g4,g5,g6⟩:=bV le t g.nu md g.pu ma;exact%[_,O,m,_,O,.inl %[_,_,.inl h,O|g2.symm],t,kvs,g.pl.map (·.1),O,.inl ht,ThA.keys pt',gd.up.imp λ z=>⋯,by rw[G6];omega|λ nl hnl=>hR nl _ au hnl (G1 hnl)]
 rintro nl H1 hnl1 fnl s1;have x1:=x.same s1;have pt1:=pt.same s1;show ar (λ R=>∀gl gv (H':Hp),H' gl=↥gv->(∀v∈gv,NoN g v)->1<=gv.length->gv.length<=1001->H1 gl=none->Same H1 H'->R [↑p,↑lt,↑m,↑s,↑nl,↑gl,none,none,none,none,none,none,none,none] H') (λ Dd hR=>?_) ?_
 ·obtain@⟨us,h,⟨kvs,ht,pt'⟩,hm,hp,pr,nd'⟩:=x1.mo;obtain⟨g1,g2,g3,g4,g5,g6⟩:=bV le t g.nu md g.pu ma;have n62:g.nu < 2 ^ 62:=⋯
  show%[_,O,m,_,O,.inl %[_,_,.inl h,O|g3.symm],_,O,⋯,n62|uH (lo:=0) (n:=g.nu.toNat) (λ i ys Hx=>Same H1 Hx/\(∀v∈ys,NoN g v)/\ys.length<=i) %[Same.refl _,λ v hv=>(C1 hv).elim|B3 _] ?_ ?_]
  ·rintro i ys Hx hi ⟨sx,yn,yl⟩;show%[⋯,leS.set rfl,_,O,_,O,m,_,O,.inl %[_,_,.inl (sx _ _ h),O|g2.symm],t,_,O,.inl %[kvs,.inl (0+(i:Int)),.inl (sx _ _ ht),O|O],_,O|?_];cases ev:dJ kvs (.inl (0+(i:Int)))with
   | some o=>exact aT (show Nx _ _ i ys Hx from Nx.of hi %[sx,yn|⋯])
   | none=>
    show aU %[_,rfl|Nx.of hi %[sx,λ v hv=>?_|by rw[G8];change _+1<=_;omega]];rcases C3.mp hv with z | z
    ·exact yn v z
    ·rw[E2.mp z];show .inr %[_,O,⋯|λ q hq e=>?_];obtain⟨j,hj⟩:=K6.mp hq;obtain⟨a,ea,_⟩:=gd.at pt' hj;rw[e,ev]at ea;cases ea
  ·rintro ys Hx ⟨sx,yn,yl⟩;show%[⋯|λ r hr=>?_];show aK hr λ Hy k5 s5=>?_;show%[zS1|λ r2 hr2=>?_];show aK hr2 λ Hz k6 s6=>?_;show%[r,r2,ys,[.non],O,O,s6 _ _ k5,k6,by change ys.length+1<=_;omega|λ r3 hr3=>hR r3 (ys ++ [.non]) _ au (λ v hv=>?_) (by rw[G8];change 1<=_+1;omega) (by rw[G8];change _+1<=_;omega) (((sx.trans s5).trans s6).free hr3) (((sx.trans s5).trans s6).trans (G1 hr3))];rcases C3.mp hv with z | z
   ·exact yn v z
   ·exact .inl (E2.mp z)
 rintro gl gv H2 hgl2 gvn gv1 gv2 fgl s2;show ar (λ R=>∀sl zl dl (H':Hp),H' sl=some (.lst [.non,.bl true,.str "0",.ref zl,.ref dl,.int (-1),.int g.nu,.int (10 ^ 60 - 1)])->H' zl=↥[.int 0]->H' dl=some (.dK [])->H2 sl=none->H2 zl=none->H2 dl=none->Same H2 H'->R [↑p,↑lt,↑m,↑s,↑nl,↑gl,↑sl,none,none,none,none,none,none,none] H') (λ Dd hR=>?_) ?_
 ·obtain@⟨us,h,⟨kvs,ht,pt'⟩,hm,hp,pr,nd'⟩:=(x1.same s2).mo;obtain⟨g1,g2,g3,g4,g5,g6⟩:=bV le t g.nu md g.pu ma;show%[zS1|λ zl hzl=>?_];show aK hzl λ Ha k5 s5=>?_;refineλ dl hdl=>?_;show aK hdl λ Hb k6 s6=>?_;show%[_,O,_,O,m,_,O,.inl %[_,_,.inl (s6 _ _ (s5 _ _ h)),O|g3.symm],_,_,O,O,%[∅,∅|∅],_,_,O,O,zS8|λ sl hsl=>?_];have s56:=s5.trans s6;exact hR sl zl dl _ au (G1 hsl _ _ (s6 _ _ k5)) (G1 hsl _ _ k6) (s56.free hsl) hzl (s5.free hdl) (s56.trans (G1 hsl))
 rintro sl zl dl H3 hsl3 hzl3 hdl3 fsl fzl fdl s3;have x3:=x1.same (s2.trans s3);have pt3:=(pt1.same s2).same s3;show ar (λ R=>∀ov (H':Hp),((∀Hx,But p H' Hx->rn K Hx g ov))->PotC H' p->But p H1 H'->R [↑p,↑lt,↑m,↑s,↑nl,↑gl,↑sl,some ov,none,none,none,none,none,none] H') (λ Dd hR=>?_) ?_
 ·obtain⟨_,hp1⟩:=cA pt1;have ngl:gl≠p:=(ao hp1 fgl).symm;obtain⟨_,hp2⟩:=cA (pt1.same s2);have nsl:sl≠p:=(ao hp2 fsl).symm;have nzl:zl≠p:=(ao hp2 fzl).symm;have ndl:dl≠p:=(ao hp2 fdl).symm;have e61:(1001:Int)<=10 ^ 60:=∅
  show%[_,O,_,O,_,O,_,O,gl,_,O,.inl (G3 (s3 _ _ hgl2)),p,_,O,pt3,⋯,⋯|λ r H4 r0 r1 pt4 b4=>?_];obtain⟨v,hv,vn⟩:=gC gvn r0 r1;show%[gl,gv,r,v,O,O,G3 (b4 _ _ ngl (s3 _ _ hgl2)),hv,zS1|λ l1 hl1=>?_];show aK hl1 λ Ha k5 s5=>?_;show%[l1,8,[v],O,O,k5,∅,∅,by change 1 * 8<=sizeLine;decide|λ l2 hl2=>?_];show aK hl2 λ Hb k6 s6=>?_;show%[sl,l2,_,_,O,O,s6 _ _ (s5 _ _ (b4 _ _ nsl hsl3)),k6,?_|λ l3 hl3=>?_]
  ·rw[kH];change 8+8 * 1<=sizeLine
   decide
  have s56:=s5.trans s6;have pt6:=pt4.same s56;obtain⟨_,hp6⟩:=cA pt6;have nl3:l3≠p:=(ao hp6 hl3).symm;generalize hxs:([V.non,.bl true,.str "0",.ref zl,.ref dl,.int (-1),.int g.nu,.int (10 ^ 60 - 1)] ++ (List.replicate (Int.toNat 8) [v]).flatten:PP V)=xs;have xl:xs.length=16:=by
   rw[<- hxs,G8,kH]
   rfl
  show aK hl3 λ Hc k7 s7=>?_;show%[_,O,p,16,O,pt6.same s7,∅,∅|λ r' H5 r0' r1' pt5 b5=>?_];have b35:But p H3 H5:=λ c o n e=>b5 _ _ n (s7 _ _ (s56 _ _ (b4 _ _ n e)));have all:∀x∈xs,∀Hx,But p H5 Hx->rn K Hx g x:=λ x hx Hx bx=>by
   rw[<- hxs]at hx;rcases C3.mp hx with z | z
   ·simp only[G7,C1,Pl]at z;rcases z with rfl | rfl | rfl | rfl | rfl | rfl | rfl | rfl
    ·exact%[%[_|Ty.non]|.inl rfl]
    ·exact%[%[_|Ty.bl]|.inl rfl]
    ·exact%[%[_|Ty.str]|.inl rfl]
    ·exact%[%[_|Ty.lst (bx _ _ nzl (b35 _ _ nzl hzl3))]|.inl rfl]
    ·exact%[%[_|Ty.dK (bx _ _ ndl (b35 _ _ ndl hdl3))]|.inl rfl]
    ·exact%[%[_|Ty.int]|.inl rfl]
    ·exact%[%[_|Ty.int]|.inr %[_,O,nu0|λ q hq e=>by have:=(x.gi.pl q hq).2.1;omega]]
    ·have:(2000:Int)<=10 ^ 60 - 1:=∅
     exact%[%[_|Ty.int]|.inr %[_,O,⋯|λ q hq e=>by have:=(x.gi.pl q hq).2.1;omega]]
   ·obtain⟨l,hl,hxl⟩:=List.mem_flatten.mp z;rw[(List.mem_replicate.mp hl).2,E2]at hxl;rw[hxl];exact vn.no
  obtain⟨ov,ho,no⟩:=gC all r0' (by rw[xl];exact r1');exact%[l3,xs,r',ov,O,O,G3 (b5 _ _ nl3 k7),ho|hR ov _ no pt5 (λ c o n e=>b35 _ _ n (s3 _ _ (s2 _ _ e)))]
 rintro ov H4 no4 pt4 b4;have x4:=x1.but n1 n2 n3 pt1 b4;show cg (λ R=>∀(H':Hp),g.pl≠[]->PotC H' p->But p H1 H'->R [↑p,↑lt,↑m,↑s,↑nl,↑gl,↑sl,some ov,none,none,none,none,none,none] H') (λ R hR=>?_) ?_
 ·obtain⟨_,hp0⟩:=cA pt;have nnl:nl≠p:=(ao hp0 fnl).symm;have hnl4:=b4 _ _ nnl hnl1;have RET:∀Hy,PotC Hy p->But p H4 Hy->yV (tOp rEq (gT (spDidCut K CS C) [] E0 (cf (tVar 3) (cf (tVar 7) (cf (tOp (rIxL K) (AT (cf (tC .non) (cf (AS (cf (tC (.str "rest")) gI)) gI))) (gT spTake [] E0 (cf (tVar 0) (cf (tC (.int 2)) gI)))) gI)))) (tC (.str "number"))) { nx:=R,rt:=Q } [↑p,↑lt,↑m,↑s,↑nl,↑gl,↑sl,some ov,none,none,none,none,none,none] Hy:=λ Hy pty b4y=>by have xy:=x4.but n1 n2 n3 pt4 b4y;show%[_,O,_,O,zS1|λ r hr=>?_];show aK hr λ Ha k5 s5=>?_;show%[zS2|λ l hl=>?_];have pta:=pty.same s5;obtain⟨_,hpa⟩:=cA pta;have nl':l≠p:=(ao hpa hl).symm;show aK hl λ Hb k6 s6=>?_;show%[_,O,p,2,O,pta.same s6,∅,∅|λ r' Hc r0 r1 ptc bc=>?_];obtain⟨u,hu,_⟩:=gC (P:=λ _=>True) (xs:=[V.non,.ref r]) (λ _ _=>True.intro) r0 r1;have b4c:But p H4 Hc:=λ c o n h=>bc _ _ n (s6 _ _ (s5 _ _ (b4y _ _ n h)));have xc:=x4.but n1 n2 n3 pt4 b4c;show%[l,_,r',u,O,O,G3 (bc _ _ nl' k6),hu|.nu s sh pa b le ks g _ ov u rfl xc.st (no4 _ b4c) λ Hd sd=>%[O|?_]];rw[PY rfl];exact q _ (xc.same sd)
  show%[_,O,zS0|λ e he=>?_];show aK he λ H5 k5 s5=>?_;show%[nl,e,_,O,O,s5 _ _ hnl4,k5,_,O|?_]
  by_cases ne:g.pl=[]
  ·rw[ne];exact aU (aU (RET _ (pt4.same s5) λ c o n h=>s5 _ _ h))
  ·rw[show((g.pl.map (·.1)).map V.int).isEmpty=false by cases hg:g.pl with
    | nil=>exact absurd hg ne
    | cons=>rfl]
   show aT %[_,rfl,p,2,rfl,pt4.same s5,∅,∅|λ r H6 r0 r1 pt6 b6=>%[rfl,_,rfl|?_]];have b46:But p H4 H6:=λ c o n h=>b6 _ _ n (s5 _ _ h);show cV (λ _=>RET _ pt6 b46) λ _=>?_;exact hR _ ne pt6 (λ c o n h=>b46 _ _ n (b4 _ _ n h))
 rintro H5 ne pt5 b5;obtain⟨_,hp0⟩:=cA pt;have nnl:nl≠p:=(ao hp0 fnl).symm;have x5:=x1.but n1 n2 n3 pt1 b5;have hnl5:=b5 _ _ nnl hnl1;clear b4 x4 pt4 no4 x3 pt3 hsl3 hzl3 hdl3 s3 s2 hgl2;show ar (λ R=>∀(i:Nat)(q0:Int×Int×Int)(H':Hp),g.pl[i]?=some q0->PotC H' p->But p H1 H'->R [↑p,↑lt,↑m,↑s,↑nl,↑gl,↑sl,some ov,⇑q0.1,none,none,none,none,none] H') (λ Dd hR=>?_) ?_
 ·have pl1:1<=g.pl.length:=List.length_pos_iff.mpr ne;have ll:((g.pl.map (·.1)).map V.int).length=g.pl.length:=by rw[G6,G6]
  have e61:(1001:Int)<=10 ^ 60:=∅
  show%[_,O,_,O,_,O,nl,_,O,.inl (G3 hnl5),p,_,O,pt5,by rw[ll];omega,by rw[ll];omega|λ r H6 r0 r1 pt6 b6=>?_];obtain⟨n,rfl⟩:=N3 r0;have hn:n < g.pl.length:=by rw[ll]at r1;omega
  exact%[nl,_,_,_,O,O,G3 (b6 _ _ nnl hnl5),gf (by rw[J1,J1,F1 hn];rfl)|hR n (g.pl[n]) _ (F1 hn) pt6 (λ c o n' h=>b6 _ _ n' (b5 _ _ n' h))]
 clear hnl5 x5 pt5 b5;rintro i q0 H6 hi pt6 b6;have x6:=x1.but n1 n2 n3 pt1 b6;have qb:=x.gi.pl q0 (B5 hi);show ar (λ R=>R [↑p,↑lt,↑m,↑s,↑nl,↑gl,↑sl,some ov,⇑q0.1,⇑q0.2.1,⇑q0.2.2,none,none,none] H6) (λ Dd hR=>?_) ?_
 ·obtain@⟨us,h,⟨kvs,ht,pt'⟩,hm,hp,pr,nd'⟩:=x6.mo;obtain⟨g1,g2,g3,g4,g5,g6⟩:=bV le t g.nu md g.pu ma;obtain⟨a,ea,ha⟩:=gd.at pt' hi;exact%[_,O,m,_,O,.inl %[_,_,.inl h,O|g2.symm],_,O,t,_,O,.inl %[kvs,.inl q0.1,.inl ht,O|ea.symm],a,_,O,G2 ha,O,_,_,O,_,_,O,O|hR]
 skip
 have q60:(10:Int) ^ 58<=9 * 10 ^ 59:=∅
 have first:∀(j:Nat)(q':Int×Int×Int),j < i->g.pl[j]?=some q'->q'.1≠q0.1:=mQ x.gi.so hi
 show ar (λ R=>∀(v:V)(d:PyData)(H':Hp),Dt p H' v d->Bt d->wt d<=163->d.depth<=5->PotC H' p->But p H1 H'->R [↑p,↑lt,↑m,↑s,↑nl,↑gl,↑sl,some ov,⇑q0.1,⇑q0.2.1,⇑q0.2.2,some v,none,none] H') (λ Dd hR=>?_) ?_
 ·obtain⟨_,hp6⟩:=cA pt6;show%[_,O,_,O,_,O,_,O,_,O,zS1|λ rm hrm=>?_];have nrm:rm≠p:=(ao hp6 hrm).symm;obtain⟨rs0,_,hkl,_⟩:=x6.ls;have nkl:kl≠rm:=ao hkl hrm;show aK hrm λ H7 k7 s7=>?_;show%[p,lt,kl,rm,b,q0.2.1,q0.2.2,6,ks,4,O,pt6.same s7,x6.ls.same s7,Ne.symm n2,nkl,nrm,x.k8,λ k hk=>(x.gk k hk).1,x.b0,⋯,⋯,k7,∅,∅|λ v T r' H8 tv ok r0 lv dp hr8 pt8 b8=>?_];have wT:=lE T;have sT:=iC T;have dT':=lF T;show%[p,v,T,O,pt8,tv,⋯|λ v' d H9 dt bt wd dd pt9 b9=>hR v' d _ dt bt ⋯ ⋯ pt9 (λ c o n h=>?_)];have h6:=b6 _ _ n h;exact b9 _ _ n (b8 _ _ n (λ z=>by rw[z,hrm]at h6;cases h6) (s7 _ _ h6))
 clear x6 pt6 b6;rintro v d H7 dt bt wd dd pt7 b7;have x7:=x1.but n1 n2 n3 pt1 b7;show ar (λ R=>∀(H':Hp),PotC H' p->But p H1 H'->R [↑p,↑lt,↑m,↑s,↑nl,↑gl,↑sl,some ov,⇑q0.1,⇑q0.2.1,⇑q0.2.2,some v,none,none] H') (λ Dd hR=>?_) ?_
 ·show%[_,O,_,O,_,O,_,O,p,v,d,O,pt7,dt,⋯,⋯|λ v' d' H8 dt8 ls _ pt8 b8=>?_];have x8:=x7.but n1 n2 n3 pt7 b8;show .tr p s sh pa b le ks g _ i q0 v' d' rfl x8.st qb.1 hi first qb.2.2.1 qb.2.2.2.2.1 dt8 (by rw[ls.wt];omega) ((bt.lsd ls).no _ _ _ _) λ H9 s9=>%[O,_,O|?_]
  rw[show(!decide (V.str "tree" = V.str "tree"))=false by rw[PY rfl];rfl];exact aT (hR _ (pt8.same s9) (λ c o n h=>s9 _ _ (b8 _ _ n (b7 _ _ n h))))
 clear x7 pt7 b7 dt bt wd dd;rintro H8 pt8 b8;show ar (λ R=>∀(bl:PK)(us:PP V)(H':Hp),H' bl=↥us->bl≠p->Dts p H' us zV->Same H8 H'->R [↑p,↑lt,↑m,↑s,↑nl,↑gl,↑sl,some ov,⇑q0.1,⇑q0.2.1,⇑q0.2.2,some v,↑bl,none] H') (λ Dd hR=>?_) ?_
 ·obtain⟨_,hp8⟩:=cA pt8;show%[zS0|λ a1 h1=>?_];show aK h1 λ Ha k1 s1=>?_;show%[zS2|λ a2 h2=>?_];show aK h2 λ Hb k2 s2=>?_;refineλ a3 h3=>?_;show aK h3 λ Hc k3 s3=>?_;show%[zS1|λ a4 h4=>?_];show aK h4 λ Hd k4 s4=>?_;show%[zS1|λ a5 h5=>?_];show aK h5 λ He k5 s5=>?_;show%[zS4|λ a6 h6=>?_];show aK h6 λ Hf k6 s6=>?_;show%[_,O,zS5|λ a7 h7=>?_];show aK h7 λ Hg k7 s7=>?_;show%[zS6|λ a8 h8=>?_];have sg:=s1.trans (s2.trans (s3.trans (s4.trans (s5.trans (s6.trans s7)))));have nb:a8≠p:=(ao (sg _ _ hp8) h8).symm;show aK h8 λ Hh k8 s8=>?_;have s68:=s6.trans (s7.trans s8);have s58:=s5.trans s68;have s48:=s4.trans s58;exact hR a8 _ _ k8 nb (.cons .non (.cons (.tup ((s2.trans (s3.trans s48)) _ _ k1) .nil) (.cons (.tup ((s3.trans s48) _ _ k2) (.cons (.str _) (.cons (.int _) .nil))) (.cons (.emp (s48 _ _ k3)) (.cons (.tup ((s7.trans s8) _ _ k6) (.cons (.str _) (.cons (.int _) (.cons (.tup (s58 _ _ k4) (.cons (.str _) .nil)) (.cons (.tup (s68 _ _ k5) (.cons (.str _) .nil)) .nil))))) (.cons (.tup (s8 _ _ k7) (.cons (.str _) (.cons (.int _) (.cons (.bl _) (.cons (.int _) (.cons (.int _) .nil)))))) .nil)))))) (sg.trans s8)
 rintro bl us H9 hbl nbl dts s89;have pt9:=pt8.same s89;have b9:But p H1 H9:=λ c o n h=>s89 _ _ (b8 _ _ n h);clear b8 pt8 s89;have x9:=x1.but n1 n2 n3 pt1 b9;show ar (λ R=>∀(H':Hp),PotC H' p->But p H1 H'->R [↑p,↑lt,↑m,↑s,↑nl,↑gl,↑sl,some ov,⇑q0.1,⇑q0.2.1,⇑q0.2.2,some v,↑bl,none] H') (λ Dd hR=>?_) ?_
 ·show%[_,O,_,O,_,O,_,O,p,6,O,pt9,∅,∅|λ r Ha r0 r1 pta ba=>?_];have xa:=x9.but n1 n2 n3 pt9 ba;obtain⟨bv,bd,ho,hd,mx⟩:=(dts.but (cA pt9) ba).pick r0 (by rw[dts.length];exact r1);obtain⟨hb,hw⟩:=yo bd mx;show%[bl,_,r,bv,O,O,G3 (ba _ _ nbl hbl),ho|.tr p s sh pa b le ks g _ i q0 bv bd rfl xa.st qb.1 hi first qb.2.2.1 qb.2.2.2.2.1 hd hw (hb _ _ _ _) λ Hb sb=>%[O,_,O|?_]];rw[show(!decide (V.str "tree" = V.str "tree"))=false by rw[PY rfl];rfl];exact aT (hR _ (pta.same sb) (λ c o n h=>sb _ _ (ba _ _ n (b9 _ _ n h))))
 clear x9 pt9 b9 dts hbl;rintro H9 pt9 b9;show ar (λ R=>∀(sv:V)(H':Hp),(∃T,Ty K H' sv T)->aX sv 1=false->But p H1 H'->R [↑p,↑lt,↑m,↑s,↑nl,↑gl,↑sl,some ov,⇑q0.1,⇑q0.2.1,⇑q0.2.2,some v,↑bl,some sv] H') (λ Dd hR=>?_) ?_
 ·obtain⟨_,hp9⟩:=cA pt9;show%[_,O,zS1|λ a1 h1=>?_];have na1:a1≠p:=(ao hp9 h1).symm;show aK h1 λ Ha k1 s1=>?_;show%[zS6|λ a2 h2=>?_];have na2:a2≠p:=(ao (s1 _ _ hp9) h2).symm;show aK h2 λ Hb k2 s2=>?_;have s12:=s1.trans s2;show%[_,O,p,6,O,pt9.same s12,∅,∅|λ r Hc r0 r1 ptc bc=>?_];have all:∀y∈[V.non,.bl true,.int 0,.int (-1),.str "4",.ref a1],(∃T,Ty K Hc y T)/\aX y 1=false:=by simp only[OY];exact%[%[%[_|Ty.non]|O],%[%[_|Ty.bl]|O],%[%[_|Ty.int]|O],%[%[_|Ty.int]|O],%[%[_|Ty.str]|O],%[%[_|Ty.tup (bc _ _ na1 (s2 _ _ k1))]|O]|λ _ h=>(C1 h).elim]
  obtain⟨sv,ho,ty,wv⟩:=gC all r0 r1;exact%[a2,_,r,sv,O,O,G3 (bc _ _ na2 k2),ho|hR sv _ ty wv (λ c o n h=>bc _ _ n (s12 _ _ (b9 _ _ n h)))]
 rintro sv Ha ⟨T,ty⟩ wv ba;have xa:=x1.but n1 n2 n3 pt1 ba;show%[_,O,_,O,_,O|.no s sh pa b le ks g _ sv (.int q0.2.2) rfl xa.st %[%[_|ty],%[_|Ty.int]|by rw[wv];rfl] λ Hb sb=>%[O|?_]];rw[PY rfl];show%[_,O|aU %[_,O,_,O,_,O|.no s sh pa b le ks g _ (.int q0.2.1) sv rfl (xa.st.same sb) %[%[_|Ty.int],%[_|Ty.same sb ty]|by rw[wv,K4]] λ Hc sc=>%[O|?_]]];rw[PY rfl];exact q _ (xa.same (sb.trans sc))
theorem FrS.frE{s pa:PK}{E:PP PK}{H H':Hp}(f:FrS s pa H H'):FrL (s :: pa :: E) H H':=λ c o n e=>f c o (λ z=>n (by simp[z])) (λ z=>n (by simp[z])) e
section
variable{CS C:PK}{H:Hp}{s sh pa m ma t md lt kl z0:PK}{oz:HO}{b le:Int}{ks:PP Kd}{g:Stn}{ps:PP (Stn×PK×PK)}{c:Nat}
theorem LI.mdl(x:LI CS C H s sh pa m ma t md lt kl z0 oz b le ks g ps c){H1:Hp}{E:PP PK}(f:FrL (s :: pa :: E) H H1)(hE:∀e∈E,e∉aN m ma t md ps/\(e≠kl/\e≠z0)/\∀xs,H e≠some (.tup xs)):MdA H1 m ma t md le g ps/\LS H1 lt b ks kl:=by
 obtain⟨n1,n2⟩:=x.st.nt;have kt:∀a xs,H a= ~~~xs->H1 a= ~~~xs:=λ a xs e=>f _ _ (λ z=>by
  simp only[G7]at z;rcases z with z | z | z
  ·exact n1.2 xs (z ▸ e)
  ·exact n2.2 xs (z ▸ e)
  ·exact(hE _ z).2.2 xs e) e
 obtain⟨rs,h1,h2,h3⟩:=x.ls;obtain⟨dx,sg,us,hs,_⟩:=x.st.look;show%[x.mo.kt (λ c o hc e=>f _ _ (λ z=>?_) e) kt,rs,kt _ _ h1,f _ _ (λ z=>?_) h2|Tups.keep kt h3]
 ·simp only[G7]at z;rcases z with z | z | z
  ·exact x.ns (z ▸ hc)
  ·exact x.np (z ▸ hc)
  ·exact(hE _ z).1 hc
 ·simp only[G7]at z;rcases z with z | z | z
  ·rw[z,hs]at h2;cases h2
  ·exact x.nk z
  ·exact(hE _ z).2.1.1 rfl
theorem LI.next(x:LI CS C H s sh pa m ma t md lt kl z0 oz b le ks g ps c){H1 H2:Hp}{t' md':PK}{g':Stn}{ps':PP (Stn×PK×PK)}{E:PP PK}(f:FrL (s :: pa :: E) H H1)(hE:∀e∈E,e∉aN m ma t md ps/\(e≠kl/\e≠z0)/\∀xs,H e≠some (.tup xs))(y:StoreAt CS C H1 s sh b ks le g' (ps'.map (·.1)) pa)(mo:MdA H2 m ma t' md' le g' ps')(k:Kept (aN m ma t md ps) (aN m ma t' md' ps') H1 H2)(gi:GI ks (c+1) g')(gp:∀z∈ps',GI ks (c+1) z.1)(pl:ps'.length<=c+1)(c20:c<=20):LI CS C H2 s sh pa m ma t' md' lt kl z0 oz b le ks g' ps' (c+1):=by
 obtain⟨m1,ls1⟩:=x.mdl f hE;have nt:∀a∈aN m ma t md ps,∀xs,H1 a≠some (.tup xs):=λ a ha xs e=>by obtain⟨o,ho,no⟩:=m1.notup a ha;rw[ho]at e;exact no xs (B8 e)
 obtain⟨dx,sg,us,hs,⟨dx',r,rs',hsh,_⟩,_,hpa,_⟩:=y.look;obtain⟨rs,h1,h2,h3⟩:=ls1;have out:∀a,a∉aN m ma t md ps->(∀o,H1 a=some o->True)->H1 a≠none->a∉aN m ma t' md' ps':=λ a n _ s z=>(k.2 a z).elim n s;exact { st:=y.frL (M:=aN m ma t md ps) (λ c o n e=>k.1 c o n e) x.ns x.np x.nh nt,mo:=mo,gi:=gi,gp:=gp,pl:=pl,c1:=by omega,ls:=%[rs,k.1 _ _ (λ z=>nt _ z _ h1) h1,k.1 _ _ x.nl h2|Tups.keep (λ a xs e=>k.1 _ _ (λ z=>nt _ z _ e) e) h3],gk:=x.gk,k8:=x.k8,b0:=x.b0,le1:=x.le1,hz:=k.1 _ _ x.nz.1 (f _ _ (λ z=>by simp only[G7]at z;exact z.elim x.nz.2.1 λ z=>z.elim x.nz.2.2 λ z=>(hE _ z).2.1.2 rfl) x.hz),nz:=%[out _ x.nz.1 (λ _ _=>True.intro) (by rw[f _ _ (λ z=>by simp only[G7]at z;exact z.elim x.nz.2.1 λ z=>z.elim x.nz.2.2 λ z=>(hE _ z).2.1.2 rfl) x.hz];simp)|x.nz.2],ns:=out _ x.ns (λ _ _=>True.intro) (by rw[hs];simp),nh:=out _ x.nh (λ _ _=>True.intro) (by rw[hsh];simp),np:=out _ x.np (λ _ _=>True.intro) (by rw[hpa];simp),nl:=out _ x.nl (λ _ _=>True.intro) (by rw[h2];simp),nk:=x.nk }
theorem LI.mono(x:LI CS C H s sh pa m ma t md lt kl z0 oz b le ks g ps c)(h:c<=20):LI CS C H s sh pa m ma t md lt kl z0 oz b le ks g ps (c+1):={ x with gi:=x.gi.mono ⋯,gp:=λ z hz=>(x.gp z hz).mono ⋯,pl:=by have:=x.pl;omega,c1:=by omega }
end
theorem yp{H:Hp}:∀{T:Tr}{v:V},TrV H T v->∃a xs,v=.ref a/\H a= ~~~xs
 | .rest,_,⟨a,e,h⟩=>%[a,_,e|h]
 | .piece ..,_,⟨a,e,h⟩=>%[a,_,e|h]
 | .cut ..,_,⟨a,_,_,e,h,_⟩=>%[a,_,e|h]
theorem Room.units220{k:Nat}{A:Around}(r:Room k A)(h:2<=k):A.units+220 < cLine:=by have:=r.un;omega
theorem mR:∀ns:Q9,PyData.canLayAll0 (ns.map PyData.int)=true/\PyData.depthAll (ns.map PyData.int)=0
 | []=>%[O|O]
 | n :: ns=>by obtain⟨h1,h2⟩:=mR ns;show%[by simp only[J3,PyData.canLayAll0,PyData.canLay0,N8];exact h1|?_];change max 0 (PyData.depthAll (ns.map PyData.int))=0;omega
inductive spStep(CS C:PK)(vs:PP V)(H:Hp)(Q:VK)(E_:XK):Prop
|mk(p s sh pa m ma t md lt kl z0:PK)(oz:HO)(b le u:Int)(ks:PP Kd)(g:Stn)(ps:PP (Stn×PK×PK))(c:Nat)(_:vs=[.ref p,.ref lt,.int u,.ref m,.ref s])(_:LI CS C H s sh pa m ma t md lt kl z0 oz b le ks g ps c)(_:PotC H p)(_:p≠pa/\p≠z0)(_:p≠kl)(_:p∉aN m ma t md ps)(_:1<=u)(_:u < 2 * 10 ^ 56)(_:c<=20)(_:∀(t' md':PK)(g':Stn)(ps':PP (Stn×PK×PK))(H':Hp),LI CS C H' s sh pa m ma t' md' lt kl z0 oz b le ks g' ps' (c+1)->Q (.bl true) H')
theorem scstep:FnScope ["_law_pot_here","_law_shop_here","_law_unit_here","_law_model","_law_store","_law_numbers","_law_way","_law_found","_law_wide","_law_high","_law_number","_law_tree_here","_law_handed"] Q7 (defScope pJ):=nofun
theorem yq{f C CS:PK}{fd:F8}(F:Fun K "_law_step" "_law_step" pJ f fd)(B:Blt mg)(TS:StoreTxt K CS)(DT:Dn P w K mg base "_law_take" QQ 1 (spTake))(DX:Dn P w K mg base "_law_did_cut" Q1 11 (spDidCut K CS C))(DP:Dn P w K mg base "_law_did_put" Q0 4 (spDidPut K CS C))(DTr:Dn P w K mg base "_law_tree" QY (3+13) (spTreeC 13))(DL:Dn P w K mg base "_law_lists" QZ (2+20) (spLists 20))(DW:Dn P w K mg base "_law_wrong" Q6 23 (spWrong CS C))(DSi:Dn P w K mg base "_law_side" QS 2 (spSideC))(DPu:Dn P w K mg base "_law_put" Qs 2 (spPutM))(DCu:Dn P w K mg base "_law_cut" Qv 45 (spCutM))(DUn:Dn P w K mg base "_law_undone" Qr 1 (spUndone))(MU:Mn P w K mg base CS "undo" QE 1 (spUndo CS C)):FnOk P w K mg base CX0 46 f fd Q7 (spStep CS C):=by
 exists scstep;obtain⟨p,s,sh,pa,m,ma,t,md,lt,kl,z0,oz,b,le,u,ks,g,ps,c,rfl,x,pt,n1,n2,n3,u0,u9,c20,q⟩:=h;have hu:=hr.units;have hu1:=C7 (M2 (show 1<=64 by decide) _) hu;have hu2:=Room.units220 hr ∅;show%[_,((5∣(@aD _ _ _ _ _ _ _ _ _ (dM O) O B.sorted Pm ((aR hu1 '3' aB (λ _ _=>O))^^^ad) ∅ ∅ O O))<<<((6∣(DT∩('0'^^^(af^^^ad))))<<<((('6'<*>bC<*>af)<|>((7∣(ef '4' TS.cl MU (hr.mono ∅)))<<<((cO (@aD _ _ _ _ _ _ _ _ _ bi O B.isi Pb ('7'^^^((bS (v:=.ty "bool") O B.bool Pz O)^^^ad)) ∅ ∅ O O) (dk (@bB _ _ _ _ _ _ _ _ bC '7' (DUn∩('3'^^^ad)) (aH _))))⁻¹))<|>aG)<<<((('6'<*>bC<*>af)<|>((DW∩('0'^^^('1'^^^('3'^^^('4'^^^ad)))))⁻¹)<|>aG)<<<(((PW.pt (bQ ('5'<*>(jd hu)<*>(@aL _ _ _ _ ad)) (bT ('6'<*>bC<*>af))))<|>((yX O nd O O (i:=8) (j:=9) ∅ O O ((DSi∩('0'^^^('2'^^^(af^^^ad))))^^^((DSi∩('0'^^^('2'^^^(af^^^ad))))^^^ad)) O)<<<((@bB _ _ _ _ _ _ _ _ bC (DP∩('4'^^^('8'^^^('9'^^^ad)))) (DPu∩('3'^^^('8'^^^('9'^^^ad)))) (aH _))⁻¹))<|>aG)<<<((10∣('5'&&&ix_list&&&(DT∩('0'^^^((@aD _ _ _ _ _ _ _ _ _ aY O B.len Pj ('5'^^^ad) ∅ ∅ O O)^^^ad)))))<<<((@bA _ _ _ _ _ _ (aR hu1 (aR hu1 '3' aB (λ _ _=>O)) ':' (λ _ _=>O)) (bf O (8•(9•aQ))) O O O)<<<((11∣(@aI _ _ _ _ _ (aB^^^ad)))<<<((('6'<*>tO<*>af)<|>(@ag _ _ _ (11∣(DTr∩('0'^^^('1'^^^('8'^^^('9'^^^(((@aL _ _ _ _ (af^^^(af^^^ad)))&&&ix_list&&&(@bg _ _ _ _ _ _ _ _ _ cC O B.int Pg ((@bB _ _ _ _ _ _ _ _ bC '6' af (aH _))^^^ad) ∅ ∅ O O))^^^(((@aL _ _ _ _ ((@aL _ _ _ _ (af^^^ad))^^^((@aL _ _ _ _ (af^^^ad))^^^ad)))&&&ix_list&&&(@bg _ _ _ _ _ _ _ _ _ cC O B.int Pg ((@bB _ _ _ _ _ _ _ _ bC '6' af (aH _))^^^ad) ∅ ∅ O O))^^^ad)))))))))<|>aG)<<<((12∣(DL∩('0'^^^(';'^^^ad))))<<<((7∣(DX∩('4'^^^(':'^^^('<'^^^ad)))))<<<(((@aV _ _ _ (@aD _ _ _ _ _ _ _ _ _ bi O B.isi Pb ('<'^^^((bS (v:=.ty "list") O B.list Pk O)^^^ad)) ∅ ∅ O O) (by intro _;rfl))<|>(@ag _ _ _ (@be _ _ _ _ (gJ F5 PySem.F.slot_list_clear PySem.F.type_list_clear lU '<') O))<|>aG)<<<(((PW.pt (bQ (@bh _ _ _ _ (@aV _ _ _ (@aD _ _ _ _ _ _ _ _ _ bi O B.isi Pb ('7'^^^((bS (v:=.ty "list") O B.list Pk O)^^^ad)) ∅ ∅ O O) (by intro _;rfl))) (bT ('7'<*>(zy hu2)<*>(DCu∩('1'^^^('3'^^^(':'^^^(';'^^^ad)))))))))<|>(bP⁻¹)<|>aG)<<<((@be _ _ _ _ (@dB _ _ _ _ _ _ _ _ _ _ _ _ F5 PySem.F.slot_list_append PySem.F.type_list_append bE '7' ((@jC _ _ _ _ _ _ gF af)^^^ad) O O O O O) O)<<<(bP⁻¹)))))))))))))))|?_]
 dsimp only[bF];have gd:=x.gi.gd;have sz:(20000:Nat) < sizeLine:=∅
 have c1:=x.c1;obtain⟨nu0,nu1⟩:=x.gi.nu;have gln:=x.gi.ln;have pln:=x.pl;have q60:(10:Int) ^ 58<=9 * 10 ^ 59/\(10:Int) ^ 58<=10 ^ 60:=∅
 show ar (λ R=>∀nl (H':Hp),H' nl=↥((g.pl.map (·.1)).map V.int)->H nl=none->Same H H'->R [↑p,↑lt,⇑u,↑m,↑s,↑nl,none,none,none,none,none,none,none] H') (λ Dd hR=>?_) ?_
 ·obtain@⟨us,h,⟨kvs,ht,pt'⟩,hm,hp,pr,nd'⟩:=x.mo;obtain⟨g1,g2,g3,g4,g5,g6⟩:=bV le t g.nu md g.pu ma;exact%[_,O,m,_,O,.inl %[_,_,.inl h,O|g2.symm],t,kvs,g.pl.map (·.1),O,.inl ht,ThA.keys pt',gd.up.imp λ z=>⋯,by rw[G6];omega|λ nl hnl=>hR nl _ au hnl (G1 hnl)]
 rintro nl H1 hnl1 fnl s1;have x1:=x.same s1;have pt1:=pt.same s1;obtain⟨_,hp0⟩:=cA pt;have nnl:nl≠p:=(ao hp0 fnl).symm;show ar (λ R=>∀(r:Int)(H':Hp),0<=r->r < 8->PotC H' p->But p H1 H'->R [↑p,↑lt,⇑u,↑m,↑s,↑nl,⇑r,none,none,none,none,none,none] H') (λ Dd hR=>?_) ?_
 ·exact%[_,O,p,8,O,pt1,∅,∅|λ r H2 r0 r1 pt2 b2=>hR r _ r0 r1 pt2 b2]
 rintro wy H2 w0 w8 pt2 b2;have x2:=x1.but n1 n2 n3 pt1 b2;have hnl2:=b2 _ _ nnl hnl1;show cg (λ R=>R [↑p,↑lt,⇑u,↑m,↑s,↑nl,⇑wy,none,none,none,none,none,none] H2) (λ R hR=>?_) ?_
 ·show%[_,O,O,_,O|cV (λ _=>?_) λ _=>hR];obtain⟨dx,sg,us,hs,_⟩:=x2.st.look;show%[_,O,s,dx,_,O,hs,cM _ _ _ _ ∅ ∅ ∅ ∅,s,sh,pa,b,le,ks,g,_,O,x2.st,by rw[G6];omega,λ e0=>?_|λ gs' g' H3 e3 y3 f3=>?_]
  ·show%[_,O,_,_,_,_,_,O,(Ty.bl (K:=K)).2,O,dP "bool" (by simp[aM]),_,O|aU %[_,O,_,O,m,ma,t,md,le,g,ps,O,x2.mo,λ e H4 s4=>%[O|?_]|λ ps' z H4 e=>?_]]
   ·rw[PY rfl];exact q _ _ _ _ _ ((x2.mono c20).same s4)
   ·rw[e]at e0;simp at e0
  ·have m3:=(x2.mdl (E:=[]) (FrS.frE f3) λ _ h=>(C1 h).elim).1;show%[_,O,_,_,_,_,_,O,(Ty.bl (K:=K)).2,O,dP "bool" (by simp[aM]),_,O|aU %[_,O,_,O,m,ma,t,md,le,g,ps,O,m3,λ e H4 s4=>?_|λ ps' z H4 e m4 k4=>%[O|?_]]]
   ·rw[e]at e3;simp at e3
   ·rw[PY rfl];rw[e,J7]at e3;obtain⟨e4,e5⟩:=List.append_inj' e3 rfl;obtain rfl:z.1=g':=by simpa using e5
    subst e4;have zm:z∈ps:=by rw[e];simp
    show q _ _ _ _ _ (x2.next (E:=[]) (FrS.frE f3) (λ _ h=>(C1 h).elim) y3 m4 k4 ((x.gp z zm).mono ⋯) (λ y hy=>(x.gp y (by rw[e];exact B6 _ hy)).mono ⋯) ?_ c20);rw[e,G8]at pln;omega
 skip
 show cg (λ R=>R [↑p,↑lt,⇑u,↑m,↑s,↑nl,⇑wy,none,none,none,none,none,none] H2) (λ R hR=>?_) ?_
 ·show%[_,O,O,_,O|cV (λ _=>?_) λ _=>hR];exact%[_,O,_,O,_,O,_,O,p,s,sh,pa,m,ma,t,md,lt,kl,z0,oz,b,le,ks,g,ps,c,O,x2,pt2,n1,n2,n3|λ H3 x3=>q _ _ _ _ _ (x3.mono c20)]
 skip
 show cg (λ R=>∀(H':Hp),g.pl≠[]->Same H2 H'->R [↑p,↑lt,⇑u,↑m,↑s,↑nl,⇑wy,none,none,none,none,none,none] H') (λ R hR=>?_) ?_
 ·have RET:∀Hy,Same H2 Hy->tJ (AF 8 9 (cf (gT spSideC [] E0 (cf (tVar 0) (cf (tVar 2) (cf (tC (.int 24)) gI)))) (cf (gT spSideC [] E0 (cf (tVar 0) (cf (tVar 2) (cf (tC (.int 24)) gI)))) gI))) (yV (tOp rEq (gT (spDidPut K CS C) [] E0 (cf (tVar 4) (cf (tVar 8) (cf (tVar 9) gI)))) (gT spPutM [] E0 (cf (tVar 3) (cf (tVar 8) (cf (tVar 9) gI)))))) { nx:=R,rt:=Q } [↑p,↑lt,⇑u,↑m,↑s,↑nl,⇑wy,none,none,none,none,none,none] Hy:=λ Hy sy=>by
   show%[_,O,_,O,p,u,24,O,pt2.same sy,u0,u9,∅,∅|λ r1 Ha a1 a2 pta ba=>%[_,O,_,O,p,u,24,O,pta,u0,u9,∅,∅|λ r2 Hb b1 b2' ptb bb=>?_]];have xb:=(x2.same sy).but n1 n2 n3 (pt2.same sy) λ c o n h=>bb _ _ n (ba _ _ n h);show%[_,_,O,_,O,_,O,_,O|.ok s sh pa b le r1 r2 ks g _ rfl xb.st (by rw[G6];omega) ⋯ a1 ⋯ b1 ⋯ λ Hc yc fc=>%[_,O,_,O,_,O,m,ma,t,md,le,r1,r2,ks,g,ps,O,(xb.mdl (E:=[]) (FrS.frE fc) λ _ h=>(C1 h).elim).1,gd,⋯,⋯,a1,⋯,b1,⋯|λ z Hd xd kd=>%[O|?_]]];rw[PY rfl];show q _ _ _ _ _ (xb.next (E:=[]) (FrS.frE fc) (λ _ h=>(C1 h).elim) (by rw[J7];exact yc) xd kd (GI.step (b:=b) (le:=le) (d:=.put r1 r2) x.b0 x.gi %[a1,a2,b1|b2'] rfl) (λ y hy=>?_) (by rw[G8];change _+1<=_;omega) c20);rcases C3.mp hy with z | z
   ·exact(x.gp y z).mono ⋯
   ·rw[E2.mp z];exact x.gi.mono ⋯
  show%[_,O,zS0|λ e he=>?_];show aK he λ H5 k5 s5=>?_;show%[nl,e,_,O,O,s5 _ _ hnl2,k5,_,O|?_]
  by_cases ne:g.pl=[]
  ·rw[ne];exact aU (aU (RET _ s5))
  ·rw[show((g.pl.map (·.1)).map V.int).isEmpty=false by cases hg:g.pl with
    | nil=>exact absurd hg ne
    | cons=>rfl]
   show aT %[_,rfl,rfl,_,rfl|cV (λ _=>RET _ s5) λ _=>hR _ ne s5]
 rintro H3 ne s23;have x3:=x2.same s23;have pt3:=pt2.same s23;have hnl3:=s23 _ _ hnl2;clear x2 pt2 hnl2 s23;show ar (λ R=>∀(i:Nat)(q0:Int×Int×Int)(H':Hp),g.pl[i]?=some q0->PotC H' p->But p H3 H'->R [↑p,↑lt,⇑u,↑m,↑s,↑nl,⇑wy,none,none,none,⇑q0.1,none,none] H') (λ Dd hR=>?_) ?_
 ·have pl1:1<=g.pl.length:=List.length_pos_iff.mpr ne;have ll:((g.pl.map (·.1)).map V.int).length=g.pl.length:=by rw[G6,G6]
  have e61:(1001:Int)<=10 ^ 60:=∅
  show%[_,O,_,O,_,O,nl,_,O,.inl (G3 hnl3),p,_,O,pt3,by rw[ll];omega,by rw[ll];omega|λ r H6 r0 r1 pt6 b6=>?_];obtain⟨n,rfl⟩:=N3 r0;have hn:n < g.pl.length:=by rw[ll]at r1;omega
  exact%[nl,_,_,_,O,O,G3 (b6 _ _ nnl hnl3),gf (by rw[J1,J1,F1 hn];rfl)|hR n (g.pl[n]) _ (F1 hn) pt6 b6]
 rintro i q0 H4 hi pt4 b4;have x4:=x3.but n1 n2 n3 pt3 b4;have qb:=x.gi.pl q0 (B5 hi);clear x3 pt3 hnl3 b4;show ar (λ R=>R [↑p,↑lt,⇑u,↑m,↑s,↑nl,⇑wy,none,⇑q0.2.1,⇑q0.2.2,⇑q0.1,none,none] H4) (λ Dd hR=>?_) ?_
 ·obtain@⟨us,h,⟨kvs,ht,pt'⟩,hm,hp,pr,nd'⟩:=x4.mo;obtain⟨g1,g2,g3,g4,g5,g6⟩:=bV le t g.nu md g.pu ma;obtain⟨a,ea,ha⟩:=gd.at pt' hi;exact%[_,O,m,_,O,.inl %[_,_,.inl h,O|g2.symm],_,O,t,_,O,.inl %[kvs,.inl q0.1,.inl ht,O|ea.symm],a,_,O,G2 ha,O,_,_,O,_,_,O,O|hR]
 skip
 show ar (λ R=>∀a (H':Hp),H' a=some (.tup [.str "rest"])->Same H4 H'->R [↑p,↑lt,⇑u,↑m,↑s,↑nl,⇑wy,none,⇑q0.2.1,⇑q0.2.2,⇑q0.1,↑a,none] H') (λ Dd hR=>?_) ?_
 ·exact%[zS1|λ a ha=>hR a _ au (G1 ha)]
 rintro a0 H5 ha5 s45;have x5:=x4.same s45;have pt5:=pt4.same s45;clear x4 pt4;show ar (λ R=>∀(v:V)(T:Tr)(H':Hp),TrV H' T v->okU b ks q0.2.1 q0.2.2 T->lvN T<=31->dT T<=12->PotC H' p->But p H5 H'->R [↑p,↑lt,⇑u,↑m,↑s,↑nl,⇑wy,none,⇑q0.2.1,⇑q0.2.2,⇑q0.1,some v,none] H') (λ Dd hR=>?_) ?_
 ·show%[_,O,_,_,O,O,_,O|cV (λ _=>?_) λ _=>hR (.ref a0) .rest _ %[_,O|ha5] True.intro ∅ ∅ pt5 (λ _ _ _ h=>h)];obtain⟨_,hp5⟩:=cA pt5;show%[_,O,_,O,_,O,_,O,zS2|λ l1 hl1=>?_];show aK hl1 λ Ha k6 s6=>?_;show%[_,O,O|.inr %[_,O|?_]];generalize hk:decide (V.int wy=V.int 7)=k;have e1:atI [V.int 6,.int 12] (if k=true then 1 else 0)=⇑((if k=true then 12 else 6:Nat):Int):=by cases k <;> rfl
  show%[l1,_,_,_,O,O,G3 k6,e1,zS1|λ l2 hl2=>?_];show aK hl2 λ Hb k7 s7=>?_;show%[zS1|λ l3 hl3=>?_];show aK hl3 λ Hc k8 s8=>?_;show%[zS2|λ l4 hl4=>?_];show aK hl4 λ Hd k9 s9=>?_;have e2:atI [V.ref l2,.ref l3] (if k=true then 1 else 0)=↑(if k=true then l3 else l2):=by cases k <;> rfl
  show%[_,O,O|.inr %[_,O|?_]];rw[hk];show%[l4,_,_,_,O,O,G3 k9,e2|?_];have sD:Same H5 Hd:=s6.trans (s7.trans (s8.trans s9));obtain⟨rm,erm,frm,hrm⟩:∃rm,(if k=true then l3 else l2)=rm/\H5 rm=none/\Hd rm=↥[.int (if k=true then 30 else 8)]:=by
   cases k
   ·exact%[l2,O,s6.free hl2|s9 _ _ (s8 _ _ k7)]
   ·exact%[l3,O,(s6.trans s7).free hl3|s9 _ _ k8]
  rw[erm];have nrm:rm≠p:=(ao hp5 frm).symm;obtain⟨rs0,_,hkl,_⟩:=x5.ls;have nkl:kl≠rm:=ao hkl frm;show⟨p,lt,kl,rm,b,q0.2.1,q0.2.2,_,ks,(if k=true then 12 else 6),O,pt5.same sD,x5.ls.same sD,Ne.symm n2,nkl,nrm,x.k8,λ k hk=>(x.gk k hk).1,x.b0,⋯,⋯,hrm,by cases k <;> decide,by cases k <;> decide,λ v T r' H8 tv ok r0 lv dp hr8 pt8 b8=>hR v T _ tv ok ?_ ?_ pt8 (λ c o n h=>b8 _ _ n (λ z=>by rw[z,frm]at h;cases h) (sD _ _ h))⟩
  ·cases k <;> simp at lv <;> omega
  ·cases k <;> simp at dp <;> omega
 rintro v T H6 tv ok l31 d12 pt6 b6;have x6:=x5.but n1 n2 n3 pt5 b6;clear x5 pt5 b6 s45 ha5;have wT:=lE T;have sT:=iC T;have dT':=lF T;show ar (λ R=>∀(v':V)(d':PyData)(H':Hp),Dt p H' v' d'->Lsd (toD T) d'->(v'=v\/∃a xs,v'=.ref a/\H6 a=none/\H' a=↥xs)->PotC H' p->But p H6 H'->R [↑p,↑lt,⇑u,↑m,↑s,↑nl,⇑wy,none,⇑q0.2.1,⇑q0.2.2,⇑q0.1,some v,some v'] H') (λ Dd hR=>?_) ?_
 ·exact%[_,O,_,O,p,v,toD T,O,pt6,TrV.dt T tv,⋯,⋯|λ v' d' H7 dt7 ls cs pt7 b7=>hR v' d' _ dt7 ls (cs.imp (λ z=>z.1) id) pt7 b7]
 rintro v' d' H7 dt7 ls cs pt7 b7;have x7:=x6.but n1 n2 n3 pt6 b7;obtain⟨_,hp6⟩:=cA pt6;have tv7:=TrV.keep (λ a xs e=>b7 _ _ (λ z=>by rw[z,hp6]at e;cases e) e) T tv;have first:∀(j:Nat)(q':Int×Int×Int),j < i->g.pl[j]?=some q'->q'.1≠q0.1:=mQ x.gi.so hi
 obtain⟨dx,sg,us,hs7,sh7,_⟩:=x7.st.look;have okT:=jp T ok;show ar (λ R=>∀(rs:PP Rst)(l:PK)(H':Hp),rs.Perm (jl b T q0.2.1 q0.2.2)->(rs.map fb).Pairwise (λ x y=>cu y x=false)->StoreAt CS C H' s sh b ks le (gy le g q0 rs (bI (pcs b T q0.2.1 q0.2.2) ks.length)) (ps.map (·.1) ++ [g]) pa->FrS s pa H7 H'->H7 l=none->H' l=↥((bz g.nu (aS le rs)).map λ z=>V.int z.1)->R [↑p,↑lt,⇑u,↑m,↑s,↑nl,⇑wy,↑l,⇑q0.2.1,⇑q0.2.2,⇑q0.1,some v,some v'] H') (λ Dd hR=>?_) ?_
 ·exact%[_,O,_,O,_,O|.ok s dx _ _ _ rfl hs7 (cM _ _ _ _ ∅ ∅ ∅ ∅) ⟨p,s,sh,pa,b,le,ks,g,_,v',d',T,i,q0,O,x7.st,by rw[G6];omega,⋯,qb.1,hi,first,%[sh7,qb.2.2.1,qb.2.2.2.2.1,dt7,Lsd.tree T ls,okT,by rw[ls.wt];omega|⋯],x.k8,x.gi.ml,λ rs l H8 pm so y8 f8 fl hl=>hR rs l _ pm so y8 f8 fl hl⟩]
 rintro rs l H8 pm so y8 f8 fl hl;show ar (λ R=>∀(E:PP PK)(H':Hp),FrL (s :: pa :: E) H7 H'->(∀e∈E,e∉aN m ma t md ps/\(e≠kl/\e≠z0)/\∀xs,H7 e≠some (.tup xs))->StoreAt CS C H' s sh b ks le (gy le g q0 rs (bI (pcs b T q0.2.1 q0.2.2) ks.length)) (ps.map (·.1) ++ [g]) pa->TrV H' T v->H' l=↥((bz g.nu (aS le rs)).map λ z=>V.int z.1)->R [↑p,↑lt,⇑u,↑m,↑s,↑nl,⇑wy,↑l,⇑q0.2.1,⇑q0.2.2,⇑q0.1,some v,some v'] H') (λ Dd hR=>?_) ?_
 ·have kt8:=FrS.tup x7.st f8;have tv8:=TrV.keep kt8 T tv7;rcases cs with rfl | ⟨a,xs,rfl,fa,ha⟩
  ·obtain⟨a,xs,rfl,ha⟩:=yp tv8;exact%[_,O,_,_,_,_,_,O,(Ty.tup (K:=K) ha).2,O,gn "tuple" (by simp[aM]),_,O|aT (hR ([]) _ (FrS.frE f8) (λ _ h=>(C1 h).elim) y8 tv8 hl)]
  ·have ap:=x6.new fa;obtain⟨dx8,sg8,us8,hs8,⟨dx',r',rs',hsh8,_⟩,_,hpa8,_⟩:=y8.look;have ha8:H8 a=↥xs:=f8 _ _ (λ z=>by rw[z,hs7]at ha;cases ha) ap.1.1 ha;show%[_,O,_,_,_,_,_,O,(Ty.lst (K:=K) ha8).2,O,gn "list" (by simp[aM]),_,O|aU %[_,O,.inl %[O,_|G3 ha8],a,xs,O,O,ha8|hR ([a]) _ (λ c o n e=>?_) (λ e he=>?_) (y8.frL (M:=[a]) (λ c o n e=>by rw[aw (λ z=>n (by rw[z];simp))];exact e) (λ z=>?_) (λ z=>ap.1.1 (E2.mp z).symm) (λ z=>?_) (λ e he xs' h=>?_)) (TrV.keep (λ c xs' e=>?_) T tv8) ?_]]
   ·simp only[G7,C1,Pl,P9]at n;rw[aw n.2.2];exact f8 _ _ n.1 n.2.1 e
   ·rw[E2.mp he];exact%[ap.2.2,%[ap.2.1|ap.1.2]|λ xs' e'=>by rw[ha]at e';cases e']
   ·rw[E2.mp z,ha8]at hs8;cases hs8
   ·rw[E2.mp z,ha8]at hsh8;cases hsh8
   ·rw[E2.mp he,ha8]at h;cases h
   ·rw[aw (λ z=>by rw[z,ha8]at e;cases e)];exact e
   ·rw[aw (λ z=>by rw[z,ha]at fl;cases fl)];exact hl
 rintro E H9 f9 hE y9 tv9 hl9;show ar (λ R=>∀(t' md':PK)(g':Stn)(ps':PP (Stn×PK×PK))(H':Hp),LI CS C H' s sh pa m ma t' md' lt kl z0 oz b le ks g' ps' (c+1)->ApL l pa kl z0 m ma t' md' ps'->H' l=↥((bz g.nu (aS le rs)).map λ z=>V.int z.1)->R [↑p,↑lt,⇑u,↑m,↑s,↑nl,⇑wy,↑l,⇑q0.2.1,⇑q0.2.2,⇑q0.1,some v,some v'] H') (λ Dd hR=>?_) ?_
 ·obtain⟨m9,ls9⟩:=x7.mdl f9 hE;show%[_,O,_,_,_,_,_,O,(Ty.lst (K:=K) hl9).2,O,gn "list" (by simp[aM]),_,O|?_];have ln:=(x7.new fl)
  show aT %[_,rfl,_,rfl,_,rfl,_,rfl,_,rfl,lt,kl,m,ma,t,md,b,le,ks,g,ps,v,T,i,q0,rfl,ls9,x.k8,x.nl,m9,gd,⋯,⋯,hi,tv9,ok,⋯,⋯,x.le1|λ z rs' l2 Hb pm' so' mb kb nl2 hl2=>?_];obtain rfl:rs'=rs:=zR (pm'.trans pm.symm) so' so;obtain⟨y1,y2⟩:=mR ((bz g.nu (aS le rs')).map λ z=>z.1);have eq:((bz g.nu (aS le rs')).map λ z=>V.int z.1)=((bz g.nu (aS le rs')).map λ z=>z.1).map V.int:=by rw[PJ];rfl
  have hlb:=kb.1 _ _ ln.2.2 hl9;have y3:(PyData.list (((bz g.nu (aS le rs')).map λ z=>z.1).map .int)).canLay0=true:=by simp only[PyData.canLay0,y1]
  show%[_,_,.lst (G3 (by rw[<- eq];exact hlb)) (gB _),.lst (G3 (by rw[<- eq];exact hl2)) (gB _),y3,y3,by change PyData.depthAll _+1<=210;omega,_,O|?_];rw[PySem.SeqAt.eqv_refl _ y3];show aT (hR t md _ _ _ (x7.next (E:=E) f9 hE (by rw[J7];exact y9) mb kb (GI.step (le:=le) (d:=.cut q0 T) x.b0 x.gi %[B5 hi,ok|l31] %[rs',pm,so|rfl]) (λ y hy=>?_) (by rw[G8];change _+1<=_;omega) c20) %[ln.1,ln.2.1|λ h=>(kb.2 _ h).elim ln.2.2 λ e=>by rw[hl9]at e;cases e] hlb);rcases C3.mp hy with z | z
  ·exact(x.gp y z).mono ⋯
  ·rw[E2.mp z];exact x.gi.mono ⋯
 rintro t' md' g' ps' Ha xa ap hla;have kl1:=mJ le rs;have kl2:=pm.length_eq;have kl3:(jl b T q0.2.1 q0.2.2).length<=_:=J5 _ _;have kl4:=mG b T 0 0 q0.2.1 q0.2.2;exact%[_,O,.inl %[O,_|G3 hla],_,O,l,_,_,O,O,hla,by rw[G6,bR];omega|q _ _ _ _ _ (xa.ch ap hla λ c o n e=>by rw[aw n];exact e)]
theorem lH{K:C5}{X C:PK}{b:Bool}(hx:ExcC K X)(b0:PySem.W.subIn K (.ref X) (.type "BaseException")=some true)(s:PySem.W.subIn K (.ref C) (.ref X)=some b):PySem.W.exmOne K (.ref C) (.ref X)=some b:=by unfold PySem.W.exmOne;rw[b0,Pa (show((some true == some true)=true)from rfl)];exact qv hx s
inductive spLaw(K:C5)(vs:PP V)(H:Hp)(Q:VK)(E_:XK):Prop
|mk(a:PK)(ns:Q9)(_:vs=[.ref a])(_:SqL K H a (ns.map V.int))(_:ns.length<=63)(_:∀H',Q (.bl true) H')
theorem sclaw:FnScope ["_law_script","_law_pot_here","_law_unit_here","_law_shop_here","_law_least","_law_store","_law_model","_law_k","_law_found"] Q8 (defScope mB):=nofun
theorem zW{f C CS:PK}{fd:F8}(F:Fun K "law" "law" mB f fd)(B:Blt mg)(DCl:Dn P w K mg base "_law_cell" QO 1 (uw K))(DPo:Dn P w K mg base "_law_pot" QP 1 (spPotC))(DUn:Dn P w K mg base "_law_unit" QR 2 (spUnit))(DShp:Dn P w K mg base "_law_shop" QT 3 (spShopC))(DD:Dn P w K mg base "_law_take" QQ 1 (spTake))(DSh:Kn P w K mg base "Shop" C QC 3 (nJ C))(DSt:Kn P w K mg base "Store" CS Qj 2 (spSInit CS C))(DBg:Dn P w K mg base "_law_begun" Qt 1 (spBegun))(DAs:Dn P w K mg base "_law_asked" Qz 3 (spAsked CS C))(DStt:Dn P w K mg base "_law_state" Qx 1 (spState))(DSp:Dn P w K mg base "_law_step" Q7 46 (spStep CS C)):FnOk P w K mg base CX0 47 f fd Q8 (spLaw K):=by
 exists sclaw;obtain⟨a,ns,rfl,hS,n63,q⟩:=h;have hg:=hr.gd;have hu2:=Room.units220 hr ∅;show%[_,((1∣(DPo∩((DCl∩('0'^^^(af^^^ad)))^^^(af^^^ad))))<<<((2∣(DUn∩('1'^^^ad)))<<<((3∣(DShp∩('1'^^^('2'^^^ad))))<<<((4∣((@aL _ _ _ _ (af^^^((af|||aW|||(DD∩('1'^^^(af^^^ad))))^^^('2'^^^((af|||aW|||(DD∩('1'^^^((af|||cY|||'2')^^^ad))))^^^ad)))))&&&ix_list&&&(DD∩('1'^^^(af^^^ad)))))<<<((5∣(yI DSt (hr.mono ∅) O ((yI DSh (hr.mono ∅) O (('3'&&&ix_tup&&&af)^^^(('3'&&&ix_tup&&&af)^^^ad)))^^^('4'^^^ad))))<<<((6∣(DBg∩('3'^^^('4'^^^ad))))<<<((@cP _ _ _ _ _ _ _ _ E4 O (pX O B.range (af^^^((@aD _ _ _ _ _ _ _ _ _ (jE O) O B.max PyProof.Rows.boot_max (af^^^((@aD _ _ _ _ _ _ _ _ _ (fg O) O B.min P1 (af^^^((@aD _ _ _ _ _ _ _ _ _ aY O B.len Pj ('0'^^^ad) ∅ ∅ O O)^^^ad)) ∅ ∅ O O)^^^ad)) ∅ ∅ O O)^^^ad))) (ai (i:=7) nd O (Or.inl O)) (((@bh _ _ _ _ (@aV _ _ _ (DSp∩((DPo∩((DCl∩('0'^^^('7'^^^ad)))^^^('7'^^^ad)))^^^('3'^^^('2'^^^('6'^^^('5'^^^ad)))))) (by intro _;rfl)))<|>(bP⁻¹)<|>aG)<<<((8∣(DAs∩('5'^^^ad)))<<<((((@aD _ _ _ _ _ _ _ _ _ (eh hg hu2) O B.repr PyProof.Rows.boot_repr ('8'^^^ad) ∅ ∅ O O)<*>eQ<*>(@aD _ _ _ _ _ _ _ _ _ (eh hg hu2) O B.repr PyProof.Rows.boot_repr ((DStt∩('3'^^^('6'^^^ad)))^^^ad) ∅ ∅ O O))<|>(bP⁻¹)<|>aG)<<<((@be _ _ _ _ (gJ F5 PySem.F.slot_list_clear PySem.F.type_list_clear lU ('8'&&&ix_list&&&af)) O)<<<((@be _ _ _ _ (@dB _ _ _ _ _ _ _ _ _ _ _ _ F5 PySem.F.slot_list_append PySem.F.type_list_append bE ('8'&&&ix_list&&&af) (af^^^ad) O O O O O) O)>>>(((@aD _ _ _ _ _ _ _ _ _ (eh hg hu2) O B.repr PyProof.Rows.boot_repr ((DAs∩('5'^^^ad))^^^ad) ∅ ∅ O O)<*>eQ<*>(@aD _ _ _ _ _ _ _ _ _ (eh hg hu2) O B.repr PyProof.Rows.boot_repr ((DStt∩('3'^^^('6'^^^ad)))^^^ad) ∅ ∅ O O))<|>(bP⁻¹)<|>aG)))))) (by intro _;rfl))<<<(bP⁻¹))))))))|?_];dsimp only[bF];have sz:(20000:Nat) < sizeLine:=∅
 have ln:(ns.map V.int).length=ns.length:=G6 _;have e60:3 * (2 * (10:Int) ^ 56)<=10 ^ 60:=∅
 show ar (λ R=>∀p (H':Hp),H p=none->PotC H' p->Same H H'->R [↑a,↑p,none,none,none,none,none,none,none] H') (λ Dd hR=>?_) ?_
 ·exact%[_,O,a,ns,0,O,hS,∅|λ c=>%[c,0,O,∅,∅|λ p Hb hp ptb sb=>hR p _ hp ptb sb]]
 rintro p H1 hp0 pt1 s1;have sB:∀{Hx Hy:Hp},Same H Hx->But p Hx Hy->Same H Hy:=λ s b c o e=>b _ _ (ao e hp0) (s _ _ e);show ar (λ R=>∀(u:Int)(H':Hp),1<=u->u < 2 * 10 ^ 56->PotC H' p->Same H H'->R [↑a,↑p,⇑u,none,none,none,none,none,none] H') (λ Dd hR=>?_) ?_
 ·exact%[_,O,p,O,pt1|λ u H2 u1 u2 pt2 b2=>hR u _ u1 u2 pt2 (sB s1 b2)]
 rintro u H2 u1 u2 pt2 s2;show ar (λ R=>∀(lt kl:PK)(b:Int)(ks:PP Kd)(H':Hp),LS H' lt b ks kl->kl≠p->(∀k∈ks,jh k)->1<=ks.length->ks.length<=8->0<=b->PotC H' p->Same H H'->R [↑a,↑p,⇑u,↑lt,none,none,none,none,none] H') (λ Dd hR=>?_) ?_
 ·exact%[_,O,_,O,p,u,O,pt2,u1,u2|λ t kl b ks H3 ls nk _ gk k1 k8 b0 _ pt3 b3=>hR t kl b ks _ ls nk gk k1 k8 b0 pt3 (sB s2 b3)]
 rintro lt kl b ks H3 ls3 nk gk k1 k8 b0 pt3 s3;obtain⟨z0,oz,hz3,nzp,back⟩:∃(z0:PK)(oz:HO),H3 z0=some oz/\z0≠p/\∀Hx:Hp,Hx z0=some oz->SqL K Hx a (ns.map V.int):=by
  obtain⟨rs,_,hk,_⟩:=ls3;rcases hS with(h | ⟨o,h⟩) | h
  ·exact%[a,_,s3 _ _ h,ao h hp0|λ _ e=>.inl (.inl e)]
  ·exact%[a,_,s3 _ _ h,ao h hp0|λ _ e=>.inl (.inr %[o|e])]
  ·exact%[kl,_,hk,nk|λ _ _=>.inr h]
 clear pt1 pt2 s1 s2 s3 sB hS;show ar (λ R=>∀(le:Int)(H':Hp),1<=le->LS H' lt b ks kl->H' z0=some oz->R [↑a,↑p,⇑u,↑lt,⇑le,none,none,none,none] H') (λ Dd hR=>?_) ?_
 ·show%[_,O,p,3,O,pt3,∅,∅|λ r1 Ha a0 a1 pta ba=>%[_,_,O,O,_,O,_,O,_,O,_,_,O,O,%[b60 ⋯ ⋯|b60 ⋯ ⋯],p,3 * u,O,pta,⋯,⋯|λ r2 Hb b0' b1 ptb bb=>%[_,_,O,O,zS4|λ ll hll=>?_]]];show aK hll λ Hc k5 s5=>?_;obtain⟨_,hpb⟩:=cA ptb;have nll:ll≠p:=(ao hpb hll).symm;show%[_,O,p,4,O,ptb.same s5,∅,∅|λ r3 Hd c0 c1 ptd bd=>?_];have b3d:But p H3 Hd:=λ c o n e=>bd _ _ n (s5 _ _ (bb _ _ n (ba _ _ n e)));obtain⟨_,hv,le,rfl,le1⟩:=gC (P:=λ v=>∃le:Int,v=.int le/\1<=le) (xs:=[V.int 1,.int (1+r1),.int u,.int (1+r2)]) (by
   simp only[OY];exact%[%[1,O|∅],%[1+r1,O|⋯],%[u,O|u1],%[1+r2,O|⋯]|λ _ h=>(C1 h).elim]) c0 c1
  exact%[ll,_,r3,_,O,O,G3 (bd _ _ nll k5),hv|hR le _ le1 (ls3.but nk pt3 b3d) (b3d _ _ nzp hz3)]
 rintro le H4 le1 ls4 hz4;clear pt3 ls3 hz3 nzp nk;show ar (λ R=>∀s sh pa (H':Hp),StoreAt CS C H' s sh b ks le (g00 ks.length) [] pa->kl≠pa->z0≠s->z0≠pa->LS H' lt b ks kl->H' z0=some oz->R [↑a,↑p,⇑u,↑lt,⇑le,↑s,none,none,none] H') (λ Dd hR=>?_) ?_
 ·obtain⟨rs,q1,q2,q3⟩:=id ls4;have rl:=E3 q3;show%[_,O,lt,_,0,_,O,O,G2 q1,O,_,O,lt,_,1,_,O,O,G2 q1,O|λ x dx hx hdx ne0=>?_];have sm:Same H4 (upd (upd H4 dx (.own x)) x (.ins C dx [])):=km hx hdx;show%[x,dx,kl,b,rs,ks,O,au,b0,.inl (sm _ _ q2),G4 (Tups.keep (λ c xs e=>sm _ _ e) q3) (λ v k h=>.inl h),(λ k hk=>(gk k hk).1),⋯,⋯|λ Hb Sb kb=>%[O|?_]];have sb:Same H4 Hb:=λ c o e=>kb c o (ao e hx) (sm _ _ e);obtain⟨_,_,hkl,_⟩:=id ls4;show%[_,O|λ s ds hs hds ne1=>?_];have s2:Same Hb (upd (upd Hb ds (.own s)) s (.ins CS ds [])):=km hs hds;exact%[s,ds,x,b,le,ks,O,au,jg s2 Sb,k8,le1|λ pa Hz hpa yz kz=>%[O|hR s x pa _ yz (ao (s2 _ _ (sb _ _ hkl)) hpa) (ao (sb _ _ hz4) hs) (ao (s2 _ _ (sb _ _ hz4)) hpa) (ls4.same λ c o e=>kz _ _ (ao (sb _ _ e) hs) (s2 _ _ (sb _ _ e))) (kz _ _ (ao (sb _ _ hz4) hs) (s2 _ _ (sb _ _ hz4)))]]
 rintro s sh pa H5 y5 nk nzs nza ls5 hz5;clear ls4 hz4;show ar (λ R=>∀m ma t md (H':Hp),LI CS C H' s sh pa m ma t md lt kl z0 oz b le ks (g00 ks.length) [] 0->R [↑a,↑p,⇑u,↑lt,⇑le,↑s,↑m,none,none] H') (λ Dd hR=>?_) ?_
 ·show%[_,O,_,O,lt,kl,b,le,ks,O,ls5,k8|λ m ma t md H6 nw s6 mo=>hR m ma t md _ ?_];obtain⟨dx,sg,us,hs,⟨dx',r,rs',hsh,_⟩,_,hpa,_⟩:=y5.look;obtain⟨_,_,hkl,_⟩:=id ls5;exact { st:=y5.same s6,mo:=mo,gi:=GI.zero ks,gp:=λ _ h=>(C1 h).elim,pl:=B3 _,c1:=by decide,ls:=ls5.same s6,gk:=gk,k8:=k8,b0:=b0,le1:=le1,ns:=λ z=>ao hs (nw _ z) rfl,nh:=λ z=>ao hsh (nw _ z) rfl,np:=λ z=>ao hpa (nw _ z) rfl,nl:=λ z=>ao hkl (nw _ z) rfl,nk:=nk,hz:=s6 _ _ hz5,nz:=%[λ z=>ao hz5 (nw _ z) rfl,nzs|nza] }
 rintro m ma t md H6 x6;clear y5 ls5 hz5;show bn (λ σ' H'=>True) (λ R hR=>?_) ?_
 ·show%[_,O,a,_,O,.inl (back _ x6.hz),_,_,O,_,_,O,_,_,O,%[∅,∅,?_|?_]|?_]
  ·rw[ln];split <;> (try split) <;> omega
  ·rw[ln];split <;> (try split) <;> omega
  generalize hn:(Int.toNat _)=n;have n16:n<=16:=by
   rw[<- hn,ln]
   split <;> (try split) <;> omega
  show jB (n:=n) (λ i σ' H'=>∃(v7 v8:PM V)(t md:PK)(g:Stn)(ps:PP (Stn×PK×PK)),σ'=[↑a,↑p,⇑u,↑lt,⇑le,↑s,↑m,v7,v8]/\LI CS C H' s sh pa m ma t md lt kl z0 oz b le ks g ps i) %[_,_,t,md,_,_,rfl|x6] ?_ (λ σ Hx h=>hR _ _ True.intro);clear x6 t md;rintro i σ Hx hi ⟨v7,v8,t,md,g,ps,rfl,x⟩;show ar (λ R=>∀(v8:PM V)(t md:PK)(g:Stn)(ps:PP (Stn×PK×PK))(H':Hp),LI CS C H' s sh pa m ma t md lt kl z0 oz b le ks g ps (i+1)->R [↑a,↑p,⇑u,↑lt,⇑le,↑s,↑m,⇑(1+(i:Int)),v8] H') (λ Dd hR=>?_) ?_
  ·show%[_,O,_,O,a,ns,_,O,back _ x.hz,⋯|λ c=>%[_,O,c,_,O,⋯,⋯|λ p' Hb hp ptb sb=>?_]];obtain⟨⟨m1,m2⟩,m3,m4⟩:=x.new hp;show%[_,O,_,O,_,O,_,O,p',s,sh,pa,m,ma,t,md,lt,kl,z0,oz,b,le,u,ks,g,ps,i,O,x.same sb,ptb,%[m1|m2],m3,m4,u1,u2,⋯|λ t' md' g' ps' H' x'=>%[_,O|aT (hR _ t' md' g' ps' _ x')]]
  clear x t md g ps v7 v8;rintro v8 t md g ps H7 x;obtain⟨ok1,ok2,ok3,ok4⟩:=ym x.gi x.c1 x.gk x.k8;have gd:=x.gi.gd;have gln:=x.gi.ln;have nd:=x.gi.plo x.c1;have md0:=x.gi.mdo x.c1;have gG:∀k∈ks,Good k:=λ k h=>(gk k h).1;have pln:=x.pl;show ar (λ R=>∀(l pl ml ct:PK)(rs:PP V)(H':Hp),ApL pl pa kl z0 m ma t md ps->ApL ml pa kl z0 m ma t md ps->pl≠ml->H' l=↥[.ref pl,.ref ml,.ref ct]->H' pl=↥rs->Paired (PlA H') rs g.pl->H' ml=↥(g.md.map V.int)->DatV K H' (.ref l) (gb ks g)->Same H7 H'->R [↑a,↑p,⇑u,↑lt,⇑le,↑s,↑m,⇑(1+(i:Int)),↑l] H') (λ Dd hR=>?_) ?_
  ·exact%[_,O,s,sh,pa,b,le,ks,g,_,O,x.st,x.k8,gG,nd,md0|λ l pl ml ct rs H8 fp fm ne hl hpl pr hml hct s8=>hR l pl ml ct rs _ (x.new fp) (x.new fm) ne hl hpl pr hml (iB hl hpl pr hml hct) s8]
  rintro l pl ml ct rs H8 ap am ne hl hpl pr hml dt s8;have x8:=x.same s8;show ar (λ R=>∀(H':Hp),Same H8 H'->R [↑a,↑p,⇑u,↑lt,⇑le,↑s,↑m,⇑(1+(i:Int)),↑l] H') (λ Dd hR=>?_) ?_
  ·show%[_,O,l,gb ks g,O,dt,ok1,ok2,ok3,ok4,_,O,_,O,lt,kl,m,ma,t,md,b,le,ks,g,ps,O,x8.ls,x.k8,x8.mo,gd,⋯,gG,nd,md0|λ l2 pl2 ml2 ct2 rs2 H9 hl2 hpl2 pr2 hml2 hct2 s9=>%[l2,gb ks g,O,iB hl2 hpl2 pr2 hml2 hct2,ok1,ok2,ok3,ok4,O,_,O|?_]];rw[show(!decide (V.str (gb ks g).shown=V.str (gb ks g).shown))=false by rw[PY rfl];rfl];exact aT (hR _ s9)
  rintro H9 s9;have x9:=x8.same s9;show ar (λ R=>∀(H':Hp),LI CS C H' s sh pa m ma t md lt kl z0 oz b le ks g ps (i+1)->H' l=↥[.ref pl,.ref ml,.ref ct]->H' ml=↥(g.md.map V.int)->R [↑a,↑p,⇑u,↑lt,⇑le,↑s,↑m,⇑(1+(i:Int)),↑l] H') (λ Dd hR=>?_) ?_
  ·have hl9:=s9 _ _ hl;have hpl9:=s9 _ _ hpl;have hml9:=s9 _ _ hml;have nlp:l≠pl:=λ z=>by
    rw[z,hpl]at hl;obtain rfl:=HO.lst.inj (B8 hl);cases hg:g.pl with
    | nil=>rw[hg]at pr;exact nomatch pr
    | cons q qs=>
     rw[hg]at pr;cases pr with
     | cons h _=>
      obtain⟨_,e,h⟩:=h;cases e;rw[hpl]at h;cases h
   exact%[_,O,l,_,0,_,O,O,G3 hl9,O,.inl %[O,_|G3 hpl9],pl,rs,O,O,hpl9|hR _ (x9.ch ap hpl9 λ c o n e=>by rw[aw n];exact e) (by rw[aw nlp];exact hl9) (by rw[aw ne.symm];exact hml9)]
  clear x9;rintro Ha xa hla hma;show ar (λ R=>∀(H':Hp),LI CS C H' s sh pa m ma t md lt kl z0 oz b le ks g ps (i+1)->R [↑a,↑p,⇑u,↑lt,⇑le,↑s,↑m,⇑(1+(i:Int)),↑l] H') (λ Dd hR=>?_) ?_
  ·exact%[_,O,l,_,1,_,O,O,G3 hla,O,.inl %[O,_|G3 hma],ml,_,_,O,O,hma,by rw[G6,gd.ml];omega|hR _ (xa.ch am hma λ c o n e=>by rw[aw n];exact e)]
  clear xa hla hma;rintro Hb xb;show%[_,O,s,sh,pa,b,le,ks,g,_,O,xb.st,x.k8,gG,nd,md0|λ l1 pl1 ml1 ct1 rs1 Hc _ _ _ hl1 hpl1 pr1 hml1 hct1 sc=>%[l1,gb ks g,O,iB hl1 hpl1 pr1 hml1 hct1,ok1,ok2,ok3,ok4|?_]];have xc:=xb.same sc;show%[_,O,_,O,lt,kl,m,ma,t,md,b,le,ks,g,ps,O,xc.ls,x.k8,xc.mo,gd,⋯,gG,nd,md0|λ l2 pl2 ml2 ct2 rs2 Hd hl2 hpl2 pr2 hml2 hct2 sd=>%[l2,gb ks g,O,iB hl2 hpl2 pr2 hml2 hct2,ok1,ok2,ok3,ok4,O,_,O|?_]];rw[show(!decide (V.str (gb ks g).shown=V.str (gb ks g).shown))=false by rw[PY rfl];rfl];exact aT %[_,_,t,md,g,ps,rfl|xc.same sd]
 intro _ H7 _;exact q _
end
theorem LW{α:Type}{us:PP α}(h:us.length=1):∃a,us=[a]:=by
 match us,h with
 | [a],_=>exact%[a|O]
theorem zX{α:Type}{us:PP α}(h:us.length=2):∃a b,us=[a,b]:=by
 match us,h with
 | [a,b],_=>exact%[a,b|O]
theorem zY{α:Type}{us:PP α}(h:us.length=3):∃a b c,us=[a,b,c]:=by
 match us,h with
 | [a,b,c],_=>exact%[a,b,c|O]
theorem LX{α:Type}{us:PP α}(h:us.length=4):∃a b c d,us=[a,b,c,d]:=by
 match us,h with
 | [a,b,c,d],_=>exact%[a,b,c,d|O]
theorem LY{α:Type}{us:PP α}(h:us.length=5):∃a b c d e,us=[a,b,c,d,e]:=by
 match us,h with
 | [a,b,c,d,e],_=>exact%[a,b,c,d,e|O]
abbrev DI(K:C5)(n:Str)(st:Stmt)(f:PK):Prop:=∃(od an:PM PK)(sl:PN (PM G0))(oc kV dc pm cd ct:G0),PySem.W.nsIn K PQ n=some (↑f)/\K.lookup f=some %[oc,od,.func (E6 n n (defArgs st) (defBody st) (defScope st) .none kV dc pm an cd ct)|sl]/\PySem.W.codeIn K cd n=true/\PySem.W.keepIn K (.ref f)=true
abbrev MI(K:C5)(C:PK)(n q:Str)(st:Stmt)(f:PK):Prop:=∃(od an:PM PK)(sl:PN (PM G0))(oc kV dc pm cd ct:G0),PySem.W.findIn K (.ref C) n=some (↑f)/\PySem.W.isFn K (.ref f)=true/\K.lookup f=some %[oc,od,.func (E6 n q (defArgs st) (defBody st) (defScope st) .none kV dc pm an cd ct)|sl]/\PySem.W.codeIn K cd q=true/\PySem.W.keepIn K (.ref f)=true
theorem diM{K:C5}{n:Str}{st:Stmt}{f:PK}{od an:PM PK}{sl:PN (PM G0)}{oc kV dc pm cd ct:G0}(a:PySem.W.nsIn K PQ n=some (↑f))(l:K.lookup f=some %[oc,od,.func (E6 n n (defArgs st) (defBody st) (defScope st) .none kV dc pm an cd ct)|sl])(c:PySem.W.codeIn K cd n=true)(k:PySem.W.keepIn K (.ref f)=true):DI K n st f:=%[_,_,_,_,_,_,_,_,_,a,l,c|k]
theorem miM{K:C5}{C:PK}{n q:Str}{st:Stmt}{f:PK}{od an:PM PK}{sl:PN (PM G0)}{oc kV dc pm cd ct:G0}(a:PySem.W.findIn K (.ref C) n=some (↑f))(i:PySem.W.isFn K (.ref f)=true)(l:K.lookup f=some %[oc,od,.func (E6 n q (defArgs st) (defBody st) (defScope st) .none kV dc pm an cd ct)|sl])(c:PySem.W.codeIn K cd q=true)(k:PySem.W.keepIn K (.ref f)=true):MI K C n q st f:=%[_,_,_,_,_,_,_,_,_,a,i,l,c|k]
abbrev fnS(n q:Str)(st:Stmt)(kV dc pm:G0)(an:PM PK)(cd ct:G0):F8:=E6 n q (defArgs st) (defBody st) (defScope st) .none kV dc pm an cd ct
abbrev HBd(n q:Str)(st:Stmt)(ps:PP Str):Prop:=∀(kV dc pm:G0)(an:PM PK)(cd ct:G0)(us:PP G0),us.length=ps.length->bindArgs (fnS n q st kV dc pm an cd ct) %[us|[]]=pure (ps.zip us)
inductive DE(K:C5)(mg:Str->PM Value)(n:Str)(st:Stmt)(f:PK)(ps:PP Str):Prop
|mk(fd:F8)(F:Fun K n n st f fd)(b:Binds K fd ps [])(k:PySem.W.keepIn K (.ref f)=true)(q:mg n=↑f)
theorem diE{K:C5}{h:Heap}{mg:Str->PM G0}{n:Str}{st:Stmt}{f:PK}(X:K.In h)(G:h.Ns PQ mg)(d:DI K n st f)(ps:PP Str)(hb:HBd n n st ps):DE K mg n st f ps:=by obtain⟨_,_,_,_,_,_,_,_,_,a,l,c,k⟩:=d;have F:=nD (st:=st) l c k;exact%[_,F,F.binds hb,k|PySem.W.mg_of X G a]
inductive ME(K:C5)(C:PK)(n q:Str)(st:Stmt)(f:PK)(ps:PP Str):Prop
|mk(fd:F8)(F:Fun K n q st f fd)(b:Binds K fd ps [])(k:PySem.W.keepIn K (.ref f)=true)(a:PySem.W.findIn K (.ref C) n=some (↑f))(i:PySem.W.isFn K (.ref f)=true)
theorem miE{K:C5}{C:PK}{n q:Str}{st:Stmt}{f:PK}(d:MI K C n q st f)(ps:PP Str)(hb:HBd n q st ps):ME K C n q st f ps:=by obtain⟨_,_,_,_,_,_,_,_,_,a,i,l,c,k⟩:=d;have F:=nD (st:=st) l c k;exact%[_,F,F.binds hb,k,a|i]
theorem dnA{P:F7}{w:F9}{K:C5}{h:Heap}{mg:Str->PM G0}{base:Heap}(X:K.In h)(G:h.Ns PQ mg){n:Str}{st:Stmt}{f:PK}(d:DI K n st f)(ps:PP Str)(hb:HBd n n st ps){k:Nat}{sp:Sp}(ok:∀fd:F8,Fun K n n st f fd->(∀ {k:Nat} {sp:Sp},FnOk P w K mg base CX0 k f fd ps sp->Dn P w K mg base n ps k sp)->FnOk P w K mg base CX0 k f fd ps sp):Dn P w K mg base n ps k sp:=by obtain⟨_,F,b,k,q⟩:=diE X G d ps hb;exact%[_,_,ok _ F λ h=>%[_,_,h,b,k|q],b,k|q]
theorem dnX{P:F7}{w:F9}{K:C5}{h:Heap}{mg:Str->PM G0}{base:Heap}(X:K.In h)(G:h.Ns PQ mg){n:Str}{st:Stmt}{f:PK}(d:DI K n st f)(ps:PP Str)(hb:HBd n n st ps){k:Nat}{sp:Sp}(ok:∀fd:F8,Fun K n n st f fd->(∀ {k:Nat} {sp:Sp},FnOk P w K mg base (CXx P w) k f fd ps sp->L2.DnX P w K mg base n ps k sp)->FnOk P w K mg base (CXx P w) k f fd ps sp):L2.DnX P w K mg base n ps k sp:=by obtain⟨_,F,b,k,q⟩:=diE X G d ps hb;exact%[_,_,ok _ F λ h=>%[_,_,h,b,k|q],b,k|q]
theorem bd1{n q:Str}{st:Stmt}{a:Str}(h:∀ (kV dc pm:G0) (an:PM PK) (cd ct ua:G0),bindArgs (fnS n q st kV dc pm an cd ct) %[[ua]|[]]=pure [(a,ua)]:=by intros;rfl):HBd n q st [a]:=by intro _ _ _ _ _ _ us hl;obtain⟨_,rfl⟩:=LW hl;exact h _ _ _ _ _ _ _
theorem bd2{n q:Str}{st:Stmt}{a b:Str}(h:∀ (kV dc pm:G0) (an:PM PK) (cd ct ua ub:G0),bindArgs (fnS n q st kV dc pm an cd ct) %[[ua,ub]|[]]=pure [(a,ua),(b,ub)]:=by intros;rfl):HBd n q st [a,b]:=by intro _ _ _ _ _ _ us hl;obtain⟨_,_,rfl⟩:=zX hl;exact h _ _ _ _ _ _ _ _
theorem bd3{n q:Str}{st:Stmt}{a b c:Str}(h:∀ (kV dc pm:G0) (an:PM PK) (cd ct ua ub uc:G0),bindArgs (fnS n q st kV dc pm an cd ct) %[[ua,ub,uc]|[]]=pure [(a,ua),(b,ub),(c,uc)]:=by intros;rfl):HBd n q st [a,b,c]:=by intro _ _ _ _ _ _ us hl;obtain⟨_,_,_,rfl⟩:=zY hl;exact h _ _ _ _ _ _ _ _ _
theorem bd4{n q:Str}{st:Stmt}{a b c d:Str}(h:∀ (kV dc pm:G0) (an:PM PK) (cd ct ua ub uc ud:G0),bindArgs (fnS n q st kV dc pm an cd ct) %[[ua,ub,uc,ud]|[]]=pure [(a,ua),(b,ub),(c,uc),(d,ud)]:=by intros;rfl):HBd n q st [a,b,c,d]:=by intro _ _ _ _ _ _ us hl;obtain⟨_,_,_,_,rfl⟩:=LX hl;exact h _ _ _ _ _ _ _ _ _ _
theorem bd5{n q:Str}{st:Stmt}{a b c d e:Str}(h:∀ (kV dc pm:G0) (an:PM PK) (cd ct ua ub uc ud ue:G0),bindArgs (fnS n q st kV dc pm an cd ct) %[[ua,ub,uc,ud,ue]|[]]=pure [(a,ua),(b,ub),(c,uc),(d,ud),(e,ue)]:=by intros;rfl):HBd n q st [a,b,c,d,e]:=by intro _ _ _ _ _ _ us hl;obtain⟨_,_,_,_,_,rfl⟩:=LY hl;exact h _ _ _ _ _ _ _ _ _ _ _
theorem lx6{α:Type}{us:PP α}(h:us.length=6):∃a b c d e f,us=[a,b,c,d,e,f]:=by
 match us,h with
 | [a,b,c,d,e,f],_=>exact%[a,b,c,d,e,f|O]
theorem bd6{n q:Str}{st:Stmt}{a b c d e f:Str}(h:∀ (kV dc pm:G0) (an:PM PK) (cd ct ua ub uc ud ue uf:G0),bindArgs (fnS n q st kV dc pm an cd ct) %[[ua,ub,uc,ud,ue,uf]|[]]=pure [(a,ua),(b,ub),(c,uc),(d,ud),(e,ue),(f,uf)]:=by intros;rfl):HBd n q st [a,b,c,d,e,f]:=by intro _ _ _ _ _ _ us hl;obtain⟨_,_,_,_,_,_,rfl⟩:=lx6 hl;exact h _ _ _ _ _ _ _ _ _ _ _ _
theorem lx7{α:Type}{us:PP α}(h:us.length=7):∃a b c d e f g,us=[a,b,c,d,e,f,g]:=by
 match us,h with
 | [a,b,c,d,e,f,g],_=>exact%[a,b,c,d,e,f,g|O]
theorem bd7{n q:Str}{st:Stmt}{a b c d e f g:Str}(h:∀ (kV dc pm:G0) (an:PM PK) (cd ct ua ub uc ud ue uf ug:G0),bindArgs (fnS n q st kV dc pm an cd ct) %[[ua,ub,uc,ud,ue,uf,ug]|[]]=pure [(a,ua),(b,ub),(c,uc),(d,ud),(e,ue),(f,uf),(g,ug)]:=by intros;rfl):HBd n q st [a,b,c,d,e,f,g]:=by intro _ _ _ _ _ _ us hl;obtain⟨_,_,_,_,_,_,_,rfl⟩:=lx7 hl;exact h _ _ _ _ _ _ _ _ _ _ _ _ _
open PySem.W in
theorem all_mk{l:OpenLaw}{w:F9}{K:Frag}{h:Heap}{mg:Str->PM G0}{fa f0 f1 f2 f3 f4 f5 f6 f7 f8 f9 f10 f11 f12 f13 f14 f15 f16 f17 f18 f19 f20 f21 f22 f23 f24 f25 f26 f27 f28 f29 f30 f31 f32 f33 f34 f35 f36 f37 f38 f39 f40 f41 f42 f43 f44 f45 f46 f47 f48 C fm0 fm1 fm2 fm3 fm4 CS fo0 fo1 fo2 fo3 fo4 fo5 fo6 fo7 fo8 xWAYS xNoPlate xNoTree xNoNumber:PK}(X:K.In h)(G:h.Ns PQ mg)(hfa:mg "law" = ↑fa)
  {tc0:Tok} {tc1:Tok} {tc2:Tok} {tc3:Tok} {tc4:Tok} {tc5:Tok} {tc6:Tok} {tc7:Tok}
  (d0:DI K "is_whole" lg f0)
  (d1:DI K "is_truth" lh f1)
  (d2:DI K "is_row" xo f2)
  (d3:DI K "is_kind" im f3)
  (d4:DI K "can_lie_turned" io f4)
  (d5:DI K "check_plate" cF f5)
  (d6:DI K "lies_in" ij f6)
  (d7:DI K "cut_parts" fz f7)
  (d8:DI K "begins_with" dI f8)
  (d9:DI K "is_cut" li f9)
  (d10:DI K "is_leaf" ik f10)
  (d11:DI K "spots_behind" de f11)
  (d12:DI K "is_tree" fA f12)
  (d13:DI K "check_tree" cR f13)
  (d14:DI K "leaves_of" fB f14)
  (d15:DI K "pieces_of" fC f15)
  (d16:DI K "counts_of" dU f16)
  (d17:DI K "rests_of" dC f17)
  (d18:DI K "_law_cell" pi f18)
  (d19:DI K "_law_pot" xq f19)
  (d20:DI K "_law_take" pj f20)
  (d21:DI K "_law_unit" pC f21)
  (d22:DI K "_law_side" pE f22)
  (d23:DI K "_law_worth" lm f23)
  (d24:DI K "_law_shop" pF f24)
  (d25:DI K "_law_sides" lq f25)
  (d26:DI K "_law_lyings" ip f26)
  (d27:DI K "_law_behind" iq f27)
  (d28:DI K "_law_leaf" pG f28)
  (d29:DI K "_law_tree" jV f29)
  (d30:DI K "_law_lists" fX f30)
  (d31:DI K "_law_tree_spoilt" cG f31)
  (d32:DI K "_law_plain" lr f32)
  (d33:DI K "_law_is_leaf" gw f33)
  (d34:DI K "_law_walk" jW f34)
  (d35:DI K "_law_pieces" ir f35)
  (d36:DI K "_law_kept" pH f36)
  (d37:DI K "_law_came" pI f37)
  (d38:DI K "_law_put" xu f38)
  (d39:DI K "_law_begun" lx f39)
  (d40:DI K "_law_undone" iu f40)
  (d41:DI K "_law_cut" uO f41)
  (d42:DI K "_law_state" fW f42)
  (d43:DI K "_law_asked" lz f43)
  (d44:DI K "_law_did_put" ix f44)
  (d45:DI K "_law_did_cut" iw f45)
  (d46:DI K "_law_wrong" je f46)
  (d47:DI K "_law_step" pJ f47)
  (d48:DI K "law" mB f48)
  (aC:nsIn K PQ "Shop" = some (↑C))
  (dm0:MI K C "__init__" "Shop.__init__" dW fm0)
  (dm1:MI K C "blade" "Shop.blade" ej fm1)
  (dm2:MI K C "kinds" "Shop.kinds" el fm2)
  (dm3:MI K C "is_lying" "Shop.is_lying" dg fm3)
  (dm4:MI K C "sides" "Shop.sides" eA fm4)
  (pg:plainGet K C Str.empty=true)
  (hd:hasDictIn K C=true)
  (po:plainOver K C=true)
  (sa:findIn K (.ref C) "__setattr__" = some (some (.builtin "object.__setattr__")))
  (mk:makesIn K C=true)
  (kc:keepIn K (.ref C)=true)
  (n0:findIn K (.ref C) "blade_width" = some none)
  (n1:findIn K (.ref C) "kind_rows" = some none)
  (aCS:nsIn K PQ "Store" = some (↑CS))
  (do0:MI K CS "__init__" "Store.__init__" dF fo0)
  (do1:MI K CS "replace_standing" "Store.replace_standing" bH fo1)
  (do2:MI K CS "put" "Store.put" dj fo2)
  (do3:MI K CS "plate_of" "Store.plate_of" bZ fo3)
  (do4:MI K CS "cut" "Store.cut" bG fo4)
  (do5:MI K CS "plates" "Store.plates" di fo5)
  (do6:MI K CS "made" "Store.made" eE fo6)
  (do7:MI K CS "cells" "Store.cells" cH fo7)
  (do8:MI K CS "undo" "Store.undo" eF fo8)
  (pgS:plainGet K CS Str.empty=true)
  (hdS:hasDictIn K CS=true)
  (poS:plainOver K CS=true)
  (saS:findIn K (.ref CS) "__setattr__" = some (some (.builtin "object.__setattr__")))
  (mkS:makesIn K CS=true)
  (kcS:keepIn K (.ref CS)=true)
  (nS0:findIn K (.ref CS) "shop" = some none)
  (nS1:findIn K (.ref CS) "least" = some none)
  (nS2:findIn K (.ref CS) "standing" = some none)
  (nS3:findIn K (.ref CS) "past" = some none)
  (eWAYS:nsIn K PQ "WAYS" = some (↑xWAYS))
  (eNoPlate:nsIn K PQ "NoPlate" = some (↑xNoPlate))
  (eNoTree:nsIn K PQ "NoTree" = some (↑xNoTree))
  (eNoNumber:nsIn K PQ "NoNumber" = some (↑xNoNumber))
  (lWAYS:∃(o:Obj)(its:PN G0)(n:Nat),K.lookup xWAYS=some o/\o.cls=.type "tuple" /\ o.data=.seq its n/\its.size<=sizeLine/\Vals [.str "down",.str "across"] its.toList)
  (cNoPlate:excIn K xNoPlate L2.bmVE "ValueError.__new__" = true)
  (cNoTree:excIn K xNoTree L2.bmVE "ValueError.__new__" = true)
  (cNoNumber:excIn K xNoNumber L2.bmVE "ValueError.__new__" = true)
  (bNoPlate:subIn K (.ref xNoPlate) (.type "BaseException")=some true)
  (bNoTree:subIn K (.ref xNoTree) (.type "BaseException")=some true)
  (bNoNumber:subIn K (.ref xNoNumber) (.type "BaseException")=some true)
  (sNoPlate:subIn K (.ref xNoPlate) (.ref xNoPlate)=some true)
  (sNoTree:subIn K (.ref xNoTree) (.ref xNoTree)=some true)
  (sNoNumber:subIn K (.ref xNoNumber) (.ref xNoNumber)=some true)
  (sTN:subIn K (.ref xNoTree) (.ref xNoNumber)=some false)
  (z0:nsIn K PQ "isinstance" = some none)
  (z1:nsIn K PQ "int" = some none)
  (z2:nsIn K PQ "bool" = some none)
  (z3:nsIn K PQ "list" = some none)
  (z4:nsIn K PQ "tuple" = some none)
  (z5:nsIn K PQ "len" = some none)
  (z6:nsIn K PQ "range" = some none)
  (z7:nsIn K PQ "max" = some none)
  (z8:nsIn K PQ "min" = some none)
  (z9:nsIn K PQ "abs" = some none)
  (z10:nsIn K PQ "divmod" = some none)
  (z11:nsIn K PQ "sum" = some none)
  (z12:nsIn K PQ "sorted" = some none)
  (z13:nsIn K PQ "all" = some none)
  (z14:nsIn K PQ "repr" = some none)
  (z15:nsIn K PQ "zip" = some none)
  (z16:nsIn K PQ "enumerate" = some none)
  (z17:nsIn K PQ "str" = some none)
  (z18:nsIn K PQ "dict" = some none)
  (uc0:nsIn K PQ "MOST_KINDS" = some (some (.int 8 tc0)))
  (uc1:nsIn K PQ "THINGS_OF_A_KIND" = some (some (.int 5 tc1)))
  (uc2:nsIn K PQ "DOWN" = some (some (.str "down" tc2)))
  (uc3:nsIn K PQ "REST" = some (some (.str "rest" tc3)))
  (uc4:nsIn K PQ "PIECE" = some (some (.str "piece" tc4)))
  (uc5:nsIn K PQ "THINGS_OF_A_REST" = some (some (.int 1 tc5)))
  (uc6:nsIn K PQ "THINGS_OF_A_PIECE" = some (some (.int 5 tc6)))
  (uc7:nsIn K PQ "THINGS_OF_A_CUT" = some (some (.int 4 tc7))) :
  ∃fd:F8,(∀(s:F6)(v:G0),BindsTo s fd %[[v]|[]] [("_law_script",v)])/\∀base:Heap,K.In base->base.Ns PQ mg->FnOk l.prog w K mg base CX0 47 fa fd Q8 (spLaw K):=by
 obtain⟨_,an,_,_,kV,dc,pm,cd,ct,a48,l48,c48,k48⟩:=d48;have F48:=nD (st:=mB) l48 c48 k48;obtain⟨_,Fm0,bm0,km0,am0,im0⟩:=miE dm0 QC (bd3 λ _ _ _ _ _ _ _ _ _=>rfl);obtain⟨_,Fm1,bm1,km1,am1,im1⟩:=miE dm1 QE (bd1 λ _ _ _ _ _ _ _=>rfl);obtain⟨_,Fm2,bm2,km2,am2,im2⟩:=miE dm2 QE (bd1 λ _ _ _ _ _ _ _=>rfl);obtain⟨_,Fm3,bm3,km3,am3,im3⟩:=miE dm3 QF (bd3 λ _ _ _ _ _ _ _ _ _=>rfl);obtain⟨_,Fm4,bm4,km4,am4,im4⟩:=miE dm4 QF (bd3 λ _ _ _ _ _ _ _ _ _=>rfl);obtain⟨_,Fo0,bo0,ko0,ao0,io0⟩:=miE do0 Qj (bd3 λ _ _ _ _ _ _ _ _ _=>rfl);obtain⟨_,Fo1,bo1,ko1,ao1,io1⟩:=miE do1 Qe (bd2 λ _ _ _ _ _ _ _ _=>rfl);obtain⟨_,Fo2,bo2,ko2,ao2,io2⟩:=miE do2 Qh (bd3 λ _ _ _ _ _ _ _ _ _=>rfl);obtain⟨_,Fo3,bo3,ko3,ao3,io3⟩:=miE do3 Qi (bd2 λ _ _ _ _ _ _ _ _=>rfl);obtain⟨_,Fo4,bo4,ko4,ao4,io4⟩:=miE do4 Qm (bd3 λ _ _ _ _ _ _ _ _ _=>rfl);obtain⟨_,Fo5,bo5,ko5,ao5,io5⟩:=miE do5 QE (bd1 λ _ _ _ _ _ _ _=>rfl);obtain⟨_,Fo6,bo6,ko6,ao6,io6⟩:=miE do6 QE (bd1 λ _ _ _ _ _ _ _=>rfl);obtain⟨_,Fo7,bo7,ko7,ao7,io7⟩:=miE do7 QE (bd1 λ _ _ _ _ _ _ _=>rfl);obtain⟨_,Fo8,bo8,ko8,ao8,io8⟩:=miE do8 QE (bd1 λ _ _ _ _ _ _ _=>rfl);have e:=hfa.symm.trans (mg_of X G a48);cases e;have y0:=mg_none_of X G z0;have y1:=mg_none_of X G z1;have y2:=mg_none_of X G z2;have y3:=mg_none_of X G z3;have y4:=mg_none_of X G z4;have y5:=mg_none_of X G z5;have y6:=mg_none_of X G z6;have y7:=mg_none_of X G z7;have y8:=mg_none_of X G z8;have y9:=mg_none_of X G z9;have y10:=mg_none_of X G z10;have y11:=mg_none_of X G z11;have y12:=mg_none_of X G z12;have y13:=mg_none_of X G z13;have y14:=mg_none_of X G z14;have y15:=mg_none_of X G z15;have y16:=mg_none_of X G z16;have y17:=mg_none_of X G z17;have y18:=mg_none_of X G z18;have gWAYS:=mg_of X G eWAYS;have gNoPlate:=mg_of X G eNoPlate;have gNoTree:=mg_of X G eNoTree;have gNoNumber:=mg_of X G eNoNumber;have u0:=mg_of X G uc0;have u1:=mg_of X G uc1;have u2:=mg_of X G uc2;have u3:=mg_of X G uc3;have u4:=mg_of X G uc4;have u5:=mg_of X G uc5;have u6:=mg_of X G uc6;have u7:=mg_of X G uc7;have qC:=mg_of X G aC;have qCS:=mg_of X G aCS;show%[fnOf "law" "law" (defArgs mB) (defBody mB) (defScope mB) .none kV dc pm an cd ct,λ s v=>.of_eq rfl|λ base _ _=>?_];have dA:=@dnA l.prog w K h mg base X G;have dX:=@dnX l.prog w K h mg base X G;have B:Blt mg:=%[y0,y1,y2,y3,y4,y5,y6,y7,y8,y9,y10,y11,y12,y13,y14,y15,y16,%[_|u0]|%[_|u1]]
 have T:ShopTxt K C:=%[%[pg,hd,po|sa],n0|n1]
 have Z:TrC K mg xWAYS:=%[%[_|u2],%[_|u3],%[_|u4],%[_|u5],%[_|u6],%[_|u7],gWAYS|λ H=>.inr lWAYS]
 have D0:=dA d0 PX bd2 λ _ F _=>uP F B;have D1:=dA d1 QA bd1 λ _ F _=>uQ F B;have D2:=dA d2 QA bd1 λ _ F _=>zE F B;have D3:=dA d3 QA bd1 λ _ F _=>qH F B D0 D1 D2;have D4:=dA d4 QD bd1 λ _ F _=>qI F;have MB:Mn l.prog w K mg base C "blade" QE 1 (ig C):=%[_,_,uR Fm1 T,bm1|%[am1,im1|km1]]
 have MK:Mn l.prog w K mg base C "kinds" QE 1 (gq C):=%[_,_,uS Fm2 T y3,bm2|%[am2,im2|km2]]
 have MI:Mn l.prog w K mg base C "is_lying" QF 2 (fk K C):=%[_,_,nX Fm3 B T D0 D1 D4,bm3|%[am3,im3|km3]]
 have MS:Mn l.prog w K mg base C "sides" QF 3 (spSides K C):=%[_,_,uV Fm4 T MI,bm4|%[am4,im4|km4]]
 have DS:Kn l.prog w K mg base "Shop" C QC 3 (nJ C):=%[_,_,%[mk,am0,im0|kc],xA Fm0 B T D0 D2 D3,bm0|qC]
 have D5:=dA d5 QL bd2 λ _ F _=>qO F D0;have D6:=dA d6 QH bd7 λ _ F _=>uZ F T D0 MI MS;have D7:=dA d7 QI bd4 λ _ F _=>qL F Z;have D8:=dA d8 QG bd3 λ _ F _=>qK F B y17 D2;have D9:=dA d9 QJ bd2 λ _ F _=>zG F Z D8 D0;have D10:=dA d10 QK bd2 λ _ F _=>xE F Z D8 D6;have D11:=dA d11 QJ bd2 λ _ F _=>qM F Z D7;have D12:=dA d12 QN bd4 λ _ F _=>jY F T MB D5 D9 D10 D11;have D13:=dA d13 QN bd4 λ _ F _=>qY F D12;have D14:=dA d14 Qa bd4 λ _ F _=>qX F T Z MB D11;have D15:=dA d15 Qa bd4 λ _ F _=>rd F B Z D13 D14;have D16:=dA d16 Qa bd4 λ _ F _=>oj F B T MK D15;have D17:=dA d17 Qa bd4 λ _ F _=>vi F B Z D13 D14;have XCP:=dX d5 QL bd2 λ _ F _=>og F gNoPlate cNoPlate D0;have XIT:=dX d12 QN bd4 λ _ F _=>FnOk.or (FnOk.weak (jY F T MB D5 D9 D10 D11)) (FnOk.mono (oh F XCP) ∅);have XCT:=dX d13 QN bd4 λ _ F _=>oi F gNoTree cNoTree XIT;have XRe:=dX d17 Qa bd4 λ _ F _=>rf F XCT;have TS:StoreTxt K CS:=%[%[pgS,hdS,poS|saS],nS0,nS1,nS2|nS3]
 have MR:Mn l.prog w K mg base CS "replace_standing" Qe 1 (spRepl CS C):=%[_,_,xM Fo1 TS,bo1|%[ao1,io1|ko1]]
 have MPo:Mn l.prog w K mg base CS "plate_of" Qi 2 (spPlOf CS C):=%[_,_,xP Fo3 TS D0,bo3|%[ao3,io3|ko3]]
 have MPl:Mn l.prog w K mg base CS "plates" QE 1 (spPlates CS C):=%[_,_,rh Fo5 B TS,bo5|%[ao5,io5|ko5]]
 have MMd:Mn l.prog w K mg base CS "made" QE 1 (spMade CS C):=%[_,_,xN Fo6 B TS,bo6|%[ao6,io6|ko6]]
 have MCe:Mn l.prog w K mg base CS "cells" QE 2 (spCells CS C):=%[_,_,vm Fo7 B TS T MK,bo7|%[ao7,io7|ko7]]
 have MU:Mn l.prog w K mg base CS "undo" QE 1 (spUndo CS C):=%[_,_,xO Fo8 TS,bo8|%[ao8,io8|ko8]]
 have XPn:MnX l.prog w K mg base CS "plate_of" Qi 2 (spPlNo K CS C xNoNumber):=%[_,_,yg Fo3 TS D0 gNoNumber cNoNumber,bo3|%[ao3,io3|ko3]]
 have XPu:MnX l.prog w K mg base CS "put" Qh 3 (λ vs H Q E=>spPut CS C vs H Q E\/spPutNo K xNoPlate vs H Q E):=%[_,_,FnOk.or (FnOk.weak (zJ Fo2 TS D5 MR)) (vA Fo2 XCP),bo2|%[ao2,io2|ko2]]
 have XCu:MnX l.prog w K mg base CS "cut" Qm 10 (λ vs H Q E=>spCutS CS C vs H Q E\/spCutNo K CS C xNoNumber vs H Q E\/spCutBad CS C xNoTree vs H Q E):=%[_,_,FnOk.or (FnOk.weak (xV Fo4 B TS MPo MR D17 D16)) (FnOk.or (FnOk.mono (vB Fo4 TS XPn) ∅) (FnOk.mono (rq Fo4 TS MPo XRe) ∅)),bo4|%[ao4,io4|ko4]]
 have DSt:Kn l.prog w K mg base "Store" CS Qj 2 (spSInit CS C):=%[_,_,%[mkS,ao0,io0|kcS],vk Fo0 B TS T D0 MK,bo0|qCS]
 have D18:=dA d18 QO bd2 λ _ F _=>xG F B;have D19:=dA d19 QP bd2 λ _ F _=>xH F B;have D20:=dA d20 QQ bd2 λ _ F _=>xI F B;have D21:=dA d21 QR bd1 λ _ F _=>xJ F B D20;have D22:=dA d22 QS bd3 λ _ F _=>qQ F B D20;have D23:=dA d23 QR bd1 λ _ F _=>qR F B D20;have D24:=dA d24 QT bd2 λ _ F _=>va F B D20 D22 D23;have D25:=dA d25 QU bd3 λ _ F _=>qS F B;have D26:=dA d26 QV bd1 λ _ F _=>nZ F B;have D27:=dA d27 QW bd5 λ _ F _=>zI F B;have D28:=dA d28 QX bd4 λ _ F _=>vc F B D20 D25 D26;have D29:=dA d29 QY bd6 λ _ F m=>ko F B D20 D27 D28 (λ n h=>m h) 13;have D30:=dA d30 QZ bd2 λ _ F m=>kq F B D20 (λ n h=>m h) 20;have D31:=dA d31 Q3 bd2 λ _ F m=>pR F B D20 (λ n h=>m h) 6;have D32:=dA d32 Qn bd2 λ _ F _=>vp F B;have D33:=dA d33 Qo bd4 λ _ F _=>xW F B D32 D25 D26;have D34:=dA d34 Qp bd3 λ _ F m=>mF F B y17 D32 D33 D27 (λ n h=>m h) 41;have D35:=dA d35 Qq bd1 λ _ F _=>zK F B;have D36:=dA d36 Qr bd1 λ _ F _=>xZ F B y18;have D37:=dA d37 Qs bd3 λ _ F _=>ya F;have D38:=dA d38 Qs bd3 λ _ F _=>yb F D36 D37;have D39:=dA d39 Qt bd2 λ _ F _=>vy F B;have D40:=dA d40 Qr bd1 λ _ F _=>rj F;have D41:=dA d41 Qv bd4 λ _ F _=>yf F B D36 D37 D34 D35;have D42:=dA d42 Qx bd2 λ _ F _=>vz F B;have D43:=dA d43 Qz bd1 λ _ F _=>vC F B TS MPl MMd MCe;have D44:=dA d44 Q0 bd3 λ _ F _=>rA F TS XPu gNoPlate (lH cNoPlate bNoPlate sNoPlate);have D45:=dA d45 Q1 bd3 λ _ F _=>rB F TS XCu gNoNumber gNoTree (lH cNoNumber bNoNumber sNoNumber) (lH cNoNumber bNoNumber sTN) (lH cNoTree bNoTree sNoTree);have D46:=dA d46 Q6 bd4 λ _ F _=>vK F B D20 D45 D44 D31 D29 D30;have D47:=dA d47 Q7 bd5 λ _ F _=>yq F B TS D20 D45 D44 D29 D30 D46 D22 D38 D41 D40 MU;exact zW F48 B D18 D19 D21 D24 D20 DS DSt D39 D43 D42 D47
theorem walk{l:PySem.W.OpenLaw}{q:F7}{loose:PP Str}{XP:(Str->PM G0)->Heap->Prop}{YP:F9->Heap->Prop}{d:DefRec}{K:Params->C5}(hn:l.most=some 63)(hdf:d.params.defaults=[])
  (hY:∀(w:F9)(h:Heap),YP w h->(K w.params).In h)
  (F:∀(w:F9)(mg:Str->PM G0)(fa:PK)(h:Heap),(K w.params).In h->h.Ns PQ mg->mg d.name=↑fa ->
   ∃fd:F8,(∀(s:F6)(u:G0),BindsTo s fd %[[u]|[]] [("_law_script",u)])/\∀base:Heap,(K w.params).In base->base.Ns PQ mg->FnOk l.prog w (K w.params) mg base CX0 47 fa fd Q8 (spLaw (K w.params))) :
  PySem.W.WalkO q loose XP YP l.row.toRowW d [] (λ f vs=>PySem.call f vs) :=
 L2.walk_of (n:=63) (k:=47) (x := "_law_script") (CX:=λ _=>CX0) (sp:=λ w=>spLaw (K w.params)) hn ∅ hdf %[rfl,∅,∅|rfl] hY F (λ _ _ a ns hl _ hS=>%[a,ns,O,hS,hl|λ _=>rfl]) λ _ _ _ _ _ z=>z
end Pc
namespace Pc
open PySem L2
section
open PySem.W
def kE(P:Params)(n:Str)(t:Nat)(v:G0):DictEntry:=%[PyData.keyHash P n,.str n t|v]
def kO3(P:Params):Obj:=%[(.type "dict"),none,(.dict #[kE P "__name__" 165 (.str "law_platecuts_k85_stores_told" 726),kE P "__doc__" 166 .none,kE P "__package__" 167 .none,kE P "__loader__" 168 (.builtin "__main__.__loader__#opaque"),kE P "__spec__" 169 .none,kE P "__annotations__" 170 (.ref 6),kE P "__builtins__" 171 (.ref 4),kE P "__file__" 173 (.str "/claim/cut.py" 172),kE P "__cached__" 174 .none,kE P "_wall" 193 (.ref 21),kE P "PlateError" 213 (.ref 31),kE P "NoBlade" 229 (.ref 44),kE P "NoKinds" 245 (.ref 56),kE P "NoKind" 261 (.ref 68),kE P "NoLying" 277 (.ref 80),kE P "NoPlate" 293 (.ref 92),kE P "NoTree" 309 (.ref 104),kE P "NoNumber" 325 (.ref 116),kE P "is_whole" 335 (.ref 125),kE P "is_truth" 342 (.ref 132),kE P "is_row" 349 (.ref 139),kE P "check_plate" 357 (.ref 146),kE P "DOWN" 361 (.str "down" 360),kE P "ACROSS" 363 (.str "across" 362),kE P "WAYS" 364 (.ref 147),kE P "lies_in" 379 (.ref 154),kE P "cut_parts" 391 (.ref 161),kE P "REST" 395 (.str "rest" 394),kE P "PIECE" 397 (.str "piece" 396),kE P "THINGS_OF_A_REST" 399 (.int 1 398),kE P "THINGS_OF_A_PIECE" 401 (.int 5 400),kE P "THINGS_OF_A_CUT" 403 (.int 4 402),kE P "begins_with" 412 (.ref 168),kE P "is_cut" 423 (.ref 175),kE P "is_leaf" 436 (.ref 182),kE P "spots_behind" 460 (.ref 189),kE P "is_tree" 473 (.ref 196),kE P "check_tree" 483 (.ref 203),kE P "leaves_of" 496 (.ref 210),kE P "pieces_of" 519 (.ref 217),kE P "rests_of" 525 (.ref 222),kE P "counts_of" 531 (.ref 227),kE P "Store" 626 (.ref 294),kE P "MOST_KINDS" 630 (.int 8 629),kE P "THINGS_OF_A_KIND" 632 (.int 5 631),kE P "is_kind" 644 (.ref 305),kE P "can_lie_turned" 651 (.ref 312),kE P "Shop" 725 (.ref 367),kE P "_law_cell" 735 (.ref 378),kE P "_law_pot" 743 (.ref 385),kE P "_law_take" 752 (.ref 392),kE P "_law_unit" 760 (.ref 399),kE P "_law_side" 769 (.ref 406),kE P "_law_worth" 777 (.ref 413),kE P "_law_shop" 790 (.ref 420),kE P "_law_sides" 801 (.ref 427),kE P "_law_lyings" 811 (.ref 434),kE P "_law_behind" 822 (.ref 441),kE P "_law_leaf" 836 (.ref 448),kE P "_law_tree" 854 (.ref 455),kE P "_law_plain" 862 (.ref 462),kE P "_law_is_leaf" 873 (.ref 469),kE P "_law_walk" 896 (.ref 476),kE P "_law_pieces" 909 (.ref 483),kE P "_law_begun" 917 (.ref 490),kE P "_law_kept" 924 (.ref 497),kE P "_law_came" 933 (.ref 504),kE P "_law_put" 942 (.ref 511),kE P "_law_cut" 948 (.ref 516),kE P "_law_undone" 955 (.ref 523),kE P "_law_state" 961 (.ref 528),kE P "_law_asked" 968 (.ref 535),kE P "_law_lists" 974 (.ref 540),kE P "_law_did_cut" 984 (.ref 547),kE P "_law_did_put" 994 (.ref 554),kE P "_law_tree_spoilt" 1008 (.ref 561),kE P "_law_wrong" 1014 (.ref 566),kE P "_law_step" 1033 (.ref 573),kE P "law" 1048 (.ref 580)] 79)|#[]]
def gk0(x0:Str)(x1:Nat)(x2:Str)(x3 x4 x5 x6 x7 x8 x9 x10 x11 x12 x13:Nat)(P:Params):Obj:=%[(.type "code"),none,(.fields #[.str x0 x1,.str x2 x3,.str "/claim/cut.py" x4,.int x5 0,.int x6 0,.int 0 0,.int 0 0,.int 3 0,.ref x7,.bool true,.int 181 0,.ref x8,.none,.ref x9,.ref x10,.ref x11,.int x12 0,.int x5 0,.str "/claim/cut.py" x13])|#[]]
def LZ:=gk0 "_wall" 187 "_wall" 188 189 1 1 15 16 17 18 19 191 192
def gk1(x0 x1:Str)(x2:Stmt)(x3:Str)(x4 x5:Nat)(P:Params):Obj:=%[(.type "function"),none,(.func (fnOf x0 x1 (defArgs x2) (defBody x2) (defScope x2) .none .none .none (.str x3 x4) none (.ref x5) .none))|#[]]
def Ma:=gk1 "_wall" "_wall" Bj "__main__" 164 20
def Mb(P:Params):Obj:=%[(.type "dict"),none,(.dict #[kE P "__module__" 203 (.str "platecuts.errors" 194),kE P "__firstlineno__" 207 (.int 5 206),kE P "__static_attributes__" 208 (.ref 29),kE P "__weakref__" 210 (.ref 32),kE P "__doc__" 211 .none] 3)|#[]]
def Mc(P:Params):Obj:=%[(.type "type"),none,(.cls %["PlateError",[.type "ValueError"],[.ref 31,.type "ValueError",.type "Exception",.type "BaseException",.type "object"],30,"PlateError",true,[],[.ref 44,.ref 56,.ref 68,.ref 80,.ref 92,.ref 104,.ref 116],false,none|false])|#[↑22,none,some (.str "PlateError" 196),some (.str "PlateError" 204),some (.builtin "ValueError.__new__"),some (.bool true)]]
def gk2(x0 x1 x2 x3 x4 x5 x6:Nat)(P:Params):Obj:=%[(.type "dict"),none,(.dict #[kE P "__module__" x0 (.str "platecuts.errors" 194),kE P "__firstlineno__" x1 (.int x2 x3),kE P "__static_attributes__" x4 (.ref x5),kE P "__doc__" x6 .none] 2)|#[]]
def Md:=gk2 221 225 7 224 226 42 227
def gk3(x0:Str)(x1 x2 x3 x4 x5:Nat)(P:Params):Obj:=%[(.type "type"),none,(.cls %[x0,[.ref 31],[.ref x1,.ref 31,.type "ValueError",.type "Exception",.type "BaseException",.type "object"],x2,x0,true,[],[],false,none|false])|#[↑x3,none,some (.str x0 x4),some (.str x0 x5),some (.builtin "ValueError.__new__"),some (.bool true)]]
def Me:=gk3 "NoBlade" 44 43 35 214 222
def Mf:=gk2 237 241 9 240 242 54 243
def Mg:=gk3 "NoKinds" 56 55 47 230 238
def Mh:=gk2 253 257 11 256 258 66 259
def Mi:=gk3 "NoKind" 68 67 59 246 254
def Mj:=gk2 269 273 13 272 274 78 275
def Ml:=gk3 "NoLying" 80 79 71 262 270
def Mm:=gk2 285 289 15 288 290 90 291
def Mo:=gk3 "NoPlate" 92 91 83 278 286
def Bp:=gk2 301 305 17 304 306 102 307
def Bq:=gk3 "NoTree" 104 103 95 294 302
def Br:=gk2 317 321 19 320 322 114 323
def Bs:=gk3 "NoNumber" 116 115 107 310 318
def Bu:=gk0 "is_whole" 328 "is_whole" 329 330 22 2 119 120 121 122 123 333 334
def Bv:=gk1 "is_whole" "is_whole" lg "platecuts.checks" 326 124
def Bw:=gk0 "is_truth" 336 "is_truth" 337 338 24 1 126 127 128 129 130 340 341
def By:=gk1 "is_truth" "is_truth" lh "platecuts.checks" 326 131
def Bz:=gk0 "is_row" 343 "is_row" 344 345 26 1 133 134 135 136 137 347 348
def BA:=gk1 "is_row" "is_row" xo "platecuts.checks" 326 138
def BB:=gk0 "check_plate" 350 "check_plate" 351 352 28 2 140 141 142 143 144 355 356
def BC:=gk1 "check_plate" "check_plate" cF "platecuts.checks" 326 145
def BD(P:Params):Obj:=%[(.type "tuple"),none,(.seq #[.str "down" 360,.str "across" 362] 0)|#[]]
def BE:=gk0 "lies_in" 365 "lies_in" 366 367 35 7 148 149 150 151 152 377 378
def BF:=gk1 "lies_in" "lies_in" ij "platecuts.parts" 358 153
def BG:=gk0 "cut_parts" 380 "cut_parts" 381 382 40 4 155 156 157 158 159 389 390
def BH:=gk1 "cut_parts" "cut_parts" fz "platecuts.parts" 358 160
def BI:=gk0 "begins_with" 404 "begins_with" 405 406 51 3 162 163 164 165 166 410 411
def BJ:=gk1 "begins_with" "begins_with" dI "platecuts.trees" 392 167
def BK:=gk0 "is_cut" 413 "is_cut" 414 415 55 2 169 170 171 172 173 421 422
def BM:=gk1 "is_cut" "is_cut" li "platecuts.trees" 392 174
def BN:=gk0 "is_leaf" 424 "is_leaf" 425 426 62 2 176 177 178 179 180 434 435
def BO:=gk1 "is_leaf" "is_leaf" ik "platecuts.trees" 392 181
def BP:=gk0 "spots_behind" 437 "spots_behind" 438 439 67 2 183 184 185 186 187 458 459
def BQ:=gk1 "spots_behind" "spots_behind" de "platecuts.trees" 392 188
def BR:=gk0 "is_tree" 461 "is_tree" 462 463 74 4 190 191 192 193 194 471 472
def BS:=gk1 "is_tree" "is_tree" fA "platecuts.trees" 392 195
def BU:=gk0 "check_tree" 474 "check_tree" 475 476 85 4 197 198 199 200 201 481 482
def BV:=gk1 "check_tree" "check_tree" cR "platecuts.trees" 392 202
def BW:=gk0 "leaves_of" 484 "leaves_of" 485 486 88 4 204 205 206 207 208 494 495
def BX:=gk1 "leaves_of" "leaves_of" fB "platecuts.trees" 392 209
def BY:=gk0 "pieces_of" 499 "pieces_of" 500 501 99 4 211 212 213 214 215 517 518
def BZ:=gk1 "pieces_of" "pieces_of" fC "platecuts.measures" 497 216
def gk4(x0:Str)(x1:Nat)(x2:Str)(x3 x4 x5 x6 x7 x8 x9 x10 x11:Nat)(P:Params):Obj:=%[(.type "code"),none,(.fields #[.str x0 x1,.str x2 x3,.str "/claim/cut.py" x4,.int x5 0,.int x6 0,.int 0 0,.int 0 0,.int 3 0,.ref x7,.bool true,.int 181 0,.ref x8,.none,.none,.none,.ref x9,.int x10 0,.int x5 0,.str "/claim/cut.py" x11])|#[]]
def Ca:=gk4 "rests_of" 520 "rests_of" 521 522 107 4 218 219 220 523 524
def Cb:=gk1 "rests_of" "rests_of" dC "platecuts.measures" 497 221
def Cc:=gk4 "counts_of" 526 "counts_of" 527 528 111 4 223 224 225 529 530
def Cd:=gk1 "counts_of" "counts_of" dU "platecuts.measures" 497 226
def Ce:=gk4 "__init__" 546 "Store.__init__" 547 548 120 3 235 236 237 549 550
def Cf:=gk1 "__init__" "Store.__init__" dF "platecuts.stores" 532 238
def Cg:=gk0 "replace_standing" 552 "Store.replace_standing" 553 554 128 2 240 241 242 243 244 557 558
def Ch:=gk1 "replace_standing" "Store.replace_standing" bH "platecuts.stores" 532 245
def Ci:=gk0 "put" 560 "Store.put" 561 562 132 3 247 248 249 250 251 570 571
def Cj:=gk1 "put" "Store.put" dj "platecuts.stores" 532 252
def Ck:=gk0 "plate_of" 573 "Store.plate_of" 574 575 138 2 254 255 256 257 258 579 580
def Cl:=gk1 "plate_of" "Store.plate_of" bZ "platecuts.stores" 532 259
def Cm:=gk4 "cut" 582 "Store.cut" 583 584 145 3 261 262 263 585 586
def Cn:=gk1 "cut" "Store.cut" bG "platecuts.stores" 532 264
def Co:=gk0 "plates" 588 "Store.plates" 589 590 157 1 266 267 268 269 270 592 593
def Cp:=gk1 "plates" "Store.plates" di "platecuts.stores" 532 271
def Cq:=gk0 "made" 595 "Store.made" 596 597 160 1 273 274 275 276 277 599 600
def Cr:=gk1 "made" "Store.made" eE "platecuts.stores" 532 278
def Cs:=gk4 "cells" 602 "Store.cells" 603 604 163 1 280 281 282 605 606
def Ct:=gk1 "cells" "Store.cells" cH "platecuts.stores" 532 283
def Cu:=gk0 "undo" 608 "Store.undo" 609 610 169 1 285 286 287 288 289 612 613
def Cv:=gk1 "undo" "Store.undo" eF "platecuts.stores" 532 290
def Cw(P:Params):Obj:=%[(.type "dict"),none,(.dict #[kE P "__module__" 541 (.str "platecuts.stores" 532),kE P "__firstlineno__" 545 (.int 118 544),kE P "__init__" 551 (.ref 239),kE P "replace_standing" 559 (.ref 246),kE P "put" 572 (.ref 253),kE P "plate_of" 581 (.ref 260),kE P "cut" 587 (.ref 265),kE P "plates" 594 (.ref 272),kE P "made" 601 (.ref 279),kE P "cells" 607 (.ref 284),kE P "undo" 614 (.ref 291),kE P "__static_attributes__" 619 (.ref 292),kE P "__dict__" 621 (.ref 295),kE P "__weakref__" 623 (.ref 296),kE P "__doc__" 624 .none] 4)|#[]]
def gk5(x0:Str)(x1 x2 x3 x4:Nat)(P:Params):Obj:=%[(.type "type"),none,(.cls %[x0,[.type "object"],[.ref x1,.type "object"],x2,x0,true,[],[],false,none|false])|#[none,none,some (.str x0 x3),some (.str x0 x4),some (.builtin "object.__new__"),some (.bool true)]]
def Cy:=gk5 "Store" 294 293 534 542
def Cz:=gk0 "is_kind" 633 "is_kind" 634 635 177 1 299 300 301 302 303 642 643
def CA:=gk1 "is_kind" "is_kind" im "platecuts.shops" 627 304
def CB:=gk0 "can_lie_turned" 645 "can_lie_turned" 646 647 184 1 306 307 308 309 310 649 650
def CC:=gk1 "can_lie_turned" "can_lie_turned" io "platecuts.shops" 627 311
def CD:=gk4 "__init__" 664 "Shop.__init__" 665 666 188 3 320 321 322 667 668
def CF:=gk1 "__init__" "Shop.__init__" dW "platecuts.shops" 627 323
def CG:=gk0 "blade" 670 "Shop.blade" 671 672 199 1 325 326 327 328 329 674 675
def CI:=gk1 "blade" "Shop.blade" ej "platecuts.shops" 627 330
def CJ:=gk0 "kinds" 677 "Shop.kinds" 678 679 202 1 332 333 334 335 336 681 682
def CK:=gk1 "kinds" "Shop.kinds" el "platecuts.shops" 627 337
def CL:=gk4 "wanted" 684 "Shop.wanted" 685 686 205 1 339 340 341 687 688
def CM:=gk1 "wanted" "Shop.wanted" my "platecuts.shops" 627 342
def CN:=gk0 "lyings" 690 "Shop.lyings" 691 692 208 1 344 345 346 347 348 694 695
def CO:=gk1 "lyings" "Shop.lyings" mz "platecuts.shops" 627 349
def CP:=gk0 "is_lying" 697 "Shop.is_lying" 698 699 211 3 351 352 353 354 355 703 704
def CQ:=gk1 "is_lying" "Shop.is_lying" dg "platecuts.shops" 627 356
def CT:=gk0 "sides" 706 "Shop.sides" 707 708 216 3 358 359 360 361 362 713 714
def CU:=gk1 "sides" "Shop.sides" eA "platecuts.shops" 627 363
def CV(P:Params):Obj:=%[(.type "dict"),none,(.dict #[kE P "__module__" 659 (.str "platecuts.shops" 627),kE P "__firstlineno__" 663 (.int 186 662),kE P "__init__" 669 (.ref 324),kE P "blade" 676 (.ref 331),kE P "kinds" 683 (.ref 338),kE P "wanted" 689 (.ref 343),kE P "lyings" 696 (.ref 350),kE P "is_lying" 705 (.ref 357),kE P "sides" 715 (.ref 364),kE P "__static_attributes__" 718 (.ref 365),kE P "__dict__" 720 (.ref 368),kE P "__weakref__" 722 (.ref 369),kE P "__doc__" 723 .none] 4)|#[]]
def CW:=gk5 "Shop" 367 366 652 660
def CY:=gk0 "_law_cell" 728 "_law_cell" 729 730 224 2 372 373 374 375 376 733 734
def CZ:=gk1 "_law_cell" "_law_cell" pi "law_platecuts_k85_stores_told" 726 377
def Da:=gk0 "_law_pot" 736 "_law_pot" 737 738 228 2 379 380 381 382 383 741 742
def Db:=gk1 "_law_pot" "_law_pot" xq "law_platecuts_k85_stores_told" 726 384
def Dc:=gk0 "_law_take" 744 "_law_take" 745 746 230 2 386 387 388 389 390 750 751
def De:=gk1 "_law_take" "_law_take" pj "law_platecuts_k85_stores_told" 726 391
def Df:=gk0 "_law_unit" 753 "_law_unit" 754 755 237 1 393 394 395 396 397 758 759
def Dg:=gk1 "_law_unit" "_law_unit" pC "law_platecuts_k85_stores_told" 726 398
def Dh:=gk0 "_law_side" 761 "_law_side" 762 763 240 3 400 401 402 403 404 767 768
def Di:=gk1 "_law_side" "_law_side" pE "law_platecuts_k85_stores_told" 726 405
def Dj:=gk0 "_law_worth" 770 "_law_worth" 771 772 244 1 407 408 409 410 411 775 776
def Dk:=gk1 "_law_worth" "_law_worth" lm "law_platecuts_k85_stores_told" 726 412
def Dl:=gk0 "_law_shop" 778 "_law_shop" 779 780 247 2 414 415 416 417 418 788 789
def Dm:=gk1 "_law_shop" "_law_shop" pF "law_platecuts_k85_stores_told" 726 419
def Do:=gk0 "_law_sides" 791 "_law_sides" 792 793 255 3 421 422 423 424 425 799 800
def Dp:=gk1 "_law_sides" "_law_sides" lq "law_platecuts_k85_stores_told" 726 426
def Dq:=gk0 "_law_lyings" 802 "_law_lyings" 803 804 258 1 428 429 430 431 432 809 810
def Dr:=gk1 "_law_lyings" "_law_lyings" ip "law_platecuts_k85_stores_told" 726 433
def Ds:=gk0 "_law_behind" 812 "_law_behind" 813 814 265 5 435 436 437 438 439 820 821
def Du:=gk1 "_law_behind" "_law_behind" iq "law_platecuts_k85_stores_told" 726 440
def Dv:=gk0 "_law_leaf" 823 "_law_leaf" 824 825 269 4 442 443 444 445 446 834 835
def Dw:=gk1 "_law_leaf" "_law_leaf" pG "law_platecuts_k85_stores_told" 726 447
def Dx:=gk0 "_law_tree" 837 "_law_tree" 838 839 280 6 449 450 451 452 453 852 853
def Dy:=gk1 "_law_tree" "_law_tree" jV "law_platecuts_k85_stores_told" 726 454
def Dz:=gk0 "_law_plain" 855 "_law_plain" 856 857 291 2 456 457 458 459 460 860 861
def DA:=gk1 "_law_plain" "_law_plain" lr "law_platecuts_k85_stores_told" 726 461
def DG:=gk0 "_law_is_leaf" 863 "_law_is_leaf" 864 865 293 4 463 464 465 466 467 871 872
def DH:=gk1 "_law_is_leaf" "_law_is_leaf" gw "law_platecuts_k85_stores_told" 726 468
def DJ:=gk0 "_law_walk" 874 "_law_walk" 875 876 300 3 470 471 472 473 474 894 895
def DM:=gk1 "_law_walk" "_law_walk" jW "law_platecuts_k85_stores_told" 726 475
def DN:=gk0 "_law_pieces" 897 "_law_pieces" 898 899 321 1 477 478 479 480 481 907 908
def DO:=gk1 "_law_pieces" "_law_pieces" ir "law_platecuts_k85_stores_told" 726 482
def DQ:=gk0 "_law_begun" 910 "_law_begun" 911 912 327 2 484 485 486 487 488 915 916
def DV:=gk1 "_law_begun" "_law_begun" lx "law_platecuts_k85_stores_told" 726 489
def DY:=gk0 "_law_kept" 918 "_law_kept" 919 920 329 1 491 492 493 494 495 922 923
def DZ:=gk1 "_law_kept" "_law_kept" pH "law_platecuts_k85_stores_told" 726 496
def Ea:=gk0 "_law_came" 925 "_law_came" 926 927 331 3 498 499 500 501 502 931 932
def Eb:=gk1 "_law_came" "_law_came" pI "law_platecuts_k85_stores_told" 726 503
def Ec:=gk0 "_law_put" 934 "_law_put" 935 936 335 3 505 506 507 508 509 940 941
def Ed:=gk1 "_law_put" "_law_put" xu "law_platecuts_k85_stores_told" 726 510
def Ee:=gk4 "_law_cut" 943 "_law_cut" 944 945 339 4 512 513 514 946 947
def Ef:=gk1 "_law_cut" "_law_cut" uO "law_platecuts_k85_stores_told" 726 515
def Eg:=gk0 "_law_undone" 949 "_law_undone" 950 951 351 1 517 518 519 520 521 953 954
def Eh:=gk1 "_law_undone" "_law_undone" iu "law_platecuts_k85_stores_told" 726 522
def Ei:=gk4 "_law_state" 956 "_law_state" 957 958 356 2 524 525 526 959 960
def Ej:=gk1 "_law_state" "_law_state" fW "law_platecuts_k85_stores_told" 726 527
def Ek:=gk0 "_law_asked" 962 "_law_asked" 963 964 361 1 529 530 531 532 533 966 967
def El:=gk1 "_law_asked" "_law_asked" lz "law_platecuts_k85_stores_told" 726 534
def Em:=gk4 "_law_lists" 969 "_law_lists" 970 971 363 2 536 537 538 972 973
def En:=gk1 "_law_lists" "_law_lists" fX "law_platecuts_k85_stores_told" 726 539
def Eo:=gk0 "_law_did_cut" 975 "_law_did_cut" 976 977 367 3 541 542 543 544 545 982 983
def Ep:=gk1 "_law_did_cut" "_law_did_cut" iw "law_platecuts_k85_stores_told" 726 546
def Er:=gk0 "_law_did_put" 985 "_law_did_put" 986 987 376 3 548 549 550 551 552 992 993
def Es:=gk1 "_law_did_put" "_law_did_put" ix "law_platecuts_k85_stores_told" 726 553
def Et:=gk0 "_law_tree_spoilt" 995 "_law_tree_spoilt" 996 997 383 2 555 556 557 558 559 1006 1007
def Eu:=gk1 "_law_tree_spoilt" "_law_tree_spoilt" cG "law_platecuts_k85_stores_told" 726 560
def Ev:=gk4 "_law_wrong" 1009 "_law_wrong" 1010 1011 396 4 562 563 564 1012 1013
def Ew:=gk1 "_law_wrong" "_law_wrong" je "law_platecuts_k85_stores_told" 726 565
def Ex:=gk0 "_law_step" 1015 "_law_step" 1016 1017 413 5 567 568 569 570 571 1031 1032
def Ey:=gk1 "_law_step" "_law_step" pJ "law_platecuts_k85_stores_told" 726 572
def Ez:=gk0 "law" 1034 "law" 1035 1036 437 1 574 575 576 577 578 1046 1047
def EA:=gk1 "law" "law" mB "law_platecuts_k85_stores_told" 726 579
def kK:Params->Frag:=λ P=>3∘kO3 :: 20∘LZ :: 21∘Ma :: 30∘Mb :: 31∘Mc :: 43∘Md :: 44∘Me :: 55∘Mf :: 56∘Mg :: 67∘Mh :: 68∘Mi :: 79∘Mj :: 80∘Ml :: 91∘Mm :: 92∘Mo :: 103∘Bp :: 104∘Bq :: 115∘Br :: 116∘Bs :: 124∘Bu :: 125∘Bv :: 131∘Bw :: 132∘By :: 138∘Bz :: 139∘BA :: 145∘BB :: 146∘BC :: 147∘BD :: 153∘BE :: 154∘BF :: 160∘BG :: 161∘BH :: 167∘BI :: 168∘BJ :: 174∘BK :: 175∘BM :: 181∘BN :: 182∘BO :: 188∘BP :: 189∘BQ :: 195∘BR :: 196∘BS :: 202∘BU :: 203∘BV :: 209∘BW :: 210∘BX :: 216∘BY :: 217∘BZ :: 221∘Ca :: 222∘Cb :: 226∘Cc :: 227∘Cd :: 238∘Ce :: 239∘Cf :: 245∘Cg :: 246∘Ch :: 252∘Ci :: 253∘Cj :: 259∘Ck :: 260∘Cl :: 264∘Cm :: 265∘Cn :: 271∘Co :: 272∘Cp :: 278∘Cq :: 279∘Cr :: 283∘Cs :: 284∘Ct :: 290∘Cu :: 291∘Cv :: 293∘Cw :: 294∘Cy :: 304∘Cz :: 305∘CA :: 311∘CB :: 312∘CC :: 323∘CD :: 324∘CF :: 330∘CG :: 331∘CI :: 337∘CJ :: 338∘CK :: 342∘CL :: 343∘CM :: 349∘CN :: 350∘CO :: 356∘CP :: 357∘CQ :: 363∘CT :: 364∘CU :: 366∘CV :: 367∘CW :: 377∘CY :: 378∘CZ :: 384∘Da :: 385∘Db :: 391∘Dc :: 392∘De :: 398∘Df :: 399∘Dg :: 405∘Dh :: 406∘Di :: 412∘Dj :: 413∘Dk :: 419∘Dl :: 420∘Dm :: 426∘Do :: 427∘Dp :: 433∘Dq :: 434∘Dr :: 440∘Ds :: 441∘Du :: 447∘Dv :: 448∘Dw :: 454∘Dx :: 455∘Dy :: 461∘Dz :: 462∘DA :: 468∘DG :: 469∘DH :: 475∘DJ :: 476∘DM :: 482∘DN :: 483∘DO :: 489∘DQ :: 490∘DV :: 496∘DY :: 497∘DZ :: 503∘Ea :: 504∘Eb :: 510∘Ec :: 511∘Ed :: 515∘Ee :: 516∘Ef :: 522∘Eg :: 523∘Eh :: 527∘Ei :: 528∘Ej :: 534∘Ek :: 535∘El :: 539∘Em :: 540∘En :: 546∘Eo :: 547∘Ep :: 553∘Er :: 554∘Es :: 560∘Et :: 561∘Eu :: 565∘Ev :: 566∘Ew :: 572∘Ex :: 573∘Ey :: 579∘Ez :: 580∘EA :: []
end
end Pc
abbrev PySem.W.Fast.tw4537676678846378255:PySem.Program:=PySem.Challenge.pw_platecuts_k85_stores_told
theorem PySem.W.Fast.te4537676678846378255:PySem.Challenge.pw_platecuts_k85_stores_told=PySem.W.Fast.tw4537676678846378255:=rfl
namespace Hd
open PySem PySem.W
def S0:Str:="__name__"
def S2:Str:="__doc__"
def S3:Str:="__package__"
def S4:Str:="__loader__"
def S5:Str:="__spec__"
def EB:Str:="__main__"
def Mp:Str:="__annotations__"
def Mq:Str:="__builtins__"
def Mr:Str:="__file__"
def oC:Str:=%[|%[|[47,99,108,97,105,109,47,99,117,116,46,112,121]]]
def Ms:Str:="__cached__"
def Mt:Str:="<module>"
def cy:Str:="law_platecuts_k85_stores_told"
def rE:Str:="_wall"
def mS:Str:="PlateError"
def vL:Str:="NoBlade"
def vM:Str:="NoKinds"
def vN:Str:="NoKind"
def vO:Str:="NoLying"
def vP:Str:="NoPlate"
def vQ:Str:="NoTree"
def vR:Str:="NoNumber"
def rF:Str:="is_whole"
def rG:Str:="is_truth"
def rH:Str:="is_row"
def rJ:Str:="check_plate"
def EC:Str:="DOWN"
def ED:Str:="down"
def EE:Str:="ACROSS"
def EF:Str:="across"
def EG:Str:="WAYS"
def rK:Str:="lies_in"
def rL:Str:="cut_parts"
def EH:Str:="REST"
def Mu:Str:="rest"
def EI:Str:="PIECE"
def Mv:Str:="piece"
def EJ:Str:="THINGS_OF_A_REST"
def EK:Str:="THINGS_OF_A_PIECE"
def EL:Str:="THINGS_OF_A_CUT"
def rM:Str:="begins_with"
def rN:Str:="is_cut"
def rO:Str:="is_leaf"
def rP:Str:="spots_behind"
def rQ:Str:="is_tree"
def rR:Str:="check_tree"
def rS:Str:="leaves_of"
def rT:Str:="pieces_of"
def rV:Str:="rests_of"
def rW:Str:="counts_of"
def vS:Str:="Store"
def EM:Str:="MOST_KINDS"
def EN:Str:="THINGS_OF_A_KIND"
def rX:Str:="is_kind"
def rY:Str:="can_lie_turned"
def vT:Str:="Shop"
def rZ:Str:="_law_cell"
def si:Str:="_law_pot"
def sj:Str:="_law_take"
def sk:Str:="_law_unit"
def sr:Str:="_law_side"
def ss:Str:="_law_worth"
def su:Str:="_law_shop"
def sw:Str:="_law_sides"
def sC:Str:="_law_lyings"
def sE:Str:="_law_behind"
def sG:Str:="_law_leaf"
def sH:Str:="_law_tree"
def sI:Str:="_law_plain"
def sJ:Str:="_law_is_leaf"
def sK:Str:="_law_walk"
def sL:Str:="_law_pieces"
def sM:Str:="_law_begun"
def sN:Str:="_law_kept"
def sO:Str:="_law_came"
def sP:Str:="_law_put"
def sQ:Str:="_law_cut"
def sR:Str:="_law_undone"
def sS:Str:="_law_state"
def sU:Str:="_law_asked"
def sV:Str:="_law_lists"
def sW:Str:="_law_did_cut"
def sX:Str:="_law_did_put"
def sY:Str:="_law_tree_spoilt"
def tj:Str:="_law_wrong"
def tm:Str:="_law_step"
def vU:Str:="law"
def Mw:Str:="k"
def oE:Str:="__module__"
def jr:Str:="platecuts.errors"
def zZ:Str:="__qualname__"
def oF:Str:="__firstlineno__"
def oG:Str:="__static_attributes__"
def yr:Str:="__weakref__"
def oH:Str:="thing"
def EO:Str:="least"
def yt:Str:="platecuts.checks"
def js:Str:="wide"
def jt:Str:="high"
def oI:Str:="shop"
def vV:Str:="kind"
def yu:Str:="turned"
def yw:Str:="x"
def yx:Str:="y"
def Mx:Str:="piece_wide"
def My:Str:="piece_high"
def EQ:Str:="platecuts.parts"
def lI:Str:="blade"
def Mz:Str:="part"
def Aa:Str:="way"
def ER:Str:="p"
def ES:Str:="word"
def MA:Str:="many"
def oJ:Str:="platecuts.trees"
def vW:Str:="spot"
def vX:Str:="tree"
def MD:Str:="side"
def MF:Str:="first"
def MG:Str:="second"
def MH:Str:="wide_ahead"
def MJ:Str:="high_ahead"
def MN:Str:="wide_behind"
def MO:Str:="high_behind"
def MQ:Str:="step"
def MT:Str:="far_x"
def MV:Str:="far_y"
def ET:Str:="waiting"
def MW:Str:="leaves"
def MY:Str:="pieces"
def MZ:Str:="part_wide"
def Na:Str:="part_high"
def Nb:Str:="leaf"
def Nc:Str:="piece_x"
def Nd:Str:="piece_y"
def Ab:Str:="platecuts.measures"
def hW:Str:="platecuts.stores"
def jv:Str:="__init__"
def vY:Str:="replace_standing"
def vZ:Str:="put"
def wc:Str:="plate_of"
def we:Str:="cut"
def tD:Str:="plates"
def tE:Str:="made"
def wf:Str:="cells"
def wg:Str:="undo"
def Ac:Str:="Store.__init__"
def ju:Str:="self"
def EU:Str:="standing"
def Ad:Str:="Store.replace_standing"
def EV:Str:="number"
def Nf:Str:="cells_put"
def Ae:Str:="Store.put"
def Ng:Str:="plate"
def Af:Str:="Store.plate_of"
def Ag:Str:="Store.cut"
def Ah:Str:="Store.plates"
def Ai:Str:="Store.made"
def Aj:Str:="Store.cells"
def Ak:Str:="Store.undo"
def Nh:Str:="past"
def Al:Str:="__dict__"
def Ni:Str:="worth"
def tF:Str:="wanted"
def Nj:Str:="turns"
def hX:Str:="platecuts.shops"
def wj:Str:="kinds"
def wk:Str:="lyings"
def wm:Str:="is_lying"
def wn:Str:="sides"
def Am:Str:="Shop.__init__"
def An:Str:="Shop.blade"
def Ao:Str:="Shop.kinds"
def Ap:Str:="Shop.wanted"
def Aq:Str:="Shop.lyings"
def Ar:Str:="Shop.is_lying"
def Nk:Str:="row"
def As:Str:="Shop.sides"
def Nl:Str:="blade_width"
def Nm:Str:="kind_rows"
def EW:Str:="_law_script"
def wu:Str:="_law_k"
def Nn:Str:="_law_cell_here"
def lJ:Str:="_law_pot_here"
def No:Str:="_law_many"
def Np:Str:="_law_digit"
def At:Str:="_law_some"
def yy:Str:="_law_unit_here"
def Nq:Str:="_law_most"
def Nr:Str:="_law_blade"
def Nt:Str:="_law_kinds"
def hZ:Str:="_law_wide"
def ia:Str:="_law_high"
def jw:Str:="_law_shop_here"
def Au:Str:="_law_kind"
def EX:Str:="_law_turned"
def yA:Str:="_law_found"
def ww:Str:="_law_way"
def Av:Str:="_law_p"
def EY:Str:="_law_own"
def Nu:Str:="_law_deep"
def Nv:Str:="_law_room"
def Nw:Str:="_law_side_here"
def EZ:Str:="_law_one"
def Fa:Str:="_law_other"
def Aw:Str:="_law_first"
def Ny:Str:="_law_thing"
def Ax:Str:="_law_least"
def wz:Str:="_law_tree_here"
def Nz:Str:="_law_part"
def Fb:Str:="_law_x"
def Fc:Str:="_law_y"
def Fd:Str:="_law_second"
def NA:Str:="_law_far"
def NB:Str:="_law_start"
def NC:Str:="_law_left"
def ND:Str:="_law_right"
def NE:Str:="_law_leaves"
def NF:Str:="_law_leaf_here"
def tG:Str:="_law_model"
def wA:Str:="_law_store"
def Fe:Str:="_law_number"
def Ff:Str:="_law_told"
def NG:Str:="_law_size"
def NH:Str:="_law_turn"
def NI:Str:="_law_words"
def NJ:Str:="_law_numbers"
def NK:Str:="_law_handed"
abbrev HK:Hook:=kHook Pc.kK [nat_lit 3,nat_lit 20,nat_lit 21,nat_lit 30,nat_lit 31,nat_lit 43,nat_lit 44,nat_lit 55,nat_lit 56,nat_lit 67,nat_lit 68,nat_lit 79,nat_lit 80,nat_lit 91,nat_lit 92,nat_lit 103,nat_lit 104,nat_lit 115,nat_lit 116,nat_lit 124,nat_lit 125,nat_lit 131,nat_lit 132,nat_lit 138,nat_lit 139,nat_lit 145,nat_lit 146,nat_lit 147,nat_lit 153,nat_lit 154,nat_lit 160,nat_lit 161,nat_lit 167,nat_lit 168,nat_lit 174,nat_lit 175,nat_lit 181,nat_lit 182,nat_lit 188,nat_lit 189,nat_lit 195,nat_lit 196,nat_lit 202,nat_lit 203,nat_lit 209,nat_lit 210,nat_lit 216,nat_lit 217,nat_lit 221,nat_lit 222,nat_lit 226,nat_lit 227,nat_lit 238,nat_lit 239,nat_lit 245,nat_lit 246,nat_lit 252,nat_lit 253,nat_lit 259,nat_lit 260,nat_lit 264,nat_lit 265,nat_lit 271,nat_lit 272,nat_lit 278,nat_lit 279,nat_lit 283,nat_lit 284,nat_lit 290,nat_lit 291,nat_lit 293,nat_lit 294,nat_lit 304,nat_lit 305,nat_lit 311,nat_lit 312,nat_lit 323,nat_lit 324,nat_lit 330,nat_lit 331,nat_lit 337,nat_lit 338,nat_lit 342,nat_lit 343,nat_lit 349,nat_lit 350,nat_lit 356,nat_lit 357,nat_lit 363,nat_lit 364,nat_lit 366,nat_lit 367,nat_lit 377,nat_lit 378,nat_lit 384,nat_lit 385,nat_lit 391,nat_lit 392,nat_lit 398,nat_lit 399,nat_lit 405,nat_lit 406,nat_lit 412,nat_lit 413,nat_lit 419,nat_lit 420,nat_lit 426,nat_lit 427,nat_lit 433,nat_lit 434,nat_lit 440,nat_lit 441,nat_lit 447,nat_lit 448,nat_lit 454,nat_lit 455,nat_lit 461,nat_lit 462,nat_lit 468,nat_lit 469,nat_lit 475,nat_lit 476,nat_lit 482,nat_lit 483,nat_lit 489,nat_lit 490,nat_lit 496,nat_lit 497,nat_lit 503,nat_lit 504,nat_lit 510,nat_lit 511,nat_lit 515,nat_lit 516,nat_lit 522,nat_lit 523,nat_lit 527,nat_lit 528,nat_lit 534,nat_lit 535,nat_lit 539,nat_lit 540,nat_lit 546,nat_lit 547,nat_lit 553,nat_lit 554,nat_lit 560,nat_lit 561,nat_lit 565,nat_lit 566,nat_lit 572,nat_lit 573,nat_lit 579,nat_lit 580] (λ _=>by kernel_rfl)
abbrev pt:F7:=PySem.W.Fast.tw4537676678846378255
theorem pt_eq:PySem.Challenge.pw_platecuts_k85_stores_told=pt:=PySem.W.Fast.te4537676678846378255
def tp(i:Nat):Stmt:=pt.main.body.getD i (.Pass %[0,0,0|0])
abbrev f(o:Params->Obj)(l r:Params->BT):Params->BT:=λ P=>.node (o P) (l P) (r P)
abbrev z:Params->BT:=λ _=>.nil
abbrev e(P:Params)(n:Str)(t:Nat)(v:G0):DictEntry:=%[PyData.keyHash P n,.str n t|v]
abbrev m0:Nat:=nat_lit 11
abbrev an:PM G0:=(↑6)
abbrev en:Env:={ scope:=pt.main.scope,locals:=mainNs,globals:=mainNs,cells:=[],code:=(.ref 13),frame:=some 14 }
abbrev cE:Code:=.body (behindTheImports pt) en
abbrev qP:Pos:=%[0,0,0|0]
abbrev B:PP Frame:=[topFrame qP]
abbrev L0:=SL.s14018661285674007319x4
abbrev L1:=SL.s11665532747177232413x24
abbrev L2:=SL.s15183661809925369436x15
abbrev L3:=SL.s13915890719876406383x10
abbrev L4:=SL.s13459172003223722735x3
abbrev L5:=SL.s10557405761357834076x3
abbrev L6:=SL.s4233737765568776869x3
abbrev L7:=SL.s2508922471967985374x5
abbrev L8:=SL.s15574269061696679450x3
abbrev L9:=SL.s6016482663378992977x10
abbrev L10:=SL.s5596568736180474577x8
abbrev L11:=SL.s2839554839881490554x3
abbrev L12:=SL.s725004073602090463x7
abbrev L13:=SL.s9436932552931045734x7
abbrev L14:=SL.s2754603736356183583x3
abbrev L15:=SL.s15185746759980889043x6
abbrev L16:=SL.s8192189862530294059x4
abbrev L17:=SL.s7038307821325472102x4
abbrev L18:=SL.s5662562618415449548x6
abbrev L19:=SL.s15281542589158584767x7
abbrev L20:=SL.s17651547275483570877x7
abbrev L21:=SL.s4036449017235975746x7
abbrev L22:=SL.s8879979712987360175x4
abbrev L23:=SL.s1801250619170735830x3
abbrev L24:=SL.s17659931425627118568x2
abbrev L25:=SL.s6063217899685152688x5
abbrev L26:=SL.s8008927332132565319x10
abbrev L27:=SL.s3544116645089599534x10
abbrev L28:=SL.s13761710972054866084x4
abbrev L29:=SL.s12896375587409280029x5
abbrev L30:=SL.s13014049009108672802x3
abbrev L31:=SL.s13935586738268321596x6
abbrev L32:=SL.s8200498257699607233x3
abbrev L33:=SL.s14114244577727609259x3
abbrev L34:=SL.s1499430450269397089x4
abbrev L35:=SL.s8755793994789770505x5
abbrev L36:=SL.s15725212667919936108x3
abbrev L37:=SL.s15791221867095933363x3
abbrev L38:=SL.s81309575031448614x3
abbrev L39:=SL.s8069831620301644142x5
abbrev L40:=SL.s10061844253413749634x4
abbrev L41:=SL.s9496514870978017513x5
abbrev L42:=SL.s8899691144933366716x7
abbrev L43:=SL.s15201008993051130160x6
abbrev L44:=SL.s741896355592496720x3
abbrev L45:=SL.s17925004256654032244x4
abbrev L46:=SL.s11695548795398191787x4
abbrev L47:=SL.s4156966113859768872x10
abbrev L48:=SL.s9501651726347032510x9
abbrev L49:=SL.s15722918466584999320x5
abbrev L50:=SL.s591115383303110208x11
abbrev L51:=SL.s15721156781594690315x7
abbrev L52:=SL.s14340494229221121180x9
abbrev L53:=SL.s13429844117177748173x6
abbrev L54:=SL.s16463266125957815391x5
abbrev L55:=SL.s4922535414793169389x9
abbrev L56:=SL.s8101838861749082086x8
abbrev L57:=SL.s7066276694103001551x3
abbrev L58:=SL.s9222952809800978799x4
abbrev L59:=SL.s462964344163437139x3
abbrev L60:=SL.s2742458400755230247x6
abbrev L61:=SL.s1438033511350832697x5
abbrev L62:=SL.s14365286008749172514x8
abbrev L63:=SL.s3642769012341782148x3
abbrev L64:=SL.s4674234679698826739x5
abbrev L65:=SL.s16656946322747308186x12
abbrev L66:=SL.s10796804682411823810x3
abbrev L67:=SL.s4290257624100764138x5
abbrev L68:=SL.s2766695959194262286x5
abbrev L69:=SL.s17162191345867700912x4
abbrev L70:=SL.s14339709457334898076x3
abbrev L71:=SL.s4278001404047624695x13
abbrev L72:=SL.s6585700554429387442x18
abbrev L73:=SL.s5946037652744460706x9
abbrev L74:=SL.s7410770068591931388x13
abbrev L75:=SL.s11817881795495490833x17
abbrev L76:=SL.s15679963881808890155x10
abbrev L77:=SL.s3871700062485845797x15
abbrev L78:=SL.s7689518266570723881x14
abbrev L79:=SL.s9001593270443806431x14
abbrev L80:=SL.s6882542574934516792x11
abbrev L81:=SL.s14403400214490484960x8
abbrev L82:=SL.s14457978657717015782x11
abbrev L83:=SL.s1753610191782819921x11
abbrev L84:=SL.s14119380538032626715x11
abbrev L85:=SL.s11437920000406562045x9
abbrev L86:=SL.s10852414792293593619x7
abbrev L87:=SL.s14816307405966870543x14
abbrev L88:=SL.s8682627914449686677x12
abbrev L89:=SL.s4428170145600203450x18
abbrev L90:=SL.s5991306692159431302x13
abbrev L91:=SL.s16067994140765818257x11
abbrev L92:=SL.s2327743974964600596x11
abbrev L93:=SL.s2804747833354056582x9
abbrev L94:=SL.s6070975301684473832x10
abbrev L95:=SL.s14270485950484850486x7
abbrev L96:=SL.s12041534306414923332x18
abbrev L97:=SL.s2531307568338490285x13
abbrev L98:=SL.s631175304937289666x17
abbrev L99:=SL.s5144983644357021410x12
abbrev NX:=SL.s18039099521571816885x18
abbrev NY:=SL.s6011586214260557989x15
abbrev NZ:=SL.s5430567037509283100x13
abbrev Oa:=SL.s8117915138073963741x13
abbrev Ob:=SL.s3423317712779056401x25
abbrev Oc:=SL.s2007317383269046180x15
abbrev Od:=SL.s17481586968713580700x14
abbrev Oe:=SL.s2450899226349176912x13
abbrev Of:=SL.s16626165730633575011x14
abbrev Og:=SL.s14288496050688921416x11
abbrev Oh:=SL.s5735081916595925998x15
abbrev Oi:=SL.s3865607918536308442x17
abbrev Oj:=SL.s13337502604062700212x15
abbrev Ol:=SL.s13114017843053701147x15
abbrev Om:=SL.s17467278006356818441x17
abbrev On:=SL.s17722149559621369488x16
abbrev Oo:=SL.s7855274175708717672x17
abbrev Op:=SL.s13351283678309829046x18
abbrev Oq:=SL.s6668348653404991179x15
abbrev Os:=SL.s12913350958174193794x18
abbrev Ot:=SL.s16115879512475548326x12
abbrev Ou:=SL.s15920661018069861047x16
abbrev Ov:=SL.s10779130036587390575x21
abbrev Ow:=SL.s7801419657504700863x10
abbrev Ox:=SL.s1688129525768580628x8
abbrev Oy:=SL.s1031832959479892071x19
abbrev Oz:=SL.s8991790508128307865x19
abbrev OA:=SL.s14539662485746970245x23
abbrev OB:=SL.s11643622729373238714x14
abbrev OC:=SL.s3386828779285465597x17
abbrev OD:=SL.s13042696260734638735x12
abbrev OE:=SL.s18239426817015966623x15
abbrev OF:=SL.s1270395311379034370x22
abbrev OG:=SL.s10696252587037064777x22
abbrev OH:=SL.s7852717498200857586x20
abbrev OI:=SL.s6377248116197321094x8
abbrev OJ:=SL.s3834378056692298002x18
abbrev OL:=SL.s17586630440231065808x18
abbrev OM:=SL.s15234114252648025395x21
abbrev ON:=SL.s8496462677383758984x14
abbrev OO:=SL.s16789243406116112673x4
abbrev OP:=SL.s14400166428656793546x20
abbrev OQ:=SL.s5857708277339239366x20
abbrev OR:=SL.s7804999707787243718x20
abbrev NL:=SL.s7097527257260152453x26
abbrev OS:=SL.s6658869562736209489x6
abbrev Ay:=SL.s5856160107412720595x4
abbrev NM:=SL.s658472552662922059x5
abbrev sZ(w:F9)(os:OsState):F6:=%[boot_heap w.params,Array.mk [],boot_drawn,boot_toks|os]
def o11(P:Params):Obj:=%[(.type L68),none,(.seq #[] 0)|#[]]
def o12(P:Params):Obj:=%[.none,none,(.fields #[])|#[]]
def g0(x0:Str)(x1 x2 x3:Nat)(P:Params):Obj:=%[(.type Ay),none,(.fields #[.str x0 x1,.str x0 (x1+1),.str oC (x1+2),.int x2 0,.int 0 0,.int 0 0,.int 0 0,.int 0 0,.ref x3,.bool false,.int 181 0,.ref (x3+1),.none,.none,.none,.none,.int (x1+3) 0,.int x2 0,.str oC (x1+4)])|#[]]
def o13:=g0 Mt 182 1 11
def g1(x0 x1:Nat)(x2:Str)(x3:Nat)(P:Params):Obj:=%[(.type NM),none,.plain|#[↑x0,↑3,↑x1,none,some (.str x2 x3),none,↑0]]
def o14:=g1 13 3 EB 164
def hA(P:Params):Heap:=%[%[|[boot_o_0 P,boot_o_1 P,boot_o_2 P,boot_o_3 P,boot_o_4 P,boot_o_5 P,boot_o_6 P,boot_o_7 P,boot_o_8 P,boot_o_9 P,boot_o_10 P,o11 P,o12 P,o13 P,o14 P]]|{ }]
abbrev sA(w:F9)(os:OsState):F6:=%[hA w.params,(Array.mk []),%[0,0,0|0],187|os]
abbrev pA:Pos:=%[0,0,0|0]
theorem pre(w:F9):(λ os=>topGo treeTable pt w m0 an 12 (sZ w os) (topStub pt))=λ os=>some (sA w os,(%[denote treeTable cE,cE,pA|B]:Thread)):=by rw[PySem.W.Fast.te15667345088766844465,PySem.W.Fast.te14364793385576792824,PySem.W.Fast.te11892475500146522536];kernel_rfl
def tB:Params->BT:=(f boot_o_0 (f boot_o_1 (f boot_o_3 (f boot_o_7 z z) (f o11 z z)) (f boot_o_5 (f boot_o_9 z z) (f o13 z z))) (f boot_o_2 (f boot_o_4 (f boot_o_8 z z) (f o12 z z)) (f boot_o_6 (f boot_o_10 z z) (f o14 z z))))
abbrev sB(w:F9)(os:OsState):SharedT:=%[tB w.params,15,{ },(Array.mk []),%[0,0,0|0],187|os]
abbrev pB:Pos:=%[0,0,0|0]
theorem blk(w:F9):(λ os=>segRun treeTable pt w m0 an 1 1 (sA w os) ⟨(blockStart (behindTheImports pt) en).wrap (λ _=>doneF .next) deadEnd id id,cE,pA,B⟩)=λ os=>some (.next,(sB w os).abs,cE,pB):=by rw[PySem.W.Fast.te14374325043358763698,PySem.W.Fast.te14364793385576792824,PySem.W.Fast.te1066825118222455980];kernel_rfl
def Fg(P:Params):Obj:=%[(.type L0),none,(.dict #[e P S0 165 (.str cy 726),e P S2 166 .none,e P S3 167 .none,e P S4 168 (.builtin NL),e P S5 169 .none,e P Mp 170 (.ref 6),e P Mq 171 (.ref 4),e P Mr 173 (.str oC 172),e P Ms 174 .none,e P rE 193 (.ref 21),e P mS 213 (.ref 31),e P vL 229 (.ref 44),e P vM 245 (.ref 56),e P vN 261 (.ref 68),e P vO 277 (.ref 80),e P vP 293 (.ref 92),e P vQ 309 (.ref 104),e P vR 325 (.ref 116),e P rF 335 (.ref 125),e P rG 342 (.ref 132),e P rH 349 (.ref 139),e P rJ 357 (.ref 146),e P EC 361 (.str ED 360),e P EE 363 (.str EF 362),e P EG 364 (.ref 147),e P rK 379 (.ref 154),e P rL 391 (.ref 161),e P EH 395 (.str Mu 394),e P EI 397 (.str Mv 396),e P EJ 399 (.int 1 398),e P EK 401 (.int 5 400),e P EL 403 (.int 4 402),e P rM 412 (.ref 168),e P rN 423 (.ref 175),e P rO 436 (.ref 182),e P rP 460 (.ref 189),e P rQ 473 (.ref 196),e P rR 483 (.ref 203),e P rS 496 (.ref 210),e P rT 519 (.ref 217),e P rV 525 (.ref 222),e P rW 531 (.ref 227),e P vS 626 (.ref 294),e P EM 630 (.int 8 629),e P EN 632 (.int 5 631),e P rX 644 (.ref 305),e P rY 651 (.ref 312),e P vT 725 (.ref 367),e P rZ 735 (.ref 378),e P si 743 (.ref 385),e P sj 752 (.ref 392),e P sk 760 (.ref 399),e P sr 769 (.ref 406),e P ss 777 (.ref 413),e P su 790 (.ref 420),e P sw 801 (.ref 427),e P sC 811 (.ref 434),e P sE 822 (.ref 441),e P sG 836 (.ref 448),e P sH 854 (.ref 455),e P sI 862 (.ref 462),e P sJ 873 (.ref 469),e P sK 896 (.ref 476),e P sL 909 (.ref 483),e P sM 917 (.ref 490),e P sN 924 (.ref 497),e P sO 933 (.ref 504),e P sP 942 (.ref 511),e P sQ 948 (.ref 516),e P sR 955 (.ref 523),e P sS 961 (.ref 528),e P sU 968 (.ref 535),e P sV 974 (.ref 540),e P sW 984 (.ref 547),e P sX 994 (.ref 554),e P sY 1008 (.ref 561),e P tj 1014 (.ref 566),e P tm 1033 (.ref 573),e P vU 1048 (.ref 580)] 79)|#[]]
def yO(P:Params):Obj:=%[.none,none,(.fields #[.int 1 0,.int 0 0,.ref 20,.int 5 0,.int 0 0,.ref 27,.int 7 0,.int 0 0,.ref 40,.int 9 0,.int 0 0,.ref 52,.int 11 0,.int 0 0,.ref 64,.int 13 0,.int 0 0,.ref 76,.int 15 0,.int 0 0,.ref 88,.int 17 0,.int 0 0,.ref 100,.int 19 0,.int 0 0,.ref 112,.int 22 0,.int 0 0,.ref 124,.int 24 0,.int 0 0,.ref 131,.int 26 0,.int 0 0,.ref 138,.int 28 0,.int 0 0,.ref 145,.int 35 0,.int 0 0,.ref 153,.int 40 0,.int 0 0,.ref 160,.int 51 0,.int 0 0,.ref 167,.int 55 0,.int 0 0,.ref 174,.int 62 0,.int 0 0,.ref 181,.int 67 0,.int 0 0,.ref 188,.int 74 0,.int 0 0,.ref 195,.int 85 0,.int 0 0,.ref 202,.int 88 0,.int 0 0,.ref 209,.int 99 0,.int 0 0,.ref 216,.int 107 0,.int 0 0,.ref 221,.int 111 0,.int 0 0,.ref 226,.int 118 0,.int 0 0,.ref 233,.int 177 0,.int 0 0,.ref 304,.int 184 0,.int 0 0,.ref 311,.int 186 0,.int 0 0,.ref 318,.int 224 0,.int 0 0,.ref 377,.int 228 0,.int 0 0,.ref 384,.int 230 0,.int 0 0,.ref 391,.int 237 0,.int 0 0,.ref 398,.int 240 0,.int 0 0,.ref 405,.int 244 0,.int 0 0,.ref 412,.int 247 0,.int 0 0,.ref 419,.int 255 0,.int 0 0,.ref 426,.int 258 0,.int 0 0,.ref 433,.int 265 0,.int 0 0,.ref 440,.int 269 0,.int 0 0,.ref 447,.int 280 0,.int 0 0,.ref 454,.int 291 0,.int 0 0,.ref 461,.int 293 0,.int 0 0,.ref 468,.int 300 0,.int 0 0,.ref 475,.int 321 0,.int 0 0,.ref 482,.int 327 0,.int 0 0,.ref 489,.int 329 0,.int 0 0,.ref 496,.int 331 0,.int 0 0,.ref 503,.int 335 0,.int 0 0,.ref 510,.int 339 0,.int 0 0,.ref 515,.int 351 0,.int 0 0,.ref 522,.int 356 0,.int 0 0,.ref 527,.int 361 0,.int 0 0,.ref 534,.int 363 0,.int 0 0,.ref 539,.int 367 0,.int 0 0,.ref 546,.int 376 0,.int 0 0,.ref 553,.int 383 0,.int 0 0,.ref 560,.int 396 0,.int 0 0,.ref 565,.int 413 0,.int 0 0,.ref 572,.int 437 0,.int 0 0,.ref 579])|#[]]
def g2(x0:Str)(x1:Nat)(P:Params):Obj:=%[(.type L68),none,(.seq #[.str x0 x1] 0)|#[]]
def o17:=g2 Mw 190
def g3(x0:Str)(x1:Nat)(P:Params):Obj:=%[.none,none,(.func %[x0,x0,L2.defArgs (tp x1),(.stmts (L2.defBody (tp x1))),L2.defScope (tp x1),0,[],.none,.none,.none,.none,none,.none,.none|0])|#[]]
def o19:=g3 rE 0
def g4(x0:Str)(x1:Nat)(x2:Str)(x3 x4 x5 x6:Nat)(P:Params):Obj:=%[(.type Ay),none,(.fields #[.str x0 x1,.str x2 (x1+1),.str oC (x1+2),.int x3 0,.int x4 0,.int 0 0,.int 0 0,.int 3 0,.ref x5,.bool true,.int 181 0,.ref (x5+1),.none,.ref (x5+2),.ref (x5+3),.ref (x5+4),.int x6 0,.int x3 0,.str oC (x6+1)])|#[]]
def o20:=g4 rE 187 rE 1 1 15 191
abbrev Fh:=SL.s7174869446012820540x8
def g5(x0:Str)(x1:Nat)(x2:Str)(x3 x4:Nat)(P:Params):Obj:=%[(.type Fh),none,(.func %[x0,x0,L2.defArgs (tp x1),(.stmts (L2.defBody (tp x1))),L2.defScope (tp x1),3,[],.none,.none,.none,.str x2 x3,none,.ref x4,.none|0])|#[]]
def o21:=g5 rE 0 EB 164 20
def o22(P:Params):Obj:=%[(.type L68),none,(.seq #[.type L94] 0)|#[]]
abbrev Fi:=SL.s11030030927630378310x26
abbrev NO:=SL.s10062305145149207511x16
def o23(P:Params):Obj:=%[(.type Fi),none,(.fields #[.builtin NO,.type L69])|#[]]
def g6(x0:Nat)(x1:Str)(x2 x3:Nat)(P:Params):Obj:=%[(.type L0),none,(.dict #[e P oE x0 (.str jr 194),e P zZ (x0+2) (.str x1 (x0+1)),e P oF (x0+4) (.int x2 (x0+3)),e P oG (x0+5) (.ref x3)] 4)|#[]]
def o24:=g6 203 mS 5 29
def o27:=g0 mS 198 5 25
def o28:=g1 27 24 jr 194
def o30(P:Params):Obj:=%[(.type L0),none,(.dict #[e P oE 203 (.str jr 194),e P oF 207 (.int 5 206),e P oG 208 (.ref 29),e P yr 210 (.ref 32),e P S2 211 .none] 3)|#[]]
abbrev Fj:=SL.s4209523147560561109x18
def o31(P:Params):Obj:=%[(.type L69),none,(.cls %[mS,[.type L94],[.ref 31,.type L94,.type L73,.type L71,.type L60],30,mS,true,[],[.ref 44,.ref 56,.ref 68,.ref 80,.ref 92,.ref 104,.ref 116],false,none|false])|#[↑22,none,some (.str mS 196),some (.str mS 204),some (.builtin Fj),some (.bool true)]]
abbrev Fk:=SL.s14755015743595814543x17
abbrev NQ:=SL.s10220274742760427390x26
def g7(x0 x1:Nat)(P:Params):Obj:=%[(.type Fk),none,(.fields #[.str yr x0,.ref x1,.builtin NQ,.none])|#[]]
def o32:=g7 209 31
def g8(x0:Nat)(P:Params):Obj:=%[(.type L67),none,(.fields #[.ref x0,.ref x0,.ref x0])|#[]]
def o33:=g8 31
abbrev NR:=SL.s4860613602091757760x24
def g9(x0:Nat)(P:Params):Obj:=%[(.type Fi),none,(.fields #[.builtin NR,.ref x0])|#[]]
def o34:=g9 31
def o35(P:Params):Obj:=%[(.type L68),none,(.seq #[.ref 31] 0)|#[]]
def o37:=g6 221 vL 7 42
def o40:=g0 vL 216 7 38
def o41:=g1 40 37 jr 194
def g10(x0 x1 x2:Nat)(P:Params):Obj:=%[(.type L0),none,(.dict #[e P oE x0 (.str jr 194),e P oF (x0+4) (.int x1 (x0+3)),e P oG (x0+5) (.ref x2),e P S2 (x0+6) .none] 2)|#[]]
def o43:=g10 221 7 42
def g11(x0:Str)(x1 x2 x3 x4:Nat)(P:Params):Obj:=%[(.type L69),none,(.cls %[x0,[.ref 31],[.ref x1,.ref 31,.type L94,.type L73,.type L71,.type L60],x2,x0,true,[],[],false,none|false])|#[↑x3,none,some (.str x0 x4),some (.str x0 (x4+8)),some (.builtin Fj),some (.bool true)]]
def o44:=g11 vL 44 43 35 214
def o45:=g8 44
def o46:=g9 44
def o49:=g6 237 vM 9 54
def o52:=g0 vM 232 9 50
def o53:=g1 52 49 jr 194
def o55:=g10 237 9 54
def o56:=g11 vM 56 55 47 230
def o57:=g8 56
def o58:=g9 56
def o61:=g6 253 vN 11 66
def o64:=g0 vN 248 11 62
def o65:=g1 64 61 jr 194
def o67:=g10 253 11 66
def o68:=g11 vN 68 67 59 246
def o69:=g8 68
def o70:=g9 68
def o73:=g6 269 vO 13 78
def o76:=g0 vO 264 13 74
def o77:=g1 76 73 jr 194
def o79:=g10 269 13 78
def o80:=g11 vO 80 79 71 262
def o81:=g8 80
def o82:=g9 80
def o85:=g6 285 vP 15 90
def o88:=g0 vP 280 15 86
def o89:=g1 88 85 jr 194
def o91:=g10 285 15 90
def o92:=g11 vP 92 91 83 278
def o93:=g8 92
def o94:=g9 92
def o97:=g6 301 vQ 17 102
def Fl:=g0 vQ 296 17 98
def Fm:=g1 100 97 jr 194
def Fn:=g10 301 17 102
def Fo:=g11 vQ 104 103 95 294
def Fp:=g8 104
def Fq:=g9 104
def Fs:=g6 317 vR 19 114
def Ft:=g0 vR 312 19 110
def Fu:=g1 112 109 jr 194
def Fv:=g10 317 19 114
def Fw:=g11 vR 116 115 107 310
def Fx:=g8 116
def Fy:=g9 116
def g12(x0:Str)(x1:Nat)(x2:Str)(x3:Nat)(P:Params):Obj:=%[(.type L68),none,(.seq #[.str x0 x1,.str x2 x3] 0)|#[]]
def Fz:=g12 oH 331 EO 332
def FA:=g3 rF 11
def FB:=g4 rF 328 rF 22 2 119 333
def FC:=g5 rF 11 yt 326 124
def FE:=g2 oH 339
def FF:=g3 rG 12
def FG:=g4 rG 336 rG 24 1 126 340
def FH:=g5 rG 12 yt 326 131
def FI:=g2 oH 346
def FJ:=g3 rH 13
def FK:=g4 rH 343 rH 26 1 133 347
def FL:=g5 rH 13 yt 326 138
def FM:=g12 js 353 jt 354
def FN:=g3 rJ 14
def FO:=g4 rJ 350 rJ 28 2 140 355
def FP:=g5 rJ 14 yt 326 145
def FQ:=g12 ED 360 EF 362
def g13(x0:Str)(x1:Nat)(x2 x3 x4 x5 x6 x7 x8 x9:Str)(P:Params):Obj:=%[(.type L68),none,(.seq #[.str x0 x1,.str x2 (x1+1),.str x3 (x1+2),.str x4 (x1+3),.str x5 (x1+4),.str x6 (x1+5),.str x7 (x1+6),.str x8 (x1+7),.str x9 (x1+8)] 0)|#[]]
def FR:=g13 oI 368 js jt vV yu yw yx Mx My
def FS:=g3 rK 19
def FT:=g4 rK 365 rK 35 7 148 377
def FU:=g5 rK 19 EQ 358 153
def g14(x0:Str)(x1:Nat)(x2 x3 x4 x5 x6:Str)(P:Params):Obj:=%[(.type L68),none,(.seq #[.str x0 x1,.str x2 (x1+1),.str x3 (x1+2),.str x4 (x1+3),.str x5 (x1+4),.str x6 (x1+5)] 0)|#[]]
def FV:=g14 lI 383 Mz Aa ER js jt
def FW:=g3 rL 20
def FX:=g4 rL 380 rL 40 4 155 389
def FY:=g5 rL 20 EQ 358 160
def g15(x0:Str)(x1:Nat)(x2 x3:Str)(P:Params):Obj:=%[(.type L68),none,(.seq #[.str x0 x1,.str x2 (x1+1),.str x3 (x1+2)] 0)|#[]]
def FZ:=g15 oH 407 ES MA
def Ga:=g3 rM 27
def Gb:=g4 rM 404 rM 51 3 162 410
def Gc:=g5 rM 27 oJ 392 167
def g16(x0:Str)(x1:Nat)(x2 x3 x4 x5:Str)(P:Params):Obj:=%[(.type L68),none,(.seq #[.str x0 x1,.str x2 (x1+1),.str x3 (x1+2),.str x4 (x1+3),.str x5 (x1+4)] 0)|#[]]
def Ge:=g16 lI 416 vW vX Aa MD
def Gf:=g3 rN 28
def Gg:=g4 rN 413 rN 55 2 169 421
def Gh:=g5 rN 28 oJ 392 174
def g17(x0:Str)(x1:Nat)(x2 x3 x4 x5 x6 x7:Str)(P:Params):Obj:=%[(.type L68),none,(.seq #[.str x0 x1,.str x2 (x1+1),.str x3 (x1+2),.str x4 (x1+3),.str x5 (x1+4),.str x6 (x1+5),.str x7 (x1+6)] 0)|#[]]
def Gi:=g17 oI 427 vW yw yx js jt vX
def Gj:=g3 rO 29
def Gk:=g4 rO 424 rO 62 2 176 434
def Gm:=g5 rO 29 oJ 392 181
def Gn(P:Params):Obj:=%[(.type L68),none,(.seq #[.str lI 440,.str vW 441,.str yw 442,.str yx 443,.str js 444,.str jt 445,.str vX 446,.str Aa 447,.str ER 448,.str MF 449,.str MG 450,.str MH 451,.str MJ 452,.str MN 453,.str MO 454,.str MQ 455,.str MT 456,.str MV 457] 0)|#[]]
def Go:=g3 rP 30
def Gp:=g4 rP 437 rP 67 2 183 458
def Gq:=g5 rP 30 oJ 392 188
def Gr:=g17 oI 464 js jt oH lI ET vW
def Gs:=g3 rQ 31
def Gu:=g4 rQ 461 rQ 74 4 190 471
def Gv:=g5 rQ 31 oJ 392 195
def g18(x0:Str)(x1:Nat)(x2 x3 x4:Str)(P:Params):Obj:=%[(.type L68),none,(.seq #[.str x0 x1,.str x2 (x1+1),.str x3 (x1+2),.str x4 (x1+3)] 0)|#[]]
def Gw:=g18 oI 477 js jt oH
def Gx:=g3 rR 32
def Gy:=g4 rR 474 rR 85 4 197 481
def Gz:=g5 rR 32 oJ 392 202
def GA:=g17 oI 487 js jt vX MW ET vW
def GB:=g3 rS 33
def GC:=g4 rS 484 rS 88 4 204 494
def GD:=g5 rS 33 oJ 392 209
def GE(P:Params):Obj:=%[(.type L68),none,(.seq #[.str oI 502,.str js 503,.str jt 504,.str vX 505,.str MY 506,.str yw 507,.str yx 508,.str MZ 509,.str Na 510,.str Nb 511,.str ES 512,.str vV 513,.str yu 514,.str Nc 515,.str Nd 516] 0)|#[]]
def GF:=g3 rT 35
def GG:=g4 rT 499 rT 99 4 211 517
def GH:=g5 rT 35 Ab 497 216
def GJ:=g3 rV 36
def g19(x0:Str)(x1:Nat)(x2:Str)(x3 x4 x5:Nat)(P:Params):Obj:=%[(.type Ay),none,(.fields #[.str x0 x1,.str x2 (x1+1),.str oC (x1+2),.int x3 0,.int x4 0,.int 0 0,.int 0 0,.int 3 0,.ref x5,.bool true,.int 181 0,.ref (x5+1),.none,.none,.none,.ref (x5+2),.int (x1+3) 0,.int x3 0,.str oC (x1+4)])|#[]]
def GK:=g19 rV 520 rV 107 4 218
def GL:=g5 rV 36 Ab 497 221
def GM:=g3 rW 37
def GN:=g19 rW 526 rW 111 4 223
def GO:=g5 rW 37 Ab 497 226
def GP(P:Params):Obj:=%[(.type L0),none,(.dict #[e P oE 541 (.str hW 532),e P zZ 543 (.str vS 542),e P oF 545 (.int 118 544),e P jv 551 (.ref 239),e P vY 559 (.ref 246),e P vZ 572 (.ref 253),e P wc 581 (.ref 260),e P we 587 (.ref 265),e P tD 594 (.ref 272),e P tE 601 (.ref 279),e P wf 607 (.ref 284),e P wg 614 (.ref 291),e P oG 619 (.ref 292)] 13)|#[]]
def GQ(P:Params):Obj:=%[.none,none,(.fields #[.int 120 0,.int 4 0,.ref 238,.int 128 0,.int 4 0,.ref 245,.int 132 0,.int 4 0,.ref 252,.int 138 0,.int 4 0,.ref 259,.int 145 0,.int 4 0,.ref 264,.int 157 0,.int 4 0,.ref 271,.int 160 0,.int 4 0,.ref 278,.int 163 0,.int 4 0,.ref 283,.int 169 0,.int 4 0,.ref 290])|#[]]
def GR:=g0 vS 536 118 231
def GS:=g1 233 230 hW 532
def g20(x0 x1:Str)(x2 x3:Nat)(P:Params):Obj:=%[.none,none,(.func %[x0,x1,L2.defArgs (L2.inClass (tp x2) x3),(.stmts (L2.defBody (L2.inClass (tp x2) x3))),L2.defScope (L2.inClass (tp x2) x3),0,[],.none,.none,.none,.none,none,.none,.none|0])|#[]]
def GT:=g20 jv Ac 39 0
def GU:=g19 jv 546 Ac 120 3 235
def g21(x0 x1:Str)(x2 x3:Nat)(x4:Str)(x5 x6:Nat)(P:Params):Obj:=%[(.type Fh),none,(.func %[x0,x1,L2.defArgs (L2.inClass (tp x2) x3),(.stmts (L2.defBody (L2.inClass (tp x2) x3))),L2.defScope (L2.inClass (tp x2) x3),3,[],.none,.none,.none,.str x4 x5,none,.ref x6,.none|0])|#[]]
def GV:=g21 jv Ac 39 0 hW 532 238
def GW:=g12 ju 555 EU 556
def GX:=g20 vY Ad 39 1
def GY:=g4 vY 552 Ad 128 2 240 557
def GZ:=g21 vY Ad 39 1 hW 532 245
def Hi:=g17 ju 563 js jt tD EV tE Nf
def Hj:=g20 vZ Ae 39 2
def Hk:=g4 vZ 560 Ae 132 3 247 570
def Hl:=g21 vZ Ae 39 2 hW 532 252
def Hn:=g15 ju 576 EV Ng
def Ho:=g20 wc Af 39 3
def Hq:=g4 wc 573 Af 138 2 254 579
def Hr:=g21 wc Af 39 3 hW 532 259
def Hs:=g20 we Ag 39 4
def Ht:=g19 we 582 Ag 145 3 261
def Hu:=g21 we Ag 39 4 hW 532 264
def Hv:=g2 ju 591
def Hw:=g20 tD Ah 39 5
def HA:=g4 tD 588 Ah 157 1 266 592
def HB:=g21 tD Ah 39 5 hW 532 271
def HC:=g2 ju 598
def HD:=g20 tE Ai 39 6
def HE:=g4 tE 595 Ai 160 1 273 599
def HF:=g21 tE Ai 39 6 hW 532 278
def HG:=g20 wf Aj 39 7
def HI:=g19 wf 602 Aj 163 1 280
def HJ:=g21 wf Aj 39 7 hW 532 283
def HL:=g2 ju 611
def HM:=g20 wg Ak 39 8
def HN:=g4 wg 608 Ak 169 1 285 612
def HP:=g21 wg Ak 39 8 hW 532 290
def HQ:=g18 EO 615 Nh oI EU
def HR(P:Params):Obj:=%[(.type L0),none,(.dict #[e P oE 541 (.str hW 532),e P oF 545 (.int 118 544),e P jv 551 (.ref 239),e P vY 559 (.ref 246),e P vZ 572 (.ref 253),e P wc 581 (.ref 260),e P we 587 (.ref 265),e P tD 594 (.ref 272),e P tE 601 (.ref 279),e P wf 607 (.ref 284),e P wg 614 (.ref 291),e P oG 619 (.ref 292),e P Al 621 (.ref 295),e P yr 623 (.ref 296),e P S2 624 .none] 4)|#[]]
abbrev NS:=SL.s11443829558043349243x14
def g22(x0:Str)(x1 x2 x3:Nat)(P:Params):Obj:=%[(.type L69),none,(.cls %[x0,[.type L60],[.ref x1,.type L60],x2,x0,true,[],[],false,none|false])|#[none,none,some (.str x0 x3),some (.str x0 (x3+8)),some (.builtin NS),some (.bool true)]]
def HS:=g22 vS 294 293 534
abbrev NU:=SL.s6511155373996960695x17
abbrev NV:=SL.s12411053484034534018x21
def g23(x0 x1:Nat)(P:Params):Obj:=%[(.type Fk),none,(.fields #[.str Al x0,.ref x1,.builtin NU,.builtin NV])|#[]]
def HU:=g23 620 294
def HV:=g7 622 294
def HW:=g8 294
def HX:=g9 294
def HY:=g14 oH 636 js jt Ni tF Nj
def HZ:=g3 rX 43
def Ia:=g4 rX 633 rX 177 1 299 642
def Ib:=g5 rX 43 hX 627 304
def Ic:=g2 vV 648
def Id:=g3 rY 44
def Ie:=g4 rY 645 rY 184 1 306 649
def Ig:=g5 rY 44 hX 627 311
def Ih(P:Params):Obj:=%[(.type L0),none,(.dict #[e P oE 659 (.str hX 627),e P zZ 661 (.str vT 660),e P oF 663 (.int 186 662),e P jv 669 (.ref 324),e P lI 676 (.ref 331),e P wj 683 (.ref 338),e P tF 689 (.ref 343),e P wk 696 (.ref 350),e P wm 705 (.ref 357),e P wn 715 (.ref 364),e P oG 718 (.ref 365)] 11)|#[]]
def Ii(P:Params):Obj:=%[.none,none,(.fields #[.int 188 0,.int 4 0,.ref 323,.int 199 0,.int 4 0,.ref 330,.int 202 0,.int 4 0,.ref 337,.int 205 0,.int 4 0,.ref 342,.int 208 0,.int 4 0,.ref 349,.int 211 0,.int 4 0,.ref 356,.int 216 0,.int 4 0,.ref 363])|#[]]
def Ij:=g0 vT 654 186 316
def Ik:=g1 318 315 hX 627
def Il:=g20 jv Am 45 0
def Im:=g19 jv 664 Am 188 3 320
def Io:=g21 jv Am 45 0 hX 627 323
def Ip:=g2 ju 673
def Iq:=g20 lI An 45 1
def Ir:=g4 lI 670 An 199 1 325 674
def Iu:=g21 lI An 45 1 hX 627 330
def Iv:=g2 ju 680
def Iw:=g20 wj Ao 45 2
def Ix:=g4 wj 677 Ao 202 1 332 681
def Iy:=g21 wj Ao 45 2 hX 627 337
def Iz:=g20 tF Ap 45 3
def IA:=g19 tF 684 Ap 205 1 339
def IB:=g21 tF Ap 45 3 hX 627 342
def IC:=g2 ju 693
def ID:=g20 wk Aq 45 4
def IE:=g4 wk 690 Aq 208 1 344 694
def IF:=g21 wk Aq 45 4 hX 627 349
def IG:=g15 ju 700 vV yu
def IH:=g20 wm Ar 45 5
def II:=g4 wm 697 Ar 211 3 351 703
def IJ:=g21 wm Ar 45 5 hX 627 356
def IK:=g18 ju 709 vV yu Nk
def IL:=g20 wn As 45 6
def IM:=g4 wn 706 As 216 3 358 713
def IN:=g21 wn As 45 6 hX 627 363
def IO:=g12 Nl 716 Nm 717
def IP(P:Params):Obj:=%[(.type L0),none,(.dict #[e P oE 659 (.str hX 627),e P oF 663 (.int 186 662),e P jv 669 (.ref 324),e P lI 676 (.ref 331),e P wj 683 (.ref 338),e P tF 689 (.ref 343),e P wk 696 (.ref 350),e P wm 705 (.ref 357),e P wn 715 (.ref 364),e P oG 718 (.ref 365),e P Al 720 (.ref 368),e P yr 722 (.ref 369),e P S2 723 .none] 4)|#[]]
def IQ:=g22 vT 367 366 652
def IR:=g23 719 367
def IS:=g7 721 367
def IT:=g8 367
def IU:=g9 367
def IV:=g12 EW 731 wu 732
def IW:=g3 rZ 47
def IX:=g4 rZ 728 rZ 224 2 372 733
def IY:=g5 rZ 47 cy 726 377
def IZ:=g12 Nn 739 wu 740
def Ja:=g3 si 48
def Jb:=g4 si 736 si 228 2 379 741
def Jc:=g5 si 48 cy 726 384
def Jd:=g15 lJ 747 No Np
def Je:=g3 sj 49
def Jf:=g4 sj 744 sj 230 2 386 750
def Jg:=g5 sj 49 cy 726 391
def Jh:=g12 lJ 756 At 757
def Ji:=g3 sk 50
def Jj:=g4 sk 753 sk 237 1 393 758
def Jk:=g5 sk 50 cy 726 398
def Jl:=g15 lJ 764 yy Nq
def Jm:=g3 sr 51
def Jn:=g4 sr 761 sr 240 3 400 767
def Jo:=g5 sr 51 cy 726 405
def Jp:=g12 lJ 773 At 774
def Jq:=g3 ss 52
def Jr:=g4 ss 770 ss 244 1 407 775
def Js:=g5 ss 52 cy 726 412
def Jt:=g17 lJ 781 yy Nr Nt wu hZ ia
def Ju:=g3 su 53
def Jv:=g4 su 778 su 247 2 414 788
def Jw:=g5 su 53 cy 726 419
def Jx:=g16 jw 794 Au EX hZ ia
def Jy:=g3 sw 54
def Jz:=g4 sw 791 sw 255 3 421 799
def JA:=g5 sw 54 cy 726 426
def JB:=g18 jw 805 yA wu Au
def JC:=g3 sC 55
def JD:=g4 sC 802 sC 258 1 428 809
def JE:=g5 sC 55 cy 726 433
def JF:=g16 jw 815 hZ ia ww Av
def JG:=g3 sE 56
def JH:=g4 sE 812 sE 265 5 435 820
def JI:=g5 sE 56 cy 726 440
def g24(x0:Nat)(x1 x2 x3 x4 x5 x6 x7:Str)(P:Params):Obj:=%[(.type L68),none,(.seq #[.str lJ x0,.str x1 (x0+1),.str x2 (x0+2),.str x3 (x0+3),.str x4 (x0+4),.str x5 (x0+5),.str x6 (x0+6),.str x7 (x0+7)] 0)|#[]]
def JJ:=g24 826 jw hZ ia At Au EX EY
def JK:=g3 sG 57
def JL:=g4 sG 823 sG 269 4 442 834
def JM:=g5 sG 57 cy 726 447
def JN(P:Params):Obj:=%[(.type L68),none,(.seq #[.str lJ 840,.str jw 841,.str hZ 842,.str ia 843,.str Nu 844,.str Nv 845,.str ww 846,.str Nw 847,.str Av 848,.str EZ 849,.str Fa 850,.str Aw 851] 0)|#[]]
def JO:=g3 sH 58
def JP:=g4 sH 837 sH 280 6 449 852
def JQ:=g5 sH 58 cy 726 454
def JR:=g12 Ny 858 Ax 859
def JS:=g3 sI 59
def JT:=g4 sI 855 sI 291 2 456 860
def JU:=g5 sI 59 cy 726 461
def JV:=g16 jw 866 hZ ia wz EY
def JW:=g3 sJ 60
def JX:=g4 sJ 863 sJ 293 4 463 871
def JY:=g5 sJ 60 cy 726 468
def JZ(P:Params):Obj:=%[(.type L68),none,(.seq #[.str jw 877,.str Nz 878,.str wz 879,.str Fb 880,.str Fc 881,.str hZ 882,.str ia 883,.str ww 884,.str Av 885,.str Aw 886,.str Fd 887,.str EZ 888,.str Fa 889,.str NA 890,.str NB 891,.str NC 892,.str ND 893] 0)|#[]]
def Ka:=g3 sK 61
def Kb:=g4 sK 874 sK 300 3 470 894
def Kc:=g5 sK 61 cy 726 475
def Ke:=g17 NE 900 yA Fb Fc hZ ia NF
def Kf:=g3 sL 62
def Kg:=g4 sL 897 sL 321 1 477 907
def Kh:=g5 sL 62 cy 726 482
def Ki:=g12 jw 913 Ax 914
def Kj:=g3 sM 63
def Kk:=g4 sM 910 sM 327 2 484 915
def Kl:=g5 sM 63 cy 726 489
def Km:=g2 tG 921
def Ko:=g3 sN 64
def Kp:=g4 sN 918 sN 329 1 491 922
def Kq:=g5 sN 64 cy 726 496
def Kr:=g15 tG 928 hZ ia
def Ks:=g3 sO 65
def Kt:=g4 sO 925 sO 331 3 498 931
def Ku:=g5 sO 65 cy 726 503
def Kv:=g15 tG 937 hZ ia
def Kw:=g3 sP 66
def Kx:=g4 sP 934 sP 335 3 505 940
def Ky:=g5 sP 66 cy 726 510
def Kz:=g3 sQ 67
def KA:=g19 sQ 943 sQ 339 4 512
def KB:=g5 sQ 67 cy 726 515
def KC:=g2 tG 952
def KD:=g3 sR 68
def KF:=g4 sR 949 sR 351 1 517 953
def KG:=g5 sR 68 cy 726 522
def KH:=g3 sS 69
def KI:=g19 sS 956 sS 356 2 524
def KJ:=g5 sS 69 cy 726 527
def KL:=g2 wA 965
def KM:=g3 sU 70
def KN:=g4 sU 962 sU 361 1 529 966
def KO:=g5 sU 70 cy 726 534
def KP:=g3 sV 71
def KQ:=g19 sV 969 sV 363 2 536
def KR:=g5 sV 71 cy 726 539
def KS:=g18 wA 978 Fe wz Ff
def KT:=g3 sW 72
def KU:=g4 sW 975 sW 367 3 541 982
def KW:=g5 sW 72 cy 726 546
def KY:=g18 wA 988 hZ ia Ff
def KZ:=g3 sX 73
def La:=g4 sX 985 sX 376 3 548 992
def Lb:=g5 sX 73 cy 726 553
def Lc:=g24 998 wz ww NG Aw Fd NH NI
def Ld:=g3 sY 74
def Le:=g4 sY 995 sY 383 2 555 1006
def Lg:=g5 sY 74 cy 726 560
def Lh:=g3 tj 75
def Li:=g19 tj 1009 tj 396 4 562
def Lj:=g5 tj 75 cy 726 565
def Lk(P:Params):Obj:=%[(.type L68),none,(.seq #[.str lJ 1018,.str jw 1019,.str yy 1020,.str tG 1021,.str wA 1022,.str NJ 1023,.str ww 1024,.str yA 1025,.str hZ 1026,.str ia 1027,.str Fe 1028,.str wz 1029,.str NK 1030] 0)|#[]]
def Ll:=g3 tm 76
def Lm:=g4 tm 1015 tm 413 5 567 1031
def Ln:=g5 tm 76 cy 726 572
def Lo:=g13 EW 1037 lJ yy jw Ax wA tG wu yA
def Lp:=g3 vU 77
def Lq:=g4 vU 1034 vU 437 1 574 1046
def Lr:=g5 vU 77 cy 726 579
def t0:Params->BT:=(f boot_o_0 (f boot_o_1 (f Fg (f boot_o_7 (f o11 (f o31 (f o12 (f o12 (f o12 (f Ky z z) z) (f Ja z z)) (f o12 (f Ik (f o12 z z) z) (f JL z z))) (f o35 (f FW (f HL (f KS z z) z) (f o12 z z)) (f o11 (f o11 z z) (f Ke z z)))) (f o35 (f o79 (f o11 (f HA (f KI z z) z) (f Jk z z)) (f o11 (f o11 z z) (f o11 z z))) (f o12 (f Gh (f HZ (f Ld z z) z) (f o11 z z)) (f GV (f IQ z z) (f Ko z z))))) (f o23 (f o12 (f o35 (f FI (f Hs (f KC z z) z) (f Jf z z)) (f Gw (f Ip z z) (f JQ z z))) (f Fn (f Gb (f HU (f o11 z z) z) (f Jx z z)) (f o11 (f o12 z z) (f o11 z z)))) (f o55 (f o12 (f o11 (f HF (f KO z z) z) (f o11 z z)) (f GF (f IB z z) (f o12 z z))) (f o11 (f o11 (f Ie (f o11 z z) z) (f JG z z)) (f o11 (f o11 z z) (f Kt z z)))))) (f o11 (f o19 (f o35 (f o67 (f FG (f Hq (f KA z z) z) (f o12 z z)) (f Gu (f Im (f Lq z z) z) (f JN z z))) (f o12 (f o12 (f HP (f KW z z) z) (f Jv z z)) (f GO (f IH z z) (f Kh z z)))) (f o12 (f o35 (f FQ (f HC (f KL z z) z) (f o11 z z)) (f o11 (f o11 z z) (f JW z z))) (f Fv (f o11 (f o12 (f o12 z z) z) (f o11 z z)) (f o11 (f IU z z) (f o12 z z))))) (f o27 (f o43 (f o12 (f FL (f o12 (f KG z z) z) (f Jh z z)) (f Gz (f Iu z z) (f o11 z z))) (f o35 (f Ge (f o11 (f o11 z z) z) (f JA z z)) (f o11 (f IM z z) (f o11 z z)))) (f o35 (f o91 (f o11 (f HI (f KQ z z) z) (f Jq z z)) (f o12 (f o11 z z) (f Kb z z))) (f FA (f Go (f Ih (f Ll z z) z) (f o12 z z)) (f Hj (f o11 z z) (f Kv z z))))))) (f boot_o_5 (f boot_o_9 (f o17 (f o33 (f o65 (f o11 (f o11 (f o12 z z) z) (f Jc z z)) (f o11 (f o12 (f o11 z z) z) (f o11 z z))) (f o97 (f FY (f HM (f KT z z) z) (f o11 z z)) (f GM (f IG z z) (f Kf z z)))) (f o49 (f o81 (f FO (f o11 (f o11 z z) z) (f o12 z z)) (f GC (f Ix z z) (f JV z z))) (f Fu (f o12 (f Ib (f Lg z z) z) (f JD z z)) (f o12 (f IS z z) (f Kq z z))))) (f o11 (f o41 (f o73 (f FJ (f Hu (f KD z z) z) (f o11 z z)) (f Gx (f Iq z z) (f o12 z z))) (f Fp (f o11 (f HW (f La z z) z) (f Jy z z)) (f GR (f o11 z z) (f Kk z z)))) (f o57 (f o89 (f FT (f o12 (f o12 z z) z) (f Jp z z)) (f GH (f o12 z z) (f o11 z z))) (f Fz (f Gn (f o11 (f Lk z z) z) (f JI z z)) (f Hi (f IX z z) (f o11 z z)))))) (f o13 (f o21 (f o37 (f o69 (f o11 (f o11 (f o11 z z) z) (f o11 z z)) (f o11 (f o11 z z) (f JO z z))) (f Fm (f o11 (f HR (f o12 z z) z) (f o11 z z)) (f o23 (f IJ z z) (f o12 z z)))) (f o53 (f o85 (f o12 (f HD (f KM z z) z) (f Jn z z)) (f GE (f Iz z z) (f JY z z))) (f Fx (f Gk (f o11 (f Li z z) z) (f JF z z)) (f GY (f o12 z z) (f o11 z z))))) (f o11 (f o45 (f o77 (f o12 (f o11 (f o12 z z) z) (f Ji z z)) (f o12 (f o12 z z) (f JT z z))) (f Fs (f Gf (f HY (f Lc z z) z) (f o12 z z)) (f GT (f IO z z) (f Km z z)))) (f o61 (f o93 (f FV (f o11 (f o11 z z) z) (f Js z z)) (f GK (f IE z z) (f o11 z z))) (f FC (f Gq (f Ii (f Ln z z) z) (f o11 z z)) (f Hl (f IZ z z) (f Kw z z)))))))) (f boot_o_2 (f boot_o_4 (f boot_o_8 (f o12 (f o32 (f o64 (f FE (f Hn (f o11 z z) z) (f Jb z z)) (f Gr (f o11 (f Lo z z) z) (f JM z z))) (f o23 (f FX (f o11 (f o11 z z) z) (f Jt z z)) (f o12 (f o12 z z) (f o11 z z)))) (f o23 (f o80 (f FN (f HB (f KJ z z) z) (f o11 z z)) (f GB (f Iw z z) (f o12 z z))) (f Ft (f o11 (f Ia (f Le z z) z) (f JC z z)) (f o11 (f IR z z) (f Kp z z))))) (f o24 (f o40 (f o23 (f o11 (f Ht (f o11 z z) z) (f Jg z z)) (f o11 (f o11 z z) (f o11 z z))) (f Fo (f Gc (f HV (f KZ z z) z) (f o11 z z)) (f GQ (f IK z z) (f Kj z z)))) (f o56 (f o88 (f FS (f o11 (f o11 z z) z) (f o12 z z)) (f GG (f o11 z z) (f JZ z z))) (f o12 (f o12 (f Ig (f o12 z z) z) (f JH z z)) (f o12 (f IW z z) (f Ku z z)))))) (f yO (f o20 (f o23 (f o68 (f FH (f Hr (f KB z z) z) (f Jd z z)) (f Gv (f Io (f Lr z z) z) (f o11 z z))) (f Fl (f FZ (f HQ (f o11 z z) z) (f Jw z z)) (f o11 (f II z z) (f o11 z z)))) (f o52 (f o23 (f o11 (f o11 (f o11 z z) z) (f Jm z z)) (f o12 (f o12 z z) (f JX z z))) (f Fw (f Gj (f Ic (f Lh z z) z) (f o12 z z)) (f GX (f o11 z z) (f Kr z z))))) (f o28 (f o44 (f o76 (f o11 (f Hv (f o11 z z) z) (f o11 z z)) (f o11 (f o11 z z) (f JS z z))) (f o23 (f o11 (f o12 (f o12 z z) z) (f o11 z z)) (f o12 (f IN z z) (f o12 z z)))) (f o23 (f o92 (f o12 (f HJ (f KR z z) z) (f Jr z z)) (f GJ (f ID z z) (f Kc z z))) (f FB (f Gp (f o11 (f Lm z z) z) (f JJ z z)) (f Hk (f o12 z z) (f o11 z z))))))) (f boot_o_6 (f boot_o_10 (f o11 (f o34 (f o11 (f FF (f Ho (f Kz z z) z) (f o11 z z)) (f Gs (f Il (f Lp z z) z) (f o12 z z))) (f o11 (f o11 (f HN (f KU z z) z) (f Ju z z)) (f GN (f o11 z z) (f Kg z z)))) (f o11 (f o82 (f FP (f o12 (f o12 z z) z) (f Jl z z)) (f GD (f Iy z z) (f o11 z z))) (f o11 (f Gi (f o11 (f o11 z z) z) (f JE z z)) (f GW (f IT z z) (f o11 z z))))) (f o12 (f o11 (f o11 (f FK (f o11 (f KF z z) z) (f o12 z z)) (f Gy (f Ir z z) (f JR z z))) (f Fq (f o12 (f HX (f Lb z z) z) (f Jz z z)) (f GS (f IL z z) (f Kl z z)))) (f o58 (f o11 (f FU (f HG (f KP z z) z) (f o11 z z)) (f o11 (f IC z z) (f Ka z z))) (f o11 (f o11 (f o23 (f o11 z z) z) (f o11 z z)) (f o11 (f IY z z) (f o12 z z)))))) (f o14 (f o22 (f o11 (f o70 (f o12 (f o12 (f o12 z z) z) (f Je z z)) (f o12 (f o12 z z) (f JP z z))) (f o11 (f Ga (f HS (f KY z z) z) (f o12 z z)) (f GP (f o11 z z) (f Ki z z)))) (f o11 (f o11 (f FR (f HE (f KN z z) z) (f Jo z z)) (f o11 (f IA z z) (f o11 z z))) (f Fy (f Gm (f Id (f Lj z z) z) (f o11 z z)) (f GZ (f IV z z) (f Ks z z))))) (f o30 (f o46 (f o11 (f FM (f Hw (f KH z z) z) (f Jj z z)) (f GA (f Iv z z) (f JU z z))) (f o11 (f Gg (f o11 (f o11 z z) z) (f JB z z)) (f GU (f IP z z) (f o11 z z)))) (f o11 (f o94 (f o11 (f o12 (f o12 z z) z) (f o11 z z)) (f GL (f IF z z) (f o12 z z))) (f o11 (f o11 (f Ij (f o11 z z) z) (f JK z z)) (f o11 (f o11 z z) (f Kx z z)))))))))
abbrev s0(w:F9)(os:OsState):SharedT:=%[t0 w.params,581,{ },(Array.mk []),%[0,0,0|0],1049|os]
abbrev p0:Pos:=%[437,0,454|15]
abbrev st0:PP Stmt:=(pt.main.body.drop 0).take 78
theorem q0(w:F9):(λ os=>segRunT treeTable pt w m0 an 1 4342 (sB w os) %[(execs st0 en).wrap doneF deadEnd id id,cE,pB|B])=λ os=>some (.next,s0 w os,cE,p0):=by rw[PySem.W.Fast.te10110043849684766642,PySem.W.Fast.te14364793385576792824,PySem.W.Fast.te12563942051412417395];kernel_rfl
def hF(P:Params):Heap:=%[%[|[boot_o_0 P,boot_o_1 P,boot_o_2 P,Fg P,boot_o_4 P,boot_o_5 P,boot_o_6 P,boot_o_7 P,boot_o_8 P,boot_o_9 P,boot_o_10 P,o11 P,yO P,o13 P,o14 P,o11 P,o12 P,o17 P,o11 P,o19 P,o20 P,o21 P,o22 P,o23 P,o24 P,o11 P,o12 P,o27 P,o28 P,o11 P,o30 P,o31 P,o32 P,o33 P,o34 P,o35 P,o23 P,o37 P,o11 P,o12 P,o40 P,o41 P,o11 P,o43 P,o44 P,o45 P,o46 P,o35 P,o23 P,o49 P,o11 P,o12 P,o52 P,o53 P,o11 P,o55 P,o56 P,o57 P,o58 P,o35 P,o23 P,o61 P,o11 P,o12 P,o64 P,o65 P,o11 P,o67 P,o68 P,o69 P,o70 P,o35 P,o23 P,o73 P,o11 P,o12 P,o76 P,o77 P,o11 P,o79 P,o80 P,o81 P,o82 P,o35 P,o23 P,o85 P,o11 P,o12 P,o88 P,o89 P,o11 P,o91 P,o92 P,o93 P,o94 P,o35 P,o23 P,o97 P,o11 P,o12 P,Fl P,Fm P,o11 P,Fn P,Fo P,Fp P,Fq P,o35 P,o23 P,Fs P,o11 P,o12 P,Ft P,Fu P,o11 P,Fv P,Fw P,Fx P,Fy P,o11 P,o12 P,Fz P,o11 P,FA P,FB P,FC P,o11 P,o12 P,FE P,o11 P,FF P,FG P,FH P,o11 P,o12 P,FI P,o11 P,FJ P,FK P,FL P,o11 P,o12 P,FM P,o11 P,FN P,FO P,FP P,FQ P,o11 P,o12 P,FR P,o11 P,FS P,FT P,FU P,o11 P,o12 P,FV P,o11 P,FW P,FX P,FY P,o11 P,o12 P,FZ P,o11 P,Ga P,Gb P,Gc P,o11 P,o12 P,Ge P,o11 P,Gf P,Gg P,Gh P,o11 P,o12 P,Gi P,o11 P,Gj P,Gk P,Gm P,o11 P,o12 P,Gn P,o11 P,Go P,Gp P,Gq P,o11 P,o12 P,Gr P,o11 P,Gs P,Gu P,Gv P,o11 P,o12 P,Gw P,o11 P,Gx P,Gy P,Gz P,o11 P,o12 P,GA P,o11 P,GB P,GC P,GD P,o11 P,o12 P,GE P,o11 P,GF P,GG P,GH P,o11 P,o12 P,GJ P,GK P,GL P,o11 P,o12 P,GM P,GN P,GO P,o11 P,o23 P,GP P,o11 P,GQ P,GR P,GS P,o11 P,o12 P,GT P,GU P,GV P,o11 P,o12 P,GW P,o11 P,GX P,GY P,GZ P,o11 P,o12 P,Hi P,o11 P,Hj P,Hk P,Hl P,o11 P,o12 P,Hn P,o11 P,Ho P,Hq P,Hr P,o11 P,o12 P,Hs P,Ht P,Hu P,o11 P,o12 P,Hv P,o11 P,Hw P,HA P,HB P,o11 P,o12 P,HC P,o11 P,HD P,HE P,HF P,o11 P,o12 P,HG P,HI P,HJ P,o11 P,o12 P,HL P,o11 P,HM P,HN P,HP P,HQ P,HR P,HS P,HU P,HV P,HW P,HX P,o11 P,o12 P,HY P,o11 P,HZ P,Ia P,Ib P,o11 P,o12 P,Ic P,o11 P,Id P,Ie P,Ig P,o11 P,o23 P,Ih P,o11 P,Ii P,Ij P,Ik P,o11 P,o12 P,Il P,Im P,Io P,o11 P,o12 P,Ip P,o11 P,Iq P,Ir P,Iu P,o11 P,o12 P,Iv P,o11 P,Iw P,Ix P,Iy P,o11 P,o12 P,Iz P,IA P,IB P,o11 P,o12 P,IC P,o11 P,ID P,IE P,IF P,o11 P,o12 P,IG P,o11 P,IH P,II P,IJ P,o11 P,o12 P,IK P,o11 P,IL P,IM P,IN P,IO P,IP P,IQ P,IR P,IS P,IT P,IU P,o11 P,o12 P,IV P,o11 P,IW P,IX P,IY P,o11 P,o12 P,IZ P,o11 P,Ja P,Jb P,Jc P,o11 P,o12 P,Jd P,o11 P,Je P,Jf P,Jg P,o11 P,o12 P,Jh P,o11 P,Ji P,Jj P,Jk P,o11 P,o12 P,Jl P,o11 P,Jm P,Jn P,Jo P,o11 P,o12 P,Jp P,o11 P,Jq P,Jr P,Js P,o11 P,o12 P,Jt P,o11 P,Ju P,Jv P,Jw P,o11 P,o12 P,Jx P,o11 P,Jy P,Jz P,JA P,o11 P,o12 P,JB P,o11 P,JC P,JD P,JE P,o11 P,o12 P,JF P,o11 P,JG P,JH P,JI P,o11 P,o12 P,JJ P,o11 P,JK P,JL P,JM P,o11 P,o12 P,JN P,o11 P,JO P,JP P,JQ P,o11 P,o12 P,JR P,o11 P,JS P,JT P,JU P,o11 P,o12 P,JV P,o11 P,JW P,JX P,JY P,o11 P,o12 P,JZ P,o11 P,Ka P,Kb P,Kc P,o11 P,o12 P,Ke P,o11 P,Kf P,Kg P,Kh P,o11 P,o12 P,Ki P,o11 P,Kj P,Kk P,Kl P,o11 P,o12 P,Km P,o11 P,Ko P,Kp P,Kq P,o11 P,o12 P,Kr P,o11 P,Ks P,Kt P,Ku P,o11 P,o12 P,Kv P,o11 P,Kw P,Kx P,Ky P,o11 P,o12 P,Kz P,KA P,KB P,o11 P,o12 P,KC P,o11 P,KD P,KF P,KG P,o11 P,o12 P,KH P,KI P,KJ P,o11 P,o12 P,KL P,o11 P,KM P,KN P,KO P,o11 P,o12 P,KP P,KQ P,KR P,o11 P,o12 P,KS P,o11 P,KT P,KU P,KW P,o11 P,o12 P,KY P,o11 P,KZ P,La P,Lb P,o11 P,o12 P,Lc P,o11 P,Ld P,Le P,Lg P,o11 P,o12 P,Lh P,Li P,Lj P,o11 P,o12 P,Lk P,o11 P,Ll P,Lm P,Ln P,o11 P,o12 P,Lo P,o11 P,Lp P,Lq P,Lr P]]|{ }]
abbrev sF(w:F9)(os:OsState):F6:=%[hF w.params,(Array.mk []),%[0,0,0|0],1049|os]
theorem fin(w:F9):(λ os=>topRun treeTable pt w m0 an 2 (s0 w os).abs ⟨doneF .next,cE,p0,B⟩)=λ os=>some (sF w os):=by rw[PySem.W.Fast.te14082659384304107361,PySem.W.Fast.te14364793385576792824];kernel_rfl
theorem yB:behindTheImports pt=st0 ++ ([]):=by kernel_rfl
abbrev MM:Nat:=12+(1+(4342+2))
theorem Az(w:F9)(os:OsState):topRun treeTable pt w m0 an MM (sZ w os) (topStub pt)=some (sF w os) :=
 go_top (congrFun (pre w) os) (piece_block (congrFun (blk w) os) (yB ▸ (piece_app (l:=st0) (segRun_of (congrFun (q0 w) os)) (piece_nil (congrFun (fin w) os)))))
def loose:PP Str:=[rE,mS,vL,vM,vN,vO,vP,vQ,vR,rF,rG,rH,rJ,EC,EE,EG,rK,rL,EH,EI,EJ,EK,EL,rM,rN,rO,rP,rQ,rR,rS,rT,rV,rW,vS,EM,EN,rX,rY,vT,rZ,si,sj,sk,sr,ss,su,sw,sC,sE,sG,sH,sI,sJ,sK,sL,sM,sN,sO,sP,sQ,sR,sS,sU,sV,sW,sX,sY,tj,tm]
abbrev NN:Nat:=8808
abbrev q:F7:=view pt [77]
abbrev Xt:F6->Bool:=λ s=>xlAt q [] s && recOk [] s
theorem size(w:F9):((boot_heap w.params).isNs PQ && (Array.mk []:PN GenState).size == 0,(boot_heap w.params).objs.size,(boot_heap w.params).nsMap PQ "__annotations__")=(true,m0,an):=by rw[PySem.W.Fast.te8920871248978507458];kernel_rfl
theorem Ls(w:F9):(λ os=>((staticsOk (importedModules pt.main.body) (boot_heap w.params) (hF w.params) && namesBound pt (hF w.params) && gensDone (sF w os) && laidKept (boot_heap w.params) (hF w.params)),openSeen q loose (importedModules pt.main.body) Xt true (sF w os),HK.obs (sF w os)))=λ _=>(true,openGood q loose,HK.val w):=by rw[PySem.W.Fast.te4187177175401517315,PySem.W.Fast.te5923862056798008813];kernel_rfl
theorem left:LeftO pt q loose Xt HK.obs HK.val NN true:=LeftO.of_pieces (boot_open (by kernel_rfl) ∅ (λ s=>rfl)) size Az ∅ Ls
end Hd
open PySem PySem.W PyProof.Rows
set_option maxRecDepth 100000 in
set_option maxHeartbeats 0 in
theorem PySem.Challenge.cw_platecuts_k85_stores_told_holds : PySem.Challenge.rw_platecuts_k85_stores_told.Holds := by
 w_on;o_law
 show holds_open (q:=view PySem.Challenge.pw_platecuts_k85_stores_told [77]) (loose:=Hd.loose) (Xt:=λ s=>xlAt (view PySem.Challenge.pw_platecuts_k85_stores_told [77]) [] s && recOk [] s) (XP:=XL (view PySem.Challenge.pw_platecuts_k85_stores_told [77]) []) (Yf:=Hook.obs Hd.HK) (Ya:=Hook.val Hd.HK) (YP:=InK Pc.kK) (N:=Hd.NN) ?hl (Hook.of Hd.HK) (Hook.keeps Hd.HK) (λ s e=>xl_of s (Bool.and_eq_true_iff.mp e).1) XL.keeps (by rfl) (by rfl) (by rfl) (λ s e=>recFacts_of (Bool.and_eq_true_iff.mp e).2) (by rfl) (by first | assumption | decide +kernel) (by decide +kernel) ⟨rfl,rfl,rfl,rfl,rfl,by decide +kernel⟩ ?hw ?hc
 case hl=>exact Hd.pt_eq ▸ Hd.left
 case hw=>w_witness2
 k_fill
 show Pc.walk (l:=PySem.Challenge.rw_platecuts_k85_stores_told) rfl rfl (λ w h Y=>Y) ?F
 case F=>
  intro w mg fa h KX G hmg;refine' Pc.all_mk KX G hmg ?d0 ?d1 ?d2 ?d3 ?d4 ?d5 ?d6 ?d7 ?d8 ?d9 ?d10 ?d11 ?d12 ?d13 ?d14 ?d15 ?d16 ?d17 ?d18 ?d19 ?d20 ?d21 ?d22 ?d23 ?d24 ?d25 ?d26 ?d27 ?d28 ?d29 ?d30 ?d31 ?d32 ?d33 ?d34 ?d35 ?d36 ?d37 ?d38 ?d39 ?d40 ?d41 ?d42 ?d43 ?d44 ?d45 ?d46 ?d47 ?d48 ?aC ?dm0 ?dm1 ?dm2 ?dm3 ?dm4 ?pg ?hd ?po ?sa ?mk ?kc ?n0 ?n1 ?aCS ?do0 ?do1 ?do2 ?do3 ?do4 ?do5 ?do6 ?do7 ?do8 ?pgS ?hdS ?poS ?saS ?mkS ?kcS ?nS0 ?nS1 ?nS2 ?nS3 ?eWAYS ?eNoPlate ?eNoTree ?eNoNumber ?lWAYS ?cNoPlate ?cNoTree ?cNoNumber ?bNoPlate ?bNoTree ?bNoNumber ?sNoPlate ?sNoTree ?sNoNumber ?sTN ?z0 ?z1 ?z2 ?z3 ?z4 ?z5 ?z6 ?z7 ?z8 ?z9 ?z10 ?z11 ?z12 ?z13 ?z14 ?z15 ?z16 ?z17 ?z18 ?uc0 ?uc1 ?uc2 ?uc3 ?uc4 ?uc5 ?uc6 ?uc7
  (case d0 | d1 | d2 | d3 | d4 | d5 | d6 | d7 | d8 | d9 | d10 | d11 | d12 | d13 | d14 | d15 | d16 | d17 | d18 | d19 | d20 | d21 | d22 | d23 | d24 | d25 | d26 | d27 | d28 | d29 | d30 | d31 | d32 | d33 | d34 | d35 | d36 | d37 | d38 | d39 | d40 | d41 | d42 | d43 | d44 | d45 | d46 | d47 | d48=>refine' Pc.diM ?a ?l ?c ?k;(case a=>k_is);(case l=>k_is);(case c=>k_is);(case k=>k_is))
  (case aC | aCS=>k_is)
  (case dm0 | dm1 | dm2 | dm3 | dm4 | do0 | do1 | do2 | do3 | do4 | do5 | do6 | do7 | do8=>refine' Pc.miM ?a ?i ?l ?c ?k;(case a=>k_is);(case i=>k_is);(case l=>k_is);(case c=>k_is);(case k=>k_is))
  (case pg | hd | po | sa | mk | kc | n0 | n1 | pgS | hdS | poS | saS | mkS | kcS | nS0 | nS1 | nS2 | nS3 | eWAYS | eNoPlate | eNoTree | eNoNumber=>k_is)
  (case lWAYS=>exact⟨_,_,_,O,O,O,by decide,.cons ⟨_,O⟩ (.cons ⟨_,O⟩ .nil)⟩)
  (case cNoPlate | cNoTree | cNoNumber=>k_exc)
  (case bNoPlate | bNoTree | bNoNumber | sNoPlate | sNoTree | sNoNumber | sTN | z0 | z1 | z2 | z3 | z4 | z5 | z6 | z7 | z8 | z9 | z10 | z11 | z12 | z13 | z14 | z15 | z16 | z17 | z18 | uc0 | uc1 | uc2 | uc3 | uc4 | uc5 | uc6 | uc7=>k_is)