import PyProof.Rows.All
import Wide.All
import OpenK.AllK
import Wide.FinOn
import Lean
import PyProof.EqAt
import PyProof.EqKinds
import PyProof.TupleCall
import PyProof.IsiBase
import PyProof.ExcArgsOwn
import PyProof.ExcAttrAll.ValueError
import PyProof.FitsBits
import PyProof.NeData
import PyProof.StrWalks
import PyProof.StrCalls6
import PySem.Challenge.RW_platecuts_k15_refused_texts
set_option maxRecDepth 100000
set_option maxHeartbeats 0
local macro_rules|`(def $i $s:optDeclSig $v:declVal)=>`(noncomputable def $i $s:optDeclSig $v:declVal)
local macro_rules|`(abbrev $i $s:optDeclSig $v:declVal)=>`(noncomputable abbrev $i $s:optDeclSig $v:declVal)
local macro_rules|`(∅)=>`(by decide +kernel)
local macro_rules|`(⋯)=>`(by omega)
local macro_rules|`(↑$x)=>`(some (.ref $x))
local macro_rules|`(⇑$x)=>`(some (.int $x))
local macro_rules|`(↥$x)=>`(some (.lst $x))
local macro_rules|`(~~~$x)=>`(some (.tup $x))
local macro_rules|`(%[$xs,*|$y])=>if y.raw.getId.hasMacroScopes then Lean.Macro.throwUnsupported else `(⟨$(xs.getElems.push y),*⟩)
section
open PySem PySem.W PySem.Spec PyProof PyProof.Rows
abbrev DY:=@Shared
abbrev Dl:=@Program
abbrev Dm:=@FuncData
abbrev Do:=@World
abbrev Dp:=@Value
abbrev A0:=@wpAny_bind
abbrev A1:=@wpAny_pure
abbrev A2:=@List.mem_append_right
abbrev A3:=@List.getElem?_eq_some_iff
abbrev A4:=@Heap.get?_push_of_some
abbrev A5:=@Heap.get?_push_size
abbrev A6:=@Heap.lt_size
abbrev A7:=@decide_eq_true
abbrev A8:=@decide_eq_false
theorem A9:type_of% @Bool.false_ne_true:=@Bool.false_ne_true
theorem B0:type_of% @Nat.le_refl:=@Nat.le_refl
theorem B1:type_of% @List.mem_cons_of_mem:=@List.mem_cons_of_mem
theorem B2:type_of% @List.mem_of_getElem?:=@List.mem_of_getElem?
abbrev B3:=@List.mem_append_left
theorem B5:type_of% @List.mem_cons_self:=@List.mem_cons_self
theorem B6:type_of% @Option.some.inj:=@Option.some.inj
theorem B7:type_of% @Nat.ne_of_lt:=@Nat.ne_of_lt
abbrev B8:=@of_decide_eq_true
theorem B9:type_of% @Nat.lt_of_lt_of_le:=@Nat.lt_of_lt_of_le
theorem C0:type_of% @List.mem_append:=@List.mem_append
abbrev C3:=@beq_iff_eq
abbrev C4:=@PySem.W.Frag
abbrev C5:=@Nat.le_trans
abbrev C6:=@Nat.lt_of_le_of_lt
abbrev C7:=@Nat.le_of_lt
abbrev C8:=@Nat.lt_irrefl
theorem C9:type_of% @List.mem_singleton:=@List.mem_singleton
abbrev DA:=@Paired.length
abbrev DC:=@PySem.W.fnOf
abbrev DF:=@False.elim
theorem DG:type_of% @Nat.zero_le:=@Nat.zero_le
abbrev DH:=@Nat.lt_succ_self
theorem DJ:type_of% @List.getElem?_eq_getElem:=@List.getElem?_eq_getElem
abbrev DM:=@wpAny_truthy_bool
abbrev DQ:=@wpAny_newObj_type
abbrev DV:=@PySem.F.plainAttrs_list
theorem Dv:type_of% @List.length_map:=@List.length_map
theorem Dw:type_of% @List.length_append:=@List.length_append
theorem Dx:type_of% @List.mem_cons:=@List.mem_cons
theorem Dy:type_of% @List.size_toArray:=@List.size_toArray
theorem Dz:type_of% @List.getElem?_map:=@List.getElem?_map
theorem EA:type_of% @List.length_cons:=@List.length_cons
theorem EB:type_of% @List.map_append:=@List.map_append
theorem EC:type_of% @Option.map_eq_some_iff:=@Option.map_eq_some_iff
theorem ED:type_of% @List.mem_map:=@List.mem_map
theorem EF:type_of% @List.length_take:=@List.length_take
theorem EG:type_of% @List.map_cons:=@List.map_cons
theorem EH:type_of% @List.not_mem_nil:=@List.not_mem_nil
theorem EI:type_of% @Array.getElem?_eq_some_iff:=@Array.getElem?_eq_some_iff
theorem EJ:type_of% @List.take_add_one:=@List.take_add_one
theorem EK:type_of% @List.take_of_length_le:=@List.take_of_length_le
theorem EL:type_of% @Bool.and_eq_true:=@Bool.and_eq_true
theorem EM:type_of% @List.filterMap_cons:=@List.filterMap_cons
theorem EN:type_of% @List.length_drop:=@List.length_drop
theorem EO:type_of% @List.cons_append:=@List.cons_append
theorem EQ:type_of% @List.mem_or_eq_of_mem_set:=@List.mem_or_eq_of_mem_set
theorem ER:type_of% @List.lookup_cons:=@List.lookup_cons
theorem ES:type_of% @Bool.eq_false_iff:=@Bool.eq_false_iff
theorem ET:type_of% @List.tail_cons:=@List.tail_cons
theorem EU:type_of% @List.append_nil:=@List.append_nil
theorem EV:type_of% @List.length_set:=@List.length_set
theorem EW:type_of% @List.headD_cons:=@List.headD_cons
theorem EX:type_of% @List.take_length:=@List.take_length
theorem EY:type_of% @List.getElem_mem:=@List.getElem_mem
theorem EZ:type_of% @List.getElem?_of_mem:=@List.getElem?_of_mem
theorem Ea:type_of% @Nat.mul_le_mul_right:=@Nat.mul_le_mul_right
theorem Eb:type_of% @List.getElem?_set_self:=@List.getElem?_set_self
theorem Ec:type_of% @List.mem_filterMap:=@List.mem_filterMap
theorem Ed:type_of% @List.length_singleton:=@List.length_singleton
theorem Ee:type_of% @List.replicate_succ:=@List.replicate_succ
theorem Ef:type_of% @List.length_pos_iff:=@List.length_pos_iff
theorem Eg:type_of% @List.all_eq_true:=@List.all_eq_true
theorem Eh:type_of% @List.length_replicate:=@List.length_replicate
theorem Ei:type_of% @List.eq_nil_or_concat:=@List.eq_nil_or_concat
theorem Ej:type_of% @List.mem_flatten:=@List.mem_flatten
theorem Ek:type_of% @List.map_take:=@List.map_take
theorem El:type_of% @Bool.eq_iff_iff:=@Bool.eq_iff_iff
theorem Em:type_of% @List.length_nil:=@List.length_nil
theorem En:type_of% @List.map_map:=@List.map_map
abbrev Eo:=@Addr
abbrev Ep:=@Keyed
abbrev Er:=@Option
abbrev Es:=@Array
abbrev Et:=@List
abbrev Eu:=@mainGlobals
theorem Ez:type_of% @if_pos:=@if_pos
theorem E1:type_of% @if_neg:=@if_neg
theorem E2:type_of% @decide_eq_true:=@decide_eq_true
theorem E3:type_of% @PySem.F.plainAttrs_str:=@PySem.F.plainAttrs_str
theorem E4:type_of% @PySem.wpAny_mono:=@PySem.wpAny_mono
theorem E5:type_of% @decide_eq_false:=@decide_eq_false
theorem E6:type_of% @PySem.Heap.get?_update_other:=@PySem.Heap.get?_update_other
theorem E7:type_of% @PyProof.Rows.boot_isinstance:=@PyProof.Rows.boot_isinstance
theorem E8:type_of% @PySem.wpAny_holding:=@PySem.wpAny_holding
theorem E9:type_of% @PySem.boot_len:=@PySem.boot_len
theorem FA:type_of% @PySem.Heap.get?_update_self:=@PySem.Heap.get?_update_self
theorem FB:type_of% @PySem.F.slot_str_split:=@PySem.F.slot_str_split
theorem FC:type_of% @PySem.F.type_str_split:=@PySem.F.type_str_split
theorem FD:type_of% @decide_eq_true_eq:=@decide_eq_true_eq
theorem FE:type_of% @PySem.wpAny_loadPart_at:=@PySem.wpAny_loadPart_at
theorem FF:type_of% @PySem.wpAny_standAt:=@PySem.wpAny_standAt
theorem FG:type_of% @PyProof.Rows.boot_int:=@PyProof.Rows.boot_int
theorem FH:type_of% @PySem.Txt.slice_le:=@PySem.Txt.slice_le
theorem FI:type_of% @congrArg:=@congrArg
theorem FJ:type_of% @PySem.wpAny_setField:=@PySem.wpAny_setField
theorem FK:type_of% @PySem.wpAny_field:=@PySem.wpAny_field
theorem FL:type_of% @beq_eq_false_iff_ne:=@beq_eq_false_iff_ne
theorem FM:type_of% @PySem.Calls.spliced_cons:=@PySem.Calls.spliced_cons
theorem FN:type_of% @PySem.wpAny_Call_Name_kw:=@PySem.wpAny_Call_Name_kw
theorem FO:type_of% @PySem.Obj.data_mapFields:=@PySem.Obj.data_mapFields
theorem FP:type_of% @PySem.Obj.isFreed_of_fields:=@PySem.Obj.isFreed_of_fields
theorem FQ:type_of% @PySem.StrLaws.glued_eq_join:=@PySem.StrLaws.glued_eq_join
theorem FR:type_of% @PySem.Calls.evalArgs_plain:=@PySem.Calls.evalArgs_plain
theorem FS:type_of% @PySem.mem_of_lookup:=@PySem.mem_of_lookup
theorem FT:type_of% @PySem.wpAny_execs_cons:=@PySem.wpAny_execs_cons
theorem FU:type_of% @PySem.call_meets:=@PySem.call_meets
theorem FV:type_of% @or_false:=@or_false
theorem FW:type_of% @PySem.Paired.snoc:=@PySem.Paired.snoc
theorem FX:type_of% @PySem.codeAny_mono:=@PySem.codeAny_mono
end
theorem zS2:2<=PySem.sizeLine:=∅
theorem zS5:5<=PySem.sizeLine:=∅
theorem zS1:1<=PySem.sizeLine:=∅
theorem zS6:6<=PySem.sizeLine:=∅
theorem zS4:4<=PySem.sizeLine:=∅
theorem zS9:9<=PySem.sizeLine:=∅
theorem zS8:8<=PySem.sizeLine:=∅
theorem zS3:3<=PySem.sizeLine:=∅
theorem U{α:Sort _}{a:α}:a=a:=rfl
set_option Elab.async false
set_option linter.all false
namespace L2
open PySem PySem.Spec PyProof.Rows
abbrev Key:=Sum Int Str
def qI:Key->Dp->Bool
 | .inl k,v=>Value.isInt k v
 | .inr x,v=>Value.isStrOf x v
def AO (w:Do):Key->Int
 | .inl k=>hashInt k
 | .inr x=>hashStr w x
theorem aV:∀ {k:Key} {v:Dp},qI k v=true->(∃i t,k=Sum.inl i/\v=Value.int i t)\/(∃x t,k=Sum.inr x/\v=Value.str x t)
 | .inl i,v,h=>by obtain⟨t,e⟩:=Value.isInt_shape (k:=i) (v:=v) h;exact .inl %[i,t,U|e]
 | .inr x,v,h=>by obtain⟨t,e⟩:=Value.isStrOf_shape (x:=x) (v:=v) h;exact .inr %[x,t,U|e]
theorem re (a b:Int):decide ((Sum.inl a:Key)=Sum.inl b)=(a == b):=by
 by_cases e:a=b
 ·subst e;simp
 ·have h:¬ (Sum.inl a:Key)=Sum.inl b:=λ q=>e (Sum.inl.inj q);rw[E5 h];exact(FL.mpr e).symm
theorem rf (a b:Str):decide ((Sum.inr a:Key)=Sum.inr b)=decide (a=b):=by
 by_cases e:a=b
 ·subst e;simp
 ·have h:¬ (Sum.inr a:Key)=Sum.inr b:=λ q=>e (Sum.inr.inj q);rw[E5 h,E5 e]
theorem rh (a:Int) (b:Str):decide ((Sum.inl a:Key)=Sum.inr b)=false:=A8 (λ q=>nomatch q)
theorem rj (a:Str) (b:Int):decide ((Sum.inr a:Key)=Sum.inl b)=false:=A8 (λ q=>nomatch q)
def jT (prog:Dl) (w:Do):PySem.KeyKind prog w Key where
 is:=qI
 hash:=AO w
 inj:=λ v a b ha hb=>by
  rcases aV ha with⟨i,t,rfl,rfl⟩ | ⟨x,t,rfl,rfl⟩
  ·rcases aV hb with⟨j,u,rfl,e⟩ | ⟨y,u,rfl,e⟩
   ·injection e with e1 _;rw[e1]
   ·exact nomatch e
  ·rcases aV hb with⟨j,u,rfl,e⟩ | ⟨y,u,rfl,e⟩
   ·exact nomatch e
   ·injection e with e1 _;rw[e1]
 byValue:=λ k v h=>by rcases aV h with⟨i,t,rfl,rfl⟩ | ⟨x,t,rfl,rfl⟩ <;> rfl
 pyHash:=λ hv h=>by
  rcases aV hv with⟨i,t,rfl,rfl⟩ | ⟨x,t,rfl,rfl⟩
  ·exact wpAny_pyHash_int h
  ·exact wpAny_pyHash_str h
 eqBool:=λ hu hv h=>by
  rcases aV hu with⟨i,t,rfl,rfl⟩ | ⟨x,t,rfl,rfl⟩
  ·rcases aV hv with⟨j,u,rfl,rfl⟩ | ⟨y,u,rfl,rfl⟩
   ·rw[re]at h;exact wpAny_eqBool_int h
   ·rw[rh]at h;exact SeqAt.EqAt.int_str i t y u _ _ _ _ h
  ·rcases aV hv with⟨j,u,rfl,rfl⟩ | ⟨y,u,rfl,rfl⟩
   ·rw[rj]at h;exact SeqAt.EqAt.str_int x t j u _ _ _ _ h
   ·rw[rf]at h;exact wpAny_eqBool_str h
 «strs» := λ k x t v h=>by
  rcases aV h with⟨i,u,rfl,e⟩ | ⟨y,u,rfl,e⟩
  ·exact nomatch e
  ·injection e with e1 _
   subst e1;cases v <;> rfl
inductive V where
 | non | bl (b:Bool) | int (i:Int) | str (x:Str) | byt (b:Es UInt8) | flt (b:UInt64) | ref (a:Eo) | ty (n:String)
 deriving DecidableEq
def RelV:V->Dp->Prop
 | .non,u=>u=Value.none
 | .bl b,u=>u=Value.bool b
 | .int i,u=>∃t,u=Value.int i t
 | .str x,u=>∃t,u=Value.str x t
 | .byt b,u=>∃t,u=Value.bytes b t
 | .flt b,u=>∃t,u=Value.float b t
 | .ref a,u=>u=Value.ref a
 | .ty n,u=>u=Value.type n
abbrev Vals:Et V->Et Dp->Prop:=Paired RelV
theorem Vals.length {xs:Et V} {us:Et Dp} (r:Vals xs us):xs.length=us.length:=DA r
theorem Vals.get:∀ {xs:Et V} {us:Et Dp} {i:Nat} {x:V},Vals xs us->xs[i]?=some x->∃u,us[i]?=some u/\RelV x u
 | _,_,_,_,.nil,e=>by simp at e
 | _,_,0,_,.cons r _,e=>by simp at e;subst e;exact%[_,U|r]
 | _,_,i+1,x,.cons _ t,e=>by obtain⟨u,h1,h2⟩:=Vals.get (i:=i) (x:=x) t (by simpa using e);exact%[u,by simpa using h1|h2]
theorem Vals.set {x:V} {u:Dp} (r:RelV x u):∀ {xs:Et V} {us:Et Dp} (i:Nat),Vals xs us->Vals (xs.set i x) (us.set i u)
 | _,_,_,.nil=>.nil
 | _,_,0,.cons _ t=>.cons r t
 | _,_,i+1,.cons q t=>.cons q (Vals.set r i t)
theorem Vals.append:∀ {xs ys:Et V} {us ws:Et Dp},Vals xs us->Vals ys ws->Vals (xs ++ ys) (us ++ ws)
 | _,_,_,_,.nil,s=>s
 | _,_,_,_,.cons r t,s=>.cons r (Vals.append t s)
theorem Vals.take:∀ {xs:Et V} {us:Et Dp} (n:Nat),Vals xs us->Vals (xs.take n) (us.take n)
 | _,_,0,_=>.nil
 | _,_,_+1,.nil=>.nil
 | _,_,n+1,.cons r t=>.cons r (Vals.take n t)
theorem Vals.drop:∀ {xs:Et V} {us:Et Dp} (n:Nat),Vals xs us->Vals (xs.drop n) (us.drop n)
 | _,_,0,r=>r
 | _,_,_+1,.nil=>.nil
 | _,_,n+1,.cons _ t=>Vals.drop n t
def RelO:Er V->Er Dp->Prop
 | some v,some u=>RelV v u
 | none,none=>True
 | _,_=>False
def KV {κ:Type}:Et (κ×V)->Et (κ×Dp)->Prop:=Paired λ(p:κ×V) (q:κ×Dp)=>p.1=q.1/\RelV p.2 q.2
def kV:Key->V
 | .inl i=>.int i
 | .inr x=>.str x
inductive HO where
 | lst (xs:Et V)
 | tup (xs:Et V)
 | dK (kvs:Et (Key×V)) | dT (kvs:Et (Et Key×V))
 | set (S:Int->Bool) (n:Nat)
 | ins (C dx:Eo) (fs:Et (Str×V))
 | own (x:Eo)
 | xd (fs:Et (Str×V))
 | met (f x:Eo)
 | rng (lo hi:Int)
 | frz (o:Obj) (u:HO)
 | tbl (ps:Es Dp)
 | ext (φ:Heap->Prop)
abbrev Hp:=Eo->Er HO
def upd (H:Hp) (a:Eo) (o:HO):Hp:=λ b=>if b=a then some o else H b
theorem ag {H:Hp} {a:Eo} {o:HO}:upd H a o a=some o:=by unfold upd;rw[Ez rfl]
theorem ao {H:Hp} {a b:Eo} {o:HO} (h:b≠a):upd H a o b=H b:=by unfold upd;rw[E1 h]
theorem ak {H:Hp} {a b:Eo} {o:HO} (h:H a=some o) (h':H b=none):a≠b:=by intro e;subst e;rw[h]at h';cases h'
section
variable (P:Dl) (w:Do)
def ObjOk (H:Hp) (h:Heap) (a:Eo):HO->Prop
 | .lst xs=>xs.length<=sizeLine/\∃ (its:Et Dp) (n:Nat),Vals xs its/\h.get? a=some { cls:=.type "list",data:=.seq its.toArray n }
 | .tup xs=>xs.length<=sizeLine/\∃its:Et Dp,Vals xs its/\IsTup h a its.toArray
 | .dK kvs=>kvs.length<=sizeLine/\(a == sysModules)=false/\∃vs,KV kvs vs/\h.DictOf (jT P w) a vs
 | .dT kvs=>kvs.length<=sizeLine/\(a == sysModules)=false/\∃xs:Et (Et Key×Eo×Dp),
   Paired (λ(p:Et Key×V) (q:Et Key×Eo×Dp)=>p.1=q.1/\H q.2.1= ~~~(p.1.map kV)/\RelV p.2 q.2.2) kvs xs /\
   ∃o es ep,h.get? a=some o/\o.ExactDict/\o.data=.dict es ep/\es.toList=xs.map (entryOfKey (tupleKind (jT P w)))/\(xs.map (·.1)).Nodup
 | .set S n=>h.SetOf (intKind P w) a S n
 | .ins C dx fs=>H dx=some (.own a)/\fs.length<=1000/\dx≠a/\h.get? a=some (PySem.W.instObj C dx) /\
   ∃mA,h.Ns1 dx mA/\(∀f,RelO (fs.lookup f) (mA f))/\PySem.Within mA (fs.map (·.1))
 | .own _=>∃o,h.get? a=some o
 | .xd fs=>∃mA,h.Ns1 a mA/\∀f,RelO (fs.lookup f) (mA f)
 | .rng lo hi=>∃t u v,h.get? a=some { cls:=.type "range",data:=.fields #[.int lo t,.int hi u,.int 1 v] }
 | .frz o u=>h.get? a=some o/\ObjOk H h a u
 | .tbl ps=>h.get? a=some { cls:=.none,data:=.fields ps }
 | .met f x=>h.get? a=some (PySem.W.methodObj (.ref f) (.ref x))
 | .ext φ=>φ h/\(∃o,h.get? a=some o)/\∀h1 h2:Heap,φ h1->(∀o,h1.get? a=some o->h2.get? a=some o)->φ h2
def HOk (H:Hp) (h:Heap):Prop:=∀a o,H a=some o->ObjOk P w H h a o
end
section
variable {P:Dl} {w:Do} {H H':Hp} {h h':Heap} {a:Eo} {o:HO}
theorem ObjOk.lt (x:ObjOk P w H h a o):a < h.objs.size:=by
 cases o with
 | lst xs=>obtain⟨_,_,_,_,e⟩:=x;exact A6 e
 | tup xs=>obtain⟨_,_,_,p⟩:=x;exact p.lt
 | dK kvs=>obtain⟨_,_,_,_,o,_,_,e,_⟩:=x;exact A6 e
 | dT kvs=>obtain⟨_,_,_,_,o,_,_,e,_⟩:=x;exact A6 e
 | set S n=>obtain⟨o,_,_,_,e,_⟩:=x;exact A6 e
 | ins C dx fs=>obtain⟨_,_,_,e,_⟩:=x;exact A6 e
 | own y=>obtain⟨_,e⟩:=x;exact A6 e
 | xd fs=>obtain⟨_,⟨_,_,_,e,_⟩,_⟩:=x;exact A6 e
 | rng lo hi=>obtain⟨_,_,_,e⟩:=x;exact A6 e
 | frz ob u=>obtain⟨e,_⟩:=x;exact A6 e
 | tbl ps=>exact A6 (show h.get? a=some _ from x)
 | met f y=>exact A6 (show h.get? a=some _ from x)
 | ext φ=>obtain⟨_,⟨_,e⟩,_⟩:=x;exact A6 e
theorem Paired.mapP {α β:Type} {F G:α->β->Prop}:∀ {l₁:Et α} {l₂:Et β},Paired F l₁ l₂->(∀a b,F a b->G a b)->Paired G l₁ l₂
 | _,_,.nil,_=>.nil
 | _,_,.cons r t,f=>.cons (f _ _ r) (Paired.mapP t f)
abbrev Dt:=@Paired.mapP
theorem ObjOk.stay (x:ObjOk P w H h a o) (k:∀b u,(b=a\/H b=some (.own a))->h.get? b=some u->h'.get? b=some u)
  (ho:∀b,H b=some (.own a)->H' b=some (.own a)) (ht:∀b xs,H b= ~~~xs->H' b= ~~~xs):ObjOk P w H' h' a o:=by
 induction o with
 | lst xs=>obtain⟨z,its,n,r,e⟩:=x;exact%[z,its,n,r|k _ _ (.inl rfl) e]
 | tup xs=>obtain⟨z,its,r,ob,e,c⟩:=x;exact%[z,its,r,ob,k _ _ (.inl rfl) e|c]
 | dK kvs=>obtain⟨z,y,vs,r,ob,es,ep,e,c⟩:=x;exact%[z,y,vs,r,ob,es,ep,k _ _ (.inl rfl) e|c]
 | dT kvs=>
  obtain⟨z,y,xs,r,ob,es,ep,e,c⟩:=x;exact%[z,y,xs,Dt r λ p q z=>%[z.1,ht _ _ z.2.1|z.2.2],ob,es,ep,k _ _ (.inl rfl) e|c]
 | set S n=>obtain⟨ob,es,ep,t,e,c⟩:=x;exact%[ob,es,ep,t,k _ _ (.inl rfl) e|c]
 | ins C dx fs=>
  obtain⟨d,z,ne,e,mA,⟨od,es,ep,e2,c⟩,r⟩:=x;exact%[ho _ d,z,ne,k _ _ (.inl rfl) e,mA,%[od,es,ep,k _ _ (.inr d) e2|c]|r]
 | own y=>obtain⟨ob,e⟩:=x;exact%[ob|k _ _ (.inl rfl) e]
 | xd fs=>obtain⟨mA,⟨od,es,ep,e,c⟩,r⟩:=x;exact%[mA,%[od,es,ep,k _ _ (.inl rfl) e|c]|r]
 | rng lo hi=>obtain⟨t,u,v,e⟩:=x;exact%[t,u,v|k _ _ (.inl rfl) e]
 | frz ob u ih=>obtain⟨e,q⟩:=x;exact%[k _ _ (.inl rfl) e|ih q]
 | tbl ps=>
  have e:h.get? a=some { cls:=.none,data:=.fields ps }:=x;show h'.get? a=some { cls:=.none,data:=.fields ps };exact k a _ (.inl rfl) e
 | met f y=>
  have e:h.get? a=some (PySem.W.methodObj (.ref f) (.ref y)):=x;show h'.get? a=some (PySem.W.methodObj (.ref f) (.ref y));exact k a _ (.inl rfl) e
 | ext φ=>obtain⟨p,⟨o,e⟩,st⟩:=x;exact%[st _ _ p λ o q=>k _ _ (.inl rfl) q,%[o|k _ _ (.inl rfl) e]|st]
theorem HOk.lt (x:HOk P w H h) (e:H a=some o):a < h.objs.size:=(x a o e).lt
theorem HOk.fresh (x:HOk P w H h) (e:h.objs.size<=a):H a=none:=by
 cases q:H a with
 | none=>rfl
 | some u=>exact absurd (B9 (x.lt q) e) (C8 _)
theorem HOk.kept (x:HOk P w H h) (k:∀b u,h.get? b=some u->h'.get? b=some u):HOk P w H h':=λ a o e=>
 (x a o e).stay (λ b u _ q=>k b u q) (λ _ q=>q) λ _ _ q=>q
theorem HOk.laid (x:HOk P w H h) (k:∀b u,h.get? b=some u->h'.get? b=some u) (hp:h.objs.size<=a) (new:ObjOk P w (upd H a o) h' a o):HOk P w (upd H a o) h':=λ b u e=>by
 have hn:=x.fresh hp
 by_cases hb:b=a
 ·subst hb;rw[ag]at e;cases e;exact new
 ·rw[ao hb]at e;exact(x b u e).stay (λ c v _ q=>k c v q) (λ c q=>by rw[ao (ak q hn)];exact q) λ c xs q=>by rw[ao (ak q hn)];exact q
end
def Rd (H:Hp) (a:Eo) (u:HO):Prop:=H a=some u\/∃o,H a=some (.frz o u)
theorem Rd.ok {P:Dl} {w:Do} {H:Hp} {h:Heap} {a:Eo} {u:HO} (r:Rd H a u) (x:HOk P w H h):ObjOk P w H h a u:=by
 rcases r with r | ⟨o,r⟩
 ·exact x a u r
 ·obtain⟨_,q⟩:=x a _ r;exact q
def Mut:Er HO->Prop
 | ↥_=>True
 | some (.dK _)=>True
 | some (.dT _)=>True
 | some (.set _ _)=>True
 | some (.ins _ _ _)=>True
 | some (.ext _)=>True
 | _=>False
section
variable {P:Dl} {w:Do} {H:Hp} {h h':Heap} {x e:Eo} {o':HO}
theorem HOk.write (ok:HOk P w H h) (mu:Mut (H x)) (he:e=x\/H e=some (.own x)) (k:∀b u,b≠e->h.get? b=some u->h'.get? b=some u) (heo:∃u,h'.get? e=some u)
  (new:ObjOk P w (upd H x o') h' x o'):HOk P w (upd H x o') h':=λ b u q=>by
 have nown:∀c y,H c=some (.own y)->c≠x:=λ c y r z=>by subst z;rw[r]at mu;exact mu
 have ntup:∀c xs,H c= ~~~xs->c≠x:=λ c xs r z=>by subst z;rw[r]at mu;exact mu
 by_cases hb:b=x
 ·subst hb;rw[ag]at q;cases q;exact new
 ·rw[ao hb]at q
  by_cases hbe:b=e
  ·have q':H b=some (.own x):=by
    rcases he with z | z
    ·exact absurd (hbe.trans z) hb
    ·rw[hbe];exact z
   rw[q]at q';cases q';obtain⟨v,hv⟩:=heo;exact%[v|by rw[hbe];exact hv]
  ·refine(ok b u q).stay (λ c v hc r=>k c v ?_ r) (λ c r=>by rw[ao (nown c b r)];exact r) λ c xs r=>by rw[ao (ntup c xs r)];exact r
   rcases hc with rfl | hc
   ·exact hbe
   ·rintro rfl;rcases he with z | z
    ·exact nown c b hc z
    ·rw[hc]at z;cases z;exact hb rfl
end
structure Un (fs ex:Et Eo) (H H':Hp) (h h':Heap):Prop where
 keep:∀b o,h.get? b=some o->H b=none->b∉fs->b∉ex->h'.get? b=some o
 slot:∀b o,h.get? b=some o->H b=none->b∈fs->b∉ex->∃sl,h'.get? b=some { o with slots:=sl }
 free:∀b o,h.get? b=some o->H b=none->b∉ex->H' b=none
 there:∀b o,h.get? b=some o->b∉ex->∃o',h'.get? b=some o'
 tups:∀b xs,H b= ~~~xs->H' b= ~~~xs
 frzs:∀b o u,H b=some (.frz o u)->H' b=some (.frz o u)
 tbls:∀b ps,H b=some (.tbl ps)->∃more,H' b=some (.tbl (ps ++ more))
section
variable {fs fs' ex ex':Et Eo} {H H1 H2:Hp} {h h1 h2 h':Heap} {a x e:Eo} {o:HO}
theorem Un.any (u:Un fs ex H H1 h h1) {b:Eo} {ob:Obj} (q:h.get? b=some ob) (n:H b=none) (hx:b∉ex):∃sl,h1.get? b=some { ob with slots:=sl }:=by
 by_cases hb:b∈fs
 ·exact u.slot b ob q n hb hx
 ·exact%[ob.slots|u.keep b ob q n hb hx]
theorem Un.kept (k:∀b u,h.get? b=some u->h'.get? b=some u):Un fs ex H H h h' :=
 %[λ b ob q _ _ _=>k b ob q,λ b ob q _ _ _=>%[ob.slots|k b ob q],λ _ _ _ n _=>n,λ b ob q _=>%[ob|k b ob q],λ _ _ q=>q,λ _ _ _ q=>q|λ _ ps q=>%[#[]|by rw[q];simp]]
theorem Un.refl:Un fs ex H H h h:=Un.kept λ _ _ q=>q
theorem Un.laid (k:∀b u,h.get? b=some u->h'.get? b=some u) (hp:h.objs.size<=a) (hn:H a=none):Un fs ex H (upd H a o) h h' where
 keep:=λ b u q _ _ _=>k b u q
 slot:=λ b u q _ _ _=>%[u.slots|k b u q]
 free:=λ b u q n _=>by rw[ao (B7 (B9 (Heap.lt_size q) hp))];exact n
 there:=λ b u q _=>%[u|k b u q]
 tups:=λ b xs q=>by rw[ao (ak q hn)];exact q
 frzs:=λ b u xs q=>by rw[ao (ak q hn)];exact q
 tbls:=λ b ps q=>%[#[]|by rw[ao (ak q hn),q];simp]
theorem Un.write (mu:Mut (H x)) (he:e=x\/H e=some (.own x)) (k:∀b u,b≠e->h.get? b=some u->h'.get? b=some u) (heo:∃u,h'.get? e=some u):Un fs ex H (upd H x o) h h':=by
 have hx:∀b,H b=none->b≠x:=λ b n z=>by subst z;rw[n]at mu;exact mu
 have hb:∀b,H b=none->b≠e:=λ b n z=>by
  subst z;rcases he with r | r
  ·exact hx b n r
  ·rw[n]at r;cases r
 have hm:∀b u,H b=some u->¬ Mut (some u)->b≠x:=λ b u q nm z=>by subst z;rw[q]at mu;exact nm mu
 refine⟨λ b u q n _ _=>k b u (hb b n) q,λ b u q n _ _=>%[u.slots|k b u (hb b n) q],λ b u q n _=>by rw[ao (hx b n)];exact n,λ b u q _=>?_,
  λ b xs q=>by rw[ao (hm b _ q λ z=>z)];exact q,λ b u xs q=>by rw[ao (hm b _ q λ z=>z)];exact q,λ b ps q=>%[#[]|by rw[ao (hm b _ q λ z=>z),q];simp]⟩
 by_cases hbe:b=e
 ·subst hbe;exact heo
 ·exact%[u|k b u hbe q]
end
def trk (h:Heap) (H:Hp):Et Eo:=(List.range h.objs.size).filter λ a=>(H a).isSome
def gf (h:Heap) (H:Hp):Heap:=PySem.W.hideAll h (trk h H)
theorem kT (h:Heap) (H:Hp):(gf h H).objs.size=h.objs.size:=PySem.W.hideAll_size _ _
theorem mn {h:Heap} {H:Hp} {b:Eo} {o:Obj} (e:h.get? b=some o) (n:H b=none):(gf h H).get? b=some o :=
 PySem.W.hideAll_get _ e λ hm=>by have q:(H b).isSome=true:=(List.mem_filter.mp hm).2;rw[n]at q;simp at q
theorem oI {h:Heap} {H:Hp} {b:Eo} {o:Obj} (e:(gf h H).get? b=some o):h.get? b=some o/\H b=none:=by
 have e':h.get? b=some o:=PySem.W.of_hideAll (trk h H) e;refine%[e'|?_];cases q:H b with
 | none=>rfl
 | some x=>
  have hm:b∈trk h H:=List.mem_filter.mpr %[List.mem_range.mpr (A6 e')|by simp[q]];have z:(gf h H).get? b=none:=PySem.W.hideAll_none (trk h H) hm;rw[z]at e;cases e
def oJ (g h:Heap) (L:Eo):Et (Eo×Obj):=(List.range h.objs.size).filterMap λ a=>if a=L\/(g.get? a).isSome=true then none else(h.get? a).map λ o=>(a,o)
def cW (g h:Heap) (L d:Eo):Et (Eo×Obj):=(oJ g h L).filter λ p=>decide (p.1≠d)
structure Mod (K:C4) (mg:Str->Er Value) (base:Heap):Prop where
 kin:K.In base
 glob:base.Ns Eu mg
 blt:∃mb,base.Ns builtinsNs mb/\∀x:Str,x ≠ "__name__" -> mb x=bootBuiltins x
 nolimit:base.NoLimit
/-- the context: a def's body (or a comprehension's block) running. base: fixed through the bA law;s₀,H₀: the entry;outer: the frames whose slots others may change (a def's callers);stack: all frames that run;
   ex: iterators that were made ahead of the entry and are walked here (a comprehension's);fn: the names whose cells were made at the entry (a def: all;a comprehension's block: its own);calm: not within an except suite;pn: Ev that every state bears;xe: what is wanted of an exception that leaves the code -/
structure Cx where
 prog:Program
 w:World
 K:C4
 mg:Str->Er Value
 base:Heap
 A:Around
 N:Et Str
 s₀:Shared
 H₀:Hp
 env:Env
 outer:Et Env
 stack:Et Env
 ex:Et Eo
 fn:Str->Bool
 calm:Bool
 pn:Et (Eo×Obj)
 xe:Dp->DY->Prop
def frs (l:Et Env):Et Eo:=l.filterMap (·.frame)
abbrev Cx.fs (X:Cx):Et Eo:=frs X.outer
def Vis (sc:Scope) (x:Str):Prop:=sc.names.lookup x=some .local\/sc.names.lookup x=some .cell\/sc.names.lookup x=some .free
def Loc (sc:Scope) (x:Str):Prop:=sc.names.lookup x=some .local\/sc.names.lookup x=some .cell
def AQ (env:Env) (h:Heap) (m:Str->Er Dp) (x:Str) (u:Dp):Prop :=
 (env.kindOf x=some .local/\m x=some u)\/((env.kindOf x=some .cell\/env.kindOf x=some .free)/\∃c,env.cells.lookup x=some c/\h.IsCell c (some u))
structure Cx.Ok (X:Cx):Prop where
 mod:Mod X.K X.mg X.base
 kind:X.env.scope.kind=.function
 glob:X.env.globals=Eu
 blt:X.env.builtins=builtinsNs
 above:X.s₀.heap.objs.size<=X.env.locals
 inj:∀x y c,X.env.cells.lookup x=some c->X.env.cells.lookup y=some c->x=y
 has:∀x,(X.env.kindOf x=some .cell\/X.env.kindOf x=some .free)->∃c,X.env.cells.lookup x=some c
 cab:∀x c,X.fn x=true->X.env.cells.lookup x=some c->X.s₀.heap.objs.size<=c
 hd:X.calm=true->X.A.handled=none
 frames:X.A.frames=some X.stack
 stk:X.stack=X.outer\/(X.stack=X.env :: X.outer/\X.env.frame=some X.env.locals)
 exf:∀b∈X.ex,b≠X.env.locals/\∀x c,X.env.cells.lookup x=some c->c≠b
 bs:∀b o,X.base.get? b=some o->X.s₀.heap.get? b=some o/\X.H₀ b=none
 bsz:X.base.objs.size<=X.s₀.heap.objs.size
 noex:∀b o,X.base.get? b=some o->b∉X.ex
 exfs:∀b∈X.ex,b∉X.fs
 funs:X.s₀.heap.FunFrames X.base X.outer
 frf:∀b∈X.fs,X.H₀ b=none
structure Inv (X:Cx) (Ev:Et (Eo×Obj)) (σ:Et (Er V)) (H:Hp) (s:Shared):Prop where
 ok:X.Ok
 os:s.os=X.s₀.os
 bare:AllBare s.gens
 base:Un X.fs X.ex X.H₀ H X.s₀.heap s.heap
 loc:∃m,s.heap.Ns X.env.locals m/\∀ (i:Nat) (x:Str) (v:V),X.N[i]?=some x->σ[i]?=some (some v)->Vis X.env.scope x->∃u,RelV v u/\AQ X.env s.heap m x u
 cell:∀x c,X.env.cells.lookup x=some c->∃v,s.heap.IsCell c v
 free:H X.env.locals=none
 freeC:∀x c,X.env.cells.lookup x=some c->H c=none
 pin:∀p∈X.pn ++ Ev,s.heap.get? p.1=some p.2/\H p.1=none/\p.1≠X.env.locals/\p.1∉X.fs/\∀v,p.2.data≠.cell v
 hok:HOk X.prog X.w H s.heap
 len:σ.length=X.N.length
section
variable {X:Cx} {Ev:Et (Eo×Obj)} {σ:Et (Er V)} {H H':Hp} {s:DY} {h':Heap}
theorem Cx.Ok.nofr (ok:X.Ok) {b:Eo} {o:Obj} (e:X.base.get? b=some o):b∉X.fs:=λ hb=>by have:=(ok.funs.mem hb).1;rw[e]at this;cases this
theorem Inv.bs (I:Inv X Ev σ H s):∀b o,X.base.get? b=some o->s.heap.get? b=some o/\H b=none:=λ b o e=>
 %[I.base.keep b o (I.ok.bs b o e).1 (I.ok.bs b o e).2 (I.ok.nofr e) (I.ok.noex b o e)|I.base.free b o (I.ok.bs b o e).1 (I.ok.bs b o e).2 (I.ok.noex b o e)]
theorem Inv.bk (I:Inv X Ev σ H s):∀b o,X.base.get? b=some o->s.heap.get? b=some o:=λ b o e=>(I.bs b o e).1
theorem Inv.mod (I:Inv X Ev σ H s):Mod X.K X.mg X.base:=I.ok.mod
theorem Inv.kIn (I:Inv X Ev σ H s):X.K.In s.heap:=I.ok.mod.kin.keeps I.bk
theorem Inv.fr (I:Inv X Ev σ H s):∃m,Fr X.base X.env.locals s.heap m :=
 let ⟨m,hn,_⟩:=I.loc
 %[m,hn,I.bk|C5 I.ok.bsz I.ok.above]
theorem Inv.lt (I:Inv X Ev σ H s):X.env.locals < s.heap.objs.size:=let ⟨_,hn,_⟩:=I.loc;hn.lt
theorem Inv.sz (I:Inv X Ev σ H s):X.s₀.heap.objs.size<=s.heap.objs.size:=C5 I.ok.above (C7 I.lt)
theorem Inv.nofs (I:Inv X Ev σ H s) {a:Eo} (h:s.heap.objs.size<=a):a∉X.fs:=λ hb=>by obtain⟨_,o,ho,_⟩:=I.ok.funs.mem hb;exact absurd (B9 (A6 ho) (C5 I.sz h)) (C8 _)
theorem Inv.cne (I:Inv X Ev σ H s):∀x c,X.env.cells.lookup x=some c->c≠X.env.locals:=λ x c e z=>by obtain⟨v,o,ho,hd⟩:=I.cell x c e;obtain⟨m,⟨o',es,ep,ho',hd',_⟩,_⟩:=I.loc;rw[z,ho']at ho;cases ho;rw[hd']at hd;cases hd
theorem Inv.funs (I:Inv X Ev σ H s):s.heap.FunFrames X.base X.outer:=by
 have all:∀ (l:Et Env),(∀b∈frs l,b∈X.fs)->X.s₀.heap.FunFrames X.base l->s.heap.FunFrames X.base l:=by
  intro l
  induction l with
  | nil=>intro _ _;trivial
  | cons env r ih=>
   intro hs hl;obtain⟨hk,⟨L,o,hf,hn,ho,hd⟩,hr⟩:=hl;have hL:L∈X.fs:=hs L (by unfold frs;rw[EM,hf];exact B5);obtain⟨sl,e⟩:=I.base.slot L o ho (I.ok.frf L hL) hL λ z=>I.ok.exfs L z hL;exact%[hk,%[L,_,hf,hn,e|hd]|ih (λ b hb=>hs b (by unfold frs;rw[EM,hf];exact B1 _ hb)) hr]
 exact all X.outer (λ _ hb=>hb) I.ok.funs
theorem Inv.stack (I:Inv X Ev σ H s):s.heap.FunFrames X.base X.stack:=by
 rcases I.ok.stk with e | ⟨e,hf⟩
 ·rw[e];exact I.funs
 ·rw[e];obtain⟨m,hn,_⟩:=I.loc;refine .cons (by rw[I.ok.kind];decide) hf hn ?_ I.funs;exact Heap.get?_none_of_le (C5 I.ok.bsz I.ok.above)
theorem Inv.stkSub (I:Inv X Ev σ H s):∀b∈frs X.stack,b∈X.env.locals :: X.fs:=λ b hb=>by
 rcases I.ok.stk with e | ⟨e,hf⟩
 ·rw[e]at hb;exact B1 _ hb
 ·rw[e]at hb;unfold frs at hb;rw[EM,hf]at hb;exact hb
theorem Inv.stkFree (I:Inv X Ev σ H s):∀b∈frs X.stack,H b=none:=λ b hb=>by
 rcases Dx.mp (I.stkSub b hb)with e | hb
 ·rw[e];exact I.free
 ·obtain⟨_,o,ho,_⟩:=I.ok.funs.mem hb;exact I.base.free b o ho (I.ok.frf b hb) λ z=>I.ok.exfs b z hb
theorem Inv.step {g':Es GenState} {t':Nat} {d':Drawn} {ch:Et Eo} (I:Inv X Ev σ H s)
  (hch:∀b∈ch,(b∈X.ex\/X.s₀.heap.objs.size<=b)/\b≠X.env.locals/\(∀x c,X.env.cells.lookup x=some c->c≠b)/\∀p∈X.pn ++ Ev,p.1≠b)
  (keep:∀b o,b≠X.env.locals->b∉X.fs->b∉ch->s.heap.get? b=some o->H b=none->h'.get? b=some o)
  (slot:∀b o,b≠X.env.locals->b∈X.fs->b∉ch->s.heap.get? b=some o->H b=none->∃sl,h'.get? b=some { o with slots:=sl }) (free:∀b o,b∉ch->s.heap.get? b=some o->H b=none->H' b=none)
  (there:∀b o,b∉ch->s.heap.get? b=some o->∃o',h'.get? b=some o')
  (tups:∀b xs,H b= ~~~xs->H' b= ~~~xs) (frzs:∀b o u,H b=some (.frz o u)->H' b=some (.frz o u)) (tbls:∀b ps,H b=some (.tbl ps)->∃more,H' b=some (.tbl (ps ++ more)))
  (ns:∀m,s.heap.Ns X.env.locals m->h'.Ns X.env.locals m) (hok:HOk X.prog X.w H' h') (hg:AllBare g') :
  Inv X Ev σ H' { s with heap:=h',gens:=g',drawn:=d',toks:=t' }:=by
 have neL:∀b o,X.s₀.heap.get? b=some o->b≠X.env.locals:=λ b o e=>B7 (B9 (A6 e) I.ok.above);have neC:∀b o,X.s₀.heap.get? b=some o->b∉X.ex->b∉ch:=λ b o e hx hb=>by
  rcases(hch b hb).1 with z | z
  ·exact hx z
  ·exact absurd (B9 (A6 e) z) (C8 _)
 have cellK:∀x c,X.env.cells.lookup x=some c->∀v,s.heap.IsCell c v->h'.IsCell c v:=λ x c e v ⟨o,ho,hd⟩=>by
  have nch:c∉ch:=λ z=>(hch c z).2.2.1 x c e rfl
  by_cases hc:c∈X.fs
  ·obtain⟨sl,q⟩:=slot c o (I.cne x c e) hc nch ho (I.freeC x c e);exact%[_,q|hd]
  ·exact%[o,keep c o (I.cne x c e) hc nch ho (I.freeC x c e)|hd]
 refine%[I.ok,I.os,hg,%[λ b o e n hb hx=>?_,λ b o e n hb hx=>?_,λ b o e n hx=>?_,λ b o e hx=>?_,λ b xs e=>tups b xs (I.base.tups b xs e),λ b o xs e=>frzs b o xs (I.base.frzs b o xs e)|λ b ps e=>?_],?_,λ x c e=>?_,?_,λ x c e=>?_,λ p hp=>?_,hok|I.len]
 ·exact keep b o (neL b o e) hb (neC b o e hx) (I.base.keep b o e n hb hx) (I.base.free b o e n hx)
 ·obtain⟨sl,e1⟩:=I.base.slot b o e n hb hx;obtain⟨sl',e2⟩:=slot b _ (neL b o e) hb (neC b o e hx) e1 (I.base.free b o e n hx);exact%[sl'|e2]
 ·obtain⟨o',e1⟩:=I.base.there b o e hx;exact free b o' (neC b o e hx) e1 (I.base.free b o e n hx)
 ·obtain⟨o',e1⟩:=I.base.there b o e hx;exact there b o' (neC b o e hx) e1
 ·obtain⟨m1,e1⟩:=I.base.tbls b ps e;obtain⟨m2,e2⟩:=tbls b _ e1;exact%[m1 ++ m2|by rw[e2,Array.append_assoc]]
 ·obtain⟨m,hn,hl⟩:=I.loc;refine%[m,ns m hn|λ i x v e1 e2 e3=>?_];obtain⟨u,r,l⟩:=hl i x v e1 e2 e3;refine%[u,r|?_];rcases l with l | ⟨k,c,e,z⟩
  ·exact .inl l
  ·exact .inr %[k,c,e|cellK x c e _ z]
 ·obtain⟨v,z⟩:=I.cell x c e;exact%[v|cellK x c e v z]
 ·obtain⟨m,⟨o,_,_,ho,_⟩,_⟩:=I.loc;exact free _ o (λ z=>(hch _ z).2.1 rfl) ho I.free
 ·obtain⟨v,o,ho,hd⟩:=I.cell x c e;exact free c o (λ z=>(hch c z).2.2.1 x c e rfl) ho (I.freeC x c e)
 ·obtain⟨e,n,ne,nf,d⟩:=I.pin p hp;have nch:p.1∉ch:=λ z=>(hch p.1 z).2.2.2 p hp rfl;exact%[keep p.1 p.2 ne nf nch e n,free p.1 p.2 nch e n,ne,nf|d]
theorem Inv.un {t':Nat} (I:Inv X Ev σ H s) (u:Un X.fs [] H H' s.heap h') (hok:HOk X.prog X.w H' h'):Inv X Ev σ H' { s with heap:=h',toks:=t' }:=by
 obtain⟨m,⟨o,es,ep,ho,r⟩,_⟩:=id I.loc;obtain⟨sl,hL⟩:=u.any ho I.free (by simp);exact I.step (g':=s.gens) (d':=s.drawn) (ch:=[]) (λ _ z=>nomatch z) (λ b o _ hb _ e n=>u.keep b o e n hb (by simp)) (λ b o _ hb _ e n=>u.slot b o e n hb (by simp)) (λ b o _ e n=>u.free b o e n (by simp)) (λ b o _ e=>u.there b o e (by simp)) u.tups u.frzs u.tbls (λ m' hm=>by
  obtain⟨o',es',ep',ho',r'⟩:=hm;rw[ho]at ho';cases ho';exact%[_,es',ep',hL|r']) hok I.bare
theorem Inv.call {g':Es GenState} {t':Nat} {d':Drawn} {ch:Et Eo} (I:Inv X Ev σ H s) (u:Un (frs X.stack) ch H H' s.heap h') (hok:HOk X.prog X.w H' h') (hg:AllBare g')
  (hch:∀b∈ch,(b∈X.ex\/X.s₀.heap.objs.size<=b)/\b≠X.env.locals/\(∀x c,X.env.cells.lookup x=some c->c≠b)/\∀p∈X.pn ++ Ev,p.1≠b) :
  Inv X Ev σ H' { s with heap:=h',gens:=g',drawn:=d',toks:=t' }:=by
 obtain⟨m,⟨o,es,ep,ho,r⟩,_⟩:=id I.loc;obtain⟨sl,hL⟩:=u.any ho I.free λ z=>(hch _ z).2.1 rfl;exact I.step (ch:=ch) hch (λ b o hL hb hc e n=>u.keep b o e n (λ z=>(Dx.mp (I.stkSub b z)).elim hL hb) hc) (λ b o _ _ hc e n=>u.any e n hc) (λ b o hc e n=>u.free b o e n hc) (λ b o hc e=>u.there b o e hc) u.tups u.frzs u.tbls (λ m' hm=>by
  obtain⟨o',es',ep',ho',r'⟩:=hm;rw[ho]at ho';cases ho';exact%[_,es',ep',hL|r']) hok hg
theorem Inv.turned {t':Nat} {it:Eo} (I:Inv X Ev σ H s) (k:∀b o,b≠it->s.heap.get? b=some o->h'.get? b=some o) (hn:H it=none) (hL:it≠X.env.locals)
  (h1:it∈X.ex\/X.s₀.heap.objs.size<=it) (h2:∀x c,X.env.cells.lookup x=some c->c≠it) (h3:∀p∈X.pn ++ Ev,p.1≠it):Inv X Ev σ H { s with heap:=h',toks:=t' }:=by
 have nit:∀b u,H b=some u->b≠it:=λ b u e z=>by rw[z,hn]at e;cases e
 refine I.step (g':=s.gens) (d':=s.drawn) (ch:=[it]) (λ b hb=>?_) (λ b o _ _ hc e _=>k b o (λ z=>hc (by simp[z])) e) (λ b o _ _ hc e _=>%[o.slots|k b o (λ z=>hc (by simp[z])) e]) (λ _ _ _ _ n=>n)
  (λ b o hc e=>%[o|k b o (λ z=>hc (by simp[z])) e]) (λ _ _ e=>e) (λ _ _ _ e=>e) (λ b ps e=>%[#[]|by rw[e];simp]) (λ m hm=>?_) (λ b u e=>?_) I.bare
 ·have e:b=it:=by simpa using hb
  subst e;exact%[h1,hL,h2|h3]
 ·obtain⟨o,es,ep,ho,r⟩:=hm;exact%[o,es,ep,k _ o (Ne.symm hL) ho|r]
 ·refine(I.hok b u e).stay (λ c v hc q=>k c v ?_ q) (λ _ q=>q) λ _ _ q=>q;rcases hc with z | z
  ·rw[z];exact nit b u e
  ·exact nit c _ z
theorem Inv.tok (I:Inv X Ev σ H s) (t:Nat):Inv X Ev σ H { s with toks:=t }:=I.un (h':=s.heap) (t':=t) Un.refl I.hok
theorem Inv.kept {t':Nat} (I:Inv X Ev σ H s) (k:∀b u,s.heap.get? b=some u->h'.get? b=some u):Inv X Ev σ H { s with heap:=h',toks:=t' }:=I.un (Un.kept k) (I.hok.kept k)
theorem Inv.laid {a:Eo} {o:HO} {t':Nat} (I:Inv X Ev σ H s) (k:∀b u,s.heap.get? b=some u->h'.get? b=some u) (hp:s.heap.objs.size<=a) (new:ObjOk X.prog X.w (upd H a o) h' a o) :
  Inv X Ev σ (upd H a o) { s with heap:=h',toks:=t' }:=I.un (Un.laid k hp (I.hok.fresh hp)) (I.hok.laid k hp new)
theorem Inv.write {x e:Eo} {o:HO} {t':Nat} (I:Inv X Ev σ H s) (mu:Mut (H x)) (he:e=x\/H e=some (.own x)) (k:∀b u,b≠e->s.heap.get? b=some u->h'.get? b=some u) (heo:∃u,h'.get? e=some u)
  (new:ObjOk X.prog X.w (upd H x o) h' x o):Inv X Ev σ (upd H x o) { s with heap:=h',toks:=t' }:=I.un (Un.write mu he k heo) (I.hok.write mu he k heo new)
theorem Inv.weak {σ':Et (Er V)} (I:Inv X Ev σ H s) (hl:σ'.length=σ.length) (w:∀ (i:Nat) v,σ'[i]?=some (some v)->σ[i]?=some (some v)):Inv X Ev σ' H s :=
 %[I.ok,I.os,I.bare,I.base,let ⟨m,hn,hl'⟩:=I.loc;%[m,hn|λ i x v e1 e2 e3=>hl' i x v e1 (w i v e2) e3],I.cell,I.free,I.freeC,I.pin,I.hok|hl.trans I.len]
theorem Inv.pins_of {pins':Et (Eo×Obj)} (I:Inv X Ev σ H s) (h:∀p∈pins',s.heap.get? p.1=some p.2/\H p.1=none/\p.1≠X.env.locals/\p.1∉X.fs/\∀v,p.2.data≠.cell v):Inv X pins' σ H s :=
 %[I.ok,I.os,I.bare,I.base,I.loc,I.cell,I.free,I.freeC,λ p hp=>(C0.mp hp).elim (λ z=>I.pin p (B3 _ z)) (h p),I.hok|I.len]
theorem fc {N:Et Str} (hN:N.Nodup) {i j:Nat} {x:Str} (a:N[i]?=some x) (b:N[j]?=some x):i=j:=by obtain⟨h1,e1⟩:=A3.mp a;obtain⟨h2,e2⟩:=A3.mp b;exact(List.getElem_inj hN).mp (e1.trans e2.symm)
theorem dY {M:Model} {A:Around} {E:Dp->DY->Prop} {i:Nat} {x:Str} {v:V} {u:Dp} {Q:Unit->DY->Prop} (I:Inv X Ev σ H s) (hN:X.N.Nodup) (hi:X.N[i]?=some x) (hx:Loc X.env.scope x) (r:RelV v u)
  (h:∀s',Inv X Ev (σ.set i (some v)) H s'->(∃a,Heap.SameBut a s.heap s'.heap/\(a=X.env.locals\/X.env.cells.lookup x=some a))->Q () s') (hf:X.fn x=true\/X.env.scope.names.lookup x=some .local:=by first | exact .inl rfl | exact .inr rfl | assumption):wpAny M A (storeName X.env x u) Q E s:=by
 obtain⟨m,hn,hl⟩:=id I.loc;have hcls:(X.env.scope.kind == .class || (X.env.scope.kind == .module && X.env.locals != X.env.globals))=false:=by rw[I.ok.kind];rfl
 have hiσ:i < σ.length:=by rw[I.len];exact(A3.mp hi).1
 have cne:=I.cne;have tracked:∀ {a:Eo} {h':Heap},(∃o,s.heap.get? a=some o/\H a=none)->Heap.SameBut a s.heap h'->HOk X.prog X.w H h':=λ {a h'} ha hs b ob e=>by
  obtain⟨_,_,hfree⟩:=ha;refine(I.hok b ob e).stay (λ c w' hc q=>(hs.2 c ?_).trans q) (λ _ q=>q) λ _ _ q=>q;rintro rfl;rcases hc with rfl | hc
  ·rw[hfree]at e;cases e
  ·rw[hfree]at hc;cases hc
 rcases hx with hk | hk
 ·refine wpAny_storeName_local hk hn (λ h' hn' hs=>?_) hcls;obtain⟨oL,_,_,hoL,_⟩:=id hn;refine h _ %[I.ok,I.os,I.bare,%[λ b o e n hb hx=>?_,λ b o e n hb hx=>?_,I.base.free,λ b o e hx=>?_,I.base.tups,I.base.frzs|I.base.tbls],%[_,hn'|λ j y v' e1 e2 e3=>?_],λ y c e=>?_,I.free,I.freeC,λ p hp=>?_,tracked %[oL,hoL|I.free] hs|by simpa using I.len] %[_,hs|.inl rfl]
  ·exact(hs.2 b (B7 (B9 (A6 e) I.ok.above))).trans (I.base.keep b o e n hb hx)
  ·obtain⟨sl,e1⟩:=I.base.slot b o e n hb hx;exact%[sl|(hs.2 b (B7 (B9 (A6 e) I.ok.above))).trans e1]
  ·obtain⟨o',e1⟩:=I.base.there b o e hx;exact%[o'|(hs.2 b (B7 (B9 (A6 e) I.ok.above))).trans e1]
  ·by_cases hj:j=i
   ·subst hj;rw[hi]at e1;cases e1;rw[Eb hiσ]at e2;cases e2;exact%[u,r|.inl %[hk|by simp]]
   ·rw[List.getElem?_set_ne (Ne.symm hj)]at e2;obtain⟨u',r',q⟩:=hl j y v' e1 e2 e3;refine%[u',r'|?_];rcases q with⟨k,e⟩ | ⟨k,c,e,z⟩
    ·refine .inl %[k|?_];have:y≠x:=λ e=>hj (fc hN e1 (e ▸ hi));simp[this,e]
    ·exact .inr %[k,c,e|z.sameBut hs (cne y c e)]
  ·obtain⟨w',z⟩:=I.cell y c e;exact%[w'|z.sameBut hs (cne y c e)]
  ·obtain⟨e,n,ne,nf,d⟩:=I.pin p hp;exact%[(hs.2 p.1 ne).trans e,n,ne,nf|d]
 ·have hfn:X.fn x=true:=by
   rcases hf with z | z
   ·exact z
   ·rw[z]at hk;cases hk
  obtain⟨c,hc⟩:=I.ok.has x (.inl hk);obtain⟨w',z⟩:=I.cell x c hc;refine wpAny_storeName_cell I.ok.kind hk hc z (λ h' hc' hs=>?_);obtain⟨oc,hoc,hocd⟩:=id z;refine h { s with heap:=h' } %[I.ok,I.os,I.bare,%[λ b o e n hb hx=>?_,λ b o e n hb hx=>?_,I.base.free,λ b o e hx=>?_,I.base.tups,I.base.frzs|I.base.tbls],%[m,hn.sameBut hs (Ne.symm (cne x c hc))|λ j y v' e1 e2 e3=>?_],λ y c' e=>?_,I.free,I.freeC,λ p hp=>?_,tracked %[oc,hoc|I.freeC x c hc] hs|by simpa using I.len] %[c,hs|.inr hc]
  ·exact(hs.2 b (B7 (B9 (A6 e) (I.ok.cab x c hfn hc)))).trans (I.base.keep b o e n hb hx)
  ·obtain⟨sl,e1⟩:=I.base.slot b o e n hb hx;exact%[sl|(hs.2 b (B7 (B9 (A6 e) (I.ok.cab x c hfn hc)))).trans e1]
  ·obtain⟨o',e1⟩:=I.base.there b o e hx;exact%[o'|(hs.2 b (B7 (B9 (A6 e) (I.ok.cab x c hfn hc)))).trans e1]
  ·by_cases hj:j=i
   ·subst hj;rw[hi]at e1;cases e1;rw[Eb hiσ]at e2;cases e2;exact%[u,r|.inr %[.inl hk,c,hc|hc']]
   ·rw[List.getElem?_set_ne (Ne.symm hj)]at e2;obtain⟨u',r',q⟩:=hl j y v' e1 e2 e3;refine%[u',r'|?_];rcases q with q | ⟨k,c',e,z'⟩
    ·exact .inl q
    ·refine .inr %[k,c',e|z'.sameBut hs ?_];rintro rfl;exact hj (fc hN e1 (I.ok.inj _ _ _ e hc ▸ hi))
  ·by_cases hcc:c'=c
   ·subst hcc;exact%[_|hc']
   ·obtain⟨w2,z2⟩:=I.cell y c' e;exact%[w2|z2.sameBut hs hcc]
  ·obtain⟨e,n,ne,nf,d⟩:=I.pin p hp;refine%[(hs.2 p.1 ?_).trans e,n,ne,nf|d];intro q;rw[q,hoc]at e;have q':oc=p.2:=B6 e;exact d w' (by rw[<- q'];exact hocd)
theorem dB {M:Model} {A:Around} {E:Dp->DY->Prop} {i:Nat} {x:Str} {v:V} {u:Dp} {Q:Unit->DY->Prop} (I:Inv X Ev σ H s) (hN:X.N.Nodup) (hi:X.N[i]?=some x) (hx:Loc X.env.scope x) (r:RelV v u)
  (h:∀s',Inv X Ev (σ.set i (some v)) H s'->Q () s') (hf:X.fn x=true\/X.env.scope.names.lookup x=some .local:=by first | exact .inl rfl | exact .inr rfl | assumption):wpAny M A (storeName X.env x u) Q E s :=
 dY I hN hi hx r (λ s' I' _=>h s' I') hf
theorem Inv.call' {s':DY} {ch:Et Eo} (I:Inv X Ev σ H s) (ho:s'.os=s.os) (u:Un (frs X.stack) ch H H' s.heap s'.heap) (hok:HOk X.prog X.w H' s'.heap) (hg:AllBare s'.gens)
  (hch:∀b∈ch,(b∈X.ex\/X.s₀.heap.objs.size<=b)/\b≠X.env.locals/\(∀x c,X.env.cells.lookup x=some c->c≠b)/\∀p∈X.pn ++ Ev,p.1≠b):Inv X Ev σ H' s':=by
 obtain⟨h',g',d',t',o'⟩:=s';have e:o'=s.os:=ho;subst e;exact I.call (g':=g') (t':=t') (d':=d') u hok hg hch
end
abbrev XK:=Value->Er Eo->Hp->Prop
abbrev St:=Et (Er V)
abbrev VK:=V->Hp->Prop
abbrev TE:=St->Hp->VK->Prop
abbrev TT:=St->Hp->(Bool->Hp->Prop)->Prop
abbrev TA:=St->Hp->(Et V->Hp->Prop)->Prop
structure Ends where
 nx:St->Hp->Prop
 rt:VK
 bk:St->Hp->Prop:=λ _ _=>False
 ct:St->Hp->Prop:=λ _ _=>False
abbrev TS:=Ends->St->Hp->Prop
def EP (X:Cx) (Ev:Et (Eo×Obj)) (σ:St) (Q:VK) (u:Dp) (s':DY):Prop:=∃v H',Inv X Ev σ H' s'/\RelV v u/\Q v H'
def TP (X:Cx) (Ev:Et (Eo×Obj)) (σ:St) (Q:Bool->Hp->Prop) (b:Bool) (s':DY):Prop:=∃H',Inv X Ev σ H' s'/\Q b H'
def AP (X:Cx) (Ev:Et (Eo×Obj)) (σ:St) (Q:Et V->Hp->Prop) (us:Et Dp) (s':DY):Prop:=∃vs H',Inv X Ev σ H' s'/\Vals vs us/\Q vs H'
def SP (X:Cx) (Ev:Et (Eo×Obj)) (D:Ends) (f:Flow) (s':DY):Prop :=
 match f with
 | .next=>∃σ' H',Inv X Ev σ' H' s'/\D.nx σ' H'
 | .brk=>∃σ' H',Inv X Ev σ' H' s'/\D.bk σ' H'
 | .cont=>∃σ' H',Inv X Ev σ' H' s'/\D.ct σ' H'
 | .ret u=>∃v σ' H',Inv X Ev σ' H' s'/\RelV v u/\D.rt v H'
def PE (X:Cx) (e:Expr) (t:TE):Prop :=
 ∀ (Ev:Et (Eo×Obj)) (s:DY) (σ:St) (H:Hp) (Q:VK),Inv X Ev σ H s->t σ H Q->wpAny (model X.prog X.w) X.A (eval e X.env) (EP X Ev σ Q) X.xe s
def PT (X:Cx) (e:Expr) (t:TT):Prop :=
 ∀ (Ev:Et (Eo×Obj)) (s:DY) (σ:St) (H:Hp) (Q:Bool->Hp->Prop),Inv X Ev σ H s->t σ H Q->wpAny (model X.prog X.w) X.A (isTrue e X.env (eval e X.env)) (TP X Ev σ Q) X.xe s
def PW (X:Cx) (e:Expr) (t:TT):Prop :=
 ∀ (bA:Sem Dp) (Ev:Et (Eo×Obj)) (s:DY) (σ:St) (H:Hp) (Q:Bool->Hp->Prop),Inv X Ev σ H s->t σ H Q->wpAny (model X.prog X.w) X.A (isTrue e X.env bA) (TP X Ev σ Q) X.xe s
theorem PW.pt {X:Cx} {e:Expr} {t:TT} (h:PW X e t):PT X e t:=h _
def PA (X:Cx) (es:Et Expr) (t:TA):Prop :=
 ∀ (pos:Pos) (Ev:Et (Eo×Obj)) (s:DY) (σ:St) (H:Hp) (Q:Et V->Hp->Prop),Inv X Ev σ H s->t σ H Q->wpAny (model X.prog X.w) X.A (spliced (backTo pos (starEach es X.env))) (AP X Ev σ Q) X.xe s
def PS (X:Cx) (st:Stmt) (t:TS):Prop :=
 ∀ (Ev:Et (Eo×Obj)) (s:DY) (σ:St) (H:Hp) (D:Ends),Inv X Ev σ H s->t D σ H->wpAny (model X.prog X.w) X.A (exec st X.env) (SP X Ev D) X.xe s
def PSs (X:Cx) (st:Et Stmt) (t:TS):Prop :=
 ∀ (Ev:Et (Eo×Obj)) (s:DY) (σ:St) (H:Hp) (D:Ends),Inv X Ev σ H s->t D σ H->wpAny (model X.prog X.w) X.A (execs st X.env) (SP X Ev D) X.xe s
theorem thn {α:Type} {t:Sem α} {Q Q':α->DY->Prop} {M:Model} {A:Around} {E:Dp->DY->Prop} {s:DY} (h:wpAny M A t Q E s) (hQ:∀a s,Q a s->Q' a s):wpAny M A t Q' E s:=E4 h hQ λ _ _ x=>x
section
variable {X:Cx}
theorem bin {a b:Expr} {ta tb:TE} (ha:PE X a ta) (hb:PE X b tb) {Ev:Et (Eo×Obj)} {s:DY} {σ:St} {H:Hp} {R:V->V->Hp->Prop} (I:Inv X Ev σ H s) (h:ta σ H λ x H1=>tb σ H1 λ y H2=>R x y H2)
  {α:Type} {Q:α->DY->Prop} {f:Dp->Dp->Sem α}
  (hf:∀v u s2 x y H2,Inv X Ev σ H2 s2->RelV x v->RelV y u->R x y H2->wpAny (model X.prog X.w) X.A (f v u) Q X.xe s2) :
  wpAny (model X.prog X.w) X.A (eval a X.env) (λ v s₁=>wpAny (model X.prog X.w) X.A (eval b X.env) (λ u s₂=>wpAny (model X.prog X.w) X.A (f v u) Q X.xe s₂) X.xe s₁) X.xe s:=by
 refine thn (ha Ev s σ H _ I h) λ v s1 %[x,H1,I1,r1|q1]=>?_;refine thn (hb Ev s1 σ H1 _ I1 q1) λ u s2 %[y,H2,I2,r2|q2]=>?_;exact hf v u s2 x y H2 I2 r1 r2 q2
inductive tVar (i:Nat) (σ:St) (H:Hp) (Q:VK):Prop
 | mk (v:V) (e_0:σ[i]?=some (some v)) (e_1:Q v H):tVar i σ H Q
def tC (v:V):TE:=λ _ H Q=>Q v H
theorem rm {i:Nat} {x:Str} {pos:Pos} (hN:X.N[i]?=some x) (hv:Vis X.env.scope x) (hd:(x == ("__debug__" : Str))=false:=by decide) (hcd:(x == ("__classdict__" : Str))=false:=by decide):PE X (.Name x pos) (tVar i):=by
 intro Ev s σ H Q I h;obtain⟨v,e,h⟩:=h;obtain⟨m,hn,hl⟩:=I.loc;obtain⟨u,r,l⟩:=hl i x v hN e hv;have fin:EP X Ev σ Q u s:=%[v,H,I,r|h]
 rcases l with⟨hk,hm⟩ | ⟨hk,c,hc,hcell⟩
 ·exact wpAny_Name (wpAny_loadName_local I.ok.kind hk hn hm fin) hd
 ·rcases hk with hk | hk
  ·exact wpAny_Name (wpAny_loadName_cell I.ok.kind hk hc hcell fin) hd
  ·exact wpAny_Name (wpAny_loadName_free I.ok.kind hk hc hcell fin hcd) hd
theorem ai {i j pos}:PE X (.Constant (.int i) j pos) (tC (.int i)):=λ _ _ _ H _ I h=>wpAny_Constant_int %[.int i,H,I.tok _,%[_|rfl]|h]
theorem dl {b j pos}:PE X (.Constant (.bool b) j pos) (tC (.bl b)):=λ _ _ _ H _ I h=>Constant_bool %[.bl b,H,I,rfl|h]
theorem cc {j pos}:PE X (.Constant .none j pos) (tC .non):=λ _ _ _ H _ I h=>Constant_none %[.non,H,I,rfl|h]
theorem ap {x j pos}:PE X (.Constant (.str x) j pos) (tC (.str x)):=λ _ _ _ H _ I h=>Calls.Constant_str %[.str x,H,I.tok _,%[_|U]|h]
def Gl (X:Cx) (x:Str):Prop:=X.env.kindOf x=some .globalImplicit
theorem bJ {E:Dp->DY->Prop} {Ev:Et (Eo×Obj)} {s:DY} {σ:St} {H:Hp} {x:Str} {u:Dp} {pos:Pos} {Q:Dp->DY->Prop} (I:Inv X Ev σ H s) (hg:Gl X x) (hm:X.mg x=some u) (h:Q u s)
  (hd:(x == ("__debug__" : Str))=false:=by decide):wpAny (model X.prog X.w) X.A (eval (.Name x pos) X.env) Q E s :=
 Calls.Name_function_global I.ok.kind hg (Calls.loadGlobal_global (by rw[I.ok.glob];exact I.mod.glob.keeps I.bk) hm h) hd
theorem gg {E:Dp->DY->Prop} {Ev:Et (Eo×Obj)} {s:DY} {σ:St} {H:Hp} {x:Str} {u:Dp} {pos:Pos} {Q:Dp->DY->Prop} (I:Inv X Ev σ H s) (hg:Gl X x) (hm:X.mg x=none) (hv:bootBuiltins x=some u) (h:Q u s)
  (hn:x ≠ "__name__" := by decide) (hd:(x == ("__debug__" : Str))=false:=by decide):wpAny (model X.prog X.w) X.A (eval (.Name x pos) X.env) Q E s:=by
 obtain⟨mb,h1,h2⟩:=I.mod.blt;exact Calls.Name_function_global I.ok.kind hg (Calls.loadGlobal_builtin (by rw[I.ok.glob];exact I.mod.glob.keeps I.bk) hm (by rw[I.ok.blt];exact h1.keeps I.bk) ((h2 x hn).trans hv) h) hd
theorem aP {x:Str} {v:V} {u:Dp} {pos:Pos} (hg:Gl X x) (hm:X.mg x=some u) (r:RelV v u) (hd:(x == ("__debug__" : Str))=false:=by decide):PE X (.Name x pos) (tC v) :=
 λ _ _ _ H _ I h=>bJ I hg hm %[v,H,I,r|h] hd
theorem cN {x:Str} {v:V} {u:Dp} {pos:Pos} (hg:Gl X x) (hm:X.mg x=none) (hv:bootBuiltins x=some u) (r:RelV v u) (hn:x ≠ "__name__" := by decide) (hd:(x == ("__debug__" : Str))=false:=by decide):PE X (.Name x pos) (tC v) :=
 λ _ _ _ H _ I h=>gg I hg hm hv %[v,H,I,r|h] hn hd
variable {a b:Expr} {ta tb:TE} {pos:Pos}
def PC (X:Cx) (op:CmpOp) (a b:Expr) (t:TE):Prop :=
 ∀ (Ev:Et (Eo×Obj)) (s:DY) (σ:St) (H:Hp) (Q:VK),Inv X Ev σ H s->t σ H Q ->
  wpAny (model X.prog X.w) X.A (eval a X.env) (λ v s₁=>wpAny (model X.prog X.w) X.A (eval b X.env) (λ u s₂=>wpAny (model X.prog X.w) X.A (compareOp op v u) (EP X Ev σ Q) X.xe s₂) X.xe s₁) X.xe s
inductive IsB (x:V) (Q:Bool->Prop):Prop
 | mk (c:Bool) (e:x=.bl c) (q:Q c):IsB x Q
def tB (t:TE):TT:=λ σ H Q=>t σ H λ x H1=>IsB x λ c=>Q c H1
theorem AR {op:CmpOp} {t:TE} (h:PC X op a b t) (h1:behindInMarks op b=false:=by first | exact nobehind _ ∅ ∅ | rfl):PT X (.Compare a [op] [b] pos) (tB t):=by intro Ev s σ H Q I hw;refine wpAny_isTrue_Compare1 (thn (h Ev s σ H _ I hw) λ v s1 h1=>thn h1 λ u s2 h2=>thn h2 λ c s3 %[x,H1,I1,r1|q1]=>?_) h1;obtain⟨d,rfl,q⟩:=q1;cases r1;exact DM %[H1,I1|q]
theorem bo {e:Expr} {t:TE} (h:PE X e t) (he:∀bA,isTrue e X.env bA=(do let v<-bA;standAt e.pos;holding [v] (truthy v)):=by intro _;rfl):PT X e (tB t):=by intro Ev s σ H Q I hw;refine isTrue_plain (thn (h Ev s σ H _ I hw) λ v s1 %[x,H1,I1,r1|q1]=>?_) (he _);obtain⟨d,rfl,q⟩:=q1;cases r1;exact DM %[H1,I1|q]
variable {tA tB':TT} {cW:Et Expr}
def AS (t u:TT):TT:=λ σ H Q=>t σ H λ c H1=>if c=true then u σ H1 Q else Q false H1
def tOr (t u:TT):TT:=λ σ H Q=>t σ H λ c H1=>if c=true then Q true H1 else u σ H1 Q
def AT (t:TT):TT:=λ σ H Q=>t σ H λ c H1=>Q (!c) H1
theorem gh (ha:PT X a tA):PW X (.BoolOp .And [a] pos) tA:=by
 intro wh Ev s σ H Q I h;refine isTrue_and (thn (ha Ev s σ H Q I h) λ c s1 e=>?_);cases c with
 | true=>exact isTrue_and_nil e
 | false=>exact e
theorem ce (ha:PT X a tA):PW X (.BoolOp .Or [a] pos) tA:=by
 intro wh Ev s σ H Q I h;refine isTrue_or (thn (ha Ev s σ H Q I h) λ c s1 e=>?_);cases c with
 | false=>exact isTrue_or_nil e
 | true=>exact e
theorem iL (ha:PT X a tA) (hb:PW X (.BoolOp .And (b :: cW) pos) tB'):PW X (.BoolOp .And (a :: b :: cW) pos) (AS tA tB'):=by
 intro wh Ev s σ H Q I h;refine isTrue_and (thn (ha Ev s σ H _ I h) λ c s1 %[H1,I1|q1]=>?_);cases c with
 | true=>exact hb wh Ev s1 σ H1 Q I1 q1
 | false=>exact%[H1,I1|q1]
theorem bU (ha:PT X a tA) (hb:PW X (.BoolOp .Or (b :: cW) pos) tB'):PW X (.BoolOp .Or (a :: b :: cW) pos) (tOr tA tB'):=by
 intro wh Ev s σ H Q I h;refine isTrue_or (thn (ha Ev s σ H _ I h) λ c s1 %[H1,I1|q1]=>?_);cases c with
 | true=>exact%[H1,I1|q1]
 | false=>exact hb wh Ev s1 σ H1 Q I1 q1
theorem bE (ha:PT X a tA):PT X (.UnaryOp .Not a pos) (AT tA):=by intro Ev s σ H Q I h;exact isTrue_not (ha Ev s σ H (λ c H1=>Q (!c) H1) I h)
def wX (ta tb:TE):TE:=λ σ H Q=>ta σ H λ x H1=>IsB x λ c=>if c=true then tb σ H1 Q else Q (.bl false) H1
def wY (ta:TE):TE:=λ σ H Q=>ta σ H λ x H1=>IsB x λ c=>Q (.bl (!c)) H1
theorem mo {op} {t:TE} (h:PE X a t):PE X (.BoolOp op [a] pos) t:=λ Ev s σ H Q I hw=>BoolOp_one (h Ev s σ H Q I hw)
theorem gi (ha:PE X a ta) (hb:PE X (.BoolOp .And (b :: cW) pos) tb):PE X (.BoolOp .And (a :: b :: cW) pos) (wX ta tb):=by
 intro Ev s σ H Q I h;refine BoolOp_and (thn (ha Ev s σ H _ I h) λ v s1 %[x,H1,I1,r1|q1]=>?_);obtain⟨c,rfl,q1⟩:=q1;cases r1;refine DM ?_;cases c with
 | true=>exact hb Ev s1 σ H1 Q I1 q1
 | false=>exact%[.bl false,H1,I1,U|q1]
theorem mq (ha:PE X a ta):PE X (.UnaryOp .Not a pos) (wY ta):=by intro Ev s σ H Q I h;refine UnaryOp_ (thn (ha Ev s σ H _ I h) λ v s1 %[x,H1,I1,r1|q1]=>?_);obtain⟨c,rfl,q1⟩:=q1;cases r1;exact not_of (DM %[.bl (!c),H1,I1,rfl|q1])
end
def SqL (K:C4) (H:Hp) (a:Eo) (xs:Et V):Prop :=
 Rd H a (.lst xs) \/
  ∃ (o:Obj) (its:Es Dp) (n:Nat),K.lookup a=some o/\o.cls=.type "list" /\ o.dict=none/\o.data=.seq its n/\its.size<=sizeLine/\Vals xs its.toList
def SqT (K:C4) (H:Hp) (a:Eo) (xs:Et V):Prop :=
 Rd H a (.tup xs) \/
  ∃ (o:Obj) (its:Es Dp) (n:Nat),K.lookup a=some o/\o.cls=.type "tuple" /\ o.data=.seq its n/\its.size<=sizeLine/\Vals xs its.toList
def AU:Dp->Er V
 | .none=>some .non
 | .bool b=>some (.bl b)
 | .int i _=>⇑i
 | .str x _=>some (.str x)
 | .bytes b _=>some (.byt b)
 | .float b _=>some (.flt b)
 | .ref a=>↑a
 | .type n=>some (.ty n)
 | _=>none
theorem RelV.abs {x:V} {u:Dp} (r:RelV x u):AU u=some x:=by
 cases x with
 | non=>cases r;rfl
 | bl _=>cases r;rfl
 | int _=>obtain⟨t,rfl⟩:=r;rfl
 | str _=>obtain⟨t,rfl⟩:=r;rfl
 | byt _=>obtain⟨t,rfl⟩:=r;rfl
 | flt _=>obtain⟨t,rfl⟩:=r;rfl
 | ref _=>cases r;rfl
 | ty _=>cases r;rfl
theorem RelV.inj {x y:V} {u:Dp} (r:RelV x u) (q:RelV y u):x=y:=B6 (r.abs.symm.trans q.abs)
theorem Vals.inj:∀ {xs ys:Et V} {us:Et Dp},Vals xs us->Vals ys us->xs=ys
 | _,_,_,.nil,.nil=>rfl
 | _,_,_,.cons r t,.cons r' t'=>by rw[r.inj r',Vals.inj t t']
section
variable {X:Cx} {Ev:Et (Eo×Obj)} {σ:St} {H:Hp} {s:DY} {a:Eo} {xs ys:Et V}
theorem SqL.of {K:C4} (h:H a=↥xs):SqL K H a xs:=.inl (.inl h)
abbrev Ds:=@SqL.of
theorem SqT.of {K:C4} (h:H a= ~~~xs):SqT K H a xs:=.inl (.inl h)
abbrev Dr:=@SqT.of
theorem Inv.list (I:Inv X Ev σ H s) (h:SqL X.K H a xs):∃its:Et Dp,Vals xs its/\PlainL s.heap a its.toArray/\xs.length<=sizeLine:=by
 rcases h with h | ⟨o,its,n,hk,hc,hd,hs,hz,r⟩
 ·obtain⟨z,its,n,r,e⟩:=h.ok I.hok;exact%[its,r,%[_,n,e,U,U|U]|z]
 ·refine%[its.toList,r,%[o,n,I.kIn a o hk,hc,hd|by simpa using hs]|?_];have e:=r.length;simp only[Array.length_toList]at e;omega
theorem Inv.tuple (I:Inv X Ev σ H s) (h:SqT X.K H a xs):∃its:Et Dp,Vals xs its/\IsTup s.heap a its.toArray/\xs.length<=sizeLine:=by
 rcases h with h | ⟨o,its,n,hk,hc,hs,hz,r⟩
 ·obtain⟨z,its,r,p⟩:=h.ok I.hok;exact%[its,r,p|z]
 ·refine%[its.toList,r,%[o,I.kIn a o hk,hc,n|by simpa using hs]|?_];have e:=r.length;simp only[Array.length_toList]at e;omega
theorem Inv.list_inj (I:Inv X Ev σ H s) (h:SqL X.K H a xs) (h':SqL X.K H a ys):xs=ys:=by
 obtain⟨its,r,⟨o,n,e,_,_,d⟩,_⟩:=I.list h;obtain⟨its',r',⟨o',n',e',_,_,d'⟩,_⟩:=I.list h';rw[e]at e';cases e';rw[d]at d';injection d' with d1 _
 have:its=its':=by simpa using FI Array.toList d1
 subst this;exact r.inj r'
theorem Inv.tuple_inj (I:Inv X Ev σ H s) (h:SqT X.K H a xs) (h':SqT X.K H a ys):xs=ys:=by
 obtain⟨its,r,⟨o,e,_,n,d⟩,_⟩:=I.tuple h;obtain⟨its',r',⟨o',e',_,n',d'⟩,_⟩:=I.tuple h';rw[e]at e';cases e';rw[d]at d';injection d' with d1 _
 have:its=its':=by simpa using FI Array.toList d1
 subst this;exact r.inj r'
end
abbrev Cx.wish (X:Cx) (E:Dp->DY->Prop):Cx:={ X with xe:=E }
abbrev Cx.nox (X:Cx):Cx:=X.wish λ _ _=>False
theorem Cx.Ok.wish {X:Cx} (ok:X.Ok) (E:Dp->DY->Prop):(X.wish E).Ok :=
 %[ok.mod,ok.kind,ok.glob,ok.blt,ok.above,ok.inj,ok.has,ok.cab,ok.hd,ok.frames,ok.stk,ok.exf,ok.bs,ok.bsz,ok.noex,ok.exfs,ok.funs|ok.frf]
theorem Cx.Ok.unwish {X:Cx} {E:Dp->DY->Prop} (ok:(X.wish E).Ok):X.Ok :=
 %[ok.mod,ok.kind,ok.glob,ok.blt,ok.above,ok.inj,ok.has,ok.cab,ok.hd,ok.frames,ok.stk,ok.exf,ok.bs,ok.bsz,ok.noex,ok.exfs,ok.funs|ok.frf]
section
variable {X:Cx} {Ev:Et (Eo×Obj)} {σ:St} {H:Hp} {s:DY} {E:Dp->DY->Prop}
theorem Inv.wish (I:Inv X Ev σ H s) (E:Dp->DY->Prop):Inv (X.wish E) Ev σ H s:=%[I.ok.wish E,I.os,I.bare,I.base,I.loc,I.cell,I.free,I.freeC,I.pin,I.hok|I.len]
theorem Inv.unwish (I:Inv (X.wish E) Ev σ H s):Inv X Ev σ H s:=%[I.ok.unwish,I.os,I.bare,I.base,I.loc,I.cell,I.free,I.freeC,I.pin,I.hok|I.len]
theorem SP.unwish {D:Ends} {f:Flow} {s':DY} (h:SP (X.wish E) Ev D f s'):SP X Ev D f s':=by
 cases f with
 | next=>obtain⟨σ',H',I,q⟩:=h;exact%[σ',H',I.unwish|q]
 | brk=>obtain⟨σ',H',I,q⟩:=h;exact%[σ',H',I.unwish|q]
 | cont=>obtain⟨σ',H',I,q⟩:=h;exact%[σ',H',I.unwish|q]
 | ret u=>obtain⟨v,σ',H',I,r,q⟩:=h;exact%[v,σ',H',I.unwish,r|q]
theorem PSs.nox {st:Et Stmt} {t:TS} (h:PSs X.nox st t):PSs X st t:=λ Ev s σ H D I hw=>
 E4 (h Ev s σ H D (I.wish _) hw) (λ _ _ q=>q.unwish) λ _ _ z=>DF z
end
section
variable {X:Cx} {st:Stmt} {cW:Et Stmt} {t u:TS} {e:Expr} {te:TE} {pos:Pos}
def wZ:TS:=λ D σ H=>D.nx σ H
def rq (t u:TS):TS:=λ D σ H=>t { D with nx:=u D } σ H
theorem au:PSs X [] wZ:=λ _ _ σ H _ I h=>wpAny_execs_nil %[σ,H,I|h]
theorem ah (h1:PS X st t) (h2:PSs X cW u):PSs X (st :: cW) (rq t u):=by
 intro Ev s σ H D I h;refine FT (thn (h1 Ev s σ H { D with nx:=u D } I h) λ f s1 q=>?_);cases f with
 | next=>
  obtain⟨σ',H',I',q⟩:=q;exact h2 Ev s1 σ' H' D I' q
 | ret v=>exact q
 | brk=>exact q
 | cont=>exact q
theorem aj (h1:PS X st t):PSs X [st] t:=by
 intro Ev s σ H D I h;refine FT (thn (h1 Ev s σ H D I h) λ f s1 q=>?_);cases f with
 | next=>exact wpAny_execs_nil q
 | ret v=>exact q
 | brk=>exact q
 | cont=>exact q
theorem Inv.quiet {Ev:Et (Eo×Obj)} {σ:St} {H:Hp} {s:DY} (I:Inv X Ev σ H s):interactive X.env=false:=by simp[interactive,I.ok.kind]
def xa (te:TE):TS:=λ D σ H=>te σ H λ _ H1=>D.nx σ H1
theorem eI (he:PE X e te) (hs:swapsWith e none pos.line X.env=pure false:=by rfl):PS X (.Expr e pos) (xa te):=by intro Ev s σ H D I h;exact wpAny_Expr_any (thn (he Ev s σ H _ I h) λ v s1 %[x,H1,I1,r1|q1]=>%[σ,H1,I1|q1]) I.quiet hs
def AV (te:TE):TS:=λ D σ H=>te σ H D.rt
theorem ar (he:PE X e te):PS X (.Return (some e) pos) (AV te):=by intro Ev s σ H D I h;exact wpAny_Return_some (thn (he Ev s σ H _ I h) λ v s1 %[x,H1,I1,r1|q1]=>%[x,σ,H1,I1,r1|q1])
def AW (c:TT) (t u:TS):TS:=λ D σ H=>c σ H λ b H1=>if b=true then t D σ H1 else u D σ H1
theorem aI {c:Expr} {a b:Et Stmt} {tc:TT} (hc:PT X c tc) (ha:PSs X a t) (hb:PSs X b u):PS X (.If c a b pos) (AW tc t u):=by
 intro Ev s σ H D I h;refine wpAny_If (thn (hc Ev s σ H _ I h) λ d s1 %[H1,I1|q1]=>?_);cases d with
 | true=>exact ha Ev s1 σ H1 D I1 q1
 | false=>exact hb Ev s1 σ H1 D I1 q1
end
abbrev TG:=V->St->Hp->(St->Hp->Prop)->Prop
abbrev TGs:=Et V->St->Hp->(St->Hp->Prop)->Prop
def PG (X:Cx) (target:Expr) (t:TG):Prop :=
 ∀ (Ev:Et (Eo×Obj)) (s:DY) (σ:St) (H:Hp) (v:V) (u:Dp) (Q:St->Hp->Prop),Inv X Ev σ H s->RelV v u->t v σ H Q ->
  wpAny (model X.prog X.w) X.A (assign target X.env u) (λ _ s'=>∃σ' H',Inv X Ev σ' H' s'/\Q σ' H') X.xe s
def PGs (X:Cx) (ts:Et Expr) (t:TGs):Prop :=
 ∀ (Ev:Et (Eo×Obj)) (s:DY) (σ:St) (H:Hp) (vs:Et V) (us:Et Dp) (Q:St->Hp->Prop),Inv X Ev σ H s->Vals vs us->t vs σ H Q ->
  wpAny (model X.prog X.w) X.A (assignInOrder ((assignEach ts X.env).map (·.2)) us) (λ _ s'=>∃σ' H',Inv X Ev σ' H' s'/\Q σ' H') X.xe s
abbrev rz:=V->V->V->Hp->(Hp->Prop)->Prop
def xb (X:Cx) (t:rz):Prop :=
 ∀ (Ev:Et (Eo×Obj)) (s:DY) (σ:St) (H:Hp) (o i v:V) (ov iv u:Dp) (Q:Hp->Prop),Inv X Ev σ H s->RelV o ov->RelV i iv->RelV v u->t o i v H Q ->
  wpAny (model X.prog X.w) X.A (setItem ov iv u) (λ _ s'=>∃H',Inv X Ev σ H' s'/\Q H') X.xe s
section
variable {X:Cx} {pos:Pos}
def gT (i:Nat):TG:=λ v σ H Q=>Q (σ.set i (some v)) H
theorem aB {i:Nat} {x:Str} (hN:X.N.Nodup) (hi:X.N[i]?=some x) (hx:Loc X.env.scope x) (hf:X.fn x=true\/X.env.scope.names.lookup x=some .local:=by first | exact .inl rfl | exact .inr rfl | assumption):PG X (.Name x pos) (gT i):=by intro Ev s σ H v u Q I r h;exact wpAny_assign_Name (dB I hN hi hx r (λ s' I'=>%[_,H,I'|h]) hf)
def AX:TGs:=λ vs σ H Q=>vs=[]/\Q σ H
inductive gCons (t:TG) (u:TGs) (vs:Et V) (σ:St) (H:Hp) (Q:St->Hp->Prop):Prop
 | mk (v:V) (r:Et V) (e_0:vs=v :: r) (e_1:t v σ H λ σ' H'=>u r σ' H' Q):gCons t u vs σ H Q
theorem eJ:PGs X [] AX:=by intro Ev s σ H vs us Q I r h;obtain⟨e,h⟩:=h;subst e;cases r;exact assignInOrder_nil %[σ,H,I|h]
theorem aN {e:Expr} {es:Et Expr} {t:TG} {u:TGs} (h1:PG X e t) (h2:PGs X es u)
  (hs:(assignEach (e :: es) X.env).map (·.2)=assign e X.env :: (assignEach es X.env).map (·.2):=by rfl):PGs X (e :: es) (gCons t u):=by
 intro Ev s σ H vs us Q I r h;obtain⟨v,vr,e1,h⟩:=h;subst e1;cases r with
 | cons r rr=>
  rw[hs];refine assignInOrder_cons (thn (h1 Ev s σ H _ _ _ I r h) λ _ s1 %[σ1,H1,I1|q1]=>?_);exact h2 Ev s1 σ1 H1 _ _ Q I1 rr q1
inductive gTup (K:C4) (n:Nat) (t:TGs) (v:V) (σ:St) (H:Hp) (Q:St->Hp->Prop):Prop
 | mk (a:Eo) (xs:Et V) (e_0:v=.ref a) (e_1:SqT K H a xs) (e_2:xs.length=n) (e_3:t xs σ H Q):gTup K n t v σ H Q
theorem iM {es:Et Expr} {k:Nat} {t:TGs} {n:Nat} (hc:X.calm=true) (h:PGs X es t)
  (hn:(assignEach es X.env).length=n:=by rfl) (hst:(assignEach es X.env).findIdx? (·.1)=none:=by rfl):PG X (.Tuple es k pos) (gTup X.K n t):=by
 intro Ev s σ H v u Q I r hw;obtain⟨a,xs,e1,hq,hl,hw⟩:=hw;subst e1;cases r;obtain⟨its,rv,ht,hz⟩:=I.tuple hq;refine assign_Tuple_tuple (I.ok.hd hc) ht (by simp[hn,<- hl,rv.length]) hst λ h' hx=>?_;have I1:Inv X Ev σ H { s with heap:=h' }:=I.kept (t':=s.toks) λ b o e=>hx b o (B7 (A6 e)) e;exact h Ev _ σ H xs _ Q I1 (by simpa using rv) hw
def AY (to ti:TE) (t:rz):TG:=λ v σ H Q=>to σ H λ o H1=>ti σ H1 λ i H2=>t o i v H2 λ H3=>Q σ H3
theorem fe {o i:Expr} {to ti:TE} {t:rz} (ho:PE X o to) (hi:PE X i ti) (hs:xb X t)
  (ha:∀v,assign (.Subscript o i pos) X.env v=(do
   let ov<-holding [v] (eval o X.env)
   let iv<-holding [v,ov] (eval i X.env)
   standAt pos
   holding [v,ov,iv] (setItem ov iv v)
   release [v,ov,iv] []):=by intro _;rfl):PG X (.Subscript o i pos) (AY to ti t):=by
 intro Ev s σ H v u Q I r h;rw[ha];refine A0 (E8 (thn (ho Ev s σ H _ I h) λ ov s1 %[x,H1,I1,r1|q1]=>?_));refine A0 (E8 (thn (hi Ev s1 σ H1 _ I1 q1) λ iv s2 %[y,H2,I2,r2|q2]=>?_));refine A0 (FF (A0 (E8 (thn (hs Ev s2 σ H2 x y v ov iv u _ I2 r1 r2 r q2) λ _ s3 %[H3,I3|q3]=>?_))));exact wpAny_release %[σ,H3,I3|q3]
def mt (te:TE) (g:TG):TS:=λ D σ H=>te σ H λ x H1=>g x σ H1 D.nx
theorem cX {tg e:Expr} {te:TE} {g:TG} (he:PE X e te) (hg:PG X tg g) (hs:swapsWithSole [tg] e pos.line X.env=pure false:=by rfl) (hw:swappedStores [tg] e X.env=pure none:=by rfl)
  (h1:(assignEach [tg] X.env).map (·.2)=[assign tg X.env]:=by rfl):PS X (.Assign [tg] e pos) (mt te g):=by
 intro Ev s σ H D I h;refine wpAny_Assign_stores (thn (he Ev s σ H _ I h) λ v s1 %[x,H1,I1,r1|q1]=>?_) hs hw;rw[h1];exact thn (hg Ev s1 σ H1 x v _ I1 r1 q1) λ _ s2 q=>q
theorem aA {i:Nat} {x:Str} {e:Expr} {te:TE} {pos':Pos} (hN:X.N.Nodup) (hi:X.N[i]?=some x) (hx:Loc X.env.scope x) (he:PE X e te) (hs:swapsWith e (some (.Name x pos')) pos.line X.env=pure false:=by rfl) (hf:X.fn x=true\/X.env.scope.names.lookup x=some .local:=by first | exact .inl rfl | exact .inr rfl | assumption) :
  PS X (.Assign [.Name x pos'] e pos) (mt te (gT i)):=by
 intro Ev s σ H D I h;refine wpAny_Assign_Name (thn (he Ev s σ H _ I h) λ v s1 %[y,H1,I1,r1|q1]=>?_) hs;exact dB I1 hN hi hx r1 (λ s2 I2=>%[_,H1,I2|q1]) hf
end
structure It where
 go:Nat->Hp->Prop
 yld:Nat->Hp->V->Hp->Prop
 stop:Nat->Hp->Prop
def dr (X:Cx) (Ev:Et (Eo×Obj)) (H:Hp) (b:Eo):Prop :=
 H b=none/\b≠X.env.locals/\b∉X.fs/\(b∈X.ex\/X.s₀.heap.objs.size<=b)/\(∀x c,X.env.cells.lookup x=some c->c≠b)/\∀p∈X.pn ++ Ev,p.1≠b
theorem Inv.fpOk {X:Cx} {Ev:Et (Eo×Obj)} {σ:St} {H H':Hp} {s:DY} {b:Eo} (I:Inv X Ev σ H s) (hb:s.heap.objs.size<=b) (hn:H' b=none):dr X Ev H' b:=by
 refine%[hn,Nat.ne_of_gt (B9 I.lt hb),I.nofs hb,.inr (C5 I.sz hb),λ x c e z=>?_|λ p hp z=>?_]
 ·obtain⟨v,q⟩:=I.cell x c e;exact absurd (B9 q.lt (by rw[z];exact hb)) (C8 _)
 ·exact absurd (B9 (A6 (I.pin p hp).1) (by rw[z];exact hb)) (C8 _)
structure Turn (P:Program) (w:World) (K:C4) (tg:Expr) (J:It) (fp:Et Eo) (it:Eo) (tn:Nat->Heap->Prop):Prop where
 mem:it∈fp
 obj:∀i h,tn i h->∀b∈fp,∃o,h.get? b=some o/\∀v,o.data≠.cell v
 keep:∀i h h',tn i h->(∀b∈fp,∀o,h.get? b=some o->h'.get? b=some o)->tn i h'
 item:∀ (X:Cx),X.prog=P->X.w=w->X.K=K->X.calm=true->∀ (i:Nat) (Ev:Et (Eo×Obj)) (s:DY) (σ:St) (H:Hp) (E:Dp->DY->Prop),Inv X Ev σ H s->(∀b∈fp,dr X Ev H b)->tn i s.heap->J.go i H ->
  wpAny (model P w) X.A (pyNext (.ref it)) (λ r s1=>∃u,r=some u /\
   wpAny (model P w) X.A (letOwnedTupleGo tg (.ref it) u) (λ _ s2=>∃x H',Inv X Ev σ H' s2/\RelV x u/\J.yld i H x H'/\tn (i+1) s2.heap/\∀b∈fp,H' b=none) E s1) E s
 done:∀ (X:Cx),X.prog=P->X.w=w->X.K=K->X.calm=true->∀ (i:Nat) (Ev:Et (Eo×Obj)) (s:DY) (σ:St) (H:Hp) (E:Dp->DY->Prop),Inv X Ev σ H s->(∀b∈fp,dr X Ev H b)->tn i s.heap->J.stop i H ->
  wpAny (model P w) X.A (pyNext (.ref it)) (λ r s1=>r=none/\Inv X Ev σ H s1) E s
 self:∀ (A:Around) (i:Nat) (s:DY) (Q:Dp->DY->Prop) (E:Dp->DY->Prop),tn i s.heap->Q (.ref it) s->wpAny (model P w) A (pyIter (.ref it)) Q E s
abbrev TI:=St->Hp->(It->Hp->Prop)->Prop
def PIE (X:Cx) (Ev:Et (Eo×Obj)) (σ:St) (tg:Expr) (R:It->Hp->Prop) (itv:Dp) (s2:DY):Prop :=
 ∃ (it:Eo) (fp:Et Eo) (tn:Nat->Heap->Prop) (J:It) (H':Hp),itv=.ref it/\Inv X Ev σ H' s2/\Turn X.prog X.w X.K tg J fp it tn/\tn 0 s2.heap/\(∀b∈fp,dr X Ev H' b)/\R J H'
def PI (X:Cx) (tg iter:Expr) (wi:TI):Prop :=
 ∀ (Ev:Et (Eo×Obj)) (s:DY) (σ:St) (H:Hp) (R:It->Hp->Prop),Inv X Ev σ H s->wi σ H R ->
  wpAny (model X.prog X.w) X.A (eval iter X.env) (λ v s1=>wpAny (model X.prog X.w) X.A (pyIter v) (PIE X Ev σ tg R) X.xe s1) X.xe s
theorem jU {M:Model} {A:Around} {E:Dp->DY->Prop} {s:DY} {tg:Expr} {it:Eo} {u:Dp} {o:Obj} {n:String} {vs:Es Dp} {Q:Unit->DY->Prop} (ho:s.heap.get? it=some o) (hc:o.cls=.type n) (hd:o.data=.fields vs)
    (hn:["enumerate","zip","dict_itemiterator","dict_reverseitemiterator","odict_iterator","itertools.zip_longest","itertools.pairwise"].contains n=false) (hQ:Q () s):wpAny M A (letOwnedTupleGo tg (.ref it) u) Q E s:=by
  unfold letOwnedTupleGo;cases tg <;> first
    | exact A1 hQ
    | (cases u <;> first
        | exact A1 hQ
        | (refine A0 (wpAny_load ho ?_)
           rw[hc,hd];show wpAny M A (if (["enumerate","zip","dict_itemiterator","dict_reverseitemiterator","odict_iterator","itertools.zip_longest","itertools.pairwise"].contains n && vs[0]? == some (rawInt _))=true then _ else _) Q E s;rw[E1 (by intro h;rw[hn,Bool.false_and]at h;cases h)];exact A1 hQ))
def Itl (K:C4) (a:Eo):It :=
 %[λ i H=>∃xs x,SqL K H a xs/\xs[i]?=some x,λ i H x H'=>H'=H/\∀xs,SqL K H a xs->xs[i]?=some x|λ i H=>∃xs,SqL K H a xs/\xs.length<=i]
def Itt (K:C4) (a:Eo):It :=
 %[λ i H=>∃xs x,SqT K H a xs/\xs[i]?=some x,λ i H x H'=>H'=H/\∀xs,SqT K H a xs->xs[i]?=some x|λ i H=>∃xs,SqT K H a xs/\xs.length<=i]
def Itr (lo:Int) (n:Nat):It:=%[λ i _=>i < n,λ i H x H'=>H'=H/\x=.int (lo+i)|λ i _=>n<=i]
theorem kU {P:Dl} {w:Do} {K:C4} {tg:Expr} (a it:Eo):Turn P w K tg (Itl K a) [it] it (λ i h=>h.IsListIter it a i) where
 mem:=by simp
 obj:=λ i h st b hb=>by
  have e:b=it:=by simpa using hb
  subst e;obtain⟨o,e,c,d⟩:=st;exact%[o,e|λ v z=>by rw[d]at z;cases z]
 keep:=λ i h h' st k=>st.at λ o e=>k it (by simp) o e
 item:=by intro X hP hw hK hc i Ev s σ H E I hf st hg;subst hP hw hK;obtain⟨xs,x,hq,hx⟩:=hg;obtain⟨its,rv,p,hz⟩:=I.list hq;obtain⟨u,hu,ru⟩:=rv.get hx;obtain⟨f0,f1,f2,f3,f4,f5⟩:=hf it (by simp);refine wpAny_pyNext_list_item st p.isList (x:=u) (by simpa using hu) λ h' st' sb=>?_;have I1:Inv X Ev σ H { s with heap:=h' }:=I.turned (t':=s.toks) (λ b o hb e=>(sb.2 b hb).trans e) f0 f1 f3 f4 f5;obtain⟨o,e,c,d⟩:=id st';exact%[u,U|jU (s:={ s with heap:=h' }) e c d ∅ %[x,H,I1,ru,%[U|λ ys hy=>by rw[I.list_inj hy hq];exact hx],st'|λ b hb=>(hf b hb).1]]
 done:=by intro X hP hw hK hc i Ev s σ H E I hf st hg;subst hP hw hK;obtain⟨xs,hq,hx⟩:=hg;obtain⟨its,rv,p,hz⟩:=I.list hq;obtain⟨f0,f1,f2,f3,f4,f5⟩:=hf it (by simp);have hl:=rv.length;exact wpAny_pyNext_list_end (I.ok.hd hc) st p.isList (by simp;omega) λ h' eb=>%[U|I.turned (t':=s.toks) (λ b o hb e=>eb b o hb e) f0 f1 f3 f4 f5]
 self:=λ _ _ _ _ _ st h=>wpAny_pyIter_listiter st h
theorem iN {P:Dl} {w:Do} {K:C4} {tg:Expr} (a it:Eo):Turn P w K tg (Itt K a) [it] it (λ i h=>h.IsTupleIter it a i) where
 mem:=by simp
 obj:=λ i h st b hb=>by
  have e:b=it:=by simpa using hb
  subst e;obtain⟨o,e,c,d⟩:=st;exact%[o,e|λ v z=>by rw[d]at z;cases z]
 keep:=λ i h h' st k=>st.at λ o e=>k it (by simp) o e
 item:=by intro X hP hw hK hc i Ev s σ H E I hf st hg;subst hP hw hK;obtain⟨xs,x,hq,hx⟩:=hg;obtain⟨its,rv,p,hz⟩:=I.tuple hq;obtain⟨u,hu,ru⟩:=rv.get hx;obtain⟨f0,f1,f2,f3,f4,f5⟩:=hf it (by simp);refine wpAny_pyNext_tuple_item st (show s.heap.IsTuple a its.toArray from p) (x:=u) (by simpa using hu) λ h' st' sb=>?_;have I1:Inv X Ev σ H { s with heap:=h' }:=I.turned (t':=s.toks) (λ b o hb e=>(sb.2 b hb).trans e) f0 f1 f3 f4 f5;obtain⟨o,e,c,d⟩:=id st';exact%[u,U|jU (s:={ s with heap:=h' }) e c d ∅ %[x,H,I1,ru,%[U|λ ys hy=>by rw[I.tuple_inj hy hq];exact hx],st'|λ b hb=>(hf b hb).1]]
 done:=by intro X hP hw hK hc i Ev s σ H E I hf st hg;subst hP hw hK;obtain⟨xs,hq,hx⟩:=hg;obtain⟨its,rv,p,hz⟩:=I.tuple hq;obtain⟨f0,f1,f2,f3,f4,f5⟩:=hf it (by simp);have hl:=rv.length;exact wpAny_pyNext_tuple_end (I.ok.hd hc) st (show s.heap.IsTuple a its.toArray from p) (by simp;omega) λ h' eb=>%[U|I.turned (t':=s.toks) (λ b o hb e=>eb b o hb e) f0 f1 f3 f4 f5]
 self:=λ _ _ _ _ _ st h=>wpAny_pyIter_tupleiter st h
theorem iO {P:Dl} {w:Do} {K:C4} {tg:Expr} (it:Eo) (lo:Int) (n:Nat):Turn P w K tg (Itr lo n) [it] it (λ i h=>IsRangeIter h it (lo+(i:Nat) * 1) ((n:Int) - (i:Nat)) 1) where
 mem:=by simp
 obj:=λ i h st b hb=>by
  have e:b=it:=by simpa using hb
  subst e;exact⟨_,st,λ v z=>by
   have z':Data.fields _=Data.cell v:=z;cases z'⟩
 keep:=λ i h h' st k=>k it (by simp) _ st
 item:=by intro X hP hw hK hc i Ev s σ H E I hf st hg;subst hP hw hK;obtain⟨f0,f1,f2,f3,f4,f5⟩:=hf it (by simp);have W:=Walks.range (prog:=X.prog) (w:=X.w) (I.ok.hd hc) it lo 1 n;refine W.item i s _ _ hg st λ v h' tk hv st' kk=>?_;obtain⟨t,rfl⟩:=hv;have I1:Inv X Ev σ H { s with heap:=h',toks:=tk }:=I.turned (λ b o hb e=>kk b o (by simpa using hb) e) f0 f1 f3 f4 f5;refine%[_,U|jU (s:={ s with heap:=h',toks:=tk }) (n := "range_iterator") st' rfl rfl ∅ %[.int (lo+i),H,I1,%[t|?_],%[U|U],st'|λ b hb=>(hf b hb).1]];rw[Int.mul_one]
 done:=by intro X hP hw hK hc i Ev s σ H E I hf st hg;subst hP hw hK;obtain⟨f0,f1,f2,f3,f4,f5⟩:=hf it (by simp);exact wpAny_pyNext_range_end (I.ok.hd hc) st (by have:n<=i:=hg;omega) λ h' eb=>%[U|I.turned (t':=s.toks) (λ b o hb e=>eb b o hb e) f0 f1 f3 f4 f5]
 self:=λ _ _ _ _ _ st h=>wpAny_pyIter_rangeiter st h
section
variable {X:Cx} {tg:Expr}
inductive iListA (K:C4) (R:It->Hp->Prop) (x:V) (H1:Hp):Prop
 | mk (a:Eo) (e_0:x=.ref a) (e_1:(∃xs,SqL K H1 a xs)) (e_2:R (Itl K a) H1):iListA K R x H1
def qJ (K:C4) (tl:TE):TI:=λ σ H R=>tl σ H λ x H1=>iListA K R x H1
inductive iTupA (K:C4) (R:It->Hp->Prop) (x:V) (H1:Hp):Prop
 | mk (a:Eo) (e_0:x=.ref a) (e_1:(∃xs,SqT K H1 a xs)) (e_2:R (Itt K a) H1):iTupA K R x H1
def xc (K:C4) (tl:TE):TI:=λ σ H R=>tl σ H λ x H1=>iTupA K R x H1
theorem ck {l:Expr} {tl:TE} (hl:PE X l tl):PI X tg l (qJ X.K tl):=by
 intro Ev s σ H R I h;refine thn (hl Ev s σ H _ I h) λ v s1 %[x,H1,I1,r1|q1]=>?_;obtain⟨a,e,⟨xs,hq⟩,q⟩:=q1;subst e;cases r1;obtain⟨its,rv,p,hz⟩:=I1.list hq;refine wpAny_pyIter_list p.isList ?_;refine%[s1.heap.objs.size,[s1.heap.objs.size],_,_,H1,U,I1.kept (t':=s1.toks) λ b o e=>A4 _ e,kU a _,%[_,A5 _ rfl,U|U],λ b hb=>?_|q];have e:b=s1.heap.objs.size:=by simpa using hb
 subst e;exact I1.fpOk (B0 _) (I1.hok.fresh (B0 _))
theorem mw {l:Expr} {tl:TE} (hl:PE X l tl):PI X tg l (xc X.K tl):=by
 intro Ev s σ H R I h;refine thn (hl Ev s σ H _ I h) λ v s1 %[x,H1,I1,r1|q1]=>?_;obtain⟨a,e,⟨xs,hq⟩,q⟩:=q1;subst e;cases r1;obtain⟨its,rv,p,hz⟩:=I1.tuple hq;refine wpAny_pyIter_tuple (show s1.heap.IsTuple a its.toArray from p) ?_;refine%[s1.heap.objs.size,[s1.heap.objs.size],_,_,H1,U,I1.kept (t':=s1.toks) λ b o e=>A4 _ e,iN a _,%[_,A5 _ rfl,U|U],λ b hb=>?_|q];have e:b=s1.heap.objs.size:=by simpa using hb
 subst e;exact I1.fpOk (B0 _) (I1.hok.fresh (B0 _))
theorem mx {Ev:Et (Eo×Obj)} {σ:St} {H:Hp} {s:DY} {R:It->Hp->Prop} {E:Dp->DY->Prop} {lo hi:Int} {t u v:Tok} {tk:Nat} (I:Inv X Ev σ H s) (h1:-(2 ^ 62)<=lo) (h2:lo < 2 ^ 62) (h3:-(2 ^ 62)<=hi) (h4:hi < 2 ^ 62)
  (q:R (Itr lo (hi - lo).toNat) H):wpAny (model X.prog X.w) X.A (pyIter (.ref s.heap.objs.size)) (PIE X Ev σ tg R) E { s with heap:=s.heap.push { cls:=.type "range",data:=.fields #[.int lo t,.int hi u,.int 1 v] },toks:=tk }:=by
 refine wpAny_pyIter_range (IsRange.new ..) (small_one h1 h2 h3 h4) ?_;have I1:Inv X Ev σ H { s with heap:=s.heap.push { cls:=.type "range",data:=.fields #[.int lo t,.int hi u,.int 1 v] },toks:=tk }:=I.kept λ b o e=>A4 _ e;refine⟨(s.heap.push { cls:=.type "range",data:=.fields #[.int lo t,.int hi u,.int 1 v] }).objs.size,[(s.heap.push { cls:=.type "range",data:=.fields #[.int lo t,.int hi u,.int 1 v] }).objs.size],_,_,H,U,
  I1.kept (t':=tk) λ b o e=>A4 _ e,iO _ lo (hi - lo).toNat,?_,λ b hb=>?_,q⟩
 ·have e1:lo+((0:Nat):Int) * 1=lo:=by simp
  have e2:(((hi - lo).toNat:Nat):Int) - ((0:Nat):Int)=Builtin.Range.rangeSize lo hi 1:=by rw[rangeSize_one];split <;> omega
  show IsRangeIter _ _ (lo+((0:Nat):Int) * 1) ((((hi - lo).toNat:Nat):Int) - ((0:Nat):Int)) 1;rw[e1,e2];exact A5 _ rfl
 ·have e:b=(s.heap.push { cls:=.type "range",data:=.fields #[.int lo t,.int hi u,.int 1 v] }).objs.size:=by simpa using hb
  subst e;exact I1.fpOk (B0 _) (I1.hok.fresh (B0 _))
def xf (ta:TA):TI:=λ σ H R=>ta σ H λ vs H1=>∃j:Int,vs=[.int j]/\-(2 ^ 62)<=j/\j < 2 ^ 62/\R (Itr 0 j.toNat) H1
theorem fM {a:Expr} {ta:TA} {p pos:Pos} (hg:Gl X "range") (hm:X.mg "range" = none) (ha:PA X [a] ta) (hs:starEach [a] X.env=[(false,eval a X.env)]:=by rfl):PI X tg (.Call (.Name "range" p) [a] [] pos) (xf ta):=by
 intro Ev s σ H R I h;refine Call_ (gg I hg hm boot_range (PyProof.Rows.callWith_type1 (thn (ha pos Ev s σ H _ I h) λ us s1 %[vs,H1,I1,r1|q1]=>?_) hs rfl));obtain⟨j,e,q1,q2,q⟩:=q1;subst e;cases r1 with
 | cons r rr=>
  cases rr;obtain⟨t,rfl⟩:=r;exact call_range_1 (mx I1 ⋯ ⋯ q1 q2 (by simpa using q))
def xg (wi:TI) (g:TG) (tb:TS):TS:=λ D σ H=>wi σ H λ J H1=>∃W:Nat->Nat->St->Hp->Prop,(∃m,W 0 m σ H1)/\∀i m σ H,W i m σ H ->
 (J.stop i H/\D.nx σ H)\/(J.go i H/\∃N:St->Hp->Prop,(∀σ' H',N σ' H'->∃m',m' < m/\W (i+1) m' σ' H')/\∀x H',J.yld i H x H'->g x σ H' λ σ2 H2=>tb { D with nx:=N,ct:=N,bk:=D.nx } σ2 H2)
def gj (fp:Et Eo) (h:Heap):Et (Eo×Obj):=fp.filterMap λ b=>(h.get? b).map λ o=>(b,o)
theorem aY {fp:Et Eo} {h:Heap} {b:Eo} {o:Obj} (hb:b∈fp) (e:h.get? b=some o):(b,o)∈gj fp h:=Ec.mpr %[b,hb|by rw[e];rfl]
theorem kW {fp:Et Eo} {h:Heap} {p:Eo×Obj} (hp:p∈gj fp h):p.1∈fp/\h.get? p.1=some p.2:=by
 obtain⟨b,hb,e⟩:=Ec.mp hp;cases q:h.get? b with
 | none=>rw[q]at e;cases e
 | some o=>
  rw[q]at e;have e':(b,o)=p:=B6 e;subst e';exact%[hb|q]
theorem Inv.pinned {Ev:Et (Eo×Obj)} {σ:St} {H:Hp} {s:DY} {fp:Et Eo} (I:Inv X Ev σ H s) (hf:∀b∈fp,dr X Ev H b) (ho:∀b∈fp,∃o,s.heap.get? b=some o/\∀v,o.data≠.cell v):Inv X (Ev ++ gj fp s.heap) σ H s :=
 I.pins_of λ p hp=>(C0.mp hp).elim (λ z=>I.pin p (A2 _ z)) λ z=>by obtain⟨hb,e⟩:=kW z;obtain⟨f0,f1,f2,_⟩:=hf p.1 hb;obtain⟨o,e',d⟩:=ho p.1 hb;rw[e]at e';cases e';exact%[e,f0,f1,f2|d]
theorem Inv.unpinned {Ev pl:Et (Eo×Obj)} {σ:St} {H:Hp} {s:DY} (I:Inv X (Ev ++ pl) σ H s):Inv X Ev σ H s:=I.pins_of λ p hp=>I.pin p (A2 _ (B3 _ hp))
theorem iP {iter:Expr} {body:Et Stmt} {wi:TI} {g:TG} {tb:TS} {pos:Pos} (hp:PassesOwn (model X.prog X.w) X.A X.env X.xe) (hc:X.calm=true) (hi:PI X tg iter wi) (hg:PG X tg g) (hb:PSs X body tb)
  (hs:∀x,foldedSetIterable iter X.env x=pure x:=by intro _;rfl):PS X (.For tg iter body [] pos) (xg wi g tb):=by
 intro Ev s σ H D I h;refine wpAny_For (thn (hi Ev s σ H _ I h) λ v s1 h1=>thn h1 λ itv s2 h2=>?_) hs;obtain⟨it,fp,tn,J,H2,e,I2,T,st2,f2,W,⟨m0,w0⟩,turn⟩:=h2;subst e;have stat:∀ {H':Hp},(∀b∈fp,H' b=none)->∀b∈fp,dr X Ev H' b:=λ hn b hb=>%[hn b hb|(f2 b hb).2]
 refine codeAny_forLoop_any (λ n s'=>∃i σ' H',Inv X Ev σ' H' s'/\tn i s'.heap/\(∀b∈fp,H' b=none)/\W i n σ' H') ?_ m0 %[0,σ,H2,I2,st2,λ b hb=>(f2 b hb).1|w0];rintro n s3 ⟨i,σ3,H3,I3,st3,fr3,w3⟩;rcases turn i n σ3 H3 w3 with⟨stop,qn⟩ | ⟨go,N,hN,step⟩
 ·refine wpAny_passesOwn hp (thn (T.done X rfl rfl rfl hc i Ev s3 σ3 H3 X.xe I3 (stat fr3) st3 stop) λ r s4 %[hr|I4]=>?_);subst hr;exact wpAny_execs_nil %[σ3,H3,I4|qn]
 ·refine wpAny_passesOwn hp (thn (T.item X rfl rfl rfl hc i Ev s3 σ3 H3 X.xe I3 (stat fr3) st3 go) λ r s4 %[u,hr|h4]=>?_);subst hr;refine wpAny_passesOwn hp (thn h4 λ _ s5 %[x,H5,I5,r5,y5,st5|fr5]=>?_);have I5':=I5.pinned (stat fr5) (T.obj _ _ st5);refine wpAny_passesOwn hp (thn (hg _ s5 σ3 H5 x u _ I5' r5 (step x H5 y5)) λ _ s6 %[σ6,H6,I6|q6]=>?_);refine wpAny_passesOwn hp (thn (hb _ s6 σ6 H6 _ I6 q6) λ f s7 q7=>?_);have again:∀ {σ7:St} {H7:Hp},Inv X (Ev ++ gj fp s5.heap) σ7 H7 s7->N σ7 H7->∃m,m < n/\∃i σ' H',Inv X Ev σ' H' s7/\tn i s7.heap/\(∀b∈fp,H' b=none)/\W i m σ' H':=λ {σ7 H7} I7 n7=>by obtain⟨m',hm,w7⟩:=hN σ7 H7 n7;refine%[m',hm,i+1,σ7,H7,I7.unpinned,T.keep _ _ _ st5 λ b hb o e=>(I7.pin (b,o) (A2 _ (A2 _ (aY hb e)))).1,λ b hb=>?_|w7];obtain⟨o,e,d⟩:=T.obj _ _ st5 b hb;exact(I7.pin (b,o) (A2 _ (A2 _ (aY hb e)))).2.1
  cases f with
  | next=>obtain⟨σ7,H7,I7,n7⟩:=q7;exact again I7 n7
  | cont=>obtain⟨σ7,H7,I7,n7⟩:=q7;exact again I7 n7
  | brk=>obtain⟨σ7,H7,I7,q7⟩:=q7;exact%[σ7,H7,I7.unpinned|q7]
  | ret v=>obtain⟨x7,σ7,H7,I7,r7,q7⟩:=q7;exact%[x7,σ7,H7,I7.unpinned,r7|q7]
end
theorem gU {K:C4} {a:Eo} {xs:Et V} {g:TG} {tb:TS} {D:Ends} {σ:St} {H:Hp} (Pv:Nat->St->Hp->Prop) (h0:Pv 0 σ H) (hl:∀i σ H,i<=xs.length->Pv i σ H->SqL K H a xs)
  (hs:∀i x σ H,xs[i]?=some x->Pv i σ H->g x σ H λ σ2 H2=>tb { D with nx:=Pv (i+1),ct:=Pv (i+1),bk:=D.nx } σ2 H2) (hd:∀σ H,Pv xs.length σ H->D.nx σ H) :
  ∃W:Nat->Nat->St->Hp->Prop,(∃m,W 0 m σ H)/\∀i m σ H,W i m σ H ->
   ((Itl K a).stop i H/\D.nx σ H)\/((Itl K a).go i H/\∃N:St->Hp->Prop,(∀σ' H',N σ' H'->∃m',m' < m/\W (i+1) m' σ' H')/\∀x H',(Itl K a).yld i H x H'->g x σ H' λ σ2 H2=>tb { D with nx:=N,ct:=N,bk:=D.nx } σ2 H2):=by
 refine%[λ i m σ H=>m=xs.length - i/\i<=xs.length/\Pv i σ H,%[xs.length,by simp,DG _|h0]|?_];rintro i m σ H ⟨rfl,hi,p⟩;have q:=hl i σ H hi p
 by_cases hlt:i < xs.length
 ·refine .inr %[%[xs,xs[i],q|by simp[hlt]],Pv (i+1),λ σ' H' p'=>%[xs.length - (i+1),⋯,U,hlt|p']|λ x H' y=>?_];obtain⟨e,y⟩:=y;subst e;exact hs i x σ _ (y xs q) p
 ·have e:i=xs.length:=⋯
  subst e;exact .inl %[%[xs,q|B0 _]|hd σ H p]
theorem oK {K:C4} {a:Eo} {xs:Et V} {g:TG} {tb:TS} {D:Ends} {σ:St} {H:Hp} (Pv:Nat->St->Hp->Prop) (h0:Pv 0 σ H) (hl:∀i σ H,i<=xs.length->Pv i σ H->SqT K H a xs)
  (hs:∀i x σ H,xs[i]?=some x->Pv i σ H->g x σ H λ σ2 H2=>tb { D with nx:=Pv (i+1),ct:=Pv (i+1),bk:=D.nx } σ2 H2) (hd:∀σ H,Pv xs.length σ H->D.nx σ H) :
  ∃W:Nat->Nat->St->Hp->Prop,(∃m,W 0 m σ H)/\∀i m σ H,W i m σ H ->
   ((Itt K a).stop i H/\D.nx σ H)\/((Itt K a).go i H/\∃N:St->Hp->Prop,(∀σ' H',N σ' H'->∃m',m' < m/\W (i+1) m' σ' H')/\∀x H',(Itt K a).yld i H x H'->g x σ H' λ σ2 H2=>tb { D with nx:=N,ct:=N,bk:=D.nx } σ2 H2):=by
 refine%[λ i m σ H=>m=xs.length - i/\i<=xs.length/\Pv i σ H,%[xs.length,by simp,DG _|h0]|?_];rintro i m σ H ⟨rfl,hi,p⟩;have q:=hl i σ H hi p
 by_cases hlt:i < xs.length
 ·refine .inr %[%[xs,xs[i],q|by simp[hlt]],Pv (i+1),λ σ' H' p'=>%[xs.length - (i+1),⋯,U,hlt|p']|λ x H' y=>?_];obtain⟨e,y⟩:=y;subst e;exact hs i x σ _ (y xs q) p
 ·have e:i=xs.length:=⋯
  subst e;exact .inl %[%[xs,q|B0 _]|hd σ H p]
theorem kX {lo:Int} {n:Nat} {g:TG} {tb:TS} {D:Ends} {σ:St} {H:Hp} (Pv:Nat->St->Hp->Prop) (h0:Pv 0 σ H)
  (hs:∀i σ H,i < n->Pv i σ H->g (.int (lo+i)) σ H λ σ2 H2=>tb { D with nx:=Pv (i+1),ct:=Pv (i+1),bk:=D.nx } σ2 H2) (hd:∀σ H,Pv n σ H->D.nx σ H) :
  ∃W:Nat->Nat->St->Hp->Prop,(∃m,W 0 m σ H)/\∀i m σ H,W i m σ H ->
   ((Itr lo n).stop i H/\D.nx σ H)\/((Itr lo n).go i H/\∃N:St->Hp->Prop,(∀σ' H',N σ' H'->∃m',m' < m/\W (i+1) m' σ' H')/\∀x H',(Itr lo n).yld i H x H'->g x σ H' λ σ2 H2=>tb { D with nx:=N,ct:=N,bk:=D.nx } σ2 H2):=by
 refine%[λ i m σ H=>m=n - i/\i<=n/\Pv i σ H,%[n,by simp,DG _|h0]|?_];rintro i m σ H ⟨rfl,hi,p⟩
 by_cases hlt:i < n
 ·refine .inr %[hlt,Pv (i+1),λ σ' H' p'=>%[n - (i+1),⋯,U,hlt|p']|λ x H' y=>?_];obtain⟨e,y⟩:=y;subst e y;exact hs i σ _ hlt p
 ·have e:i=n:=⋯
  subst e;exact .inl %[B0 _|hd σ H p]
abbrev R2:=V->V->Hp->VK->Prop
def OpR (X:Cx) (f:Dp->Dp->Sem Dp) (r:R2):Prop :=
 ∀ (Ev:Et (Eo×Obj)) (s:DY) (σ:St) (H:Hp) (x y:V) (v u:Dp) (Q:VK),Inv X Ev σ H s->RelV x v->RelV y u->r x y H Q ->
  wpAny (model X.prog X.w) X.A (f v u) (EP X Ev σ Q) X.xe s
def UnR (X:Cx) (f:Dp->Sem Dp) (r:V->Hp->VK->Prop):Prop :=
 ∀ (Ev:Et (Eo×Obj)) (s:DY) (σ:St) (H:Hp) (x:V) (v:Dp) (Q:VK),Inv X Ev σ H s->RelV x v->r x H Q ->
  wpAny (model X.prog X.w) X.A (f v) (EP X Ev σ Q) X.xe s
def cf (X:Cx) (f:Dp) (r:Et V->Hp->VK->Prop):Prop :=
 ∀ (Ev:Et (Eo×Obj)) (s:DY) (σ:St) (H:Hp) (xs:Et V) (us:Et Dp) (Q:VK),Inv X Ev σ H s->Vals xs us->r xs H Q ->
  wpAny (model X.prog X.w) X.A (call f us) (EP X Ev σ Q) X.xe s
def tOp (r:R2) (ta tb:TE):TE:=λ σ H Q=>ta σ H λ x H1=>tb σ H1 λ y H2=>r x y H2 Q
def tUn (r:V->Hp->VK->Prop) (ta:TE):TE:=λ σ H Q=>ta σ H λ x H1=>r x H1 Q
inductive rI (C:Int->Int->Prop) (g:Int->Int->V) (x:V) (y:V) (H:Hp) (Q:VK):Prop
 | mk (i:Int) (j:Int) (e_0:x=.int i) (e_1:y=.int j) (e_2:C i j) (e_3:Q (g i j) H):rI C g x y H Q
inductive rI0 (g:Int->Int->V) (x:V) (y:V) (H:Hp) (Q:VK):Prop
 | mk (i:Int) (j:Int) (e_0:x=.int i) (e_1:y=.int j) (e_2:Q (g i j) H):rI0 g x y H Q
def rU (g:Int->V):V->Hp->VK->Prop:=λ x H Q=>∃i,x=.int i/\Q (g i) H
section
variable {X:Cx} {a b c:Expr} {ta tb tc:TE} {pos:Pos}
theorem rA (ha:PE X a ta) (hb:PE X b tb) {Ev:Et (Eo×Obj)} {s:DY} {σ:St} {H:Hp} {R:V->V->Hp->Prop} (I:Inv X Ev σ H s)
  (h:ta σ H λ x H1=>tb σ H1 λ y H2=>R x y H2) {Q:Dp->DY->Prop} {f:Dp->Dp->Sem Dp}
  (hf:∀v u s2 x y H2,Inv X Ev σ H2 s2->RelV x v->RelV y u->R x y H2->wpAny (model X.prog X.w) X.A (f v u) Q X.xe s2) :
  wpAny (model X.prog X.w) X.A (eval a X.env) (λ v s₁=>wpAny (model X.prog X.w) X.A (eval b X.env) (λ u s₂=>wpAny (model X.prog X.w) X.A (f v u) Q X.xe s₂) X.xe s₁) X.xe s:=by
 refine thn (ha Ev s σ H _ I h) λ v s1 %[x,H1,I1,r1|q1]=>?_;refine thn (hb Ev s1 σ H1 _ I1 q1) λ u s2 %[y,H2,I2,r2|q2]=>?_;exact hf v u s2 x y H2 I2 r1 r2 q2
theorem aw {op:Operator} {r:R2} (ho:OpR X (binaryOp op) r) (ha:PE X a ta) (hb:PE X b tb):PE X (.BinOp a op b pos) (tOp r ta tb):=by intro Ev s σ H Q I h;exact wpAny_BinOp (rA ha hb I h λ v u s2 x y H2 I2 rx ry q=>ho Ev s2 σ H2 x y v u Q I2 rx ry q)
theorem jV {op:UnaryOp} {r:V->Hp->VK->Prop} (ho:UnR X (unaryOp op) r) (ha:PE X a ta):PE X (.UnaryOp op a pos) (tUn r ta):=by intro Ev s σ H Q I h;exact UnaryOp_ (thn (ha Ev s σ H _ I h) λ v s1 %[x,H1,I1,r1|q1]=>ho Ev s1 σ H1 x v Q I1 r1 q1)
theorem opI {f:Dp->Dp->Sem Dp} {C:Int->Int->Prop} {g:Int->Int->Int}
  (rule:∀ (i j:Int) (t u:Tok) (s:DY) (Q:Dp->DY->Prop) (E:Dp->DY->Prop),C i j->Q (.int (g i j) s.toks) { s with toks:=s.toks+1 }->wpAny (model X.prog X.w) X.A (f (.int i t) (.int j u)) Q E s) :
  OpR X f (rI C λ i j=>.int (g i j)):=by
 intro Ev s σ H x y v u Q I rx ry h;obtain⟨i,j,rfl,rfl,hc,q⟩:=h;obtain⟨t,rfl⟩:=rx;obtain⟨t',rfl⟩:=ry;exact rule i j t t' s _ _ hc %[.int (g i j),H,I.tok _,%[_|rfl]|q]
theorem xh {f:Dp->Dp->Sem Dp} {g:Int->Int->Int}
  (rule:∀ (i j:Int) (t u:Tok) (s:DY) (Q:Dp->DY->Prop) (E:Dp->DY->Prop),Q (.int (g i j) s.toks) { s with toks:=s.toks+1 }->wpAny (model X.prog X.w) X.A (f (.int i t) (.int j u)) Q E s) :
  OpR X f (rI0 λ i j=>.int (g i j)):=by
 intro Ev s σ H x y v u Q I rx ry h;obtain⟨i,j,rfl,rfl,q⟩:=h;obtain⟨t,rfl⟩:=rx;obtain⟨t',rfl⟩:=ry;exact rule i j t t' s _ _ %[.int (g i j),H,I.tok _,%[_|rfl]|q]
theorem oM {f:Dp->Dp->Sem Dp} {g:Int->Int->Bool}
  (rule:∀ (i j:Int) (t u:Tok) (s:DY) (Q:Dp->DY->Prop) (E:Dp->DY->Prop),Q (.bool (g i j)) s->wpAny (model X.prog X.w) X.A (f (.int i t) (.int j u)) Q E s) :
  OpR X f (rI0 λ i j=>.bl (g i j)):=by
 intro Ev s σ H x y v u Q I rx ry h;obtain⟨i,j,rfl,rfl,q⟩:=h;obtain⟨t,rfl⟩:=rx;obtain⟨t',rfl⟩:=ry;exact rule i j t t' s _ _ %[.bl (g i j),H,I,rfl|q]
def xi (i j:Int):Prop:=0 < j/\j < 1073741824
def xj (i j:Int):Prop:=0<=j/\j<=1000000/\i.natAbs < 2 ^ 64
def CMul (i j:Int):Prop:=(-(2 ^ 64) < i/\i < 2 ^ 64)\/(-(2 ^ 64) < j/\j < 2 ^ 64)
theorem CMul.ok {i j:Int} (h:CMul i j):IntMulOk i j:=by
 rcases h with⟨h1,h2⟩ | ⟨h1,h2⟩
 ·exact .of_left (intBits_le_64 h1 h2)
 ·exact .of_right (intBits_le_64 h1 h2)
theorem bG:OpR X (binaryOp .Add) (rI0 λ i j=>.int (i+j)):=xh λ _ _ _ _ _ _ _ q=>add_int q
theorem my:OpR X (binaryOp .Sub) (rI0 λ i j=>.int (i - j)):=xh λ _ _ _ _ _ _ _ q=>sub_int q
theorem dZ:OpR X (binaryOp .Mult) (rI CMul λ i j=>.int (i * j)):=opI λ _ _ _ _ _ _ _ hc q=>mul_int q hc.ok
theorem oN:OpR X (binaryOp .FloorDiv) (rI xi λ i j=>.int (i / j)):=opI λ i j _ _ _ _ _ hc q=>by have h1:(0:Int) < j:=hc.1;have h2:j < 1073741824:=hc.2;exact floordiv_int ⋯ (by rw[Int.fdiv_eq_ediv_of_nonneg i ⋯];exact q) (.inl (PyProof.noPylong_small ⋯))
theorem ff:OpR X (binaryOp .Mod) (rI (λ _ j=>0 < j) λ i j=>.int (i % j)):=opI λ i j _ _ _ _ _ hc q=>by have h1:(0:Int) < j:=hc;exact mod_int' ⋯ (by rw[Int.fmod_eq_emod_of_nonneg i ⋯];exact q)
theorem ed:OpR X (binaryOp .Pow) (rI xj λ i j=>.int (i ^ j.toNat)):=opI λ _ _ _ _ _ _ _ hc q=>pow_int_small hc.1 hc.2.1 hc.2.2 q
theorem unI {f:Dp->Sem Dp} {g:Int->Int}
  (rule:∀ (i:Int) (t:Tok) (s:DY) (Q:Dp->DY->Prop) (E:Dp->DY->Prop),Q (.int (g i) s.toks) { s with toks:=s.toks+1 }->wpAny (model X.prog X.w) X.A (f (.int i t)) Q E s) :
  UnR X f (rU λ i=>.int (g i)):=by
 intro Ev s σ H x v Q I rx h;obtain⟨i,rfl,q⟩:=h;obtain⟨t,rfl⟩:=rx;exact rule i t s _ _ %[.int (g i),H,I.tok _,%[_|rfl]|q]
theorem gl:UnR X (unaryOp .USub) (rU λ i=>.int (-i)):=unI λ _ _ _ _ _ q=>neg_int q
inductive rz_op_add_ib (x:V) (y:V) (H:Hp) (Q:VK):Prop
 | mk (i:_) (k:_) (e_0:x=.int i) (e_1:y=.bl k) (e_2:Q (.int (i+b2i k)) H):rz_op_add_ib x y H Q
end
def xk:V->V->Bool
 | .non,.non=>true | .non,.int _=>true | .int _,.non=>true | .non,.bl _=>true | .bl _,.non=>true | .non,.str _=>true | .str _,.non=>true
 | .int _,.int _=>true | .bl _,.bl _=>true | .str _,.str _=>true | .byt _,.byt _=>true
 | .int _,.str _=>true | .str _,.int _=>true | .bl _,.str _=>true | .str _,.bl _=>true
 | _,_=>false
def rEq:R2:=λ x y H Q=>xk x y=true/\Q (.bl (decide (x=y))) H
def rNe:R2:=λ x y H Q=>xk x y=true/\Q (.bl (!decide (x=y))) H
theorem jW {i j:Int}:decide (V.int i=V.int j)=(i == j):=by rw[El];simp
theorem mz {i j:Bool}:decide (V.bl i=V.bl j)=(i == j):=by rw[El];simp
theorem jX {i j:Str}:decide (V.str i=V.str j)=(i == j):=by rw[El];simp
theorem jY {i j:Es UInt8}:decide (V.byt i=V.byt j)=(i.toList == j.toList):=by rw[El];cases i;cases j;simp
section
variable {X:Cx} {a b c:Expr} {ta tb tc:TE} {pos:Pos}
theorem aF {Ev:Et (Eo×Obj)} {σ:St} {H:Hp} {s:DY} {Q:VK} {k k':Bool} (I:Inv X Ev σ H s) (q:Q (.bl k) H) (e:k=k'):EP X Ev σ Q (.bool k') s:=by subst e;exact%[.bl k,H,I,U|q]
theorem bV:OpR X (compareOp .Eq) rEq:=by
 intro Ev s σ H x y v u Q I rx ry h;obtain⟨hs,q⟩:=h;cases x with
 | non=>
  cases rx;cases y with
  | non=>cases ry;exact PySem.EqNone.eq_none_none (aF I q (by simp))
  | bl j=>cases ry;exact PySem.EqNone.eq_none_bool (aF I q (by simp))
  | int j=>obtain⟨t',rfl⟩:=ry;exact PySem.EqNone.eq_none_int (aF I q (by simp))
  | str j=>obtain⟨t',rfl⟩:=ry;exact PySem.EqNone.eq_none_str (aF I q (by simp))
  | _=>exact absurd (show false=true from hs) A9
 | bl i=>
  cases rx;cases y with
  | non=>cases ry;exact PySem.EqNone.eq_bool_none (aF I q (by simp))
  | bl j=>cases ry;exact eq_bool (aF I q mz)
  | str j=>obtain⟨t',rfl⟩:=ry;exact PySem.EqMixed.eq_bool_str (aF I q (by simp))
  | _=>exact absurd (show false=true from hs) A9
 | int i=>
  obtain⟨t,rfl⟩:=rx;cases y with
  | non=>cases ry;exact PySem.EqNone.eq_int_none (aF I q (by simp))
  | int j=>obtain⟨t',rfl⟩:=ry;exact eq_int (aF I q jW)
  | str j=>obtain⟨t',rfl⟩:=ry;exact PySem.EqMixed.eq_int_str (aF I q (by simp))
  | _=>exact absurd (show false=true from hs) A9
 | str i=>
  obtain⟨t,rfl⟩:=rx;cases y with
  | non=>cases ry;exact PySem.EqNone.eq_str_none (aF I q (by simp))
  | bl j=>cases ry;exact PySem.EqMixed.eq_str_bool (aF I q (by simp))
  | int j=>obtain⟨t',rfl⟩:=ry;exact PySem.EqMixed.eq_str_int (aF I q (by simp))
  | str j=>obtain⟨t',rfl⟩:=ry;exact eq_str (aF I q jX)
  | _=>exact absurd (show false=true from hs) A9
 | byt i=>
  obtain⟨t,rfl⟩:=rx;cases y with
  | byt j=>obtain⟨t',rfl⟩:=ry;exact PySem.W.eq_bytes (aF I q jY)
  | _=>exact absurd (show false=true from hs) A9
 | _=>cases y <;> exact absurd (show false=true from hs) A9
theorem dC:OpR X (compareOp .NotEq) rNe:=by
 intro Ev s σ H x y v u Q I rx ry h;obtain⟨hs,q⟩:=h;cases x with
 | non=>
  cases rx;cases y with
  | non=>cases ry;exact PySem.EqNone.ne_none_none (aF I q (by simp))
  | bl j=>cases ry;exact PySem.EqNone.ne_none_bool (aF I q (by simp))
  | int j=>obtain⟨t',rfl⟩:=ry;exact PySem.EqNone.ne_none_int (aF I q (by simp))
  | str j=>obtain⟨t',rfl⟩:=ry;exact PySem.EqNone.ne_none_str (aF I q (by simp))
  | _=>exact absurd (show false=true from hs) A9
 | bl i=>
  cases rx;cases y with
  | non=>cases ry;exact PySem.EqNone.ne_bool_none (aF I q (by simp))
  | bl j=>cases ry;exact ne_bool (aF I q (FI not mz))
  | str j=>obtain⟨t',rfl⟩:=ry;exact PySem.EqMixed.ne_bool_str (aF I q (by simp))
  | _=>exact absurd (show false=true from hs) A9
 | int i=>
  obtain⟨t,rfl⟩:=rx;cases y with
  | non=>cases ry;exact PySem.EqNone.ne_int_none (aF I q (by simp))
  | int j=>obtain⟨t',rfl⟩:=ry;exact ne_int (aF I q (FI not jW))
  | str j=>obtain⟨t',rfl⟩:=ry;exact PySem.EqMixed.ne_int_str (aF I q (by simp))
  | _=>exact absurd (show false=true from hs) A9
 | str i=>
  obtain⟨t,rfl⟩:=rx;cases y with
  | non=>cases ry;exact PySem.EqNone.ne_str_none (aF I q (by simp))
  | bl j=>cases ry;exact PySem.EqMixed.ne_str_bool (aF I q (by simp))
  | int j=>obtain⟨t',rfl⟩:=ry;exact PySem.EqMixed.ne_str_int (aF I q (by simp))
  | str j=>obtain⟨t',rfl⟩:=ry;exact ne_str (aF I q (FI not jX))
  | _=>exact absurd (show false=true from hs) A9
 | byt i=>
  obtain⟨t,rfl⟩:=rx;cases y with
  | byt j=>obtain⟨t',rfl⟩:=ry;exact PySem.W.ne_bytes (aF I q (FI not jY))
  | _=>exact absurd (show false=true from hs) A9
 | _=>cases y <;> exact absurd (show false=true from hs) A9
theorem mB:OpR X (compareOp .Lt) (rI0 λ i j=>.bl (decide (i < j))):=oM λ _ _ _ _ _ _ _ q=>lt_int q
theorem qK:OpR X (compareOp .LtE) (rI0 λ i j=>.bl (decide (i<=j))):=oM λ _ _ _ _ _ _ _ q=>le_int q
theorem fg:OpR X (compareOp .Gt) (rI0 λ i j=>.bl (decide (j < i))):=oM λ _ _ _ _ _ _ _ q=>gt_int q
theorem qL:OpR X (compareOp .GtE) (rI0 λ i j=>.bl (decide (j<=i))):=oM λ _ _ _ _ _ _ _ q=>ge_int q
inductive rz_op_lt_str (x:V) (y:V) (H:Hp) (Q:VK):Prop
 | mk (i:_) (j:_) (e_0:x=.str i) (e_1:y=.str j) (e_2:Q (.bl (decide (i.cps.toList < j.cps.toList))) H):rz_op_lt_str x y H Q
inductive rz_op_in_str (x:V) (y:V) (H:Hp) (Q:VK):Prop
 | mk (i:_) (j:_) (e_0:x=.str i) (e_1:y=.str j) (e_2:Q (.bl (!(Builtin.Str.occurrences j i 0 j.length 1).isEmpty)) H):rz_op_in_str x y H Q
theorem iQ:OpR X (compareOp .Is) (λ x y H Q=>y=.non/\Q (.bl (decide (x=.non))) H):=by
 intro Ev s σ H x y v u Q I rx ry h;obtain⟨rfl,q⟩:=h;cases ry;refine is_none_gen (aF I q ?_);cases x <;> first
  | (cases rx;rfl)
  | (obtain⟨t,rfl⟩:=rx;rfl)
inductive rz_op_notin_str (x:V) (y:V) (H:Hp) (Q:VK):Prop
 | mk (i:_) (j:_) (e_0:x=.str i) (e_1:y=.str j) (e_2:Q (.bl (!(!(Builtin.Str.occurrences j i 0 j.length 1).isEmpty))) H):rz_op_notin_str x y H Q
theorem gm:OpR X (compareOp .NotIn) (rz_op_notin_str):=by intro Ev s σ H x y v u Q I rx ry h;obtain⟨i,j,rfl,rfl,q⟩:=h;obtain⟨t,rfl⟩:=rx;obtain⟨t',rfl⟩:=ry;exact notIn_str (aF I q rfl)
def jZ:HO->Bool
 | .lst _=>true
 | .ins _ _ _=>true
 | _=>false
inductive rz_op_is_ref (x:V) (y:V) (H:Hp) (Q:VK):Prop
 | mk (a:_) (b:_) (oa:_) (ob:_) (e_0:x=.ref a) (e_1:y=.ref b) (e_2:H a=some oa) (e_3:jZ oa=true) (e_4:H b=some ob) (e_5:jZ ob=true) (e_6:Q (.bl (decide (a=b))) H):rz_op_is_ref x y H Q
inductive rz_op_isnot_ref (x:V) (y:V) (H:Hp) (Q:VK):Prop
 | mk (a:_) (b:_) (oa:_) (ob:_) (e_0:x=.ref a) (e_1:y=.ref b) (e_2:H a=some oa) (e_3:jZ oa=true) (e_4:H b=some ob) (e_5:jZ ob=true) (e_6:Q (.bl (!decide (a=b))) H):rz_op_isnot_ref x y H Q
theorem ax (b:Expr) {op:CmpOp} (h:op≠.In:=by decide) (h2:op≠.NotIn:=by decide):behindInMarks op b=false:=by
 have e1:(op == CmpOp.In)=false:=by cases op <;> first | rfl | exact absurd rfl h
 have e2:(op == CmpOp.NotIn)=false:=by cases op <;> first | rfl | exact absurd rfl h2
 cases b <;> simp[behindInMarks,e1,e2]
theorem cm {op:CmpOp} {r:R2} (ho:OpR X (compareOp op) r) (ha:PE X a ta) (hb:PE X b tb) (hm:behindInMarks op b=false):PE X (.Compare a [op] [b] pos) (tOp r ta tb):=by intro Ev s σ H Q I h;exact wpAny_Compare1 (rA ha hb I h λ v u s2 x y H2 I2 rx ry q=>ho Ev s2 σ H2 x y v u Q I2 rx ry q) hm
def qM (t:TE):TT:=λ σ H Q=>t σ H λ x H'=>IsB x λ k=>Q k H'
theorem aq {op:CmpOp} {r:R2} (ho:OpR X (compareOp op) r) (ha:PE X a ta) (hb:PE X b tb) (hm:behindInMarks op b=false):PT X (.Compare a [op] [b] pos) (qM (tOp r ta tb)):=by
 intro Ev s σ H Q I h;refine wpAny_isTrue_Compare1 (thn (ha Ev s σ H _ I h) λ v s1 %[x,H1,I1,r1|q1]=>thn (hb Ev s1 σ H1 _ I1 q1) λ u s2 %[y,H2,I2,r2|q2]=>
  thn (ho Ev s2 σ H2 x y v u _ I2 r1 r2 q2) λ c s3 %[z,H3,I3,r3,k,e|q3]=>?_) hm
 subst e;cases r3;exact DM %[H3,I3|q3]
def rB (r r':R2) (ta tb tc:TE):TE:=λ σ H Q=>ta σ H λ x H1=>tb σ H1 λ y H2=>r x y H2 λ z H3=>∃k,z=.bl k /\
 (if k=true then tc σ H3 λ w' H4=>r' y w' H4 Q else Q (.bl false) H3)
theorem mC {op op':CmpOp} {r r':R2} (ho:OpR X (compareOp op) r) (ho':OpR X (compareOp op') r') (ha:PE X a ta) (hb:PE X b tb) (hc:PE X c tc)
  (hm:lastMarks [op,op'] [b,c]=false:=by with_unfolding_all rfl):PT X (.Compare a [op,op'] [b,c] pos) (qM (rB r r' ta tb tc)):=by
 intro Ev s σ H Q I h;refine isTrue_chain (thn (ha Ev s σ H _ I h) λ v s1 %[x,H1,I1,r1|q1]=>test_link (thn (hb Ev s1 σ H1 _ I1 q1) λ u s2 %[y,H2,I2,r2|q2]=>
  thn (ho Ev s2 σ H2 x y v u _ I2 r1 r2 q2) λ d s3 %[z,H3,I3,r3,k,e|q3]=>?_)) hm
 subst e;cases r3;refine DM ?_;cases k with
 | false=>
  obtain⟨k',e',q'⟩:=q3;cases e';exact ite_ff %[H3,I3|q']
 | true=>
  refine ite_tt (test_last (thn (hc Ev s3 σ H3 _ I3 q3) λ w' s4 %[z',H4,I4,r4|q4]=>thn (ho' Ev s4 σ H4 y z' u w' _ I4 r2 r4 q4) λ d' s5 %[z2,H5,I5,r5,k2,e2|q5]=>?_));subst e2;cases r5;exact DM %[H5,I5|q5]
theorem fh:(sizeLine:Nat) < 2 ^ 63:=by rw[sizeLine_eq];decide
inductive rz_op_add_str (x:V) (y:V) (H:Hp) (Q:VK):Prop
 | mk (i:_) (j:_) (e_0:x=.str i) (e_1:y=.str j) (e_2:i.length+j.length<=sizeLine) (e_3:Q (.str (i ++ j)) H):rz_op_add_str x y H Q
theorem aD:OpR X (binaryOp .Add) (rz_op_add_str):=by intro Ev s σ H x y v u Q I rx ry h;obtain⟨i,j,rfl,rfl,hz,q⟩:=h;obtain⟨t,rfl⟩:=rx;obtain⟨t',rfl⟩:=ry;exact add_str (λ t' tk=>%[.str (i ++ j),H,I.tok _,%[_|U]|q]) hz
inductive rz_iop_add_str (x:V) (y:V) (H:Hp) (Q:VK):Prop
 | mk (i:_) (j:_) (e_0:x=.str i) (e_1:y=.str j) (e_2:i.length+j.length<=sizeLine) (e_3:Q (.str (i ++ j)) H):rz_iop_add_str x y H Q
inductive rz_op_add_byt (x:V) (y:V) (H:Hp) (Q:VK):Prop
 | mk (i:_) (j:_) (e_0:x=.byt i) (e_1:y=.byt j) (e_2:i.size+j.size<=16777216) (e_3:Q (.byt (i ++ j)) H):rz_op_add_byt x y H Q
theorem cT {x:V} {us:Et Dp} (r:Vals [x] us):∃u,us=[u]/\RelV x u:=by
 cases r with
 | cons r1 r2=>cases r2;exact%[_,U|r1]
theorem qN {x y:V} {us:Et Dp} (r:Vals [x,y] us):∃u w',us=[u,w']/\RelV x u/\RelV y w':=by
 cases r with
 | cons r1 r2=>
  cases r2 with
  | cons r3 r4=>cases r4;exact%[_,_,U,r1|r3]
inductive rz_call_abs (xs:Et V) (H:Hp) (Q:VK):Prop
 | mk (i:_) (e_0:xs=[.int i]) (e_1:Q (.int (if i < 0 then -i else i)) H):rz_call_abs xs H Q
inductive rz_call_max2 (xs:Et V) (H:Hp) (Q:VK):Prop
 | mk (i:_) (j:_) (e_0:xs=[.int i,.int j]) (e_1:Q (.int (if j > i then j else i)) H):rz_call_max2 xs H Q
theorem kY (hc:X.calm=true):cf X (.builtin "max") (rz_call_max2):=by
 intro Ev s σ H xs us Q I r h;obtain⟨i,j,rfl,q⟩:=h;obtain⟨u,w',rfl,⟨t,rfl⟩,⟨t',rfl⟩⟩:=qN r;refine max_two_ints (I.ok.hd hc) λ h' tk k=>%[_,H,I.kept k,?_|q]
 by_cases hj:j > i
 ·rw[Ez hj,Ez hj];exact%[_|U]
 ·rw[E1 hj,E1 hj];exact%[_|U]
inductive rz_call_min2 (xs:Et V) (H:Hp) (Q:VK):Prop
 | mk (i:_) (j:_) (e_0:xs=[.int i,.int j]) (e_1:Q (.int (if j < i then j else i)) H):rz_call_min2 xs H Q
theorem kZ (hc:X.calm=true):cf X (.builtin "min") (rz_call_min2):=by
 intro Ev s σ H xs us Q I r h;obtain⟨i,j,rfl,q⟩:=h;obtain⟨u,w',rfl,⟨t,rfl⟩,⟨t',rfl⟩⟩:=qN r;refine min_two_ints (I.ok.hd hc) λ h' tk k=>%[_,H,I.kept k,?_|q]
 by_cases hj:j < i
 ·rw[Ez hj,Ez hj];exact%[_|U]
 ·rw[E1 hj,E1 hj];exact%[_|U]
theorem ee:cf X (.type "int") (λ xs H Q=>(∃i,xs=[.int i]/\Q (.int i) H)\/∃k,xs=[.bl k]/\Q (.int (if k then 1 else 0)) H):=by
 intro Ev s σ H xs us Q I r h;rcases h with⟨i,rfl,q⟩ | ⟨k,rfl,q⟩
 ·obtain⟨u,rfl,t,rfl⟩:=cT r;exact call_int_int %[.int i,H,I,%[_|rfl]|q]
 ·obtain⟨u,rfl,r1⟩:=cT r;cases r1;exact call_int_bool %[.int (if k then 1 else 0),H,I.tok _,%[_|rfl]|q]
inductive rz_call_str_int (xs:Et V) (H:Hp) (Q:VK):Prop
 | mk (i:_) (e_0:xs=[.int i]) (e_1:i.natAbs.log2 < 1920) (e_2:Q (.str (toString i)) H):rz_call_str_int xs H Q
theorem dD:cf X (.type "str") (rz_call_str_int):=by intro Ev s σ H xs us Q I r h;obtain⟨i,rfl,hz,q⟩:=h;obtain⟨u,rfl,t,rfl⟩:=cT r;exact PySem.P.str_of_int hz %[.str _,H,I.tok _,%[_|rfl]|q]
inductive rz_call_ord (xs:Et V) (H:Hp) (Q:VK):Prop
 | mk (x:_) (e_0:xs=[.str x]) (e_1:x.length=1) (e_2:Q (.int (x.cps.getD 0 0:Nat)) H):rz_call_ord xs H Q
inductive rz_call_chr (xs:Et V) (H:Hp) (Q:VK):Prop
 | mk (i:_) (e_0:xs=[.int i]) (e_1:0<=i) (e_2:i<=1114111) (e_3:Q (.str ⟨#[i.toNat]⟩) H):rz_call_chr xs H Q
def AZ (K:C4) (x:V) (H:Hp) (n:Nat):Prop :=
 match x with
 | .str y=>y.length<=sizeLine/\n=y.length
 | .byt y=>y.size<=sizeLine/\n=y.size
 | .ref p=>(∃xs,SqL K H p xs/\n=xs.length)\/∃xs,SqT K H p xs/\n=xs.length
 | _=>False
inductive rz_call_len (K:C4) (xs:Et V) (H:Hp) (Q:VK):Prop
 | mk (x:_) (n:_) (e_0:xs=[x]) (e_1:AZ K x H n) (e_2:Q (.int n) H):rz_call_len K xs H Q
inductive rz_call_divmod (xs:Et V) (H:Hp) (Q:VK):Prop
 | mk (i:_) (j:_) (e_0:xs=[.int i,.int j]) (e_1:xi i j) (e_2:∀p,H p=none->Q (.ref p) (upd H p (.tup [.int (i / j),.int (i % j)]))):rz_call_divmod xs H Q
end
structure ObjM (h:Heap) (x dx C:Eo) (mA:Str->Er Value):Prop where
 obj:h.get? x=some (PySem.W.instObj C dx)
 ns:h.Ns1 dx mA
 ne:dx≠x
theorem lb {h:Heap} {dx:Eo} {mA:Str->Er Dp} (n:h.Ns1 dx mA):∃od,h.get? dx=some od/\∀name,PySem.W.lookIn name od=some (mA name):=by
 obtain⟨o,es,ep,ho,hd,hk,_,hm⟩:=n;refine%[o,ho|λ name=>?_];have e:=hm name;unfold nsFind findBy at e;rw[<- Array.find?_toList]at e;unfold PySem.W.lookIn;rw[hd];dsimp only
 split
 ·rename_i y q
  rw[q]at e;exact FI some e
 ·rename_i q
  rw[q]at e;have a:es.toList.any (·.refKey)=false:=by rw[List.any_eq_false];intro y hy;obtain⟨z,t,hkey⟩:=hk y (Array.mem_toList_iff.mp hy);simp[DictEntry.refKey,hkey]
  have a':¬ es.toList.any (·.refKey)=true:=by rw[a];exact A9
  rw[E1 a'];exact FI some e
theorem ObjM.look {h:Heap} {x dx C:Eo} {mA:Str->Er Dp} (I:ObjM h x dx C mA):∃od,PySem.W.InstAt h x (PySem.W.instObj C dx) C (some od)/\∀name,PySem.W.lookIn name od=some (mA name) :=
 let ⟨od,ho,hl⟩:=lb I.ns
 %[od,%[I.obj,rfl,rfl|ho]|hl]
section
variable {prog:Dl} {w:Do} {A:Around} {E:Dp->DY->Prop} {s:DY} {K:C4} {x dx C f:Eo} {mA:Str->Er Dp} {name:Str} {v:Dp}
theorem oO {expr:Bool} {Q:Dp->DY->Prop} (X:K.In s.heap) (I:ObjM s.heap x dx C mA) (hg:PySem.W.plainGet K C name=true) (hh:PySem.W.hasDictIn K C=true)
  (ha:PySem.W.findIn K (.ref C) name=some none) (hv:mA name=some v) (hv':PySem.W.handedIn v=true) (h:Q v { s with toks:=s.toks+1 }) :
  wpAny (model prog w) A (getAttr (.ref x) name expr) Q E s:=by
 obtain⟨od,J,hl⟩:=I.look;exact PySem.W.get_value X J (PySem.W.plainGet_of hg).1 (PySem.W.findObj_own hh ha rfl (by rw[hl,hv])) hv' h
theorem mD {pl:Sem Bool} {Q:Dp×Et Dp->DY->Prop} (X:K.In s.heap) (I:ObjM s.heap x dx C mA) (hg:PySem.W.plainGet K C name=true)
  (hf:PySem.W.findIn K (.ref C) name=some (↑f)) (ht:PySem.W.isFn K (.ref f)=true) (hv:mA name=none) (h:Q (.ref f,[.ref x]) s) :
  wpAny (model prog w) A (getMethod (.ref x) name pl) Q E s:=by
 obtain⟨od,J,hl⟩:=I.look;exact PySem.W.method_fn X J (PySem.W.plainGet_of hg).1 (PySem.W.plainGet_of hg).2 hf (C3.mp ht) (by show(PySem.W.lookIn name od).map (·.isSome)=some false;rw[hl,hv];rfl) h
theorem oP {ns:Et Str} {Q:Unit->DY->Prop} (X:K.In s.heap) (I:ObjM s.heap x dx C mA)
  (hs:PySem.W.findIn K (.ref C) "__setattr__" = some (some (.builtin "object.__setattr__"))) (hp:PySem.W.plainOver K C=true) (ht:PySem.W.takerIn K C name=some none) (hh:PySem.W.hasDictIn K C=true)
  (hw:PySem.Within mA ns) (hsz:ns.length<=sizeLine)
  (h:∀h',ObjM h' x dx C (λ y=>if y=name then some v else mA y)->Heap.SameBut dx s.heap h'->Q () { s with heap:=h',toks:=s.toks+2 }) :
  wpAny (model prog w) A (setAttr (.ref x) name v) Q E s:=by
 obtain⟨od,J,hl⟩:=I.look;refine PySem.W.set_plain X J hs (PySem.W.osa_open (s:={ s with toks:=s.toks+1 }) (r:=none) X J hp ht λ b=>?_);obtain⟨cd,hc,hd'⟩:=PySem.W.any_some hh;have hx:s.heap.get? x=some %[.ref C,some dx,.plain|#[]]:=I.obj;refine A0 (A1 (A0 (A0 (wpAny_loadPart hx (A0 (PySem.W.Looks.here (s:={ s with toks:=s.toks+1 }) (PySem.W.looks_clsIn X hc) ?_))))));rw[hd'];refine A1 (a:=some dx) (A0 (A1 (A0 ?_)));refine wpAny_nsSet1 (s:={ s with toks:=s.toks+1 }) I.ns λ h' hn2 hs2=>?_;obtain⟨oD,esD,epD,hoD,hdD,hcD⟩:=hn2.count (PySem.Within.cons name v hw);refine A0 (wpAny_lookBehind hoD (by rw[hdD];exact pastItsLine_dict (C5 hcD (by rw[List.length_cons];omega))) ?_);exact A1 (h _ %[(hs2.2 _ (Ne.symm I.ne)).trans I.obj,hn2|I.ne] hs2)
theorem mE {R:Result->DY->Prop} {vs:Et Dp} {kw:Et (Str×Dp)} (X:K.In s.heap) (hm:PySem.W.makesIn K C=true)
  (hi:PySem.W.findIn K (.ref C) "__init__" = some (↑f)) (hf:PySem.W.typeIn K (.ref f)=some (.type "function"))
  (h:codeAny (model prog w) (A.under (.builtin "type.__call__" %[.ref C :: vs|kw])) (.call (.ref f) %[.ref (s.heap.objs.size+1) :: vs|kw]) (PySem.W.InitBack (s.heap.objs.size+1) R)
   { s with heap:=(s.heap.push PySem.W.emptyDict).push (PySem.W.instObj C s.heap.objs.size) }) :
  codeAny (model prog w) A (.call (.ref C) %[vs|kw]) R s:=by
 obtain⟨hh,g,d,t,os⟩:=s;exact PySem.W.make_core (PySem.W.makes_of X hm) (PySem.W.looks_findIn X hi) (λ self=>PySem.W.bind_fn X self hf) (.inl rfl) h
end
def cj (f:Str) (v:V):Et (Str×V)->Et (Str×V)
 | []=>[(f,v)]
 | (g,x) :: r=>if g=f then(g,v) :: r else(g,x) :: cj f v r
theorem bp (f g:Str) (v:V):∀fs:Et (Str×V),(cj f v fs).lookup g=if g=f then some v else fs.lookup g
 | []=>by
  show List.lookup g [(f,v)]=_
  by_cases h:g=f
  ·have hb:(g == f)=true:=C3.mpr h;simp only[List.lookup,hb,Ez h]
  ·have hb:(g == f)=false:=FL.mpr h;simp only[List.lookup,hb,E1 h]
 | (k,x) :: r=>by
  have ih:=bp f g v r;rw[show cj f v ((k,x) :: r)=(if k=f then(k,v) :: r else(k,x) :: cj f v r)from rfl]
  by_cases hk:k=f
  ·rw[Ez hk]
   by_cases h:g=k
   ·have hb:(g == k)=true:=C3.mpr h;simp only[List.lookup,hb,Ez (h.trans hk)]
   ·have hb:(g == k)=false:=FL.mpr h;simp only[List.lookup,hb,E1 (λ e:g=f=>h (e.trans hk.symm))]
  ·rw[E1 hk]
   by_cases h:g=k
   ·have hb:(g == k)=true:=C3.mpr h;simp only[List.lookup,hb,E1 (λ e:g=f=>hk (h.symm.trans e))]
   ·have hb:(g == k)=false:=FL.mpr h;simp only[List.lookup,hb];exact ih
theorem ef (f:Str) (v:V):∀fs:Et (Str×V),f∈(cj f v fs).map (·.1)/\∀g,g∈fs.map (·.1)->g∈(cj f v fs).map (·.1)
 | []=>%[by simp[cj]|λ g h=>by simp at h]
 | (k,x) :: r=>by
  obtain⟨i1,i2⟩:=ef f v r;rw[show cj f v ((k,x) :: r)=(if k=f then(k,v) :: r else(k,x) :: cj f v r)from rfl]
  by_cases hk:k=f
  ·rw[Ez hk];subst hk;exact%[by simp|λ g h=>by simpa using h]
  ·rw[E1 hk];refine%[?_|λ g h=>?_]
   ·rw[EG];exact B1 _ i1
   ·rw[EG]at h ⊢;rcases Dx.mp h with e | e
    ·exact Dx.mpr (.inl e)
    ·exact B1 _ (i2 g e)
theorem cY (f:Str) (v:V):∀fs:Et (Str×V),(cj f v fs).length<=fs.length+1
 | []=>by simp[cj]
 | (k,x) :: r=>by
  have ih:=cY f v r;rw[show cj f v ((k,x) :: r)=(if k=f then(k,v) :: r else(k,x) :: cj f v r)from rfl]
  by_cases hk:k=f
  ·rw[Ez hk,EA,EA];omega
  ·rw[E1 hk,EA,EA];omega
theorem RelO.some_of {v:V} {o:Er Dp} (r:RelO (some v) o):∃u,o=some u/\RelV v u:=by
 cases o with
 | none=>exact(show False from r).elim
 | some u=>exact%[u,U|r]
theorem RelO.none_of {o:Er Dp} (r:RelO none o):o=none:=by
 cases o with
 | none=>rfl
 | some u=>exact(show False from r).elim
theorem lc {v:V} {u:Dp} (r:RelV v u):PySem.W.handedIn u=true:=by
 cases v with
 | non=>cases(show u=Value.none from r);rfl
 | bl b=>cases(show u=Value.bool b from r);rfl
 | int i=>obtain⟨t,e⟩:=(show∃t,u=Value.int i t from r);cases e;rfl
 | str x=>obtain⟨t,e⟩:=(show∃t,u=Value.str x t from r);cases e;rfl
 | byt b=>obtain⟨t,e⟩:=(show∃t,u=Value.bytes b t from r);cases e;rfl
 | flt b=>obtain⟨t,e⟩:=(show∃t,u=Value.float b t from r);cases e;rfl
 | ref a=>cases(show u=Value.ref a from r);rfl
 | ty n=>cases(show u=Value.type n from r);rfl
section
variable {P:Dl} {w:Do} {H H':Hp} {h h':Heap} {a C dx:Eo} {fs fs':Et (Str×V)}
theorem dE (hok:HOk P w H h) (e:H a=some (.ins C dx fs)):∃mA,ObjM h a dx C mA/\(∀f,RelO (fs.lookup f) (mA f))/\PySem.Within mA (fs.map (·.1))/\fs.length<=1000/\H dx=some (.own a):=by
 obtain⟨d,z,ne,ob,mA,n,r,q⟩:=(show ObjOk P w H h a (.ins C dx fs)from hok a _ e)
 exact%[mA,%[ob,n|ne],r,q,z|d]
end
structure Cls (K:C4) (C:Eo):Prop where
 pg:PySem.W.plainGet K C Str.empty=true
 hd:PySem.W.hasDictIn K C=true
 po:PySem.W.plainOver K C=true
 sa:PySem.W.findIn K (.ref C) "__setattr__" = some (some (.builtin "object.__setattr__"))
theorem Cls.get {K:C4} {C:Eo} (c:Cls K C) (f:Str):PySem.W.plainGet K C f=true:=c.pg
def NoAttr (K:C4) (C:Eo) (f:Str):Prop:=PySem.W.findIn K (.ref C) f=some none
theorem NoAttr.taker {K:C4} {C:Eo} {f:Str} (n:NoAttr K C f):PySem.W.takerIn K C f=some none:=by
 unfold PySem.W.takerIn;rw[show PySem.W.findIn K (.ref C) f=some none from n]
 rfl
structure Con (K:C4) (C:Eo) (f:Str) (v:V) (u:Value):Prop where
 at_:PySem.W.findIn K (.ref C) f=some (some u)
 rel:RelV v u
 get:PySem.W.specialIn K u "__get__" = some none
 cp:PySem.W.copiedNames.contains f=false
structure Meth (K:C4) (C:Eo) (m:Str) (f:Eo):Prop where
 at_:PySem.W.findIn K (.ref C) m=some (↑f)
 fn:PySem.W.isFn K (.ref f)=true
 kp:PySem.W.keepIn K (.ref f)=true
section
variable {X:Cx} {Ev:Et (Eo×Obj)} {σ:St} {H:Hp} {s:DY} {a C dx:Eo} {fs:Et (Str×V)} {f:Str} {v:V} {A:Around} {E:Dp->DY->Prop}
theorem iR {b:Bool} {Q:Dp->DY->Prop} (I:Inv X Ev σ H s) (e:H a=some (.ins C dx fs)) (c:Cls X.K C) (n:NoAttr X.K C f) (l:fs.lookup f=some v)
  (h:∀u s',Inv X Ev σ H s'->RelV v u->Q u s'):wpAny (model X.prog X.w) A (getAttr (.ref a) f b) Q E s:=by
 obtain⟨mA,O,r,_,_,_⟩:=dE I.hok e;obtain⟨u,hu,ru⟩:=RelO.some_of (v:=v) (o:=mA f) (by rw[<- l];exact r f);exact oO I.kIn O (c.get f) c.hd n hu (lc ru) (h u _ (I.tok _) ru)
theorem fi {m:Str} {g:Eo} {pl:Sem Bool} {Q:Dp×Et Dp->DY->Prop} (I:Inv X Ev σ H s) (e:H a=some (.ins C dx fs)) (c:Cls X.K C) (k:Meth X.K C m g) (l:fs.lookup m=none)
  (h:Q (.ref g,[.ref a]) s):wpAny (model X.prog X.w) A (getMethod (.ref a) m pl) Q E s:=by
 obtain⟨mA,O,r,_,_,_⟩:=dE I.hok e;have hn:mA m=none:=RelO.none_of (by rw[<- l];exact r m);exact mD I.kIn O (c.get m) k.at_ k.fn hn h
theorem iS {y:V} {u:Dp} {Q:Unit->DY->Prop} (I:Inv X Ev σ H s) (e:H a=some (.ins C dx fs)) (c:Cls X.K C) (n:NoAttr X.K C f) (hl:fs.length < 1000) (ry:RelV y u)
  (h:∀s',Inv X Ev σ (upd H a (.ins C dx (cj f y fs))) s'->Q () s'):wpAny (model X.prog X.w) A (setAttr (.ref a) f u) Q E s:=by
 obtain⟨mA,O,r,wi,_,ho⟩:=dE I.hok e;have hz:(fs.map (·.1)).length<=sizeLine:=by rw[Dv,sizeLine_eq];omega
 refine oP I.kIn O c.sa c.po n.taker c.hd wi hz λ h' O' sb=>h _ ?_;have hd:∃o,h'.get? dx=some o:=let ⟨o,_,_,e',_⟩:=O'.ns;%[o|e']
 refine I.write (x:=a) (e:=dx) (by rw[e];exact True.intro) (.inr ho) (λ b q hb z=>(sb.2 b hb).trans z) hd ?_;refine%[by rw[ao O.ne];exact ho,?_,O.ne,O'.obj,_,O'.ns,λ g=>?_|λ g hg=>?_]
 ·have:=cY f y fs;omega
 ·show RelO ((cj f y fs).lookup g) (if g=f then some u else mA g);rw[bp]
  by_cases q:g=f
  ·rw[Ez q,Ez q];exact ry
  ·rw[E1 q,E1 q];exact r g
 ·by_cases q:g=f
  ·rw[q];exact(ef f y fs).1
  ·refine(ef f y fs).2 g (wi g λ z=>hg ?_);show(if g=f then some u else mA g)=none;rw[E1 q];exact z
theorem Inv.made (I:Inv X Ev σ H s):Inv X Ev σ (upd (upd H s.heap.objs.size (.own (s.heap.objs.size+1))) (s.heap.objs.size+1) (.ins C s.heap.objs.size []))
  { s with heap:=(s.heap.push PySem.W.emptyDict).push (PySem.W.instObj C s.heap.objs.size) }:=by
 have e1:(s.heap.push PySem.W.emptyDict).get? s.heap.objs.size=some PySem.W.emptyDict:=A5 s.heap rfl;have e2:((s.heap.push PySem.W.emptyDict).push (PySem.W.instObj C s.heap.objs.size)).get? (s.heap.objs.size+1)=some (PySem.W.instObj C s.heap.objs.size):=by have:=A5 (s.heap.push PySem.W.emptyDict) (o:=PySem.W.instObj C s.heap.objs.size) rfl;rwa [Heap.size_push]at this
 have e3:(s.heap.push PySem.W.emptyDict).Ns s.heap.objs.size (λ _=>none):=%[PySem.W.emptyDict,#[],_,e1,U,(λ e he=>absurd he (by simp))|λ _=>rfl]
 have I1:=I.laid (a:=s.heap.objs.size) (o:=.own (s.heap.objs.size+1)) (h':=s.heap.push PySem.W.emptyDict) (t':=s.toks) (λ b u q=>A4 _ q) (B0 _) %[_|e1];refine I1.laid (a:=s.heap.objs.size+1) (o:=.ins C s.heap.objs.size []) (t':=s.toks) (λ b u q=>A4 _ q) (Nat.le_of_eq (Heap.size_push _ _)) ?_;have ne:s.heap.objs.size≠s.heap.objs.size+1:=B7 (DH _);refine%[by rw[ao ne,ag],DG _,ne,e2,λ _=>none,(Heap.Ns1.of_empty e3).at λ o q=>A4 _ q,λ _=>True.intro|λ y hy=>absurd rfl hy]
theorem oQ {prog:Dl} {w:Do} {env:Env} {e:Expr} {f:Str} {pos:Pos} {s:DY} {Q:Dp->DY->Prop} (hb:attributeBase e f env (eval e env)=eval e env)
  (h:wpAny (model prog w) A (eval e env) (λ o s₁=>wpAny (model prog w) A (getAttr o f true) Q E s₁) E s):wpAny (model prog w) A (eval (.Attribute e f pos) env) Q E s :=
 Attribute_any_ h (by rw[arm_eval_Attribute,hb])
end
def Ba (K:C4) (ta:TE) (f:Str):TE:=λ σ H Q=>ta σ H λ x H1=>∃a C dx fs v,x=.ref a/\H1 a=some (.ins C dx fs)/\Cls K C/\NoAttr K C f/\fs.lookup f=some v/\Q v H1
def xn (K:C4) (ta tv:TE) (f:Str):TS:=λ D σ H=>tv σ H λ y H1=>ta σ H1 λ x H2=>∃a C dx fs,x=.ref a/\H2 a=some (.ins C dx fs)/\Cls K C/\NoAttr K C f/\fs.length < 1000 /\
 D.nx σ (upd H2 a (.ins C dx (cj f y fs)))
section
variable {X:Cx} {o e value:Expr} {f:Str} {pos pos' tpos:Pos} {ta tv:TE}
theorem mF (he:PE X e ta) (hb:attributeBase e f X.env (eval e X.env)=eval e X.env):PE X (.Attribute e f pos) (Ba X.K ta f):=by intro Ev s σ H Q I h;refine oQ hb (thn (he Ev s σ H _ I h) λ u s1 %[x,H1,I1,rx,a,C,dx,fs,v,ex,ea,c,n,l|q]=>?_);subst ex;obtain rfl:u=Value.ref a:=rx;exact iR I1 ea c n l λ u' s2 I2 ru=>%[v,H1,I2,ru|q]
theorem mG (ha:PE X o ta) (hv:PE X value tv) (hs:swapsWith value (some (.Attribute o f pos')) pos.line X.env=pure false):PS X (.Assign [.Attribute o f pos'] value pos) (xn X.K ta tv f):=by intro Ev s σ H D I h;refine plainObj_wpAny_Assign_Attribute (thn (hv Ev s σ H _ I h) λ u s1 %[y,H1,I1,ry|q]=>thn (ha Ev s1 σ H1 _ I1 q) λ ov s2 %[x,H2,I2,rx,a,C,dx,fs,ex,ea,c,n,l|q2]=>?_) hs;subst ex;obtain rfl:ov=Value.ref a:=rx;exact iS I2 ea c n l ry λ s3 I3=>%[σ,_,I3|q2]
theorem qO {pl:Sem Bool} {m:Str} {apos:Pos} {args:Et Expr} {Ev:Et (Eo×Obj)} {s:DY} {σ:St} {H:Hp} {Q:Dp->DY->Prop} {te:TE} (he:PE X e te) (I:Inv X Ev σ H s)
  (h:te σ H λ x H1=>∃a C dx fs g,x=.ref a/\H1 a=some (.ins C dx fs)/\Cls X.K C/\Meth X.K C m g/\fs.lookup m=none /\
   ∀s1,Inv X Ev σ H1 s1->wpAny (model X.prog X.w) X.A (callWith pos (.ref g) [.ref a] (backTo pos (starEach args X.env)) (backToKw pos (keywordEach [] X.env))) Q X.xe s1)
  (ht:eval (.Call (.Attribute e m apos) args [] pos) X.env=(do
   let ov<-eval e X.env
   standAt apos.atName
   let (f,first)<-holding [ov] (getMethod ov m pl)
   callWith pos f first (backTo pos (starEach args X.env)) (backToKw pos (keywordEach [] X.env)))) :
  wpAny (model X.prog X.w) X.A (eval (.Call (.Attribute e m apos) args [] pos) X.env) Q X.xe s:=by
 refine PySem.W.methodCall_KW (pl:=pl) (thn (he Ev s σ H _ I h) λ u s1 %[x,H1,I1,rx,a,C,dx,fs,g,ex,ea,c,k,l|q]=>?_) ht;subst ex;obtain rfl:u=Value.ref a:=rx;exact fi I1 ea c k l (q s1 I1)
end
section
variable {X:Cx} {Ev:Et (Eo×Obj)} {σ:St} {H:Hp} {s:DY} {A:Around} {E:Dp->DY->Prop} {Q:Dp->DY->Prop} {c:Dp} {b:Bool}
inductive TyOf (K:C4) (H:Hp):V->Value->Prop where
 | non:TyOf K H .non (.type "NoneType")
 | bl (x:Bool):TyOf K H (.bl x) (.type "bool")
 | int (i:Int):TyOf K H (.int i) (.type "int")
 | str (x:Str):TyOf K H (.str x) (.type "str")
 | flt (x:UInt64):TyOf K H (.flt x) (.type "float")
 | lst {a:Eo} {xs:Et V} (e:H a=↥xs):TyOf K H (.ref a) (.type "list")
 | frz {a:Eo} {o:Obj} {xs:Et V} (e:H a=some (.frz o (.lst xs))):TyOf K H (.ref a) (.type "list")
 | tup {a:Eo} {xs:Et V} (e:H a= ~~~xs):TyOf K H (.ref a) (.type "tuple")
 | dK {a:Eo} {kvs:Et (Key×V)} (e:H a=some (.dK kvs)):TyOf K H (.ref a) (.type "dict")
 | dT {a:Eo} {kvs:Et (Et Key×V)} (e:H a=some (.dT kvs)):TyOf K H (.ref a) (.type "dict")
 | ext {a:Eo} {φ:Heap->Prop} (e:H a=some (.ext φ)) (c:∀h,φ h->∃o,h.get? a=some o/\o.cls=.type "dict"):TyOf K H (.ref a) (.type "dict")
 | ins {a C dx:Eo} {fs:Et (Str×V)} (e:H a=some (.ins C dx fs)) (cl:Cls K C) (ha:PySem.W.findIn K (.ref C) "__class__" = some (some (.builtin "object.__class__")))
   (hn:PySem.W.specialIn K (.builtin "object.__class__") "__get__" = some (some (.builtin "getset_descriptor.__get__"))) (htk:PySem.W.takesIn K (.builtin "object.__class__")=some true)
   (hm:PySem.W.mroIn K C (.type "object")=some true):TyOf K H (.ref a) (.ref C)
theorem lg {x:V} {u t:Dp} (I:Inv X Ev σ H s) (rx:RelV x u) (ty:TyOf X.K H x t) (e:PySem.W.kitOne X.K t c=some b) (h:∀tk,Q (.bool b) { s with toks:=tk }) :
  wpAny (model X.prog X.w) A (call (.builtin "isinstance") [u,c]) Q E s:=by
 cases ty with
 | non=>cases(show u=Value.none from rx);exact PySem.W.kia_one PySem.W.kitx_none I.kIn True.intro e (λ z=>nomatch z) h
 | bl y=>cases(show u=Value.bool y from rx);exact PySem.W.kia_one PySem.W.kitx_bool I.kIn True.intro e (λ z=>nomatch z) h
 | int i=>obtain⟨t,q⟩:=(show∃t,u=Value.int i t from rx);cases q;exact PySem.W.kia_one PySem.W.kitx_int I.kIn True.intro e (λ z=>nomatch z) h
 | str y=>obtain⟨t,q⟩:=(show∃t,u=Value.str y t from rx);cases q;exact PySem.W.kia_one PySem.W.kitx_str I.kIn True.intro e (λ z=>nomatch z) h
 | flt y=>obtain⟨t,q⟩:=(show∃t,u=Value.float y t from rx);cases q;exact PySem.W.kia_one PySem.W.kitx_float I.kIn True.intro e (λ z=>nomatch z) h
 | @lst a xs ea=>
  cases(show u=Value.ref a from rx);obtain⟨_,_,n,_,h1⟩:=(show ObjOk X.prog X.w H s.heap a (.lst xs)from I.hok a _ ea)
  exact PySem.W.kia_one PySem.W.kitx_list I.kIn %[_,h1|U] e (λ z=>nomatch z) h
 | @frz a ob xs ea=>
  cases(show u=Value.ref a from rx);obtain⟨_,_,_,n,_,h1⟩:=(show ObjOk X.prog X.w H s.heap a (.frz ob (.lst xs))from I.hok a _ ea)
  exact PySem.W.kia_one PySem.W.kitx_list I.kIn %[_,h1|U] e (λ z=>nomatch z) h
 | @tup a xs ea=>
  cases(show u=Value.ref a from rx);obtain⟨_,_,_,p⟩:=(show ObjOk X.prog X.w H s.heap a (.tup xs)from I.hok a _ ea)
  obtain⟨o,h1,h2,_⟩:=p;exact PySem.W.kia_one PySem.W.kitx_tuple I.kIn %[o,h1|h2] e (λ z=>nomatch z) h
 | @dK a kvs ea=>
  cases(show u=Value.ref a from rx);obtain⟨_,_,vs,_,p⟩:=(show ObjOk X.prog X.w H s.heap a (.dK kvs)from I.hok a _ ea)
  obtain⟨o,es,ep,h1,h2,_⟩:=p;exact PySem.W.kia_one PySem.W.kitx_dict I.kIn %[o,h1|h2.1] e (λ z=>nomatch z) h
 | @dT a kvs ea=>
  cases(show u=Value.ref a from rx);obtain⟨_,_,xs,_,o,es,ep,h1,h2,_⟩:=(show ObjOk X.prog X.w H s.heap a (.dT kvs)from I.hok a _ ea)
  exact PySem.W.kia_one PySem.W.kitx_dict I.kIn %[o,h1|h2.1] e (λ z=>nomatch z) h
 | @ext a φ ea c=>
  cases(show u=Value.ref a from rx);obtain⟨p,_,_⟩:=(show ObjOk X.prog X.w H s.heap a (.ext φ)from I.hok a _ ea)
  obtain⟨o,h1,h2⟩:=c _ p;exact PySem.W.kia_one PySem.W.kitx_dict I.kIn %[o,h1|h2] e (λ z=>nomatch z) h
 | @ins a C dx fs ea cl ha hn htk hm=>
  cases(show u=Value.ref a from rx);obtain⟨mA,O,_⟩:=dE I.hok ea;obtain⟨od,J,_⟩:=O.look;exact PySem.W.kia_one (PySem.W.kitx_own (cl.get _) cl.hd ha hn htk hm) I.kIn J e (λ z=>nomatch z) h
end
structure Room (k:Nat) (A:Around):Prop where
 hd:A.handled=none
 dp:A.depth+3 * k+5 < recursionLimit
 un:A.units+16 * k+200 < cLine
 gd:A.guards=some []
theorem Room.mono {j k:Nat} {A:Around} (r:Room k A) (h:j<=k):Room j A:=%[r.hd,by have:=r.dp;omega,by have:=r.un;omega|r.gd]
theorem Room.deeper {k:Nat} {A:Around} (r:Room (k+1) A) (env:Env):Room k (A.deeper env) :=
 %[r.hd,by have:=r.dp;show A.depth+1+3 * k+5 < _;omega,by have:=r.un;show A.units+3+16 * k+200 < _;omega|r.gd]
theorem iT {A:Around} {C:Eo} {us:Et Dp} {kw:Et (Str×Dp)}:(A.under (.builtin "type.__call__" %[.ref C :: us|kw])).depth=A.depth+1:=by first | rfl | simp[Around.under,Code.weight,Code.isCreation,Code.isGuard,Code.isCaller,Code.frames,Code.isFrame,guardIds]
theorem iU {A:Around} {C:Eo} {us:Et Dp} {kw:Et (Str×Dp)}:(A.under (.builtin "type.__call__" %[.ref C :: us|kw])).units=A.units+1:=by first | rfl | simp[Around.under,Code.cUnits,Code.frames,Code.isFrame]
theorem gW {A:Around} {C:Eo} {us:Et Dp} {kw:Et (Str×Dp)}:(A.under (.builtin "type.__call__" %[.ref C :: us|kw])).guards=A.guards:=by
 have e:Code.guards (.builtin "type.__call__" %[.ref C :: us|kw])=[]:=by
  have:(Code.builtin "type.__call__" %[.ref C :: us|kw]).isGuard=false:=by show guardIds.contains "type.__call__" = false;decide +kernel
  simp[Code.guards,this]
 unfold Around.under;dsimp only;rw[e]
 rfl
theorem Room.make {k:Nat} {A:Around} (r:Room (k+1) A) (C:Eo) (us:Et Dp) (kw:Et (Str×Dp)):Room k (A.under (.builtin "type.__call__" %[.ref C :: us|kw])) :=
 %[r.hd,by have:=r.dp;rw[iT];omega,by have:=r.un;rw[iU];omega|by rw[gW];exact r.gd]
theorem Room.depth {k:Nat} {A:Around} (r:Room k A):A.depth < recursionLimit:=by have:=r.dp;omega
def li:TA:=λ _ H Q=>Q [] H
def qQ (ta:TE) (tr:TA):TA:=λ σ H Q=>ta σ H λ x H1=>tr σ H1 λ xs H2=>Q (x :: xs) H2
section
variable {X:Cx} {e:Expr} {es:Et Expr} {te:TE} {t:TA} {pos:Pos}
theorem af:PA X [] li:=λ _ _ _ _ H Q I h=>Calls.spliced_nil %[[],H,I,.nil|h]
theorem ae (ha:PE X e te) (hr:PA X es t) (hs:starEach (e :: es) X.env=(false,eval e X.env) :: starEach es X.env:=by rfl):PA X (e :: es) (qQ te t):=by intro pos Ev s σ H Q I h;rw[hs];show wpAny _ _ (spliced ((false,eval e X.env) :: backTo pos (starEach es X.env))) _ _ s;refine FM (thn (ha Ev s σ H _ I h) λ u s1 %[x,H1,I1,r1|q1]=>?_);exact thn (hr pos Ev s1 σ H1 _ I1 q1) λ us s2 %[xs,H2,I2,r2|q2]=>%[x :: xs,H2,I2,.cons r1 r2|q2]
def Bb (t:TA):TE:=λ σ H Q=>t σ H λ xs H1=>xs.length<=sizeLine/\∀p,H1 p=none->Q (.ref p) (upd H1 p (.tup xs))
def Bc (t:TA):TE:=λ σ H Q=>t σ H λ xs H1=>xs.length<=sizeLine/\∀p,H1 p=none->Q (.ref p) (upd H1 p (.lst xs))
theorem cg {x1} (h:PA X es t):PE X (.Tuple es x1 pos) (Bb t):=by intro Ev s σ H Q I hq;refine wpAny_Tuple_spliced (thn (h pos Ev s σ H _ I hq) λ us s1 %[xs,H1,I1,r,z|q]=>%[by rw[<- r.length];exact z|?_]);have hf:H1 s1.heap.objs.size=none:=I1.hok.fresh (B0 _);refine%[.ref s1.heap.objs.size,upd H1 s1.heap.objs.size (.tup xs),I1.laid (t':=s1.toks) (λ b u e=>A4 _ e) (B0 _) ?_,U|q _ hf];exact%[z,us,r|%[_,A5 _ rfl,U,_|U]]
theorem bn (h:PA X es t):PE X (.List es pos) (Bc t):=by intro Ev s σ H Q I hq;refine wpAny_List_spliced (thn (h pos Ev s σ H _ I hq) λ us s1 %[xs,H1,I1,r,z|q]=>%[by rw[<- r.length];exact z|?_]);have hf:H1 s1.heap.objs.size=none:=I1.hok.fresh (B0 _);refine%[.ref s1.heap.objs.size,upd H1 s1.heap.objs.size (.lst xs),I1.laid (t':=s1.toks) (λ b u e=>A4 _ e) (B0 _) ?_,U|q _ hf];exact%[z,us,0,r|A5 _ rfl]
end
abbrev Sp:=Et V->Hp->VK->XK->Prop
abbrev CXT:=Et Env->Hp->DY->XK->Dp->DY->Prop
structure Env0 (P:Program) (w:World) (K:C4) (mg:Str->Er Value) (base:Heap) (A:Around) (outer:Et Env) (s:Shared) (H:Hp):Prop where
 frames:A.frames=some outer
 mod:Mod K mg base
 bs:∀b o,base.get? b=some o->s.heap.get? b=some o/\H b=none
 bsz:base.objs.size<=s.heap.objs.size
 funs:s.heap.FunFrames base outer
 frf:∀b∈frs outer,H b=none
 hok:HOk P w H s.heap
 bare:AllBare s.gens
def CE (outer:Et Env) (P:Dl) (w:Do) (H:Hp) (s:DY) (Q:VK) (u:Dp) (s':DY):Prop :=
 ∃v H',s'.os=s.os/\AllBare s'.gens/\Un (frs outer) [] H H' s.heap s'.heap/\HOk P w H' s'.heap/\RelV v u/\Q v H'
def CR (CX:CXT) (outer:Et Env) (P:Dl) (w:Do) (H:Hp) (s:DY) (Q:VK) (E:XK) (r:Result) (s':DY):Prop :=
 match r with
 | .ok (.ret u)=>CE outer P w H s Q u s'
 | .ok _=>False
 | .error e=>CX outer H s E e s'
structure FnOk (P:Program) (w:World) (K:C4) (mg:Str->Er Value) (base:Heap) (CX:CXT) (k:Nat) (f:Eo) (fd:FuncData) (ps:Et Str) (sp:Sp):Prop where
 len:∀vs H Q E,sp vs H Q E->vs.length=ps.length
 run:∀ (A:Around) (outer:Et Env) (s:DY) (H:Hp) (args:Args) (us:Et Dp) (vs:Et V) (Q:VK) (E:XK),Room k A->Env0 P w K mg base A outer s H->BindsTo s fd args (ps.zip us)->Vals vs us->sp vs H Q E ->
  codeAny (model P w) A (.call (.ref f) args) (CR CX outer P w H s Q E) s
theorem Env0.make {P:Dl} {w:Do} {K:C4} {mg:Str->Er Dp} {base:Heap} {A:Around} {outer:Et Env} {s:DY} {H:Hp} (e:Env0 P w K mg base A outer s H) (C:Eo) (us:Et Dp) (kw:Et (Str×Dp)) :
  Env0 P w K mg base (A.under (.builtin "type.__call__" %[.ref C :: us|kw])) outer s H:=⟨by first | exact e.frames | (simpa[Around.under,Code.envs,Code.isFrame,pushEnvs]using e.frames),e.mod,e.bs,e.bsz,e.funs,e.frf,e.hok,e.bare⟩
section
variable {X:Cx} {Ev:Et (Eo×Obj)} {σ:St} {H:Hp} {s s':DY}
theorem Inv.env0 (I:Inv X Ev σ H s):Env0 X.prog X.w X.K X.mg X.base X.A X.stack s H :=
 %[I.ok.frames,I.ok.mod,I.bs,C5 I.ok.bsz I.sz,I.stack,I.stkFree,I.hok|I.bare]
theorem Inv.after {Q:VK} {u:Dp} (I:Inv X Ev σ H s) (h:CE X.stack X.prog X.w H s Q u s'):EP X Ev σ Q u s':=by obtain⟨v,H',os,bare,un,hok,r,q⟩:=h;obtain⟨hh,g,d,t,os'⟩:=s';obtain rfl:os'=s.os:=os;exact%[v,H',I.call (h':=hh) (g':=g) (d':=d) (t':=t) (ch:=[]) un hok bare (λ b z=>absurd z (by simp)),r|q]
end
def qR (sp:Sp) (dvs:Et V) (E:XK) (t:TA):TE:=λ σ H Q=>t σ H λ vs H1=>sp (vs ++ dvs) H1 Q E
def qS (C:Eo) (m:Str) (sp:Sp) (dvs:Et V) (E:XK) (ta:TE) (t:TA):TE:=λ σ H Q=>ta σ H λ x H1=>∃a dx fs,x=.ref a/\H1 a=some (.ins C dx fs)/\fs.lookup m=none /\
 t σ H1 λ vs H2=>sp (x :: (vs ++ dvs)) H2 Q E
def Binds (K:C4) (fd:Dm) (ps:Et Str) (ds:Et Dp):Prop :=
 ∀ (s:DY) (us:Et Dp),K.In s.heap->(us ++ ds).length=ps.length->BindsTo s fd %[us|[]] (ps.zip (us ++ ds))
theorem Binds.all {K:C4} {fd:Dm} {ps:Et Str} (h:∀us:Et Dp,us.length=ps.length->bindArgs fd %[us|[]]=pure (ps.zip us)):Binds K fd ps []:=λ s us _ hl=>by rw[EU]at hl ⊢;exact .of_eq (h us hl)
def gn (CX:CXT) (X:Cx) (E:XK):Prop:=∀ (Ev:Et (Eo×Obj)) (σ:St) (H:Hp) (s:DY) (e:Dp) (s':DY),Inv X Ev σ H s->CX X.stack H s E e s'->X.xe e s'
section
variable {X:Cx} {CX:CXT} {k:Nat} {f C:Eo} {fd:Dm} {ps:Et Str} {sp:Sp} {dvs:Et V} {ds:Et Dp} {E:XK} {x m:Str} {p pos apos:Pos} {e o:Expr} {es:Et Expr} {ta:TE} {t:TA}
theorem mH {Ev:Et (Eo×Obj)} {σ:St} {H:Hp} {s:DY} {Q:VK} {us:Et Dp} {vs:Et V} (F:FnOk X.prog X.w X.K X.mg X.base CX k f fd ps sp) (hr:Room k X.A) (hb:Binds X.K fd ps ds) (hd:Vals dvs ds) (hx:gn CX X E)
  (I:Inv X Ev σ H s) (r:Vals vs us) (h:sp (vs ++ dvs) H Q E):wpAny (model X.prog X.w) X.A (call (.ref f) us) (EP X Ev σ Q) X.xe s:=by
 have r2:Vals (vs ++ dvs) (us ++ ds):=r.append hd;have hl:(us ++ ds).length=ps.length:=by rw[<- r2.length];exact F.len _ _ _ _ h
 refine wpAny_call (FX (F.run X.A X.stack s H %[us|[]] (us ++ ds) (vs ++ dvs) Q E hr I.env0 (hb s us I.kIn hl) r2 h) λ r s' hq=>?_);cases r with
 | error e=>exact hx Ev σ H s e s' I hq
 | ok fl=>
  cases fl with
  | ret u=>exact I.after hq
  | next=>exact DF hq
  | brk=>exact DF hq
  | cont=>exact DF hq
theorem oR (F:FnOk X.prog X.w X.K X.mg X.base CX k f fd ps sp) (hr:Room k X.A) (hg:Gl X x) (hm:X.mg x=↑f) (hk:PySem.W.keepIn X.K (.ref f)=true) (hb:Binds X.K fd ps ds) (hd:Vals dvs ds) (hx:gn CX X E)
  (ha:PA X (e :: es) t) (hdb:(x == ("__debug__" : Str))=false:=by decide) (he:starEach (e :: es) X.env=(false,eval e X.env) :: starEach es X.env:=by rfl) (hpl:(backTo pos (starEach es X.env)).any (·.1)=false:=by rfl) :
  PE X (.Call (.Name x p) (e :: es) [] pos) (qR sp dvs E t):=by
 intro Ev s σ H Q I h;refine FN (bJ I hg hm ?_ hdb);refine PySem.W.callWith_K (h₀:=X.base) I.ok.mod.kin hk (thn (ha pos Ev s σ H _ I h) λ us s1 %[vs,H1,I1,r|q]=>%[I1.kIn|?_]) he hpl;exact mH F hr hb hd hx I1 r q
theorem mI {pl:Sem Bool} (he:PE X o ta) (c:Cls X.K C) (hm:Meth X.K C m f) (F:FnOk X.prog X.w X.K X.mg X.base CX k f fd ps sp) (hr:Room k X.A) (hb:Binds X.K fd ps ds) (hd:Vals dvs ds) (hx:gn CX X E)
  (ht:eval (.Call (.Attribute o m apos) [] [] pos) X.env=(do
   let ov<-eval o X.env
   standAt apos.atName
   let (f,first)<-holding [ov] (getMethod ov m pl)
   callWith pos f first (backTo pos (starEach [] X.env)) (backToKw pos (keywordEach [] X.env))):=by rfl) :
  PE X (.Call (.Attribute o m apos) [] [] pos) (qS C m sp dvs E ta li):=by
 intro Ev s σ H Q I h;refine PySem.W.methodCall_KW (pl:=pl) (thn (he Ev s σ H _ I h) λ u s1 %[x,H1,I1,rx,a,dx,fs,ex,ea,l|q]=>?_) ht;subst ex;obtain rfl:u=Value.ref a:=rx;refine fi I1 ea c hm l ?_;exact PySem.W.callWith_K0 (first:=[.ref a]) I1.kIn hm.kp (mH (us:=[.ref a]) (vs:=[.ref a]) F hr hb hd hx I1 (.cons rfl .nil) q)
structure Mk (K:C4) (C f:Eo):Prop where
 makes:PySem.W.makesIn K C=true
 init:PySem.W.findIn K (.ref C) "__init__" = some (↑f)
 fn:PySem.W.isFn K (.ref f)=true
 kp:PySem.W.keepIn K (.ref C)=true
end
section
variable {X:Cx} {CX:CXT} {k:Nat} {f C:Eo} {fd:Dm} {ps ks:Et Str} {sp:Sp} {E:XK} {x m:Str} {p pos apos kpos:Pos} {e o:Expr} {es:Et Expr} {kws:Et Keyword} {te ta:TE} {t tk:TA} {nm:Er Str}
structure KBinds (K:C4) (fd:FuncData) (ps ks:Et Str) (g:Et Value->Et Value->Et Value) (gV:Et V->Et V->Et V):Prop where
 to:∀ (s:DY) (us ws:Et Dp),K.In s.heap->(g us ws).length=ps.length->BindsTo s fd %[us|ks.zip ws] (ps.zip (g us ws))
 rel:∀ {vs:Et V} {us:Et Dp} {zs:Et V} {ws:Et Dp},Vals vs us->Vals zs ws->Vals (gV vs zs) (g us ws)
variable {g:Et Dp->Et Dp->Et Dp} {gV:Et V->Et V->Et V}
end
structure FnScope (N P:Et Str) (sc:Scope):Prop where
 kind:sc.kind=.function
 co:sc.isCoroutine=false
 gen:sc.isGenerator=false
 nd:N.Nodup
 pre:N.take P.length=P
 par:∀x∈P,sc.names.lookup x=some .local\/sc.names.lookup x=some .cell
 nofree:∀y∈sc.names,y.2≠.free
theorem fN {kindOf:Str->Er NameKind} {x:Str}:∀ {binds:Et (Str×Dp)} {m:Str->Er Dp},(∀v,(x,v)∉binds)->bindL kindOf binds m x=m x
 | [],_,_=>rfl
 | (n,v) :: r,m,h=>by
  unfold bindL;rw[fN λ w hw=>h w (B1 _ hw)]
  split
  ·have:x≠n:=by rintro rfl;exact h v B5
   simp[this]
  ·rfl
theorem fO {kindOf:Str->Er NameKind} {x:Str}:∀ {binds:Et (Str×Dp)} {m:Str->Er Dp},(∀v,(x,v)∉binds)->bindC kindOf binds m x=m x
 | [],_,_=>rfl
 | (n,v) :: r,m,h=>by
  unfold bindC;rw[fO λ w hw=>h w (B1 _ hw)]
  split
  ·rfl
  ·have:x≠n:=by rintro rfl;exact h v B5
   simp[this]
theorem fP {kindOf:Str->Er NameKind} {x:Str} {v:Dp}:∀ {P:Et Str} {vs:Et Dp} {i:Nat} {m:Str->Er Dp},P.Nodup->P[i]?=some x->vs[i]?=some v->kindOf x=some .local ->
  bindL kindOf (P.zip vs) m x=some v
 | [],_,_,_,_,h,_,_=>by simp at h
 | _ :: _,[],_,_,_,_,h,_=>by simp at h
 | p :: P,w :: vs,0,m,nd,h1,h2,hk=>by simp at h1 h2;subst h1;subst h2;show bindL kindOf ((p,w) :: P.zip vs) m p=_;unfold bindL;rw[fN λ v hv=>(List.nodup_cons.mp nd).1 (List.of_mem_zip hv).1,Ez hk];simp
 | p :: P,w :: vs,i+1,m,nd,h1,h2,hk=>by show bindL kindOf ((p,w) :: P.zip vs) m x=_;unfold bindL;exact fP (i:=i) (List.nodup_cons.mp nd).2 (by simpa using h1) (by simpa using h2) hk
theorem fQ {kindOf:Str->Er NameKind} {x:Str} {v:Dp}:∀ {P:Et Str} {vs:Et Dp} {i:Nat} {m:Str->Er Dp},P.Nodup->P[i]?=some x->vs[i]?=some v->kindOf x≠some .local ->
  bindC kindOf (P.zip vs) m x=some v
 | [],_,_,_,_,h,_,_=>by simp at h
 | _ :: _,[],_,_,_,_,h,_=>by simp at h
 | p :: P,w :: vs,0,m,nd,h1,h2,hk=>by simp at h1 h2;subst h1;subst h2;show bindC kindOf ((p,w) :: P.zip vs) m p=_;unfold bindC;rw[fO λ v hv=>(List.nodup_cons.mp nd).1 (List.of_mem_zip hv).1,E1 hk];simp
 | p :: P,w :: vs,i+1,m,nd,h1,h2,hk=>by show bindC kindOf ((p,w) :: P.zip vs) m x=_;unfold bindC;exact fQ (i:=i) (List.nodup_cons.mp nd).2 (by simpa using h1) (by simpa using h2) hk
def cn (N:Et Str) (vs:Et V):St:=vs.map some ++ List.replicate (N.length - vs.length) none
def aG (CX:CXT) (P:Dl) (w:Do) (K:C4) (mg:Str->Er Dp) (base:Heap) (N:Et Str) (qual:Str) (scope:Scope) (f:Eo) (cd:Dp) (A:Around) (outer:Et Env) (s:DY) (H:Hp) (E:XK):Cx where
 prog:=P
 w:=w
 K:=K
 mg:=mg
 base:=base
 A:=A.deeper (envOfC qual scope s.heap.objs.size f cd)
 N:=N
 s₀:=s
 H₀:=H
 env:=envOfC qual scope s.heap.objs.size f cd
 outer:=outer
 stack:=envOfC qual scope s.heap.objs.size f cd :: outer
 ex:=[]
 calm:=true
 fn:=λ _=>true
 pn:=[]
 xe:=λ e s'=>wpAny (model P w) (A.deeper (envOfC qual scope s.heap.objs.size f cd)) (leaving (envOfC qual scope s.heap.objs.size f cd) e) (λ _ s''=>CX outer H s E e s'') (λ e' s''=>CX outer H s E e' s'') s'
theorem gX {sc:Scope} {n:Nat} {x:Str} (h:sc.names.lookup x=some .cell):∃c,(cellsFrom n sc.names []).lookup x=some c:=by have q:=PySem.W.cellsFrom_some sc.names n [] (.inl h);exact Option.isSome_iff_exists.mp q
theorem fR {CX:CXT} {P:Dl} {w:Do} {K:C4} {mg:Str->Er Dp} {base:Heap} {N ps:Et Str} {qual:Str} {scope:Scope} {f:Eo} {cd:Dp} {A:Around} {outer:Et Env} {s s1:DY} {H:Hp} {E:XK} {us:Et Dp} {vs:Et V}
  (S:FnScope N ps scope) (hd:A.handled=none) (e0:Env0 P w K mg base A outer s H) (hl:vs.length=ps.length) (r:Vals vs us)
  (x:InCallC s s.heap.objs.size (bindL (envOfC qual scope s.heap.objs.size f cd).kindOf (ps.zip us) λ _=>none) (cellsFrom (s.heap.objs.size+1) scope.names []) (bindC (envOfC qual scope s.heap.objs.size f cd).kindOf (ps.zip us) λ _=>none) s1) :
  Inv (aG CX P w K mg base N qual scope f cd A outer s H E) [] (cn N vs) H s1:=by
 have hpl:ps.length<=N.length:=by have:=FI List.length S.pre;rw[EF]at this;omega
 obtain⟨h1,tk,rfl,hk⟩:=x.done;have noA:∀b:Eo,b∉(aG CX P w K mg base N qual scope f cd A outer s H E).ex:=λ b z=>absurd (show b∈([]:Et Eo)from z) (by simp);refine⟨%[e0.mod,S.kind,U,U,B0 _,λ y z c h1 h2=>?_,λ y hy=>?_,λ y c _ h=>?_,λ _=>hd,Around.frames_deeper e0.frames,.inr %[U|U],λ b z=>absurd z (noA b),e0.bs,e0.bsz,λ b _ _=>noA b,λ b z=>absurd z (noA b),e0.funs|e0.frf],
  rfl,e0.bare,Un.kept hk,%[_,x.toInCall.ns|λ i y v h1 h2 h3=>?_],λ y c h=>%[_|x.cell y c h],e0.hok.fresh (B0 _),λ y c h=>?_,λ p hp=>absurd (show p∈([]:Et (Eo×Obj))from hp) (by simp),e0.hok.kept hk,?_⟩
 ·exact name_of_addr x.apart (FS h1) (FS h2)
 ·have hy:scope.names.lookup y=some .cell\/scope.names.lookup y=some .free:=hy;rcases hy with hy | hy
  ·exact gX hy
  ·exact absurd rfl (S.nofree _ (FS hy))
 ·exact C7 (x.above y c (FS h))
 ·have hi:i < vs.length:=by
   unfold cn at h2
   by_cases hi:i < vs.length
   ·exact hi
   ·rw[List.getElem?_append_right (by simpa using hi)]at h2;rw[List.getElem?_replicate]at h2
    split at h2 <;> cases h2
  have ha:vs[i]?=some v:=by
   unfold cn at h2;rw[List.getElem?_append_left (by simpa using hi),Dz]at h2;cases e:vs[i]? with
   | none=>rw[e]at h2;cases h2
   | some a=>rw[e]at h2;cases h2;rfl
  obtain⟨u,hu,rv⟩:=r.get ha;have hp:ps[i]?=some y:=by rw[<- S.pre,List.getElem?_take_of_lt ⋯];exact h1
  have ndP:ps.Nodup:=by rw[<- S.pre];exact S.nd.sublist (List.take_sublist _ _)
  refine%[u,rv|?_];rcases S.par y (B2 hp)with k | k
  ·exact .inl %[k|fP ndP hp hu k]
  ·obtain⟨c,e⟩:=gX (n:=s.heap.objs.size+1) k;refine .inr %[.inl k,c,e|?_];have q:=x.cell y c e;rw[fQ ndP hp hu (by show scope.names.lookup y≠_;rw[k];decide)]at q;exact q
 ·exact e0.hok.fresh (C7 (x.above y c (FS h)))
 ·unfold cn;show _=N.length;rw[Dw,Dv,Eh];omega
theorem mJ {CX:CXT} {P:Dl} {w:Do} {K:C4} {mg:Str->Er Dp} {base:Heap} {k:Nat} {f:Eo} {name qual:Str} {params:Arguments} {body:Et Stmt} {scope:Scope} {dV kV doc pm cdv ct oc:Dp} {an od:Er Eo}
  {osl:Es (Er Dp)} {N ps:Et Str} {sp:Sp} (lk:K.lookup f=some %[oc,od,.func (DC name qual params body scope dV kV doc pm an cdv ct)|osl]) (hcd:PySem.W.codeIn K cdv qual=true) (S:FnScope N ps scope)
  (len:∀vs H Q E,sp vs H Q E->vs.length=ps.length)
  (hbody:∀ (A:Around) (outer:Et Env) (s:DY) (H:Hp) (vs:Et V) (Q:VK) (E:XK),Room k (A.deeper (envOfC qual scope s.heap.objs.size f cdv))->sp vs H Q E ->
   ∃t,PSs (aG CX P w K mg base N qual scope f cdv A outer s H E) body t/\t { nx:=λ _ H'=>Q .non H',rt:=Q } (cn N vs) H) :
  FnOk P w K mg base CX (k+1) f (DC name qual params body scope dV kV doc pm an cdv ct) ps sp:=by
 refine%[len|λ A outer s H args us vs Q E hr e0 hb r hsp=>?_];have hl:=len _ _ _ _ hsp;have KX:K.In s.heap:=e0.mod.kin.keeps λ b o e=>(e0.bs b o e).1;have lim:s.heap.NoLimit:=e0.mod.nolimit.keeps λ b o e=>(e0.bs b o e).1;have hkind:∀y∈ps.zip us,scope.names.lookup y.1=some .local\/(scope.names.lookup y.1=some .cell/\((cellsFrom (s.heap.objs.size+1) scope.names []).lookup y.1).isSome=true):=λ⟨n,v⟩ hy=>by
  rcases S.par n (List.of_mem_zip hy).1 with q | q
  ·exact .inl q
  ·exact .inr %[q|PySem.W.cellsFrom_some _ _ _ (.inl q)]
 refine codeAny_call_function hr.depth (KX _ _ lk) rfl S.co S.gen rfl (PySem.W.codeRec_of KX hcd) (hb _ _ _ _ ?_);refine wpAny_newFunctionEnv_cells S.kind hkind λ env he s1 x=>?_;subst he;refine%[lim.keeps x.toInCall.keep|codeAny_func ?_];obtain⟨t,ht,hq⟩:=hbody A outer s H vs Q E (hr.deeper _) hsp;have I:Inv (aG CX P w K mg base N qual scope f cdv A outer s H E) [] (cn N vs) H s1:=fR S hr.hd e0 hl r x;refine E4 (ht [] s1 (cn N vs) H _ I hq) (λ fl s' hs=>?_) λ e s' hs=>hs;have fin:∀ {σ':St} {H':Hp} {v:V} {u:Dp},Inv (aG CX P w K mg base N qual scope f cdv A outer s H E) [] σ' H' s'->RelV v u->Q v H'->CE outer P w H s Q u s' :=
  λ {σ' H' v u} J rv q=>%[v,H',J.os,J.bare,J.base,J.hok,rv|q]
 cases fl with
 | ret u=>
  obtain⟨v,σ',H',J,rv,q⟩:=hs;exact fin J rv q
 | next=>
  obtain⟨σ',H',J,q⟩:=hs;exact fin (v:=V.non) (u:=Value.none) J rfl q
 | brk=>
  obtain⟨_,_,_,q⟩:=hs;exact DF q
 | cont=>
  obtain⟨_,_,_,q⟩:=hs;exact DF q
section
variable {X:Cx} {x:Str} {p pos:Pos} {e:Expr} {es:Et Expr} {t:TA} {id T:String} {r:Et V->Hp->VK->Prop}
def tCB (r:Et V->Hp->VK->Prop) (t:TA):TE:=λ σ H Q=>t σ H λ vs H1=>r vs H1 Q
theorem az (hc:cf X (.builtin id) r) (hg:Gl X x) (hm:X.mg x=none) (hv:bootBuiltins x=some (.builtin id)) (ha:PA X (e :: es) t) (hn:x ≠ "__name__" := by decide) (hdb:(x == ("__debug__" : Str))=false:=by decide)
  (he:starEach (e :: es) X.env=(false,eval e X.env) :: starEach es X.env:=by rfl) (hpl:(backTo pos (starEach es X.env)).any (·.1)=false:=by rfl):PE X (.Call (.Name x p) (e :: es) [] pos) (tCB r t):=by
 intro Ev s σ H Q I h;refine FN (gg I hg hm hv ?_ hn hdb);exact PyProof.Rows.callWith_builtin1 (thn (ha pos Ev s σ H _ I h) λ us s1 %[vs,H1,I1,r1|q1]=>hc Ev s1 σ H1 vs us Q I1 r1 q1) he hpl
theorem bg (hc:cf X (.type T) r) (hg:Gl X x) (hm:X.mg x=none) (hv:bootBuiltins x=some (.type T)) (ha:PA X (e :: es) t) (hn:x ≠ "__name__" := by decide) (hdb:(x == ("__debug__" : Str))=false:=by decide)
  (he:starEach (e :: es) X.env=(false,eval e X.env) :: starEach es X.env:=by rfl) (hpl:(backTo pos (starEach es X.env)).any (·.1)=false:=by rfl):PE X (.Call (.Name x p) (e :: es) [] pos) (tCB r t):=by
 intro Ev s σ H Q I h;refine FN (gg I hg hm hv ?_ hn hdb);exact PyProof.Rows.callWith_type1 (thn (ha pos Ev s σ H _ I h) λ us s1 %[vs,H1,I1,r1|q1]=>hc Ev s1 σ H1 vs us Q I1 r1 q1) he hpl
end
end L2
namespace HT
open PySem PyProof.Rows
section
variable {prog:Dl} {w:Do} {A:Around} {E:Dp->DY->Prop} {s:DY}
def sIx (n d:Nat):Er Int->Nat
 | none=>d
 | some v=>if v < 0 then(v+(n:Int)).toNat else min v.toNat n
theorem sIx_none (n d:Nat):sIx n d none=d:=rfl
theorem sIx_nat (n d k:Nat):sIx n d (some (k:Int))=min k n:=by show(if (k:Int) < 0 then((k:Int)+(n:Int)).toNat else min (k:Int).toNat n)=min k n;rw[E1 ⋯,Int.toNat_natCast]
end
end HT
namespace L2
open PySem PySem.Spec PyProof.Rows
abbrev TO:=St->Hp->(Er Int->Hp->Prop)->Prop
def PO (X:Cx) (e:Er Expr) (t:TO):Prop :=
 ∀ (Ev:Et (Eo×Obj)) (s:DY) (σ:St) (H:Hp) (Q:Er Int->Hp->Prop),Inv X Ev σ H s->t σ H Q ->
  wpAny (model X.prog X.w) X.A (evalPart e X.env) (λ u s'=>∃o H',Inv X Ev σ H' s'/\IsPart u o/\Q o H') X.xe s
def oS:TO:=λ _ H Q=>Q none H
def xo (t:TE):TO:=λ σ H Q=>t σ H λ x H1=>∃i,x=.int i/\Q (some i) H1
section
variable {X:Cx} {e:Expr} {te:TE} {lo hi:Er Expr} {tl th:TO} {pos p2:Pos}
theorem bi:PO X none oS:=by intro Ev s σ H Q I h;rw[evalPart_none];exact A1 %[none,H,I,.none|h]
theorem aW (h:PE X e te):PO X (some e) (xo te):=by intro Ev s σ H Q I hw;rw[evalPart_some];refine thn (h Ev s σ H _ I hw) λ u s1 %[x,H1,I1,r1|q1]=>?_;obtain⟨i,rfl,q⟩:=q1;obtain⟨t,rfl⟩:=r1;exact%[some i,H1,I1,.int i t|q]
def SlR (X:Cx) (r:V->Er Int->Er Int->Hp->VK->Prop):Prop :=
 ∀ (Ev:Et (Eo×Obj)) (s:DY) (σ:St) (H:Hp) (x:V) (v vl vu:Dp) (lo hi:Er Int) (sl:Eo) (Q:VK),Inv X Ev σ H s->RelV x v->s.heap.IsSliceOf sl vl vu .none->IsPart vl lo->IsPart vu hi->r x lo hi H Q ->
  ∃T id,typeLookup (.type T) "__getitem__" = pure (some (.builtin id))/\s.TypeIs v T/\wpAny (model X.prog X.w) X.A (getItem v (.ref sl)) (EP X Ev σ Q) X.xe s
def tSl (r:V->Er Int->Er Int->Hp->VK->Prop) (te:TE) (tl th:TO):TE:=λ σ H Q=>te σ H λ x H1=>tl σ H1 λ l H2=>th σ H2 λ u H3=>r x l u H3 Q
theorem aO {r:V->Er Int->Er Int->Hp->VK->Prop} (hr:SlR X r) (he:PE X e te) (hl:PO X lo tl) (hu:PO X hi th):PE X (.Subscript e (.Slice lo hi none p2) pos) (tSl r te tl th):=by intro Ev s σ H Q I h;refine Subscript_ (thn (he Ev s σ H _ I h) λ v s1 %[x,H1,I1,r1|q1]=>?_);refine wpAny_Slice (thn (hl Ev s1 σ H1 _ I1 q1) λ vl s2 %[l,H2,I2,pl|q2]=>thn (hu Ev s2 σ H2 _ I2 q2) λ vu s3 %[u,H3,I3,pu|q3]=>?_);rw[evalPart_none];refine A1 ?_;have I4:Inv X Ev σ H3 { s3 with heap:=s3.heap.push { cls:=.type "slice",data:=.fields #[vl,vu,.none] } }:=I3.kept (t':=s3.toks) λ b ob q=>A4 _ q;obtain⟨T,id,hT,ht,hg⟩:=hr Ev { s3 with heap:=s3.heap.push { cls:=.type "slice",data:=.fields #[vl,vu,.none] } } σ H3 x v vl vu l u s3.heap.objs.size Q I4 r1 (Heap.IsSliceOf.new ..) pl pu q3;show wpAny (model X.prog X.w) X.A (subscriptTail e (.Slice lo hi none p2) v (.ref s3.heap.objs.size)) (EP X Ev σ Q) X.xe { s3 with heap:=s3.heap.push { cls:=.type "slice",data:=.fields #[vl,vu,.none] } };exact tail_any (ops:=[.ref s3.heap.objs.size,v]) ht hT hg (by with_unfolding_all rfl)
def cy (xs:Et V) (lo hi:Er Int):Et V:=(xs.drop (HT.sIx xs.length 0 lo)).take (HT.sIx xs.length xs.length hi - HT.sIx xs.length 0 lo)
theorem gY (xs:Et V) (lo hi:Er Int):(cy xs lo hi).length<=xs.length:=by unfold cy;rw[EF,EN];omega
inductive rz_call_tupleT (K:C4) (xs:Et V) (H:Hp) (Q:VK):Prop
 | mk (a:_) (ys:_) (e_0:xs=[.ref a]) (e_1:SqT K H a ys) (e_2:Q (.ref a) H):rz_call_tupleT K xs H Q
end
def ixN (n:Nat) (i:Int):Er Nat:=if 0<=i then(if i < n then some i.toNat else none)else if -(n:Int)<=i then some (i+n).toNat else none
def atI {α:Type} (xs:Et α) (i:Int):Er α:=(ixN xs.length i).bind λ j=>xs[j]?
theorem gp {n:Nat} {i:Int} {j:Nat} (h:ixN n i=some j):seqIndex? i n=some j/\j < n/\-(n:Int)<=i/\i < n:=by
 unfold ixN at h
 by_cases h0:0<=i
 ·rw[Ez h0]at h
  by_cases h1:i < n
  ·rw[Ez h1]at h;have e:i.toNat=j:=B6 h;exact%[by rw[seqIndex_of h0 h1,e],⋯,⋯|h1]
  ·rw[E1 h1]at h;cases h
 ·rw[E1 h0]at h
  by_cases h1:-(n:Int)<=i
  ·rw[Ez h1]at h;have e:(i+n).toNat=j:=B6 h;exact%[by rw[seqIndex_neg ⋯ h1,e],⋯,h1|⋯]
  ·rw[E1 h1]at h;cases h
theorem kb {α:Type} {xs:Et α} {i:Int} {v:α} (h:atI xs i=some v):∃j,seqIndex? i xs.length=some j/\xs[j]?=some v/\j < xs.length/\-(xs.length:Int)<=i/\i < xs.length:=by
 unfold atI at h;cases e:ixN xs.length i with
 | none=>rw[e]at h;cases h
 | some j=>
  rw[e]at h;obtain⟨h1,h2,h3,h4⟩:=gp e;exact%[j,h1,h,h2,h3|h4]
theorem eM {α:Type} {xs:Et α} {j:Nat} {v:α} (h:xs[j]?=some v):atI xs (j:Int)=some v:=by
 have hj:j < xs.length:=(A3.mp h).1;have e:ixN xs.length (j:Int)=some j:=by unfold ixN;rw[Ez ⋯,Ez ⋯];simp
 unfold atI;rw[e];exact h
theorem mK {α:Type} (xs:Et α) (v:α):atI (xs ++ [v]) (-1)=some v:=by
 have hl:(xs ++ [v]).length=xs.length+1:=by simp
 have e:ixN (xs ++ [v]).length (-1)=some xs.length:=by unfold ixN;rw[hl,E1 ∅,Ez ⋯];congr 1;omega
 unfold atI;rw[e];show(xs ++ [v])[xs.length]?=some v;simp
def oU (b:Expr):Prop:=∀o i,subscripted b false o i=operate [o,i] (getItem o i)
def IxR (X:Cx) (r:R2):Prop :=
 ∀ (value slice:Expr) (Ev:Et (Eo×Obj)) (s:DY) (σ:St) (H:Hp) (x y:V) (v u:Dp) (Q:VK),Inv X Ev σ H s->RelV x v->RelV y u->r x y H Q ->
  subscripted slice false v u=operate [v,u] (getItem v u)->wpAny (model X.prog X.w) X.A (subscriptTail value slice v u) (EP X Ev σ Q) X.xe s
def MtR (X:Cx) (id:String) (r:V->Et V->Hp->VK->Prop):Prop :=
 ∀ (Ev:Et (Eo×Obj)) (s:DY) (σ:St) (H:Hp) (x:V) (xs:Et V) (v:Dp) (us:Et Dp) (Q:VK),Inv X Ev σ H s->RelV x v->Vals xs us->r x xs H Q ->
  wpAny (model X.prog X.w) X.A (call (.builtin id) (v :: us)) (EP X Ev σ Q) X.xe s
section
variable {X:Cx} {a b:Expr} {ta tb:TE} {pos:Pos}
theorem aZ {r:R2} (hr:IxR X r) (ha:PE X a ta) (hb:PE X b tb) (hs:oU b):PE X (.Subscript a b pos) (tOp r ta tb):=by intro Ev s σ H Q I h;exact Subscript_ (rA ha hb I h λ v u s2 x y H2 I2 rx ry q=>hr a b Ev s2 σ H2 x y v u Q I2 rx ry q (hs _ _))
inductive rIxL (K:C4) (x:V) (y:V) (H:Hp) (Q:VK):Prop
 | mk (p:Eo) (xs:Et V) (i:Int) (v:V) (e_0:x=.ref p) (e_1:y=.int i) (e_2:SqL K H p xs) (e_3:atI xs i=some v) (e_4:Q v H):rIxL K x y H Q
inductive rIxT (K:C4) (x:V) (y:V) (H:Hp) (Q:VK):Prop
 | mk (p:Eo) (xs:Et V) (i:Int) (v:V) (e_0:x=.ref p) (e_1:y=.int i) (e_2:SqT K H p xs) (e_3:atI xs i=some v) (e_4:Q v H):rIxT K x y H Q
def Bd:R2:=λ x y H Q=>∃z i c,x=.str z/\y=.int i/\z.length<=sizeLine/\atI z.cps.toList i=some c/\Q (.str %[|#[c]]) H
theorem aE:IxR X (rIxL X.K):=by
 intro value slice Ev s σ H x y v u Q I rx ry h hs;obtain⟨p,xs,i,z,rfl,rfl,hq,he,q⟩:=h;cases rx;obtain⟨t,rfl⟩:=ry;obtain⟨its,r,pl,hz⟩:=I.list hq;obtain⟨j,h1,h2,h3,h4,h5⟩:=kb he;obtain⟨w,ew,rw'⟩:=r.get h2;have hl:=r.length;have hn:=fh;have fin:EP X Ev σ Q w s:=%[z,H,I,rw'|q]
 by_cases h0:0<=i
 ·have hj:i.toNat=j:=by rw[seqIndex_of h0 h5]at h1;exact B6 h1
  exact item_listR pl.isList h0 ⋯ (by rw[hj];simpa using ew) fin hs
 ·have hj:(i+(its.toArray.size:Int)).toNat=j:=by rw[seqIndex_neg ⋯ h4]at h1;rw[Dy,<- hl];exact B6 h1
  exact subscriptTail_builtinR (x:=w) pl.isList.typeIs slot_list_getitem.lookup
   (wpAny_getItem_list_neg (Q:=λ r s'=>r=w/\EP X Ev σ Q r s') pl.isList ⋯ (by rw[Dy] <;> omega) ⋯ (by rw[hj];simpa using ew) %[rfl|fin]) hs
theorem mL:IxR X Bd:=by
 intro value slice Ev s σ H x y v u Q I rx ry h hs;obtain⟨z,i,c,rfl,rfl,hz,he,q⟩:=h;obtain⟨t,rfl⟩:=rx;obtain⟨t',rfl⟩:=ry;obtain⟨j,h1,h2,h3,h4,h5⟩:=kb he;have hl:z.cps.toList.length=z.length:=by simp[Str.length]
 rw[hl]at h1 h4 h5;have hn:=fh;exact tail_any (typeIs_str s z t) slot_str_getitem.lookup (getItem_str (c:=c) (by
  have e1:decide (i < -(2 ^ 63:Int))=false:=A8 ⋯;have e2:decide (i≥2 ^ 63)=false:=A8 ⋯;rw[e1,e2,Bool.or_false]) (by rw[h1];simpa using h2) %[.str %[|#[c]],H,I.tok _,%[_|rfl]|q]) hs
theorem iV (its:Et Dp) (n j:Nat) (u:Dp):Obj.mapSeq (·.setIfInBounds j u) { cls:=.type "list",data:=.seq its.toArray n }={ cls:=.type "list",data:=.seq (its.set j u).toArray n }:=by simp[Obj.mapSeq]
theorem Inv.lst {Ev:Et (Eo×Obj)} {σ:St} {H:Hp} {s:DY} {p:Eo} {xs:Et V} (I:Inv X Ev σ H s) (h:H p=↥xs) :
  ∃ (its:Et Dp) (n:Nat),Vals xs its/\s.heap.get? p=some { cls:=.type "list",data:=.seq its.toArray n }/\xs.length<=sizeLine:=by
 obtain⟨z,its,n,r,e⟩:=I.hok p _ h;exact%[its,n,r,e|z]
theorem Inv.lstUpd {Ev:Et (Eo×Obj)} {σ:St} {H:Hp} {s:DY} {p:Eo} {xs ys:Et V} {its its':Et Dp} {n n':Nat} {f:Obj->Obj} (I:Inv X Ev σ H s) (h:H p=↥xs)
  (ho:s.heap.get? p=some { cls:=.type "list",data:=.seq its.toArray n }) (hf:f { cls:=.type "list",data:=.seq its.toArray n }={ cls:=.type "list",data:=.seq its'.toArray n' }) (r:Vals ys its') (hz:ys.length<=sizeLine) (t:Nat) :
  Inv X Ev σ (upd H p (.lst ys)) { s with heap:=s.heap.update p f,toks:=t }:=by
 have e:(s.heap.update p f).get? p=some { cls:=.type "list",data:=.seq its'.toArray n' }:=by rw[FA f ho (by rw[hf] <;> rfl),hf]
 refine I.write (x:=p) (e:=p) (by rw[h];trivial) (.inl rfl) (λ b u hb q=>(E6 _ _ (Ne.symm hb)).trans q) %[_|e] ?_;exact%[hz,its',n',r|e]
inductive rSetL (o:V) (i:V) (v:V) (H:Hp) (Q:Hp->Prop):Prop
 | mk (p:Eo) (xs:Et V) (k:Int) (j:Nat) (e_0:o=.ref p) (e_1:i=.int k) (e_2:H p=↥xs) (e_3:ixN xs.length k=some j) (e_4:Q (upd H p (.lst (xs.set j v)))):rSetL o i v H Q
theorem cZ:xb X rSetL:=by
 intro Ev s σ H o i v ov iv u Q I ro ri rv h;obtain⟨p,xs,k,j,rfl,rfl,hp,hj,q⟩:=h;cases ro;obtain⟨t,rfl⟩:=ri;obtain⟨its,n,r,ho,hz⟩:=I.lst hp;obtain⟨h1,h2,h3,h4⟩:=gp hj;have hl:=r.length;have hn:=fh;have I':Inv X Ev σ (upd H p (.lst (xs.set j v))) { s with heap:=s.heap.update p (Obj.mapSeq (·.setIfInBounds j u)) } :=
  I.lstUpd hp ho (iV its n j u) (r.set rv j) (by rw[EV];exact hz) s.toks
 by_cases h0:0<=k
 ·have hk:k.toNat=j:=by rw[seqIndex_of h0 h4]at h1;exact B6 h1
  exact PySem.W.ki_setAt ho h0 ⋯ (by rw[Dy,<- hl];exact h4) (by rw[hk];exact%[_,I'|q])
 ·have hk:(k+(its.toArray.size:Int)).toNat=j:=by rw[seqIndex_neg ⋯ h3]at h1;rw[Dy,<- hl];exact B6 h1
  exact PySem.W.ki_setBack ho ⋯ (by rw[Dy,<- hl];exact h3) ⋯ (by rw[hk];exact%[_,I'|q])
theorem gq (lo hi:Er Int) (n:Nat):(sliceBounds lo hi none n).1=((HT.sIx n 0 lo:Nat):Int)/\(sliceBounds lo hi none n).2.1=((HT.sIx n n hi:Nat):Int)/\(sliceBounds lo hi none n).2.2=1:=by
 refine%[?_,?_|U]
 ·cases lo with
  | none=>simp[sliceBounds,HT.sIx]
  | some i=>
   simp only[sliceBounds,HT.sIx,Option.getD_none,show(1:Int) > 0 by decide,if_true]
   by_cases h:i < 0
   ·simp only[h,if_true] <;> omega
   ·simp only[h,if_false] <;> omega
 ·cases hi with
  | none=>simp[sliceBounds,HT.sIx]
  | some i=>
   simp only[sliceBounds,HT.sIx,Option.getD_none,show(1:Int) > 0 by decide,if_true]
   by_cases h:i < 0
   ·simp only[h,if_true] <;> omega
   ·simp only[h,if_false] <;> omega
theorem fJ (its:Et Dp) (lo hi:Er Int):slicePick its.toArray lo hi none=((its.drop (HT.sIx its.length 0 lo)).take (HT.sIx its.length its.length hi - HT.sIx its.length 0 lo)).toArray:=by obtain⟨h1,h2,h3⟩:=gq lo hi its.toArray.size;unfold slicePick;rw[h1,h2,h3];simp only[sliceRange_one,pick_run,Dy] <;> rfl
inductive rSlL (K:C4) (x:V) (lo:Er Int) (hi:Er Int) (H:Hp) (Q:VK):Prop
 | mk (a:Eo) (xs:Et V) (e_0:x=.ref a) (e_1:SqL K H a xs) (e_2:∀p,H p=none->Q (.ref p) (upd H p (.lst (cy xs lo hi)))):rSlL K x lo hi H Q
theorem bK:SlR X (rSlL X.K):=by intro Ev s σ H x v vl vu lo hi sl Q I rx hs pl pu h;obtain⟨a,xs,rfl,hx,q⟩:=h;cases rx;obtain⟨its,r,ht,hz⟩:=I.list hx;have Ex:=r.length;refine%["list",_,slot_list_getitem.lookup,ht.isList.typeIs|?_];refine wpAny_getItem_list_slice ht.isList hs pl pu .none (by simp) ?_ (by rw[Dy] <;> omega);rw[fJ,<- Ex];refine%[.ref s.heap.objs.size,_,I.laid (t':=s.toks) (o:=.lst (cy xs lo hi)) (λ b ob q=>A4 _ q) (B0 _) ?_,U|q _ (I.hok.fresh (B0 _))];exact%[C5 (gY xs lo hi) hz,_,0,(r.drop (HT.sIx xs.length 0 lo)).take (HT.sIx xs.length xs.length hi - HT.sIx xs.length 0 lo)|A5 _ rfl]
def dF:V->Bool
 | .non=>true
 | .bl _=>true
 | .int _=>true
 | .str _=>true
 | _=>false
def eqV:V->V->Bool
 | .non,.non=>true
 | .bl a,.bl b=>a == b
 | .bl a,.int b=>(if a then 1 else 0) == b
 | .int a,.bl b=>a == (if b then 1 else 0)
 | .int a,.int b=>a == b
 | .str a,.str b=>a == b
 | _,_=>false
theorem rC {A:Around} {s:DY} {y x:V} {u v:Dp} (ry:RelV y u) (rx:RelV x v) (fy:dF y=true) (fx:dF x=true):SeqAt.EqAt A s u v (eqV y x):=by
 cases y with
 | non=>
  cases ry;cases x with
  | non=>cases rx;exact SeqAt.EqAt.same _
  | bl b=>cases rx;exact SeqAt.EqAt.none_bool b
  | int b=>obtain⟨t,rfl⟩:=rx;exact SeqAt.EqAt.none_int b t
  | str b=>obtain⟨t,rfl⟩:=rx;exact SeqAt.EqAt.none_str b t
  | _=>exact absurd (show false=true from fx) A9
 | bl a=>
  cases ry;cases x with
  | non=>cases rx;exact SeqAt.EqAt.bool_none a
  | bl b=>cases rx;exact SeqAt.EqAt.bool_bool a b
  | int b=>obtain⟨t,rfl⟩:=rx;exact SeqAt.EqAt.bool_int a b t
  | str b=>obtain⟨t,rfl⟩:=rx;exact SeqAt.EqAt.bool_str a b t
  | _=>exact absurd (show false=true from fx) A9
 | int a=>
  obtain⟨t',rfl⟩:=ry;cases x with
  | non=>cases rx;exact SeqAt.EqAt.int_none a t'
  | bl b=>cases rx;exact SeqAt.EqAt.int_bool a t' b
  | int b=>obtain⟨t,rfl⟩:=rx;exact SeqAt.EqAt.int_int a t' b t
  | str b=>obtain⟨t,rfl⟩:=rx;exact SeqAt.EqAt.int_str a t' b t
  | _=>exact absurd (show false=true from fx) A9
 | str a=>
  obtain⟨t',rfl⟩:=ry;cases x with
  | non=>cases rx;exact SeqAt.EqAt.str_none a t'
  | bl b=>cases rx;exact SeqAt.EqAt.str_bool a t' b
  | int b=>obtain⟨t,rfl⟩:=rx;exact SeqAt.EqAt.str_int a t' b t
  | str b=>obtain⟨t,rfl⟩:=rx;exact SeqAt.EqAt.str_str a t' b t
  | _=>exact absurd (show false=true from fx) A9
 | _=>exact absurd (show false=true from fy) A9
def eqU (x:V) (u:Dp):Bool:=match u with
 | .none=>eqV .non x
 | .bool b=>eqV (.bl b) x
 | .int i _=>eqV (.int i) x
 | .str z _=>eqV (.str z) x
 | _=>false
theorem mM {x y:V} {u:Dp} (r:RelV y u) (f:dF y=true):eqU x u=eqV y x:=by
 cases y with
 | non=>cases r;rfl
 | bl b=>cases r;rfl
 | int i=>obtain⟨t,rfl⟩:=r;rfl
 | str z=>obtain⟨t,rfl⟩:=r;rfl
 | _=>exact absurd (show false=true from f) A9
theorem dG {x:V}:∀ {xs:Et V} {us:Et Dp},Vals xs us->xs.all dF=true->us.any (eqU x)=xs.any λ y=>eqV y x
 | _,_,.nil,_=>rfl
 | y :: xs,u :: us,.cons r t,f=>by rw[List.all_cons,EL]at f;rw[List.any_cons,List.any_cons,mM r f.1,dG t f.2]
theorem de {A:Around} {s:DY} {x:V} {v:Dp} (rx:RelV x v) (fx:dF x=true):∀ {xs:Et V} {us:Et Dp},Vals xs us->xs.all dF=true->∀u∈us,SeqAt.EqAt A s u v (eqU x u)
 | _,_,.nil,_=>λ u hu=>by cases hu
 | y :: xs,u :: us,.cons r t,f=>λ u' hu=>by
  rw[List.all_cons,EL]at f;rcases Dx.mp hu with rfl | hu
  ·rw[mM r f.1];exact rC r rx f.1 fx
  ·exact de rx fx t f.2 u' hu
def inV (x:V) (xs:Et V):Bool:=xs.any λ y=>eqV y x
def rIn (K:C4) (neg:Bool):R2:=λ x y H Q=>∃p xs,y=.ref p/\(SqL K H p xs\/SqT K H p xs)/\dF x=true/\xs.all dF=true/\Q (.bl (if neg then !inV x xs else inV x xs)) H
theorem fT:OpR X (compareOp .In) (rIn X.K false):=by
 intro Ev s σ H x y v u Q I rx ry h;obtain⟨p,xs,rfl,hq,fx,fs,q⟩:=h;cases ry;rcases hq with hq | hq
 ·obtain⟨its,r,pl,hz⟩:=I.list hq;refine SeqAt.in_listAt (eqU x) pl.isList (λ w hw=>de rx fx r fs w (by simpa using hw)) %[.bl _,H,I,rfl|?_];rw[show its.toArray.any (eqU x)=its.any (eqU x)by simp,dG r fs];exact q
 ·obtain⟨its,r,pl,hz⟩:=I.tuple hq;refine SeqAt.in_tupleAt (eqU x) pl (λ w hw=>de rx fx r fs w (by simpa using hw)) %[.bl _,H,I,rfl|?_];rw[show its.toArray.any (eqU x)=its.any (eqU x)by simp,dG r fs];exact q
theorem gr:OpR X (compareOp .NotIn) (rIn X.K true):=by
 intro Ev s σ H x y v u Q I rx ry h;obtain⟨p,xs,rfl,hq,fx,fs,q⟩:=h;cases ry;rcases hq with hq | hq
 ·obtain⟨its,r,pl,hz⟩:=I.list hq;refine SeqAt.notIn_listAt (eqU x) pl.isList (λ w hw=>de rx fx r fs w (by simpa using hw)) %[.bl _,H,I,rfl|?_];rw[show its.toArray.any (eqU x)=its.any (eqU x)by simp,dG r fs];exact q
 ·obtain⟨its,r,pl,hz⟩:=I.tuple hq;refine SeqAt.notIn_tupleAt (eqU x) pl (λ w hw=>de rx fx r fs w (by simpa using hw)) %[.bl _,H,I,rfl|?_];rw[show its.toArray.any (eqU x)=its.any (eqU x)by simp,dG r fs];exact q
inductive rz_op_notIn_str (x:V) (y:V) (H:Hp) (Q:VK):Prop
 | mk (i:_) (j:_) (e_0:x=.str i) (e_1:y=.str j) (e_2:Q (.bl (!(!(Builtin.Str.occurrences j i 0 j.length 1).isEmpty))) H):rz_op_notIn_str x y H Q
inductive rz_call_len_seq (K:C4) (xs:Et V) (H:Hp) (Q:VK):Prop
 | mk (p:_) (ys:_) (e_0:xs=[.ref p]) (e_1:(SqL K H p ys\/SqT K H p ys)) (e_2:Q (.int ys.length) H):rz_call_len_seq K xs H Q
theorem aH:cf X (.builtin "len") (rz_call_len_seq X.K):=by
 intro Ev s σ H xs us Q I r h;obtain⟨p,ys,rfl,hq,q⟩:=h;obtain⟨u,rfl,rx⟩:=cT r;cases rx;have hn:=fh;rcases hq with hq | hq
 ·obtain⟨its,r',pl,hz⟩:=I.list hq;have Ex:=r'.length;exact Calls.call_len_list pl.isList (by simp only[Dy] <;> omega) %[.int ys.length,H,I.tok _,%[s.toks+1|by rw[Dy,Ex]]|q]
 ·obtain⟨its,r',pl,hz⟩:=I.tuple hq;have Ex:=r'.length;exact len_tuple pl (by simp only[Dy] <;> omega) %[.int ys.length,H,I.tok _,%[s.toks+1|by rw[Dy,Ex]]|q]
inductive rz_call_len_str (xs:Et V) (H:Hp) (Q:VK):Prop
 | mk (z:_) (e_0:xs=[.str z]) (e_1:z.length<=sizeLine) (e_2:Q (.int z.length) H):rz_call_len_str xs H Q
theorem bX:cf X (.builtin "len") (rz_call_len_str):=by intro Ev s σ H xs us Q I r h;obtain⟨z,rfl,hz,q⟩:=h;obtain⟨u,rfl,t,rfl⟩:=cT r;have hn:=fh;exact len_str ⋯ %[.int z.length,H,I.tok _,%[_|rfl]|q]
inductive rz_call_list_of (K:C4) (xs:Et V) (H:Hp) (Q:VK):Prop
 | mk (p:_) (ys:_) (e_0:xs=[.ref p]) (e_1:(SqL K H p ys\/SqT K H p ys)) (e_2:∀l,H l=none->Q (.ref l) (upd H l (.lst ys))):rz_call_list_of K xs H Q
theorem gt:cf X (.type "list") (rz_call_list_of X.K):=by
 intro Ev s σ H xs us Q I r h;obtain⟨p,ys,rfl,hq,q⟩:=h;obtain⟨u,rfl,rx⟩:=cT r;cases rx;have fin:∀ (its:Et Dp),Vals ys its->ys.length<=sizeLine->∀ (h':Heap) (c':Nat),(∀b o',s.heap.get? b=some o'->h'.get? b=some o') ->
   h'.get? s.heap.objs.size=some { cls:=.type "list",dict:=none,data:=.seq its.toArray c',slots:=#[] }->EP X Ev σ Q (.ref s.heap.objs.size) { s with heap:=h' }:=λ its r' hz h' c' kp e=>
  %[.ref s.heap.objs.size,_,I.laid (t':=s.toks) kp (B0 _) (show ObjOk X.prog X.w _ h' _ (.lst ys)from%[hz,its,c',r'|e]),rfl|q _ (I.hok.fresh (B0 _))]
 rcases hq with hq | hq
 ·obtain⟨its,r',pl,hz⟩:=I.list hq;have Ex:=r'.length;obtain⟨o,ho,hc,n,hd⟩:=pl.isList;exact call_list_seq p (.inl rfl) ho hc hd (λ h' c' kp e=>fin its r' hz h' c' kp e) (by simp only[Dy] <;> omega)
 ·obtain⟨its,r',pl,hz⟩:=I.tuple hq;have Ex:=r'.length;obtain⟨o,ho,hc,n,hd⟩:=pl;exact call_list_seq p (.inr rfl) ho hc hd (λ h' c' kp e=>fin its r' hz h' c' kp e) (by simp only[Dy] <;> omega)
inductive rz_call_tuple_of (K:C4) (xs:Et V) (H:Hp) (Q:VK):Prop
 | mk (p:_) (ys:_) (e_0:xs=[.ref p]) (e_1:((SqL K H p ys/\∀l,H l=none->Q (.ref l) (upd H l (.tup ys)))\/(SqT K H p ys/\Q (.ref p) H))):rz_call_tuple_of K xs H Q
theorem cz:cf X (.type "tuple") (rz_call_tuple_of X.K):=by
 intro Ev s σ H xs us Q I r h;obtain⟨p,ys,rfl,h⟩:=h;obtain⟨u,rfl,rx⟩:=cT r;cases rx;rcases h with⟨hq,q⟩ | ⟨hq,q⟩
 ·obtain⟨its,r',pl,hz⟩:=I.list hq;have Ex:=r'.length;refine call_tuple_list pl.isList (λ h' kp=>?_) (by simp only[Dy] <;> omega);have I1:Inv X Ev σ H { s with heap:=h' }:=I.kept (t':=s.toks) kp;have I2:Inv X Ev σ (upd H h'.objs.size (.tup ys)) { s with heap:=h'.push { cls:=.type "tuple",data:=.seq its.toArray } } :=
   I1.laid (t':=s.toks) (λ b o e=>A4 _ e) (B0 _) (show ObjOk X.prog X.w _ _ _ (.tup ys)from%[hz,its,r'|IsTup.new _ _])
  exact%[.ref h'.objs.size,_,I2,U|q _ (I1.hok.fresh (B0 _))]
 ·obtain⟨its,r',pl,hz⟩:=I.tuple hq;exact call_tuple_same pl %[.ref p,H,I,rfl|q]
def tyV (K:C4) (T:String) (x:V) (H:Hp):Prop:=match x with
 | .str _=>T = "str"
 | .int _=>T = "int"
 | .ref p=>(T = "list" /\ ∃xs,SqL K H p xs)\/(T = "tuple" /\ ∃o,K.lookup p=some o/\o.cls=.type "tuple" /\ o.dict=none) \/
   (T = "dict" /\ ((∃kvs,H p=some (.dK kvs))\/∃kvs,H p=some (.dT kvs)))\/(T = "set" /\ ∃S n,H p=some (.set S n))
 | _=>False
theorem iW {Ev:Et (Eo×Obj)} {σ:St} {H:Hp} {s:DY} {T:String} {x:V} {v:Dp} (I:Inv X Ev σ H s) (r:RelV x v) (ty:tyV X.K T x H) :
  s.TypeIs v T/\∀a,v=.ref a->∃ob,s.heap.get? a=some ob/\ob.dict=none:=by
 cases x with
 | str z=>
  obtain⟨t,rfl⟩:=r;cases(show T = "str" from ty);exact%[typeIs_str s z t|λ _ e=>nomatch e]
 | int i=>
  obtain⟨t,rfl⟩:=r;cases(show T = "int" from ty);exact%[typeIs_int s i t|λ _ e=>nomatch e]
 | ref p=>
  cases r;rcases ty with⟨rfl,xs,hq⟩ | ⟨rfl,o,hk,hc,hd⟩ | ⟨rfl,hk⟩ | ⟨rfl,S,n,hk⟩
  ·obtain⟨its,_,pl,_⟩:=I.list hq;refine%[pl.isList.typeIs|λ a e=>?_];cases e;obtain⟨o,n,e,c,hd,_⟩:=pl;exact%[o,e|hd]
  ·refine%[%[o,I.kIn p o hk|hc]|λ a e=>?_];cases e;exact%[o,I.kIn _ o hk|hd]
  ·have z:∃o,s.heap.get? p=some o/\o.ExactDict:=by
    rcases hk with⟨kvs,hk⟩ | ⟨kvs,hk⟩
    ·obtain⟨_,_,_,_,o,_,_,e,ex,_⟩:=I.hok p _ hk;exact%[o,e|ex]
    ·obtain⟨_,_,_,_,o,_,_,e,ex,_⟩:=I.hok p _ hk;exact%[o,e|ex]
   obtain⟨o,e,ex⟩:=z;refine%[%[o,e|ex.1]|λ a e2=>?_];cases e2;exact%[o,e|ex.2.1]
  ·obtain⟨o,_,_,_,e,ex,_⟩:=I.hok p _ hk;refine%[%[o,e|ex.1]|λ a e2=>?_];cases e2;exact%[o,e|ex.2.1]
 | _=>exact DF ty
def Be (K:C4) (T:String) (r:V->Et V->Hp->VK->Prop) (to:TE):TE:=λ σ H Q=>to σ H λ x H1=>tyV K T x H1/\r x [] H1 Q
def tBM (K:C4) (T:String) (r:V->Et V->Hp->VK->Prop) (to:TE) (t:TA):TE:=λ σ H Q=>to σ H λ x H1=>tyV K T x H1/\t σ H1 λ xs H2=>r x xs H2 Q
variable {o e:Expr} {es:Et Expr} {to:TE} {t:TA} {name:Str} {apos cpos:Pos} {T id:String} {r:V->Et V->Hp->VK->Prop}
theorem mO (pa:PlainAttrs T) (slot:Slot T name id) (hty:typeOf (.builtin id)=pure (.type "method_descriptor")) (hm:MtR X id r) (ho:PE X o to)
  (hbase:attributeBase o name X.env (eval o X.env)=eval o X.env:=by rfl) (hline:(apos.endLine == cpos.line)=true:=by rfl):PE X (.Call (.Attribute o name apos) [] [] cpos) (Be X.K T r to):=by
 intro Ev s σ H Q I h;refine wpAny_Call_method0_late hbase hline (thn (ho Ev s σ H _ I h) λ v s1 %[x,H1,I1,r1,ty|q1]=>?_);obtain⟨h1,h2⟩:=iW I1 r1 ty;exact%[T,id,pa,slot,hty,h1,h2|Calls.callWith_builtin rfl (PySem.evalArgs_none (hm Ev s1 σ H1 x [] v [] Q I1 r1 .nil q1))]
theorem bW (pa:PlainAttrs T) (slot:Slot T name id) (hty:typeOf (.builtin id)=pure (.type "method_descriptor")) (hm:MtR X id r) (ho:PE X o to) (ha:PA X (e :: es) t)
  (hbase:attributeBase o name X.env (eval o X.env)=eval o X.env:=by rfl)
  (hfew:((backTo cpos (starEach (e :: es) X.env)).all (λ x=>!x.1) && (backToKw cpos (keywordEach [] X.env)).all (λ x=>x.1.isSome)
   && decide ((e :: es).length+([]:Et Keyword).length+(if ([]:Et Keyword).isEmpty then 0 else 1) < 30))=true:=by rfl)
  (hline:(apos.endLine == cpos.line)=true:=by rfl) (hs:starEach (e :: es) X.env=(false,eval e X.env) :: starEach es X.env:=by rfl) (hplain:(backTo cpos (starEach es X.env)).any (·.1)=false:=by rfl) :
  PE X (.Call (.Attribute o name apos) (e :: es) [] cpos) (tBM X.K T r to t):=by
 intro Ev s σ H Q I h;refine wpAny_Call_method_late hbase hfew hline rfl (thn (ho Ev s σ H _ I h) λ v s1 %[x,H1,I1,r1,ty|q1]=>?_);obtain⟨h1,h2⟩:=iW I1 r1 ty;refine%[T,id,pa,slot,hty,h1,h2|?_];have hA:=ha cpos Ev s1 σ H1 _ I1 q1;rw[hs]at hA ⊢;refine Calls.callWith_builtin (by show(false || (backTo cpos (starEach es X.env)).any (·.1))=false;rw[hplain] <;> rfl) (FR ?_);exact thn hA λ us s2 %[vs,H2,I2,r2|q2]=>hm Ev s2 σ H2 x vs v us Q I2 r1 r2 q2
/- xs.append(e),list.index on a module's tuple .. are MtR facts of 06m -/
end
def MtM (X:Cx) (id:String) (r:V->Et V->Hp->VK->Prop):Prop :=
 ∀ (Ev:Et (Eo×Obj)) (s:DY) (σ:St) (H:Hp) (x:V) (xs:Et V) (v:Dp) (us:Et Dp) (Q:VK),Inv X Ev σ H s->RelV x v->Vals xs us->r x xs H Q ->
  wpAny (model X.prog X.w) X.A (call (.builtin id) (v :: us)) (EP X Ev σ Q) X.xe s
theorem Vals.one:∀ {x:V} {us:Et Dp},Vals [x] us->∃u,us=[u]/\RelV x u
 | _,_,.cons r .nil=>%[_,U|r]
theorem Vals.dropLast {xs:Et V} {us:Et Dp} (h:Vals xs us):Vals xs.dropLast us.dropLast:=by
 induction h with
 | nil=>exact .nil
 | cons r t ih=>
  cases t with
  | nil=>exact .nil
  | cons q t'=>exact .cons r ih
theorem Vals.eraseIdx:∀ {xs:Et V} {us:Et Dp} (i:Nat),Vals xs us->Vals (xs.eraseIdx i) (us.eraseIdx i)
 | _,_,_,.nil=>.nil
 | _,_,0,.cons _ t=>t
 | _,_,i+1,.cons r t=>.cons r (Vals.eraseIdx i t)
theorem Vals.rep {xs:Et V} {us:Et Dp} (h:Vals xs us):∀k:Nat,Vals (List.replicate k xs).flatten (List.replicate k us).flatten
 | 0=>.nil
 | k+1=>by rw[Ee,Ee,List.flatten_cons,List.flatten_cons];exact Vals.append h (Vals.rep h k)
theorem rD {α:Type} (l:Et α):l.eraseIdx (l.length - 1)=l.dropLast:=by
 induction l with
 | nil=>rfl
 | cons a r ih=>
  cases r with
  | nil=>rfl
  | cons b r=>
   have e:(a :: b :: r).length - 1=((b :: r).length - 1)+1:=by have h1:(a :: b :: r).length=r.length+2:=rfl;have h2:(b :: r).length=r.length+1:=rfl;omega
   rw[e,List.eraseIdx_cons_succ,ih]
   all_goals rfl
theorem fU {α:Type}:∀ (l:Et α) (i:Nat),(l.eraseIdx i).length<=l.length
 | [],_=>B0 _
 | _ :: _,0=>Nat.le_succ _
 | _ :: r,i+1=>Nat.succ_le_succ (fU r i)
theorem fV (its:Et Dp):∀ (k:Nat) (acc:Et Dp),
  List.foldl (λ x1 x2=>x1 ++ x2) acc.toArray (List.replicate k its.toArray)=(acc ++ (List.replicate k its).flatten).toArray
 | 0,acc=>by simp
 | k+1,acc=>by
  have e:acc.toArray ++ its.toArray=(acc ++ its).toArray:=by simp
  have e2:(acc ++ its) ++ (List.replicate k its).flatten=acc ++ (List.replicate (k+1) its).flatten:=by rw[Ee,List.flatten_cons,List.append_assoc]
  rw[<- e2,<- fV its k (acc ++ its),<- e,Ee,List.foldl_cons]
section
variable {X:Cx} {Ev:Et (Eo×Obj)} {σ:St} {H:Hp} {s:DY} {l b:Eo} {xs ys zs:Et V}
theorem Inv.lset {its its':Et Dp} {n:Nat} {f:Es Dp->Es Dp} {t':Nat} (I:Inv X Ev σ H s) (hH:H l=↥xs)
  (e:s.heap.get? l=some { cls:=.type "list",data:=.seq its.toArray n }) (hf:f its.toArray=its'.toArray) (hv:Vals ys its') (hz:ys.length<=sizeLine) :
  Inv X Ev σ (upd H l (.lst ys)) { s with heap:=s.heap.update l (Obj.mapSeq f),toks:=t' }:=by
 have q:=PySem.IsL.update e f;rw[hf]at q;refine I.write (x:=l) (e:=l) (by rw[hH];exact trivial) (.inl rfl) (λ b' u hb hu=>(E6 s.heap (Obj.mapSeq f) (Ne.symm hb)).trans hu) %[_|q] ?_;exact%[hz,its',_,hv|q]
theorem Inv.lnew {its:Et Dp} {t':Nat} (I:Inv X Ev σ H s) (hv:Vals ys its) (hz:ys.length<=sizeLine) :
  Inv X Ev σ (upd H s.heap.objs.size (.lst ys)) { s with heap:=s.heap.push { cls:=.type "list",data:=.seq its.toArray },toks:=t' } :=
 I.laid (λ _ _ q=>A4 _ q) (B0 _) %[hz,its,0,hv|A5 _ rfl]
theorem Inv.fresh (I:Inv X Ev σ H s):H s.heap.objs.size=none:=I.hok.fresh (B0 _)
theorem Inv.lstM (I:Inv X Ev σ H s) (hH:H l=↥xs):xs.length<=sizeLine/\∃ (its:Et Dp) (n:Nat),Vals xs its/\xs.length=its.length/\s.heap.get? l=some { cls:=.type "list",data:=.seq its.toArray n }:=by obtain⟨z,its,n,r,e⟩:=I.hok l _ hH;exact%[z,its,n,r,r.length|e]
theorem gZ {n:Nat} (h:n<=sizeLine):Builtin.List.listTooLong n=false:=by unfold Builtin.List.listTooLong;exact A8 ⋯
end
section
variable {X:Cx}
inductive rAppend (x:V) (vs:Et V) (H:Hp) (Q:VK):Prop
 | mk (l:Eo) (xs:Et V) (y:V) (e_0:x=.ref l) (e_1:vs=[y]) (e_2:H l=↥xs) (e_3:xs.length < sizeLine) (e_4:Q .non (upd H l (.lst (xs ++ [y])))):rAppend x vs H Q
theorem lj:MtM X "list.append" rAppend:=by intro Ev s σ H x vs v us Q I rx rv h;obtain⟨l,xs,y,rfl,rfl,hH,hz,q⟩:=h;cases rx;obtain⟨u,rfl,ru⟩:=rv.one;obtain⟨z,its,n,r,hl,e⟩:=I.lstM hH;refine FU F.slot_list_append %[_,e|U] F.entry_list_append (F.args_list_append_2 _ _) (PySem.list_append l its.toArray n u (by rw[Dy];omega)) %[e|?_];refine%[.non,_,I.lset (its':=its ++ [u]) hH e (by simp) (r.append (.cons ru .nil)) ?_,U|q];rw[Dw,Ed];omega
def oV:V->Et V->Hp->VK->Prop:=λ x vs H Q=>∃l b xs zs,x=.ref l/\vs=[.ref b]/\H l=↥xs/\H b=↥zs/\xs.length+zs.length<=sizeLine/\Q .non (upd H l (.lst (xs ++ zs)))
theorem lm:MtM X "list.extend" oV:=by
 intro Ev s σ H x vs v us Q I rx rv h;obtain⟨l,b,xs,zs,rfl,rfl,hH,hB,hz,q⟩:=h;cases rx;obtain⟨u,rfl,ru⟩:=rv.one;cases ru;obtain⟨z,its,n,r,hl,e⟩:=I.lstM hH;obtain⟨z2,its2,n2,r2,hl2,e2⟩:=I.lstM hB;have hsz:its.toArray.size+its2.toArray.size<=sizeLine:=by rw[Dy,Dy];omega
 have hlong:¬ (!its.toArray.isEmpty && Builtin.List.listTooLong (its.toArray.size+its2.toArray.size))=true:=by rw[gZ hsz,Bool.and_false];exact A9
 refine FU F.slot_list_extend %[_,e|U] F.entry_list_extend (F.args_list_extend_2 _ _)
  (AutoSeq1.list_extend_list_list_0 l its.toArray n b its2.toArray n2 hlong (by rw[Dy];omega) ⋯) %[e,e2|?_]
 refine%[.non,_,I.lset (its':=its ++ its2) hH e (by simp) (r.append r2) ?_,U|q];rw[Dw];omega
def rE:V->Et V->Hp->VK->Prop:=λ x vs H Q=>∃l xs i k y,x=.ref l/\vs=[.int i]/\H l=↥xs/\-(2 ^ 63)<=i/\i < 2 ^ 63/\seqIndex? i xs.length=some k/\xs[k]?=some y/\Q y (upd H l (.lst (xs.eraseIdx k)))
theorem mP:MtM X "list.pop" rE:=by
 intro Ev s σ H x vs v us Q I rx rv h;obtain⟨l,xs,i,k,y,rfl,rfl,hH,h1,h2,hk,hy,q⟩:=h;cases rx;obtain⟨u,rfl,ru⟩:=rv.one;obtain⟨t,rfl⟩:=ru;obtain⟨z,its,n,r,hl,e⟩:=I.lstM hH;obtain⟨w,hw,rw'⟩:=r.get hy;refine FU F.slot_list_pop %[_,e|U] F.entry_list_pop (F.args_list_pop_2 _ _)
  (MeetsSeq.list_pop_at l its.toArray n i t k w (fitsIndex_both h1 h2) (by rw[Dy,<- hl];exact hk) (by rw[<- Array.getElem?_toList];exact hw) (by rw[Dy];omega)) %[e|?_]
 refine%[y,_,I.lset (its':=its.eraseIdx k) hH e ?_ (r.eraseIdx k) ?_,rw'|q]
 ·show its.toArray.eraseIdxIfInBounds k=(its.eraseIdx k).toArray;rw[List.eraseIdxIfInBounds_toArray]
 ·have:=fU xs k;omega
inductive rCat (x:V) (y:V) (H:Hp) (Q:VK):Prop
 | mk (l:Eo) (b:Eo) (xs:Et V) (zs:Et V) (e_0:x=.ref l) (e_1:y=.ref b) (e_2:H l=↥xs) (e_3:H b=↥zs) (e_4:xs.length+zs.length<=sizeLine) (e_5:∀p,H p=none->Q (.ref p) (upd H p (.lst (xs ++ zs)))):rCat x y H Q
theorem du:OpR X (binaryOp .Add) rCat:=by
 intro Ev s σ H x y v u Q I rx ry h;obtain⟨l,b,xs,zs,rfl,rfl,hH,hB,hz,q⟩:=h;cases rx;cases ry;obtain⟨z,its,n,r,hl,e⟩:=I.lstM hH;obtain⟨z2,its2,n2,r2,hl2,e2⟩:=I.lstM hB;refine PySem.P.add_list e e2 ?_ (by rw[Dy,Dy];omega);have ea:its.toArray ++ its2.toArray=(its ++ its2).toArray:=by simp
 rw[ea];exact%[.ref _,_,I.lnew (t':=s.toks) (r.append r2) (by rw[Dw];omega),U|q _ I.fresh]
def Bf:R2:=λ x y H Q=>∃l k xs,x=.ref l/\y=.int k/\H l=↥xs/\-(2 ^ 63)<=k/\k < 2 ^ 63/\xs.length * k.toNat<=sizeLine /\
 ∀p,H p=none->Q (.ref p) (upd H p (.lst (List.replicate k.toNat xs).flatten))
theorem oW {α:Type} (xs:Et α) (k:Nat):(List.replicate k xs).flatten.length=k * xs.length:=by
 induction k with
 | zero=>simp
 | succ k ih=>rw[Ee,List.flatten_cons,Dw,ih,Nat.succ_mul,Nat.add_comm]
theorem rF:OpR X (binaryOp .Mult) Bf:=by
 intro Ev s σ H x y v u Q I rx ry h;obtain⟨l,k,xs,rfl,rfl,hH,h1,h2,hz,q⟩:=h;cases rx;obtain⟨t,rfl⟩:=ry;obtain⟨z,its,n,r,hl,e⟩:=I.lstM hH;have Ex:its.toArray.size * k.toNat<=sizeLine:=by rw[Dy,<- hl];exact hz
 have hcap:¬ its.toArray.size * k.toNat > (2 ^ 63 - 1) / 8:=by
  have:(sizeLine:Nat)<=(2 ^ 63 - 1) / 8:=∅
  omega
 have hfit:¬ (!Builtin.List.listFitsIndex k)=true:=by rw[fitsIndex_both h1 h2];exact A9
 have hlong:¬ Builtin.List.listTooLong (its.toArray.size * k.toNat)=true:=by rw[gZ Ex];exact A9
 have hnew:List.foldl (λ x1 x2=>x1 ++ x2) #[] (List.replicate (if its.toArray.isEmpty=true then 0 else k.toNat) its.toArray)=(List.replicate k.toNat its).flatten.toArray:=by
  have f0:∀m:Nat,List.foldl (λ x1 x2=>x1 ++ x2) #[] (List.replicate m its.toArray)=(List.replicate m its).flatten.toArray:=λ m=>by have:=fV its m [];rw[List.nil_append]at this;exact this
  rw[f0];cases its with
  | nil=>simp
  | cons a r'=>rw[E1 (by simp)]
 refine wpAny_binaryOp_repeat_ref (T := "list") (U:="int") ∅ %[_,e|rfl] (λ s'=>typeIs_int s' k t) noFill_list_mul F.fills_int_mul F.slot_int_rmul repeat_list F.slot_int_index.lookup
  (FU F.slot_int_rmul (typeIs_int s k t) F.entry_int_rmul (F.args_int_rmul_2 _ _) (int___rmul___int_list k t l its.toArray n)
   %[e,rfl,%[_,e|rfl]|FU F.slot_list_mul %[_,e|rfl] F.entry_list_mul (F.args_list_mul_2 _ _) (AutoListH.list___mul___list_int_3 l its.toArray n k t hfit hcap hlong) %[e|?_]])
 rw[hnew];exact%[.ref _,_,I.lnew (t':=s.toks) (r.rep k.toNat) (by rw[oW,Nat.mul_comm];exact hz),U|q _ I.fresh]
end
end L2
namespace Att
open PySem PySem.W PySem.Calls PyProof.Rows
theorem eH {P:Params} {h:Heap}:∀ (ns:Et Int) (vs:Et Dp),WellAll P h vs (ns.map WData.int)->IntsAre vs ns:=by
 intro ns
 induction ns with
 | nil=>
  intro vs w;rw[List.map_nil]at w;cases w;exact .nil
 | cons n ns ih=>
  intro vs w;rw[EG]at w;cases w with
  | cons a b=>
   cases a;exact .cons _ _ (ih _ b)
theorem lq {l:OpenLaw} {n:Nat} (hn:l.most=some n) {P:Params} {h:Heap} {args:Et WData} {vals:Et Dp}
  (hpre:l.row.toRowW.claim.pre args=true) (hwl:WellAll P h vals args) :
  ∃a vs ns,vals=[Value.ref a]/\args=[WData.list (ns.map WData.int)]/\h.get? a=some { cls:=.type "list",data:=.seq vs.toArray }/\IntsAre vs ns/\ns.length<=n:=by
 have hsh:WShape.hasAll [] args [.list .int]=true:=(pre_splitW hpre).1;have hc:l.pre.holds [] { args:=args }=true:=(pre_splitW hpre).2;obtain⟨d,r,rfl,h1,h2⟩:=hasAllW_cons hsh;obtain rfl:=hasAllW_nil h2;obtain⟨xs,rfl,h3⟩:=hasW_list h1;obtain⟨ns,rfl⟩:=items_int h3;have Ex:ns.length<=n:=by
  unfold OpenLaw.pre at hc;have h4:(WTm.not (.lt (.lit (.int (n:Int))) (.len (.arg 0)))).holds [] { args:=[.list (ns.map .int)] }=true:=by have h4:=(holds_andW hc).1;rw[hn]at h4;exact h4
  have h5:=condW_of h4 (w_not (w_lt w_lit (w_len_list (w_arg rfl))));rw[Dv]at h5;refine Nat.le_of_not_lt λ q=>?_;have q':(n:Int) < ((ns.length:Nat):Int):=⋯
  first
   | (rw[E2 q']at h5;exact absurd h5 ∅)
   | (simp at h5;omega)
 cases hwl with
 | cons w1 w2=>
  cases w2;cases w1 with
  | list ho hall=>exact%[_,_,ns,U,U,ho,eH ns _ hall|Ex]
theorem lr (l:OpenLaw) (args:Et WData):l.row.toRowW.claim.post args (.bool true) args=true :=
 postW_of (r:=l.row.toRowW) (X:=(true == true))
  (show WShape.has [] (.bool true) .bool=true by first | rfl | decide | simp[WShape.has,WShape.arms,WShape.armsAll])
  (show(WTm.eq .res (.lit (.bool true))).value [] { args:=args,res:=some (.bool true),after:=args }=some (.bool (true == true))from w_eq_bool (w_res rfl) w_lit) rfl
theorem attach_call {l:OpenLaw} {n:Nat} {q:Dl} {loose:Et Str} {XP:(Str->Er Dp)->Heap->Prop} {YP:Do->Heap->Prop} {d:DefRec}
  (hn:l.most=some n) (hdf:d.params.defaults=[])
  (call:∀ (w:Do) (s₀ s₁:DY) (mg mb:Str->Er Dp) (fa:Eo) (o:Obj) (pm cd doc:Dp) (a:Eo) (vs:Et Dp) (ns:Et Int),
   Ground q loose [] XP w s₀ mg mb s₁.heap->YP w s₁.heap ->
   s₁.heap.get? fa=some o->o.data=.func (docDef d.name d.params d.body d.scope pm cd doc)->s₁.heap.CodeRec cd d.name->mg d.name=↑fa ->
   s₁.heap.get? a=some { cls:=.type "list",data:=.seq vs.toArray }->IntsAre vs ns->ns.length<=n->s₁.gens=#[] ->
   codeAny (model l.prog w) callerA (.call (.ref fa) %[[.ref a]|[]]) (λ r s'=>r=.ok (.ret (.bool true))/\OldK s₁.heap s'.heap/\s'.os=s₁.os/\AllBare s'.gens) s₁) :
  WalkO q loose XP YP l.row.toRowW d [] (λ f vs=>PySem.call f vs):=by
 intro w s₀ s₁ mg mb G Y fa o pm cd doc dV kV ho hd hcd hD hmg hg args vals as hpre hlay hrd hwl hlo;obtain rfl:dV=.none:=Dflts.none hD hdf;obtain rfl:kV=.none:=Dflts.noKw hD;obtain⟨a,vs,ns,rfl,rfl,hobj,hints,Ex⟩:=lq hn hpre hwl;refine enter_call (FX (call w s₀ s₁ mg mb fa o pm cd doc a vs ns G Y ho (fd_plain hd) hcd hmg hobj hints Ex hg) λ r s' hq=>?_);obtain⟨rfl,h2,h3,h4⟩:=hq;exact%[.inl %[.bool true,.bool true,[],U,λ _=>rfl,.bool true,lr l _|λ _=>%[List.Pairwise.nil|λ _ hm=>(nomatch hm)]],h2,h3|h4]
section
variable {prog:Dl} {w:Do} {A:Around} {E:Dp->DY->Prop} {s:DY} {K:Frag}
def Bg (h:Heap) (L d:Eo):Et (Eo×Obj):=(List.range h.objs.size).filterMap λ a=>if a=L\/a=d then none else(h.get? a).map λ o=>(a,o)
end
end Att
namespace L2
open PySem PySem.Spec PyProof.Rows
theorem fW:∀ {vs:Et Dp} {ns:Et Int},IntsAre vs ns->Vals (ns.map V.int) vs
 | _,_,.nil=>.nil
 | _,_,.cons n t h=>.cons %[t|U] (fW h)
def rG (H:Hp):Prop:=∀b,H b=none\/∃o xs,H b=some (.frz o (.lst xs))
theorem mQ {P:Dl} {w:Do} {K:C4} {mg mb:Str->Er Dp} {CX:CXT} {k:Nat} {fa a:Eo} {fd:Dm} {x:Str} {sp:Sp} {s₁:DY} {vs:Et Dp} {ns:Et Int}
  (KX:K.In s₁.heap) (hns:s₁.heap.Ns Eu mg) (hb:s₁.heap.Ns builtinsNs mb) (hbb:∀x:Str,x ≠ "__name__" -> mb x=bootBuiltins x) (hlim:s₁.heap.NoLimit) (hg:s₁.gens=#[])
  (ha:s₁.heap.get? a=some { cls:=.type "list",data:=.seq vs.toArray }) (hi:IntsAre vs ns) (hl:ns.length<=sizeLine) (hr:Room k callerA)
  (F:∀base:Heap,K.In base->base.Ns Eu mg->FnOk P w K mg base CX k fa fd [x] sp) (hbind:∀ (s:DY) (u:Dp),BindsTo s fd %[[u]|[]] [(x,u)])
  (hsp:∀H:Hp,rG H->SqL K H a (ns.map V.int)->sp [.ref a] H (λ v _=>v=.bl true) λ _ _ _=>False)
  (hCX:∀H e s',CX [] H s₁ (λ _ _ _=>False) e s'->False) :
  codeAny (model P w) callerA (.call (.ref fa) %[[.ref a]|[]]) (λ r s'=>r=.ok (.ret (.bool true))/\OldK s₁.heap s'.heap/\s'.os=s₁.os/\AllBare s'.gens) s₁:=by
 have rv:=fW hi;have lenV:=hi.length;have core:∀H:Hp,rG H->SqL K H a (ns.map V.int)->HOk P w H s₁.heap->(∀b,H b≠none->b=a)->(H a≠none->K.lookup a=none) ->
   codeAny (model P w) callerA (.call (.ref fa) %[[.ref a]|[]]) (λ r s'=>r=.ok (.ret (.bool true))/\OldK s₁.heap s'.heap/\s'.os=s₁.os/\AllBare s'.gens) s₁:=by
  intro H hO hS hok hA hK;have base_of:∀ {b:Eo} {o:Obj},s₁.heap.get? b=some o->H b=none->(gf s₁.heap H).get? b=some o:=λ e n=>mn e n;have noA:∀ {b:Eo} {o:Obj} {es:Es DictEntry} {ep:Nat},s₁.heap.get? b=some o->o.data=.dict es ep->H b=none:=λ {b o es ep} e d=>by
   cases q:H b with
   | none=>rfl
   | some u=>
    have e':b=a:=hA b (by rw[q];simp);subst e';rw[ha]at e;cases e;have d':Data.seq vs.toArray _=Data.dict es ep:=d;cases d'
  have nsK:∀ {b:Eo} {m:Str->Er Dp},s₁.heap.Ns b m->(gf s₁.heap H).Ns b m:=λ {b m} ⟨o,es,ep,e,d,r⟩=>%[o,es,ep,base_of e (noA e d),d|r]
  have hKb:K.In (gf s₁.heap H):=λ b o e=>base_of (KX b o e) (by
   cases q:H b with
   | none=>rfl
   | some u=>
    have e':b=a:=hA b (by rw[q];simp);subst e';rw[hK (by rw[q];simp)]at e;cases e)
  have hM:Mod K mg (gf s₁.heap H):=%[hKb,nsK hns,%[mb,nsK hb|hbb]|let ⟨mc,h1,h2⟩:=hlim;%[mc,nsK h1|h2]]
  have e0:Env0 P w K mg (gf s₁.heap H) callerA [] s₁ H:=%[U,hM,λ b o e=>oI e,Nat.le_of_eq (kT _ _),trivial,λ b hb=>absurd (show b∈([]:Et Eo)from hb) (by simp),hok|.of_eq hg]
  refine FX ((F _ hKb (nsK hns)).run callerA [] s₁ H %[[.ref a]|[]] [.ref a] [.ref a] _ _ hr e0 (hbind s₁ (.ref a)) (.cons rfl .nil) (hsp H hO hS)) λ r s' h=>?_;cases r with
  | error e=>exact(hCX H e s' h).elim
  | ok fl=>
   cases fl with
   | next=>exact DF h
   | brk=>exact DF h
   | cont=>exact DF h
   | ret u=>
    obtain⟨v,H',os,bare,un,hok',r',q⟩:=h;have q':v=.bl true:=q;subst q';obtain rfl:u=Value.bool true:=r';refine%[U,OldK.of_keep λ b o e=>?_,os|bare];cases q:H b with
    | none=>exact un.keep b o e q (by intro z;exact absurd (show b∈([]:Et Eo)from z) (by simp)) (by simp)
    | some u=>
     rcases hO b with z | ⟨ob,xs,z⟩
     ·rw[q]at z;cases z
     ·have z2:=un.frzs b ob _ z;obtain⟨e1,_⟩:=hok b _ z;obtain⟨e2,_⟩:=hok' b _ z2;rw[e]at e1;cases e1;exact e2
 cases hk:K.lookup a with
 | some o=>
  have e:=KX a o hk;rw[ha]at e;cases e;refine core (λ _=>none) (λ _=>.inl rfl) (.inr %[_,vs.toArray,_,hk,U,U,U,by rw[Dy,lenV];exact hl|by simpa using rv]) (λ b u z=>by have z':(none:Er HO)=some u:=z;cases z') (λ b z=>absurd rfl z) λ z=>absurd rfl z
 | none=>
  refine core (λ b=>if b=a then some (.frz { cls:=.type "list",data:=.seq vs.toArray } (.lst (ns.map V.int)))else none) (λ b=>?_) (.inl (.inr %[{ cls:=.type "list",data:=.seq vs.toArray }|Ez rfl])) (λ b u z=>?_) (λ b z=>?_) λ _=>hk
  ·by_cases hb:b=a
   ·exact .inr %[_,_|Ez hb]
   ·exact .inl (E1 hb)
  ·by_cases hb:b=a
   ·have z':=(Ez hb).symm.trans z;cases z';subst hb;exact%[ha,by rw[Dv];exact hl,vs,_,rv|ha]
   ·have z':=(E1 hb).symm.trans z;cases z'
  ·by_cases hb:b=a
   ·exact hb
   ·exact absurd (E1 hb) z
theorem walk_of {l:PySem.W.OpenLaw} {n k:Nat} {q:Dl} {loose:Et Str} {XP:(Str->Er Dp)->Heap->Prop} {YP:Do->Heap->Prop} {d:DefRec} {K:Params->C4} {CX:Do->CXT} {sp:Do->Sp} {x:Str}
  (hn:l.most=some n) (hn2:n<=sizeLine) (hdf:d.params.defaults=[]) (hr:Room k callerA)
  (hY:∀ (w:Do) (h:Heap),YP w h->(K w.params).In h)
  (F:∀ (w:Do) (mg:Str->Er Dp) (fa:Eo) (h:Heap),(K w.params).In h->h.Ns Eu mg->mg d.name=↑fa ->
   ∃fd:Dm,(∀ (s:DY) (u:Dp),BindsTo s fd %[[u]|[]] [(x,u)]) /\
    ∀base:Heap,(K w.params).In base->base.Ns Eu mg->FnOk l.prog w (K w.params) mg base (CX w) k fa fd [x] (sp w))
  (hsp:∀ (w:Do) (H:Hp) (a:Eo) (ns:Et Int),ns.length<=n->rG H->SqL (K w.params) H a (ns.map V.int)->sp w [.ref a] H (λ v _=>v=.bl true) λ _ _ _=>False)
  (hCX:∀ (w:Do) (H:Hp) (s:DY) (e:Dp) (s':DY),CX w [] H s (λ _ _ _=>False) e s'->False) :
  PySem.W.WalkO q loose XP YP l.row.toRowW d [] (λ f vs=>PySem.call f vs):=by
 refine Att.attach_call hn hdf λ w s₀ s₁ mg mb fa o pm cd doc a vs ns G Y ho hd hcd hmg hobj hints Ex hg=>?_;have KX:=hY w _ Y;obtain⟨fd,hb,hF⟩:=F w mg fa _ KX G.T.g hmg;exact mQ KX G.T.g G.T.b G.T.builtins G.T.nolimit hg hobj hints (C5 Ex hn2) hr hF hb (λ H hO hS=>hsp w H a ns Ex hO hS) λ H e s'=>hCX w H s₁ e s'
def inClass (s:Stmt) (j:Nat):Stmt:=match s with
 | .ClassDef _ _ _ body _ _ _ _ _ _ _=>body.getD j (.Pass %[0,0,0|0])
 | _=>.Pass %[0,0,0|0]
def defArgs (s:Stmt):Arguments:=match s with
 | .FunctionDef _ a _ _ _ _ _ _ _ _=>a
 | _=>{ posonlyargs:=[],args:=[],vararg:=none,kwonlyargs:=[],kw_defaults:=[],kwarg:=none,defaults:=[] }
def defBody (s:Stmt):Et Stmt:=match s with
 | .FunctionDef _ _ b _ _ _ _ _ _ _=>b
 | _=>[]
def defScope (s:Stmt):Scope:=match s with
 | .FunctionDef _ _ _ _ _ _ sc _ _ _=>sc
 | _=>{ kind:=.function,names:=[],isGenerator:=false,isCoroutine:=false }
abbrev CX0:CXT:=λ _ _ _ _ _ _=>False
abbrev E0:XK:=λ _ _ _=>False
theorem qU {X:Cx}:gn CX0 X E0:=λ _ _ _ _ _ _ _ h=>h.elim
structure Fun (K:C4) (x qual:Str) (st:Stmt) (f:Eo) (fd:FuncData):Prop where
 ex:∃ (oc:Dp) (od:Er Eo) (kV doc pm:Dp) (an:Er Eo) (cdv ct:Dp) (osl:Es (Er Dp)),
  fd=DC x qual (defArgs st) (defBody st) (defScope st) .none kV doc pm an cdv ct/\K.lookup f=some %[oc,od,.func fd|osl]/\PySem.W.codeIn K cdv qual=true
 kp:PySem.W.keepIn K (.ref f)=true
section
variable {P:Dl} {w:Do} {K:C4} {mg:Str->Er Dp} {base:Heap}
theorem Fun.ok {x qual:Str} {st:Stmt} {f:Eo} {fd:Dm} {N ps:Et Str} {k:Nat} {sp:Sp} (F:Fun K x qual st f fd) (S:FnScope N ps (defScope st)) (len:∀vs H Q E,sp vs H Q E->vs.length=ps.length)
  (hbody:∀ (cdv:Dp) (A:Around) (outer:Et Env) (s:DY) (H:Hp) (vs:Et V) (Q:VK) (E:XK),Room k (A.deeper (envOfC qual (defScope st) s.heap.objs.size f cdv))->sp vs H Q E ->
   ∃t,PSs (aG CX0 P w K mg base N qual (defScope st) f cdv A outer s H E).nox (defBody st) t/\t { nx:=λ _ H'=>Q .non H',rt:=Q } (cn N vs) H):FnOk P w K mg base CX0 (k+1) f fd ps sp:=by
 obtain⟨oc,od,kV,doc,pm,an,cdv,ct,osl,rfl,lk,hcd⟩:=F.ex;refine mJ lk hcd S len λ A outer s H vs Q E hr hsp=>?_;obtain⟨t,h,q⟩:=hbody cdv A outer s H vs Q E hr hsp;exact%[t,h.nox|q]
theorem Fun.binds {x qual:Str} {st:Stmt} {f:Eo} {fd:Dm} {ps:Et Str} (F:Fun K x qual st f fd)
  (h:∀ (kV doc pm:Dp) (an:Er Eo) (cdv ct:Dp) (us:Et Dp),us.length=ps.length->bindArgs (DC x qual (defArgs st) (defBody st) (defScope st) .none kV doc pm an cdv ct) %[us|[]]=pure (ps.zip us)):Binds K fd ps []:=by
 obtain⟨oc,od,kV,doc,pm,an,cdv,ct,osl,rfl,lk,hcd⟩:=F.ex;exact .all (h kV doc pm an cdv ct)
theorem iX {x qual:Str} {st:Stmt} {f:Eo} {oc:Dp} {od an:Er Eo} {osl:Es (Er Dp)} {kV doc pm cdv ct:Dp} (l:K.lookup f=some %[oc,od,.func (DC x qual (defArgs st) (defBody st) (defScope st) .none kV doc pm an cdv ct)|osl])
  (c:PySem.W.codeIn K cdv qual=true) (k:PySem.W.keepIn K (.ref f)=true):Fun K x qual st f (DC x qual (defArgs st) (defBody st) (defScope st) .none kV doc pm an cdv ct):=%[%[oc,od,kV,doc,pm,an,cdv,ct,osl,U,l|c]|k]
end
section
variable {X:Cx}
theorem pv (i:Nat) {x:Str} {pos:Pos} (hN:X.N[i]?=some x:=by rfl) (hv:Vis X.env.scope x:=by first | exact Or.inl rfl | exact Or.inr (Or.inl rfl) | exact Or.inr (Or.inr rfl)) (hd:(x == ("__debug__" : Str))=false:=by decide)
  (hcd:(x == ("__classdict__" : Str))=false:=by decide):PE X (.Name x pos) (tVar i):=rm hN hv hd hcd
end
theorem aS {A B:Prop} (h:B):if false=true then A else B:=by rw[E1 A9];exact h
theorem aT {A B:Prop} (h:A):if true=true then A else B:=by rw[Ez rfl];exact h
theorem hG {c A B:Prop} [Decidable c] (h1:c->A) (h2:¬ c->B):if c then A else B:=by
 by_cases h:c
 ·rw[Ez h];exact h1 h
 ·rw[E1 h];exact h2 h
def Same (H H':Hp):Prop:=∀b o,H b=some o->H' b=some o
theorem Same.refl (H:Hp):Same H H:=λ _ _ h=>h
theorem Same.trans {H H1 H2:Hp} (a:Same H H1) (b:Same H1 H2):Same H H2:=λ c o h=>b c o (a c o h)
theorem Same.free {H H':Hp} (e:Same H H') {l:Eo} (h:H' l=Option.none):H l=Option.none:=by
 cases q:H l with
 | none=>rfl
 | some o=>
  rw[e l o q]at h;cases h
theorem Same.seq {K:C4} {H H':Hp} {a:Eo} {xs:Et V} (e:Same H H') (h:SqL K H a xs):SqL K H' a xs:=by
 rcases h with(h | ⟨o,h⟩) | h
 ·exact .inl (.inl (e _ _ h))
 ·exact .inl (.inr %[o|e _ _ h])
 ·exact .inr h
def aX (env:Env):Et (Str×NameKind)->Et (Str×Eo)->Et (Str×Eo)
 | [],acc=>acc
 | (n,k) :: r,acc=>aX env r (if (k == NameKind.free)=true then(n,(env.cells.lookup n).getD 0) :: acc else acc)
theorem bY (env:Env):∀ (names:Et (Str×NameKind)) (acc:Et (Str×Eo)) (x:Str) (c:Eo),(∀y∈names,y.2=.free->∃c,env.cells.lookup y.1=some c) ->
  (∀x c,acc.lookup x=some c->env.cells.lookup x=some c)->(aX env names acc).lookup x=some c->env.cells.lookup x=some c
 | [],acc,x,c,_,h,e=>h x c e
 | (n,k) :: r,acc,x,c,hf,h,e=>by
  refine bY env r _ x c (λ y hy=>hf y (B1 _ hy)) (λ x c e'=>?_) e
  by_cases hk:(k == NameKind.free)=true
  ·rw[Ez hk]at e';obtain⟨c0,hc0⟩:=hf (n,k) B5 (by simpa using hk);have hc0':env.cells.lookup n=some c0:=hc0;rw[ER]at e';cases hx:x == n with
   | true=>
    rw[hx]at e';have:x=n:=by simpa using hx
    subst this;rw[hc0']at e' ⊢;simpa using e'
   | false=>rw[hx]at e';exact h x c e'
  ·rw[E1 hk]at e';exact h x c e'
theorem fj (env:Env):∀ (names:Et (Str×NameKind)) (acc:Et (Str×Eo)) (x:Str),(∃c,acc.lookup x=some c)->∃c,(aX env names acc).lookup x=some c
 | [],acc,x,h=>h
 | (n,k) :: r,acc,x,h=>by
  refine fj env r _ x ?_
  by_cases hk:(k == NameKind.free)=true
  ·rw[Ez hk,ER];cases hx:x == n with
   | true=>exact%[_|U]
   | false=>exact h
  ·rw[E1 hk];exact h
theorem eh (env:Env):∀ (names:Et (Str×NameKind)) (acc:Et (Str×Eo)) (x:Str),(x,NameKind.free)∈names->∃c,(aX env names acc).lookup x=some c
 | [],acc,x,h=>by simp at h
 | (n,k) :: r,acc,x,h=>by
  rcases Dx.mp h with e | e
  ·have e1:x=n:=FI Prod.fst e;have e2:NameKind.free=k:=FI Prod.snd e;subst e1;subst e2;refine fj env r _ x ?_;rw[Ez (by simp),ER];simp
  ·exact eh env r _ x e
theorem cO {env:Env} {scope:Scope} (hf:∀y∈scope.names,y.2=.free->∃c,env.cells.lookup y.1=some c):closureFor scope env=pure (aX env scope.names []):=by
 have key:∀ (names:Et (Str×NameKind)) (acc:Et (Str×Eo)),(∀y∈names,y.2=.free->∃c,env.cells.lookup y.1=some c) ->
   (forIn names acc (λ(x:Str×NameKind) (r:Et (Str×Eo))=>(if (x.2 == NameKind.free)=true then do
    let a<-cellOf env x.1
    pure (ForInStep.yield ((x.1,a) :: r))else pure (ForInStep.yield r)) ):Sem (Et (Str×Eo)))=pure (aX env names acc):=by
  intro names
  induction names with
  | nil=>intro acc _;rfl
  | cons y r ih=>
   intro acc h;obtain⟨n,k⟩:=y;have ih':=λ acc=>ih acc λ z hz=>h z (B1 _ hz);rw[List.forIn_cons]
   by_cases hk:(k == NameKind.free)=true
   ·obtain⟨c,hc⟩:=h (n,k) B5 (by simpa using hk);have hc':env.cells.lookup n=some c:=hc;have e1:cellOf env n=pure c:=by unfold cellOf;rw[hc']
    have e2:aX env ((n,k) :: r) acc=aX env r ((n,c) :: acc):=by show aX env r _=_;rw[Ez hk,hc'];rfl
    rw[Ez hk,e2,<- ih'];show((cellOf env n >>= λ a=>pure (ForInStep.yield ((n,a) :: acc))) >>= _)=_;rw[e1]
    rfl
   ·have e2:aX env ((n,k) :: r) acc=aX env r acc:=by show aX env r _=_;rw[E1 hk]
    rw[E1 hk,e2,<- ih']
    rfl
 have:=key scope.names [] hf;simp only[closureFor];exact(FI (λ m=>m >>= λ r=>(pure r:Sem _)) this).trans rfl
theorem gu {env:Env} {scope:Scope} (hcell:∀y∈scope.names,y.2≠.cell) {x:Str}:((relabel scope env).names.lookup x=some .cell\/(relabel scope env).names.lookup x=some .free)->(x,NameKind.free)∈scope.names:=by
  have key:∀names:Et (Str×NameKind),(∀y∈names,y.2≠.cell)->∀k,(names.map λ(n,k)=>if (k == NameKind.free && env.scope.kind == .function && env.kindOf n == some .cell)then(n,NameKind.cell)else(n,k)).lookup x=some k ->
      (k=.cell\/k=.free)->(x,NameKind.free)∈names:=by
    intro names
    induction names with
    | nil=>intro _ k h _;simp at h
    | cons y r ih=>
      obtain⟨n,k'⟩:=y;intro hc k h hk;have nc:k'≠.cell:=hc (n,k') B5;rw[EG]at h
      by_cases hb:(k' == NameKind.free && env.scope.kind == .function && env.kindOf n == some .cell)=true
      . have hb':k'=.free:=by simp at hb;exact hb.1.1
        dsimp only at h;rw[Ez hb,ER]at h;cases hx:x == n with
        | true=>have:x=n:=(by simpa using hx);subst this;subst hb';exact B5
        | false=>rw[hx]at h;exact B1 _ (ih (λ y hy=>hc y (B1 _ hy)) k h hk)
      . dsimp only at h
        rw[E1 hb,ER]at h;cases hx:x == n with
        | true=>
          rw[hx]at h;have:x=n:=by simpa using hx
          subst this;have e:k'=k:=by simpa using h
          rcases hk with q | q
          . exact absurd (e.trans q) nc
          . rw[e,q];exact B5
        | false=>rw[hx]at h;exact B1 _ (ih (λ y hy=>hc y (B1 _ hy)) k h hk)
  rintro(h | h)
  . exact key _ hcell _ h (.inl rfl)
  . exact key _ hcell _ h (.inr rfl)
def aK (X:Cx) (Ev:Et (Eo×Obj)) (s2:DY) (H2:Hp) (scope:Scope) (C:Eo) (N':Et Str) (fp:Et Eo):Cx where
 prog:=X.prog
 w:=X.w
 K:=X.K
 mg:=X.mg
 base:=X.base
 A:=X.A
 N:=N'
 s₀:=s2
 H₀:=H2
 env:=compEnvC scope (aX X.env scope.names []) C X.env
 outer:=X.stack
 stack:=X.stack
 ex:=fp
 fn:=λ _=>false
 calm:=X.calm
 pn:=X.pn ++ Ev
 xe:=λ _ _=>False
def bq (σ:St) (cap:Et Nat) (k:Nat):St:=List.replicate k none ++ cap.map λ j=>(σ[j]?).join
def leS (σ σ':St):Prop:=σ'.length=σ.length/\∀ (i:Nat) v,σ[i]?=some (some v)->σ'[i]?=some (some v)
theorem leS.set {σ:St} {i:Nat} {v:V} (h:σ[i]?=some none):leS σ (σ.set i (some v)):=by
 refine%[by simp|λ j w e=>?_]
 by_cases hj:j=i
 ·subst hj;rw[h]at e;cases e
 ·rw[List.getElem?_set_ne (Ne.symm hj)];exact e
structure CompOk (X:Cx) (scope:Scope) (own:Et Str) (cs:Et Str) (cap:Et Nat):Prop where
 kind:scope.kind=.function
 cell:∀y∈scope.names,y.2≠.cell
 names:∀y∈scope.names,y.2=.local->scope.names.lookup y.1=some .local
 free:∀y∈scope.names,y.2=.free->X.env.kindOf y.1=some .cell\/X.env.kindOf y.1=some .free
 caps:∀ (i:Nat) y,cs[i]?=some y->∃j,cap[i]?=some j/\X.N[j]?=some y/\(y,NameKind.free)∈scope.names
 ownl:∀y∈own,scope.names.lookup y=some .local
 len:cs.length=cap.length
 free2:∀y,(y,NameKind.free)∈scope.names->scope.names.lookup y=some .local->False
def hI (X:Cx) (ifs:Et Expr) (tt:TT):Prop :=
 ∀ (Ev:Et (Eo×Obj)) (s:DY) (σ:St) (H:Hp) (Q:Bool->Hp->Prop),Inv X Ev σ H s->tt σ H Q ->
  wpAny (model X.prog X.w) X.A (forIn ifs true λ c r=>if r=true then do let ok<-isTrue c X.env (eval c X.env);pure (ForInStep.yield ok)else pure (ForInStep.yield r)) (TP X Ev σ Q) X.xe s
def xt:TT:=λ _ H Q=>Q true H
theorem bL {X:Cx}:hI X [] xt:=λ _ _ _ H _ I h=>wpAny_tests_nil %[H,I|h]
theorem hJ {X:Cx} {c:Expr} {tt:TT} (h:PT X c tt):hI X [c] tt:=λ Ev s σ H Q I q=>wpAny_tests_one (h Ev s σ H Q I q)
def hU (σ:St) (cap:Et Nat) (k:Nat) (J:It) (g:TG) (tt:TT) (te:TE) (Q:Et V->Hp->Prop) (W:Nat->Nat->Et V->Hp->Prop):Prop :=
 ∀i m ys H,W i m ys H->(J.stop i H/\ys.length<=sizeLine/\Q ys H) \/
  (J.go i H/\ys.length < sizeLine/\∀x H',J.yld i H x H'->g x (bq σ cap k) H' λ σ2 H2=>leS (bq σ cap k) σ2/\tt σ2 H2 λ ok H3=>
   if ok=true then te σ2 H3 (λ v H4=>∃m',m' < m/\W (i+1) m' (ys ++ [v]) H4)else∃m',m' < m/\W (i+1) m' ys H3)
theorem HOk.but {P:Dl} {w:Do} {H:Hp} {h h':Heap} {C:Eo} (x:HOk P w H h) (n:H C=none) (k:Heap.SameBut C h h'):HOk P w H h':=λ b ob e=>by
 refine(x b ob e).stay (λ c w' hc q=>(k.2 c ?_).trans q) (λ _ q=>q) λ _ _ q=>q;rintro rfl;rcases hc with rfl | hc
 ·rw[n]at e;cases e
 ·rw[n]at hc;cases hc
theorem HOk.add {P:Dl} {w:Do} {H:Hp} {h:Heap} {a:Eo} {o:HO} (x:HOk P w H h) (n:H a=none) (new:ObjOk P w (upd H a o) h a o):HOk P w (upd H a o) h:=λ b u e=>by
 by_cases hb:b=a
 ·subst hb;rw[ag]at e;cases e;exact new
 ·rw[ao hb]at e;exact(x b u e).stay (λ c v _ q=>q) (λ c q=>by rw[ao (ak q n)];exact q) λ c xs q=>by rw[ao (ak q n)];exact q
section
variable {X:Cx} {Ev:Et (Eo×Obj)} {σ:St} {H2:Hp} {s2:DY} {scope:Scope} {own cs:Et Str} {cap:Et Nat} {fp:Et Eo}
theorem fX {h1:Heap} {C:Eo} {tk:Nat} (I:Inv X Ev σ H2 s2) (ok:CompOk X scope own cs cap) (hf:∀b∈fp,dr X Ev H2 b) (hfl:∀b∈fp,b < s2.heap.objs.size)
  (hC:s2.heap.objs.size<=C) (hns:h1.Ns C (λ _=>none)) (old:∀b o,s2.heap.get? b=some o->h1.get? b=some o) :
  Inv (aK X Ev s2 H2 scope C (own ++ cs) fp) [] (bq σ cap own.length) H2 { s2 with heap:=h1,toks:=tk }:=by
 have hfr:∀y∈scope.names,y.2=.free->∃c,X.env.cells.lookup y.1=some c:=λ y hy e=>I.ok.has y.1 (ok.free y hy e);have sub:∀x c,(aX X.env scope.names []).lookup x=some c->X.env.cells.lookup x=some c:=λ x c e=>bY X.env scope.names [] x c hfr (λ _ _ z=>by simp at z) e;have clt:∀x c,(aX X.env scope.names []).lookup x=some c->c < s2.heap.objs.size:=λ x c e=>by obtain⟨v,o,ho,_⟩:=I.cell x c (sub x c e);exact A6 ho
 refine⟨%[I.ok.mod,ok.kind,I.ok.glob,I.ok.blt,hC,λ y z c h1 h2=>I.ok.inj y z c (sub y c h1) (sub z c h2),λ y hy=>?_,λ y c z=>?_,I.ok.hd,I.ok.frames,.inl rfl,λ b hb=>?_,I.bs,C5 I.ok.bsz I.sz,λ b o e hb=>?_,λ b hb z=>?_,I.stack|I.stkFree],
  rfl,I.bare,Un.kept old,%[_,hns|λ i y v e1 e2 e3=>?_],λ y c e=>?_,I.hok.fresh hC,λ y c e=>I.freeC y c (sub y c e),λ p hp=>?_,I.hok.kept old,?_⟩
 ·have hm:=gu ok.cell hy;exact eh X.env scope.names [] y hm
 ·exact absurd (show false=true from z) A9
 ·exact%[B7 (B9 (hfl b hb) hC)|λ x c e=>(hf b hb).2.2.2.2.1 x c (sub x c e)]
 ·rcases(hf b hb).2.2.2.1 with z | z
  ·exact I.ok.noex b o e z
  ·exact absurd (B9 (A6 (I.ok.bs b o e).1) z) (C8 _)
 ·rcases Dx.mp (I.stkSub b z)with q | q
  ·exact(hf b hb).2.1 q
  ·exact(hf b hb).2.2.1 q
 ·have hi:own.length<=i:=by
   refine Nat.le_of_not_lt λ q=>?_;unfold bq at e2;rw[List.getElem?_append_left (by simpa using q),List.getElem?_replicate]at e2
   split at e2 <;> cases e2
  have e1':cs[i - own.length]?=some y:=by have e1:(own ++ cs)[i]?=some y:=e1;rwa [List.getElem?_append_right hi]at e1
  obtain⟨j,hj,hN,hm⟩:=ok.caps _ y e1';have hk:=ok.free _ hm rfl;have e2':σ[j]?=some (some v):=by
   unfold bq at e2;rw[List.getElem?_append_right (by simpa using hi),Eh,Dz,hj]at e2;have e2:(σ[j]?).join=some v:=by simpa using e2
   cases q:σ[j]? with
   | none=>rw[q]at e2;cases e2
   | some w=>rw[q]at e2;have:w=some v:=e2;rw[this]
  obtain⟨m,hn,hl⟩:=I.loc;obtain⟨u,ru,l⟩:=hl j y v hN e2' (by rcases hk with q | q;exact .inr (.inl q);exact .inr (.inr q));refine%[u,ru|.inr ?_];obtain⟨c,hc⟩:=eh X.env scope.names [] y hm;have hc':=sub y c hc;have cellu:h1.IsCell c (some u):=by
   rcases l with⟨k,_⟩ | ⟨k,c',e,o,ho,hd⟩
   ·rcases hk with q | q <;> (have z:X.env.kindOf y=_:=q;rw[k]at z;cases z)
   ·rw[hc']at e;cases e;exact%[o,old _ _ ho|hd]
  refine%[?_,c,hc|cellu];rcases e3 with z | z | z
  ·exfalso;have key:∀names:Et (Str×NameKind),True:=λ _=>trivial;have z:(relabel scope X.env).names.lookup y=some .local:=z;have zz:scope.names.lookup y=some .local:=by
    unfold relabel at z;dsimp only at z;revert z;generalize scope.names=names
    induction names with
    | nil=>intro z;simp at z
    | cons q r ih=>
     obtain⟨n,k⟩:=q;intro z;rw[EG]at z
     by_cases hb:(k == NameKind.free && X.env.scope.kind == .function && X.env.kindOf n == some .cell)=true
     ·dsimp only at z;rw[Ez hb,ER]at z;rw[ER];cases hx:y == n with
      | true=>rw[hx]at z;cases z
      | false=>rw[hx]at z;exact ih z
     ·dsimp only at z;rw[E1 hb,ER]at z;rw[ER];cases hx:y == n with
      | true=>rw[hx]at z;exact z
      | false=>rw[hx]at z;exact ih z
   have:=ok.free2 y hm zz;exact this
  ·exact .inl z
  ·exact .inr z
 ·obtain⟨v,o,ho,hd⟩:=I.cell y c (sub y c e);exact%[v,o,old _ _ ho|hd]
 ·have hp':p∈X.pn ++ Ev:=by have:p∈(X.pn ++ Ev) ++ []:=hp;simpa using this
  obtain⟨e,n,ne,nf,d⟩:=I.pin p hp';refine%[old _ _ e,n,B7 (B9 (A6 e) hC),λ z=>?_|d];rcases Dx.mp (I.stkSub p.1 z)with q | q
  ·exact ne q
  ·exact nf q
 ·show(bq σ cap own.length).length=(own ++ cs).length;unfold bq;rw[Dw,Eh,Dv,Dw,ok.len]
end
section
variable {X:Cx} {Ev:Et (Eo×Obj)} {σ:St} {H2:Hp} {s2:DY} {scope:Scope} {own cs:Et Str} {cap:Et Nat} {fp:Et Eo} {it:Eo} {tn:Nat->Heap->Prop}
 {elt tg iter:Expr} {ifs:Et Expr} {pos:Pos} {J:It} {g:TG} {tt:TT} {te:TE} {E:Dp->DY->Prop} {W:Nat->Nat->Et V->Hp->Prop} {Qf:Et V->Hp->Prop}
structure BlkEnd (X:Cx) (Ev:Et (Eo×Obj)) (σ:St) (Qf:Et V->Hp->Prop) (D C:Eo) (s':Shared):Prop where
 ex:∃ (ys:Et V) (H':Hp),H' D=none/\Qf ys H'/\Inv X Ev σ (upd H' D (.lst ys)) s'/\dr X Ev (upd H' D (.lst ys)) C
 ns:∃m,s'.heap.Ns C m
theorem Inv.bareP {pins':Et (Eo×Obj)} {H:Hp} {s:DY} (I:Inv X pins' σ H s):Inv X [] σ H s:=I.pins_of λ p hp=>absurd hp (by simp)
theorem hV {RR:Dp->Eo->Result->DY->Prop} (I:Inv X Ev σ H2 s2) (ok:CompOk X scope own cs cap) (hc:X.calm=true) (T:Turn X.prog X.w X.K tg J fp it tn) (st:tn 0 s2.heap) (hf:∀b∈fp,dr X Ev H2 b)
  (hg:∀C,PG (aK X Ev s2 H2 scope C (own ++ cs) fp) tg g) (hi:∀C,hI (aK X Ev s2 H2 scope C (own ++ cs) fp) ifs tt) (he:∀C,PE (aK X Ev s2 H2 scope C (own ++ cs) fp) elt te)
  (w0:∃m,W 0 m [] H2) (turn:hU σ cap own.length J g tt te Qf W)
  (hRR:∀D C s',BlkEnd X Ev σ Qf D C s'->RR (.ref D) C (.ok .next) s') :
  wpAny (model X.prog X.w) X.A (newList []) (λ acc s₃=>wpAny (model X.prog X.w) X.A (newFunctionEnv scope X.env.globals (aX X.env scope.names []) [] X.env.qual none .none (some X.env)) (λ cenv s₄=>
   codeAny (model X.prog X.w) X.A (.compStart (.ListComp elt [%[tg,iter,ifs|0]] scope pos) 0 (.ref it) acc { cenv with scope:=relabel scope X.env }) (RR acc cenv.locals) s₄) E s₃) E s2:=by
 refine DQ (wpAny_newFunctionEnv ok.cell (by intro y hy;simp at hy) (λ h₁ hns₁ hsb₁=>?_) ok.kind);dsimp only at hns₁ hsb₁ ⊢;generalize hHH:s2.heap.push { cls:=.type "list",dict:=none,data:=.seq ([]:Et Dp).toArray }=HH at hns₁ hsb₁ ⊢;have hCs:HH.objs.size=s2.heap.objs.size+1:=by rw[<- hHH,Heap.size_push]
 have hDC:s2.heap.objs.size≠HH.objs.size:=by rw[hCs];exact B7 (DH _)
 have hCle:s2.heap.objs.size<=HH.objs.size:=by rw[hCs];exact Nat.le_succ _
 have hfl:∀b∈fp,b < s2.heap.objs.size:=λ b hb=>by obtain⟨o,e,_⟩:=T.obj 0 _ st b hb;exact A6 e
 have old:∀b o,s2.heap.get? b=some o->h₁.get? b=some o:=λ b o e=>hsb₁.extBut b o (by rw[hCs];exact B7 (Nat.lt_succ_of_lt (A6 e))) (A4 _ (hHH ▸ A4 _ e));have hacc:h₁.PlainList s2.heap.objs.size #[]:=%[_|hsb₁.extBut _ _ hDC (A4 _ (hHH ▸ A5 _ rfl))]
 generalize hD:s2.heap.objs.size=D at *;generalize hCC:HH.objs.size=C at *;have hns₁':h₁.Ns C (λ _=>none):=hns₁;have I0:Inv (aK X Ev s2 H2 scope C (own ++ cs) fp) [] (bq σ cap own.length) H2 { s2 with heap:=h₁,toks:=s2.toks+([]:Et (Str×Dp)).length } :=
  fX I ok hf (λ b hb=>by rw[hD];exact hfl b hb) (by rw[hD];exact hCle) hns₁' old
 have Dfs:D∉frs X.stack:=λ hb=>by obtain⟨_,o,ho,_⟩:=I.stack.mem hb;exact absurd (A6 ho) (by rw[hD];exact C8 _)
 have Dfp:∀b∈fp,D≠b:=λ b hb z=>absurd (hfl b hb) (by rw[<- z];exact C8 _);have clt:∀x c,(aX X.env scope.names []).lookup x=some c->c < D:=λ x c e=>by have e':=bY X.env scope.names [] x c (λ y hy e=>I.ok.has y.1 (ok.free y hy e)) (λ _ _ z=>by simp at z) e;obtain⟨v,o,ho,_⟩:=I.cell x c e';have:=A6 ho;rw[hD]at this;exact this
 have plt:∀p∈X.pn ++ Ev,p.1 < D:=λ p hp=>by have:=A6 (I.pin p hp).1;rw[hD]at this;exact this
 have stat:∀ {H':Hp} {ob:Obj},(∀b∈fp,H' b=none)->∀b∈fp,dr (aK X Ev s2 H2 scope C (own ++ cs) fp) [(D,ob)] H' b:=λ {H' ob} hn b hb=>by
  have q:=I0.ok.exf b hb;refine%[hn b hb,q.1,I0.ok.exfs b hb,.inl hb,q.2|λ p hp=>?_];rcases C0.mp hp with z | z
  ·exact(hf b hb).2.2.2.2.2 p z
  ·have:p=(D,ob):=by simpa using z
   subst this;exact Dfp b hb
 have loop:codeAny (model X.prog X.w) X.A (.compLoop (.ListComp elt [%[tg,iter,ifs|0]] scope pos) 0 (.ref it) (.ref D) (compEnvC scope (aX X.env scope.names []) C X.env)) (RR (.ref D) C)
   { s2 with heap:=h₁,toks:=s2.toks+([]:Et (Str×Dp)).length }:=by
  obtain⟨m0,w0⟩:=w0;refine codeAny_loop rfl (λ n s'=>∃i H' its ys,Inv (aK X Ev s2 H2 scope C (own ++ cs) fp) [] (bq σ cap own.length) H' s'/\tn i s'.heap/\(∀b∈fp,H' b=none)/\s'.heap.PlainList D its.toArray/\Vals ys its/\H' D=none/\W i n ys H') ?_ m0
   %[0,H2,[],[],I0,T.keep 0 _ _ st λ b _ o e=>old b o e,λ b hb=>(hf b hb).1,hacc,.nil,I.hok.fresh (by rw[hD];exact B0 _)|w0]
  rintro n s3 ⟨i,H3,its,ys,I3,st3,fr3,⟨nn,pl3⟩,rv3,hD3,w3⟩;show wpAny _ X.A ((compTurn (.ListComp elt [%[tg,iter,ifs|0]] scope pos) 0 (.ref it) (.ref D) (compEnvC scope (aX X.env scope.names []) C X.env)).onRaise (λ x=>do noteFrame x (compEnvC scope (aX X.env scope.names []) C X.env);theTreesLotGoes x)) _ _ s3;refine wpAny_noted ?_;rw[compTurn_list];refine A0 (FF (A0 ?_));have I3':Inv (aK X Ev s2 H2 scope C (own ++ cs) fp) [(D,{ cls:=.type "list",data:=.seq its.toArray nn })] (bq σ cap own.length) H3 s3 :=
   I3.pins_of λ p hp=>by
    have:p=(D,{ cls:=.type "list",data:=.seq its.toArray nn }):=by simpa using hp
    subst this;exact%[pl3,hD3,hDC,Dfs|λ v z=>by cases z]
  rcases turn i n ys H3 w3 with⟨stop,hz,qf⟩ | ⟨go,hz,step⟩
  ·refine thn (T.done (aK X Ev s2 H2 scope C (own ++ cs) fp) rfl rfl rfl hc i _ s3 _ H3 _ I3' (stat fr3) st3 stop) λ r s4 %[hr|I4]=>?_;subst hr;refine A1 (hRR D C s4 %[%[ys,H3,hD3,qf,?_|?_]|?_])
   ·have pl4:=(I4.pin (D,_) (A2 _ (C9.mpr rfl))).1;have u4:=I4.base;have Ds2:s2.heap.get? D=none:=Heap.get?_none_of_le (by rw[hD];exact B0 _);refine I.call' (s':=s4) (ch:=fp) I4.os %[u4.keep,u4.slot,λ b o e n hx=>?_,u4.there,λ b xs e=>?_,λ b o u e=>?_|λ b ps e=>?_] ?_ I4.bare λ b hb=>%[(hf b hb).2.2.2.1,(hf b hb).2.1,(hf b hb).2.2.2.2.1|(hf b hb).2.2.2.2.2]
    ·rw[ao (λ z=>by rw[z,Ds2]at e;cases e)];exact u4.free b o e n hx
    ·have:=u4.tups b xs e;rw[ao (ak this hD3)];exact this
    ·have:=u4.frzs b o u e;rw[ao (ak this hD3)];exact this
    ·obtain⟨more,e'⟩:=u4.tbls b ps e;exact%[more|by rw[ao (ak e' hD3)];exact e']
    ·exact I4.hok.add hD3 %[hz,its,nn,rv3|pl4]
   ·have CH:(upd H3 D (.lst ys)) C=none:=by rw[ao (Ne.symm hDC)];exact I4.free
    exact I.fpOk (H':=upd H3 D (.lst ys)) (by rw[hD];exact hCle) CH
   ·obtain⟨m,hn,_⟩:=I4.loc;exact%[m|hn]
  ·refine thn (T.item (aK X Ev s2 H2 scope C (own ++ cs) fp) rfl rfl rfl hc i _ s3 _ H3 _ I3' (stat fr3) st3 go) λ r s4 %[u,hr|h4]=>?_;subst hr;refine A0 (thn h4 λ _ s5 %[x,H5,I5,r5,y5,st5|fr5]=>?_);have I5':=I5.pinned (stat fr5) (T.obj _ _ st5);refine A0 (E4 (hg C _ s5 _ H5 x u _ I5' r5 (step x H5 y5)) (λ _ s6 ⟨σ6,H6,I6,le6,q6⟩=>?_) λ _ _ z=>DF z);refine A0 (E4 (hi C _ s6 σ6 H6 _ I6 q6) (λ b s7 ⟨H7,I7,q7⟩=>?_) λ _ _ z=>DF z);have back:∀ {pins':Et (Eo×Obj)} {H8:Hp} {s8:DY},Inv (aK X Ev s2 H2 scope C (own ++ cs) fp) pins' σ6 H8 s8->Inv (aK X Ev s2 H2 scope C (own ++ cs) fp) [] (bq σ cap own.length) H8 s8:=λ I8=>
    I8.bareP.weak le6.1.symm λ i v e=>le6.2 i v e
   cases b with
   | false=>
    rw[E1 A9]at q7;obtain⟨m',hm,w7⟩:=q7;refine A1 %[rfl,m',hm,i+1,H7,its,ys,back I7,T.keep _ _ _ st5 λ b hb o e=>?_,λ b hb=>?_,%[nn|?_],rv3,?_|w7]
    ·exact(I7.pin (b,o) (A2 _ (A2 _ (aY hb e)))).1
    ·obtain⟨o,e,d⟩:=T.obj _ _ st5 b hb;exact(I7.pin (b,o) (A2 _ (A2 _ (aY hb e)))).2.1
    ·exact(I7.pin (D,_) (A2 _ (B3 _ (C9.mpr rfl)))).1
    ·exact(I7.pin (D,_) (A2 _ (B3 _ (C9.mpr rfl)))).2.1
   | true=>
    rw[Ez rfl]at q7;refine A0 (A0 (E4 (he C _ s7 σ6 H7 _ I7 q7) (λ y s8 ⟨v,H8,I8,r8,m',hm,w8⟩=>?_) λ _ _ z=>DF z));have pD:=I8.pin (D,{ cls:=.type "list",data:=.seq its.toArray nn }) (A2 _ (B3 _ (C9.mpr rfl)));have Ex:=rv3.length;refine A0 (wpAny_list_append_plain (hsz:=by rw[Dy];omega) %[nn|pD.1] λ h9 pl9 sb9=>A1 (A1 ?_));have I8':=back I8;refine%[U,m',hm,i+1,H8,its ++ [y],ys ++ [v],?_,T.keep _ _ _ st5 λ b hb o e=>?_,λ b hb=>?_,?_,rv3.append (.cons r8 .nil),pD.2.1|w8]
    ·exact I8'.turned (t':=s8.toks) (λ b o hb e=>sb9.extBut b o hb e) pD.2.1 hDC (.inr (by show s2.heap.objs.size<=D;rw[hD];exact B0 _)) (λ x c e=>B7 (clt x c e)) λ p hp=>by
      have hp':p∈X.pn ++ Ev:=by have:p∈(X.pn ++ Ev) ++ []:=hp;simpa using this
      exact B7 (plt p hp')
    ·exact sb9.extBut b o (Ne.symm (Dfp b hb)) (I8.pin (b,o) (A2 _ (A2 _ (aY hb e)))).1
    ·obtain⟨o,e,d⟩:=T.obj _ _ st5 b hb;exact(I8.pin (b,o) (A2 _ (A2 _ (aY hb e)))).2.1
    ·have e:its.toArray.push y=(its ++ [y]).toArray:=by simp
     rw[<- e];exact pl9
 exact codeAny_compStart_list loop (T.self _ 0 _ _ _ (T.keep 0 _ _ st λ b _ o e=>old b o e) loop)
def hZ (wi:TI) (cap:Et Nat) (k:Nat) (g:TG) (tt:TT) (te:TE):TE:=λ σ H Q=>wi σ H λ J H1=>
 ∃W:Nat->Nat->Et V->Hp->Prop,(∃m,W 0 m [] H1)/\hU σ cap k J g tt te (λ ys H'=>∀p,H' p=none->Q (.ref p) (upd H' p (.lst ys))) W
theorem dH {wi:TI} (hc:X.calm=true) (hit:PI X tg iter wi) (ok:CompOk X scope own cs cap)
  (hg:∀Ev s2 H2 C fp,PG (aK X Ev s2 H2 scope C (own ++ cs) fp) tg g) (hi:∀Ev s2 H2 C fp,hI (aK X Ev s2 H2 scope C (own ++ cs) fp) ifs tt) (he:∀Ev s2 H2 C fp,PE (aK X Ev s2 H2 scope C (own ++ cs) fp) elt te)
  (hs:∀x,foldedSetIterable iter X.env x=pure x:=by intro _;rfl):PE X (.ListComp elt [%[tg,iter,ifs|0]] scope pos) (hZ wi cap own.length g tt te):=by
 intro Ev s σ H Q I h;rw[eval_ListComp];refine wpAny_comprehension_free (use:=none) rfl hs (cO λ y hy e=>I.ok.has y.1 (ok.free y hy e)) ok.kind ok.names (thn (hit Ev s σ H _ I h) λ v s1 h1=>thn h1 λ itv s2 h2=>?_);obtain⟨it,fp,tn,J,H2,e,I2,T,st2,f2,W,w0,turn⟩:=h2;subst e;refine hV (RR:=λ acc C=>compPost (model X.prog X.w) X.A X.xe none (EP X Ev σ Q) acc C) I2 ok hc T st2 f2 (λ C=>hg _ _ _ _ _) (λ C=>hi _ _ _ _ _) (λ C=>he _ _ _ _ _) w0 turn λ D C s' B=>?_;obtain⟨⟨ys,H',hD,q,I',fp'⟩,m,hn⟩:=B;obtain⟨f0,f1,f2',f3,f4,f5⟩:=fp';exact%[m,hn|λ h' sb=>%[.ref D,_,I'.turned (t':=s'.toks) (λ b o hb e=>sb.extBut b o hb e) f0 f1 f3 f4 f5,U|q D hD]]
theorem gv {wi:TI} {i:Nat} {y:Str} {py spos:Pos} (hc:X.calm=true) (hN:X.N.Nodup) (hiy:X.N[i]?=some y) (hy:X.env.scope.names.lookup y=some .local)
  (hsw:swapsWith (.ListComp elt [%[tg,iter,ifs|0]] scope pos) (some (.Name y py)) spos.line X.env=pure true) (hit:PI X tg iter wi) (ok:CompOk X scope own cs cap)
  (hg:∀Ev s2 H2 C fp,PG (aK X Ev s2 H2 scope C (own ++ cs) fp) tg g) (hi:∀Ev s2 H2 C fp,hI (aK X Ev s2 H2 scope C (own ++ cs) fp) ifs tt) (he:∀Ev s2 H2 C fp,PE (aK X Ev s2 H2 scope C (own ++ cs) fp) elt te)
  (hs:∀x,foldedSetIterable iter X.env x=pure x:=by intro _;rfl):PS X (.Assign [.Name y py] (.ListComp elt [%[tg,iter,ifs|0]] scope pos) spos) (mt (hZ wi cap own.length g tt te) (gT i)):=by
 intro Ev s σ H D0 I h;rw[exec_Assign_Name_used _ _ _ _ hsw];refine A0 (FF (A0 ?_));show wpAny _ X.A (do let _<-comprehension (.ListComp elt [%[tg,iter,ifs|0]] scope pos) scope X.env _ (newList []) false (eval iter X.env) (some (assign (.Name y py) X.env))) _ _ s;refine A0 (E4 (wpAny_comprehension_free (use:=some (assign (.Name y py) X.env)) (Q:=λ _ s'=>SP X Ev D0 .next s') rfl hs (cO λ y hy e=>I.ok.has y.1 (ok.free y hy e)) ok.kind ok.names
  (thn (hit Ev s σ H _ I h) λ v s1 h1=>thn h1 λ itv s2 h2=>?_)) (λ _ s' hq=>A1 (A1 hq)) λ _ _ e=>e)
 obtain⟨it,fp,tn,J,H2,e,I2,T,st2,f2,W,w0,turn⟩:=h2;subst e;refine hV (RR:=λ acc C=>compPost (model X.prog X.w) X.A X.xe (some (assign (.Name y py) X.env)) (λ _ s'=>SP X Ev D0 .next s') acc C) I2 ok hc T st2 f2 (λ C=>hg _ _ _ _ _) (λ C=>hi _ _ _ _ _) (λ C=>he _ _ _ _ _) w0 turn λ D C s' B=>?_;obtain⟨⟨ys,H',hD,q,I',fp'⟩,m,hn⟩:=B;obtain⟨f0,f1,f2',f3,f4,f5⟩:=fp';show wpAny _ X.A (assign (.Name y py) X.env (.ref D)) _ _ _;refine wpAny_assign_Name (dY I' hN hiy (.inl hy) (v:=.ref D) rfl (λ s3 I3 ⟨a,sb,ha⟩=>?_) (.inr hy));have hCa:C≠a:=by
  rcases ha with z | z
  ·rw[z];exact f1
  ·exactλ q=>f4 y a z q.symm
 refine%[m,hn.sameBut sb hCa|λ h' sb'=>%[_,_,I3.turned (t':=s3.toks) (λ b o hb e=>sb'.extBut b o hb e) f0 f1 f3 f4 f5|q D hD]]
end
def CDivB (i j:Int):Prop:=0 < j/\j<=10 ^ 60
theorem CDivB.np {i j:Int} (h:CDivB i j):Builtin.divisionGoesByPylong i j=false:=by
 refine PyProof.noPylong_of_log2 ?_;have h1:j.natAbs < 2 ^ 200:=by obtain⟨a,b⟩:=h;omega
 have h2:j.natAbs.log2 < 200:=(Nat.log2_lt (by have:=h.1;omega)).mpr h1;omega
section
variable {X:Cx}
theorem mR:OpR X (binaryOp .FloorDiv) (rI CDivB λ i j=>.int (i / j)):=opI λ i j _ _ _ _ _ hc q=>by refine floordiv_int (by have:=hc.1;omega) ?_ (.inl hc.np);rw[Int.fdiv_eq_ediv_of_nonneg _ (by have:=hc.1;omega)];exact q
theorem Inv.kitx {Ev:Et (Eo×Obj)} {σ:St} {H:Hp} {s:DY} {x:V} {u t:Dp} (I:Inv X Ev σ H s) (rx:RelV x u) (ty:TyOf X.K H x t) :
  ∃P:Heap->Prop,PySem.W.KitX X.K u t P/\P s.heap/\u≠.builtin "__main__.__loader__#opaque" := by
 cases ty with
 | non=>cases(show u=Value.none from rx);exact%[_,PySem.W.kitx_none,True.intro|λ z=>nomatch z]
 | bl y=>cases(show u=Value.bool y from rx);exact%[_,PySem.W.kitx_bool,True.intro|λ z=>nomatch z]
 | int i=>obtain⟨t,q⟩:=(show∃t,u=Value.int i t from rx);cases q;exact%[_,PySem.W.kitx_int,True.intro|λ z=>nomatch z]
 | str y=>obtain⟨t,q⟩:=(show∃t,u=Value.str y t from rx);cases q;exact%[_,PySem.W.kitx_str,True.intro|λ z=>nomatch z]
 | flt y=>obtain⟨t,q⟩:=(show∃t,u=Value.float y t from rx);cases q;exact%[_,PySem.W.kitx_float,True.intro|λ z=>nomatch z]
 | @lst a xs ea=>
  cases(show u=Value.ref a from rx);obtain⟨_,_,n,_,h1⟩:=(show ObjOk X.prog X.w H s.heap a (.lst xs)from I.hok a _ ea)
  exact%[_,PySem.W.kitx_list,%[_,h1|U]|λ z=>nomatch z]
 | @frz a ob xs ea=>
  cases(show u=Value.ref a from rx);obtain⟨_,_,_,n,_,h1⟩:=(show ObjOk X.prog X.w H s.heap a (.frz ob (.lst xs))from I.hok a _ ea)
  exact%[_,PySem.W.kitx_list,%[_,h1|U]|λ z=>nomatch z]
 | @tup a xs ea=>
  cases(show u=Value.ref a from rx);obtain⟨_,_,_,p⟩:=(show ObjOk X.prog X.w H s.heap a (.tup xs)from I.hok a _ ea)
  obtain⟨o,h1,h2,_⟩:=p;exact%[_,PySem.W.kitx_tuple,%[o,h1|h2]|λ z=>nomatch z]
 | @dK a kvs ea=>
  cases(show u=Value.ref a from rx);obtain⟨_,_,vs,_,p⟩:=(show ObjOk X.prog X.w H s.heap a (.dK kvs)from I.hok a _ ea)
  obtain⟨o,es,ep,h1,h2,_⟩:=p;exact%[_,PySem.W.kitx_dict,%[o,h1|h2.1]|λ z=>nomatch z]
 | @dT a kvs ea=>
  cases(show u=Value.ref a from rx);obtain⟨_,_,xs,_,o,es,ep,h1,h2,_⟩:=(show ObjOk X.prog X.w H s.heap a (.dT kvs)from I.hok a _ ea)
  exact%[_,PySem.W.kitx_dict,%[o,h1|h2.1]|λ z=>nomatch z]
 | @ext a φ ea c=>
  cases(show u=Value.ref a from rx);obtain⟨p,_,_⟩:=(show ObjOk X.prog X.w H s.heap a (.ext φ)from I.hok a _ ea)
  obtain⟨o,h1,h2⟩:=c _ p;exact%[_,PySem.W.kitx_dict,%[o,h1|h2]|λ z=>nomatch z]
 | @ins a C dx fs ea cl ha hn htk hm=>
  cases(show u=Value.ref a from rx);obtain⟨mA,O,_⟩:=dE I.hok ea;obtain⟨od,J,_⟩:=O.look;exact%[_,PySem.W.kitx_own (cl.get _) cl.hd ha hn htk hm,J|λ z=>nomatch z]
def clV:V->Er Value
 | .ty T=>some (.type T)
 | .ref C=>↑C
 | _=>none
theorem clV.rel {v:V} {u c:Dp} (e:clV v=some c) (r:RelV v u):u=c:=by
 cases v with
 | ty T=>have e':Value.type T=c:=B6 e;rw[<- e'];exact r
 | ref C=>have e':Value.ref C=c:=B6 e;rw[<- e'];exact r
 | _=>cases e
def clVs:Et V->Er (Et Dp)
 | []=>some []
 | v :: r=>match clV v,clVs r with
  | some c,some cs=>some (c :: cs)
  | _,_=>none
theorem clVs.rel:∀ {vs:Et V} {us cs:Et Dp},clVs vs=some cs->Vals vs us->us=cs
 | [],_,_,e,.nil=>B6 e
 | v :: r,_,_,e,.cons r1 r2=>by
  unfold clVs at e
  split at e
  ·rename_i c cs' e1 e2
   cases e;rw[clV.rel e1 r1,clVs.rel e2 r2]
  ·cases e
inductive rz_call_isinst (K:C4) (xs:Et V) (H:Hp) (Q:VK):Prop
 | mk (x:_) (cv:_) (t:_) (c:_) (b:_) (e_0:xs=[x,cv]) (e_1:TyOf K H x t) (e_2:clV cv=some c) (e_3:PySem.W.kitOne K t c=some b) (e_4:Q (.bl b) H):rz_call_isinst K xs H Q
theorem cq:cf X (.builtin "isinstance") (rz_call_isinst X.K):=by
 intro Ev s σ H xs us Q I rv h;obtain⟨x,cv,t,c,b,rfl,ty,e1,e2,q⟩:=h;cases rv with
 | cons r1 rr=>
  cases rr with
  | cons r2 rr=>
   cases rr;rw[clV.rel e1 r2];exact lg I r1 ty e2 λ tk=>%[.bl b,H,I.tok tk,U|q]
inductive rz_call_isinstT (K:C4) (xs:Et V) (H:Hp) (Q:VK):Prop
 | mk (x:_) (p:_) (t:_) (cvs:_) (cs:_) (b:_) (e_0:xs=[x,.ref p]) (e_1:TyOf K H x t) (e_2:H p= ~~~cvs) (e_3:clVs cvs=some cs) (e_4:PySem.W.kitAny K t cs=some b) (e_5:Q (.bl b) H):rz_call_isinstT K xs H Q
theorem gw:cf X (.builtin "isinstance") (rz_call_isinstT X.K):=by
 intro Ev s σ H xs us Q I rv h;obtain⟨x,p,t,cvs,cs,b,rfl,ty,hp,e1,e2,q⟩:=h;cases rv with
 | cons r1 rr=>
  cases rr with
  | cons r2 rr=>
   cases rr;cases r2;obtain⟨_,its,rits,o,ho,hc,n,hd⟩:=I.hok p _ hp;obtain⟨P,Z,p1,p2⟩:=I.kitx r1 ty;obtain⟨oc,od,dt,osl⟩:=o
   replace hc:oc=.type "tuple" := hc
   replace hd:dt=.seq its.toArray n:=hd
   subst hc hd;have e3:=clVs.rel e1 rits;subst e3;exact PySem.W.kia_tup Z I.kIn p1 ho e2 p2 λ tk=>%[.bl b,H,I.tok tk,U|q]
end
mutual
inductive DatV (K:C4) (H:Hp):V->PyData->Prop
 | non:DatV K H .non .none
 | bl (b:Bool):DatV K H (.bl b) (.bool b)
 | int (i:Int):DatV K H (.int i) (.int i)
 | str (x:Str):DatV K H (.str x) (.str x)
 | lst {a:Eo} {xs:Et V} {ds:Et PyData}:SqL K H a xs->DatVs K H xs ds->DatV K H (.ref a) (.list ds)
 | tup {a:Eo} {xs:Et V} {ds:Et PyData}:SqT K H a xs->DatVs K H xs ds->DatV K H (.ref a) (.tuple ds)
inductive DatVs (K:C4) (H:Hp):Et V->Et PyData->Prop
 | nil:DatVs K H [] []
 | cons {x:V} {d:PyData} {xs:Et V} {ds:Et PyData}:DatV K H x d->DatVs K H xs ds->DatVs K H (x :: xs) (d :: ds)
end
section
variable {X:Cx} {Ev:Et (Eo×Obj)} {σ:St} {H:Hp} {s:DY}
mutual
theorem Inv.reads (I:Inv X Ev σ H s):∀ {v:V} {d:PyData},DatV X.K H v d->∀ {u:Dp},RelV v u->∃as,Reads s.heap u d as
 | _,_,.non,u,r=>by cases(show u=Value.none from r);exact%[_|.none]
 | _,_,.bl b,u,r=>by cases(show u=Value.bool b from r);exact%[_|.bool b]
 | _,_,.int i,u,r=>by obtain⟨t,e⟩:=(show∃t,u=Value.int i t from r);subst e;exact%[_|.int i t]
 | _,_,.str x,u,r=>by obtain⟨t,e⟩:=(show∃t,u=Value.str x t from r);subst e;exact%[_|.str x t]
 | _,_,.lst (a:=a) h hs,u,r=>by cases(show u=Value.ref a from r);obtain⟨its,rv,⟨o,n,e,c,_,d⟩,_⟩:=I.list h;obtain⟨as,ra⟩:=I.readsAll hs rv;exact%[_|.list e c d (by simpa using ra)]
 | _,_,.tup (a:=a) h hs,u,r=>by cases(show u=Value.ref a from r);obtain⟨its,rv,⟨o,e,c,n,d⟩,_⟩:=I.tuple h;obtain⟨as,ra⟩:=I.readsAll hs rv;exact%[_|.tuple e c d (by simpa using ra)]
theorem Inv.readsAll (I:Inv X Ev σ H s):∀ {vs:Et V} {ds:Et PyData},DatVs X.K H vs ds->∀ {us:Et Dp},Vals vs us->∃as,ReadsAll s.heap us ds as
 | _,_,.nil,_,.nil=>%[_|.nil]
 | _,_,.cons h hs,_,.cons r rs=>by obtain⟨as,ra⟩:=I.reads h r;obtain⟨bs,rb⟩:=I.readsAll hs rs;exact%[_|.cons ra rb]
end
end
section
variable {X:Cx}
inductive rz_op_neD (K:C4) (x:V) (y:V) (H:Hp) (Q:VK):Prop
 | mk (da:_) (db:_) (e_0:DatV K H x da) (e_1:DatV K H y db) (e_2:SeqAt.shaped da=true) (e_3:SeqAt.shaped db=true) (e_4:Q (.bl (!PyData.eqv da db)) H):rz_op_neD K x y H Q
inductive rz_op_eqD (K:C4) (x:V) (y:V) (H:Hp) (Q:VK):Prop
 | mk (da:_) (db:_) (e_0:DatV K H x da) (e_1:DatV K H y db) (e_2:SeqAt.shaped da=true) (e_3:SeqAt.shaped db=true) (e_4:Q (.bl (PyData.eqv da db)) H):rz_op_eqD K x y H Q
end
section
variable {prog:Dl} {w:Do} {A:Around} {E:Dp->DY->Prop}
theorem fk {it l:Eo} {items:Es Dp} (hne:l≠it):∀ (n i:Nat) (s:DY) (Q:Et Dp->DY->Prop),s.heap.IsListIter it l i->s.heap.IsList l items->i+n<=items.size ->
  (∀h',h'.IsListIter it l (i+n)->Heap.SameBut it s.heap h'->Q ((items.toList.drop i).take n) { s with heap:=h' })->wpAny (model prog w) A (draw (.ref it) n) Q E s
 | 0,i,s,Q,hit,_,_,hQ=>by show wpAny _ _ (pure []) Q E s;exact A1 (by simpa using hQ s.heap hit (Heap.SameBut.refl ..))
 | n+1,i,s,Q,hit,ht,hle,hQ=>by
  have hlt:i < items.size:=⋯
  show wpAny _ _ (pyNext (.ref it) >>= _) Q E s;refine A0 (wpAny_pyNext_list_item hit ht (x:=items[i]) (by simp[hlt]) λ h₁ hit₁ hs₁=>?_);refine A0 (E8 (fk hne n (i+1) _ _ hit₁ (ht.extBut hs₁.extBut hne) ⋯ λ h₂ hit₂ hs₂=>A1 ?_));have hd:items.toList.drop i=items[i] :: items.toList.drop (i+1):=by simp[List.drop_eq_getElem_cons,hlt]
  have q:=hQ h₂ (by rw[show i+(n+1)=i+1+n by omega];exact hit₂) (hs₁.trans hs₂);rw[hd,List.take_succ_cons]at q;exact q
theorem dI {s:DY} {l:Eo} {items:Es Dp} {Q:Et Dp->DY->Prop} (hh:A.handled=none) (ht:s.heap.IsList l items)
  (hQ:∀h',Heap.ExtBut s.heap.objs.size s.heap h'->Q items.toList { s with heap:=h' }):wpAny (model prog w) A (unpackItems (.ref l) items.size none) Q E s:=by
 have hlt:l≠s.heap.objs.size:=by obtain⟨o,ho,_⟩:=ht;exact B7 (A6 ho)
 have hp:(s.heap.push { cls:=.type "list_iterator",data:=.fields #[.ref l,.int 0 0] }).IsList l items:=by obtain⟨o,ho,r⟩:=ht;exact%[o,A4 _ ho|r]
 unfold unpackItems;refine A0 ?_
 ·unfold notIterableAtAll;refine A0 (wpAny_specialOf ht.typeIs PySem.slot_list_iter.lookup ?_);refine A1 ?_;simp only[Bool.false_eq_true,if_false];refine A0 (E8 (wpAny_pyIter_list ht ?_));refine A0 (E8 (fk hlt items.size 0 _ _ %[_,A5 _ rfl,rfl|rfl] hp ⋯ λ h₁ hit₁ hs₁=>?_));have hall:List.take items.size (List.drop 0 items.toList)=items.toList:=by rw[List.drop_zero];exact EK (by simp)
  rw[hall];rw[E1 (by simp)];have ht₁:h₁.IsList l items:=hp.extBut hs₁.extBut hlt;refine A0 (E8 (wpAny_pyNext_list_end hh hit₁ ht₁ (by simp) λ h₂ he₂=>?_));simp only[Option.isSome_none,Bool.false_eq_true,if_false];refine A1 (hQ h₂ λ b o hb e=>he₂ b o hb (hs₁.extBut b o hb (A4 _ e)))
theorem dv {s:DY} {env:Env} {elts:Et Expr} {x1} {pos:Pos} {l:Eo} {items:Es Dp} {Q:Unit->DY->Prop} (hh:A.handled=none) (ht:s.heap.IsList l items)
  (hn:(assignEach elts env).length=items.size) (hstar:(assignEach elts env).findIdx? (·.1)=none)
  (h:∀h',Heap.ExtBut s.heap.objs.size s.heap h'->wpAny (model prog w) A (assignInOrder ((assignEach elts env).map (·.2)) items.toList) Q E { s with heap:=h' }) :
  wpAny (model prog w) A (assign (.Tuple elts x1 pos) env (.ref l)) Q E s:=by
 rw[assign_Tuple];refine A0 (FF ?_);unfold unpack;rw[hn,hstar];exact A0 (E8 (dI hh ht h))
end
section
variable {X:Cx} {pos:Pos}
def Bh (K:C4) (n:Nat) (t:TGs):TG:=λ v σ H Q=>∃a xs,v=.ref a/\(SqL K H a xs\/SqT K H a xs)/\xs.length=n/\t xs σ H Q
theorem mS {es:Et Expr} {k:Nat} {t:TGs} {n:Nat} (hc:X.calm=true) (h:PGs X es t)
  (hn:(assignEach es X.env).length=n:=by rfl) (hst:(assignEach es X.env).findIdx? (·.1)=none:=by rfl):PG X (.Tuple es k pos) (Bh X.K n t):=by
 intro Ev s σ H v u Q I r hw;obtain⟨a,xs,e1,hq,hl,hw⟩:=hw;rcases hq with hq | hq
 ·subst e1;cases r;obtain⟨its,rv,ht,hz⟩:=I.list hq;refine dv (I.ok.hd hc) ht.isList (by simp[hn,<- hl,rv.length]) hst λ h' hx=>?_;have I1:Inv X Ev σ H { s with heap:=h' }:=I.kept (t':=s.toks) λ b o e=>hx b o (B7 (A6 e)) e;exact h Ev _ σ H xs _ Q I1 (by simpa using rv) hw
 ·exact iM hc h hn hst Ev s σ H v u Q I r %[a,xs,e1,hq,hl|hw]
end
structure ZipAp (z TI TO i1 i2:Eo):Prop where
 nd:[z,TI,TO,i1,i2].Nodup
end L2
namespace L2
open PySem PySem.Spec PyProof.Rows
def Dn (P:Dl) (w:Do) (K:C4) (mg:Str->Er Dp) (base:Heap) (x:Str) (ps:Et Str) (k:Nat) (sp:Sp):Prop :=
 ∃ (f:Eo) (fd:Dm),FnOk P w K mg base CX0 k f fd ps sp/\Binds K fd ps []/\PySem.W.keepIn K (.ref f)=true/\mg x=↑f
theorem ay {X:Cx} {k:Nat} {ps:Et Str} {sp:Sp} {x:Str} {p pos:Pos} {e:Expr} {es:Et Expr} {t:TA} (D:Dn X.prog X.w X.K X.mg X.base x ps k sp) (hr:Room k X.A) (hg:Gl X x) (ha:PA X (e :: es) t)
  (hdb:(x == ("__debug__" : Str))=false:=by decide) (he:starEach (e :: es) X.env=(false,eval e X.env) :: starEach es X.env:=by rfl) (hpl:(backTo pos (starEach es X.env)).any (·.1)=false:=by rfl) :
  PE X (.Call (.Name x p) (e :: es) [] pos) (qR sp [] E0 t):=by
 obtain⟨f,fd,F,hb,hk,hm⟩:=D;exact oR F hr hg hm hk hb .nil qU ha hdb he hpl
def kh (sc:Scope) (N:Et Str) (scope:Scope) (own cs:Et Str) (cap:Et Nat):Bool :=
 decide (scope.kind=.function) && scope.names.all (λ y=>decide (y.2≠.cell)) && scope.names.all (λ y=>decide (y.2=.local->scope.names.lookup y.1=some .local)) &&
 scope.names.all (λ y=>decide (y.2=.free->sc.names.lookup y.1=some .cell\/sc.names.lookup y.1=some .free)) && own.all (λ y=>decide (scope.names.lookup y=some .local)) &&
 decide (cs.length=cap.length) && (cs.zip cap).all (λ y=>decide (N[y.2]?=some y.1) && decide ((y.1,NameKind.free)∈scope.names)) && scope.names.all (λ y=>decide (y.2=.free->scope.names.lookup y.1≠some .local))
theorem bj {X:Cx} {sc:Scope} {N:Et Str} {scope:Scope} {own cs:Et Str} {cap:Et Nat} (h1:X.env.scope=sc) (h2:X.N=N) (h:kh sc N scope own cs cap=true):CompOk X scope own cs cap:=by
 subst h1 h2;unfold kh at h;simp only[EL,Eg,FD]at h;obtain⟨⟨⟨⟨⟨⟨⟨a1,a2⟩,a3⟩,a4⟩,a5⟩,a6⟩,a7⟩,a8⟩:=h;refine%[a1,a2,a3,a4,λ i y e=>?_,a5,a6|λ y hy e=>a8 _ hy rfl e];have hi:i < cs.length:=(A3.mp e).1;have hj:i < cap.length:=by rw[<- a6];exact hi
 refine%[cap[i],DJ hj|?_];have hm:(y,cap[i])∈cs.zip cap:=by
  have:(cs.zip cap)[i]?=some (y,cap[i]):=by rw[List.getElem?_zip_eq_some];exact%[e|DJ hj]
  exact B2 this
 exact a7 _ hm
theorem bM {σ:St} {H:Hp} {A B:Hp->Prop} (h:A H):xt σ H (λ ok H3=>if ok=true then A H3 else B H3):=by show(if (true:Bool)=true then A H else B H);rw[Ez rfl];exact h
section
variable {X:Cx} {tg:Expr}
def rH (K:C4) (tl:TE):TI:=λ σ H R=>qJ K tl σ H R\/xc K tl σ H R
theorem mT {l:Expr} {tl:TE} (hl:PE X l tl):PI X tg l (rH X.K tl):=by
 intro Ev s σ H R I h;rcases h with h | h
 ·exact ck hl Ev s σ H R I h
 ·exact mw hl Ev s σ H R I h
end
def aL:Et String:=["NoneType","bool","int","str","list","tuple","dict"]
theorem oX {K:C4}:∀T∈aL,PySem.W.kitOne K (.type T) (.type "int")=some (T == "int" || T == "bool"):=by intro T h;simp only[aL,Dx,EH,FV]at h;rcases h with rfl | rfl | rfl | rfl | rfl | rfl | rfl <;> kernel_rfl
theorem ia {K:C4}:∀T∈aL,PySem.W.kitOne K (.type T) (.type "bool")=some (T == "bool"):=by intro T h;simp only[aL,Dx,EH,FV]at h;rcases h with rfl | rfl | rfl | rfl | rfl | rfl | rfl <;> kernel_rfl
theorem mU {K:C4}:∀T∈aL,PySem.W.kitOne K (.type T) (.type "list")=some (T == "list"):=by intro T h;simp only[aL,Dx,EH,FV]at h;rcases h with rfl | rfl | rfl | rfl | rfl | rfl | rfl <;> kernel_rfl
theorem lv {K:C4}:∀T∈aL,PySem.W.kitOne K (.type T) (.type "tuple")=some (T == "tuple"):=by intro T h;simp only[aL,Dx,EH,FV]at h;rcases h with rfl | rfl | rfl | rfl | rfl | rfl | rfl <;> kernel_rfl
theorem ki {K:C4}:∀T∈aL,PySem.W.kitOne K (.type T) (.type "str")=some (T == "str"):=by intro T h;simp only[aL,Dx,EH,FV]at h;rcases h with rfl | rfl | rfl | rfl | rfl | rfl | rfl <;> kernel_rfl
theorem oY {K:C4}:∀T∈aL,PySem.W.kitAny K (.type T) [.type "list",.type "tuple"]=some (T == "list" || T == "tuple"):=by
 intro T h;have h1:=mU (K:=K) T h;have h2:=lv (K:=K) T h;unfold PySem.W.kitAny;rw[h1];cases e:(T == "list")with
 | true=>rfl
 | false=>
  show PySem.W.kitAny K (.type T) [.type "tuple"]=_;unfold PySem.W.kitAny;rw[h2];cases e2:(T == "tuple") <;> rfl
def Ty (K:C4) (H:Hp) (x:V) (T:String):Prop:=T∈aL/\TyOf K H x (.type T)
theorem Ty.int {K:C4} {H:Hp} {i:Int}:Ty K H (.int i) "int" := %[by simp[aL]|.int i]
theorem Ty.bl {K:C4} {H:Hp} {b:Bool}:Ty K H (.bl b) "bool" := %[by simp[aL]|.bl b]
theorem Ty.non {K:C4} {H:Hp}:Ty K H .non "NoneType" := %[by simp[aL]|.non]
theorem Ty.str {K:C4} {H:Hp} {x:Str}:Ty K H (.str x) "str" := %[by simp[aL]|.str x]
theorem Ty.lst {K:C4} {H:Hp} {a:Eo} {xs:Et V} (e:H a=↥xs):Ty K H (.ref a) "list" := %[by simp[aL]|.lst e]
theorem Ty.tup {K:C4} {H:Hp} {a:Eo} {xs:Et V} (e:H a= ~~~xs):Ty K H (.ref a) "tuple" := %[by simp[aL]|.tup e]
theorem Ty.dK {K:C4} {H:Hp} {a:Eo} {xs:Et (Key×V)} (e:H a=some (.dK xs)):Ty K H (.ref a) "dict" := %[by simp[aL]|.dK e]
def bA:V->Int->Bool
 | .int i,l=>decide (l<=i)
 | _,_=>false
def mV:V->Bool
 | .bl _=>true
 | _=>false
theorem rJ {K:C4} {H:Hp} {x:V} {T:String} (t:TyOf K H x (.type T)) (h:T∈aL):(T == "int")=true->∃i,x=.int i:=by
 intro e;have e':T = "int" := by simpa using e
 subst e';generalize hv:Value.type "int" = tv at t;cases t with
 | int i=>exact%[i|U]
 | _=>exact absurd hv (by simp)
theorem kj {K:C4} {H:Hp} {x:V} {T:String} (t:TyOf K H x (.type T)):(T == "bool")=mV x:=by
 generalize hv:Value.type T=tv at t;cases t with
 | bl b=>cases hv;rfl
 | non=>cases hv;rfl
 | int i=>cases hv;rfl
 | str i=>cases hv;rfl
 | flt i=>cases hv;rfl
 | lst i=>cases hv;rfl
 | frz i=>cases hv;rfl
 | tup i=>cases hv;rfl
 | dK i=>cases hv;rfl
 | dT i=>cases hv;rfl
 | ext i _=>cases hv;rfl
 | ins=>cases hv
end L2
local macro_rules|`($a ^^^ $b)=>`(@L2.ae _ _ _ _ _ $a $b rfl)
local macro_rules|`($a<<<$b)=>`(@L2.ah _ _ _ _ _ $a $b)
local macro_rules|`($a>>>$b)=>`(@L2.ah _ _ _ _ _ $a (@L2.aj _ _ _ $b))
local macro_rules|`($a⁻¹)=>`(@L2.aj _ _ _ (@L2.ar _ _ _ _ $a))
local macro_rules|`($a∩$b)=>`(@L2.ay _ _ _ _ _ _ _ _ _ _ $a (($(Lean.mkIdent `hr)).mono ∅) rfl $b ∅ rfl rfl)
local macro_rules|`($a∪$b)=>`(@L2.ay _ _ _ _ _ _ _ _ _ _ $a $(Lean.mkIdent `hr) rfl $b ∅ rfl rfl)
local macro_rules|`($a∣$b)=>`(@L2.aA _ _ $a _ _ _ _ $(Lean.mkIdent `nd) rfl (Or.inl rfl) $b rfl (Or.inl rfl))
local macro_rules|`($a&&&$o&&&$b)=>`(@L2.aZ _ _ _ _ _ _ _ $o $a $b (fun _ _=>rfl))
local macro_rules|`($a|||$o|||$b)=>`(@L2.aw _ _ _ _ _ _ _ _ $o $a $b)
local macro_rules|`($a•$b)=>`(L2.aN (L2.aB (i:=$a) $(Lean.mkIdent `nd) rfl (Or.inl rfl)) $b)
local macro_rules|`($a<*>$o<*>$b)=>`(@L2.aq _ _ _ _ _ _ _ _ $o $a $b (L2.ax _))
local macro_rules|`($a<|>$b<|>$c)=>`(@L2.aI _ _ _ _ _ _ _ _ $a $b $c)
namespace Pc
open PySem L2
structure Pot (a b:Int):Prop where
 a0:0<=a
 b0:0<=b
 b1:b < 2147483629
def PotAt (H:Hp) (p:Eo):Prop:=∃a b,Pot a b/\H p=↥[.int a,.int b]
def But (p:Eo) (H H':Hp):Prop:=∀b o,b≠p->H b=some o->H' b=some o
theorem But.refl {p:Eo} {H:Hp}:But p H H:=λ _ _ _ e=>e
theorem But.trans {p:Eo} {H H1 H2:Hp} (a:But p H H1) (b:But p H1 H2):But p H H2:=λ c o n e=>b c o n (a c o n e)
theorem But.upd {p:Eo} {H:Hp} {o:HO}:But p H (upd H p o):=λ b u n e=>by rw[ao n];exact e
theorem But.new {p q:Eo} {H:Hp} {o:HO} (h:H q=none):But p H (L2.upd H q o):=λ b u n e=>by rw[ao (ak e h)];exact e
theorem PotAt.new {p q:Eo} {H:Hp} {o:HO} (x:PotAt H p) (h:H q=none):PotAt (L2.upd H q o) p:=by obtain⟨a,b,h1,h2⟩:=x;exact%[a,b,h1|by rw[ao (ak h2 h)];exact h2]
theorem PotAt.some {p:Eo} {H:Hp} (x:PotAt H p):H p≠none:=by obtain⟨a,b,_,h⟩:=x;rw[h];exactλ z=>nomatch z
theorem But.free {p q:Eo} {H H':Hp} (b:But p H H') (x:PotAt H' p) (h:H' q=none):H q=none:=by
 cases e:H q with
 | none=>rfl
 | some o=>
  by_cases hq:q=p
  ·subst hq;exact absurd h x.some
  ·rw[b q o hq e]at h;cases h
theorem But.same {p:Eo} {H H':Hp} (b:But p H H') (h:H p=none):Same H H':=λ c o e=>b c o (ak e h) e
structure Kd where
 w:Int
 h:Int
 wo:Int
 wa:Int
 tu:Bool
def kdV (k:Kd):Et V:=[.int k.w,.int k.h,.int k.wo,.int k.wa,.bl k.tu]
def kdD (k:Kd):PyData:=.tuple [.int k.w,.int k.h,.int k.wo,.int k.wa,.bool k.tu]
structure Good (k:Kd):Prop where
 w:1<=k.w
 h:1<=k.h
 wo:0<=k.wo
 wa:0<=k.wa
 w':k.w < 10 ^ 60
 h':k.h < 10 ^ 60
 wo':k.wo < 10 ^ 60
 wa':k.wa < 10 ^ 60
def TupAt (H:Hp) (v:V) (k:Kd):Prop:=∃a,v=.ref a/\H a= ~~~(kdV k)
def xu (H:Hp) (v:V) (k:Kd):Prop:=∃a,v=.ref a/\H a=↥(kdV k)
def RowAt (H:Hp) (v:V) (k:Kd):Prop:=TupAt H v k\/xu H v k
abbrev Tups (H:Hp):Et V->Et Kd->Prop:=Paired (TupAt H)
theorem Tups.keep {H H':Hp} (k:∀b xs,H b= ~~~xs->H' b= ~~~xs):∀ {xs:Et V} {ks:Et Kd},Tups H xs ks->Tups H' xs ks:=λ r=>
 Dt r λ v kd %[a,e|h]=>%[a,e|k a _ h]
def mW (K:C4):Sp:=λ vs H Q _=>∃ (a:Eo) (ns:Et Int) (n:Int),vs=[.ref a,.int n]/\SqL K H a (ns.map V.int)/\0<=n/\n<=1000/\ns.length<=63 /\
 ∀ (p:Eo) (H':Hp),H p=none->PotAt H' p->Same H H'->Q (.ref p) H'
def cA:Sp:=λ vs H Q _=>∃ (p:Eo) (m:Int),vs=[.ref p,.int m]/\PotAt H p/\0 < m/\m<=10 ^ 60/\∀ (r:Int) (H':Hp),0<=r->r < m->PotAt H' p->But p H H'->Q (.int r) H'
def dJ:Sp:=λ vs H Q _=>∃ (p:Eo) (l:Int),vs=[.ref p,.int l]/\PotAt H p/\0<=l/\l<=1/\∀ (n:Int) (H':Hp),l<=n->n < 10 ^ 60->PotAt H' p->But p H H'->Q (.int n) H'
def iY:Sp:=λ vs H Q _=>∃ (p:Eo),vs=[.ref p]/\PotAt H p/\∀ (t:Eo) (k:Kd) (H':Hp),H t=none->Good k->H' t= ~~~(kdV k)->PotAt H' p->But p H H'->Q (.ref t) H'
structure ToldAt (H:Hp) (t l:Eo) (bl:Int) (xs:Et V) (ks:Et Kd):Prop where
 t:H t= ~~~[.int bl,.ref l]
 l:H l=↥xs
 r:Tups H xs ks
 b0:0<=bl
 b1:bl < 10 ^ 60
 g:∀k∈ks,Good k
 n0:1<=xs.length
 n1:xs.length<=8
def iZ:Sp:=λ vs H Q _=>∃ (p:Eo),vs=[.ref p]/\PotAt H p/\∀ (t l:Eo) (bl:Int) (xs:Et V) (ks:Et Kd) (H':Hp),H t=none->H l=none->ToldAt H' t l bl xs ks->PotAt H' p->But p H H'->Q (.ref t) H'
def eO (K:C4):Sp:=λ vs H Q _=>∃ (x:V) (T:String) (l:Int),vs=[x,.int l]/\Ty K H x T/\Q (.bl (bA x l)) H
def gx (K:C4):Sp:=λ vs H Q _=>∃ (x:V) (T:String),vs=[x]/\Ty K H x T/\Q (.bl (mV x)) H
def kn (K:C4):Sp:=λ vs H Q _=>∃ (x:V) (T:String),vs=[x]/\Ty K H x T/\∀H',Same H H'->Q (.bl (T == "list" || T == "tuple")) H'
def eE:Et V->Bool
 | [w,h,wo,wa,tu]=>bA w 1 && bA h 1 && bA wo 0 && bA wa 0 && mV tu
 | _=>false
def df (K:C4):Sp:=λ vs H Q _=>∃ (x:V) (T:String),vs=[x]/\Ty K H x T /\ 
 ((T ≠ "list" /\ T ≠ "tuple" /\ ∀H',Same H H'->Q (.bl false) H')\/∃ (a:Eo) (xs:Et V),x=.ref a/\(H a=↥xs\/H a= ~~~xs)/\(∀y∈xs,∃UU0,Ty K H y UU0)/\∀H',Same H H'->Q (.bl (eE xs)) H')
theorem fm {k:Kd} (g:Good k):eE (kdV k)=true:=by
 show(decide (1<=k.w) && decide (1<=k.h) && decide (0<=k.wo) && decide (0<=k.wa) && true)=true;rw[E2 g.w,E2 g.h,E2 g.wo,E2 g.wa]
 rfl
theorem Ty.same {K:C4} {H H':Hp} {x:V} {T:String} (s:Same H H') (t:Ty K H x T):Ty K H' x T:=by
 refine%[t.1|?_];have t2:=t.2;generalize hv:Value.type T=tv at t2 ⊢;cases t2 with
 | non=>exact .non
 | bl b=>exact .bl b
 | int b=>exact .int b
 | str b=>exact .str b
 | flt b=>exact .flt b
 | lst e=>exact .lst (s _ _ e)
 | frz e=>exact .frz (s _ _ e)
 | tup e=>exact .tup (s _ _ e)
 | dK e=>exact .dK (s _ _ e)
 | dT e=>exact .dT (s _ _ e)
 | ext e c=>exact .ext (s _ _ e) c
 | ins=>cases hv
end Pc
namespace L2
open PySem PySem.Spec PyProof.Rows
abbrev mX (K:C4):Et V->Hp->VK->Prop:=rz_call_tuple_of K
theorem ib {K:C4} {j:Nat} {a:Eo} {xs:Et V} {g:TG} {tb:TS} {D:Ends} {σ:St} {H:Hp} (hσ:σ[j]?=some (↑a)) (hs:H a=↥xs\/H a= ~~~xs) (Pv:Nat->St->Hp->Prop) (h0:Pv 0 σ H)
  (hk:∀i σ H',i<=xs.length->Pv i σ H'->∀o,H a=some o->H' a=some o)
  (ht:∀i x σ H,xs[i]?=some x->Pv i σ H->g x σ H λ σ2 H2=>tb { D with nx:=Pv (i+1),ct:=Pv (i+1),bk:=D.nx } σ2 H2) (hd:∀σ H,Pv xs.length σ H->D.nx σ H):xg (rH K (tVar j)) g tb D σ H:=by
 rcases hs with z | z
 ·exact .inl %[_,hσ,a,U,%[xs|Ds z]|gU (xs:=xs) Pv h0 (λ i σ H' hi p=>Ds (hk i σ H' hi p _ z)) ht hd]
 ·exact .inr %[_,hσ,a,U,%[xs|Dr z]|oK (xs:=xs) Pv h0 (λ i σ H' hi p=>Dr (hk i σ H' hi p _ z)) ht hd]
def Nx (n:Nat) (Pv:Nat->Et V->Hp->Prop) (i:Nat) (ys:Et V) (H:Hp):Prop:=∃m',m' < n - i/\m'=n - (i+1)/\i+1<=n/\Pv (i+1) ys H
theorem Nx.of {n:Nat} {Pv:Nat->Et V->Hp->Prop} {i:Nat} {ys:Et V} {H:Hp} (h:i < n) (p:Pv (i+1) ys H):Nx n Pv i ys H:=%[n - (i+1),⋯,U,h|p]
theorem bN {K:C4} {a:Eo} {xs:Et V} {σ:St} {cap:Et Nat} {k:Nat} {g:TG} {tt:TT} {te:TE} {Q:Et V->Hp->Prop} {H:Hp} (hs:H a=↥xs\/H a= ~~~xs) (Pv:Nat->Et V->Hp->Prop)
  (hk:∀i ys H',i<=xs.length->Pv i ys H'->∀o,H a=some o->H' a=some o) (h0:Pv 0 [] H)
  (ht:∀i x ys H',xs[i]?=some x->Pv i ys H'->ys.length < sizeLine/\g x (bq σ cap k) H' λ σ2 H2=>leS (bq σ cap k) σ2/\tt σ2 H2 λ ok H3=>if ok=true then te σ2 H3 (λ v H4=>Nx xs.length Pv i (ys ++ [v]) H4)else Nx xs.length Pv i ys H3)
  (hd:∀ys H',Pv xs.length ys H'->ys.length<=sizeLine/\Q ys H') :
  (H a=↥xs->∃W,(∃m,W 0 m [] H)/\hU σ cap k (Itl K a) g tt te Q W)/\(H a= ~~~xs->∃W,(∃m,W 0 m [] H)/\hU σ cap k (Itt K a) g tt te Q W):=by
 refine%[λ z=>%[λ i m ys H'=>m=xs.length - i/\i<=xs.length/\Pv i ys H',%[_,U,DG _|h0]|?_]|λ z=>%[λ i m ys H'=>m=xs.length - i/\i<=xs.length/\Pv i ys H',%[_,U,DG _|h0]|?_]]
 ·rintro i m ys H' ⟨rfl,hi,p⟩;have z':=hk i ys H' hi p _ z
  by_cases hin:i < xs.length
  ·obtain⟨e,hg⟩:=ht i xs[i] ys H' (by simp[hin]) p;refine .inr %[%[xs,xs[i],Ds z'|by simp[hin]],e|λ x H2 yl=>?_];obtain⟨e1,e2⟩:=yl;have e3:=e2 xs (Ds z');have e4:x=xs[i]:=by simpa[hin]using e3.symm
   subst e1 e4;exact hg
  ·have e:i=xs.length:=⋯
   subst e;obtain⟨a1,a2⟩:=hd ys H' p;exact .inl %[%[xs,Ds z'|B0 _],a1|a2]
 ·rintro i m ys H' ⟨rfl,hi,p⟩;have z':=hk i ys H' hi p _ z
  by_cases hin:i < xs.length
  ·obtain⟨e,hg⟩:=ht i xs[i] ys H' (by simp[hin]) p;refine .inr %[%[xs,xs[i],Dr z'|by simp[hin]],e|λ x H2 yl=>?_];obtain⟨e1,e2⟩:=yl;have e3:=e2 xs (Dr z');have e4:x=xs[i]:=by simpa[hin]using e3.symm
   subst e1 e4;exact hg
  ·have e:i=xs.length:=⋯
   subst e;obtain⟨a1,a2⟩:=hd ys H' p;exact .inl %[%[xs,Dr z'|B0 _],a1|a2]
theorem lw {K:C4} {j:Nat} {a:Eo} {xs:Et V} {σ:St} {cap:Et Nat} {k:Nat} {g:TG} {tt:TT} {te:TE} {Q:VK} {H:Hp} (hσ:σ[j]?=some (↑a)) (hs:H a=↥xs\/H a= ~~~xs) (Pv:Nat->Et V->Hp->Prop)
  (hk:∀i ys H',i<=xs.length->Pv i ys H'->∀o,H a=some o->H' a=some o) (h0:Pv 0 [] H)
  (ht:∀i x ys H',xs[i]?=some x->Pv i ys H'->ys.length < sizeLine/\g x (bq σ cap k) H' λ σ2 H2=>leS (bq σ cap k) σ2/\tt σ2 H2 λ ok H3=>if ok=true then te σ2 H3 (λ v H4=>Nx xs.length Pv i (ys ++ [v]) H4)else Nx xs.length Pv i ys H3)
  (hd:∀ys H',Pv xs.length ys H'->ys.length<=sizeLine/\∀p,H' p=none->Q (.ref p) (upd H' p (.lst ys))):hZ (rH K (tVar j)) cap k g tt te σ H Q:=by
 obtain⟨c1,c2⟩:=bN (K:=K) (σ:=σ) (cap:=cap) (k:=k) (g:=g) (tt:=tt) (te:=te) hs Pv hk h0 ht hd;rcases hs with z | z
 ·exact .inl %[_,hσ,a,U,%[xs|Ds z]|c1 z]
 ·exact .inr %[_,hσ,a,U,%[xs|Dr z]|c2 z]
end L2
namespace Pc
open PySem L2
def ja (b:Int) (r:Eo):Et (Str×V):=cj "kind_rows" (.ref r) (cj "blade_width" (.int b) [])
theorem kbw:¬ (("blade_width" : Str) = "kind_rows"):=∅
theorem jb (b:Int) (r:Eo):(ja b r).lookup ("blade_width" : Str)=⇑b:=by unfold ja;rw[bp,E1 kbw,bp,Ez rfl]
theorem lA (b:Int) (r:Eo):(ja b r).lookup ("kind_rows" : Str)=↑r:=by unfold ja;rw[bp,Ez rfl]
theorem eP (b:Int) (r:Eo) {m:Str} (h1:¬ m = "kind_rows") (h2:¬ m = "blade_width"):(ja b r).lookup m=none:=by
 unfold ja;rw[bp,E1 h1,bp,E1 h2]
 all_goals rfl
def gy (C:Eo) (H:Hp) (x:Eo) (b:Int) (ks:Et Kd):Prop:=∃dx r rs,H x=some (.ins C dx (ja b r))/\H r= ~~~rs/\Tups H rs ks
def eQ (C:Eo):Sp:=λ vs H Q _=>∃ (x:Eo) (b:Int) (ks:Et Kd),vs=[.ref x]/\gy C H x b ks/\Q (.int b) H
def eT (C:Eo):Sp:=λ vs H Q _=>∃ (x:Eo) (b:Int) (ks:Et Kd),vs=[.ref x]/\gy C H x b ks/\∀ (l:Eo) (rs:Et V),H l=none->Tups H rs ks->Q (.ref l) (upd H l (.lst rs))
theorem ko {K:C4} {H:Hp} {k:Kd}:∀y∈kdV k,∃UU0,Ty K H y UU0:=by
 intro y hy;simp only[kdV,Dx,EH,FV]at hy;rcases hy with rfl | rfl | rfl | rfl | rfl
 ·exact%[_|.int]
 ·exact%[_|.int]
 ·exact%[_|.int]
 ·exact%[_|.int]
 ·exact%[_|.bl]
theorem Paired.getR {α β:Type} {F:α->β->Prop}:∀ {l₁:Et α} {l₂:Et β} {i:Nat} {x:α},Paired F l₁ l₂->l₁[i]?=some x->∃y,l₂[i]?=some y/\F x y
 | _,_,_,_,.nil,e=>by simp at e
 | _,_,0,_,.cons h _,e=>by simp at e;subst e;exact%[_,U|h]
 | _,_,i+1,x,.cons _ t,e=>by obtain⟨y,h1,h2⟩:=Paired.getR (i:=i) (x:=x) t (by simpa using e);exact%[y,by simpa using h1|h2]
abbrev Du:=@Paired.getR
theorem RowAt.same {H H':Hp} {v:V} {k:Kd} (s:Same H H') (r:RowAt H v k):RowAt H' v k:=by
 rcases r with⟨a,e,h⟩ | ⟨a,e,h⟩
 ·exact .inl %[a,e|s _ _ h]
 ·exact .inr %[a,e|s _ _ h]
theorem fY {K:C4} {H:Hp} {v:V} {k:Kd} {Q:VK} {E:XK} (r:RowAt H v k) (g:Good k) (q:∀H',Same H H'->Q (.bl true) H'):df K [v] H Q E:=by
 rcases r with⟨a,rfl,h⟩ | ⟨a,rfl,h⟩
 ·exact%[_,_,U,.tup h|.inr %[a,_,U,.inr h,ko|λ H' s=>by rw[fm g];exact q H' s]]
 ·exact%[_,_,U,.lst h|.inr %[a,_,U,.inl h,ko|λ H' s=>by rw[fm g];exact q H' s]]
structure ShopTxt (K:C4) (C:Eo):Prop where
 cl:Cls K C
 nB:NoAttr K C "blade_width"
 nK:NoAttr K C "kind_rows"
end Pc
namespace L2
open PySem PySem.Spec PyProof.Rows
def Mn (P:Dl) (w:Do) (K:C4) (mg:Str->Er Dp) (base:Heap) (C:Eo) (m:Str) (ps:Et Str) (k:Nat) (sp:Sp):Prop :=
 ∃ (f:Eo) (fd:Dm),FnOk P w K mg base CX0 k f fd ps sp/\Binds K fd ps []/\Meth K C m f
theorem gz {X:Cx} {k:Nat} {C:Eo} {ps:Et Str} {sp:Sp} {m:Str} {o:Expr} {ta:TE} {apos pos:Pos} {pl:Sem Bool} (he:PE X o ta) (c:Cls X.K C) (D:Mn X.prog X.w X.K X.mg X.base C m ps k sp) (hr:Room k X.A)
  (ht:eval (.Call (.Attribute o m apos) [] [] pos) X.env=(do
   let ov<-eval o X.env
   standAt apos.atName
   let (f,first)<-holding [ov] (getMethod ov m pl)
   callWith pos f first (backTo pos (starEach [] X.env)) (backToKw pos (keywordEach [] X.env))):=by rfl):PE X (.Call (.Attribute o m apos) [] [] pos) (qS C m sp [] E0 ta li):=by
 obtain⟨f,fd,F,hb,hm⟩:=D;exact mI he c hm F hr hb .nil qU ht
theorem cC (xs:Et V) (k:Nat):cy xs none (some (k:Int))=xs.take k:=by
 unfold cy;rw[HT.sIx_none,HT.sIx_nat];simp only[List.drop_zero,Nat.sub_zero];rcases Nat.le_total k xs.length with h | h
 ·rw[Nat.min_eq_left h]
 ·rw[Nat.min_eq_right h,EK (B0 _),EK h]
end L2
namespace Pc
open PySem L2
theorem Tups.dat {K:C4} {H:Hp}:∀ {xs:Et V} {ks:Et Kd},Tups H xs ks->DatVs K H xs (ks.map kdD)
 | _,_,.nil=>.nil
 | _,_,.cons ⟨a,e,h⟩ t=>by subst e;exact .cons (.tup (Dr h) (.cons (.int _) (.cons (.int _) (.cons (.int _) (.cons (.int _) (.cons (.bl _) .nil)))))) (Tups.dat t)
theorem Same.but {p:Eo} {H H':Hp} (s:Same H H'):But p H H':=λ b o _ e=>s b o e
theorem Same.new {q:Eo} {H:Hp} {o:HO} (h:H q=none):Same H (upd H q o):=λ b u e=>by rw[ao (ak e h)];exact e
abbrev Dq:=@Same.new
end Pc
namespace L2
open PySem PySem.Spec PyProof.Rows
def RI (M:Model) (Γ:PySem.Ctx) (p:Pos) (s:DY) (e:End) (s':DY):Sem Fin->Prop
 | .pure (.done f)=>e=.ret (.ok f)/\s=s'
 | .pure (.again c)=>Runs M (Γ.goto c) p (M.den c) [] s e s'
 | .raise x=>e=.ret (.error x)/\s=s'
 | .rule _ k=>Runs M Γ p (k ()) [] s e s'
 | .at p' k=>Runs M Γ p' (k ()) [] s e s'
 | .load a _ k=>∃o,s.heap.get? a=some o/\Runs M Γ p (k o) [] s e s'
 | .update a _ f k=>Runs M Γ p (k ()) [] { s with heap:=s.heap.update a f } e s'
 | .loadIfAlive a k=>Runs M Γ p (k (s.heap.get? a)) [] s e s'
 | .point _ k=>Runs M Γ p (k ()) [] s e s'
 | .alloc o k=>Runs M Γ p (k s.heap.objs.size) [] { s with heap:=s.heap.push o } e s'
 | .fresh k=>Runs M Γ p (k s.toks) [] { s with toks:=s.toks+1 } e s'
 | .ask k=>Runs M Γ p (k %[M.prog|M.w.params]) [] s e s'
 | .choose src n k=>Runs M Γ p (k (M.w.draws src (s.drawn.get src) % n)) [] { s with drawn:=s.drawn.bump src } e s'
 | .os q _ k=>Runs M Γ p (k (Os.step s.os q).2) [] { s with os:=(Os.step s.os q).1 } e s'
 | .handled own k=>Runs M Γ p (k (if own then Γ.own else Γ.handled)) [] s e s'
 | .genState g k=>∃st,s.gens[g]?=some st/\Runs M Γ p (k st.seen) [] s e s'
 | .stack k=>Runs M Γ p (k ((Γ.code,p) :: Γ.below)) [] s e s'
 | .thread k=>Runs M Γ p (k 0) [] s e s'
 | .newGen c k=>Runs M Γ p (k s.gens.size) [] { s with gens:=s.gens.push (.fresh c) } e s'
 | .yield v g l k=>e=.susp v g l k Γ.code p []/\s=s'
 | .call c h g l k=>(∃r s₁,Runs M (Γ.enter c h p) p (M.den c) [] s (.ret r) s₁/\Runs M Γ p (k r) [] s₁ e s') \/
   (∃v g₀ l₀ k₀ c₀ p₀ fs,Runs M (Γ.enter c h p) p (M.den c) [] s (.susp v g₀ l₀ k₀ c₀ p₀ fs) s'/\e=.susp v g₀ l₀ k₀ c₀ p₀ (fs ++ [.ret k h g l Γ.code p []]))
 | .resume g r _ k=>(∃c e₁ s₁,r=.send .none/\s.gens[g]?=some (.fresh c)/\Runs M (Γ.wake c p) p (M.den c) [] (s.setGen g .running) e₁ s₁/\Runs M Γ p (k e₁.result) [] (s₁.setGen g e₁.genState) e s') \/
   (∃k₀ l₀ c₀ p₀ fs cl e₁ s₁,s.gens[g]?=some (.suspended k₀ l₀ c₀ p₀ fs cl)/\Runs M (Γ.wake c₀ p) p₀ (k₀ r) fs (s.setGen g .running) e₁ s₁/\Runs M Γ p (k e₁.result) [] (s₁.setGen g e₁.genState) e s') \/
   (∃c v,r=.send v/\v≠.none/\s.gens[g]?=some (.fresh c)/\Runs M Γ p (k .justStarted) [] s e s') \/
   (∃c x,r=.throw x/\s.gens[g]?=some (.fresh c)/\Runs M Γ p (k (.raised x)) [] (s.setGen g .finished) e s') \/
   (s.gens[g]?=some .running/\Runs M Γ p (k .running) [] s e s')\/(s.gens[g]?=some .finished/\Runs M Γ p (k .finished) [] s e s')
 | _=>True
def RJ (M:Model) (Γ:PySem.Ctx) (p:Pos) (t:Sem Fin) (s:DY) (e:End) (s':DY):Et Frame->Prop
 | []=>RI M Γ p s e s' t
 | F :: fs=>(∃k h g l c₁ p₁ kp r s₁,F=.ret k h g l c₁ p₁ kp/\Runs M (Γ.over (F :: fs)) p t [] s (.ret r) s₁/\Runs M (Γ.goto c₁) p₁ (k r) fs s₁ e s') \/
   (∃g k l c₁ p₁ r s₁,F=.gen g k l c₁ p₁/\Runs M (Γ.over (F :: fs)) p t [] s (.ret r) s₁/\Runs M (Γ.goto c₁) p₁ (k (End.ret r).result) fs (s₁.setGen g .finished) e s') \/
   (∃v g₀ l₀ k₀ c₀ p₀ fs₀,splitAtGen (F :: fs)=none/\Runs M (Γ.over (F :: fs)) p t [] s (.susp v g₀ l₀ k₀ c₀ p₀ fs₀) s'/\e=.susp v g₀ l₀ k₀ c₀ p₀ (fs₀ ++ F :: fs)) \/
   (∃pre g k c₁ p₁ cW v g₀ l₀ k₀ c₀ p₀ fs₀ s₁,splitAtGen (F :: fs)=some (pre,(g,k,c₁,p₁),cW)/\Runs M (Γ.over (F :: fs)) p t [] s (.susp v g₀ l₀ k₀ c₀ p₀ fs₀) s₁/\Runs M (Γ.goto c₁) p₁ (k (.yielded v)) cW (s₁.setGen g (End.susp v g₀ l₀ k₀ c₀ p₀ (fs₀ ++ pre)).genState) e s')
theorem br {M:Model} {Γ:PySem.Ctx} {p:Pos} {t:Sem Fin} {fs:Et Frame} {s s':DY} {e:End} (h:Runs M Γ p t fs s e s'):RJ M Γ p t s e s' fs:=by
 cases h with
 | done=>exact%[U|U]
 | raise=>exact%[U|U]
 | again _ b=>exact b
 | rule b=>exact b
 | «at» b=>exact b
 | load a b=>exact%[_,a|b]
 | update _ b=>exact b
 | loadIfAlive b=>exact b
 | point b=>exact b
 | alloc b=>exact b
 | fresh b=>exact b
 | ask b=>exact b
 | choose _ b=>exact b
 | os b=>exact b
 | handled b=>exact b
 | genState a b=>exact%[_,a|b]
 | stack b=>exact b
 | thread b=>exact b
 | newGen b=>exact b
 | call a b=>exact .inl %[_,_,a|b]
 | callSusp a=>exact .inr %[_,_,_,_,_,_,_,a|U]
 | yield=>exact%[U|U]
 | resumeFresh a b _ c=>exact .inl %[_,_,_,U,a,b|c]
 | resumeSuspended a b _ c=>exact .inr (.inl %[_,_,_,_,_,_,_,_,a,b|c])
 | resumeJustStarted a b c=>exact .inr (.inr (.inl %[_,_,U,b,a|c]))
 | resumeThrowFresh a b=>exact .inr (.inr (.inr (.inl %[_,_,U,a|b])))
 | resumeRunning a b=>exact .inr (.inr (.inr (.inr (.inl %[a|b]))))
 | resumeFinished a b=>exact .inr (.inr (.inr (.inr (.inr %[a|b]))))
 | segRet a b=>exact .inl %[_,_,_,_,_,_,_,_,_,U,a|b]
 | segGen a b=>exact .inr (.inl %[_,_,_,_,_,_,_,U,a|b])
 | segSuspOut a b=>exact .inr (.inr (.inl %[_,_,_,_,_,_,_,a,b|U]))
 | segSuspGen a b _ c=>exact .inr (.inr (.inr %[_,_,_,_,_,_,_,_,_,_,_,_,_,_,a,b|c]))
theorem fo {M:Model} {Γ:PySem.Ctx} {p:Pos} {t:Sem Fin} {fs:Et Frame} {s s':DY} {e:End} (h:Runs M Γ p t fs s e s'):∀ {e2:End} {s2:DY},Runs M Γ p t fs s e2 s2->e=e2/\s'=s2:=by
 induction h with
 | done=>exactλ h2=>%[(br h2).1.symm|(br h2).2]
 | raise=>exactλ h2=>%[(br h2).1.symm|(br h2).2]
 | again _ _ ih=>exactλ h2=>ih (br h2)
 | rule _ ih=>exactλ h2=>ih (br h2)
 | «at» _ ih=>exactλ h2=>ih (br h2)
 | load he _ ih=>
  intro e2 s2 h2;obtain⟨o,b1,b2⟩:=br h2;rw[he]at b1;cases b1;exact ih b2
 | update _ _ ih=>exactλ h2=>ih (br h2)
 | loadIfAlive _ ih=>exactλ h2=>ih (br h2)
 | point _ ih=>exactλ h2=>ih (br h2)
 | alloc _ ih=>exactλ h2=>ih (br h2)
 | fresh _ ih=>exactλ h2=>ih (br h2)
 | ask _ ih=>exactλ h2=>ih (br h2)
 | choose _ _ ih=>exactλ h2=>ih (br h2)
 | os _ ih=>exactλ h2=>ih (br h2)
 | handled _ ih=>exactλ h2=>ih (br h2)
 | genState he _ ih=>
  intro e2 s2 h2;obtain⟨o,b1,b2⟩:=br h2;rw[he]at b1;cases b1;exact ih b2
 | stack _ ih=>exactλ h2=>ih (br h2)
 | thread _ ih=>exactλ h2=>ih (br h2)
 | newGen _ ih=>exactλ h2=>ih (br h2)
 | call _ _ ih1 ih2=>
  intro e2 s2 h2;rcases br h2 with⟨r,s1,a,b⟩ | ⟨_,_,_,_,_,_,_,a,_⟩
  ·obtain⟨q1,q2⟩:=ih1 a;cases q1;subst q2;exact ih2 b
  ·obtain⟨q1,_⟩:=ih1 a;cases q1
 | callSusp _ ih1=>
  intro e2 s2 h2;rcases br h2 with⟨r,s1,a,b⟩ | ⟨_,_,_,_,_,_,_,a,b⟩
  ·obtain⟨q1,_⟩:=ih1 a;cases q1
  ·obtain⟨q1,q2⟩:=ih1 a;cases q1;exact%[b.symm|q2]
 | yield=>exactλ h2=>%[(br h2).1.symm|(br h2).2]
 | resumeFresh hg _ _ _ ih1 ih2=>
  intro e2 s2 h2;rcases br h2 with⟨_,_,_,_,g,a,b⟩ | ⟨_,_,_,_,_,_,_,_,g,_⟩ | ⟨_,v,rv,n,_⟩ | ⟨_,_,rv,_⟩ | ⟨g,_⟩ | ⟨g,_⟩
  ·rw[hg]at g;cases g;obtain⟨q1,q2⟩:=ih1 a;subst q1 q2;exact ih2 b
  ·rw[hg]at g;cases g
  ·cases rv;exact absurd rfl n
  ·cases rv
  ·rw[hg]at g;cases g
  ·rw[hg]at g;cases g
 | resumeSuspended hg _ _ _ ih1 ih2=>
  intro e2 s2 h2;rcases br h2 with⟨_,_,_,_,g,a,b⟩ | ⟨_,_,_,_,_,_,_,_,g,a,b⟩ | ⟨_,v,rv,n,g,_⟩ | ⟨_,_,rv,g,_⟩ | ⟨g,_⟩ | ⟨g,_⟩
  ·rw[hg]at g;cases g
  ·rw[hg]at g;cases g;obtain⟨q1,q2⟩:=ih1 a;subst q1 q2;exact ih2 b
  ·rw[hg]at g;cases g
  ·rw[hg]at g;cases g
  ·rw[hg]at g;cases g
  ·rw[hg]at g;cases g
 | resumeJustStarted hg n _ ih=>
  intro e2 s2 h2;rcases br h2 with⟨_,_,_,rv,_⟩ | ⟨_,_,_,_,_,_,_,_,g,a,b⟩ | ⟨_,v,rv,_,g,b⟩ | ⟨_,_,rv,g,_⟩ | ⟨g,_⟩ | ⟨g,_⟩
  ·cases rv;exact absurd rfl n
  ·rw[hg]at g;cases g
  ·exact ih b
  ·cases rv
  ·rw[hg]at g;cases g
  ·rw[hg]at g;cases g
 | resumeThrowFresh hg _ ih=>
  intro e2 s2 h2;rcases br h2 with⟨_,_,_,rv,_⟩ | ⟨_,_,_,_,_,_,_,_,g,a,b⟩ | ⟨_,v,rv,_,g,b⟩ | ⟨_,_,rv,g,b⟩ | ⟨g,_⟩ | ⟨g,_⟩
  ·cases rv
  ·rw[hg]at g;cases g
  ·cases rv
  ·cases rv;exact ih b
  ·rw[hg]at g;cases g
  ·rw[hg]at g;cases g
 | resumeRunning hg _ ih=>
  intro e2 s2 h2;rcases br h2 with⟨_,_,_,_,g,_⟩ | ⟨_,_,_,_,_,_,_,_,g,a,b⟩ | ⟨_,v,rv,_,g,b⟩ | ⟨_,_,rv,g,b⟩ | ⟨g,b⟩ | ⟨g,_⟩
  ·rw[hg]at g;cases g
  ·rw[hg]at g;cases g
  ·rw[hg]at g;cases g
  ·rw[hg]at g;cases g
  ·exact ih b
  ·rw[hg]at g;cases g
 | resumeFinished hg _ ih=>
  intro e2 s2 h2;rcases br h2 with⟨_,_,_,_,g,_⟩ | ⟨_,_,_,_,_,_,_,_,g,a,b⟩ | ⟨_,v,rv,_,g,b⟩ | ⟨_,_,rv,g,b⟩ | ⟨g,b⟩ | ⟨g,b⟩
  ·rw[hg]at g;cases g
  ·rw[hg]at g;cases g
  ·rw[hg]at g;cases g
  ·rw[hg]at g;cases g
  ·rw[hg]at g;cases g
  ·exact ih b
 | segRet _ _ ih1 ih2=>
  intro e2 s2 h2;rcases br h2 with⟨_,_,_,_,_,_,_,_,_,z,a,b⟩ | ⟨_,_,_,_,_,_,_,z,_⟩ | ⟨_,_,_,_,_,_,_,_,a,_⟩ | ⟨_,_,_,_,_,_,_,_,_,_,_,_,_,_,_,a,_⟩
  ·cases z;obtain⟨q1,q2⟩:=ih1 a;cases q1;subst q2;exact ih2 b
  ·cases z
  ·obtain⟨q1,_⟩:=ih1 a;cases q1
  ·obtain⟨q1,_⟩:=ih1 a;cases q1
 | segGen _ _ ih1 ih2=>
  intro e2 s2 h2;rcases br h2 with⟨_,_,_,_,_,_,_,_,_,z,a,b⟩ | ⟨_,_,_,_,_,_,_,z,a,b⟩ | ⟨_,_,_,_,_,_,_,_,a,_⟩ | ⟨_,_,_,_,_,_,_,_,_,_,_,_,_,_,_,a,_⟩
  ·cases z
  ·cases z;obtain⟨q1,q2⟩:=ih1 a;cases q1;subst q2;exact ih2 b
  ·obtain⟨q1,_⟩:=ih1 a;cases q1
  ·obtain⟨q1,_⟩:=ih1 a;cases q1
 | segSuspOut hn _ ih1=>
  intro e2 s2 h2;rcases br h2 with⟨_,_,_,_,_,_,_,_,_,z,a,b⟩ | ⟨_,_,_,_,_,_,_,z,a,b⟩ | ⟨_,_,_,_,_,_,_,_,a,z⟩ | ⟨_,_,_,_,_,_,_,_,_,_,_,_,_,_,hs,a,_⟩
  ·obtain⟨q1,_⟩:=ih1 a;cases q1
  ·obtain⟨q1,_⟩:=ih1 a;cases q1
  ·obtain⟨q1,q2⟩:=ih1 a;cases q1;exact%[z.symm|q2]
  ·rw[hn]at hs;cases hs
 | segSuspGen hs _ _ _ ih1 ih2=>
  intro e2 s2 h2;rcases br h2 with⟨_,_,_,_,_,_,_,_,_,z,a,b⟩ | ⟨_,_,_,_,_,_,_,z,a,b⟩ | ⟨_,_,_,_,_,_,_,hn,a,z⟩ | ⟨_,_,_,_,_,_,_,_,_,_,_,_,_,_,hs',a,b⟩
  ·obtain⟨q1,_⟩:=ih1 a;cases q1
  ·obtain⟨q1,_⟩:=ih1 a;cases q1
  ·rw[hn]at hs;cases hs
  ·rw[hs]at hs';cases hs';obtain⟨q1,q2⟩:=ih1 a;cases q1;subst q2;exact ih2 b
theorem oZ {α:Type} (M:Model) (Γ:PySem.Ctx) (t:Sem α):∀ (Q Q':α->Pos->DY->Prop) (E E':Dp->Pos->DY->Prop) (p:Pos) (s:DY),Sem.wp M Γ t Q E p s->Sem.wp M Γ t Q' E' p s ->
  Sem.wp M Γ t (λ a p' s'=>Q a p' s'/\Q' a p' s') (λ e p' s'=>E e p' s'/\E' e p' s') p s:=by
 have det:∀ {Δ:PySem.Ctx} {p:Pos} {s:DY} {r r':Result} {s1 s2:DY},Returns M Δ p s r s1->Returns M Δ p s r' s2->r=r'/\s1=s2:=by intro Δ p s r r' s1 s2 h1 h2;obtain⟨q1,q2⟩:=fo h1 h2;cases q1;exact%[U|q2]
 have detW:∀ {Δ:PySem.Ctx} {p:Pos} {g:Nat} {r:Resume} {s:DY} {x x':GenResult} {s1 s2:DY},Wakes M Δ p g r s x s1->Wakes M Δ p g r s x' s2->x=x'/\s1=s2:=by
  intro Δ p g r s x x' s1 s2 h1 h2;unfold Wakes at h1 h2
  split at h1
  ·exact h1.elim
  ·split at h1
   ·obtain⟨e1,t1,a1,_,rfl,rfl⟩:=h1
    rename_i hg _ _
    simp only[hg]at h2;obtain⟨e2,t2,a2,_,rfl,rfl⟩:=h2;obtain⟨q1,q2⟩:=fo a1 a2;subst q1 q2;exact%[U|U]
   ·rename_i hg _ _ hn
    simp only[hg]at h2;obtain⟨rfl,rfl⟩:=h1;obtain⟨rfl,rfl⟩:=h2;exact%[U|U]
   ·rename_i hg _ _
    simp only[hg]at h2;obtain⟨rfl,rfl⟩:=h1;obtain⟨rfl,rfl⟩:=h2;exact%[U|U]
  ·rename_i hg
   simp only[hg]at h2;obtain⟨e1,t1,a1,_,rfl,rfl⟩:=h1;obtain⟨e2,t2,a2,_,rfl,rfl⟩:=h2;obtain⟨q1,q2⟩:=fo a1 a2;subst q1 q2;exact%[U|U]
  ·rename_i hg
   simp only[hg]at h2;obtain⟨rfl,rfl⟩:=h1;obtain⟨rfl,rfl⟩:=h2;exact%[U|U]
  ·rename_i hg
   simp only[hg]at h2;obtain⟨rfl,rfl⟩:=h1;obtain⟨rfl,rfl⟩:=h2;exact%[U|U]
 induction t with
 | pure a=>intro Q Q' E E' p s h h';exact%[h|h']
 | raise e=>intro Q Q' E E' p s h h';exact%[h|h']
 | unsupported _=>intro Q Q' E E' p s h _;exact h
 | finish _=>intro Q Q' E E' p s h _;exact h
 | rule _ k ih=>intro Q Q' E E' p s h h';exact ih () _ _ _ _ p s h h'
 | «at» p' k ih=>intro Q Q' E E' p s h h';exact ih () _ _ _ _ p' s h h'
 | load a _ k ih=>
  intro Q Q' E E' p s h h';obtain⟨o,ho,h⟩:=h;obtain⟨o',ho',h'⟩:=h';rw[ho]at ho';cases ho';exact%[o,ho|ih o _ _ _ _ p s h h']
 | update a _ f k ih=>intro Q Q' E E' p s h h';exact%[h.1|ih () _ _ _ _ p _ h.2 h'.2]
 | loadIfAlive a k ih=>intro Q Q' E E' p s h h';exact ih _ _ _ _ _ p s h h'
 | point _ k ih=>intro Q Q' E E' p s h h';exact ih () _ _ _ _ p s h h'
 | register _ _=>intro Q Q' E E' p s h _;exact h
 | alloc o k ih=>intro Q Q' E E' p s h h';exact ih _ _ _ _ _ p _ h h'
 | fresh k ih=>intro Q Q' E E' p s h h';exact ih _ _ _ _ _ p _ h h'
 | ask k ih=>intro Q Q' E E' p s h h';exact ih _ _ _ _ _ p s h h'
 | choose src m k ih=>intro Q Q' E E' p s h h';exact%[h.1|ih _ _ _ _ _ p _ h.2 h'.2]
 | os q _ k ih=>intro Q Q' E E' p s h h';exact ih _ _ _ _ _ p _ h h'
 | call c hd _ _ k ih=>
  intro Q Q' E E' p s h h';obtain⟨r,s',hr,h⟩:=h;obtain⟨r',s'',hr',h'⟩:=h';obtain⟨rfl,rfl⟩:=det hr hr';exact%[r,s',hr|ih r _ _ _ _ p s' h h']
 | handled own k ih=>intro Q Q' E E' p s h h';exact ih _ _ _ _ _ p s h h'
 | genState g k ih=>
  intro Q Q' E E' p s h h';obtain⟨st,hs,h⟩:=h;obtain⟨st',hs',h'⟩:=h';rw[hs]at hs';cases hs';exact%[st,hs|ih _ _ _ _ _ p s h h']
 | newGen c k ih=>intro Q Q' E E' p s h h';exact ih _ _ _ _ _ p _ h h'
 | resume g r _ k ih=>
  intro Q Q' E E' p s h h';obtain⟨x,s',hw,h⟩:=h;obtain⟨x',s'',hw',h'⟩:=h';obtain⟨rfl,rfl⟩:=detW hw hw';exact%[x,s',hw|ih x _ _ _ _ p s' h h']
 | yield _ _ _ _=>intro Q Q' E E' p s h _;exact h
 | stack k ih=>intro Q Q' E E' p s h h';exact ih _ _ _ _ _ p s h h'
 | fork _ _=>intro Q Q' E E' p s h _;exact h
 | thread k ih=>intro Q Q' E E' p s h h';exact ih _ _ _ _ _ p s h h'
 | await _ _ _ _ _=>intro Q Q' E E' p s h _;exact h
theorem bH {α:Type} {M:Model} {A:Around} {t:Sem α} {Q Q':α->DY->Prop} {E E':Dp->DY->Prop} {s:DY} (h:wpAny M A t Q E s) (h':wpAny M A t Q' E' s) :
  wpAny M A t (λ a s'=>Q a s'/\Q' a s') (λ e s'=>E e s'/\E' e s') s:=λ Γ p hΓ=>oZ M Γ t _ _ _ _ p s (h Γ p hΓ) (h' Γ p hΓ)
def Q2 (e:Eo) (h:Heap):Prop:=∃oe vs,h.get? e=some oe/\oe.data=.fields vs/\vs[2]?=some .none
section
variable {M:Model} {A:Around} {E:Dp->DY->Prop} {s:DY} {base:Heap} {env:Env} {outer l:Et Env} {L e:Eo} {cls a0 fl:Dp} {Q:Unit->DY->Prop}
theorem Q2.set {e c:Eo} {h:Heap} {i:Nat} {v:Dp} (hi:i≠2) (q:Q2 e h):Q2 e (h.update c (Obj.mapFields (·.setIfInBounds i v))):=by
 obtain⟨oe,vs,he,hd,h2⟩:=q
 by_cases z:c=e
 ·subst z;have hd':=FO hd (·.setIfInBounds i v);exact%[_,_,FA _ he (FP hd'),hd'|by rw[Array.getElem?_setIfInBounds_ne hi];exact h2]
 ·exact%[oe,vs,(E6 _ _ z).trans he,hd|h2]
theorem Q2.push {e:Eo} {h:Heap} {o:Obj} (q:Q2 e h):Q2 e (h.push o):=let ⟨oe,vs,he,r⟩:=q;%[oe,vs,A4 _ he|r]
theorem mY {head:Dp} {nx:Bool} (hfr:A.frames=some (env :: outer)) (hl:s.heap.FunFrames base (env :: outer)) (hf:env.frame=some L) (q:Q2 e s.heap)
  (h:∀h₁ o ts,Q2 e h₁->o.data=.fields ts->3 < ts.size->Q () { s with heap:=(h₁.push o).update e (Obj.mapFields (·.setIfInBounds 1 (Value.ref h₁.objs.size))) }) :
  wpAny M A (do let a<-frameOf env;let pl<-entryPlaceOf L nx;let b<-EntryCells.newEntry head a .none (rawInt L) .none pl;setField (.ref e) 1 b) Q E s:=by
 obtain⟨oe,vs,he,hd,h2⟩:=q;have hene:e∉(env :: outer).filterMap (·.frame):=λ hm=>by obtain⟨_,o,ho,hnf⟩:=hl.mem hm;rw[he]at ho;injection ho with ho;subst ho;exact hnf vs hd
 refine A0 (wpAny_frameOf_fun hfr hl hf λ h₁ hs₁=>?_);refine A0 (wpAny_entryPlaceOf λ pl hpl=>?_);unfold EntryCells.newEntry newFields;refine A0 (DQ ?_ (hpl.sizeOk5 _ _ _ _ _));have he₁:h₁.get? e=some oe:=(hs₁.2.1 e hene).trans he;have h2s:2 < vs.size:=(EI.mp h2).1;exact FJ (A4 _ he₁) hd ⋯ (h h₁ _ _ %[oe,vs,he₁,hd|h2] rfl (by simp only[Dy,Dw,EA,Em];omega))
theorem gA (tr:s.heap.TracedAtW base e cls a0 fl) (q:Q2 e s.heap):wpAny M A (setFlight (.ref e) none) (λ _ s'=>Q2 e s'.heap) E s:=by obtain⟨oe,vs,T,oT,ts,he,hcls,hd,h1,hnT,hTe,hT,hdT,h3⟩:=tr;unfold setFlight;refine A0 (FK he hd h1 ?_);rw[Ez (show(Value.ref T != Value.none)=true from by simp)];exact FJ hT hdT (EI.mp h3).1 (q.set ∅)
theorem xv (hfr:A.frames=some (env :: outer)) (hf:env.frame=some L) (f:Heap.FlyingW base (env :: outer) e cls a0 s.heap) (q:Q2 e s.heap):wpAny M A (noteFrame (.ref e) env) (λ _ s'=>Q2 e s'.heap) E s:=by obtain⟨hkb,hen,hl,oe,vs,T,oT,ts,he,hcls,hd,h1,hnT,hTe,hT,hdT,h3⟩:=f;unfold noteFrame;simp only[hf];refine A0 (FK he hd h1 ?_);rw[Ez (show(Value.ref T != Value.none)=true from by simp)];refine A0 (FK hT hdT h3 ?_);rw[E1 (show¬ ((Value.none == rawInt L)=true)from by simp[rawInt])];refine A0 (FJ hT hdT (EI.mp h3).1 ?_);refine mY (s:={ s with heap:=s.heap.update T (Obj.mapFields (·.setIfInBounds 3 Value.none)) }) hfr (hl.of_keeps λ b o hb hnf=>%[o,(E6 _ _ (λ z=>?_)).trans hb|U]) hf (q.set ∅) λ h₁ o _ q1 _ _=>q1.push.set ∅;rw[<- z,hT]at hb;injection hb with hb;subst hb;exact hnf ts hdT
theorem rK {h:Heap} {args:Et Dp} (hfr:A.frames=some (env :: outer)) (hf:env.frame=some L) (hl:h.FunFrames base (env :: outer)) (hx:Heap.MadeExcOf h s.heap e cls args):wpAny M A (leaving env (.ref e)) (λ _ s'=>Q2 e s'.heap) E s:=by
 obtain⟨t,he,htn,ht⟩:=hx.there;have q:Q2 e s.heap:=%[_,_,he,U|U]
 unfold leaving noteFrame;simp only[hf];refine A0 (A0 (FK he rfl (x:=.none) rfl ?_));rw[E1 ∅];refine mY (base:=base) hfr (hl.of_keeps λ b o hb _=>%[o,hx.keeps b o hb|U]) hf q λ h₁ o ts q1 ho h3=>?_;obtain⟨oe1,vs1,he1,hd1,h21⟩:=q1;have hTe:h₁.objs.size≠e:=Nat.ne_of_gt (A6 he1);have hd3:=FO hd1 (·.setIfInBounds 1 (Value.ref h₁.objs.size));have he3:=FA (Obj.mapFields (·.setIfInBounds 1 (Value.ref h₁.objs.size))) (A4 o he1) (FP hd3);have h2s:2 < vs1.size:=(EI.mp h21).1;have hT:=(E6 (h₁.push o) (Obj.mapFields (·.setIfInBounds 1 (Value.ref h₁.objs.size))) (Ne.symm hTe)).trans (A5 h₁ (FP ho));unfold setFlight;refine A0 (FK he3 hd3 (x:=.ref h₁.objs.size) (by rw[Array.getElem?_setIfInBounds_self_of_lt ⋯]) ?_);rw[Ez (show(Value.ref h₁.objs.size != Value.none)=true from by simp)];exact FJ hT ho h3 ((Q2.push (o:=o) %[oe1,vs1,he1,hd1|h21]).set (i:=1) ∅ |>.set ∅)
theorem gB {h:Heap} {args:Et Dp} (hfr:A.frames=some (env :: outer)) (hf:env.frame=some L) (hkb:base.StaysIn h) (hl:h.FunFrames base (env :: outer)) (hx:Heap.MadeExcOf h s.heap e cls args)
  (hQ:∀h' t,Heap.FlyingW base outer e cls (.ref t) h'->h'.TupAt t args->base.get? t=none->s.heap.UpToSlots h'->Q2 e h'->Q () { s with heap:=h' }):wpAny M A (leaving env (.ref e)) Q E s :=
 E4 (bH (rK (E:=E) hfr hf hl hx) (wpAny_leaves_madeW (Q:=λ _ s'=>Q2 e s'.heap->Q () s') (E:=E) hfr hf hkb hl hx λ h' t a b c d q=>hQ h' t a b c d q)) (λ _ _ z=>z.2 z.1) λ _ _ z=>z.1
theorem ej (hfr:A.frames=some (env :: outer)) (hf:env.frame=some L) (f:Heap.FlyingW base (env :: outer) e cls a0 s.heap) (q:Q2 e s.heap)
  (hQ:∀h',Heap.HeldW base (env :: outer) e cls a0 L h'->s.heap.UpToSlots h'->Q2 e h'->Q () { s with heap:=h' }):wpAny M A (noteFrame (.ref e) env) Q E s :=
 E4 (bH (xv (E:=E) hfr hf f q) (wpAny_looks_onW (Q:=λ _ s'=>Q2 e s'.heap->Q () s') (E:=E) hfr hf f λ h' a b q=>hQ h' a b q)) (λ _ _ z=>z.2 z.1) λ _ _ z=>z.1
theorem mZ (hh:Heap.HeldW base l e cls a0 L s.heap) (q:Q2 e s.heap) (hQ:∀h',Heap.FlyingW base l e cls a0 h'->s.heap.UpToSlots h'->Q2 e h'->Q () { s with heap:=h' }):wpAny M A (setFlight (.ref e) none) Q E s :=
 E4 (bH (gA (E:=E) hh.2.2.2 q) (wpAny_landsW (Q:=λ _ s'=>Q2 e s'.heap->Q () s') (E:=E) hh λ h' a b q=>hQ h' a b q)) (λ _ _ z=>z.2 z.1) λ _ _ z=>z.1
theorem gC (hh:Heap.FlyingW base l e cls a0 s.heap) (q:Q2 e s.heap) (hQ:∀h',Heap.FlyingW base l e cls a0 h'->s.heap.UpToSlots h'->Q2 e h'->Q () { s with heap:=h' }):wpAny M A (setFlight (.ref e) none) Q E s :=
 E4 (bH (gA (E:=E) hh.2.2.2.at q) (lands_againW (Q:=λ _ s'=>Q2 e s'.heap->Q () s') (E:=E) hh λ h' a b q=>hQ h' a b q)) (λ _ _ z=>z.2 z.1) λ _ _ z=>z.1
end
theorem ObjOk.ex {P:Dl} {w:Do} {H:Hp} {h:Heap} {a:Eo} {o:HO} (x:ObjOk P w H h a o):∃ob,h.get? a=some ob:=by
 cases o with
 | lst xs=>obtain⟨_,_,_,_,e⟩:=x;exact%[_|e]
 | tup xs=>obtain⟨_,_,_,o,e,_⟩:=x;exact%[_|e]
 | dK kvs=>obtain⟨_,_,_,_,o,_,_,e,_⟩:=x;exact%[_|e]
 | dT kvs=>obtain⟨_,_,_,_,o,_,_,e,_⟩:=x;exact%[_|e]
 | set S n=>obtain⟨o,_,_,_,e,_⟩:=x;exact%[_|e]
 | ins C dx fs=>obtain⟨_,_,_,e,_⟩:=x;exact%[_|e]
 | own y=>exact x
 | xd fs=>obtain⟨_,⟨_,_,_,e,_⟩,_⟩:=x;exact%[_|e]
 | rng lo hi=>obtain⟨_,_,_,e⟩:=x;exact%[_|e]
 | frz ob u=>exact%[_|x.1]
 | tbl ps=>exact%[_|(show h.get? a=some _ from x)]
 | met f y=>exact%[_|(show h.get? a=some _ from x)]
 | ext φ=>exact x.2.1
structure Flew (P:Program) (w:World) (outer:Et Env) (H:Hp) (s:Shared) (ea:Eo) (C:Value) (H':Hp) (B:Heap) (s':Shared):Prop where
 os:s'.os=s.os
 bare:AllBare s'.gens
 un:Un (frs outer) [] H H' s.heap s'.heap
 hok:HOk P w H' s'.heap
 fly:∃a0,Heap.FlyingW B outer ea C a0 s'.heap
 ctx:Q2 ea s'.heap
 cov:∀b o,b∉frs outer->(H' b≠none\/∃o',s.heap.get? b=some o')->s'.heap.get? b=some o->B.get? b=some o
 new:s.heap.get? ea=none/\H' ea=none
def CXx (P:Dl) (w:Do):CXT:=λ outer H s E e s'=>∃ea C H' B,e=Value.ref ea/\Flew P w outer H s ea C H' B s'/\E C none H'
section
variable {X:Cx} {Ev:Et (Eo×Obj)} {σ:St} {H:Hp} {s:DY}
theorem Inv.raised {h2:Heap} {ea:Eo} {C:Dp} {vs:Et Dp} {M:Model} {E:Dp->DY->Prop} {Q:Unit->DY->Prop} (I:Inv X Ev σ H s) (hst:X.stack=X.env :: X.outer) (hfr:X.env.frame=some X.env.locals) (hex:X.ex=[])
  (hx:Heap.MadeExcOf s.heap h2 ea C vs) (hQ:∀B h',Flew X.prog X.w X.outer X.H₀ X.s₀ ea C H B { s with heap:=h' }->Q () { s with heap:=h' }) :
  wpAny M X.A (leaving X.env (.ref ea)) Q E { s with heap:=h2 }:=by
 have fS:frs X.stack=X.env.locals :: X.fs:=by rw[hst];unfold frs;rw[EM,hfr];rfl
 have st:s.heap.FunFrames X.base (X.env :: X.outer):=by rw[<- hst];exact I.stack
 have hin:∀env∈(X.env :: X.outer),∀b,env.frame=some b->b∈frs X.stack:=λ env he b hb=>by rw[hst];exact Ec.mpr %[env,he|hb]
 have s0L:∀b o,X.s₀.heap.get? b=some o->b≠X.env.locals:=λ b o e=>B7 (B9 (A6 e) I.ok.above);have Ubase:Un X.fs [] X.H₀ H X.s₀.heap s.heap:=by have:=I.base;rw[hex]at this;exact this
 have trk:∀b u,H b=some u->b∉frs X.stack:=λ b u e hb=>by rw[I.stkFree b hb]at e;cases e
 have ofd:∀b,b∈X.fs->∃o,s.heap.get? b=some o/\∀vs,o.data≠.fields vs:=λ b hb=>by obtain⟨_,o,ho,hd⟩:=I.funs.mem hb;exact%[o,ho|hd]
 refine gB (base:=PySem.W.hideAll s.heap (frs X.stack)) (h:=s.heap) (by rw[<- hst];exact I.ok.frames) hfr (λ b o q=>PySem.W.of_hideAll _ q) (PySem.W.funFrames_hide st hin) hx λ h' t fl tup hbt sm q2=>hQ (PySem.W.hideAll s.heap (frs X.stack)) h' ?_;have toB:∀b o,b∉frs X.stack->s.heap.get? b=some o->h'.get? b=some o:=λ b o nb e=>fl.1 _ _ (PySem.W.hideAll_get _ e nb);have nfs:∀b o,X.s₀.heap.get? b=some o->b∉X.fs->b∉frs X.stack:=λ b o e nb z=>by
  rw[fS]at z;rcases Dx.mp z with q | q
  ·exact s0L b o e q
  ·exact nb q
 have slot1:∀b o,b∈X.fs->s.heap.get? b=some o->∃sl,h'.get? b=some { o with slots:=sl }:=λ b o hb e=>by obtain⟨o',e',hd⟩:=ofd b hb;rw[e]at e';cases e';exact sm b o (hx.keeps _ _ e) hd
 refine%[I.os,I.bare,%[λ b o e n hb _=>?_,λ b o e n hb _=>?_,λ b o e n _=>Ubase.free b o e n (by simp),λ b o e _=>?_,Ubase.tups,Ubase.frzs|Ubase.tbls],λ b u e=>?_,%[_|fl],q2,λ b o nb hh e=>?_,?_|?_]
 ·exact toB b o (nfs b o e hb) (Ubase.keep b o e n hb (by simp))
 ·obtain⟨sl,e1⟩:=Ubase.slot b o e n hb (by simp);obtain⟨sl',e2⟩:=slot1 b _ hb e1;exact%[sl'|e2]
 ·obtain⟨o',e1⟩:=Ubase.there b o e (by simp)
  by_cases hb:b∈X.fs
  ·obtain⟨sl,e2⟩:=slot1 b _ hb e1;exact%[_|e2]
  ·exact%[o'|toB b o' (nfs b o e hb) e1]
 ·refine(I.hok b u e).stay (λ c v hc q=>toB c v ?_ q) (λ _ q=>q) λ _ _ q=>q;rcases hc with z | z
  ·rw[z];exact trk b u e
  ·exact trk c _ z
 ·rcases hh with z | ⟨o',z⟩
  ·cases q:H b with
   | none=>exact absurd q z
   | some u=>
    obtain⟨ob,eb⟩:=(I.hok b u q).ex;have eB:=PySem.W.hideAll_get _ eb (trk b u q);have:=fl.1 _ _ eB;rw[e]at this;cases this;exact eB
  ·obtain⟨o'',e1⟩:=Ubase.there b o' z (by simp);have eB:=PySem.W.hideAll_get _ e1 (nfs b o' z nb);have:=fl.1 _ _ eB;rw[e]at this;cases this;exact eB
 ·cases q:X.s₀.heap.get? ea with
  | none=>rfl
  | some o=>
   obtain⟨o',e1⟩:=Ubase.there ea o q (by simp);rw[hx.new]at e1;cases e1
 ·cases q:H ea with
  | none=>rfl
  | some u=>
   obtain⟨ob,eb⟩:=(I.hok ea u q).ex;rw[hx.new]at eb;cases eb
theorem Flew.inv {ea:Eo} {C:Dp} {H':Hp} {B h6:Heap} {s':DY} {t:Nat} (I:Inv X Ev σ H s) (f:Flew X.prog X.w X.stack H s ea C H' B s') (hB:B.StaysIn h6) (sm:s'.heap.UpToSlots h6):Inv X Ev σ H' { s' with heap:=h6,toks:=t }:=by
 have trk:∀b u,H' b=some u->b∉frs X.stack:=λ b u e hb=>by
  obtain⟨o,ho⟩:∃o,s.heap.get? b=some o:=let ⟨_,o,ho,_⟩:=I.stack.mem hb;%[o|ho]
  have:=f.un.free b o ho (I.stkFree b hb) (by simp);rw[this]at e;cases e
 have slot1:∀b o,b∈frs X.stack->s'.heap.get? b=some o->∃sl,h6.get? b=some { o with slots:=sl }:=λ b o hb e=>by obtain⟨a0,fl⟩:=f.fly;obtain⟨_,o',e',hd⟩:=fl.2.2.1.mem hb;rw[e]at e';cases e';exact sm b o e hd
 refine I.call' (ch:=[]) f.os %[λ b o e n hb _=>?_,λ b o e n hb _=>?_,λ b o e n _=>f.un.free b o e n (by simp),λ b o e _=>?_,f.un.tups,f.un.frzs|f.un.tbls] (λ b u e=>?_) f.bare (λ b z=>absurd z (by simp))
 ·exact hB _ _ (f.cov b o hb (.inr %[o|e]) (f.un.keep b o e n hb (by simp)))
 ·obtain⟨sl,e1⟩:=f.un.slot b o e n hb (by simp);obtain⟨sl',e2⟩:=slot1 b _ hb e1;exact%[sl'|e2]
 ·obtain⟨o',e1⟩:=f.un.there b o e (by simp)
  by_cases hb:b∈frs X.stack
  ·obtain⟨sl,e2⟩:=slot1 b _ hb e1;exact%[_|e2]
  ·exact%[o'|hB _ _ (f.cov b o' hb (.inr %[o|e]) e1)]
 ·refine(f.hok b u e).stay (λ c v hc q=>?_) (λ _ q=>q) λ _ _ q=>q;have hc':H' c≠none:=by
   rcases hc with z | z
   ·rw[z,e];exactλ z=>nomatch z
   ·rw[z];exactλ z=>nomatch z
  have nc:c∉frs X.stack:=by
   cases q':H' c with
   | none=>exact absurd q' hc'
   | some u'=>exact trk c u' q'
  exact hB _ _ (f.cov c v nc (.inl hc') q)
end
@[inline]def bmVE:Et Dp:=[.type "ValueError",.type "Exception",.type "BaseException",.type "object"]
def ExcC (K:C4) (C:Eo):Prop:=PySem.W.excIn K C bmVE "ValueError.__new__" = true
theorem ExcC.obj {K:C4} {C:Eo} {h:Heap} (X:K.In h) (q:ExcC K C):∃bm N nm qn bs hdct sn sub ab col dd k0 k1 k2 k3 k5 mN,
  h.get? C=some (excClassObj nm qn C N bs bm hdct sn sub ab col dd k0 k1 k2 k3 k5 "ValueError.__new__")/\h.Ns N mN/\mN "__init__" = none/\OwnTail h bmVE bm:=by
 unfold ExcC PySem.W.excIn at q
 split at q
 ·rename_i dd cd sl ho
  split at q
  ·rename_i C' bm k0 k1 k2 k3 n k5 hm hs
   simp only[EL,beq_iff_eq,Bool.not_eq_true']at q;obtain⟨⟨⟨⟨⟨e1,e2⟩,e3⟩,e4⟩,e5⟩,e6⟩:=q;obtain⟨nm,bs,mro,ns,qn,hd,sn,sub,ab,col,del⟩:=cd;dsimp only at hm e3 e5 e6;subst e1 e2 hm e3;obtain⟨l⟩:=sl;simp only at hs;subst hs;exact%[bm,ns,nm,qn,bs,hd,sn,sub,ab,col,dd,k0,k1,k2,k3,k5,_,X _ _ ho,.of_isNs (PySem.W.isNs_of_in X e5),PySem.W.nsMap_none_of_in X e5 e6|PySem.W.tail_of_in X e4]
  ·cases q
 ·cases q
section
variable {X:Cx} {x:Str} {C:Eo} {e0:Expr} {np cpos pos:Pos} {t:TA}
def rM (R:Dp->Hp->Prop) (C:Eo) (t:TA):TS:=λ _ σ H=>t σ H λ vs H1=>vs.length<=sizeLine/\R (.ref C) H1
theorem bO {R:Dp->Hp->Prop} (hc:X.calm=true) (hg:Gl X x) (hm:X.mg x=↑C) (ec:ExcC X.K C) (ha:PA X [e0] t)
  (hR:∀Ev σ H s h2 ea vs,Inv X Ev σ H s->Heap.MadeExcOf s.heap h2 ea (.ref C) vs->R (.ref C) H->X.xe (.ref ea) { s with heap:=h2 })
  (he:starEach [e0] X.env=[(false,eval e0 X.env)]:=by rfl) (hd:(x == ("__debug__" : Str))=false:=by decide) :
  PS X (.Raise (some (.Call (.Name x np) [e0] [] cpos)) none pos) (rM R C t):=by
 intro Ev s σ H D I h;obtain⟨bm,N,nm,qn,bs,hdct,sn,sub,ab,col,dd,k0,k1,k2,k3,k5,mN,hC,hN,hni,T⟩:=ec.obj I.ok.mod.kin;refine wpAny_Raise_call_subT (C:=C) (nm:=nm) (q:=qn) (N:=N) (bs:=bs) (bm:=bm) (hdct:=hdct) (sn:=sn) (sub:=sub) (ab:=ab) (col:=col) (dd:=dd) (k0:=k0) (k1:=k1) (k2:=k2) (k3:=k3) (k5:=k5)
  PySem.F.excBase_ValueError (mN:=mN) (T.hasType PySem.F.excBase_ValueError.hasBase) (I.ok.hd hc) (by rw[he];rfl) hni (bJ I hg hm %[rfl|?_] hd)
 have h2:=ha cpos Ev s σ H _ I h;rw[he]at h2 ⊢;refine FR (thn h2 λ us s2 %[vs,H1,I1,rv,hl|q]=>%[U,by rw[<- rv.length];exact hl,I1.bk _ _ hC,hN.keeps I1.bk,T.keeps I1.bk|λ h' ea hx=>?_]);exact hR Ev σ H1 s2 h' ea us I1 hx q
end
section
variable {P:Dl} {w:Do} {K:C4} {mg:Str->Er Dp} {base:Heap}
theorem bt {N:Et Str} {qual:Str} {scope:Scope} {f:Eo} {cd:Dp} {A:Around} {outer:Et Env} {s₀:DY} {H₀:Hp} {E:XK} {C:Eo} :
  ∀Ev σ H s h2 ea vs,Inv (aG (CXx P w) P w K mg base N qual scope f cd A outer s₀ H₀ E) Ev σ H s->Heap.MadeExcOf s.heap h2 ea (.ref C) vs->(λ c H=>E c none H) (Value.ref C) H ->
   (aG (CXx P w) P w K mg base N qual scope f cd A outer s₀ H₀ E).xe (.ref ea) { s with heap:=h2 }:=λ Ev σ H s h2 ea vs I hx q=>
 I.raised (E:=λ e' s''=>CXx P w outer H₀ s₀ E e' s'') rfl rfl rfl hx λ B h' f=>%[ea,_,H,B,U,f|q]
theorem Fun.okX {x qual:Str} {st:Stmt} {f:Eo} {fd:Dm} {N ps:Et Str} {k:Nat} {sp:Sp} (F:Fun K x qual st f fd) (S:FnScope N ps (defScope st)) (len:∀vs H Q E,sp vs H Q E->vs.length=ps.length)
  (hbody:∀ (cdv:Dp) (A:Around) (outer:Et Env) (s:DY) (H:Hp) (vs:Et V) (Q:VK) (E:XK),Room k (A.deeper (envOfC qual (defScope st) s.heap.objs.size f cdv))->sp vs H Q E ->
   ∃t,PSs (aG (CXx P w) P w K mg base N qual (defScope st) f cdv A outer s H E) (defBody st) t/\t { nx:=λ _ H'=>Q .non H',rt:=Q } (cn N vs) H):FnOk P w K mg base (CXx P w) (k+1) f fd ps sp:=by
 obtain⟨oc,od,kV,doc,pm,an,cdv,ct,osl,rfl,lk,hcd⟩:=F.ex;exact mJ lk hcd S len λ A outer s H vs Q E hr hsp=>hbody cdv A outer s H vs Q E hr hsp
end
def XP (X:Cx) (Ev:Et (Eo×Obj)) (σ:St) (E:XK) (v:Dp) (s':DY):Prop:=∃ea C H H' B s0,v=Value.ref ea/\Inv X Ev σ H s0/\Flew X.prog X.w X.stack H s0 ea C H' B s'/\E C none H'
abbrev TX:=St->Hp->VK->XK->Prop
def PEx (X:Cx) (e:Expr) (t:TX):Prop :=
 ∀ (Ev:Et (Eo×Obj)) (s:DY) (σ:St) (H:Hp) (Q:VK) (E:XK),Inv X Ev σ H s->t σ H Q E->wpAny (model X.prog X.w) X.A (eval e X.env) (EP X Ev σ Q) (XP X Ev σ E) s
section
variable {X:Cx} {k:Nat} {f C:Eo} {fd:Dm} {ps:Et Str} {sp:Sp} {x m:Str} {p pos apos:Pos} {e o:Expr} {es:Et Expr} {ta:TE} {t:TA}
theorem pb {Ev:Et (Eo×Obj)} {σ:St} {H:Hp} {s:DY} {Q:VK} {E:XK} {us:Et Dp} {vs:Et V} (F:FnOk X.prog X.w X.K X.mg X.base (CXx X.prog X.w) k f fd ps sp) (hr:Room k X.A) (hb:Binds X.K fd ps [])
  (I:Inv X Ev σ H s) (r:Vals vs us) (h:sp vs H Q E):wpAny (model X.prog X.w) X.A (call (.ref f) us) (EP X Ev σ Q) (XP X Ev σ E) s:=by
 have hl:(us ++ []).length=ps.length:=by rw[EU,<- r.length];exact F.len _ _ _ _ h
 have b:=hb s us I.kIn hl;rw[EU]at b;refine wpAny_call (FX (F.run X.A X.stack s H %[us|[]] us vs Q E hr I.env0 b r h) λ r s' hq=>?_);cases r with
 | error e=>
  obtain⟨ea,C,H',B,e1,fl,q⟩:=hq;exact%[ea,C,H,H',B,s,e1,I,fl|q]
 | ok fl=>
  cases fl with
  | ret u=>exact I.after hq
  | next=>exact DF hq
  | brk=>exact DF hq
  | cont=>exact DF hq
end
def Cx.marked (X:Cx) (ea:Eo):Cx:={ X with A:=X.A.mark (↑ea),calm:=false,xe:=λ _ _=>False }
section
variable {X:Cx} {Ev:Et (Eo×Obj)} {σ:St} {H:Hp} {s:DY}
theorem Inv.mark (I:Inv X Ev σ H s) (ea:Eo):Inv (X.marked ea) Ev σ H s :=
 ⟨%[I.ok.mod,I.ok.kind,I.ok.glob,I.ok.blt,I.ok.above,I.ok.inj,I.ok.has,I.ok.cab,λ z=>absurd (show false=true from z) A9,I.ok.frames,I.ok.stk,I.ok.exf,I.ok.bs,I.ok.bsz,I.ok.noex,I.ok.exfs,I.ok.funs|I.ok.frf],
  I.os,I.bare,I.base,I.loc,I.cell,I.free,I.freeC,I.pin,I.hok,I.len⟩
theorem Inv.unmark {ea:Eo} (ok:X.Ok) (I:Inv (X.marked ea) Ev σ H s):Inv X Ev σ H s :=
 %[ok,I.os,I.bare,I.base,I.loc,I.cell,I.free,I.freeC,I.pin,I.hok|I.len]
theorem Inv.track2 {a:Eo} {o:HO} (I:Inv X Ev σ H s) (f0:H a=none) (f1:a≠X.env.locals) (hna:X.s₀.heap.get? a=none) (f4:∀x c,X.env.cells.lookup x=some c->c≠a) (f5:∀p∈X.pn ++ Ev,p.1≠a)
  (new:ObjOk X.prog X.w (upd H a o) s.heap a o):Inv X Ev σ (upd H a o) s:=by
 have s0:∀b o,X.s₀.heap.get? b=some o->b≠a:=λ b o e z=>by rw[z,hna]at e;cases e
 refine%[I.ok,I.os,I.bare,%[I.base.keep,I.base.slot,λ b o e n hx=>?_,I.base.there,λ b xs e=>?_,λ b o u e=>?_|λ b ps e=>?_],I.loc,I.cell,?_,λ x c e=>?_,λ p hp=>?_,I.hok.add f0 new|I.len]
 ·rw[ao (s0 b o e)];exact I.base.free b o e n hx
 ·have q:=I.base.tups b xs e;rw[ao (ak q f0)];exact q
 ·have q:=I.base.frzs b o u e;rw[ao (ak q f0)];exact q
 ·obtain⟨more,q⟩:=I.base.tbls b ps e;exact%[more|by rw[ao (ak q f0)];exact q]
 ·rw[ao (Ne.symm f1)];exact I.free
 ·rw[ao (f4 x c e)];exact I.freeC x c e
 ·obtain⟨e,n,r⟩:=I.pin p hp;exact%[e,by rw[ao (f5 p hp)];exact n|r]
theorem di {M:Model} {A:Around} {E:Dp->DY->Prop} {i:Nat} {x:Str} {pos:Pos} {Q:Unit->DY->Prop} (I:Inv X Ev σ H s) (hN:X.N.Nodup) (hi:X.N[i]?=some x) (hk:X.env.scope.names.lookup x=some .local)
  (h:∀s',Inv X Ev (σ.set i none) H s'->Q () s'):wpAny M A (do bindName X.env x .none;unbindBehindTheSuite X.env x pos) Q E s:=by
 obtain⟨m,hn,hl⟩:=id I.loc;have hcls:(X.env.scope.kind == .class || (X.env.scope.kind == .module && X.env.locals != X.env.globals))=false:=by rw[I.ok.kind];rfl
 refine wpAny_nameGoes_keeps hk hn hcls λ h' v hn' hs=>h _ ?_;obtain⟨oL,_,_,hoL,_⟩:=id hn;have cne:=I.cne;have hok:HOk X.prog X.w H h':=I.hok.but I.free hs;refine%[I.ok,I.os,I.bare,%[λ b o e n hb hx=>?_,λ b o e n hb hx=>?_,I.base.free,λ b o e hx=>?_,I.base.tups,I.base.frzs|I.base.tbls],%[_,hn'|λ j y v' e1 e2 e3=>?_],λ y c e=>?_,I.free,I.freeC,λ p hp=>?_,hok|by simpa using I.len]
 ·exact(hs.2 b (B7 (B9 (A6 e) I.ok.above))).trans (I.base.keep b o e n hb hx)
 ·obtain⟨sl,e1⟩:=I.base.slot b o e n hb hx;exact%[sl|(hs.2 b (B7 (B9 (A6 e) I.ok.above))).trans e1]
 ·obtain⟨o',e1⟩:=I.base.there b o e hx;exact%[o'|(hs.2 b (B7 (B9 (A6 e) I.ok.above))).trans e1]
 ·have hj:j≠i:=λ z=>by
   subst z;have hiσ:j < σ.length:=by rw[I.len];exact(A3.mp hi).1
   rw[Eb hiσ]at e2;cases e2
  rw[List.getElem?_set_ne (Ne.symm hj)]at e2;obtain⟨u',r',q⟩:=hl j y v' e1 e2 e3;refine%[u',r'|?_];rcases q with⟨k,e⟩ | ⟨k,c,e,z⟩
  ·refine .inl %[k|?_];have:y≠x:=λ e=>hj (fc hN e1 (e ▸ hi));simp[this,e]
  ·exact .inr %[k,c,e|z.sameBut hs (cne y c e)]
 ·obtain⟨v',z⟩:=I.cell y c e;exact%[v'|z.sameBut hs (cne y c e)]
 ·obtain⟨e,n,ne,nf,d⟩:=I.pin p hp;exact%[(hs.2 p.1 ne).trans e,n,ne,nf|d]
end
def IsA (a:Eo) (C:Dp) (h:Heap):Prop:=∃o,h.get? a=some o/\o.cls=C/\∃vs,o.data=.fields vs/\vs[2]?=some .none
structure RoomH (k:Nat) (A:Around):Prop where
 dp:A.depth+3 * k+5 < recursionLimit
 un:A.units+16 * k+200 < cLine
structure FnH (P:Program) (w:World) (K:C4) (mg:Str->Er Value) (base:Heap) (k:Nat) (f:Eo) (fd:FuncData) (ps:Et Str) (sp:Sp):Prop where
 len:∀vs H Q E,sp vs H Q E->vs.length=ps.length
 run:∀ (A:Around) (outer:Et Env) (s:DY) (H:Hp) (args:Args) (us:Et Dp) (vs:Et V) (Q:VK) (E:XK),RoomH k A->Env0 P w K mg base A outer s H->BindsTo s fd args (ps.zip us)->Vals vs us->sp vs H Q E ->
  codeAny (model P w) A (.call (.ref f) args) (CR CX0 outer P w H s Q E) s
end L2
namespace PySem
open Sem (wp)
open PySem.W (Frag Looks looks_findIn looks_subIn)
structure ExK (K:Frag) (C:Eo):Prop where
 lkC:PySem.W.findIn K (.ref C) "__class__" = some (some (.builtin "object.__class__"))
 lkG:PySem.W.findIn K (.ref C) "__getattribute__" = some (some (.builtin "BaseException.__getattribute__"))
 lkA:PySem.W.findIn K (.ref C) "__getattr__" = some none
 subB:PySem.W.subIn K (.ref C) (.type "BaseException")=some true
 subO:PySem.W.subIn K (.ref C) (.type "object")=some true
 cls:(PySem.W.clsIn K C).isSome=true
section
variable {prog:Dl} {w:Do} {A:Around} {E:Dp->DY->Prop} {h:Heap} {g:Es GenState} {d:Drawn} {t:Nat} {os:OsState} {a:Eo} {o:Obj} {K:Frag} {C:Eo}
theorem jc {R:Result->DY->Prop} (X:K.In h) (F0:ExK K C) (hx:h.get? a=some o) (hc:o.cls=.ref C) (hq:R (.ok (.ret (.ref C))) %[h,g,d,t|os]) :
  codeAny (model prog w) A (.call (.builtin "getset_descriptor.__get__") %[[.builtin "object.__class__",.ref a,.ref C]|[]]) R %[h,g,d,t|os]:=by
 have hT5:(%[h,g,d,t|os]:DY).TypeIs (.builtin "object.__class__") "getset_descriptor" := F.typeOf_object_class;have L:Looks (model prog w) h (isSubtype (.ref C) (.type (".".intercalate ("object.__class__".cutAt '.').dropLast))) true:=by rw[F.owner_object_class];exact looks_subIn X F0.subO
 refine codeAny_call_builtin F.slot_gs_get.plain F.entry_gs_get (F.slot_gs_get.check _ _ _ _ _ _ _ _ hT5 (F.args_gs_get _ _ _) ?_)
 repeat (any_goals (first | assumption | (with_reducible refine FE hx ?_;rw[hc]) | (with_reducible refine Looks.at L ?_) | wp_step))
 refine%[Code.quiet_builtin _ ∅|codeAny_builtin F.entry_object_class ?_]
 repeat (any_goals (first | assumption | (with_reducible refine FE hx ?_;rw[hc]) | wp_step))
theorem gD {tk:Tok} {Q:Fin->DY->Prop} (X:K.In h) (F0:ExK K C) (hx:h.get? a=some o) (hc:o.cls=.ref C) (hq:Q (.done (.ret (.ref C))) %[h,g,d,t|os]) :
  wpAny (model prog w) A (Builtin.«object.__getattribute__» %[[.ref a,.str "__class__" tk]|[]]) Q E %[h,g,d,t|os]:=by
 have hT5:(%[h,g,d,t|os]:DY).TypeIs (.builtin "object.__class__") "getset_descriptor" := F.typeOf_object_class;have f5:=F.typeOf_object_class;have f6:=F.slot_gs_get.lookup;have f7:=F.slot_gs_set.lookup;have L:Looks (model prog w) h (typeLookup (.ref C) "__class__") _:=looks_findIn X F0.lkC
 repeat (any_goals (first | assumption | (with_reducible refine FE hx ?_;rw[hc]) | (with_reducible refine Looks.at L ?_) | wp_step))
 refine jc X F0 hx hc ?_
 repeat (any_goals (first | assumption | wp_step))
theorem lB {nameV:Dp} {Q:Unit->DY->Prop} (X:K.In h) (F0:ExK K C) (hx:h.get? a=some o) (hc:o.cls=.ref C) (hq:Q () %[h,g,d,t|os]) :
  wpAny (model prog w) A (checkBuiltinCall "BaseException.__getattribute__" %[[.ref a,nameV]|[]]) Q E %[h,g,d,t|os]:=by
 have hk:builtinKind "BaseException.__getattribute__" = some .slot:=∅
 have hsplit:splitId "BaseException.__getattribute__" = some ("BaseException","__getattribute__"):=∅
 have L:Looks (model prog w) h (isSubtype (.ref C) (.type "BaseException")) true:=looks_subIn X F0.subB;have ha:=F.args_bexc_ga (.ref a) nameV;simp only[checkBuiltinCall,hk,hsplit];refine A0 ?_
 ·unfold isInstance
  repeat (first | (with_reducible refine FE hx ?_;rw[hc]) | (with_reducible refine Looks.at L ?_) | wp_step)
  exact hq
theorem ic {tk:Tok} {R:Result->DY->Prop} (X:K.In h) (F0:ExK K C) (hx:h.get? a=some o) (hc:o.cls=.ref C) (hq:R (.ok (.ret (.ref C))) %[h,g,d,t|os]) :
  codeAny (model prog w) A (.call (.builtin "BaseException.__getattribute__") %[[.ref a,.str "__class__" tk]|[]]) R %[h,g,d,t|os] :=
 codeAny_call_builtin F.attrBase_ValueError.ga.plain F.entry_bexc_ga (lB X F0 hx hc (gD X F0 hx hc hq))
theorem lC {tk:Tok} {Q:Dp->DY->Prop} (X:K.In h) (F0:ExK K C) (hx:h.get? a=some o) (hc:o.cls=.ref C) (hq:Q (.ref C) %[h,g,d,t|os]) :
  wpAny (model prog w) A (getAttrBy (.ref a) (.str "__class__" tk) false) Q E %[h,g,d,t|os]:=by
 have LG:Looks (model prog w) h (typeLookup (.ref C) "__getattribute__") _:=looks_findIn X F0.lkG;have LA:Looks (model prog w) h (typeLookup (.ref C) "__getattr__") _:=looks_findIn X F0.lkA;have f3:=F.attrBase_ValueError.ga.bind (.ref a);have hx2:(Value.builtin "BaseException.__getattribute__" == Value.builtin "object.__getattribute__")=false:=∅
 have hx1:(onTheHeap (Value.ref C) && Value.builtin "BaseException.__getattribute__" == Value.builtin "object.__getattribute__")=false:=by rw[hx2];rfl
 repeat (any_goals (first | assumption | (with_reducible refine FE hx ?_;rw[hc]) | (with_reducible refine Looks.at LG ?_) | (with_reducible refine Looks.at LA ?_) | wp_step))
 refine ic X F0 hx hc ?_
 repeat (any_goals (first | assumption | wp_step))
theorem ie {Q:Er Dp->DY->Prop} (X:K.In h) (F0:ExK K C) (hx:h.get? a=some o) (hc:o.cls=.ref C) (hq:Q (↑C) %[h,g,d,t+1|os]) :
  wpAny (model prog w) A (getAttr? (.ref a) "__class__") Q E %[h,g,d,t|os]:=by
 unfold getAttr? getAttrBy?
 repeat (any_goals (first | assumption | with_reducible apply lC X F0 hx hc | wp_step))
end
end PySem
namespace L2
open PySem PySem.Spec PyProof.Rows
section
variable {X:Cx}
inductive rz_op_inD (K:C4) (x:V) (y:V) (H:Hp) (Q:VK):Prop
 | mk (d:_) (xs:_) (e_0:DatV K H x d) (e_1:DatV K H y (.list xs)) (e_2:SeqAt.shaped (.list xs)=true) (e_3:SeqAt.shaped d=true) (e_4:(∀y∈xs,SeqAt.noMix y d=true)) (e_5:Q (.bl (decide (countIn d xs≠0))) H):rz_op_inD K x y H Q
theorem rN (hu:X.A.units+65 < cLine):OpR X (compareOp .In) (rz_op_inD X.K):=by intro Ev s σ H x y v u Q I rx ry h;obtain⟨d,xs,hx,hy,s1,s2,nm,q⟩:=h;obtain⟨as,ra⟩:=I.reads hx rx;obtain⟨bs,rb⟩:=I.reads hy ry;exact in_list_dataH rb ra s1 s2 hu nm %[.bl _,H,I,rfl|q]
theorem jd {pos:Pos}:PE X (.Dict [] [] pos) (λ _ H Q=>∀p,H p=none->Q (.ref p) (upd H p (.dK []))):=by intro Ev s σ H Q I h;have hb:sysModules < s.heap.objs.size:=Nat.lt_trans (show sysModules < Eu by decide) (I.mod.glob.keeps I.bk).lt;refine wpAny_Dict_empty %[.ref s.heap.objs.size,_,?_,rfl|h _ (I.hok.fresh (B0 _))];refine I.laid (a:=s.heap.objs.size) (o:=.dK []) (t':=s.toks) (λ _ _ q=>A4 _ q) (B0 _) ?_;exact%[DG _,FL.mpr (Nat.ne_of_gt hb),[],.nil|Heap.DictOf.new _]
end
section
variable {K:C4} {C X:Eo}
theorem kq (h:ExcC K C):(PySem.W.clsIn K C).isSome=true/\PySem.W.typeIn K (.ref C)=some (.type "type"):=by
 unfold ExcC PySem.W.excIn at h
 split at h
 ·rename_i e
  refine%[?_|?_]
  ·unfold PySem.W.clsIn;rw[e]
   rfl
  ·show Option.map (λ x=>x.cls) (List.lookup C K)=_;rw[e]
   rfl
 ·cases h
theorem el {t:Dp} {b:Bool} (hx:ExcC K X) (s:PySem.W.subIn K t (.ref X)=some b):PySem.W.kitCls K t (.ref X)=some b:=by
 obtain⟨h1,h2⟩:=kq hx;unfold PySem.W.kitCls;simp only[h1,h2,s]
 rfl
theorem na:PySem.W.kitOne K (.ref C) (.ref C)=some true:=by unfold PySem.W.kitOne;rw[Ez (by simp)]
theorem rO {b:Bool} (hx:ExcC K X) (ne:¬ X=C) (s:PySem.W.subIn K (.ref C) (.ref X)=some b):PySem.W.kitOne K (.ref C) (.ref X)=some b:=by unfold PySem.W.kitOne;rw[E1 (λ z=>ne (Value.ref.inj (beq_iff_eq.mp z)).symm)];exact el hx s
theorem bS (s0:PySem.W.subIn K (.ref C) (.ref C)=some true) (hx:ExcC K X) (s:PySem.W.subIn K (.ref C) (.ref X)=some false):PySem.W.kitOne K (.ref C) (.ref X)=some false :=
 rO hx (λ z=>by rw[z,s0]at s;cases s) s
theorem rP (s:PySem.W.subIn K (.ref C) (.type "ValueError")=some true):PySem.W.kitOne K (.ref C) (.type "ValueError")=some true:=by unfold PySem.W.kitOne;rw[E1 (λ z=>by cases(beq_iff_eq.mp z))];show(if PySem.W.kitMeta "ValueError" = true then PySem.W.subIn K (.ref C) (.type "ValueError")else none)=_;rw[Ez (show PySem.W.kitMeta "ValueError" = true by decide +kernel)];exact s
theorem fq {t:Dp}:PySem.W.kitAny K t []=some false:=rfl
theorem aJ {t c:Dp} {cs:Et Dp} (h:PySem.W.kitOne K t c=some false) (r:PySem.W.kitAny K t cs=some false):PySem.W.kitAny K t (c :: cs)=some false:=by show(match PySem.W.kitOne K t c with | some true=>some true | some false=>PySem.W.kitAny K t cs | none=>none)=_;rw[h];exact r
theorem je (hx:ExcC K X) (b:PySem.W.subIn K (.ref X) (.type "BaseException")=some true) (s:PySem.W.subIn K (.ref C) (.ref X)=some true):PySem.W.exmOne K (.ref C) (.ref X)=some true:=by unfold PySem.W.exmOne;rw[b,Ez (show((some true == some true)=true)from rfl)];exact el hx s
end
section
variable {X:Cx} {k:Nat} {f C:Eo} {fd:Dm} {ps:Et Str} {sp:Sp} {x:Str} {p pos:Pos} {e:Expr} {es:Et Expr} {t:TA}
theorem lD {Ev:Et (Eo×Obj)} {σ:St} {H:Hp} {s:DY} {Q:VK} {E:XK} {us:Et Dp} {vs:Et V} (M:Mk X.K C f) (F:FnOk X.prog X.w X.K X.mg X.base (CXx X.prog X.w) k f fd ps sp) (hr:Room (k+1) X.A) (hb:Binds X.K fd ps [])
  (I:Inv X Ev σ H s) (r:Vals vs us)
  (h:∀x dx,H x=none->H dx=none->dx≠x->sp (.ref x :: vs) (upd (upd H dx (.own x)) x (.ins C dx [])) (λ v H2=>v=.non/\Q (.ref x) H2) E) :
  wpAny (model X.prog X.w) X.A (call (.ref C) us) (EP X Ev σ Q) (XP X Ev σ E) s:=by
 have hq:=h (s.heap.objs.size+1) s.heap.objs.size (I.hok.fresh (Nat.le_succ _)) (I.hok.fresh (B0 _)) (B7 (DH _));have I2:=Inv.made (C:=C) I;have r2:Vals (V.ref (s.heap.objs.size+1) :: vs) (Value.ref (s.heap.objs.size+1) :: us):=.cons rfl r;have hl:(Value.ref (s.heap.objs.size+1) :: us ++ []).length=ps.length:=by have e:=r2.length;rw[F.len _ _ _ _ hq]at e;rw[EU];exact e.symm
 have hb2:=hb _ (Value.ref (s.heap.objs.size+1) :: us) I2.kIn hl;rw[EU]at hb2;refine wpAny_call (mE (f:=f) I.kIn M.makes M.init (C3.mp M.fn) (FX (F.run _ X.stack _ _ %[Value.ref (s.heap.objs.size+1) :: us|[]] (Value.ref (s.heap.objs.size+1) :: us) _ _ E (hr.make C us [])
  (I2.env0.make C us []) hb2 r2 hq) λ r s' hq'=>?_))
 cases r with
 | error e=>
  obtain⟨ea,C',H',B,e1,fl,q⟩:=hq';exact%[ea,C',_,H',B,_,e1,I2,fl|q]
 | ok fl=>
  cases fl with
  | ret u=>
   obtain⟨v,H',I3,rv,ev,q3⟩:=I2.after hq';subst ev;exact%[rv|%[V.ref (s.heap.objs.size+1),H',I3,U|q3]]
  | next=>exact DF hq'
  | brk=>exact DF hq'
  | cont=>exact DF hq'
def ng (C:Eo) (sp:Sp) (t:TA):TX:=λ σ H Q E=>t σ H λ vs H1=>∀x dx,H1 x=none->H1 dx=none->dx≠x->sp (.ref x :: vs) (upd (upd H1 dx (.own x)) x (.ins C dx [])) (λ v H2=>v=.non/\Q (.ref x) H2) E
theorem ni (M:Mk X.K C f) (F:FnOk X.prog X.w X.K X.mg X.base (CXx X.prog X.w) k f fd ps sp) (hr:Room (k+1) X.A) (hg:Gl X x) (hm:X.mg x=↑C) (hb:Binds X.K fd ps [])
  (ha:PA X.nox (e :: es) t) (hdb:(x == ("__debug__" : Str))=false:=by decide) (he:starEach (e :: es) X.env=(false,eval e X.env) :: starEach es X.env:=by rfl) (hpl:(backTo pos (starEach es X.env)).any (·.1)=false:=by rfl) :
  PEx X (.Call (.Name x p) (e :: es) [] pos) (ng C sp t):=by
 intro Ev s σ H Q E I h;refine FN (bJ I hg hm ?_ hdb);refine PySem.W.callWith_K (h₀:=X.base) I.ok.mod.kin M.kp (E4 (ha pos Ev s σ H _ (I.wish _) h) (λ us s1 ⟨vs,H1,I1,r,q⟩=>%[I1.kIn|?_]) λ _ _ z=>DF z) he hpl;exact lD M F hr hb I1.unwish r q
def KnX (P:Dl) (w:Do) (K:C4) (mg:Str->Er Dp) (base:Heap) (x:Str) (C:Eo) (ps:Et Str) (k:Nat) (sp:Sp):Prop :=
 ∃ (f:Eo) (fd:Dm),Mk K C f/\FnOk P w K mg base (CXx P w) k f fd ps sp/\Binds K fd ps []/\mg x=↑C
theorem rQ (D:KnX X.prog X.w X.K X.mg X.base x C ps k sp) (hr:Room (k+1) X.A) (hg:Gl X x) (ha:PA X.nox (e :: es) t)
  (hdb:(x == ("__debug__" : Str))=false:=by decide) (he:starEach (e :: es) X.env=(false,eval e X.env) :: starEach es X.env:=by rfl) (hpl:(backTo pos (starEach es X.env)).any (·.1)=false:=by rfl) :
  PEx X (.Call (.Name x p) (e :: es) [] pos) (ng C sp t):=by
 obtain⟨f,fd,M,F,hb,hm⟩:=D;exact ni M F hr hg hm hb ha hdb he hpl
end
section
variable {X:Cx}
inductive rz_op_catT0 (K:C4) (x:V) (y:V) (H:Hp) (Q:VK):Prop
 | mk (a:_) (b:_) (ys:_) (e_0:x=.ref a) (e_1:y=.ref b) (e_2:SqT K H a []) (e_3:SqT K H b ys) (e_4:Q (.ref b) H):rz_op_catT0 K x y H Q
end
theorem eo (xs:Et V) (k:Nat):cy xs (some (k:Int)) none=xs.drop k:=by
 unfold cy;rw[HT.sIx_none,HT.sIx_nat];rcases Nat.le_total k xs.length with h | h
 ·rw[Nat.min_eq_left h,EK (by rw[EN];exact B0 _)]
 ·rw[Nat.min_eq_right h,List.drop_of_length_le (B0 _),List.drop_of_length_le h,List.take_nil]
end L2
namespace Pc
open PySem L2
theorem ku (d:Nat) (h:d < 10):(Nat.digitChar d).toNat=48+d:=by
 match d,h with
 | 0,_=>rfl
 | 1,_=>rfl
 | 2,_=>rfl
 | 3,_=>rfl
 | 4,_=>rfl
 | 5,_=>rfl
 | 6,_=>rfl
 | 7,_=>rfl
 | 8,_=>rfl
 | 9,_=>rfl
def sg (m:Nat):Et Nat:=(Nat.toDigits 10 m).map Char.toNat
theorem kx {m:Nat} (h:m < 10):sg m=[48+m]:=by unfold sg;rw[Nat.toDigits_of_lt_base h];show[(Nat.digitChar m).toNat]=_;rw[ku m h]
theorem ky {m:Nat} (h:10<=m):sg m=sg (m / 10) ++ [48+m % 10]:=by unfold sg;rw[Nat.toDigits_of_base_le ∅ h,EB];show _ ++ [(Nat.digitChar (m % 10)).toNat]=_;rw[ku _ (Nat.mod_lt _ ∅)]
theorem gE (m:Nat):NumText.AllDigits (sg m):=by
 induction m using Nat.strongRecOn with
 | _ m ih=>
  by_cases h:m < 10
  ·rw[kx h];intro c hc;rw[C9]at hc;omega
  ·rw[ky ⋯];intro c hc;rcases C0.mp hc with h' | h'
   ·exact ih (m / 10) ⋯ c h'
   ·rw[C9]at h';omega
theorem qV (m:Nat):sg m≠[]:=by
 by_cases h:m < 10
 ·rw[kx h];simp
 ·rw[ky ⋯];simp
theorem nj (m:Nat):NumText.digitsVal (sg m)=m:=by
 induction m using Nat.strongRecOn with
 | _ m ih=>
  by_cases h:m < 10
  ·rw[kx h];simp[NumText.digitsVal]
  ·rw[ky ⋯];have e:=ih (m / 10) ⋯;unfold NumText.digitsVal at e ⊢;rw[List.foldl_append,e];simp;omega
theorem pc (m:Nat):sg m=[48]\/∃c r,sg m=c :: r/\49<=c:=by
 induction m using Nat.strongRecOn with
 | _ m ih=>
  by_cases h:m < 10
  ·rw[kx h]
   by_cases h0:m=0
   ·subst h0;exact .inl rfl
   ·exact .inr %[_,_,U|⋯]
  ·rw[ky ⋯];rcases ih (m / 10) ⋯ with e | ⟨c,r,e,hc⟩
   ·exfalso;have v:=nj (m / 10);rw[e]at v;simp[NumText.digitsVal]at v;omega
   ·rw[e];exact .inr %[c,_,U|hc]
abbrev Lp (x:Str):Et Nat:=x.cps.toList
theorem aR {x y:Str} (h:Lp x=Lp y):x=y:=by obtain⟨a⟩:=x;obtain⟨b⟩:=y;have:a=b:=Array.toList_inj.mp h;rw[this]
theorem aU (x y:Str):Lp (x ++ y)=Lp x ++ Lp y:=Array.toList_append
theorem av (x:Str):x.length=(Lp x).length:=Array.length_toList.symm
theorem rR {n:Int} (h:0<=n):Lp (Str.ofString (toString n))=sg n.toNat:=by
 obtain⟨m,rfl⟩:∃m:Nat,n=(m:Int):=%[n.toNat|⋯]
 rw[Int.toNat_natCast];exact PySem.W.KIN.signs_num m
def jn (c:Nat):Et (Et Nat)->Et Nat
 | []=>[]
 | [a]=>a
 | a :: b :: r=>a ++ c :: jn c (b :: r)
theorem bZ {c:Nat} {a:Et Nat} {r:Et (Et Nat)} (h:r≠[]):jn c (a :: r)=a ++ c :: jn c r:=by
 cases r with
 | nil=>exact absurd rfl h
 | cons b r=>rfl
theorem kz {c:Nat}:∀ {a b X Y:Et Nat},c∉a->c∉b->a ++ c :: X=b ++ c :: Y->a=b/\X=Y
 | [],[],X,Y,_,_,h=>by simpa using h
 | [],y :: b,X,Y,_,hb,h=>by simp only[List.nil_append,EO,List.cons.injEq]at h;exact absurd (by rw[h.1];exact B5) hb
 | x :: a,[],X,Y,ha,_,h=>by simp only[List.nil_append,EO,List.cons.injEq]at h;exact absurd (by rw[<- h.1];exact B5) ha
 | x :: a,y :: b,X,Y,ha,hb,h=>by simp only[EO,List.cons.injEq]at h;obtain⟨e1,e2⟩:=kz (λ z=>ha (B1 _ z)) (λ z=>hb (B1 _ z)) h.2;exact%[by rw[h.1,e1]|e2]
theorem nk {c:Nat}:∀ {as bs:Et (Et Nat)},as≠[]->bs≠[]->(∀a∈as,c∉a)->(∀b∈bs,c∉b)->jn c as=jn c bs->as=bs
 | [],_,h,_,_,_,_=>absurd rfl h
 | _ :: _,[],_,h,_,_,_=>absurd rfl h
 | [a],[b],_,_,_,_,h=>by rw[show a=b from h]
 | [a],b :: b' :: bs,_,_,ha,_,h=>by have e:a=b ++ c :: jn c (b' :: bs):=h;exact absurd (by rw[e];simp) (ha a B5)
 | a :: a' :: as,[b],_,_,_,hb,h=>by have e:a ++ c :: jn c (a' :: as)=b:=h;exact absurd (by rw[<- e];simp) (hb b B5)
 | a :: a' :: as,b :: b' :: bs,_,_,ha,hb,h=>by obtain⟨e1,e2⟩:=kz (ha a B5) (hb b B5) (show a ++ c :: jn c (a' :: as)=b ++ c :: jn c (b' :: bs)from h);have e3:=nk (as:=a' :: as) (bs:=b' :: bs) (by simp) (by simp) (λ z hz=>ha z (B1 _ hz)) (λ z hz=>hb z (B1 _ hz)) e2;rw[e1,e3]
theorem dL (c:Nat):∀ps:Et Str,Lp (Str.join %[|#[c]] ps)=jn c (ps.map Lp)
 | []=>by simp[Str.join,jn,Lp,Str.empty]
 | [a]=>by simp[Str.join,jn]
 | a :: b :: r=>by
  have ih:=dL c (b :: r);have e:Str.join %[|#[c]] (a :: b :: r)=a ++ (%[|#[c]]:Str) ++ Str.join %[|#[c]] (b :: r):=by simp[Str.join]
  rw[e,aU,aU,ih];simp[jn,Lp]
theorem ig:∀ps:Et Str,Lp (Str.join %[|#[]] ps)=(ps.map Lp).flatten
 | []=>by simp[Str.join,Lp,Str.empty]
 | [a]=>by simp[Str.join]
 | a :: b :: r=>by
  have ih:=ig (b :: r);have e:Str.join %[|#[]] (a :: b :: r)=a ++ (%[|#[]]:Str) ++ Str.join %[|#[]] (b :: r):=by simp[Str.join]
  rw[e,aU,aU,ih];simp[Lp]
theorem lE {x:Str} {c:Nat} (hc:c∈Lp x):(decide (x.length < (%[|#[c]]:Str).length) || decide (Builtin.Str.strKind x < Builtin.Str.strKind %[|#[c]]))=false/\(Builtin.Str.occurrences x %[|#[c]] 0 x.length (x.length+1)).isEmpty=false /\
  Txt.split x %[|#[c]]=Builtin.Str.partsBetween x (Builtin.Str.occurrences x %[|#[c]] 0 x.length (x.length+1)) (%[|#[c]]:Str).length:=by
 have h2:=StrLaws.split_free x c;have key:Txt.split x %[|#[c]]≠[x]:=λ z=>h2 x (by rw[z];exact B5) hc;have e1:(decide (x.length < (%[|#[c]]:Str).length) || decide (Builtin.Str.strKind x < Builtin.Str.strKind %[|#[c]]))=false:=ES.mpr λ z=>key (by unfold Txt.split;rw[Ez z]);have e2:(Builtin.Str.occurrences x %[|#[c]] 0 x.length (x.length+1)).isEmpty=false:=ES.mpr λ z=>key (by unfold Txt.split;rw[E1 (by rw[e1];exact A9),Ez z]);refine%[e1,e2|?_];unfold Txt.split;rw[E1 (by rw[e1];exact A9),E1 (by rw[e2];exact A9)]
end Pc
namespace L2
open PySem PySem.Spec PyProof.Rows
theorem ii:∀ {ys:Et Str} {its:Et Dp},Vals (ys.map V.str) its->StrsAre its ys
 | [],_,.nil=>.nil
 | y :: ys,_,.cons r t=>by
  obtain⟨tk,e⟩:=(show∃t,_=Value.str y t from r)
  subst e;exact .cons y tk (ii t)
theorem dm:∀ (ys:Et Str) (k:Nat),Vals (ys.map V.str) (strsFrom k ys)
 | [],_=>.nil
 | y :: ys,k=>.cons %[_|U] (dm ys _)
section
variable {X:Cx}
theorem eU:MtR X "str.join" (λ x xs H Q=>∃sep p ys,x=.str sep/\xs=[.ref p]/\H p=↥(ys.map V.str)/\sep.length<=64/\(List.map (λ x:Str=>x.length) ys).sum+ys.length * 64<=16777216/\Q (.str (Txt.join sep ys)) H):=by intro Ev s σ H x xs v us Q I rx rv h;obtain⟨sep,p,ys,rfl,rfl,hp,h1,h2,q⟩:=h;obtain⟨t,rfl⟩:=rx;obtain⟨u,rfl,ru⟩:=cT rv;cases ru;obtain⟨its,r,pl,hz⟩:=I.list (Ds hp);exact join_listC pl.isList (by simpa using ii r) h1 h2 λ t' k=>%[.str _,H,I.tok _,%[_|U]|q]
theorem jf:MtR X "str.isascii" (λ x xs H Q=>∃z,x=.str z/\xs=[]/\Q (.bl (Txt.isascii z)) H):=by intro Ev s σ H x xs v us Q I rx rv h;obtain⟨z,rfl,rfl,q⟩:=h;obtain⟨t,rfl⟩:=rx;cases rv;exact SC.isascii %[.bl _,H,I,U|q]
theorem jg:MtR X "str.isdigit" (λ x xs H Q=>∃z,x=.str z/\xs=[]/\Q (.bl (Txt.isdigit z)) H):=by intro Ev s σ H x xs v us Q I rx rv h;obtain⟨z,rfl,rfl,q⟩:=h;obtain⟨t,rfl⟩:=rx;cases rv;exact SC.isdigit %[.bl _,H,I,U|q]
theorem fK:MtR X "str.startswith" (λ x xs H Q=>∃z y,x=.str z/\xs=[.str y]/\Q (.bl (Txt.startswith z y)) H):=by intro Ev s σ H x xs v us Q I rx rv h;obtain⟨z,y,rfl,rfl,q⟩:=h;obtain⟨t,rfl⟩:=rx;obtain⟨u,rfl,ru⟩:=cT rv;obtain⟨t',rfl⟩:=ru;exact SC.startswith %[.bl _,H,I,rfl|q]
theorem ij:MtR X "str.endswith" (λ x xs H Q=>∃z y,x=.str z/\xs=[.str y]/\Q (.bl (Txt.endswith z y)) H):=by intro Ev s σ H x xs v us Q I rx rv h;obtain⟨z,y,rfl,rfl,q⟩:=h;obtain⟨t,rfl⟩:=rx;obtain⟨u,rfl,ru⟩:=cT rv;obtain⟨t',rfl⟩:=ru;exact SC.endswith %[.bl _,H,I,rfl|q]
inductive rz_call_int_text (xs:Et V) (H:Hp) (Q:VK):Prop
 | mk (z:_) (n:_) (e_0:xs=[.str z]) (e_1:intText? z=some n) (e_2:z.length<=640) (e_3:Q (.int n) H):rz_call_int_text xs H Q
theorem dn:cf X (.type "int") (rz_call_int_text):=by intro Ev s σ H xs us Q I rv h;obtain⟨z,n,rfl,e,hl,q⟩:=h;obtain⟨u,rfl,ru⟩:=cT rv;obtain⟨t',rfl⟩:=ru;exact PySem.W.KIN.call_text e hl %[.int _,H,I.tok _,%[_|rfl]|q]
end
end L2
namespace Pc
open PySem L2
abbrev num (n:Int):Str:=Str.ofString (toString n)
structure Nn (n:Int):Prop where
 lo:0<=n
 hi:n < 10 ^ 60
theorem Nn.log {n:Int} (h:Nn n):n.natAbs.log2 < 1920:=by
 have h1:n.natAbs < 2 ^ 200:=by
  have:=h.lo;have:=h.hi;have e:(10:Int) ^ 60 < 2 ^ 200:=∅
  omega
 have h2:n.natAbs.log2 < 200:=by
  by_cases z:n.natAbs=0
  ·rw[z];decide
  ·exact(Nat.log2_lt z).mpr h1
 omega
theorem Nn.len {n:Int} (h:Nn n):(num n).length<=60:=PyProof.Rows.toString_length_le h.lo ∅ h.hi
theorem Nn.sg {n:Int} (h:Nn n):Lp (num n)=Pc.sg n.toNat:=rR h.lo
theorem Nn.sgl {n:Int} (h:Nn n):(Pc.sg n.toNat).length<=60:=by have:=h.len;rw[av,h.sg]at this;exact this
theorem Good.nw {k:Kd} (g:Good k):Nn k.w:=%[by have:=g.w;omega|g.w']
theorem Good.nh {k:Kd} (g:Good k):Nn k.h:=%[by have:=g.h;omega|g.h']
theorem Good.nwo {k:Kd} (g:Good k):Nn k.wo:=%[g.wo|g.wo']
theorem Good.nwa {k:Kd} (g:Good k):Nn k.wa:=%[g.wa|g.wa']
def wd (b:Bool):Str:=if b=true then "turns" else "stays"
theorem gF (b:Bool):(wd b).length=5:=by cases b <;> decide +kernel
theorem kA (b:Bool):(32∉Lp (wd b))/\(10∉Lp (wd b)):=by cases b <;> decide +kernel
def aQ (k:Kd):Et Str:=[num k.w,num k.h,num k.wo,num k.wa,wd k.tu]
def kln (k:Kd):Str:=%[|(jn 32 ((aQ k).map Lp)).toArray]
theorem ft (k:Kd):Lp (kln k)=jn 32 ((aQ k).map Lp):=rfl
theorem cD:Lp (" " : Str)=[32]:=∅
theorem kB:Lp ("\n" : Str)=[10]:=∅
theorem Lp_no:Lp ("" : Str)=[]:=∅
theorem ik:Lp Str.empty=[]:=∅
theorem cb {m c:Nat} (h:c < 48):c∉sg m:=λ z=>by have:=gE m c z;omega
theorem bP {k:Kd} (g:Good k) (c:Nat) (hc:c=32\/c=10):∀p∈aQ k,c∉Lp p:=by
 intro p hp;simp only[aQ,Dx,EH,FV]at hp;have hl:c < 48:=⋯
 rcases hp with rfl | rfl | rfl | rfl | rfl
 ·rw[g.nw.sg];exact cb hl
 ·rw[g.nh.sg];exact cb hl
 ·rw[g.nwo.sg];exact cb hl
 ·rw[g.nwa.sg];exact cb hl
 ·rcases hc with rfl | rfl
  ·exact(kA _).1
  ·exact(kA _).2
theorem lF (k:Kd):32∈Lp (kln k):=by rw[ft];simp[aQ,jn]
theorem pd {k:Kd} (g:Good k):(kln k).length<=300:=by have h1:=g.nw.sgl;have h2:=g.nh.sgl;have h3:=g.nwo.sgl;have h4:=g.nwa.sgl;have h5:=gF k.tu;rw[av]at h5;rw[av,ft];simp only[aQ,EG,List.map_nil,jn,g.nw.sg,g.nh.sg,g.nwo.sg,g.nwa.sg,Dw,EA];omega
theorem rS {k:Kd} (g:Good k):10∉Lp (kln k):=by
 have f:=bP g 10 (.inr rfl);rw[ft];simp only[aQ,EG,List.map_nil,jn];intro z;simp only[C0,Dx]at z;rcases z with z | z | z | z | z | z | z | z | z
 ·exact f _ (by simp[aQ]) z
 ·exact absurd z ∅
 ·exact f _ (by simp[aQ]) z
 ·exact absurd z ∅
 ·exact f _ (by simp[aQ]) z
 ·exact absurd z ∅
 ·exact f _ (by simp[aQ]) z
 ·exact absurd z ∅
 ·exact f _ (by simp[aQ]) z
def lns (b:Int) (ks:Et Kd):Et Str:=num b :: ks.map kln
theorem qW:∀xs:Et (Et Nat),jn 10 (xs ++ [[]])=(xs.map λ x=>x ++ [10]).flatten
 | []=>rfl
 | [a]=>by simp[jn]
 | a :: b :: r=>by have ih:=qW (b :: r);show a ++ 10 :: jn 10 (b :: (r ++ [[]]))=_;rw[show b :: (r ++ [[]])=(b :: r) ++ [[]]from rfl,ih];simp
theorem nq {b:Int} {ks:Et Kd} (hb:Nn b) (g:∀k∈ks,Good k):∀p∈lns b ks,10∉Lp p:=by
 intro p hp;rcases Dx.mp hp with rfl | h
 ·rw[hb.sg];exact cb ∅
 ·obtain⟨k,hk,rfl⟩:=ED.mp h;exact rS (g k hk)
theorem aM (x y:Str):(x ++ y).length=x.length+y.length:=by rw[av,aU,Dw,<- av,<- av]
theorem cF:(" " : Str).length=1:=∅
theorem fu:("\n" : Str).length=1:=∅
end Pc
namespace L2
open PySem PySem.Spec PyProof.Rows
theorem bz {α:Type} {xs:Et α} {i:Int} {v:α} (h0:0<=i) (h:xs[i.toNat]?=some v):atI xs i=some v:=by
 have e:i=((i.toNat:Nat):Int):=⋯
 have z:atI xs ((i.toNat:Nat):Int)=some v:=eM h;rw[<- e]at z;exact z
end L2
namespace L2
open PySem
theorem Room.units66 {k:Nat} {A:Around} (r:Room k A):A.units+66 < cLine:=by have:=r.un;omega
end L2
namespace L2
open PySem PySem.Spec PyProof.Rows
section
variable {X:Cx} {k:Nat} {ps:Et Str} {sp:Sp} {x:Str} {p pos:Pos} {e:Expr} {es:Et Expr} {t:TA}
def DnX (P:Dl) (w:Do) (K:C4) (mg:Str->Er Dp) (base:Heap) (x:Str) (ps:Et Str) (k:Nat) (sp:Sp):Prop :=
 ∃ (f:Eo) (fd:Dm),FnOk P w K mg base (CXx P w) k f fd ps sp/\Binds K fd ps []/\PySem.W.keepIn K (.ref f)=true/\mg x=↑f
def nt (sp:Sp) (t:TA):TX:=λ σ H Q E=>t σ H λ vs H1=>sp vs H1 Q E
theorem gG (D:DnX X.prog X.w X.K X.mg X.base x ps k sp) (hr:Room k X.A) (hg:Gl X x) (ha:PA X.nox (e :: es) t)
  (hdb:(x == ("__debug__" : Str))=false:=by decide) (he:starEach (e :: es) X.env=(false,eval e X.env) :: starEach es X.env:=by rfl) (hpl:(backTo pos (starEach es X.env)).any (·.1)=false:=by rfl) :
  PEx X (.Call (.Name x p) (e :: es) [] pos) (nt sp t):=by
 obtain⟨f,fd,F,hb,hk,hm⟩:=D;intro Ev s σ H Q E I h;refine FN (bJ I hg hm ?_ hdb);refine PySem.W.callWith_K (h₀:=X.base) I.ok.mod.kin hk (E4 (ha pos Ev s σ H _ (I.wish _) h) (λ us s1 ⟨vs,H1,I1,r,q⟩=>%[I1.kIn|?_]) λ _ _ z=>DF z) he hpl;exact pb F hr hb I1.unwish r q
end
theorem fL:entryFor table "proto.unchain" = some Builtin.«proto.unchain» := by exact entryFor_of_tree (by kernel_rfl)
section
variable {prog:Dl} {w:Do} {A:Around} {E:Dp->DY->Prop} {s:DY}
theorem gH {e:Dp} {ea:Eo} {Q:Dp->DY->Prop} (q:Q2 ea s.heap) (h:Q .none s):wpAny (model prog w) A (runValue (.builtin "proto.unchain" %[[e,.ref ea,.ref ea,.bool false]|[]])) Q E s:=by obtain⟨oe,vs,he,hd,h2⟩:=q;refine runValue_entry fL ?_;show wpAny _ _ (field (.ref ea) 2 >>= _) _ _ s;refine A0 (FK he hd h2 ?_);show wpAny _ _ (ret .none) _ _ s;exact A1 %[_,rfl|h]
end
def QH (A:Around) (H:Hp):Prop:=∃ea c,A.handled=↑ea/\H ea=some (.ext (IsA ea c))
structure TurnH (P:Program) (w:World) (K:C4) (tg:Expr) (J:It) (fp:Et Eo) (it:Eo) (tn:Nat->Heap->Prop):Prop where
 mem:it∈fp
 obj:∀i h,tn i h->∀b∈fp,∃o,h.get? b=some o/\∀v,o.data≠.cell v
 keep:∀i h h',tn i h->(∀b∈fp,∀o,h.get? b=some o->h'.get? b=some o)->tn i h'
 item:∀ (X:Cx),X.prog=P->X.w=w->X.K=K->∀ (i:Nat) (Ev:Et (Eo×Obj)) (s:DY) (σ:St) (H:Hp) (E:Dp->DY->Prop),QH X.A H->Inv X Ev σ H s->(∀b∈fp,dr X Ev H b)->tn i s.heap->J.go i H ->
  wpAny (model P w) X.A (pyNext (.ref it)) (λ r s1=>∃u,r=some u /\
   wpAny (model P w) X.A (letOwnedTupleGo tg (.ref it) u) (λ _ s2=>∃x H',Inv X Ev σ H' s2/\RelV x u/\J.yld i H x H'/\tn (i+1) s2.heap/\∀b∈fp,H' b=none) E s1) E s
 done:∀ (X:Cx),X.prog=P->X.w=w->X.K=K->∀ (i:Nat) (Ev:Et (Eo×Obj)) (s:DY) (σ:St) (H:Hp) (E:Dp->DY->Prop),QH X.A H->Inv X Ev σ H s->(∀b∈fp,dr X Ev H b)->tn i s.heap->J.stop i H ->
  wpAny (model P w) X.A (pyNext (.ref it)) (λ r s1=>r=none/\Inv X Ev σ H s1) E s
 self:∀ (A:Around) (i:Nat) (s:DY) (Q:Dp->DY->Prop) (E:Dp->DY->Prop),tn i s.heap->Q (.ref it) s->wpAny (model P w) A (pyIter (.ref it)) Q E s
section
variable {M:Model} {A:Around} {E:Dp->DY->Prop} {s:DY} {base:Heap} {env:Env} {outer:Et Env} {L e:Eo} {cls a0:Dp} {Q:Unit->DY->Prop}
theorem rT (hfr:A.frames=some (env :: outer)) (hf:env.frame=some L) (f:Heap.FlyingW base (env :: outer) e cls a0 s.heap) (q:Q2 e s.heap):wpAny M A (leaving env (.ref e)) (λ _ s'=>Q2 e s'.heap) E s:=by unfold leaving;exact A0 (ej hfr hf f q λ h4 held4 sm4 q4=>gA held4.2.2.2 q4)
theorem jh (hfr:A.frames=some (env :: outer)) (hf:env.frame=some L) (f:Heap.FlyingW base (env :: outer) e cls a0 s.heap) (q:Q2 e s.heap)
  (hQ:∀h',Heap.FlyingW base outer e cls a0 h'->s.heap.UpToSlots h'->Q2 e h'->Q () { s with heap:=h' }):wpAny M A (leaving env (.ref e)) Q E s :=
 E4 (bH (rT (E:=E) hfr hf f q) (wpAny_leaves_onW (Q:=λ _ s'=>Q2 e s'.heap->Q () s') (E:=E) hfr hf f λ h' a b q=>hQ h' a b q)) (λ _ _ z=>z.2 z.1) λ _ _ z=>z.1
end
section
variable {P:Dl} {w:Do} {K:C4} {mg:Str->Er Dp} {base:Heap} {N:Et Str} {qual:Str} {scope:Scope} {f:Eo} {cd:Dp} {A:Around} {outer:Et Env} {s₀:DY} {H₀:Hp} {E:XK}
theorem pe {Ev:Et (Eo×Obj)} {σ:St} {v:Dp} {s1:DY} (hx:XP (aG (CXx P w) P w K mg base N qual scope f cd A outer s₀ H₀ E) Ev σ E v s1):(aG (CXx P w) P w K mg base N qual scope f cd A outer s₀ H₀ E).xe v s1:=by
 obtain⟨ea,C,H0,H',B,s0,rfl,I0,fl,q⟩:=hx;obtain⟨a0,fw⟩:=fl.fly;have I0':=I0;show wpAny (model P w) (A.deeper (envOfC qual scope s₀.heap.objs.size f cd)) (leaving (envOfC qual scope s₀.heap.objs.size f cd) (.ref ea)) _ _ s1;refine jh I0.ok.frames rfl fw fl.ctx λ h' fw' sm q2=>%[ea,C,H',B,U,?_|q]
 have J:Inv (aG (CXx P w) P w K mg base N qual scope f cd A outer s₀ H₀ E) Ev σ H' { s1 with heap:=h' }:=fl.inv (t:=s1.toks) I0 fw'.1 sm;have newE:s₀.heap.get? ea=none:=by
  cases z:s₀.heap.get? ea with
  | none=>rfl
  | some o=>
   obtain⟨o',e1⟩:=I0.base.there ea o z (by show ea∉([]:Et Eo);simp);have:=fl.new.1;rw[e1]at this;cases this
 refine%[J.os,J.bare,J.base,J.hok,%[a0|fw'],q2,λ b o nb hh e=>?_|%[newE|fl.new.2]];have nbs:b∉frs (envOfC qual scope s₀.heap.objs.size f cd :: outer):=λ z=>by
  have z':b=s₀.heap.objs.size\/b∈frs outer:=by unfold frs at z ⊢;rw[EM]at z;exact Dx.mp z
  rcases z' with z | z
  ·subst z;rcases hh with hh | ⟨o',hh⟩
   ·exact hh J.free
   ·exact absurd (A6 hh) (C8 _)
  ·exact nb z
 have key:∃o1,s1.heap.get? b=some o1/\(H' b≠none\/∃o',s0.heap.get? b=some o'):=by
  rcases hh with hh | ⟨o',hh⟩
  ·cases z:H' b with
   | none=>exact absurd z hh
   | some u=>
    obtain⟨ob,eb⟩:=(fl.hok b u z).ex;exact%[ob,eb|.inl (by rw[<- z]at *;exact hh)]
  ·obtain⟨o1,e1⟩:=I0.base.there b o' hh (by show b∉([]:Et Eo);simp);obtain⟨o2,e2⟩:=fl.un.there b o1 e1 (by simp);exact%[o2,e2|.inr %[o1|e1]]
 obtain⟨o1,e1,hh'⟩:=key;have eB:=fl.cov b o1 nbs hh' e1;have:=fw'.1 b o1 eB;rw[e]at this;cases this;exact eB
end
inductive rz_op_repS (x:V) (y:V) (H:Hp) (Q:VK):Prop
 | mk (z:_) (n:_) (e_0:x=.str z) (e_1:y=.int n) (e_2:PySem.MulOk z n) (e_3:Q (.str (Txt.mul z n)) H):rz_op_repS x y H Q
theorem ph {X:Cx}:OpR X (binaryOp .Mult) (rz_op_repS):=by intro Ev s σ H x y v u Q I rx ry h;obtain⟨z,n,rfl,rfl,ok,q⟩:=h;obtain⟨t,rfl⟩:=rx;obtain⟨t',rfl⟩:=ry;exact PySem.SB.mul ok λ t2 k=>%[.str _,H,I.tok _,%[_|U]|q]
section
variable {X:Cx} {e k:Expr} {te tk:TE} {pos p2:Pos}
theorem eu:SlR X (λ x lo hi H Q=>∃z,x=.str z/\z.length<=sizeLine/\Q (.str (Txt.slice z lo hi)) H):=by
 intro Ev s σ H x v vl vu lo hi sl Q I rx hs pl pu h;obtain⟨z,rfl,hz,q⟩:=h;obtain⟨t,rfl⟩:=rx;refine%["str",_,F.slot_str_getitem.lookup,typeIs_str _ _ _|?_];cases pl with
 | none=>cases pu with
  | none=>exact wpAny_getItem_str_slice (l:=none) (u:=none) (st:=none) hs rfl (post_val_or_str %[C5 (FH z none none) hz|λ t' k=>%[.str _,H,I.tok k,%[_|rfl]|q]])
  | int j tj=>exact wpAny_getItem_str_slice (l:=none) (u:=some (j,tj)) (st:=none) hs rfl (post_val_or_str %[C5 (FH z none (some j)) hz|λ t' k=>%[.str _,H,I.tok k,%[_|rfl]|q]])
 | int i ti=>cases pu with
  | none=>exact wpAny_getItem_str_slice (l:=some (i,ti)) (u:=none) (st:=none) hs rfl (post_val_or_str %[C5 (FH z (some i) none) hz|λ t' k=>%[.str _,H,I.tok k,%[_|rfl]|q]])
  | int j tj=>exact wpAny_getItem_str_slice (l:=some (i,ti)) (u:=some (j,tj)) (st:=none) hs rfl (post_val_or_str %[C5 (FH z (some i) (some j)) hz|λ t' k=>%[.str _,H,I.tok k,%[_|rfl]|q]])
end
section
variable {X:Cx}
inductive rz_call_sumT (K:C4) (xs:Et V) (H:Hp) (Q:VK):Prop
 | mk (p:Eo) (ns:Et Int) (e_0:xs=[.ref p]) (e_1:SqT K H p (ns.map V.int)) (e_2:Q (.int ns.sum) H):rz_call_sumT K xs H Q
inductive rz_mt_extendT (K:C4) (x:V) (vs:Et V) (H:Hp) (Q:VK):Prop
 | mk (l:_) (b:_) (xs:_) (zs:_) (e_0:x=.ref l) (e_1:vs=[.ref b]) (e_2:H l=↥xs) (e_3:SqT K H b zs) (e_4:xs.length+zs.length<=sizeLine) (e_5:Q .non (upd H l (.lst (xs ++ zs)))):rz_mt_extendT K x vs H Q
end
end L2
namespace PySem
theorem Paired.getL {α β:Type} {F:α->β->Prop}:∀ {l₁:Et α} {l₂:Et β} {i:Nat} {y:β},Paired F l₁ l₂->l₂[i]?=some y->∃x,l₁[i]?=some x/\F x y
 | _,_,_,_,.nil,e=>by simp at e
 | _,_,0,_,.cons h _,e=>by simp at e;subst e;exact%[_,U|h]
 | _,_,i+1,y,.cons _ t,e=>by obtain⟨x,h1,h2⟩:=Paired.getL (i:=i) t (by simpa using e);exact%[x,by simpa using h1|h2]
end PySem
namespace L2
open PySem PySem.Spec PyProof.Rows
section
variable {X:Cx}
def pi:V->Et V->Hp->VK->Prop:=λ x vs H Q=>∃l xs i y,x=.ref l/\vs=[.int i,y]/\H l=↥xs/\0<=i/\i<=xs.length/\xs.length < sizeLine/\Q .non (upd H l (.lst (xs.take i.toNat ++ y :: xs.drop i.toNat)))
theorem im:∀ (n:Nat) {xs:Et V} {us:Et Dp},Vals xs us->Vals (xs.take n) (us.take n)
 | 0,_,_,_=>.nil
 | _+1,_,_,.nil=>.nil
 | n+1,_,_,.cons a r=>.cons a (im n r)
theorem io:∀ (n:Nat) {xs:Et V} {us:Et Dp},Vals xs us->Vals (xs.drop n) (us.drop n)
 | 0,_,_,h=>h
 | _+1,_,_,.nil=>.nil
 | n+1,_,_,.cons _ r=>io n r
theorem lG:MtM X "list.insert" pi:=by
 intro Ev s σ H x vs v us Q I rx rv h;obtain⟨l,xs,i,y,rfl,rfl,hH,i0,i1,hz,q⟩:=h;cases rx;cases rv with
 | cons r1 r2=>
 obtain⟨t,rfl⟩:=r1;cases r2 with
 | cons ru r3=>
 cases r3;obtain⟨z,its,n,r,hl,e⟩:=I.lstM hH;have b63:(sizeLine:Int) < 2 ^ 63:=∅
 have hfit:¬ (!Builtin.List.listFitsIndex i)=true:=by rw[fitsIndex_both ⋯ ⋯];exact A9
 refine FU F.slot_list_insert %[_,e|U] F.entry_list_insert (F.args_list_insert_3 _ _ _) (PySem.AutoSeq1.list_insert_list_int_val_1 l its.toArray n i t _ hfit (by rw[Dy];omega)) %[e|?_];refine%[.non,_,I.lset (its':=its.take i.toNat ++ _ :: its.drop i.toNat) hH e ?_ ((im _ r).append (.cons ru (io _ r))) ?_,U|q]
 ·have:¬ i < 0:=⋯
  simp[this];rw[Nat.min_eq_left ⋯];congr 2;exact EK (by rw[EN];exact B0 _)
 ·rw[Dw,EA,EF,EN];omega
end
end L2
namespace L2
open PySem PySem.Spec PyProof.Rows PySem.SeqAt
section
variable {X:Cx}
inductive rz_op_neN (K:C4) (x:V) (y:V) (H:Hp) (Q:VK):Prop
 | mk (da:_) (db:_) (e_0:DatV K H x da) (e_1:DatV K H y db) (e_2:da.canLay0=true) (e_3:db.canLay0=true) (e_4:da.depth<=210) (e_5:Q (.bl (!PyData.eqv da db)) H):rz_op_neN K x y H Q
theorem ji (hu:X.A.units+220 < cLine):OpR X (compareOp .NotEq) (rz_op_neN X.K):=by intro Ev s σ H x y v u Q I rx ry h;obtain⟨da,db,hx,hy,s1,s2,dz,q⟩:=h;obtain⟨as,ra⟩:=I.reads hx rx;obtain⟨bs,rb⟩:=I.reads hy ry;exact compareNe_reads ra rb s1 s2 (by have:min da.depth db.depth<=da.depth:=Nat.min_le_left _ _;omega) %[.bl _,H,I,rfl|q]
end
end L2
namespace L2
open PySem PySem.Spec PyProof.Rows
section
variable {M:Model} {A:Around} {E:Dp->DY->Prop} {s:DY} {env:Env}
def eA (M:Model) (A:Around) (E:Dp->DY->Prop) (use:Er (Dp->Sem Unit)) (Q:Dp->DY->Prop) (acc:Dp) (cv:Env) (r:Result) (s':DY):Prop :=
 match r,use with
 | .ok _,none=>∃m,s'.heap.Ns cv.locals m/\∀h',Heap.SameBut cv.locals s'.heap h'->Q acc { s' with heap:=h' }
 | .ok _,some u=>wpAny M A (u acc) (λ _ s''=>∃m,s''.heap.Ns cv.locals m/\∀h',Heap.SameBut cv.locals s''.heap h'->Q .none { s'' with heap:=h' }) E s'
 | .error x,_=>∃m,s'.heap.Ns cv.locals m/\∀h',Heap.SameBut cv.locals s'.heap h'->wpAny M A (passOn "comprehension.variables-let-go" x cv:Sem Dp) (λ _ _=>False) E { s' with heap:=h' }
theorem bB {e:Expr} {scope:Scope} {pos:Pos} {newAcc first:Sem Dp} {g:Comprehension} {gs:Et Comprehension} {cl:Et (Str×Eo)} {use:Er (Dp->Sem Unit)}
  {Q:Dp->DY->Prop}
  (hcl:clausesOf e=g :: gs) (hs:∀x,foldedSetIterable g.iter env x=pure x) (hclos:closureFor scope env=pure cl)
  (hkind:scope.kind=.function) (hnames:∀x∈scope.names,x.2=.local->scope.names.lookup x.1=some .local)
  (h:wpAny M A first (λ x s₁=>wpAny M A (pyIter x) (λ it s₂=>wpAny M A newAcc (λ acc s₃=>
   wpAny M A (newFunctionEnv scope env.globals cl [] env.qual none .none (some env)) (λ cenv s₄=>
    codeAny M A (.compStart e 0 it acc { cenv with scope:=relabel scope env }) (eA M A E use Q acc { cenv with scope:=relabel scope env }) s₄) E s₃) E s₂) E s₁) E s) :
  wpAny M A (comprehension e scope env pos newAcc false first use) Q E s:=by
 unfold comprehension;rw[hclos,hcl];refine A0 (E4 h (λ x s₁ h₁=>A0 (FF (A0 (wpAny_of_eq (hs x) (A0 (E8 (E4 h₁ (λ it s₂ h₂=>
  wpAny_standIf (A0 (E4 h₂ (λ acc s₃ h₃=>A0 (A1 (A0 (E4 h₃ (λ cenv s₄ h₄=>?_) λ _ _ h'=>h')))) λ _ _ h'=>h')))
   λ _ _ h'=>h'))))))) λ _ _ h'=>h')
 dsimp only;have hv:∀x∈(scope.names.filter λ x=>(x.2 == .local || x.2 == .cell) && x.1 != (".0" : Str)).reverse,x.2=.local ->
   Env.kindOf { cenv with scope:=relabel scope env } x.1=some .local:=λ x hx hl=>lookup_relabel_local (hnames x (List.mem_filter.mp (List.mem_reverse.mp hx)).1 hl)
 have hv':∀x∈(scope.names.filter λ x=>(x.2 == .local || x.2 == .cell) && x.1 != (".0" : Str)).reverse.drop 1 ++ (scope.names.filter λ x=>(x.2 == .local || x.2 == .cell) && x.1 != (".0" : Str)).reverse.take 1,
   x.2=.local->Env.kindOf { cenv with scope:=relabel scope env } x.1=some .local:=λ x hx hl=>by
  rcases C0.mp hx with h1 | h1
  ·exact hv x (List.mem_of_mem_drop h1) hl
  ·exact hv x (List.mem_of_mem_take h1) hl
 refine E8 (A0 (wpAny_attempt (E8 (wpAny_run (FX h₄ λ r s' hr=>?_)))));cases r with
 | ok f=>
  cases use with
  | none=>
   obtain⟨m,hn,hr⟩:=hr;exact A0 (E8 (wpAny_comp_letGo (cenv:={ cenv with scope:=relabel scope env }) hkind _ s' m hv hn λ h' m' _ hs'=>A1 (hr h' hs')))
  | some u=>
   refine A0 (wpAny_rule (A0 (E8 (E4 hr (λ _ s'' hr'=>?_) λ _ _ h'=>h'))));obtain⟨m,hn,hr'⟩:=hr';exact A0 (wpAny_comp_letGo (cenv:={ cenv with scope:=relabel scope env }) hkind _ s'' m hv' hn λ h' m' _ hs'=>A1 (hr' h' hs'))
 | error x=>
  have hr':∃m,s'.heap.Ns cenv.locals m/\∀h',Heap.SameBut cenv.locals s'.heap h'->wpAny M A (passOn "comprehension.variables-let-go" x { cenv with scope:=relabel scope env }:Sem Dp) (λ _ _=>False) E { s' with heap:=h' }:=by cases use <;> exact hr
  obtain⟨m,hn,hr⟩:=hr';exact A0 (E8 (wpAny_comp_letGo (cenv:={ cenv with scope:=relabel scope env }) hkind _ s' m hv hn λ h' m' _ hs'=>E4 (hr h' hs') (λ _ _ f=>f.elim) λ _ _ y=>y))
end
section
variable {M:Model} {A:Around} {E:Dp->DY->Prop} {s:DY} {base:Heap} {env:Env} {l:Et Env} {L e:Eo} {cls a0:Dp}
theorem pj {Q:Unit->DY->Prop} (hh:Heap.HeldW base l e cls a0 L s.heap) (q:Q2 e s.heap)
  (hQ:∀h',Heap.HeldW base l e cls a0 L h'->s.heap.UpToSlots h'->Q2 e h'->Q () { s with heap:=h' }):wpAny M A (setFlight (.ref e) (some L)) Q E s:=by
 obtain⟨hkb,hen,hl,oe,vs,T,oT,ts,he,hcls,hd,h1,hnT,hTe,hT,hdT,h3⟩:=hh;have hsz3:3 < ts.size:=(EI.mp h3).1;have other:∀b,b≠T->(s.heap.update T (Obj.mapFields (·.setIfInBounds 3 (rawInt L)))).get? b=s.heap.get? b:=λ b hb=>E6 _ _ (Ne.symm hb);have nr:∀b o,s.heap.get? b=some o->(∀vs,o.data≠.fields vs)->b≠T:=λ b o hb hnf q=>by rw[q,hT]at hb;injection hb with hb;subst hb;exact hnf ts hdT
 unfold setFlight;refine A0 (FK he hd h1 ?_);rw[Ez (show(Value.ref T != Value.none)=true from by simp)];refine FJ hT hdT hsz3 (hQ _ ⟨λ b o hbo=>(other b λ q=>by rw[q,hnT]at hbo;cases hbo).trans (hkb b o hbo),hen,hl.of_keeps λ b o hb hnf=>%[o,(other b (nr b o hb hnf)).trans hb|rfl],?_⟩ (λ b o hb hnf=>%[o.slots|(other b (nr b o hb hnf)).trans hb]) (q.set ∅));exact%[oe,vs,T,_,_,(other e (Ne.symm hTe)).trans he,hcls,hd,h1,hnT,hTe,FA _ hT (FP (FO hdT _)),FO hdT _|by simp[hsz3]]
theorem pp {α:Type} {what:String} {Q:α->DY->Prop} (hf:env.frame=some L) (hh:Heap.HeldW base l e cls a0 L s.heap) (q:Q2 e s.heap)
  (hE:∀h',Heap.HeldW base l e cls a0 L h'->s.heap.UpToSlots h'->Q2 e h'->E (.ref e) { s with heap:=h' }):wpAny M A (passOn what (.ref e) env:Sem α) Q E s:=by
 have hh':=hh;obtain⟨hkb,hen,hl,oe,vs,T,oT,ts,he,hcls,hd,h1,hnT,hTe,hT,hdT,h3⟩:=hh;unfold PySem.passOn;refine A0 (FK he hd h1 ?_);rw[E1 (show¬ ((Value.ref T == Value.none)=true)from by simp),hf];exact A0 (pj hh' q λ h' a b c=>wpAny_throw (hE h' a b c))
theorem rV {outer:Et Env} {Q:Unit->DY->Prop} (hf:env.frame=some L) (hh:Heap.HeldW base (env :: outer) e cls a0 L s.heap) (q:Q2 e s.heap)
  (hQ:∀h',Heap.FlyingW base outer e cls a0 h'->s.heap.UpToSlots h'->Q2 e h'->Q () { s with heap:=h' }):wpAny M A (leaving env (.ref e)) Q E s:=by
 unfold leaving;refine A0 (wpAny_noteFrame_againW hf hh.2.2.2 ?_);refine mZ hh q λ h' hfl sm q'=>?_;obtain⟨k1,k2,⟨_,_,k3⟩,k4⟩:=hfl;exact hQ h' %[k1,k2,k3|k4] sm q'
theorem dg {h B B':Heap} (k:∀b o,B'.get? b=some o->B.get? b=some o):∀ {l:Et Env},h.FunFrames B l->h.FunFrames B' l
 | [],_=>trivial
 | _ :: _,⟨hk,⟨L,o,hf,hn,ho,hd⟩,hr⟩=>⟨hk,⟨L,o,hf,by cases z:B'.get? L with | none=>rfl | some u=>(have:=k _ _ z;rw[hn]at this;cases this),ho,hd⟩,dg k hr⟩
theorem nv {C:Eo} {h h':Heap} (hh:Heap.HeldW base l e cls a0 L h) (q:Q2 e h) (sb:Heap.SameBut C h h') {m:Str->Er Dp} (hn:h.Ns C m) (hl:C∉l.filterMap (·.frame)):Heap.HeldW (PySem.W.hideAll base [C]) l e cls a0 L h'/\Q2 e h':=by
 obtain⟨hkb,hen,hlf,oe,vs,T,oT,ts,he,hcls,hd,h1,hnT,hTe,hT,hdT,h3⟩:=hh;have nC:∀b o vs,h.get? b=some o->o.data=.fields vs->b≠C:=λ b o vs e1 e2 z=>by obtain⟨o',es,ep,ho,hd',_⟩:=hn;rw[z,ho]at e1;cases e1;rw[hd']at e2;cases e2
 have less:∀b o,(PySem.W.hideAll base [C]).get? b=some o->base.get? b=some o:=λ b o z=>PySem.W.of_hideAll _ z;have non:∀b,base.get? b=none->(PySem.W.hideAll base [C]).get? b=none:=λ b z=>by
  cases y:(PySem.W.hideAll base [C]).get? b with
  | none=>rfl
  | some u=>have:=less _ _ y;rw[z]at this;cases this
 have ne:∀b o,(PySem.W.hideAll base [C]).get? b=some o->b≠C:=λ b o z y=>by rw[y,PySem.W.hideAll_none [C] (C9.mpr rfl)]at z;cases z
 refine%[%[λ b o z=>(sb.2 b (ne b o z)).trans (hkb b o (less b o z)),non _ hen,?_,oe,vs,T,oT,ts,(sb.2 e (nC e _ _ he hd)).trans he,hcls,hd,h1,non _ hnT,hTe,(sb.2 T (nC T _ _ hT hdT)).trans hT,hdT|h3]|?_]
 ·have f1:h.FunFrames (PySem.W.hideAll base [C]) l:=dg less hlf;clear hlf
  induction l with
  | nil=>trivial
  | cons env cW ih=>
   obtain⟨hk,⟨L,o,hf,hn',ho,hd'⟩,hr⟩:=f1;rw[EM,hf]at hl;exact%[hk,%[L,o,hf,hn',(sb.2 L λ z=>hl (by rw[z];exact .head _)).trans ho|hd']|ih (λ z=>hl (.tail _ z)) hr]
 ·obtain⟨oe',vs',g1,g2,g3⟩:=q;exact%[oe',vs',(sb.2 e (nC e _ _ g1 g2)).trans g1,g2|g3]
end
section
variable {X:Cx} {Ev:Et (Eo×Obj)} {σ:St} {H2:Hp} {s2:DY} {scope:Scope} {own cs N':Et Str} {cap:Et Nat} {fp:Et Eo} {it:Eo} {tn:Nat->Heap->Prop}
 {elt tg iter:Expr} {ifs:Et Expr} {pos:Pos} {J:It} {g:TG} {tt:TT} {tx:TX} {E:Dp->DY->Prop} {EE:XK} {W:Nat->Nat->Et V->Hp->Prop} {Qf:Et V->Hp->Prop}
def rW (σ:St) (cap:Et Nat) (k:Nat) (J:It) (g:TG) (tt:TT) (tx:TX) (Q:Et V->Hp->Prop) (EE:XK) (W:Nat->Nat->Et V->Hp->Prop):Prop :=
 ∀i m ys H,W i m ys H->(J.stop i H/\ys.length<=sizeLine/\Q ys H) \/
  (J.go i H/\ys.length < sizeLine/\∀x H',J.yld i H x H'->g x (bq σ cap k) H' λ σ2 H2=>leS (bq σ cap k) σ2/\tt σ2 H2 λ ok H3=>
   if ok=true then tx σ2 H3 (λ v H4=>∃m',m' < m/\W (i+1) m' (ys ++ [v]) H4) EE else∃m',m' < m/\W (i+1) m' ys H3)
def rX (X:Cx) (Ev:Et (Eo×Obj)) (s2:DY) (H2:Hp) (scope:Scope) (N':Et Str) (fp:Et Eo) (EE:XK) (C:Eo) (v:Dp) (s':DY):Prop :=
 ∃ (ea:Eo) (c a0:Dp) (H H':Hp) (B:Heap) (s0 s8:DY) (h1:Heap) (pins':Et (Eo×Obj)) (σ6:St),v=.ref ea/\s2.heap.objs.size<=C/\Inv (aK X Ev s2 H2 scope C N' fp) pins' σ6 H s0/\Flew X.prog X.w X.stack H s0 ea c H' B s8/\EE c none H' /\
  Heap.HeldW B X.stack ea c a0 X.env.locals h1/\s8.heap.UpToSlots h1/\Q2 ea h1/\s'={ s8 with heap:=h1 }
theorem pq {C:Eo} {v:Dp} {s8:DY} {pins':Et (Eo×Obj)} {σ6:St} {R:Result->DY->Prop} (hC:s2.heap.objs.size<=C) (hst:X.stack=X.env :: X.outer) (hfr:X.env.frame=some X.env.locals) (hx:XP (aK X Ev s2 H2 scope C N' fp) pins' σ6 EE v s8)
  (hR:∀s',rX X Ev s2 H2 scope N' fp EE C v s'->R (.error v) s') :
  notedBy (model X.prog X.w) X.A (compEnvC scope (aX X.env scope.names []) C X.env) (λ x s'=>R (.error x) s') v s8:=by
 obtain⟨ea,c,H,H',B,s0,rfl,I0,f,q⟩:=hx;obtain⟨a0,fl⟩:=f.fly;have fl':Heap.FlyingW B (X.env :: X.outer) ea c a0 s8.heap:=by rw[<- hst];exact fl
 have hA:X.A.frames=some (X.env :: X.outer):=by rw[<- hst];exact I0.ok.frames
 show wpAny _ X.A (noteFrame (.ref ea) X.env) _ _ s8;refine ej hA hfr fl' f.ctx λ h1 held sm q2=>hR _ %[ea,c,a0,H,H',B,s0,s8,h1,pins',σ6,rfl,hC,I0,f,q,by rw[hst];exact held,sm,q2|rfl]
theorem fZ {RR:Dp->Env->Result->DY->Prop} (I:Inv X Ev σ H2 s2) (ok:CompOk X scope own cs cap) (hc:X.calm=true) (T:Turn X.prog X.w X.K tg J fp it tn) (st:tn 0 s2.heap) (hf:∀b∈fp,dr X Ev H2 b)
  (hg:∀C,PG (aK X Ev s2 H2 scope C (own ++ cs) fp) tg g) (hi:∀C,hI (aK X Ev s2 H2 scope C (own ++ cs) fp) ifs tt) (he:∀C,PEx (aK X Ev s2 H2 scope C (own ++ cs) fp) elt tx)
  (w0:∃m,W 0 m [] H2) (turn:rW σ cap own.length J g tt tx Qf EE W)
  (hRR:∀D C s',BlkEnd X Ev σ Qf D C s'->RR (.ref D) (compEnvC scope (aX X.env scope.names []) C X.env) (.ok .next) s')
  (hst:X.stack=X.env :: X.outer) (hfr:X.env.frame=some X.env.locals) (hRX:∀D C v s',rX X Ev s2 H2 scope (own ++ cs) fp EE C v s'->RR (.ref D) (compEnvC scope (aX X.env scope.names []) C X.env) (.error v) s') :
  wpAny (model X.prog X.w) X.A (newList []) (λ acc s₃=>wpAny (model X.prog X.w) X.A (newFunctionEnv scope X.env.globals (aX X.env scope.names []) [] X.env.qual none .none (some X.env)) (λ cenv s₄=>
   codeAny (model X.prog X.w) X.A (.compStart (.ListComp elt [%[tg,iter,ifs|0]] scope pos) 0 (.ref it) acc { cenv with scope:=relabel scope X.env }) (RR acc { cenv with scope:=relabel scope X.env }) s₄) E s₃) E s2:=by
 refine DQ (wpAny_newFunctionEnv ok.cell (by intro y hy;simp at hy) (λ h₁ hns₁ hsb₁=>?_) ok.kind);dsimp only at hns₁ hsb₁ ⊢;generalize hHH:s2.heap.push { cls:=.type "list",dict:=none,data:=.seq ([]:Et Dp).toArray }=HH at hns₁ hsb₁ ⊢;have hCs:HH.objs.size=s2.heap.objs.size+1:=by rw[<- hHH,Heap.size_push]
 have hDC:s2.heap.objs.size≠HH.objs.size:=by rw[hCs];exact B7 (DH _)
 have hCle:s2.heap.objs.size<=HH.objs.size:=by rw[hCs];exact Nat.le_succ _
 have hfl:∀b∈fp,b < s2.heap.objs.size:=λ b hb=>by obtain⟨o,e,_⟩:=T.obj 0 _ st b hb;exact A6 e
 have old:∀b o,s2.heap.get? b=some o->h₁.get? b=some o:=λ b o e=>hsb₁.extBut b o (by rw[hCs];exact B7 (Nat.lt_succ_of_lt (A6 e))) (A4 _ (hHH ▸ A4 _ e));have hacc:h₁.PlainList s2.heap.objs.size #[]:=%[_|hsb₁.extBut _ _ hDC (A4 _ (hHH ▸ A5 _ rfl))]
 generalize hD:s2.heap.objs.size=D at *;generalize hCC:HH.objs.size=C at *;have hns₁':h₁.Ns C (λ _=>none):=hns₁;have I0:Inv (aK X Ev s2 H2 scope C (own ++ cs) fp) [] (bq σ cap own.length) H2 { s2 with heap:=h₁,toks:=s2.toks+([]:Et (Str×Dp)).length } :=
  fX I ok hf (λ b hb=>by rw[hD];exact hfl b hb) (by rw[hD];exact hCle) hns₁' old
 have Dfs:D∉frs X.stack:=λ hb=>by obtain⟨_,o,ho,_⟩:=I.stack.mem hb;exact absurd (A6 ho) (by rw[hD];exact C8 _)
 have Dfp:∀b∈fp,D≠b:=λ b hb z=>absurd (hfl b hb) (by rw[<- z];exact C8 _);have clt:∀x c,(aX X.env scope.names []).lookup x=some c->c < D:=λ x c e=>by have e':=bY X.env scope.names [] x c (λ y hy e=>I.ok.has y.1 (ok.free y hy e)) (λ _ _ z=>by simp at z) e;obtain⟨v,o,ho,_⟩:=I.cell x c e';have:=A6 ho;rw[hD]at this;exact this
 have plt:∀p∈X.pn ++ Ev,p.1 < D:=λ p hp=>by have:=A6 (I.pin p hp).1;rw[hD]at this;exact this
 have stat:∀ {H':Hp} {ob:Obj},(∀b∈fp,H' b=none)->∀b∈fp,dr (aK X Ev s2 H2 scope C (own ++ cs) fp) [(D,ob)] H' b:=λ {H' ob} hn b hb=>by
  have q:=I0.ok.exf b hb;refine%[hn b hb,q.1,I0.ok.exfs b hb,.inl hb,q.2|λ p hp=>?_];rcases C0.mp hp with z | z
  ·exact(hf b hb).2.2.2.2.2 p z
  ·have:p=(D,ob):=by simpa using z
   subst this;exact Dfp b hb
 have loop:codeAny (model X.prog X.w) X.A (.compLoop (.ListComp elt [%[tg,iter,ifs|0]] scope pos) 0 (.ref it) (.ref D) (compEnvC scope (aX X.env scope.names []) C X.env)) (RR (.ref D) (compEnvC scope (aX X.env scope.names []) C X.env))
   { s2 with heap:=h₁,toks:=s2.toks+([]:Et (Str×Dp)).length }:=by
  obtain⟨m0,w0⟩:=w0;refine codeAny_loop rfl (λ n s'=>∃i H' its ys,Inv (aK X Ev s2 H2 scope C (own ++ cs) fp) [] (bq σ cap own.length) H' s'/\tn i s'.heap/\(∀b∈fp,H' b=none)/\s'.heap.PlainList D its.toArray/\Vals ys its/\H' D=none/\W i n ys H') ?_ m0
   %[0,H2,[],[],I0,T.keep 0 _ _ st λ b _ o e=>old b o e,λ b hb=>(hf b hb).1,hacc,.nil,I.hok.fresh (by rw[hD];exact B0 _)|w0]
  rintro n s3 ⟨i,H3,its,ys,I3,st3,fr3,⟨nn,pl3⟩,rv3,hD3,w3⟩;show wpAny _ X.A ((compTurn (.ListComp elt [%[tg,iter,ifs|0]] scope pos) 0 (.ref it) (.ref D) (compEnvC scope (aX X.env scope.names []) C X.env)).onRaise (λ x=>do noteFrame x (compEnvC scope (aX X.env scope.names []) C X.env);theTreesLotGoes x)) _ _ s3;refine wpAny_noted ?_;rw[compTurn_list];refine A0 (FF (A0 ?_));have I3':Inv (aK X Ev s2 H2 scope C (own ++ cs) fp) [(D,{ cls:=.type "list",data:=.seq its.toArray nn })] (bq σ cap own.length) H3 s3 :=
   I3.pins_of λ p hp=>by
    have:p=(D,{ cls:=.type "list",data:=.seq its.toArray nn }):=by simpa using hp
    subst this;exact%[pl3,hD3,hDC,Dfs|λ v z=>by cases z]
  rcases turn i n ys H3 w3 with⟨stop,hz,qf⟩ | ⟨go,hz,step⟩
  ·refine thn (T.done (aK X Ev s2 H2 scope C (own ++ cs) fp) rfl rfl rfl hc i _ s3 _ H3 _ I3' (stat fr3) st3 stop) λ r s4 %[hr|I4]=>?_;subst hr;refine A1 (hRR D C s4 %[%[ys,H3,hD3,qf,?_|?_]|?_])
   ·have pl4:=(I4.pin (D,_) (A2 _ (C9.mpr rfl))).1;have u4:=I4.base;have Ds2:s2.heap.get? D=none:=Heap.get?_none_of_le (by rw[hD];exact B0 _);refine I.call' (s':=s4) (ch:=fp) I4.os %[u4.keep,u4.slot,λ b o e n hx=>?_,u4.there,λ b xs e=>?_,λ b o u e=>?_|λ b ps e=>?_] ?_ I4.bare λ b hb=>%[(hf b hb).2.2.2.1,(hf b hb).2.1,(hf b hb).2.2.2.2.1|(hf b hb).2.2.2.2.2]
    ·rw[ao (λ z=>by rw[z,Ds2]at e;cases e)];exact u4.free b o e n hx
    ·have:=u4.tups b xs e;rw[ao (ak this hD3)];exact this
    ·have:=u4.frzs b o u e;rw[ao (ak this hD3)];exact this
    ·obtain⟨more,e'⟩:=u4.tbls b ps e;exact%[more|by rw[ao (ak e' hD3)];exact e']
    ·exact I4.hok.add hD3 %[hz,its,nn,rv3|pl4]
   ·have CH:(upd H3 D (.lst ys)) C=none:=by rw[ao (Ne.symm hDC)];exact I4.free
    exact I.fpOk (H':=upd H3 D (.lst ys)) (by rw[hD];exact hCle) CH
   ·obtain⟨m,hn,_⟩:=I4.loc;exact%[m|hn]
  ·refine thn (T.item (aK X Ev s2 H2 scope C (own ++ cs) fp) rfl rfl rfl hc i _ s3 _ H3 _ I3' (stat fr3) st3 go) λ r s4 %[u,hr|h4]=>?_;subst hr;refine A0 (thn h4 λ _ s5 %[x,H5,I5,r5,y5,st5|fr5]=>?_);have I5':=I5.pinned (stat fr5) (T.obj _ _ st5);refine A0 (E4 (hg C _ s5 _ H5 x u _ I5' r5 (step x H5 y5)) (λ _ s6 ⟨σ6,H6,I6,le6,q6⟩=>?_) λ _ _ z=>DF z);refine A0 (E4 (hi C _ s6 σ6 H6 _ I6 q6) (λ b s7 ⟨H7,I7,q7⟩=>?_) λ _ _ z=>DF z);have back:∀ {pins':Et (Eo×Obj)} {H8:Hp} {s8:DY},Inv (aK X Ev s2 H2 scope C (own ++ cs) fp) pins' σ6 H8 s8->Inv (aK X Ev s2 H2 scope C (own ++ cs) fp) [] (bq σ cap own.length) H8 s8:=λ I8=>
    I8.bareP.weak le6.1.symm λ i v e=>le6.2 i v e
   cases b with
   | false=>
    rw[E1 A9]at q7;obtain⟨m',hm,w7⟩:=q7;refine A1 %[rfl,m',hm,i+1,H7,its,ys,back I7,T.keep _ _ _ st5 λ b hb o e=>?_,λ b hb=>?_,%[nn|?_],rv3,?_|w7]
    ·exact(I7.pin (b,o) (A2 _ (A2 _ (aY hb e)))).1
    ·obtain⟨o,e,d⟩:=T.obj _ _ st5 b hb;exact(I7.pin (b,o) (A2 _ (A2 _ (aY hb e)))).2.1
    ·exact(I7.pin (D,_) (A2 _ (B3 _ (C9.mpr rfl)))).1
    ·exact(I7.pin (D,_) (A2 _ (B3 _ (C9.mpr rfl)))).2.1
   | true=>
    rw[Ez rfl]at q7;refine A0 (A0 (E4 (he C _ s7 σ6 H7 _ EE I7 q7) (λ y s8 ⟨v,H8,I8,r8,m',hm,w8⟩=>?_) λ v s8 hx=>pq (by rw[<- hCC];omega) hst hfr hx λ s' z=>hRX D C v s' z));have pD:=I8.pin (D,{ cls:=.type "list",data:=.seq its.toArray nn }) (A2 _ (B3 _ (C9.mpr rfl)));have Ex:=rv3.length;refine A0 (wpAny_list_append_plain (hsz:=by rw[Dy];omega) %[nn|pD.1] λ h9 pl9 sb9=>A1 (A1 ?_));have I8':=back I8;refine%[U,m',hm,i+1,H8,its ++ [y],ys ++ [v],?_,T.keep _ _ _ st5 λ b hb o e=>?_,λ b hb=>?_,?_,rv3.append (.cons r8 .nil),pD.2.1|w8]
    ·exact I8'.turned (t':=s8.toks) (λ b o hb e=>sb9.extBut b o hb e) pD.2.1 hDC (.inr (by show s2.heap.objs.size<=D;rw[hD];exact B0 _)) (λ x c e=>B7 (clt x c e)) λ p hp=>by
      have hp':p∈X.pn ++ Ev:=by have:p∈(X.pn ++ Ev) ++ []:=hp;simpa using this
      exact B7 (plt p hp')
    ·exact sb9.extBut b o (Ne.symm (Dfp b hb)) (I8.pin (b,o) (A2 _ (A2 _ (aY hb e)))).1
    ·obtain⟨o,e,d⟩:=T.obj _ _ st5 b hb;exact(I8.pin (b,o) (A2 _ (A2 _ (aY hb e)))).2.1
    ·have e:its.toArray.push y=(its ++ [y]).toArray:=by simp
     rw[<- e];exact pl9
 exact codeAny_compStart_list loop (T.self _ 0 _ _ _ (T.keep 0 _ _ st λ b _ o e=>old b o e) loop)
end
section
variable {P:Dl} {w:Do} {K:C4} {mg:Str->Er Dp} {base:Heap} {N:Et Str} {qual:Str} {scope:Scope} {f0:Eo} {cd:Dp} {A:Around} {outer:Et Env} {s₀:DY} {H₀:Hp} {E:XK}
theorem fv {Ev:Et (Eo×Obj)} {σ:St} {H2:Hp} {s2 s':DY} {sc:Scope} {N':Et Str} {fp:Et Eo} {C:Eo} {v:Dp} {h2:Heap} {cl:Et (Str×Eo)} {Q:Dp->DY->Prop} {what:String}
  (I2:Inv (aG (CXx P w) P w K mg base N qual scope f0 cd A outer s₀ H₀ E) Ev σ H2 s2) (hf:∀b∈fp,dr (aG (CXx P w) P w K mg base N qual scope f0 cd A outer s₀ H₀ E) Ev H2 b)
  (bx:rX (aG (CXx P w) P w K mg base N qual scope f0 cd A outer s₀ H₀ E) Ev s2 H2 sc N' fp E C v s') (sb:Heap.SameBut C s'.heap h2) :
  wpAny (model P w) (aG (CXx P w) P w K mg base N qual scope f0 cd A outer s₀ H₀ E).A (PySem.passOn what v (compEnvC sc cl C (aG (CXx P w) P w K mg base N qual scope f0 cd A outer s₀ H₀ E).env):Sem Dp) Q (aG (CXx P w) P w K mg base N qual scope f0 cd A outer s₀ H₀ E).xe { s' with heap:=h2 }:=by
 obtain⟨ea,c,a0,H,H',B,s0,s8,h1,pins',σ6,rfl,hC,I0,f,q,held,sm1,q1,rfl⟩:=bx;have Ih1:=f.inv (t:=s8.toks) I0 held.1 sm1;obtain⟨m,hn,_⟩:=Ih1.loc;have lt2:∀b o,s2.heap.get? b=some o->b≠C:=λ b o e=>B7 (B9 (A6 e) hC);have hCf:C∉frs (aG (CXx P w) P w K mg base N qual scope f0 cd A outer s₀ H₀ E).stack:=λ z=>by obtain⟨_,o,ho,_⟩:=I2.stack.mem z;exact lt2 C o ho rfl
 obtain⟨held2,q2⟩:=nv held q1 sb hn hCf;refine pp (L:=(aG (CXx P w) P w K mg base N qual scope f0 cd A outer s₀ H₀ E).env.locals) rfl held2 q2 λ h3 held3 sm3 q3=>?_;show wpAny (model P w) (A.deeper (envOfC qual scope s₀.heap.objs.size f0 cd)) (leaving (envOfC qual scope s₀.heap.objs.size f0 cd) (.ref ea)) _ _ _;refine rV rfl held3 q3 λ h4 fl4 sm4 q4=>%[ea,c,H',PySem.W.hideAll B [C],U,?_|q]
 have up:∀b o,b≠C->s8.heap.get? b=some o->(∀vs,o.data≠.fields vs)->∃sl,h4.get? b=some { o with slots:=sl }:=λ b o nb e nf=>by obtain⟨sl1,e1⟩:=sm1 b o e nf;obtain⟨sl3,e3⟩:=sm3 b _ ((sb.2 b nb).trans e1) nf;obtain⟨sl4,e4⟩:=sm4 b _ e3 nf;exact%[sl4|e4]
 have B4:∀b o,b≠C->B.get? b=some o->h4.get? b=some o:=λ b o nb e=>fl4.1 b o (PySem.W.hideAll_get [C] e (by simpa using nb));have u0:Un (frs (aG (CXx P w) P w K mg base N qual scope f0 cd A outer s₀ H₀ E).stack) fp H2 H s2.heap s0.heap:=I0.base;have sC:∃o,s0.heap.get? C=some o:=by obtain⟨m',⟨o,_,_,ho,_⟩,_⟩:=I0.loc;exact%[o|ho]
 have HC:H' C=none:=by obtain⟨o,ho⟩:=sC;exact f.un.free C o ho I0.free (by simp)
 have trk:∀b u,H' b=some u->b∉frs (aG (CXx P w) P w K mg base N qual scope f0 cd A outer s₀ H₀ E).stack:=λ b u e hb=>by obtain⟨_,o,ho,_⟩:=I0.stack.mem hb;have:=f.un.free b o ho (I0.stkFree b hb) (by simp);rw[this]at e;cases e
 have slot1:∀b o,b≠C->b∈frs (aG (CXx P w) P w K mg base N qual scope f0 cd A outer s₀ H₀ E).stack->s8.heap.get? b=some o->∃sl,h4.get? b=some { o with slots:=sl }:=λ b o nb hb e=>by obtain⟨_,fl⟩:=f.fly;obtain⟨_,o',e',hd⟩:=fl.2.2.1.mem hb;rw[e]at e';cases e';exact up b o nb e hd
 have J:Inv (aG (CXx P w) P w K mg base N qual scope f0 cd A outer s₀ H₀ E) Ev σ H' { s8 with heap:=h4 }:=by
  refine I2.call' (ch:=fp) (f.os.trans I0.os) %[λ b o e n hb hx=>?_,λ b o e n hb hx=>?_,λ b o e n hx=>?_,λ b o e hx=>?_,λ b xs e=>f.un.tups b xs (u0.tups b xs e),λ b o u e=>f.un.frzs b o u (u0.frzs b o u e)|λ b ps e=>?_] (λ b u e=>?_) f.bare λ b hb=>%[(hf b hb).2.2.2.1,(hf b hb).2.1,(hf b hb).2.2.2.2.1|(hf b hb).2.2.2.2.2]
  ·have e0:=u0.keep b o e n hb hx;exact B4 b o (lt2 b o e) (f.cov b o hb (.inr %[o|e0]) (f.un.keep b o e0 (u0.free b o e n hx) hb (by simp)))
  ·obtain⟨sl,e0⟩:=u0.slot b o e n hb hx;obtain⟨sl',e8⟩:=f.un.slot b _ e0 (u0.free b o e n hx) hb (by simp);obtain⟨sl4,e4⟩:=slot1 b _ (lt2 b o e) hb e8;exact%[sl4|e4]
  ·obtain⟨o0,e0⟩:=u0.there b o e hx;exact f.un.free b o0 e0 (u0.free b o e n hx) (by simp)
  ·obtain⟨o0,e0⟩:=u0.there b o e hx;obtain⟨o8,e8⟩:=f.un.there b o0 e0 (by simp)
   by_cases hb:b∈frs (aG (CXx P w) P w K mg base N qual scope f0 cd A outer s₀ H₀ E).stack
   ·obtain⟨sl4,e4⟩:=slot1 b _ (lt2 b o e) hb e8;exact%[_|e4]
   ·exact%[o8|B4 b o8 (lt2 b o e) (f.cov b o8 hb (.inr %[o0|e0]) e8)]
  ·obtain⟨m1,e1⟩:=u0.tbls b ps e;obtain⟨m2,e2⟩:=f.un.tbls b _ e1;exact%[m1 ++ m2|by rw[e2,Array.append_assoc]]
  ·refine(f.hok b u e).stay (λ c' v hc q=>?_) (λ _ q=>q) λ _ _ q=>q;have hc':H' c'≠none:=by
    rcases hc with z | z
    ·rw[z,e];exactλ z=>nomatch z
    ·rw[z];exactλ z=>nomatch z
   have nc:c'∉frs (aG (CXx P w) P w K mg base N qual scope f0 cd A outer s₀ H₀ E).stack:=by
    cases q':H' c' with
    | none=>exact absurd q' hc'
    | some u'=>exact trk c' u' q'
   exact B4 c' v (λ z=>hc' (by rw[z];exact HC)) (f.cov c' v nc (.inl hc') q)
 have s02:∀b o,s₀.heap.get? b=some o->∃o0,s0.heap.get? b=some o0:=λ b o e=>by
  obtain⟨o2,e2⟩:=I2.base.there b o e (by show b∉([]:Et Eo);simp);exact u0.there b o2 e2 λ z=>by
   rcases(hf b z).2.2.2.1 with y | y
   ·exact absurd y (by show b∉([]:Et Eo);simp)
   ·exact absurd (A6 e) (Nat.not_lt.mpr y)
 refine%[J.os,J.bare,J.base,J.hok,%[a0|fl4],q4,λ b o nb hh e=>?_,?_|f.new.2]
 ·have nC:b≠C:=λ z=>by
   rcases hh with hh | ⟨o',hh⟩
   ·exact hh (by rw[z];exact HC)
   ·obtain⟨o2,e2⟩:=I2.base.there b o' hh (by show b∉([]:Et Eo);simp);exact lt2 b o2 e2 z
  have nbs:b∉frs (envOfC qual scope s₀.heap.objs.size f0 cd :: outer):=λ z=>by
   have z':b=s₀.heap.objs.size\/b∈frs outer:=by unfold frs at z ⊢;rw[EM]at z;exact Dx.mp z
   rcases z' with z | z
   ·subst z;rcases hh with hh | ⟨o',hh⟩
    ·exact hh J.free
    ·exact absurd (A6 hh) (C8 _)
   ·exact nb z
  have key:∃o1,s8.heap.get? b=some o1/\(H' b≠none\/∃o',s0.heap.get? b=some o'):=by
   rcases hh with hh | ⟨o',hh⟩
   ·cases z:H' b with
    | none=>exact absurd z hh
    | some u=>
     obtain⟨ob,eb⟩:=(f.hok b u z).ex;exact%[ob,eb|.inl (by rw[<- z]at *;exact hh)]
   ·obtain⟨o1,e1⟩:=s02 b o' hh;obtain⟨o2,e2⟩:=f.un.there b o1 e1 (by simp);exact%[o2,e2|.inr %[o1|e1]]
  obtain⟨o1,e1,hh'⟩:=key;have eB:=f.cov b o1 nbs hh' e1;have:=B4 b o1 nC eB;rw[e]at this;cases this;exact PySem.W.hideAll_get [C] eB (by simpa using nC)
 ·cases z:s₀.heap.get? ea with
  | none=>rfl
  | some o=>
   obtain⟨o',e1⟩:=s02 ea o z;have:=f.new.1;rw[e1]at this;cases this
theorem ny {X:Cx} {wi:TI} {i:Nat} {y:Str} {py spos pos:Pos} {elt tg iter:Expr} {ifs:Et Expr} {sc:Scope} {own cs:Et Str} {cap:Et Nat} {g:TG} {tt:TT} {tx:TX}
  (hX:X=aG (CXx P w) P w K mg base N qual scope f0 cd A outer s₀ H₀ E) (hN:X.N.Nodup) (hiy:X.N[i]?=some y) (hy:X.env.scope.names.lookup y=some .local)
  (hsw:swapsWith (.ListComp elt [%[tg,iter,ifs|0]] sc pos) (some (.Name y py)) spos.line X.env=pure true) (hit:PI X tg iter wi) (ok:CompOk X sc own cs cap)
  (hg:∀Ev s2 H2 C fp,PG (aK X Ev s2 H2 sc C (own ++ cs) fp) tg g) (hi:∀Ev s2 H2 C fp,hI (aK X Ev s2 H2 sc C (own ++ cs) fp) ifs tt) (he:∀Ev s2 H2 C fp,PEx (aK X Ev s2 H2 sc C (own ++ cs) fp) elt tx)
  (hs:∀x,foldedSetIterable iter X.env x=pure x:=by intro _;rfl):PS X (.Assign [.Name y py] (.ListComp elt [%[tg,iter,ifs|0]] sc pos) spos) (mt (hZ wi cap own.length g tt (λ σ H Q=>tx σ H Q E)) (gT i)):=by
 subst hX;intro Ev s σ H D0 I h;rw[exec_Assign_Name_used _ _ _ _ hsw];refine A0 (FF (A0 ?_));show wpAny _ (aG (CXx P w) P w K mg base N qual scope f0 cd A outer s₀ H₀ E).A (do let _<-comprehension (.ListComp elt [%[tg,iter,ifs|0]] sc pos) sc (aG (CXx P w) P w K mg base N qual scope f0 cd A outer s₀ H₀ E).env _ (newList []) false (eval iter (aG (CXx P w) P w K mg base N qual scope f0 cd A outer s₀ H₀ E).env) (some (assign (.Name y py) (aG (CXx P w) P w K mg base N qual scope f0 cd A outer s₀ H₀ E).env))) _ _ s;refine A0 (E4 (bB (use:=some (assign (.Name y py) (aG (CXx P w) P w K mg base N qual scope f0 cd A outer s₀ H₀ E).env)) (Q:=λ _ s'=>SP (aG (CXx P w) P w K mg base N qual scope f0 cd A outer s₀ H₀ E) Ev D0 .next s') rfl hs (cO λ y hy e=>I.ok.has y.1 (ok.free y hy e)) ok.kind ok.names
  (thn (hit Ev s σ H _ I h) λ v s1 h1=>thn h1 λ itv s2 h2=>?_)) (λ _ s' hq=>A1 (A1 hq)) λ _ _ e=>e)
 obtain⟨it,fp,tn,J,H2,e,I2,T,st2,f2,W,w0,turn⟩:=h2;subst e;refine fZ (RR:=λ acc cv=>eA (model P w) (aG (CXx P w) P w K mg base N qual scope f0 cd A outer s₀ H₀ E).A (aG (CXx P w) P w K mg base N qual scope f0 cd A outer s₀ H₀ E).xe (some (assign (.Name y py) (aG (CXx P w) P w K mg base N qual scope f0 cd A outer s₀ H₀ E).env)) (λ _ s'=>SP (aG (CXx P w) P w K mg base N qual scope f0 cd A outer s₀ H₀ E) Ev D0 .next s') acc cv) I2 ok rfl T st2 f2 (λ C=>hg _ _ _ _ _) (λ C=>hi _ _ _ _ _) (λ C=>he _ _ _ _ _) w0 turn (λ D C s' B=>?_) rfl rfl λ D C v s' bx=>?_
 ·obtain⟨⟨ys,H',hD,q,I',fp'⟩,m,hn⟩:=B;obtain⟨f0,f1,f2',f3,f4,f5⟩:=fp';show wpAny _ _ (assign (.Name y py) _ (.ref D)) _ _ _;refine wpAny_assign_Name (dY I' hN hiy (.inl hy) (v:=.ref D) rfl (λ s3 I3 ⟨a,sb,ha⟩=>?_) (.inr hy));have hCa:C≠a:=by
   rcases ha with z | z
   ·rw[z];exact f1
   ·exactλ q=>f4 y a z q.symm
  refine%[m,hn.sameBut sb hCa|λ h' sb'=>%[_,_,I3.turned (t':=s3.toks) (λ b o hb e=>sb'.extBut b o hb e) f0 f1 f3 f4 f5|q D hD]]
 ·have bx':=bx;obtain⟨ea,c,a0,H,H',B,s0,s8,h1,pins',σ6,rfl,hC,I0,f,q,held,sm1,q1,rfl⟩:=bx;obtain⟨m,hn,_⟩:=(f.inv (t:=s8.toks) I0 held.1 sm1).loc;exact%[m,hn|λ h' sb=>fv I2 f2 bx' sb]
end
end L2
namespace Pc
open PySem L2
def sp (c:Nat):Et Nat->Et (Et Nat)
 | []=>[[]]
 | x :: r=>if x=c then[] :: sp c r else(x :: (sp c r).headD []) :: (sp c r).tail
theorem gb (c:Nat):∀l,sp c l≠[]
 | []=>by simp[sp]
 | x :: r=>by unfold sp;split <;> simp
theorem bF {c:Nat} (l:Et Nat):∃a t,sp c l=a :: t:=List.exists_cons_of_ne_nil (gb c l)
theorem dw (c:Nat):∀l,(sp c l).length<=l.length+1
 | []=>B0 _
 | x :: r=>by
  have h:=dw c r;obtain⟨a,t,e⟩:=bF (c:=c) r;rw[e]at h;unfold sp;rw[e]
  split <;> simp at * <;> omega
theorem eV (c:Nat):∀l,∀p∈sp c l,c∉p
 | [],p,h=>by rw[C9.mp (show p∈[[]]from h)];simp
 | x :: r,p,h=>by
  have ih:=eV c r;obtain⟨a,t,e⟩:=bF (c:=c) r;rw[e]at ih;unfold sp at h;rw[e]at h
  split at h
  ·rcases Dx.mp h with rfl | h
   ·simp
   ·exact ih p h
  ·rename_i n
   rcases Dx.mp h with rfl | h
   ·intro z;rcases Dx.mp z with z | z
    ·exact n z.symm
    ·exact ih a B5 z
   ·exact ih p (B1 _ h)
theorem kC (c:Nat):∀l,jn c (sp c l)=l
 | []=>rfl
 | x :: r=>by
  have ih:=kC c r;obtain⟨a,t,e⟩:=bF (c:=c) r;rw[e]at ih;unfold sp;rw[e]
  split
  ·rename_i h
   rw[bZ (by simp),ih,h];rfl
  ·cases t with
   | nil=>
    have ih:a=r:=ih;rw[ih];rfl
   | cons b t=>
    have ih:a ++ c :: jn c (b :: t)=r:=ih;show(x :: a) ++ c :: jn c (b :: t)=x :: r;rw[<- ih];rfl
theorem fz {c:Nat} {ps:Et (Et Nat)} (h0:ps≠[]) (hf:∀p∈ps,c∉p):sp c (jn c ps)=ps :=
 nk (gb _ _) h0 (eV c _) hf (kC c _)
def mkS (l:Et Nat):Str:=%[|l.toArray]
theorem jj (l:Et Nat):Lp (mkS l)=l:=rfl
theorem dh (x:Str):mkS (Lp x)=x:=aR rfl
theorem bC (z:Str) (c:Nat):Txt.split z %[|#[c]]=(sp c (Lp z)).map mkS:=by
 have h1:=StrLaws.join_split z %[|#[c]];have h2:=StrLaws.split_free z c;have h3:jn c ((Txt.split z %[|#[c]]).map Lp)=Lp z:=by rw[<- dL,h1]
 have ne:Txt.split z %[|#[c]]≠[]:=λ e=>by
  by_cases hc:(decide (z.length < (%[|#[c]]:Str).length) || decide (Builtin.Str.strKind z < Builtin.Str.strKind %[|#[c]]))=true
  ·unfold Txt.split at e;rw[Ez hc]at e;cases e
  ·by_cases hf:(Builtin.Str.occurrences z %[|#[c]] 0 z.length (z.length+1)).isEmpty=true
   ·unfold Txt.split at e;rw[E1 hc,Ez hf]at e;cases e
   ·rw[e]at h3;have h3:[]=Lp z:=h3;have hz:z=Str.empty:=aR (by rw[<- h3,ik]);subst hz;exact hc (by rw[Bool.or_eq_true];exact .inl (A7 (show(0:Nat) < 1 by decide)))
 have e:sp c (Lp z)=(Txt.split z %[|#[c]]).map Lp:=by rw[<- h3];refine fz (by simpa using ne) λ p hp=>?_;obtain⟨q,hq,rfl⟩:=ED.mp hp;exact h2 q hq
 rw[e,En];exact(List.map_id'' (λ x=>dh x) _).symm
theorem split_len (z:Str) (c:Nat):(Txt.split z %[|#[c]]).length<=z.length+1:=by rw[bC,Dv,av];exact dw c _
end Pc
namespace L2
open PySem PySem.Spec PyProof.Rows
def Its (x:Str):It:=%[λ i _=>i < x.cps.size,λ i H v H'=>H'=H/\∃c,x.cps[i]?=some c/\v=.str %[|#[c]]|λ i _=>x.cps.size<=i]
theorem nz {P:Dl} {w:Do} {K:C4} {tg:Expr} (it:Eo) (x:Str) (t:Tok):Turn P w K tg (Its x) [it] it (λ i h=>h.IsStrIter it "str_ascii_iterator" x t i) where
 mem:=by simp
 obj:=λ i h st b hb=>by
  have e:b=it:=by simpa using hb
  subst e;obtain⟨o,e,c,d⟩:=st;exact%[o,e|λ v z=>by rw[d]at z;cases z]
 keep:=λ i h h' st k=>let ⟨o,ho,r⟩:=st;%[o,k it (by simp) o ho|r]
 item:=by intro X hP hw hK hc i Ev s σ H E I hf st hg;subst hP hw hK;have hg:i < x.cps.size:=hg;obtain⟨f0,f1,f2,f3,f4,f5⟩:=hf it (by simp);refine wpAny_pyNext_ascii_item st (c:=x.cps[i]) (by simp[hg]) λ h' st' sb=>?_;have I1:Inv X Ev σ H { s with heap:=h',toks:=s.toks+1 }:=I.turned (λ b o hb e=>(sb.2 b hb).trans e) f0 f1 f3 f4 f5;obtain⟨o,e,c,d⟩:=id st';exact%[_,U|jU (s:={ s with heap:=h',toks:=s.toks+1 }) e c d ∅ %[.str %[|#[x.cps[i]]],H,I1,%[_|U],%[U,x.cps[i],by simp[hg]|U],st'|λ b hb=>(hf b hb).1]]
 done:=by intro X hP hw hK hc i Ev s σ H E I hf st hg;subst hP hw hK;have hg:x.cps.size<=i:=hg;obtain⟨f0,f1,f2,f3,f4,f5⟩:=hf it (by simp);exact wpAny_pyNext_ascii_end (I.ok.hd hc) st (by simp[hg]) λ h' eb=>%[U|I.turned (t':=s.toks) (λ b o hb e=>eb b o hb e) f0 f1 f3 f4 f5]
 self:=λ _ _ _ _ _ st h=>wpAny_pyIter_striter_ascii st h
section
variable {X:Cx} {tg:Expr}
def Bi (tl:TE):TI:=λ σ H R=>tl σ H λ v H1=>∃x,v=.str x/\x.cps.all (· < 128)=true/\R (Its x) H1
theorem rY {l:Expr} {tl:TE} (hl:PE X l tl):PI X tg l (Bi tl):=by
 intro Ev s σ H R I h;refine thn (hl Ev s σ H _ I h) ?_;rintro v s1 ⟨y,H1,I1,r1,x,ey,ha,q⟩;subst ey;obtain⟨t,rfl⟩:=r1;refine wpAny_pyIter_ascii ha %[s1.heap.objs.size,[s1.heap.objs.size],_,_,H1,rfl,I1.kept (t':=s1.toks) λ b o e=>A4 _ e,nz _ x t,%[_,A5 _ rfl,rfl|rfl],λ b hb=>?_|q];have e:b=s1.heap.objs.size:=by simpa using hb
 subst e;exact I1.fpOk (B0 _) (I1.hok.fresh (B0 _))
end
theorem nA {x:Str} {σ:St} {cap:Et Nat} {k:Nat} {g:TG} {tt:TT} {te:TE} {Q:Et V->Hp->Prop} {H:Hp} (Pv:Nat->Et V->Hp->Prop) (h0:Pv 0 [] H)
  (ht:∀i c ys H',(Pc.Lp x)[i]?=some c->Pv i ys H'->ys.length < sizeLine/\g (.str %[|#[c]]) (bq σ cap k) H' λ σ2 H2=>leS (bq σ cap k) σ2/\tt σ2 H2 λ ok H3=>if ok=true then te σ2 H3 (λ v H4=>Nx (Pc.Lp x).length Pv i (ys ++ [v]) H4)else Nx (Pc.Lp x).length Pv i ys H3)
  (hd:∀ys H',Pv (Pc.Lp x).length ys H'->ys.length<=sizeLine/\Q ys H'):∃W,(∃m,W 0 m [] H)/\hU σ cap k (Its x) g tt te Q W:=by
 have hs:(Pc.Lp x).length=x.cps.size:=Array.length_toList;refine%[λ i m ys H'=>m=(Pc.Lp x).length - i/\i<=(Pc.Lp x).length/\Pv i ys H',%[_,U,DG _|h0]|?_];rintro i m ys H' ⟨rfl,hi,p⟩
 by_cases hin:i < (Pc.Lp x).length
 ·obtain⟨a1,a2⟩:=ht i (Pc.Lp x)[i] ys H' (DJ hin) p;refine .inr %[show i < x.cps.size by omega,a1|?_];rintro v H2 ⟨rfl,c,hc,rfl⟩;have:(Pc.Lp x)[i]=c:=by
   have e:(Pc.Lp x)[i]?=some c:=by rw[<- hc];simp[Pc.Lp]
   rw[DJ hin]at e;exact B6 e
  rw[<- this];exact a2
 ·have e:i=(Pc.Lp x).length:=⋯
  subst e;obtain⟨a1,a2⟩:=hd ys H' p;exact .inl %[show x.cps.size<=_ by omega,a1|a2]
section
variable {X:Cx}
theorem bI:MtR X "str.split" (λ x xs H Q=>∃z c,x=.str z/\xs=[.str %[|#[c]]]/\z.length < sizeLine/\∀p,H p=none->Q (.ref p) (upd H p (.lst ((Txt.split z %[|#[c]]).map V.str)))):=by
 intro Ev s σ H x xs v us Q I rx rv h;obtain⟨z,c,rfl,rfl,hz,q⟩:=h;obtain⟨t,rfl⟩:=rx;obtain⟨u,rfl,ru⟩:=cT rv;obtain⟨t',rfl⟩:=ru;cases h1:(decide (z.length < (%[|#[c]]:Str).length) || decide (Builtin.Str.strKind z < Builtin.Str.strKind %[|#[c]]))
 ·cases hf:(Builtin.Str.occurrences z %[|#[c]] 0 z.length (z.length+1)).isEmpty
  ·have e:Builtin.Str.partsBetween z (Builtin.Str.occurrences z %[|#[c]] 0 z.length (z.length+1)) (%[|#[c]]:Str).length=Txt.split z %[|#[c]]:=((E1 (ne_true_of_eq_false h1)).trans (E1 (ne_true_of_eq_false hf))).symm;have hl:(Txt.split z %[|#[c]]).length<=sizeLine:=C5 (Pc.split_len z c) hz;refine FU F.slot_str_split rfl F.entry_str_split (F.args_str_split_2 _ _) (meets_str_split_sep z %[|#[c]] t t' h1 rfl hf (C7 hz) (by rw[e];exact hl)) ?_;rw[e];exact%[.ref s.heap.objs.size,_,I.lnew (dm _ s.toks) (by rw[Dv];exact hl),U|q _ (I.hok.fresh (B0 _))]
  ·have e:Txt.split z %[|#[c]]=[z]:=(E1 (ne_true_of_eq_false h1)).trans (Ez hf);rw[e]at q;exact FU F.slot_str_split rfl F.entry_str_split (F.args_str_split_2 _ _) (meets_str_split_not_found z %[|#[c]] t t' h1 rfl hf)
    %[.ref s.heap.objs.size,_,I.lnew (t':=s.toks) (ys:=[.str z]) (.cons %[_|rfl] .nil) (show 1<=sizeLine by decide),rfl|q _ (I.hok.fresh (B0 _))]
 ·have e:Txt.split z %[|#[c]]=[z]:=Ez h1;rw[e]at q;exact FU F.slot_str_split rfl F.entry_str_split (F.args_str_split_2 _ _) (meets_str_split_cannot_occur z %[|#[c]] t t' h1)
   %[.ref s.heap.objs.size,_,I.lnew (t':=s.toks) (ys:=[.str z]) (.cons %[_|rfl] .nil) (show 1<=sizeLine by decide),rfl|q _ (I.hok.fresh (B0 _))]
end
def PET (X:Cx) (e:Expr) (t:TE):Prop :=
 ∀ (Ev:Et (Eo×Obj)) (s:DY) (σ:St) (H:Hp) (Q:VK),0 < s.toks->Inv X Ev σ H s->t σ H Q->wpAny (model X.prog X.w) X.A (eval e X.env) (EP X Ev σ Q) X.xe s
def PST (X:Cx) (st:Stmt) (t:TS):Prop :=
 ∀ (Ev:Et (Eo×Obj)) (s:DY) (σ:St) (H:Hp) (D:Ends),0 < s.toks->Inv X Ev σ H s->t D σ H->wpAny (model X.prog X.w) X.A (exec st X.env) (SP X Ev D) X.xe s
def PSsT (X:Cx) (st:Et Stmt) (t:TS):Prop :=
 ∀ (Ev:Et (Eo×Obj)) (s:DY) (σ:St) (H:Hp) (D:Ends),0 < s.toks->Inv X Ev σ H s->t D σ H->wpAny (model X.prog X.w) X.A (execs st X.env) (SP X Ev D) X.xe s
section
variable {X:Cx}
theorem PSsT.nox {st:Et Stmt} {t:TS} (h:PSsT X.nox st t):PSsT X st t:=λ Ev s σ H D h0 I hw=>
 E4 (h Ev s σ H D h0 (I.wish _) hw) (λ _ _ q=>q.unwish) λ _ _ z=>DF z
theorem lH {st:Stmt} {cW:Et Stmt} {t u:TS} (h1:PST X st t) (h2:PSs X cW u):PSsT X (st :: cW) (rq t u):=by
 intro Ev s σ H D h0 I h;refine FT (thn (h1 Ev s σ H { D with nx:=u D } h0 I h) λ f s1 q=>?_);cases f with
 | next=>
  obtain⟨σ',H',I',q⟩:=q;exact h2 Ev s1 σ' H' D I' q
 | ret v=>exact q
 | brk=>exact q
 | cont=>exact q
theorem pr {te:TE} {pos:Pos} {i:Nat} {x:Str} {e:Expr} {pos':Pos} (hN:X.N.Nodup) (hi:X.N[i]?=some x) (hx:Loc X.env.scope x) (he:PET X e te) (hs:swapsWith e (some (.Name x pos')) pos.line X.env=pure false:=by rfl) (hf:X.fn x=true\/X.env.scope.names.lookup x=some .local:=by first | exact .inl rfl | exact .inr rfl | assumption) :
  PST X (.Assign [.Name x pos'] e pos) (mt te (gT i)):=by
 intro Ev s σ H D h0 I h;refine wpAny_Assign_Name (thn (he Ev s σ H _ h0 I h) λ v s1 %[y,H1,I1,r1|q1]=>?_) hs;exact dB I1 hN hi hx r1 (λ s2 I2=>%[_,H1,I2|q1]) hf
theorem rZ {o e:Expr} {es:Et Expr} {to:TE} {t:TA} {name:Str} {apos cpos:Pos} {T id:String} {r:V->Et V->Hp->VK->Prop} (pa:PlainAttrs T) (slot:Slot T name id) (hty:typeOf (.builtin id)=pure (.type "method_descriptor")) (hm:MtR X id r) (ho:PET X o to) (ha:PA X (e :: es) t)
  (hbase:attributeBase o name X.env (eval o X.env)=eval o X.env:=by rfl)
  (hfew:((backTo cpos (starEach (e :: es) X.env)).all (λ x=>!x.1) && (backToKw cpos (keywordEach [] X.env)).all (λ x=>x.1.isSome)
   && decide ((e :: es).length+([]:Et Keyword).length+(if ([]:Et Keyword).isEmpty then 0 else 1) < 30))=true:=by rfl)
  (hline:(apos.endLine == cpos.line)=true:=by rfl) (hs:starEach (e :: es) X.env=(false,eval e X.env) :: starEach es X.env:=by rfl) (hplain:(backTo cpos (starEach es X.env)).any (·.1)=false:=by rfl) :
  PET X (.Call (.Attribute o name apos) (e :: es) [] cpos) (tBM X.K T r to t):=by
 intro Ev s σ H Q h0 I h;refine wpAny_Call_method_late hbase hfew hline rfl (thn (ho Ev s σ H _ h0 I h) λ v s1 %[x,H1,I1,r1,ty|q1]=>?_);obtain⟨h1,h2⟩:=iW I1 r1 ty;refine%[T,id,pa,slot,hty,h1,h2|?_];have hA:=ha cpos Ev s1 σ H1 _ I1 q1;rw[hs]at hA ⊢;refine Calls.callWith_builtin (by show(false || (backTo cpos (starEach es X.env)).any (·.1))=false;rw[hplain] <;> rfl) (FR ?_);exact thn hA λ us s2 %[vs,H2,I2,r2|q2]=>hm Ev s2 σ H2 x vs v us Q I2 r1 r2 q2
inductive tRepl (i:Nat) (y z:Str) (σ:St) (H:Hp) (Q:VK):Prop
 | mk (x:Str) (e:σ[i]?=some (some (.str x))) (l:x.length<=1048576) (q:Q (.str (Txt.replace x y z)) H):tRepl i y z σ H Q
theorem px {i:Nat} {x y z:Str} {j1 j2:Nat} {p0 p1 p2 apos cpos:Pos} (hN:X.N[i]?=some x) (hv:X.env.scope.names.lookup x=some .local) (hyz:(y == z)=false) (hz:z.length<=14)
  (hd:(x == ("__debug__" : Str))=false:=by decide) (hcd:(x == ("__classdict__" : Str))=false:=by decide)
  (hbase:attributeBase (.Name x p0) "replace" X.env (eval (.Name x p0) X.env)=eval (.Name x p0) X.env:=by rfl) (hline:(apos.endLine == cpos.line)=true:=by rfl) :
  PET X (.Call (.Attribute (.Name x p0) "replace" apos) [.Constant (.str y) j1 p1,.Constant (.str z) j2 p2] [] cpos) (tRepl i y z):=by
 intro Ev s σ H Q h0 I h;obtain⟨t,e,hl,q⟩:=h;obtain⟨m,hn,hL⟩:=I.loc;obtain⟨u,r,l⟩:=hL i x _ hN e (.inl hv);have hm:m x=some u:=by
  rcases l with⟨_,hm⟩ | ⟨hk | hk,_⟩
  ·exact hm
  ·rw[show X.env.kindOf x=some .local from hv]at hk;cases hk
  ·rw[show X.env.kindOf x=some .local from hv]at hk;cases hk
 obtain⟨tk,rfl⟩:=r;refine wpAny_Call_method_late hbase rfl hline rfl (wpAny_Name (wpAny_loadName_local I.ok.kind hv hn hm ?_) hd);refine%["str","str.replace",E3,PySem.F.slot_str_replace,PySem.F.type_str_replace,typeIs_str s t tk,(λ _ e=>nomatch e)|?_];refine Calls.callWith_builtin rfl (FR ?_);refine FM (Calls.Constant_str (k:=j1) (pos:=p1) ?_);refine FM (Calls.Constant_str (k:=j2) (pos:=p2) ?_);refine Calls.spliced_nil ?_;exact SC.replaceW (by show s.toks≠0;omega) (by show s.toks+1≠0;omega) (by show s.toks≠s.toks+1;omega) hyz hl hz λ t' k=>%[.str _,H,I.tok _,%[_|U]|q]
end
theorem se {CX:CXT} {P:Dl} {w:Do} {K:C4} {mg:Str->Er Dp} {base:Heap} {k:Nat} {f:Eo} {name qual:Str} {params:Arguments} {body:Et Stmt} {scope:Scope} {dV kV doc pm cdv ct oc:Dp} {an od:Er Eo}
  {osl:Es (Er Dp)} {N ps:Et Str} {sp:Sp} (lk:K.lookup f=some %[oc,od,.func (DC name qual params body scope dV kV doc pm an cdv ct)|osl]) (hcd:PySem.W.codeIn K cdv qual=true) (S:FnScope N ps scope)
  (len:∀vs H Q E,sp vs H Q E->vs.length=ps.length) (hp:ps≠[]) (hc:∀x∈scope.names,x.2≠.cell) (hl':∀x∈ps,scope.names.lookup x=some .local)
  (hbody:∀ (A:Around) (outer:Et Env) (s:DY) (H:Hp) (vs:Et V) (Q:VK) (E:XK),Room k (A.deeper (envOfC qual scope s.heap.objs.size f cdv))->sp vs H Q E ->
   ∃t,PSsT (aG CX P w K mg base N qual scope f cdv A outer s H E) body t/\t { nx:=λ _ H'=>Q .non H',rt:=Q } (cn N vs) H) :
  FnOk P w K mg base CX (k+1) f (DC name qual params body scope dV kV doc pm an cdv ct) ps sp:=by
 refine%[len|λ A outer s H args us vs Q E hr e0 hb r hsp=>?_];have hl:=len _ _ _ _ hsp;have KX:K.In s.heap:=e0.mod.kin.keeps λ b o e=>(e0.bs b o e).1;have lim:s.heap.NoLimit:=e0.mod.nolimit.keeps λ b o e=>(e0.bs b o e).1;have hloc:∀y∈ps.zip us,scope.names.lookup y.1=some .local:=λ⟨n,v⟩ hy=>hl' n (List.of_mem_zip hy).1;have hkind:∀y∈ps.zip us,scope.names.lookup y.1=some .local\/(scope.names.lookup y.1=some .cell/\((cellsFrom (s.heap.objs.size+1) scope.names []).lookup y.1).isSome=true):=λ y hy=>.inl (hloc y hy);have hz:0 < (ps.zip us).length:=by have h1:=r.length;have h2:0 < ps.length:=Ef.mpr hp;rw[List.length_zip];omega
 refine codeAny_call_function hr.depth (KX _ _ lk) rfl S.co S.gen rfl (PySem.W.codeRec_of KX hcd) (hb _ _ _ _ ?_);refine E4 (bH (wpAny_newFunctionEnv (Q:=λ _ s'=>0 < s'.toks) (E:=λ e s'=>CR CX outer P w H s Q E (.error e) s') hc hloc (λ h' _ _=>B9 hz (Nat.le_add_left _ s.toks)) S.kind)
  (wpAny_newFunctionEnv_cells (Q:=λ env s'=>0 < s'.toks->_) (E:=λ e s'=>CR CX outer P w H s Q E (.error e) s') S.kind hkind λ env he s1 x h0=>?_)) (λ _ _ z=>z.2 z.1) λ _ _ z=>z.1
 subst he;refine%[lim.keeps x.toInCall.keep|codeAny_func ?_];obtain⟨t,ht,hq⟩:=hbody A outer s H vs Q E (hr.deeper _) hsp;have I:Inv (aG CX P w K mg base N qual scope f cdv A outer s H E) [] (cn N vs) H s1:=fR S hr.hd e0 hl r x;refine E4 (ht [] s1 (cn N vs) H _ h0 I hq) (λ fl s' hs=>?_) λ e s' hs=>hs;have fin:∀ {σ':St} {H':Hp} {v:V} {u:Dp},Inv (aG CX P w K mg base N qual scope f cdv A outer s H E) [] σ' H' s'->RelV v u->Q v H'->CE outer P w H s Q u s' :=
  λ {σ' H' v u} J rv q=>%[v,H',J.os,J.bare,J.base,J.hok,rv|q]
 cases fl with
 | ret u=>
  obtain⟨v,σ',H',J,rv,q⟩:=hs;exact fin J rv q
 | next=>
  obtain⟨σ',H',J,q⟩:=hs;exact fin (v:=V.non) (u:=Value.none) J rfl q
 | brk=>
  obtain⟨_,_,_,q⟩:=hs;exact DF q
 | cont=>
  obtain⟨_,_,_,q⟩:=hs;exact DF q
section
variable {P:Dl} {w:Do} {K:C4} {mg:Str->Er Dp} {base:Heap}
theorem Fun.okT {x qual:Str} {st:Stmt} {f:Eo} {fd:Dm} {N ps:Et Str} {k:Nat} {sp:Sp} (F:Fun K x qual st f fd) (S:FnScope N ps (defScope st)) (len:∀vs H Q E,sp vs H Q E->vs.length=ps.length)
  (hp:ps≠[]) (hc:∀x∈(defScope st).names,x.2≠.cell) (hl':∀x∈ps,(defScope st).names.lookup x=some .local)
  (hbody:∀ (cdv:Dp) (A:Around) (outer:Et Env) (s:DY) (H:Hp) (vs:Et V) (Q:VK) (E:XK),Room k (A.deeper (envOfC qual (defScope st) s.heap.objs.size f cdv))->sp vs H Q E ->
   ∃t,PSsT (aG CX0 P w K mg base N qual (defScope st) f cdv A outer s H E).nox (defBody st) t/\t { nx:=λ _ H'=>Q .non H',rt:=Q } (cn N vs) H):FnOk P w K mg base CX0 (k+1) f fd ps sp:=by
 obtain⟨oc,od,kV,doc,pm,an,cdv,ct,osl,rfl,lk,hcd⟩:=F.ex;refine se lk hcd S len hp hc hl' λ A outer s H vs Q E hr hsp=>?_;obtain⟨t,h,q⟩:=hbody cdv A outer s H vs Q E hr hsp;exact%[t,h.nox|q]
end
structure Flew0 (P:Program) (w:World) (outer:Et Env) (H:Hp) (s:Shared) (ea:Eo) (C:Value) (H':Hp) (B:Heap) (s':Shared):Prop where
 os:s'.os=s.os
 bare:AllBare s'.gens
 un:Un (frs outer) [] H H' s.heap s'.heap
 hok:HOk P w H' s'.heap
 fly:∃a0,Heap.FlyingW B outer ea C a0 s'.heap
 cov:∀b o,b∉frs outer->(H' b≠none\/∃o',s.heap.get? b=some o')->s'.heap.get? b=some o->B.get? b=some o
 new:s.heap.get? ea=none/\H' ea=none
theorem Flew.f0 {P:Dl} {w:Do} {outer:Et Env} {H:Hp} {s:DY} {ea:Eo} {C:Dp} {H':Hp} {B:Heap} {s':DY} (f:Flew P w outer H s ea C H' B s'):Flew0 P w outer H s ea C H' B s':=%[f.os,f.bare,f.un,f.hok,f.fly,f.cov|f.new]
def CXy (P:Dl) (w:Do):CXT:=λ outer H s E e s'=>∃ea C H' B,e=Value.ref ea/\Flew0 P w outer H s ea C H' B s'/\E C none H'
section
variable {X:Cx} {Ev:Et (Eo×Obj)} {σ:St} {H:Hp} {s:DY}
theorem Inv.raised0 {h':Heap} {ea:Eo} {C a0:Dp} (I:Inv X Ev σ H s) (hst:X.stack=X.env :: X.outer) (hfr:X.env.frame=some X.env.locals) (hex:X.ex=[])
  (new:s.heap.get? ea=none) (fl:Heap.FlyingW (PySem.W.hideAll s.heap (frs X.stack)) X.outer ea C a0 h') (sm:s.heap.UpToSlots h'):Flew0 X.prog X.w X.outer X.H₀ X.s₀ ea C H (PySem.W.hideAll s.heap (frs X.stack)) { s with heap:=h' }:=by
 have fS:frs X.stack=X.env.locals :: X.fs:=by rw[hst];unfold frs;rw[EM,hfr];rfl
 have st:s.heap.FunFrames X.base (X.env :: X.outer):=by rw[<- hst];exact I.stack
 have hin:∀env∈(X.env :: X.outer),∀b,env.frame=some b->b∈frs X.stack:=λ env he b hb=>by rw[hst];exact Ec.mpr %[env,he|hb]
 have s0L:∀b o,X.s₀.heap.get? b=some o->b≠X.env.locals:=λ b o e=>B7 (B9 (A6 e) I.ok.above);have Ubase:Un X.fs [] X.H₀ H X.s₀.heap s.heap:=by have:=I.base;rw[hex]at this;exact this
 have trk:∀b u,H b=some u->b∉frs X.stack:=λ b u e hb=>by rw[I.stkFree b hb]at e;cases e
 have ofd:∀b,b∈X.fs->∃o,s.heap.get? b=some o/\∀vs,o.data≠.fields vs:=λ b hb=>by obtain⟨_,o,ho,hd⟩:=I.funs.mem hb;exact%[o,ho|hd]
 have toB:∀b o,b∉frs X.stack->s.heap.get? b=some o->h'.get? b=some o:=λ b o nb e=>fl.1 _ _ (PySem.W.hideAll_get _ e nb);have nfs:∀b o,X.s₀.heap.get? b=some o->b∉X.fs->b∉frs X.stack:=λ b o e nb z=>by
  rw[fS]at z;rcases Dx.mp z with q | q
  ·exact s0L b o e q
  ·exact nb q
 have slot1:∀b o,b∈X.fs->s.heap.get? b=some o->∃sl,h'.get? b=some { o with slots:=sl }:=λ b o hb e=>by obtain⟨o',e',hd⟩:=ofd b hb;rw[e]at e';cases e';exact sm b o e hd
 refine%[I.os,I.bare,%[λ b o e n hb _=>?_,λ b o e n hb _=>?_,λ b o e n _=>Ubase.free b o e n (by simp),λ b o e _=>?_,Ubase.tups,Ubase.frzs|Ubase.tbls],λ b u e=>?_,%[_|fl],λ b o nb hh e=>?_,?_|?_]
 ·exact toB b o (nfs b o e hb) (Ubase.keep b o e n hb (by simp))
 ·obtain⟨sl,e1⟩:=Ubase.slot b o e n hb (by simp);obtain⟨sl',e2⟩:=slot1 b _ hb e1;exact%[sl'|e2]
 ·obtain⟨o',e1⟩:=Ubase.there b o e (by simp)
  by_cases hb:b∈X.fs
  ·obtain⟨sl,e2⟩:=slot1 b _ hb e1;exact%[_|e2]
  ·exact%[o'|toB b o' (nfs b o e hb) e1]
 ·refine(I.hok b u e).stay (λ c v hc q=>toB c v ?_ q) (λ _ q=>q) λ _ _ q=>q;rcases hc with z | z
  ·rw[z];exact trk b u e
  ·exact trk c _ z
 ·rcases hh with z | ⟨o',z⟩
  ·cases q:H b with
   | none=>exact absurd q z
   | some u=>
    obtain⟨ob,eb⟩:=(I.hok b u q).ex;have eB:=PySem.W.hideAll_get _ eb (trk b u q);have:=fl.1 _ _ eB;rw[e]at this;cases this;exact eB
  ·obtain⟨o'',e1⟩:=Ubase.there b o' z (by simp);have eB:=PySem.W.hideAll_get _ e1 (nfs b o' z nb);have:=fl.1 _ _ eB;rw[e]at this;cases this;exact eB
 ·cases q:X.s₀.heap.get? ea with
  | none=>rfl
  | some o=>
   obtain⟨o',e1⟩:=Ubase.there ea o q (by simp);rw[new]at e1;cases e1
 ·cases q:H ea with
  | none=>rfl
  | some u=>
   obtain⟨ob,eb⟩:=(I.hok ea u q).ex;rw[new]at eb;cases eb
end
section
variable {M:Model} {A A':Around} {E:Dp->DY->Prop} {s:DY} {base:Heap} {env:Env} {l outer:Et Env} {L e:Eo} {cls a0:Dp}
theorem nD {Q:Unit->DY->Prop} (hh:Heap.HeldW base l e cls a0 L s.heap)
  (hQ:∀h',Heap.HeldW base l e cls a0 L h'->s.heap.UpToSlots h'->Q () { s with heap:=h' }):wpAny M A (setFlight (.ref e) (some L)) Q E s:=by
 obtain⟨hkb,hen,hl,oe,vs,T,oT,ts,he,hcls,hd,h1,hnT,hTe,hT,hdT,h3⟩:=hh;have hsz3:3 < ts.size:=(EI.mp h3).1;have other:∀b,b≠T->(s.heap.update T (Obj.mapFields (·.setIfInBounds 3 (rawInt L)))).get? b=s.heap.get? b:=λ b hb=>E6 _ _ (Ne.symm hb);have nr:∀b o,s.heap.get? b=some o->(∀vs,o.data≠.fields vs)->b≠T:=λ b o hb hnf q=>by rw[q,hT]at hb;injection hb with hb;subst hb;exact hnf ts hdT
 unfold setFlight;refine A0 (FK he hd h1 ?_);rw[Ez (show(Value.ref T != Value.none)=true from by simp)];refine FJ hT hdT hsz3 (hQ _ ⟨λ b o hbo=>(other b λ q=>by rw[q,hnT]at hbo;cases hbo).trans (hkb b o hbo),hen,hl.of_keeps λ b o hb hnf=>%[o,(other b (nr b o hb hnf)).trans hb|rfl],?_⟩ (λ b o hb hnf=>%[o.slots|(other b (nr b o hb hnf)).trans hb]));exact%[oe,vs,T,_,_,(other e (Ne.symm hTe)).trans he,hcls,hd,h1,hnT,hTe,FA _ hT (FP (FO hdT _)),FO hdT _|by simp[hsz3]]
theorem lI {oe:Obj} {vs:Es Dp} {Q:Dp->DY->Prop} (hf':A'.frames=some (env :: outer)) (hfr:A.frames=some (env :: outer)) (hf:env.frame=some L) (hl:s.heap.FunFrames base (env :: outer))
  (he:s.heap.get? e=some oe) (hkb:base.StaysIn s.heap) (hen:base.get? e=none) (hd:oe.data=.fields vs) (h1:vs[1]?=some .none) (h0:vs[0]?=some a0)
  (hQ:∀h',Heap.FlyingW base outer e oe.cls a0 h'->s.heap.UpToSlots h'->Q (.ref e) { s with heap:=h' }) :
  notedBy M A' env (cameBackBy M A env (λ e s'=>wpAny M A (leaving env e) (λ _ s''=>Q e s'') (λ e' s''=>Q e' s'') s')) (.ref e) s:=by
 unfold notedBy noteFrame;simp only[hf];refine A0 (FK he hd h1 ?_);rw[E1 ∅];refine wpAny_entryW hf' hl hf he hkb hen hd (EI.mp h1).1 h0 λ h2 n2=>?_;obtain⟨k1,k2,k3,k4⟩:=n2;have held:Heap.HeldW base (env :: outer) e oe.cls a0 L h2:=%[k1,hen,k2|k3]
 unfold cameBackBy;obtain⟨oe2,vs2,T,oT,ts,g1,g2,g3,g4,g5,g6,g7,g8,g9⟩:=id k3;refine A0 (FK (s:={ s with heap:=h2 }) g1 g3 g4 ?_);rw[E1 (show¬ ((Value.ref T == Value.none)=true)from by simp),hf];refine nD (s:={ s with heap:=h2 }) held λ h3 held3 sm3=>?_;unfold leaving;refine A0 (wpAny_noteFrame_againW (s:={ s with heap:=h3 }) hf held3.2.2.2 ?_);refine wpAny_landsW (s:={ s with heap:=h3 }) held3 λ h4 fl4 sm4=>?_;obtain⟨m1,m2,⟨_,_,m3⟩,m4⟩:=fl4;exact hQ h4 %[m1,m2,m3|m4] (Heap.UpToSlots.trans k4 (sm3.trans sm4))
end
section
variable {prog:Dl} {w:Do} {A:Around} {E:Dp->DY->Prop} {s:DY} {env:Env}
variable {nm q:Str} {C N ea:Eo} {bs bm:Et Dp} {hdct:Bool} {sn:Et Str} {sub:Et Dp} {ab:Bool} {col:Er Bool} {dd:Er Eo} {k0 k1 k2 k3 k5:Er Dp} {newId:String}
def xw (t ea:Eo):Es Dp:=#[.ref t,.none,.ref ea,.none,.bool true,.none]
theorem fA {x c:Sem Dp} {Q:Flow->DY->Prop} (hbase:bm.contains (.type "BaseException")=true) (hh:A.handled=↑ea)
  (hc:∀ (s:DY) (Q:Dp->DY->Prop),Q .none s->wpAny (model prog w) A c Q E s)
  (h:wpAny (model prog w) A x (λ v s₁=>∃e t,v=.ref e/\e≠ea/\e≠C/\s₁.heap.get? C=some (excClassObj nm q C N bs bm hdct sn sub ab col dd k0 k1 k2 k3 k5 newId) /\
   s₁.heap.get? e=some { cls:=.ref C,data:=.fields #[.ref t,.none,.none,.none,.bool false,.none] }/\Q2 ea s₁.heap /\
   ∀h',Heap.SameBut e s₁.heap h'->h'.get? e=some { cls:=.ref C,data:=.fields (xw t ea) }->E (.ref e) { s₁ with heap:=h' }) E s) :
  wpAny (model prog w) A (raiseStmt env (some x) (some c)) Q E s:=by
 have hcB:(Value.ref C :: bm).contains (.type "BaseException")=true:=by rw[List.contains_cons,hbase,Bool.or_true]
 unfold raiseStmt;refine A0 (E4 h (λ v s₁ h₁=>?_) λ _ _ x=>x);obtain⟨e,t,rfl,nea,neC,hC,he,hq2,hE⟩:=h₁;refine A0 (E8 (hc _ _ (A0 (A1 ?_))));obtain⟨hp,g,d,tk,os⟩:=s₁;dsimp only at hC he hq2 hE;dsimp only;have step1:∀ {Q:Value->Shared->Prop},Q (.ref e) %[hp,g,d,tk|os]->wpAny (model prog w) A (excFromValue (.ref e) "exceptions must derive from BaseException") Q E %[hp,g,d,tk|os]:=λ {Q} h=>by
  unfold excFromValue isExcClass
  repeat (first | with_reducible refine FE he ?_ | with_reducible refine FE hC ?_ | (with_reducible refine wpAny_isSubtype_exc hC ?_;rw[hcB]) | wp_step)
  exact h
 refine A0 (E8 (step1 ?_));rw[Ez (show(Value.none == Value.none)=true from rfl)];refine A0 (A1 ?_);refine A0 (FJ he rfl (by show 3 < 6;decide) ?_);have e1:=FA (Obj.mapFields (·.setIfInBounds 3 Value.none)) he rfl;have c1:=(E6 hp (Obj.mapFields (·.setIfInBounds 3 Value.none)) (Ne.symm neC).symm).trans hC;refine A0 (FJ e1 rfl (by show 4 < 6;decide) ?_);have e2:=FA (Obj.mapFields (·.setIfInBounds 4 (Value.bool true))) e1 rfl;have c2:=(E6 _ (Obj.mapFields (·.setIfInBounds 4 (Value.bool true))) neC).trans c1;have s2:Heap.SameBut e hp ((hp.update e (Obj.mapFields (·.setIfInBounds 3 Value.none))).update e (Obj.mapFields (·.setIfInBounds 4 (Value.bool true)))):=%[by simp[Heap.size_update]|λ b hb=>(E6 _ _ (Ne.symm hb)).trans (E6 _ _ (Ne.symm hb))]
 have q2:Q2 ea ((hp.update e (Obj.mapFields (·.setIfInBounds 3 Value.none))).update e (Obj.mapFields (·.setIfInBounds 4 (Value.bool true)))):=(hq2.set ∅).set ∅;generalize((hp.update e (Obj.mapFields (·.setIfInBounds 3 Value.none))).update e (Obj.mapFields (·.setIfInBounds 4 (Value.bool true))))=h2 at *;have step2 : ∀ {Q : Flow -> DY -> Prop} {k : Dp -> Sem Flow},wpAny (model prog w) A (k (.ref e)) Q E %[h2,g,d,tk|os] -> wpAny (model prog w) A (do
    let t<-isType (Value.ref e)
    if t=true then(do let e<-holding [Value.ref e] (raisedFor (Value.ref e) (Value.ref e));k e)else(do let e<-raisedInstance (Value.ref e);k e)) Q E %[h2,g,d,tk|os]:=λ {Q k} h=>by
  repeat (first | with_reducible refine FE e2 ?_ | with_reducible refine FE c2 ?_ | wp_step)
  exact h
 refine step2 ?_;have step3:∀ {Q:Unit->DY->Prop},Q () %[h2,g,d,tk|os]->wpAny (model prog w) A (setFlight (.ref e) none) Q E %[h2,g,d,tk|os]:=λ {Q} h=>by unfold setFlight;refine A0 (FK e2 rfl (x:=.none) rfl ?_);rw[E1 ∅];exact A1 h
 refine A0 (step3 ?_);unfold raiseNew;refine A0 (wpAny_handled ?_);rw[hh];dsimp only;rw[Ez (show(Value.ref ea != Value.ref e)=true from by simpa using Ne.symm nea)];refine A0 (E8 (gH q2 ?_));refine A0 (FJ (M:=model prog w) (a:=e) (i:=2) e2 rfl (by show 2 < 6;decide) ?_);refine wpAny_throw (hE _ %[?_|λ b hb=>?_] ?_)
 ·exact(by simp[Heap.size_update]:_=h2.objs.size).trans s2.1
 ·exact(E6 _ _ (Ne.symm hb)).trans (s2.2 b hb)
 ·exact FA _ e2 rfl
theorem jk {B initId:String} {bmB:Et Dp} (F:ExcBaseFacts B newId initId bmB) {mN:Str->Er Dp} {x:Str} {np cpos npos pos:Pos} {j:Nat} {args:Et Expr} {Q:Flow->DY->Prop}
  (hbase:bm.contains (.type "BaseException")=true) (hh:A.handled=↑ea) (hplain:(backTo cpos (starEach args env)).any (·.1)=false) (hni:mN "__init__" = none)
  (h:wpAny (model prog w) A (eval (.Name x np) env) (λ f s₁=>f=.ref C/\wpAny (model prog w) A (evalArgs (.ref C) true (backTo cpos (starEach args env)) [])
   (λ a s₂=>a.kw=[]/\a.pos.length<=sizeLine/\s₂.heap.get? C=some (excClassObj nm q C N bs bm hdct sn sub ab col dd k0 k1 k2 k3 k5 newId)/\s₂.heap.Ns N mN/\OwnTail s₂.heap bmB bm/\Q2 ea s₂.heap /\
    ∀h' e h'' t,Heap.MadeExcOf s₂.heap h' e (.ref C) a.pos->Heap.SameBut e h' h''->h''.get? e=some { cls:=.ref C,data:=.fields (xw t ea) }->E (.ref e) { s₂ with heap:=h'' }) E s₁) E s) :
  wpAny (model prog w) A (exec (.Raise (some (.Call (.Name x np) args [] cpos)) (some (.Constant .none j npos)) pos) env) Q E s:=by
 rw[arm_exec_Raise];refine A0 (FF (fA (C:=C) (nm:=nm) (q:=q) (N:=N) (bs:=bs) (bm:=bm) (hdct:=hdct) (sn:=sn) (sub:=sub) (ab:=ab) (col:=col) (dd:=dd) (k0:=k0) (k1:=k1) (k2:=k2) (k3:=k3) (k5:=k5) (newId:=newId) hbase hh (λ s Q h=>A0 (Constant_none (A0 (FF (A1 h))))) (A0 (E4 (wpAny_Call_ofName (E4 h (λ f s₁ h₁=>?_) λ _ _ x=>x)) (λ v s₃ h₃=>A0 (FF (A1 h₃))) λ _ _ x=>x))));obtain⟨rfl,h₁⟩:=h₁;unfold callWith;refine A0 (E8 (E4 h₁ (λ a s₂ h₂=>A0 (FF ?_)) λ _ _ x=>x));obtain⟨apos,akw⟩:=a;obtain⟨hkw,Ex,hC,hn,T,q2,h₂⟩:=h₂;obtain rfl:akw=[]:=hkw;obtain⟨hp,g,d,tk,os⟩:=s₂;simp only[hplain];refine A0 (wpAny_keeperOf_exc hC ?_);refine A0 (wpAny_call_exc_subT (hrest:=Ex) F T hC hn hni λ h' e hm=>A0 (E8 (wpAny_point (A1 ?_))));obtain⟨t,ht,_,_⟩:=hm.there;have ne1:∀b o,hp.get? b=some o->e≠b:=λ b o eb z=>by have:=hm.new;rw[z,eb]at this;cases this
 obtain⟨oe,vs,he,hd,h2⟩:=q2;exact%[e,t,U,ne1 _ _ he,ne1 _ _ hC,hm.keeps _ _ hC,ht,%[oe,vs,hm.keeps _ _ he,hd|h2]|λ h'' sb eg=>h₂ h' e h'' t hm sb eg]
end
theorem pz {base h:Heap} {l:Et Env} {e:Eo} {cls a0:Dp} (o:Obj) (x:Heap.FlyingW base l e cls a0 h):Heap.FlyingW base l e cls a0 (h.push o):=by obtain⟨hkb,hen,hl,oe,vs,T,oT,ts,he,hcls,hd,h1,hnT,hTe,hT,hdT,h3⟩:=x;exact%[λ b o' hb=>A4 _ (hkb b o' hb),hen,hl.of_keeps λ b o' hb _=>%[o',A4 _ hb|U],oe,vs,T,oT,ts,A4 _ he,hcls,hd,h1,hnT,hTe,A4 _ hT,hdT|h3]
def xx (K:C4) (C1 C2 C:Eo) (E:XK) (tx:TX):TS:=λ D σ H=>tx σ H D.rt (λ c _ H1=>PySem.W.exmAny K c [.ref C1,.ref C2]=some true/\E (.ref C) none H1)
section
variable {P:Dl} {w:Do} {K:C4} {mg:Str->Er Dp} {base:Heap} {N:Et Str} {qual:Str} {scope:Scope} {f0:Eo} {cd:Dp} {A:Around} {outer:Et Env} {s₀:DY} {H₀:Hp} {E:XK}
theorem pC {e:Expr} {tx:TX} {y1 y2 x z:Str} {C1 C2 C:Eo} {j0 j:Nat} {p0 p1 p2 np cpos npos rpos pos2 hpos tpos pos:Pos} {x1:_}
  (he:PEx (aG (CXy P w) P w K mg base N qual scope f0 cd A outer s₀ H₀ E) e tx) (hg1:Gl (aG (CXy P w) P w K mg base N qual scope f0 cd A outer s₀ H₀ E) y1) (hm1:mg y1=↑C1) (hg2:Gl (aG (CXy P w) P w K mg base N qual scope f0 cd A outer s₀ H₀ E) y2) (hm2:mg y2=↑C2)
  (hg:Gl (aG (CXy P w) P w K mg base N qual scope f0 cd A outer s₀ H₀ E) x) (hm:mg x=↑C) (ec:ExcC K C)
  (hd1:(y1 == ("__debug__" : Str))=false:=by decide) (hd2:(y2 == ("__debug__" : Str))=false:=by decide) (hd:(x == ("__debug__" : Str))=false:=by decide) :
  PS (aG (CXy P w) P w K mg base N qual scope f0 cd A outer s₀ H₀ E) (.Try [.Return (some e) rpos] [.ExceptHandler (some (.Tuple [.Name y1 p1,.Name y2 p2] x1 tpos)) none [.Raise (some (.Call (.Name x np) [.Constant (.str z) j0 p0] [] cpos)) (some (.Constant .none j npos)) pos2] hpos] [] [] pos) (xx K C1 C2 C E tx):=by
 intro Ev s σ H D I h;generalize hX:aG (CXy P w) P w K mg base N qual scope f0 cd A outer s₀ H₀ E=X at *;have hst:X.stack=X.env :: X.outer:=by rw[<- hX];rfl
 have hfr:X.env.frame=some X.env.locals:=by rw[<- hX];rfl
 have hex:X.ex=[]:=by rw[<- hX];rfl
 have hK:X.K=K:=by rw[<- hX];rfl
 have hmg:X.mg=mg:=by rw[<- hX];rfl
 rw[<- hK]at ec h;rw[<- hmg]at hm1 hm2 hm;refine wpAny_Try_except (FT (wpAny_Return_some (E4 (he Ev s σ H _ _ I h) (λ v s1 ⟨y,H1,I1,r1,q1⟩=>?_) λ v s1 hx=>?_)))
 ·exact%[y,σ,H1,I1,r1|q1]
 obtain⟨ea,c,H0,H',B,s0,rfl,I0,f,hm0,hq⟩:=hx;obtain⟨a0,fl⟩:=f.fly;rw[hst]at fl;refine ej (by rw[<- hst];exact I.ok.frames) hfr fl f.ctx λ h4 held4 sm4 q4=>?_;refine mZ held4 q4 λ h5 fl5 sm5 q5=>?_;have I5:Inv X Ev σ H' { s1 with heap:=h5 }:=f.inv (t:=s1.toks) I0 fl5.1 (sm4.trans sm5);have IM:=I5.mark ea;refine wpAny_handleBy_cons (codeAny_handlers_test (wpAny_Tuple_spliced ?_)) (by intro q;cases q);show wpAny _ _ (spliced ((false,eval (.Name y1 p1) X.env) :: (false,eval (.Name y2 p2) X.env) :: [])) _ _ _;refine FM (bJ (X:=X.marked ea) IM hg1 hm1 ?_ hd1);refine FM (bJ (X:=X.marked ea) IM hg2 hm2 ?_ hd2);refine Calls.spliced_nil %[by show(2:Nat)<=_;decide|?_];have fl6:=pz { cls:=.type "tuple",data:=.seq [Value.ref C1,Value.ref C2].toArray } fl5;have q6:=q5.push (o:={ cls:=.type "tuple",data:=.seq [Value.ref C1,Value.ref C2].toArray });have tp:(h5.push { cls:=.type "tuple",data:=.seq [Value.ref C1,Value.ref C2].toArray }).get? h5.objs.size=some { cls:=.type "tuple",data:=.seq [Value.ref C1,Value.ref C2].toArray }:=A5 _ rfl;have sm6:h5.UpToSlots (h5.push { cls:=.type "tuple",data:=.seq [Value.ref C1,Value.ref C2].toArray }):=Heap.UpToSlots.of_keeps λ b o e=>A4 _ e;generalize h5.push { cls:=.type "tuple",data:=.seq [Value.ref C1,Value.ref C2].toArray }=h6 at *;have I6:Inv X Ev σ H' { s1 with heap:=h6 }:=f.inv (t:=s1.toks) I0 fl6.1 ((sm4.trans sm5).trans sm6);obtain⟨ob,hob,hobc⟩:=fl6.there;have LT:PySem.W.Looks (model X.prog X.w) h6 (typeOf (.ref ea)) c:=hobc ▸ (PySem.W.Looks.ld hob).andThen .now;refine(PySem.W.exm_tup2 (M:=model X.prog X.w) I6.kIn LT tp hm0).here ?_;show codeAny _ _ _ _ _;refine codeAny_handlers_suite ?_;refine gC fl6 q6 λ h7 fl7 sm7 q7=>?_;have I7:Inv X Ev σ H' { s1 with heap:=h7 }:=f.inv (t:=s1.toks) I0 fl7.1 (((sm4.trans sm5).trans sm6).trans sm7);obtain⟨bm,Nn,nm,qn,bs,hdct,sn,sub,ab,col,dd,k0,k1,k2,k3,k5,mN,hC,hN,hni,T⟩:=ec.obj I.ok.mod.kin;refine FT (jk (C:=C) (nm:=nm) (q:=qn) (N:=Nn) (bs:=bs) (bm:=bm) (hdct:=hdct) (sn:=sn) (sub:=sub) (ab:=ab) (col:=col) (dd:=dd) (k0:=k0) (k1:=k1) (k2:=k2) (k3:=k3) (k5:=k5)
  PySem.F.excBase_ValueError (mN:=mN) (ea:=ea) (T.hasType PySem.F.excBase_ValueError.hasBase) rfl rfl hni (bJ (X:=X.marked ea) (I7.mark ea) hg hm %[rfl|?_] hd))
 refine FR (FM (Calls.Constant_str (k:=j0) (pos:=p0) (Calls.spliced_nil ?_)));have I8:Inv X Ev σ H' { s1 with heap:=h7,toks:=s1.toks+1 }:=I7.tok _;refine%[U,by show(1:Nat)<=_;decide,I8.bk _ _ hC,hN.keeps I8.bk,T.keeps I8.bk,q7|λ h' e2 h'' t hx sb eg=>?_];have fS:frs X.stack=X.env.locals :: X.fs:=by rw[hst];unfold frs;rw[EM,hfr];rfl
 have st:h7.FunFrames X.base (X.env :: X.outer):=by rw[<- hst];exact I8.stack
 have hin:∀env∈(X.env :: X.outer),∀b,env.frame=some b->b∈frs X.stack:=λ env he b hb=>by rw[hst];exact Ec.mpr %[env,he|hb]
 have k2:∀b o,h7.get? b=some o->h''.get? b=some o:=λ b o e=>(sb.2 b λ z=>by have:=hx.new;rw[<- z,e]at this;cases this).trans (hx.keeps b o e);have sm8:h7.UpToSlots h'':=Heap.UpToSlots.of_keeps k2;have nB:(PySem.W.hideAll h7 (frs X.stack)).get? e2=none:=by
  cases z:(PySem.W.hideAll h7 (frs X.stack)).get? e2 with
  | none=>rfl
  | some o=>
   have:=PySem.W.of_hideAll _ z;rw[hx.new]at this;cases this
 have fin:=lI (M:=model X.prog X.w) (A:=X.A) (A':=X.A.mark (↑ea)) (s:={ s1 with heap:=h'',toks:=s1.toks+1 }) (base:=PySem.W.hideAll h7 (frs X.stack)) (env:=X.env) (outer:=X.outer) (L:=X.env.locals) (e:=e2) (a0:=.ref t)
  (Q:=λ e s''=>CXy X.prog X.w X.outer X.H₀ X.s₀ E e s'') (by rw[<- hst];exact(I8.mark ea).ok.frames) (by rw[<- hst];exact I8.ok.frames) hfr ((PySem.W.funFrames_hide st hin).of_keeps λ b o e _=>%[o,k2 b o e|U]) eg (λ b o e=>k2 b o (PySem.W.of_hideAll _ e)) nB rfl rfl rfl
  λ h9 fl9 sm9=>%[e2,.ref C,H',PySem.W.hideAll h7 (frs X.stack),U,I8.raised0 hst hfr hex hx.new fl9 (sm8.trans sm9)|hq]
 subst hX;exact fin
end
section
variable {X:Cx} {Ev:Et (Eo×Obj)} {σ:St} {H:Hp} {s:DY}
theorem Flew0.inv {ea:Eo} {C:Dp} {H':Hp} {B h6:Heap} {s':DY} {t:Nat} (I:Inv X Ev σ H s) (f:Flew0 X.prog X.w X.stack H s ea C H' B s') (hB:B.StaysIn h6) (sm:s'.heap.UpToSlots h6):Inv X Ev σ H' { s' with heap:=h6,toks:=t }:=by
 have trk:∀b u,H' b=some u->b∉frs X.stack:=λ b u e hb=>by
  obtain⟨o,ho⟩:∃o,s.heap.get? b=some o:=let ⟨_,o,ho,_⟩:=I.stack.mem hb;%[o|ho]
  have:=f.un.free b o ho (I.stkFree b hb) (by simp);rw[this]at e;cases e
 have slot1:∀b o,b∈frs X.stack->s'.heap.get? b=some o->∃sl,h6.get? b=some { o with slots:=sl }:=λ b o hb e=>by obtain⟨a0,fl⟩:=f.fly;obtain⟨_,o',e',hd⟩:=fl.2.2.1.mem hb;rw[e]at e';cases e';exact sm b o e hd
 refine I.call' (ch:=[]) f.os %[λ b o e n hb _=>?_,λ b o e n hb _=>?_,λ b o e n _=>f.un.free b o e n (by simp),λ b o e _=>?_,f.un.tups,f.un.frzs|f.un.tbls] (λ b u e=>?_) f.bare (λ b z=>absurd z (by simp))
 ·exact hB _ _ (f.cov b o hb (.inr %[o|e]) (f.un.keep b o e n hb (by simp)))
 ·obtain⟨sl,e1⟩:=f.un.slot b o e n hb (by simp);obtain⟨sl',e2⟩:=slot1 b _ hb e1;exact%[sl'|e2]
 ·obtain⟨o',e1⟩:=f.un.there b o e (by simp)
  by_cases hb:b∈frs X.stack
  ·obtain⟨sl,e2⟩:=slot1 b _ hb e1;exact%[_|e2]
  ·exact%[o'|hB _ _ (f.cov b o' hb (.inr %[o|e]) e1)]
 ·refine(f.hok b u e).stay (λ c v hc q=>?_) (λ _ q=>q) λ _ _ q=>q;have hc':H' c≠none:=by
   rcases hc with z | z
   ·rw[z,e];exactλ z=>nomatch z
   ·rw[z];exactλ z=>nomatch z
  have nc:c∉frs X.stack:=by
   cases q':H' c with
   | none=>exact absurd q' hc'
   | some u'=>exact trk c u' q'
  exact hB _ _ (f.cov c v nc (.inl hc') q)
end
def XPy (X:Cx) (Ev:Et (Eo×Obj)) (σ:St) (E:XK) (v:Dp) (s':DY):Prop:=∃ea C H H' B s0,v=Value.ref ea/\Inv X Ev σ H s0/\Flew0 X.prog X.w X.stack H s0 ea C H' B s'/\E C none H'
def PEy (X:Cx) (e:Expr) (t:TX):Prop :=
 ∀ (Ev:Et (Eo×Obj)) (s:DY) (σ:St) (H:Hp) (Q:VK) (E:XK),Inv X Ev σ H s->t σ H Q E->wpAny (model X.prog X.w) X.A (eval e X.env) (EP X Ev σ Q) (XPy X Ev σ E) s
def DnY (P:Dl) (w:Do) (K:C4) (mg:Str->Er Dp) (base:Heap) (x:Str) (ps:Et Str) (k:Nat) (sp:Sp):Prop :=
 ∃ (f:Eo) (fd:Dm),FnOk P w K mg base (CXy P w) k f fd ps sp/\Binds K fd ps []/\PySem.W.keepIn K (.ref f)=true/\mg x=↑f
section
variable {X:Cx} {k:Nat} {f C:Eo} {fd:Dm} {ps:Et Str} {sp:Sp} {x m:Str} {p pos apos:Pos} {e o:Expr} {es:Et Expr} {ta:TE} {t:TA}
theorem jl (D:DnY X.prog X.w X.K X.mg X.base x ps k sp) (hr:Room k X.A) (hg:Gl X x) (ha:PA X.nox (e :: es) t)
  (hdb:(x == ("__debug__" : Str))=false:=by decide) (he:starEach (e :: es) X.env=(false,eval e X.env) :: starEach es X.env:=by rfl) (hpl:(backTo pos (starEach es X.env)).any (·.1)=false:=by rfl) :
  PEy X (.Call (.Name x p) (e :: es) [] pos) (nt sp t):=by
 obtain⟨f,fd,F,hb,hk,hm⟩:=D;intro Ev s σ H Q E I h;refine FN (bJ I hg hm ?_ hdb);refine PySem.W.callWith_K (h₀:=X.base) I.ok.mod.kin hk (E4 (ha pos Ev s σ H _ (I.wish _) h) (λ us s1 ⟨vs,H1,I1,r,q⟩=>%[I1.kIn|?_]) λ _ _ z=>DF z) he hpl;have I1:=I1.unwish;have hl:(us ++ []).length=ps.length:=by rw[EU,<- r.length];exact F.len _ _ _ _ q
 have b:=hb s1 us I1.kIn hl;rw[EU]at b;refine wpAny_call (FX (F.run X.A X.stack s1 H1 %[us|[]] us vs Q E hr I1.env0 b r q) λ r s' hq=>?_);cases r with
 | error e=>
  obtain⟨ea,C,H',B,e1,fl,q⟩:=hq;exact%[ea,C,H1,H',B,s1,e1,I1,fl|q]
 | ok fl=>
  cases fl with
  | ret u=>exact I1.after hq
  | next=>exact DF hq
  | brk=>exact DF hq
  | cont=>exact DF hq
theorem nE {tx:TX} (he:PEy X e tx):PE X e (λ σ H Q=>tx σ H Q E0):=λ Ev s σ H Q I h=>
 E4 (he Ev s σ H Q E0 I h) (λ _ _ q=>q) λ v s' hx=>by obtain⟨_,_,_,_,_,_,_,_,_,z⟩:=hx;exact DF z
end
def IsA0 (a:Eo) (C:Dp) (h:Heap):Prop:=∃o,h.get? a=some o/\o.cls=C/\True
theorem IsA0.of {a:Eo} {C:Dp} {h:Heap} (x:∃o,h.get? a=some o/\o.cls=C):IsA0 a C h:=let ⟨o,e,c⟩:=x;%[o,e,c|trivial]
theorem IsA0.obj {P:Dl} {w:Do} {H:Hp} {h:Heap} {a:Eo} {C:Dp} (x:IsA0 a C h):ObjOk P w H h a (.ext (IsA0 a C)):=by obtain⟨o,e,c⟩:=id x;exact%[x,%[o|e]|λ h1 h2 ⟨o',e',c'⟩ k=>%[o',k o' e'|c']]
def xy (K:C4) (i:Nat) (CE:Eo) (tx:TX) (ts:TS):TS:=λ D σ H=>tx σ H (λ _ H1=>D.nx σ H1) (λ c _ H1=>PySem.W.exmOne K c (.ref CE)=some true/\∀ea,H1 ea=none ->
 ts { nx:=λ σ2 H2=>D.nx (σ2.set i none) H2,rt:=D.rt,bk:=λ σ2 H2=>D.bk (σ2.set i none) H2,ct:=λ σ2 H2=>D.ct (σ2.set i none) H2 } (σ.set i (↑ea)) (upd H1 ea (.ext (IsA0 ea c))))
section
variable {X:Cx} {e:Expr} {tx:TX} {ts:TS} {i:Nat} {n y:Str} {CE:Eo} {b₀:Stmt} {suite:Et Stmt} {np hpos epos pos:Pos}
theorem pE (hst:X.stack=X.env :: X.outer) (hfr:X.env.frame=some X.env.locals) (hex:X.ex=[]) (he:PEy X e tx) (hN:X.N.Nodup) (hi:X.N[i]?=some n) (hk:X.env.scope.names.lookup n=some .local) (hg:Gl X y) (hm:X.mg y=↑CE)
  (hsu:∀ea,PSs (X.marked ea) (b₀ :: suite) ts) (hs:swapsWith e none epos.line X.env=pure false:=by rfl) (hd:(y == ("__debug__" : Str))=false:=by decide) :
  PS X (.Try [.Expr e epos] [.ExceptHandler (some (.Name y np)) (some n) (b₀ :: suite) hpos] [] [] pos) (xy X.K i CE tx ts):=by
 intro Ev s σ H D I h;refine wpAny_Try_except (FT (wpAny_Expr_any (E4 (he Ev s σ H _ _ I h) (λ v s1 ⟨x,H1,I1,r1,q1⟩=>?_) λ v s1 hx=>?_) I.quiet hs))
 ·exact wpAny_execs_nil (wpAny_execs_nil %[σ,H1,I1|q1])
 obtain⟨ea,c,H0,H',B,s0,rfl,I0,f,hm1,q⟩:=hx;obtain⟨a0,fl⟩:=f.fly;rw[hst]at fl;refine wpAny_looks_onW (by rw[<- hst];exact I.ok.frames) hfr fl λ h4 held4 sm4=>?_;refine wpAny_landsW held4 λ h5 fl5 sm5=>?_;have I5:Inv X Ev σ H' { s1 with heap:=h5 }:=f.inv (t:=s1.toks) I0 fl5.1 (sm4.trans sm5);obtain⟨ob,hob,hobc⟩:=fl5.there;refine wpAny_handleBy_cons (codeAny_handlers_test (bJ (X:=X.marked ea) (I5.mark ea) hg hm ?_ hd)) (by intro q;cases q);have LT:PySem.W.Looks (model X.prog X.w) h5 (typeOf (.ref ea)) c:=hobc ▸ (PySem.W.Looks.ld hob).andThen .now;refine(PySem.W.exm_one (M:=model X.prog X.w) I5.kIn LT hm1).here ?_;show codeAny _ _ _ _ _;refine codeAny_handlers_suite_as ?_;refine lands_againW fl5 λ h6 fl6 sm6=>?_;have I6:Inv X Ev σ H' { s1 with heap:=h6 }:=f.inv (t:=s1.toks) I0 fl6.1 ((sm4.trans sm5).trans sm6);have I7:Inv X Ev σ (upd H' ea (.ext (IsA0 ea c))) { s1 with heap:=h6 }:=by
  refine I6.track2 f.new.2 (λ z=>?_) ?_ (λ x c' e z=>?_) (λ p hp z=>?_) (IsA0.obj (IsA0.of fl6.there))
  ·obtain⟨m,⟨o,_,_,ho,_⟩,_⟩:=I0.loc;have:=f.new.1;rw[z,ho]at this;cases this
  ·cases q':X.s₀.heap.get? ea with
   | none=>rfl
   | some o=>
    obtain⟨o',e1⟩:=I0.base.there ea o q' (by rw[hex];simp);have:=f.new.1;rw[e1]at this;cases this
  ·obtain⟨v,o,ho,_⟩:=I0.cell x c' e;have:=f.new.1;rw[<- z,ho]at this;cases this
  ·have:=(I0.pin p hp).1;rw[z,f.new.1]at this;cases this
 refine dB (X:=X.marked ea) (I7.mark ea) hN hi (.inl hk) (v:=.ref ea) rfl (λ s7 I8=>?_) (.inr hk);refine E4 (hsu ea Ev s7 _ _ _ I8 (q ea f.new.2)) (λ fl s8 hq=>?_) λ _ _ z=>DF z;cases fl with
 | next=>
  obtain⟨σ',H'',J,q'⟩:=hq;exact di (J.unmark I.ok) hN hi hk λ s9 J9=>%[_,_,J9|q']
 | brk=>
  obtain⟨σ',H'',J,q'⟩:=hq;exact di (J.unmark I.ok) hN hi hk λ s9 J9=>%[_,_,J9|q']
 | cont=>
  obtain⟨σ',H'',J,q'⟩:=hq;exact di (J.unmark I.ok) hN hi hk λ s9 J9=>%[_,_,J9|q']
 | ret u=>
  obtain⟨v,σ',H'',J,r,q'⟩:=hq;exact di (J.unmark I.ok) hN hi hk λ s9 J9=>%[_,_,_,J9,r|q']
end
theorem ip {K:C4} {x C:Eo} (F0:ExK K C):PySem.W.KitX K (.ref x) (.ref C) (IsA0 x (.ref C)) where
 ty:=λ M h _ ⟨o,e,c,_⟩=>by have L:PySem.W.Looks M h (typeOf (.ref x)) o.cls:=(PySem.W.Looks.ld e).andThen .now;rw[c]at L;exact L
 it:=λ _ _ X _=>by
  have z:=F0.cls;unfold PySem.W.clsIn at z
  split at z
  ·rename_i c' d' cd' sl' ho
   intro A' Q' E' s' k q;unfold isType loadHead;exact A0 (wpAny_loadPart (k _ _ (X _ _ ho)) (A1 q))
  ·cases z
 ne:=λ h tp dd its n sl X htp=>by
  have z:=F0.cls;refine ES.mpr λ q=>?_;have e:C=tp:=Value.ref.inj (C3.mp q);subst e;unfold PySem.W.clsIn at z
  split at z
  ·rename_i c' d' cd' sl' ho
   have z:=(X _ _ ho).symm.trans htp;cases z
  ·cases z
 ca:=λ {_ _ _ _ _ s} X p k=>by obtain⟨h,g,d,t,os⟩:=s;obtain⟨o,e,c,_⟩:=p;exact ie X F0 e c k
section
variable {X:Cx}
theorem dM {C:Eo} (F0:ExK X.K C):cf X (.builtin "isinstance") (λ xs H Q=>∃a cv c b,xs=[.ref a,cv]/\H a=some (.ext (IsA0 a (.ref C)))/\clV cv=some c/\PySem.W.kitOne X.K (.ref C) c=some b/\Q (.bl b) H):=by
 intro Ev s σ H xs us Q I rv h;obtain⟨a,cv,c,b,rfl,ha,e1,e2,q⟩:=h;cases rv with
 | cons r1 rr=>
  cases rr with
  | cons r2 rr=>
   cases rr;cases r1;rw[clV.rel e1 r2];exact PySem.W.kia_one (ip F0) I.kIn (I.hok a _ ha).1 e2 (λ z=>nomatch z) λ tk=>%[.bl b,H,I.tok tk,U|q]
theorem dq {C:Eo} (F0:ExK X.K C):cf X (.builtin "isinstance") (λ xs H Q=>∃a p cvs cs b,xs=[.ref a,.ref p]/\H a=some (.ext (IsA0 a (.ref C)))/\H p= ~~~cvs/\clVs cvs=some cs/\PySem.W.kitAny X.K (.ref C) cs=some b/\Q (.bl b) H):=by
 intro Ev s σ H xs us Q I rv h;obtain⟨a,p,cvs,cs,b,rfl,ha,hp,e1,e2,q⟩:=h;cases rv with
 | cons r1 rr=>
  cases rr with
  | cons r2 rr=>
   cases rr;cases r1;cases r2;obtain⟨_,its,rits,o,ho,hc,n,hd⟩:=I.hok p _ hp;obtain⟨oc,od,dt,osl⟩:=o
   replace hc:oc=.type "tuple" := hc
   replace hd:dt=.seq its.toArray n:=hd
   subst hc hd;have e3:=clVs.rel e1 rits;subst e3;exact PySem.W.kia_tup (ip F0) I.kIn (I.hok a _ ha).1 ho e2 (λ z=>nomatch z) λ tk=>%[.bl b,H,I.tok tk,U|q]
end
section
variable {P:Dl} {w:Do} {K:C4} {mg:Str->Er Dp} {base:Heap}
theorem Fun.okY {x qual:Str} {st:Stmt} {f:Eo} {fd:Dm} {N ps:Et Str} {k:Nat} {sp:Sp} (F:Fun K x qual st f fd) (S:FnScope N ps (defScope st)) (len:∀vs H Q E,sp vs H Q E->vs.length=ps.length)
  (hbody:∀ (cdv:Dp) (A:Around) (outer:Et Env) (s:DY) (H:Hp) (vs:Et V) (Q:VK) (E:XK),Room k (A.deeper (envOfC qual (defScope st) s.heap.objs.size f cdv))->sp vs H Q E ->
   ∃t,PSs (aG (CXy P w) P w K mg base N qual (defScope st) f cdv A outer s H E) (defBody st) t/\t { nx:=λ _ H'=>Q .non H',rt:=Q } (cn N vs) H):FnOk P w K mg base (CXy P w) (k+1) f fd ps sp:=by
 obtain⟨oc,od,kV,doc,pm,an,cdv,ct,osl,rfl,lk,hcd⟩:=F.ex;exact mJ lk hcd S len λ A outer s H vs Q E hr hsp=>hbody cdv A outer s H vs Q E hr hsp
variable {N:Et Str} {qual:Str} {scope:Scope} {f:Eo} {cd:Dp} {A:Around} {outer:Et Env} {s₀:DY} {H₀:Hp} {E:XK}
theorem si {v:Dp} {s:DY} (h:(aG (CXx P w) P w K mg base N qual scope f cd A outer s₀ H₀ E).xe v s):(aG (CXy P w) P w K mg base N qual scope f cd A outer s₀ H₀ E).xe v s :=
 E4 h (λ _ _ ⟨ea,C,H',B,e,fl,q⟩=>%[ea,C,H',B,e,fl.f0|q]) λ _ _ %[ea,C,H',B,e,fl|q]=>%[ea,C,H',B,e,fl.f0|q]
theorem PS.toY {st:Stmt} {t:TS} (h:PS (aG (CXx P w) P w K mg base N qual scope f cd A outer s₀ H₀ E) st t):PS (aG (CXy P w) P w K mg base N qual scope f cd A outer s₀ H₀ E) st t:=λ Ev s σ H D I hw=>
 E4 (h Ev s σ H D (I.wish _) hw) (λ _ _ q=>q.unwish (E:=(aG (CXx P w) P w K mg base N qual scope f cd A outer s₀ H₀ E).xe)) λ _ _ q=>si q
theorem nF {e:Expr} {tx:TX} (he:PEx (aG (CXx P w) P w K mg base N qual scope f cd A outer s₀ H₀ E) e tx):PE (aG (CXx P w) P w K mg base N qual scope f cd A outer s₀ H₀ E) e (λ σ H Q=>tx σ H Q E):=λ Ev s σ H Q I h=>
 E4 (he Ev s σ H Q E I h) (λ _ _ q=>q) λ _ _ hx=>pe hx
theorem nG {X:Cx} {wi:TI} {pos:Pos} {elt tg iter:Expr} {ifs:Et Expr} {sc:Scope} {own cs:Et Str} {cap:Et Nat} {g:TG} {tt:TT} {tx:TX}
  (hX:X=aG (CXx P w) P w K mg base N qual scope f cd A outer s₀ H₀ E) (hit:PI X tg iter wi) (ok:CompOk X sc own cs cap)
  (hg:∀Ev s2 H2 C fp,PG (aK X Ev s2 H2 sc C (own ++ cs) fp) tg g) (hi:∀Ev s2 H2 C fp,hI (aK X Ev s2 H2 sc C (own ++ cs) fp) ifs tt) (he:∀Ev s2 H2 C fp,PEx (aK X Ev s2 H2 sc C (own ++ cs) fp) elt tx)
  (hs:∀x,foldedSetIterable iter X.env x=pure x:=by intro _;rfl):PE X (.ListComp elt [%[tg,iter,ifs|0]] sc pos) (hZ wi cap own.length g tt (λ σ H Q=>tx σ H Q E)):=by
 subst hX;intro Ev s σ H Q I h;rw[eval_ListComp];refine bB (use:=none) rfl hs (cO λ y hy e=>I.ok.has y.1 (ok.free y hy e)) ok.kind ok.names
  (thn (hit Ev s σ H _ I h) λ v s1 h1=>thn h1 λ itv s2 h2=>?_)
 obtain⟨it,fp,tn,J,H2,e,I2,T,st2,f2,W,w0,turn⟩:=h2;subst e;refine fZ (RR:=λ acc cv=>eA (model P w) (aG (CXx P w) P w K mg base N qual scope f cd A outer s₀ H₀ E).A (aG (CXx P w) P w K mg base N qual scope f cd A outer s₀ H₀ E).xe none (EP (aG (CXx P w) P w K mg base N qual scope f cd A outer s₀ H₀ E) Ev σ Q) acc cv) I2 ok rfl T st2 f2 (λ C=>hg _ _ _ _ _) (λ C=>hi _ _ _ _ _) (λ C=>he _ _ _ _ _) w0 turn (λ D C s' B=>?_) rfl rfl λ D C v s' bx=>?_
 ·obtain⟨⟨ys,H',hD,q,I',fp'⟩,m,hn⟩:=B;obtain⟨f0,f1,f2',f3,f4,f5⟩:=fp';exact%[m,hn|λ h' sb=>%[.ref D,_,I'.turned (t':=s'.toks) (λ b o hb e=>sb.extBut b o hb e) f0 f1 f3 f4 f5,U|q D hD]]
 ·have bx':=bx;obtain⟨ea,c,a0,H,H',B,s0,s8,h1,pins',σ6,rfl,hC,I0,f,q,held,sm1,q1,rfl⟩:=bx;obtain⟨m,hn,_⟩:=(f.inv (t:=s8.toks) I0 held.1 sm1).loc;exact%[m,hn|λ h' sb=>fv I2 f2 bx' sb]
end
end L2
namespace Pc
open PySem L2
def top (i:Nat):Stmt:=PySem.Challenge.pw_platecuts_k15_refused_texts.main.body.getD i (.Pass %[0,0,0|0])
abbrev xz:Stmt:=top 0
abbrev gI:Stmt:=top 17
abbrev gJ:Stmt:=top 18
abbrev pF:Stmt:=top 19
abbrev eX:Stmt:=top 23
abbrev pG:Stmt:=top 24
abbrev cG:Stmt:=inClass (top 25) 0
abbrev cP:Stmt:=inClass (top 25) 1
abbrev cQ:Stmt:=inClass (top 25) 2
abbrev iq:Stmt:=inClass (top 25) 3
abbrev ir:Stmt:=inClass (top 25) 4
abbrev gK:Stmt:=inClass (top 25) 5
abbrev jm:Stmt:=inClass (top 25) 6
abbrev cr:Stmt:=top 30
abbrev cR:Stmt:=top 31
abbrev cH:Stmt:=top 32
abbrev cI:Stmt:=top 33
abbrev pH:Stmt:=top 35
abbrev kD:Stmt:=top 36
abbrev eY:Stmt:=top 37
abbrev kF:Stmt:=top 38
abbrev iu:Stmt:=top 39
abbrev fB:Stmt:=top 40
abbrev ix:Stmt:=top 41
abbrev cS:Stmt:=top 42
abbrev cu:Stmt:=top 43
abbrev cw:Stmt:=top 44
abbrev eZ:Stmt:=top 45
abbrev dN:Stmt:=top 46
abbrev gL:Stmt:=top 47
abbrev cJ:Stmt:=top 48
abbrev dO:Stmt:=top 49
abbrev nH:Stmt:=top 50
abbrev bQ:Stmt:=top 51
abbrev iy:Stmt:=top 52
section
variable {P:Dl} {w:Do} {K:C4} {mg:Str->Er Dp} {base:Heap}
structure Blt (mg:Str->Er Value):Prop where
 isi:mg "isinstance" = none
 int:mg "int" = none
 bool:mg "bool" = none
 list:mg "list" = none
 tuple:mg "tuple" = none
 len:mg "len" = none
 range:mg "range" = none
 max:mg "max" = none
 min:mg "min" = none
 abs:mg "abs" = none
 divmod:mg "divmod" = none
 sum:mg "sum" = none
 sorted:mg "sorted" = none
 all:mg "all" = none
 repr:mg "repr" = none
 zip:mg "zip" = none
 enumerate:mg "enumerate" = none
 mostk:∃t,mg "MOST_KINDS" = some (.int 8 t)
 fivek:∃t,mg "THINGS_OF_A_KIND" = some (.int 5 t)
end
theorem bu {t u:TS} {D:Ends} {σ:St} {H:Hp} (J:St->Hp->Prop) (h1:∀R:St->Hp->Prop,(∀σ' H',J σ' H'->R σ' H')->t { D with nx:=R } σ H) (h2:∀σ' H',J σ' H'->u D σ' H'):rq t u D σ H:=h1 _ h2
section
variable {P:Dl} {w:Do} {K:C4} {mg:Str->Er Dp} {base:Heap}
theorem pI:FnScope ["thing","least"] ["thing","least"] (defScope gI):=%[U,U,U,∅,U,∅|∅]
theorem nI {f:Eo} {fd:Dm} (F:Fun K "is_whole" "is_whole" gI f fd) (B:Blt mg):FnOk P w K mg base CX0 1 f fd ["thing","least"] (eO K):=by
 refine F.ok pI (λ vs H Q E h=>?_) (λ cdv A outer s H vs Q E hr h=>?_)
 ·obtain⟨x,T,l,rfl,_⟩:=h
  rfl
 obtain⟨x,T,l,rfl,⟨tn,ty⟩,q⟩:=h;refine⟨_,aj (ar (gi (az cq rfl B.isi E7 (ae (pv 0) (ae (cN (v:=.ty "int") rfl B.int FG rfl) af)))
  (gi (mq (az cq rfl B.isi E7 (ae (pv 0) (ae (cN (v:=.ty "bool") rfl B.bool PyProof.Rows.boot_bool rfl) af))))
  (mo (cm qL (pv 0) (pv 1) (ax _)))))),?_⟩
 refine%[_,U,x,_,_,_,_,U,ty,U,oX T tn,_,U|?_];have tb:=kj ty;refine hG (λ c=>?_) (λ c=>?_)
 ·refine%[_,U,x,_,_,_,_,U,ty,U,ia T tn,_,U,_,U|?_];refine hG (λ c2=>?_) (λ c2=>?_)
  ·have hT:(T == "int")=true:=by
    have:(T == "bool")=false:=by simpa using c2
    rw[this,Bool.or_false]at c;exact c
   obtain⟨i,rfl⟩:=rJ ty tn hT;exact%[_,U,_,U,_,_,U,U|q]
  ·have hT:mV x=true:=by
    rw[<- tb];cases e:(T == "bool")with
    | true=>rfl
    | false=>rw[e]at c2;exact absurd rfl c2
   cases x <;> first | exact q | (exact absurd hT A9)
 ·have hx:bA x l=false:=by
   cases x with
   | int i=>
    exfalso;have ty':=ty;generalize hv:Value.type T=tv at ty';cases ty' with
    | int=>cases hv;exact c rfl
   | _=>rfl
  rw[hx]at q;exact q
theorem pJ:FnScope ["thing"] ["thing"] (defScope gJ):=%[U,U,U,∅,U,∅|∅]
theorem nJ {f:Eo} {fd:Dm} (F:Fun K "is_truth" "is_truth" gJ f fd) (B:Blt mg):FnOk P w K mg base CX0 1 f fd ["thing"] (gx K):=by
 refine F.ok pJ (λ vs H Q E h=>?_) (λ cdv A outer s H vs Q E hr h=>?_)
 ·obtain⟨x,T,rfl,_⟩:=h
  rfl
 obtain⟨x,T,rfl,⟨tn,ty⟩,q⟩:=h;refine%[_,aj (ar (az cq rfl B.isi E7 (ae (pv 0) (ae (cN (v:=.ty "bool") rfl B.bool PyProof.Rows.boot_bool rfl) af))))|?_];refine%[_,U,x,_,_,_,_,U,ty,U,ia T tn|?_];rw[kj ty];exact q
theorem xA:FnScope ["thing"] ["thing"] (defScope pF):=%[U,U,U,∅,U,∅|∅]
theorem so {f:Eo} {fd:Dm} (F:Fun K "is_row" "is_row" pF f fd) (B:Blt mg):FnOk P w K mg base CX0 1 f fd ["thing"] (kn K):=by
 refine F.ok xA (λ vs H Q E h=>?_) (λ cdv A outer s H vs Q E hr h=>?_)
 ·obtain⟨x,T,rfl,_⟩:=h
  rfl
 obtain⟨x,T,rfl,ty,q⟩:=h;refine%[_,aj (ar (az gw rfl B.isi E7 (ae (pv 0) (ae (cg (ae (cN (v:=.ty "list") rfl B.list PyProof.Rows.boot_list rfl) (ae (cN (v:=.ty "tuple") rfl B.tuple PyProof.Rows.boot_tuple rfl) af))) af))))|?_];refine%[_,U,zS2|λ p hp=>?_];have s1:Same H (upd H p (.tup [.ty "list",.ty "tuple"])):=λ b o e=>by rw[ao (ak e hp)];exact e
 have t2:=Ty.same s1 ty;exact%[x,p,_,_,_,_,U,t2.2,ag,U,oY T ty.1|q _ s1]
theorem scIsKind:FnScope ["thing","wide","high","worth","wanted","turns"] ["thing"] (defScope eX):=%[U,U,U,∅,U,∅|∅]
theorem lJ {f:Eo} {fd:Dm} (F:Fun K "is_kind" "is_kind" eX f fd) (B:Blt mg) (DW:Dn P w K mg base "is_whole" ["thing","least"] 1 (eO K)) (DT:Dn P w K mg base "is_truth" ["thing"] 1 (gx K)) (DR:Dn P w K mg base "is_row" ["thing"] 1 (kn K)) :
  FnOk P w K mg base CX0 2 f fd ["thing"] (df K):=by
 refine F.ok scIsKind (λ vs H Q E h=>?_) (λ cdv A outer s H vs Q E hr h=>?_)
 ·obtain⟨x,T,rfl,_⟩:=h
  rfl
 obtain⟨x,T,rfl,ty,q⟩:=h;obtain⟨tk,htk⟩:=B.fivek;have nd:=scIsKind.nd;refine⟨_,ah (aI (PW.pt (bU (bE (bo (ay DR hr rfl (ae (pv 0) af)))) (ce (aq dC (az aH rfl B.len E9 (ae (pv 0) af)) (aP (v:=.int 5) rfl htk %[tk|U]) (ax _))))) (aj (ar dl)) au)
  (ah (cX (pv 0) (mS rfl (aN (aB (i:=1) nd rfl (Or.inl rfl)) (aN (aB (i:=2) nd rfl (Or.inl rfl)) (aN (aB (i:=3) nd rfl (Or.inl rfl)) (aN (aB (i:=4) nd rfl (Or.inl rfl)) (aN (aB (i:=5) nd rfl (Or.inl rfl)) eJ)))))))
  (ah (aI (PW.pt (bU (bE (bo (ay DW hr rfl (ae (pv 1) (ae ai af))))) (ce (bE (bo (ay DW hr rfl (ae (pv 2) (ae ai af)))))))) (aj (ar dl)) au)
  (aj (ar (gi (ay DW hr rfl (ae (pv 3) (ae ai af))) (gi (ay DW hr rfl (ae (pv 4) (ae ai af))) (mo (ay DT hr rfl (ae (pv 5) af))))))))),?_⟩
 refine%[_,U,x,T,U,ty|λ H1 s1=>%[_,U|?_]];rcases q with⟨n1,n2,q⟩ | ⟨a,xs,rfl,hx,its,q⟩
 ·have e:(T == "list" || T == "tuple")=false:=by simp[n1,n2]
  rw[e];refine aT (aT ?_);exact q H1 s1
 ·have e:(T == "list" || T == "tuple")=true:=by
   have t2:=ty.2;generalize hv:Value.type T=tv at t2;generalize hr:V.ref a=rv at t2;cases t2 with
   | lst _=>cases hv;rfl
   | frz _=>cases hv;rfl
   | tup _=>cases hv;rfl
   | dK e=>cases hr;rcases hx with z | z <;> (rw[z]at e;cases e)
   | dT e=>cases hr;rcases hx with z | z <;> (rw[z]at e;cases e)
   | ext e _=>cases hr;rcases hx with z | z <;> (rw[z]at e;cases e)
   | ins=>cases hv
   | _=>cases hr
  rw[e];have sq:SqL K H1 a xs\/SqT K H1 a xs:=by
   rcases hx with z | z
   ·exact .inl (Ds (s1 _ _ z))
   ·exact .inr (Dr (s1 _ _ z))
  refine aS %[_,rfl,a,xs,rfl,sq,rfl,_,rfl|?_];refine hG (λ c=>?_) (λ c=>?_)
  ·have hl:xs.length≠5:=λ z=>by rw[z]at c;exact absurd c ∅
   have:eE xs=false:=by
    unfold eE
    split
    ·exact absurd rfl hl
    ·rfl
   rw[this]at q;exact q H1 s1
  ·have hl:xs.length=5:=by
    by_cases z:xs.length=5
    ·exact z
    ·exfalso;refine c ?_;have:¬ (V.int (xs.length:Int)=V.int 5):=λ h=>z (by have:=V.int.inj h;omega);rw[E5 this];rfl
   obtain⟨x1,x2,x3,x4,x5,rfl⟩:∃x1 x2 x3 x4 x5,xs=[x1,x2,x3,x4,x5]:=by
    match xs,hl with
    | [a,b,c,d,e],_=>exact%[a,b,c,d,e|U]
   obtain⟨T1,t1⟩:=its x1 (by simp);obtain⟨T2,t2⟩:=its x2 (by simp);obtain⟨T3,t3⟩:=its x3 (by simp);obtain⟨T4,t4⟩:=its x4 (by simp);obtain⟨T5,t5⟩:=its x5 (by simp);refine%[_,U,a,_,U,sq,U,x1,_,U,x2,_,U,x3,_,U,x4,_,U,x5,_,U,U|?_];refine%[_,U,x1,T1,1,U,Ty.same s1 t1,_,U|?_];have q':∀b,eE [x1,x2,x3,x4,x5]=b->Q (.bl b) H1:=λ b e=>by rw[<- e];exact q H1 s1
   have k5:eE [x1,x2,x3,x4,x5]=(bA x1 1 && bA x2 1 && bA x3 0 && bA x4 0 && mV x5):=rfl;cases w1:bA x1 1 with
   | false=>
    refine aT (aT ?_);exact q' false (by rw[k5,w1];rfl)
   | true=>
    refine aS %[_,rfl,x2,T2,1,rfl,Ty.same s1 t2,_,rfl|?_];cases w2:bA x2 1 with
    | false=>
     refine aT ?_;exact q' false (by rw[k5,w1,w2];rfl)
    | true=>
     refine aS %[_,rfl,x3,T3,0,rfl,Ty.same s1 t3,_,rfl|?_];cases w3:bA x3 0 with
     | false=>
      refine aS ?_;exact q' false (by rw[k5,w1,w2,w3];rfl)
     | true=>
      refine aT %[_,rfl,x4,T4,0,rfl,Ty.same s1 t4,_,rfl|?_];cases w4:bA x4 0 with
      | false=>
       refine aS ?_;exact q' false (by rw[k5,w1,w2,w3,w4];rfl)
      | true=>
       refine aT %[_,rfl,x5,T5,rfl,Ty.same s1 t5|?_];exact q' _ (by rw[k5,w1,w2,w3,w4];rfl)
theorem scInit:FnScope ["self","blade","kinds","kind"] ["self","blade","kinds"] (defScope cG):=%[U,U,U,∅,U,∅|∅]
theorem pK:FnScope ["self"] ["self"] (defScope cP):=%[U,U,U,∅,U,∅|∅]
theorem nL {f C:Eo} {fd:Dm} (F:Fun K "blade" "Shop.blade" cP f fd) (T:ShopTxt K C):FnOk P w K mg base CX0 1 f fd ["self"] (eQ C):=by
 refine F.ok pK (λ vs H Q E h=>?_) (λ cdv A outer s H vs Q E hr h=>?_)
 ·obtain⟨x,b,ks,rfl,_⟩:=h
  rfl
 obtain⟨x,b,ks,rfl,⟨dx,r,rs,h1,h2,h3⟩,q⟩:=h;exact%[_,aj (ar (mF (pv 0) rfl)),_,U,x,C,dx,_,_,U,h1,T.cl,T.nB,jb _ _|q]
theorem pL:FnScope ["self"] ["self"] (defScope cQ):=%[U,U,U,∅,U,∅|∅]
theorem nM {f C:Eo} {fd:Dm} (F:Fun K "kinds" "Shop.kinds" cQ f fd) (T:ShopTxt K C) (ml:mg "list" = none):FnOk P w K mg base CX0 1 f fd ["self"] (eT C):=by
 refine F.ok pL (λ vs H Q E h=>?_) (λ cdv A outer s H vs Q E hr h=>?_)
 ·obtain⟨x,b,ks,rfl,_⟩:=h
  rfl
 obtain⟨x,b,ks,rfl,⟨dx,r,rs,h1,h2,h3⟩,q⟩:=h;refine%[_,aj (ar (bg gt rfl ml PyProof.Rows.boot_list (ae (mF (pv 0) rfl) af)))|?_];exact%[_,U,x,C,dx,_,_,U,h1,T.cl,T.nK,lA _ _,r,rs,U,.inr (Dr h2)|λ l hl=>q l rs hl h3]
theorem scPot:FnScope ["_law_script","_law_place","_law_cell"] ["_law_script","_law_place"] (defScope pH):=%[U,U,U,∅,U,∅|∅]
theorem sr {f:Eo} {fd:Dm} (F:Fun K "_law_pot" "_law_pot" pH f fd) (ml:mg "len" = none) (mi:mg "int" = none):FnOk P w K mg base CX0 1 f fd ["_law_script","_law_place"] (mW K):=by
 refine F.ok scPot (λ vs H Q E h=>?_) (λ cdv A outer s H vs Q E hr h=>?_)
 ·obtain⟨a,ns,n,rfl,_⟩:=h
  rfl
 obtain⟨a,ns,n,rfl,hS,n0,n1,h63,q⟩:=h;refine⟨_,ah (aA (i:=2) scPot.nd rfl (Or.inl rfl) ai)
  (ah (aI (aq mB (pv 1) (az aH rfl ml E9 (ae (pv 0) af)) (ax _)) (aj (aA (i:=2) scPot.nd rfl (Or.inl rfl) (aZ aE (pv 0) (pv 1) (λ _ _=>rfl)))) au)
  (aj (ar (bn (ae (aw dZ (pv 2) (bg ee rfl mi FG (ae (cm qL (pv 2) (aw ed ai ai) (ax _)) af)))
   (ae (aw ff (aw bG (aw bG (aw dZ (pv 2) ai) (aw dZ ai (pv 1))) ai) ai) af)))))),?_⟩
 have hl:(ns.map V.int).length=ns.length:=Dv _;have fin:∀c:Int,Pot (c * (if decide ((10:Int) ^ (18:Int).toNat<=c)=true then 1 else 0)) ((c * 48271+7919 * n+12345) % 2147483629):=λ c=>by
  refine%[?_,Int.emod_nonneg _ ∅|Int.emod_lt_of_pos _ ∅]
  by_cases hc:(10:Int) ^ (18:Int).toNat<=c
  ·rw[E2 hc,Ez rfl];have:(0:Int)<=(10:Int) ^ (18:Int).toNat:=∅
   omega
  ·rw[E5 hc,E1 A9];omega
 refine%[_,U,_,U,a,_,U,.inl hS,_,_,U,U,_,U|?_];refine hG (λ c=>?_) (λ c=>?_)
 ·have c':n < ((ns.map V.int).length:Int):=B8 c;rw[hl]at c';have hk:n.toNat < ns.length:=⋯
  have hv:atI (ns.map V.int) n=some (.int ns[n.toNat]):=by
   have e:n=((n.toNat:Nat):Int):=⋯
   have z:atI (ns.map V.int) ((n.toNat:Nat):Int)=some (.int ns[n.toNat]):=eM (by rw[Dz,DJ hk];rfl);rw[<- e]at z;exact z
  refine%[_,U,_,U,a,_,_,_,U,U,hS,hv|?_];refine%[_,U,_,U,_,_,U,U,%[∅,∅|∅],_,_,U,U|.inr %[_,U,_,_,U,U,.inr %[by split <;> decide|by split <;> decide],_,U,_,_,U,U,.inr %[∅|∅],_,U,_,_,U,U,.inl %[∅|∅],_,_,U,U,_,_,U,U,_,_,U,U,(by show(0:Int) < 2147483629;decide),zS2|λ p hp=>?_]];exact q p _ hp %[_,_,fin _|ag] (λ b o e=>by rw[ao (ak e hp)];exact e)
 ·refine%[_,U,_,U,_,_,U,U,%[∅,∅|∅],_,_,U,U|.inr %[_,U,_,_,U,U,.inr %[by split <;> decide|by split <;> decide],_,U,_,_,U,U,.inr %[∅|∅],_,U,_,_,U,U,.inl %[∅|∅],_,_,U,U,_,_,U,U,_,_,U,U,(by show(0:Int) < 2147483629;decide),zS2|λ p hp=>?_]];exact q p _ hp %[_,_,fin _|ag] (λ b o e=>by rw[ao (ak e hp)];exact e)
theorem scDraw:FnScope ["_law_pot_here","_law_many","_law_found"] ["_law_pot_here","_law_many"] (defScope kD):=%[U,U,U,∅,U,∅|∅]
theorem pM {f:Eo} {fd:Dm} (F:Fun K "_law_draw" "_law_draw" kD f fd):FnOk P w K mg base CX0 1 f fd ["_law_pot_here","_law_many"] cA:=by
 refine F.ok scDraw (λ vs H Q E h=>?_) (λ cdv A outer s H vs Q E hr h=>?_)
 ·obtain⟨p,m,rfl,_⟩:=h
  rfl
 obtain⟨p,m,rfl,⟨a,b,pt,hp⟩,m0,m1,q⟩:=h;refine⟨_,ah (aI (aq fg (aZ aE (pv 0) ai (λ _ _=>rfl)) ai (ax _))
   (ah (aA (i:=2) scDraw.nd rfl (Or.inl rfl) (aw ff (aZ aE (pv 0) ai (λ _ _=>rfl)) (pv 1)))
   (ah (cX (aw mR (aZ aE (pv 0) ai (λ _ _=>rfl)) (pv 1)) (fe (pv 0) ai cZ))
   (aj (ar (pv 2))))) au)
  (ah (cX (aw ff (aw bG (aw dZ (aZ aE (pv 0) ai (λ _ _=>rfl)) ai) ai) ai) (fe (pv 0) ai cZ))
  (aj (ar (aw ff (aw oN (aw ff (aw dZ (aZ aE (pv 0) ai (λ _ _=>rfl)) (aZ aE (pv 0) ai (λ _ _=>rfl))) ai) ai) (pv 1))))),?_⟩
 have at0:atI [V.int a,V.int b] 0=⇑a:=rfl;have at1:atI [V.int a,V.int b] 1=⇑b:=rfl;refine%[_,U,p,_,_,_,U,U,Ds hp,at0,_,_,U,U,_,U|?_];refine hG (λ c=>?_) (λ c=>?_)
 ·have c':0 < a:=B8 c;refine%[_,U,p,_,_,_,U,U,Ds hp,at0,_,U,_,_,U,U,m0|?_];refine%[_,U,p,_,_,_,U,U,Ds hp,at0,_,U,_,_,U,U,%[m0|m1],_,U,p,_,_,_,U,U,hp,U|?_];refine%[_,U|q _ _ (Int.emod_nonneg _ ⋯) (Int.emod_lt_of_pos _ m0) %[a / m,b,%[Int.ediv_nonneg pt.a0 ⋯,pt.b0|pt.b1]|ag] But.upd]
 ·refine%[_,U,p,_,_,_,U,U,Ds hp,at1,_,_,U,U,.inr %[∅|∅],_,_,U,U,_,_,U,U,(by show(0:Int) < 2147483629;decide),_,U,p,_,_,_,U,U,hp,U|?_];have n0:0<=(b * 39373+611953) % 2147483629:=Int.emod_nonneg _ ∅;have n1:(b * 39373+611953) % 2147483629 < 2147483629:=Int.emod_lt_of_pos _ ∅;refine%[_,U,p,_,_,_,U,U,Ds ag,U,_,U,p,_,_,_,U,U,Ds ag,U,_,_,U,U,.inl %[⋯|⋯],_,_,U,U,(by show(0:Int) < 2147483563;decide),_,_,U,U,%[∅|∅],_,U,_,_,U,U,m0|?_];exact q _ _ (Int.emod_nonneg _ ⋯) (Int.emod_lt_of_pos _ m0) %[a,_,%[pt.a0,n0|n1]|ag] But.upd
theorem scNumber:FnScope ["_law_pot_here","_law_least","_law_way"] ["_law_pot_here","_law_least"] (defScope eY):=%[U,U,U,∅,U,∅|∅]
theorem lK {f:Eo} {fd:Dm} (F:Fun K "_law_number" "_law_number" eY f fd) (D:Dn P w K mg base "_law_draw" ["_law_pot_here","_law_many"] 1 cA):FnOk P w K mg base CX0 2 f fd ["_law_pot_here","_law_least"] dJ:=by
 refine F.ok scNumber (λ vs H Q E h=>?_) (λ cdv A outer s H vs Q E hr h=>?_)
 ·obtain⟨p,l,rfl,_⟩:=h
  rfl
 obtain⟨p,l,rfl,pt,l0,l1,q⟩:=h;refine⟨_,ah (aA (i:=2) scNumber.nd rfl (Or.inl rfl) (ay D hr rfl (ae (pv 0) (ae ai af))))
  (ah (aI (aq mB (pv 2) ai (ax _)) (aj (ar (aw bG (pv 1) (ay D hr rfl (ae (pv 0) (ae ai af)))))) au)
  (ah (aI (aq bV (pv 2) ai (ax _)) (aj (ar (aw bG (pv 1) (ay D hr rfl (ae (pv 0) (ae (aw my (aw ed ai ai) (pv 1)) af)))))) au)
  (aj (ar (aw bG (aw bG (aw ed ai ai) (aw dZ (ay D hr rfl (ae (pv 0) (ae (aw ed ai ai) af))) (aw ed ai ai)))
   (ay D hr rfl (ae (pv 0) (ae (aw ed ai ai) af)))))))),?_⟩
 have pw:∀ {i j:Int},i=10->0<=j->j<=60->xj i j:=λ {i j} a b c=>%[b,⋯|by subst a;decide]
 refine%[_,U,p,4,U,pt,∅,∅|λ y H1 y0 y1 pt1 b1=>?_];refine%[_,U,_,_,U,U,_,U|?_];refine hG (λ c=>?_) (λ c=>?_)
 ·refine%[_,U,_,U,p,12,U,pt1,∅,∅|λ r H2 r0 r1 pt2 b2=>%[_,_,U,U|?_]];exact q _ _ ⋯ ⋯ pt2 (b1.trans b2)
 ·refine%[_,U,U,_,U|?_];refine hG (λ c2=>?_) (λ c2=>?_)
  ·refine%[_,U,_,U,_,_,U,U,pw rfl ∅ ∅,_,U,_,_,U,U,p,_,U,pt1,?_,?_|λ r H2 r0 r1 pt2 b2=>%[_,_,U,U|?_]]
   ·show(0:Int) < 10 ^ 60 - l;omega
   ·show(10 ^ 60:Int) - l<=10 ^ 60;omega
   ·have r1':r < 10 ^ 60 - l:=r1;exact q _ _ ⋯ ⋯ pt2 (b1.trans b2)
  ·refine%[_,_,U,U,pw rfl ∅ ∅,_,U,_,_,U,U,pw rfl ∅ ∅,p,_,U,pt1,∅,∅|λ r H2 r0 r1 pt2 b2=>?_];have r1':r < 10 ^ 9:=r1;refine%[_,_,U,U,pw rfl ∅ ∅,_,_,U,U,.inl %[⋯|⋯],_,_,U,U,_,U,_,_,U,U,pw rfl ∅ ∅,p,_,U,pt2,∅,∅|λ r' H3 r0' r1'' pt3 b3=>%[_,_,U,U|?_]];have r2':r' < 10 ^ 9:=r1'';refine q _ _ ?_ ?_ pt3 (b1.trans (b2.trans b3))
   ·show l<=10 ^ 59+r * 10 ^ 40+r';omega
   ·show 10 ^ 59+r * 10 ^ 40+r' < 10 ^ 60;omega
theorem scKind:FnScope ["_law_pot_here","_law_wide","_law_high"] ["_law_pot_here"] (defScope kF):=%[U,U,U,∅,U,∅|∅]
theorem pN {f:Eo} {fd:Dm} (F:Fun K "_law_kind" "_law_kind" kF f fd) (D:Dn P w K mg base "_law_draw" ["_law_pot_here","_law_many"] 1 cA) (N:Dn P w K mg base "_law_number" ["_law_pot_here","_law_least"] 2 dJ) (mi:mg "int" = none) :
  FnOk P w K mg base CX0 3 f fd ["_law_pot_here"] iY:=by
 refine F.ok scKind (λ vs H Q E h=>?_) (λ cdv A outer s H vs Q E hr h=>?_)
 ·obtain⟨p,rfl,_⟩:=h
  rfl
 obtain⟨p,rfl,pt,q⟩:=h;have hr1:=hr.mono (show 1<=2 by decide);refine⟨_,ah (aA (i:=1) scKind.nd rfl (Or.inl rfl) (ay N hr rfl (ae (pv 0) (ae ai af))))
  (ah (aA (i:=2) scKind.nd rfl (Or.inl rfl) (aZ aE (bn (ae (pv 1) (ae (ay N hr rfl (ae (pv 0) (ae ai af))) af)))
   (bg ee rfl mi FG (ae (cm fg (ay D hr1 rfl (ae (pv 0) (ae ai af))) ai (ax _)) af)) (λ _ _=>rfl)))
  (aj (ar (cg (ae (pv 1) (ae (pv 2) (ae (ay N hr rfl (ae (pv 0) (ae ai af))) (ae (ay N hr rfl (ae (pv 0) (ae ai af)))
   (ae (cm bV (ay D hr1 rfl (ae (pv 0) (ae ai af))) ai (ax _)) af))))))))),?_⟩
 refine%[_,U,p,1,U,pt,∅,∅|λ wd H1 w0 w1 pt1 b1=>?_];refine%[_,U,_,U,p,1,U,pt1,∅,∅|λ hg H2 h0 h1 pt2 b2=>%[zS2|λ l hl=>?_]];refine%[_,U,p,4,U,pt2.new hl,∅,∅|λ y H3 y0 y1 pt3 b3=>?_];have hlp:l≠p:=λ z=>by rw[z]at hl;exact pt2.some hl
 have hl3:H3 l=↥[.int wd,.int hg]:=b3 l _ hlp ag;refine%[_,_,U,U|.inr %[_,U|?_]];obtain⟨hh,hv,hh0,hh1⟩:∃hh:Int,atI [V.int wd,V.int hg] (if decide (0 < y)=true then(1:Int)else 0)=⇑hh/\1<=hh/\hh < 10 ^ 60:=by
  by_cases c:0 < y
  ·exact%[hg,by rw[E2 c,Ez rfl];rfl,h0|h1]
  ·exact%[wd,by rw[E5 c,E1 A9];rfl,w0|w1]
 refine%[l,_,_,_,U,U,Ds hl3,hv|?_];refine%[_,U,_,U,_,U,p,0,U,pt3,∅,∅|λ wo H4 o0 o1 pt4 b4=>?_];refine%[_,U,p,0,U,pt4,∅,∅|λ wa H5 a0 a1 pt5 b5=>?_];refine%[_,U,p,2,U,pt5,∅,∅|λ z H6 z0 z1 pt6 b6=>%[U,zS5|λ t ht=>?_]];have b:=(((((b1.trans b2).trans (But.new hl)).trans b3).trans b4).trans b5).trans b6;exact q t %[wd,hh,wo,wa|decide (V.int z=V.int 1)] _ (b.free pt6 ht) %[w0,hh0,o0,a0,w1,hh1,o1|a1] ag (pt6.new ht) (b.trans (But.new ht))
theorem scTold:FnScope ["_law_pot_here","_law_blade"] ["_law_pot_here"] (defScope iu):=%[U,U,U,∅,U,∅|∅]
theorem pO {f:Eo} {fd:Dm} (F:Fun K "_law_told" "_law_told" iu f fd) (D:Dn P w K mg base "_law_draw" ["_law_pot_here","_law_many"] 1 cA) (N:Dn P w K mg base "_law_number" ["_law_pot_here","_law_least"] 2 dJ)
  (G:Dn P w K mg base "_law_kind" ["_law_pot_here"] 3 iY) (mr:mg "range" = none):FnOk P w K mg base CX0 4 f fd ["_law_pot_here"] iZ:=by
 refine F.ok scTold (λ vs H Q E h=>?_) (λ cdv A outer s H vs Q E hr h=>?_)
 ·obtain⟨p,rfl,_⟩:=h
  rfl
 obtain⟨p,rfl,pt,q⟩:=h;have hr1:=hr.mono (show 1<=3 by decide);have hr2:=hr.mono (show 2<=3 by decide);refine⟨_,ah (aA (i:=1) scTold.nd rfl (Or.inl rfl) (ay N hr2 rfl (ae (pv 0) (ae ai af))))
  (aj (ar (cg (ae (pv 1) (ae (dH (own:=["_law_k"]) (cs:=["_law_pot_here"]) (cap:=[0]) rfl
   (fM rfl mr (ae (aw bG ai (ay D hr1 rfl (ae (pv 0) (ae ai af)))) af))
   (bj (sc:=defScope iu) (N:=["_law_pot_here","_law_blade"]) rfl rfl ∅)
   (λ _ _ _ _ _=>aB (i:=0) (by show List.Nodup (["_law_k","_law_pot_here"]:Et Str);decide +kernel) rfl (Or.inl rfl) (Or.inr rfl)) (λ _ _ _ _ _=>bL)
   (λ _ _ _ _ _=>ay G hr rfl (ae (pv 1) af))) af))))),?_⟩
 refine%[_,U,p,0,U,pt,∅,∅|λ bl H1 bl0 bl1 pt1 b1=>?_];refine%[_,U,_,U,p,8,U,pt1,∅,∅|λ y H2 y0 y1 pt2 b2=>%[_,_,U,U,_,U,⋯,⋯|?_]];have en:∃n:Nat,(1+y).toNat=n/\1<=n/\n<=8:=%[_,U,⋯|⋯]
 obtain⟨n,hn,n1,n8⟩:=en;rw[hn];refine%[λ i m ys H'=>m=n - i/\i<=n/\ys.length=i/\PotAt H' p/\But p H2 H'/\∃ks,Tups H' ys ks/\∀k∈ks,Good k,%[n,by simp,DG _,U,pt2,But.refl,[],.nil|λ k hk=>by simp at hk]|?_];rintro i m ys H3 ⟨rfl,hi,hy,pt3,b3,ks,tk,gk⟩
 by_cases hin:i < n
 ·refine .inr %[hin,C6 (show ys.length<=8 by omega) ∅|λ x H' yl=>?_];obtain⟨e1,e2⟩:=yl;subst e1 e2;refine%[leS.set rfl|?_];refine bM ?_;refine%[_,U,p,U,pt3|λ t k H4 ht gd et pt4 b4=>%[n - (i+1),⋯,U,hin,by rw[Dw,hy];rfl,pt4,b3.trans b4,ks ++ [k],?_|?_]]
  ·refine FW (Tups.keep (λ b xs e=>b4 b _ (λ z=>?_) e) tk) %[t,rfl|et];obtain⟨a0,c0,_,h0⟩:=pt3;rw[z,h0]at e;cases e
  ·intro k' hk';rcases C0.mp hk' with z | z
   ·exact gk k' z
   ·rw[C9.mp z];exact gd
 ·have hin':i=n:=⋯
  subst hin';refine .inl %[B0 _,C7 (C6 (show ys.length<=8 by omega) ∅)|λ l hl=>%[zS2|λ t ht=>?_]];have b:=(b1.trans b2).trans b3;have hH:upd H3 l (.lst ys) t=none:=ht;have hlt:t≠l:=λ z=>by rw[z,ag]at ht;cases ht
  have ht3:H3 t=none:=by rw[ao hlt]at ht;exact ht
  refine q t l bl ys ks _ (b.free pt3 ht3) (b.free pt3 hl) %[ag,by rw[ao (Ne.symm hlt),ag],?_,bl0,bl1,gk,⋯|⋯] ((pt3.new hl).new ht) ((b.trans (But.new hl)).trans (But.new ht));exact Tups.keep (λ c xs e=>by rw[ao (ak e ht)];exact e) (Tups.keep (λ c xs e=>by rw[ao (ak e hl)];exact e) tk)
end
def BadAt (K:C4) (H:Hp) (z:V):Prop:=(∃T,Ty K H z T/\T ≠ "list" /\ T ≠ "tuple")\/∃a xs,z=.ref a/\(H a=↥xs\/H a= ~~~xs)/\(∀y∈xs,∃UU0,Ty K H y UU0)/\eE xs=false
def gM (H:Hp) (z:V):Prop:=∃k,RowAt H z k/\Good k
theorem BadAt.same {K:C4} {H H':Hp} {z:V} (s:Same H H') (b:BadAt K H z):BadAt K H' z:=by
 rcases b with⟨T,h1,h2⟩ | ⟨a,xs,rfl,h2,h3,h4⟩
 ·exact .inl %[T,Pc.Ty.same s h1|h2]
 ·exact .inr %[a,xs,U,h2.imp (s _ _) (s _ _),λ y hy=>(h3 y hy).imp λ _ h=>Pc.Ty.same s h|h4]
theorem nN {K:C4} {H:Hp} {z:V} {Q:VK} {E:XK} (b:BadAt K H z) (q:∀H',Same H H'->Q (.bl false) H'):df K [z] H Q E:=by
 rcases b with⟨T,h1,h2,h3⟩ | ⟨a,xs,rfl,h2 | h2,h3,h4⟩
 ·exact%[_,_,U,h1|.inl %[h2,h3|q]]
 ·exact%[_,_,U,.lst h2|.inr %[a,xs,U,.inl h2,h3|λ H' s=>by rw[h4];exact q H' s]]
 ·exact%[_,_,U,.tup h2|.inr %[a,xs,U,.inr h2,h3|λ H' s=>by rw[h4];exact q H' s]]
inductive spInitX (K:C4) (C NB NKs NK:Eo) (vs:Et V) (H:Hp) (Q:VK) (E:XK):Prop
 | mk (x dx:Eo) (bv y:V) (e_1:vs=[.ref x,bv,y]) (e_2:H x=some (.ins C dx [])) (e_3:(∃Tb,Ty K H bv Tb)) (e_4:((bA bv 0=false/\E (.ref NB) none H)\/∃b:Int,bv=.int b/\0<=b/\((∃T,Ty K H y T/\(T == "list" || T == "tuple")=false/\∀H',Same H H'->E (.ref NKs) none H')\/(∃a zs,y=.ref a/\(H a=↥zs\/H a= ~~~zs)/\(zs.length=0\/8 < zs.length)/\∀H',Same H H'->E (.ref NKs) none H')\/(∃a zs,y=.ref a/\(H a=↥zs\/H a= ~~~zs)/\1<=zs.length/\zs.length<=8/\(∀z∈zs,gM H z\/BadAt K H z)/\(∃z∈zs,¬ gM H z)/\∀H',Same H H'->E (.ref NK) none H')\/(∃ks rs kds,y=.ref ks/\(H ks=↥rs\/H ks= ~~~rs)/\Paired (RowAt H) rs kds/\(∀k∈kds,Good k)/\1<=rs.length/\rs.length<=8/\∀H':Hp,gy C H' x b kds->(∀c o,c≠x->H c=some o->H' c=some o)->Q .non H')))):spInitX K C NB NKs NK vs H Q E
section
variable {P:Dl} {w:Do} {K:C4} {mg:Str->Er Dp} {base:Heap}
theorem nO {f C NB NKs NK:Eo} {fd:Dm} (F:Fun K "__init__" "Shop.__init__" cG f fd) (B:Blt mg) (T:ShopTxt K C) (DW:Dn P w K mg base "is_whole" ["thing","least"] 1 (eO K)) (DR:Dn P w K mg base "is_row" ["thing"] 1 (kn K))
  (DK:Dn P w K mg base "is_kind" ["thing"] 2 (df K)) (m1:mg "NoBlade" = ↑NB) (m2:mg "NoKinds" = ↑NKs) (m3:mg "NoKind" = ↑NK) (e1:ExcC K NB) (e2:ExcC K NKs) (e3:ExcC K NK) :
  FnOk P w K mg base (CXx P w) 3 f fd ["self","blade","kinds"] (spInitX K C NB NKs NK):=by
 refine F.okX scInit (λ vs H Q E h=>?_) (λ cdv A outer s H vs Q E hr h=>?_)
 ·obtain⟨x,dx,bv,y,rfl,_⟩:=h
  rfl
 obtain⟨x,dx,bv,y,rfl,hx,⟨Tb,tb⟩,h⟩:=h;have hr1:=hr.mono (show 1<=2 by decide);obtain⟨tk,htk⟩:=B.mostk;have nd:=scInit.nd;have n8':(8:Nat) < sizeLine:=∅
 refine⟨_,ah (aI (bE (bo (ay DW hr1 rfl (ae (pv 1) (ae ai af))))) (aj (bO (R:=λ c H=>E c none H) rfl rfl m1 e1 (ae ap af) bt)) au)
  (ah (aI (PW.pt (bU (bE (bo (ay DR hr1 rfl (ae (pv 2) af)))) (ce (bE (mC qK qK ai (az aH rfl B.len E9 (ae (pv 2) af)) (aP (v:=.int 8) rfl htk %[tk|rfl])))))) (aj (bO (R:=λ c H=>E c none H) rfl rfl m2 e2 (ae ap af) bt)) au)
  (ah (iP PassesOwn.leaving rfl (mT (pv 2)) (aB (i:=3) nd rfl (Or.inl rfl)) (aj (aI (bE (bo (ay DK hr rfl (ae (pv 3) af)))) (aj (bO (R:=λ c H=>E c none H) rfl rfl m3 e3 (ae ap af) bt)) au)))
  (ah (mG (pv 0) (pv 1) rfl)
  (aj (mG (pv 0) (bg cz rfl B.tuple PyProof.Rows.boot_tuple (ae (dH (own:=["kind"]) (cs:=[]) (cap:=[]) rfl (mT (pv 2))
   (bj (sc:=defScope cG) (N:=["self","blade","kinds","kind"]) rfl rfl ∅)
   (λ _ _ _ _ _=>aB (i:=0) (by show List.Nodup (["kind"]:Et Str);decide +kernel) rfl (Or.inl rfl) (Or.inr rfl)) (λ _ _ _ _ _=>bL)
   (λ _ _ _ _ _=>bg (r:=mX K) cz rfl B.tuple PyProof.Rows.boot_tuple (ae (pv 0) af))) af)) rfl))))),?_⟩
 refine%[_,U,bv,_,0,U,tb,_,U|?_];rcases h with⟨wb,he⟩ | ⟨b,rfl,b0,h⟩
 ·rw[wb];exact aT %[zS1|he]
 have wb:bA (.int b) 0=true:=A7 b0;rw[wb];refine aS ?_;rcases h with⟨T0,ty0,te0,he⟩ | h
 ·refine%[_,U,y,T0,U,ty0|λ H1 s1=>%[_,U|?_]];rw[te0];exact aT (aT %[zS1|he H1 s1])
 have row:∃ks rs,y=.ref ks/\(H ks=↥rs\/H ks= ~~~rs):=by
  rcases h with⟨a,zs,h1,h2,_⟩ | ⟨a,zs,h1,h2,_⟩ | ⟨a,zs,kds,h1,h2,_⟩
  ·exact%[a,zs,h1|h2]
  ·exact%[a,zs,h1|h2]
  ·exact%[a,zs,h1|h2]
 obtain⟨ks,rs,rfl,hks⟩:=row;have uniq:∀ {a:Eo} {zs:Et V},V.ref ks=V.ref a->(H a=↥zs\/H a= ~~~zs)->zs=rs:=λ e h'=>by obtain rfl:=V.ref.inj e;rcases hks with z | z <;> rcases h' with z' | z' <;> (rw[z]at z';first | (cases z';done) | (cases z';rfl))
 have tyk:∃T,Ty K H (.ref ks) T/\(T == "list" || T == "tuple")=true:=by
  rcases hks with e | e
  ·exact%[_,.lst e|U]
  ·exact%[_,.tup e|U]
 obtain⟨T0,ty0,te0⟩:=tyk;refine%[_,U,.ref ks,T0,U,ty0|λ H1 s1=>%[_,U|?_]];rw[te0];have sq:∀ {H2:Hp},Same H H2->SqL K H2 ks rs\/SqT K H2 ks rs:=λ s2=>by
  rcases hks with z | z
  ·exact .inl (Ds (s2 _ _ z))
  ·exact .inr (Dr (s2 _ _ z))
 refine aS %[_,rfl,ks,rs,rfl,sq s1,_,_,rfl,rfl,_,rfl|?_];rcases h with⟨a,zs,e,h2,hl,he⟩ | h
 ·obtain rfl:=uniq e h2;rcases hl with hl | hl
  ·rw[E5 (show¬ (1:Int)<=(zs.length:Int)by omega)];exact aS %[_,rfl|aT %[zS1|he H1 s1]]
  ·rw[E2 (show(1:Int)<=(zs.length:Int)by omega)];refine aT %[_,_,rfl,rfl,_,rfl|?_];rw[E5 (show¬ (zs.length:Int)<=8 by omega)];exact aT %[zS1|he H1 s1]
 have len:1<=rs.length/\rs.length<=8:=by
  rcases h with⟨a,zs,h1,h2,h3,h4,_⟩ | ⟨a,zs,kds,h1,h2,_,_,h3,h4,_⟩
  ·rw[<- uniq h1 h2];exact%[h3|h4]
  ·rw[<- uniq h1 h2];exact%[h3|h4]
 rw[E2 (show(1:Int)<=(rs.length:Int)by omega)];refine aT %[_,_,rfl,rfl,_,rfl|?_];rw[E2 (show(rs.length:Int)<=8 by omega)];refine aS ?_;rcases h with⟨a,zs,e,h2,_,_,hgb,⟨z,hz,hng⟩,he⟩ | ⟨ks',rs',kds,e,h2,hrs,hgd,n1,n8,q⟩
 ·obtain rfl:=uniq e h2;refine ib (j:=2) (a:=ks) (xs:=zs) rfl (hks.imp (λ z=>s1 _ _ z) λ z=>s1 _ _ z) (λ i σ H2=>∃v,σ=[↑x,⇑b,↑ks,v]/\Same H1 H2/\∀j y,j < i->zs[j]?=some y->gM H y) %[none,rfl,Same.refl _|λ j y hj=>absurd hj (Nat.not_lt_zero _)] (λ i σ H2 _ ⟨_,_,s2,_⟩ o e=>s2 _ _ e) ?_ ?_
  ·rintro i y σ H2 hi ⟨v,rfl,s2,hg⟩;refine%[_,U|?_];simp only[li,EU];rcases hgb y (B2 hi)with⟨k,rk,gk⟩ | bad
   ·refine fY ((rk.same s1).same s2) gk λ H3 s3=>%[_,U|aS ?_]
    refine%[_,U,s2.trans s3|λ j y' hj hy'=>?_]
    by_cases hji:j < i
    ·exact hg j y' hji hy'
    ·have:j=i:=⋯
     subst this;rw[hi]at hy';obtain rfl:=B6 hy';exact%[k,rk|gk]
   ·refine nN ((bad.same s1).same s2) λ H3 s3=>%[_,U|aT ?_]
    exact%[zS1|he H3 ((s1.trans s2).trans s3)]
  ·rintro σ H2 ⟨v,rfl,s2,hg⟩;obtain⟨j,hj⟩:=EZ hz;exact absurd (hg j z (A3.mp hj).1 hj) hng
 have e5:rs=rs':=(uniq e h2).symm;subst e5;have e6:=V.ref.inj e;subst e6;have tf:=DA hrs;refine ib (j:=2) (a:=ks) (xs:=rs) rfl (hks.imp (λ z=>s1 _ _ z) λ z=>s1 _ _ z) (λ i σ H2=>∃v,σ=[↑x,⇑b,↑ks,v]/\Same H1 H2) %[none,rfl|Same.refl _] (λ i σ H2 _ ⟨_,_,s2⟩ o e=>s2 _ _ e) ?_ ?_
 ·rintro i y σ H2 hi ⟨v,rfl,s2⟩;obtain⟨k,hk,rk⟩:=Du hrs hi;refine%[_,U|?_];simp only[li,EU];refine fY ((rk.same s1).same s2) (hgd k (B2 hk)) λ H3 s3=>%[_,U|aS ?_]
  exact%[_,U|s2.trans s3]
 rintro σ H2 ⟨v,rfl,s12⟩;have s2:Same H H2:=s1.trans s12;refine%[_,U,_,U,x,C,dx,[],U,s2 _ _ hx,T.cl,T.nB,(by show 0 < 1000;decide)|?_];have k3:∀c o,c≠x->H c=some o->(upd H2 x (.ins C dx (cj "blade_width" (.int b) []))) c=some o:=λ c o n e=>by rw[ao n];exact s2 c o e
 have x3:(upd H2 x (.ins C dx (cj "blade_width" (.int b) []))) x=some (.ins C dx (cj "blade_width" (.int b) [])):=ag;generalize upd H2 x (.ins C dx (cj "blade_width" (.int b) []))=H3 at k3 x3 ⊢;have rx:∀c xs,H c=↥xs\/H c= ~~~xs->c≠x:=λ c xs e z=>by subst z;rcases e with e | e <;> (rw[hx]at e;cases e)
 dsimp only[xn,tCB,qQ];refine lw (j:=2) (a:=ks) (xs:=rs) rfl (hks.imp (λ z=>k3 _ _ (rx _ _ (.inl z)) z) λ z=>k3 _ _ (rx _ _ (.inr z)) z) (λ i ys H4=>ys.length=i/\Same H3 H4/\Tups H4 ys (kds.take i)) (λ i ys H4 _ ⟨_,s4,_⟩ o e=>s4 _ _ e) %[rfl,Same.refl _|.nil] ?_ ?_
 ·rintro i y ys H4 hi ⟨hy,s4,ty4⟩;have hin:i < rs.length:=(A3.mp hi).1;obtain⟨k,hk,rk⟩:=Du hrs hi;have tk1:kds.take (i+1)=kds.take i ++ [k]:=by rw[EJ,hk];rfl
  refine%[⋯,leS.set rfl|bM ?_];rcases rk with⟨a,rfl,h⟩ | ⟨a,rfl,h⟩
  ·have h4:=s4 _ _ (k3 _ _ (rx _ _ (.inr h)) h);exact%[_,U,a,_,U|.inr %[Dr h4|Nx.of hin %[by rw[Dw,hy];rfl,s4|by rw[tk1];exact FW ty4 %[a,U|h4]]]]
  ·have h4:=s4 _ _ (k3 _ _ (rx _ _ (.inl h)) h);refine%[_,U,a,_,U|.inl %[Ds h4|λ l hl=>Nx.of hin %[by rw[Dw,hy];rfl,λ c o e=>?_|?_]]]
   ·have e4:=s4 c o e;rw[ao (ak e4 hl)];exact e4
   ·rw[tk1];exact FW (Tups.keep (λ c xs e=>by rw[ao (ak e hl)];exact e) ty4) %[l,rfl|ag]
 rintro ys H4 ⟨hy,s4,ty4⟩;refine%[⋯|λ p hp=>?_];refine%[p,ys,U|.inl %[Ds ag|λ r hr'=>?_]];have hpr:r≠p:=λ z=>by rw[z,ag]at hr';cases hr'
 have hr4:H4 r=none:=by rw[ao hpr]at hr';exact hr'
 have x4:=s4 _ _ x3;have xp:x≠p:=ak x4 hp;have xr:x≠r:=ak x4 hr4;refine%[_,U,x,C,dx,_,U,(by rw[ao xr,ao xp];exact x4),T.cl,T.nK,(C6 (cY _ _ _) ∅)|?_];rw[tf,EX]at ty4;refine q _ %[dx,r,ys,ag,by rw[ao (Ne.symm xr),ag]|?_] λ c o n e=>?_
 ·refine Tups.keep (λ c xs e=>?_) ty4;rw[ao (λ z=>by rw[z,x4]at e;cases e),ao (ak e hr4),ao (ak e hp)];exact e
 ·have e4:=s4 _ _ (k3 c o n e);rw[ao n,ao (ak e4 hr4),ao (ak e4 hp)];exact e4
end
def cU {α β:Type} (f:α->Er β):Et α->Er (Et β)
 | []=>some []
 | a :: l=>match f a with
  | some b=>(cU f l).map (b :: ·)
  | none=>none
theorem cK {α β:Type} {f:α->Er β} {a:α}:∀ {l:Et α},a∈l->f a=none->cU f l=none
 | x :: l,h,e=>by
  unfold cU;rcases Dx.mp h with z | z
  ·rw[<- z,e]
  ·split
   ·rw[cK z e];rfl
   ·rfl
def dgt (c:Nat):Bool:=decide (48<=c) && decide (c<=57)
theorem dgt_iff {c:Nat}:dgt c=true↔48<=c/\c<=57:=by unfold dgt;simp
def isN (l:Et Nat):Bool:=decide (l≠[]) && l.all dgt && (decide (l=[48]) || decide (l.head?≠some 48))
theorem isN_iff {l:Et Nat}:isN l=true↔(l≠[]/\NumText.AllDigits l)/\(l=[48]\/l.head?≠some 48):=by unfold isN NumText.AllDigits;simp only[EL,Bool.or_eq_true,FD,Eg,dgt_iff]
def rdN (l:Et Nat):Er Int:=if isN l=true then some (NumText.digitsVal l:Nat)else none
theorem dy {l:Et Nat} (h:isN l=false):rdN l=none:=by unfold rdN;rw[h];rfl
theorem dP {l:Et Nat} {n:Int} (h:rdN l=some n):isN l=true/\n=((NumText.digitsVal l:Nat):Int):=by
 unfold rdN at h
 split at h
 ·exact%[by assumption|(B6 h).symm]
 ·cases h
theorem dA {l:Et Nat} {c:Nat} (hc:c∈l) (h:c < 48\/57 < c):isN l=false:=ES.mpr λ z=>by have:=(isN_iff.mp z).1.2 c hc;omega
theorem eC (m:Nat):isN (sg m)=true:=isN_iff.mpr ⟨%[qV m|gE m],by
 rcases pc m with e | ⟨c,r,e,h⟩
 ·exact .inl e
 ·refine .inr ?_;rw[e];simp only[List.head?_cons,ne_eq,Option.some.injEq];omega⟩
theorem ss (m:Nat):rdN (sg m)=some (m:Int):=by unfold rdN;rw[eC,Ez rfl,nj]
theorem dQ {n:Int} (h:Nn n):rdN (sg n.toNat)=some n:=by rw[ss];have:=h.lo;congr 1;omega
theorem qX:∀ (l:Et Nat) (a:Nat),NumText.AllDigits l->l.foldl (λ acc c=>acc * 10+(c - 48)) a < (a+1) * 10 ^ l.length
 | [],a,_=>by simp
 | c :: r,a,h=>by have h1:=h.head;have h2:=qX r (a * 10+(c - 48)) h.tail;refine B9 h2 ?_;rw[EA,Nat.pow_succ,Nat.mul_comm (10 ^ r.length) 10,<- Nat.mul_assoc];exact Ea _ ⋯
theorem Bj {l:Et Nat} (h:NumText.AllDigits l) (hl:l.length<=60):NumText.digitsVal l < 10 ^ 60:=by have:=qX l 0 h;rw[Nat.zero_add,Nat.one_mul]at this;exact B9 this (Nat.pow_le_pow_right ∅ hl)
theorem nP {l:Et Nat} {n:Int} (h:rdN l=some n) (hl:l.length<=60):Nn n:=by obtain⟨h1,rfl⟩:=dP h;have:=Bj (isN_iff.mp h1).1.2 hl;exact%[⋯|⋯]
theorem kG {c:Nat} (h:c < 128):Unicode.isDigit c=dgt c:=by
 have:∀c:Fin 128,Unicode.isDigit c.val=dgt c.val:=∅
 exact this %[c|h]
theorem kH (z:Str):Txt.isascii z=true↔∀c∈Lp z,c < 128:=by unfold Txt.isascii;rw[<- Array.all_toList,Eg];simp
theorem kI {z:Str} (h:Txt.isascii z=true):Txt.isdigit z=true↔Lp z≠[]/\NumText.AllDigits (Lp z):=by
 have ha:=(kH z).mp h;unfold Txt.isdigit NumText.AllDigits;rw[<- Array.all_toList,EL,Eg,FD,av];constructor
 ·rintro⟨h1,h2⟩;exact%[Ef.mp h1|λ c hc=>dgt_iff.mp (by rw[<- kG (ha c hc)];exact h2 c hc)]
 ·rintro⟨h1,h2⟩;exact%[Ef.mpr h1|λ c hc=>by rw[kG (ha c hc)];exact dgt_iff.mpr (h2 c hc)]
theorem iz {z:Str} (h:NumText.AllDigits (Lp z)):Txt.isascii z=true:=(kH z).mpr λ c hc=>by have:=h c hc;omega
theorem Lp_0:Lp ("0" : Str)=[48]:=∅
theorem nQ (z:Str) (c:Nat):Txt.startswith z %[|#[c]]=true↔(Lp z).head?=some c:=by
 unfold Txt.startswith Builtin.Str.subAt;rw[EL,FD,show(%[|#[c]]:Str).length=1 from rfl];have hz:=av z;constructor
 ·rintro⟨h1,h2⟩;have h3:=FI Array.toList (eq_of_beq h2);rw[Array.toList_extract]at h3;cases e:Lp z with
  | nil=>rw[e]at hz;simp at hz;omega
  | cons a r=>
   rw[show z.cps.toList=a :: r from e]at h3;simp[List.extract]at h3;rw[h3];rfl
 ·intro h;cases e:Lp z with
  | nil=>rw[e]at h;cases h
  | cons a r=>
   rw[e]at h;cases h;refine%[by rw[hz,e,EA];omega|?_];refine C3.mpr (Array.toList_inj.mp ?_);rw[Array.toList_extract,show z.cps.toList=c :: r from e];simp[List.extract]
theorem su (z:Str):(z=("0" : Str))↔Lp z=[48]:=%[λ h=>by rw[h];exact Lp_0|λ h=>aR (by rw[h,Lp_0])]
theorem pP (z:Str):isN (Lp z)=(Txt.isascii z && Txt.isdigit z && !(Txt.startswith z %[|#[48]] && decide (z ≠ "0"))):=by
 rw[El,isN_iff];simp only[EL,Bool.not_eq_true',Bool.and_eq_false_iff,decide_eq_false_iff_not,ne_eq,Decidable.not_not];rw[su];constructor
 ·rintro⟨⟨h1,h2⟩,h3⟩;refine%[%[iz h2|(kI (iz h2)).mpr %[h1|h2]]|?_];rcases h3 with h3 | h3
  ·exact .inr h3
  ·exact .inl (ES.mpr λ z'=>h3 ((nQ z 48).mp z'))
 ·rintro⟨⟨h1,h2⟩,h3⟩;refine%[(kI h1).mp h2|?_];rcases h3 with h3 | h3
  ·refine .inr λ e=>?_;rw[(nQ z 48).mpr e]at h3;cases h3
  ·exact .inl h3
theorem int_str {z:Str} (h:isN (Lp z)=true) (hl:z.length<=640):intText? z=some ((NumText.digitsVal (Lp z):Nat):Int) :=
 intText_digits (isN_iff.mp h).1.2 (isN_iff.mp h).1.1 ⋯
def rdT (l:Et Nat):Er Bool:=if l=Lp "turns" then some true else if l=Lp "stays" then some false else none
def rdW:Et (Et Nat)->Er Kd
 | [a,b,c,d,e]=>(rdN a).bind λ w=>(rdN b).bind λ h=>(rdN c).bind λ wo=>(rdN d).bind λ wa=>(rdT e).map λ tu=>%[w,h,wo,wa|tu]
 | _=>none
def rdK (l:Et Nat):Er Kd:=rdW (sp 32 l)
def sdK (k:Kd):Bool:=decide (1<=k.w) && decide (1<=k.h)
def rdG (l:Et Nat):Er Kd:=(rdK l).bind λ k=>if sdK k=true then some k else none
def rdL (ps:Et (Et Nat)):Er (Int×Et Kd):=(rdN (ps.headD [])).bind λ b=>(cU rdG ps.tail).map λ ks=>(b,ks)
def rdS (l:Et Nat):Er (Int×Et Kd) :=
 let ps:=sp 10 l
 if ps.getLast?=some []/\3<=ps.length/\ps.length<=10 then rdL ps.dropLast else none
def Sh (l:Et Nat):Prop:=∀p∈sp 10 l,∀q∈sp 32 p,isN q=true->q.length<=60
theorem dR {ws:Et (Et Nat)} {k:Kd} (h:rdW ws=some k):∃a b c d e,ws=[a,b,c,d,e]/\rdN a=some k.w/\rdN b=some k.h/\rdN c=some k.wo/\rdN d=some k.wa/\rdT e=some k.tu:=by
 unfold rdW at h
 split at h
 ·rename_i a b c d e
  simp only[Option.bind_eq_some_iff,EC]at h;obtain⟨w,h1,hh,h2,wo,h3,wa,h4,tu,h5,rfl⟩:=h;exact%[a,b,c,d,e,U,h1,h2,h3,h4|h5]
 ·cases h
theorem dS {ws:Et (Et Nat)} (h:ws.length≠5):rdW ws=none:=by
 unfold rdW
 split
 ·exact absurd rfl h
 ·rfl
theorem gN {ws:Et (Et Nat)} {i:Nat} {x:Et Nat} (hi:i < 4) (e:ws[i]?=some x) (h:rdN x=none):rdW ws=none:=by
 cases hk:rdW ws with
 | none=>rfl
 | some k=>
  obtain⟨a,b,c,d,f,rfl,h1,h2,h3,h4,_⟩:=dR hk;have:i=0\/i=1\/i=2\/i=3:=⋯
  rcases this with rfl | rfl | rfl | rfl <;> cases e <;> rw[h]at * <;> contradiction
theorem dU {ws:Et (Et Nat)} {x:Et Nat} (e:ws[4]?=some x) (h:rdT x=none):rdW ws=none:=by
 cases hk:rdW ws with
 | none=>rfl
 | some k=>
  obtain⟨a,b,c,d,f,rfl,_,_,_,_,h5⟩:=dR hk;cases e;rw[h]at h5;cases h5
theorem fC {a b c d e:Et Nat} {w h wo wa:Int} {tu:Bool} (h0:rdN a=some w) (h1:rdN b=some h) (h2:rdN c=some wo) (h3:rdN d=some wa) (h4:rdT e=some tu):rdW [a,b,c,d,e]=some %[w,h,wo,wa|tu]:=by simp[rdW,h0,h1,h2,h3,h4]
theorem bR {b:Bool} {A B:Prop} (h:b=true) (a:A):if b=true then A else B:=by rw[h,Ez rfl];exact a
theorem cx {b:Bool} {A B:Prop} (h:b=false) (a:B):if b=true then A else B:=by rw[h,E1 A9];exact a
theorem dj (c:Nat):∀r:Et Nat,sp c (r ++ [c])=sp c r ++ [[]]
 | []=>by simp[sp]
 | x :: r=>by
  have ih:=dj c r;obtain⟨a,t,e⟩:=bF (c:=c) r
  by_cases h:x=c
  ·simp only[EO,sp,Ez h,ih]
  ·simp only[EO,sp,E1 h,ih,e,EO,EW,ET]
theorem kJ (c:Nat):∀l:Et Nat,l≠[]->l.getLast?≠some c->(sp c l).getLast?≠some []
 | [],h,_=>absurd rfl h
 | [x],_,h=>by have hx:x≠c:=λ e=>h (by rw[e];rfl);simp[sp,hx]
 | x :: y :: r,_,h=>by
  have ih:=kJ c (y :: r) (by simp) (by rw[List.getLast?_cons_cons]at h;exact h);obtain⟨a,t,e⟩:=bF (c:=c) (y :: r);have e2:sp c (x :: y :: r)=if x=c then[] :: sp c (y :: r)else(x :: (sp c (y :: r)).headD []) :: (sp c (y :: r)).tail:=rfl
  rw[e]at ih;rw[e2,e]
  by_cases hx:x=c
  ·rw[Ez hx,List.getLast?_cons_cons];exact ih
  ·rw[E1 hx,EW,ET];cases t with
   | nil=>simp
   | cons b t=>rw[List.getLast?_cons_cons]at ih ⊢;exact ih
theorem iA {l:Et Nat} (h:l.getLast?≠some 10):rdS l=none:=by
 unfold rdS;refine E1 λ%[h1,h2|_]=>?_
 by_cases e:l=[]
 ·subst e;simp[sp]at h2
 ·exact kJ 10 l e h h1
theorem pQ (r:Et Nat):rdS (r ++ [10])=if 1<=(sp 10 r).tail.length/\(sp 10 r).tail.length<=8 then rdL (sp 10 r)else none:=by
 obtain⟨a,t,e⟩:=bF (c:=10) r;unfold rdS;simp only[dj,e];have e1:(a :: t ++ [[]]).getLast?=some ([]:Et Nat):=List.getLast?_concat ..;have e2:(a :: t ++ [[]]).dropLast=a :: t:=List.dropLast_concat ..;rw[e1,e2]
 by_cases h:1<=t.length/\t.length<=8
 ·rw[Ez %[rfl,by simp;omega|by simp;omega],Ez (by simpa using h)]
 ·rw[E1 (λ z=>h (by have:=z.2;simp at this;omega)),E1 (by simpa using h)]
theorem iB (z:Str):Txt.endswith z "\n" = true↔(Lp z).getLast?=some 10:=by
 constructor
 ·intro h;unfold Txt.endswith Builtin.Str.subAt at h;rw[EL,FD,show("\n" : Str).length=1 by decide +kernel]at h;obtain⟨h1,h2⟩:=h;have h3:=FI Array.toList (eq_of_beq h2);rw[Array.toList_extract,show("\n" : Str).cps.toList=[10]by decide +kernel]at h3;have hz:=av z;rw[hz]at h3;have e1:(Lp z).drop ((Lp z).length - 1)=[10]:=by rw[List.extract_eq_drop_take]at h3;have:((Lp z).drop ((Lp z).length - 1)).take ((Lp z).length - 1+1 - ((Lp z).length - 1))=[10]:=h3;rw[EK (by rw[EN];omega)]at this;exact this
  have e2:=List.take_append_drop ((Lp z).length - 1) (Lp z);rw[e1]at e2;rw[<- e2];simp
 ·intro h;obtain⟨r,e⟩:∃r,Lp z=r ++ [10]:=by
   rcases Ei (Lp z)with e | ⟨i,x,e⟩
   ·rw[e]at h;cases h
   ·rw[e]at h;simp at h;exact%[i|by rw[e,h];simp]
  have e2:z=mkS r ++ ("\n" : Str):=aR (by rw[e,aU,kB,jj]);rw[e2];exact PySem.W.KT.ends_app _ _
theorem kL:∀ {ps:Et (Et Nat)} {ks:Et Kd},Paired (λ x k=>rdK x=some k) ps ks->(∀k∈ks,sdK k=true)->cU rdG ps=some ks
 | [],[],.nil,_=>rfl
 | p :: ps,k :: ks,.cons h t,hs=>by
  have e:rdG p=some k:=by unfold rdG;rw[h];simp[hs k B5]
  simp only[cU,e,kL t λ k' hk=>hs k' (B1 _ hk),Option.map_some]
theorem lL:∀ {ps:Et (Et Nat)} {ks:Et Kd} {k:Kd},Paired (λ x k=>rdK x=some k) ps ks->k∈ks->sdK k=false->cU rdG ps=none:=by intro ps ks k h hk hs;obtain⟨j,hj⟩:=EZ hk;obtain⟨p,hp,e⟩:=Paired.getL h hj;exact cK (B2 hp) (by unfold rdG;rw[e];simp[hs])
theorem iC {p:Et Nat} (h:rdK p=none):rdG p=none:=by unfold rdG;rw[h];rfl
theorem sv {l:Et Nat} {k:Kd} (h:rdK l=some k) (hs:∀q∈sp 32 l,isN q=true->q.length<=60):Nn k.w/\Nn k.h/\Nn k.wo/\Nn k.wa:=by obtain⟨a,b,c,d,e,ew,h1,h2,h3,h4,_⟩:=dR h;rw[ew]at hs;have g:∀ {x:Et Nat} {n:Int},x∈[a,b,c,d,e]->rdN x=some n->Nn n:=λ {x n} hx hn=>nP hn (hs x hx (dP hn).1);exact%[g (by simp) h1,g (by simp) h2,g (by simp) h3|g (by simp) h4]
theorem kM {k:Kd} (n:Nn k.w/\Nn k.h/\Nn k.wo/\Nn k.wa) (s:sdK k=true):Good k:=by unfold sdK at s;simp only[EL,FD]at s;exact%[s.1,s.2,n.2.2.1.lo,n.2.2.2.lo,n.1.hi,n.2.1.hi,n.2.2.1.hi|n.2.2.2.hi]
theorem sw {k:Kd} (s:sdK k=false):eE (kdV k)=false:=by
 unfold sdK at s;show(decide (1<=k.w) && decide (1<=k.h) && decide (0<=k.wo) && decide (0<=k.wa) && true)=false;rw[s]
 rfl
theorem bT {c:Nat}:∀ {l:Et Nat},c∉l->sp c l=[l]
 | [],_=>rfl
 | x :: r,h=>by have hx:x≠c:=λ e=>h (by rw[e];exact B5);simp[sp,hx,bT (λ z=>h (B1 _ z))]
theorem ci (c:Nat):∀l:Et Nat,∀p∈sp c l,p.length<=l.length
 | [],p,hp=>by simp[sp]at hp;simp[hp]
 | x :: r,p,hp=>by
  have ih:=ci c r;obtain⟨a,t,e⟩:=bF (c:=c) r;rw[e]at ih;simp only[sp,e,EW,ET]at hp;rw[EA]
  split at hp
  ·rcases Dx.mp hp with rfl | hp
   ·simp
   ·have:=ih p hp;omega
  ·rcases Dx.mp hp with rfl | hp
   ·have:=ih a B5;rw[EA];omega
   ·have:=ih p (B1 _ hp);omega
theorem sx {K:C4} {H:Hp} (k:Kd):∀y∈kdV k,∃UU0,Ty K H y UU0:=λ y hy=>by
 simp only[kdV,Dx,EH,FV]at hy;rcases hy with rfl | rfl | rfl | rfl | rfl
 ·exact%[_|Ty.int]
 ·exact%[_|Ty.int]
 ·exact%[_|Ty.int]
 ·exact%[_|Ty.int]
 ·exact%[_|Ty.bl]
theorem pR {k k':Kd} (h:kdV k=kdV k'):k=k':=by
 obtain⟨a,b,c,d,e⟩:=k;obtain⟨a',b',c',d',e'⟩:=k';simp only[kdV,List.cons.injEq,V.int.injEq,V.bl.injEq,and_true]at h;obtain⟨rfl,rfl,rfl,rfl,rfl⟩:=h
 rfl
structure Words (mg:Str->Er Value):Prop where
 t:∃tk,mg "TURNS" = some (.str "turns" tk)
 s:∃tk,mg "STAYS" = some (.str "stays" tk)
 n:∃tk,mg "WORDS_OF_A_KIND" = some (.int 5 tk)
theorem iD:("0" : Str)=%[|#[48]]:=aR ∅
theorem sy:("\n" : Str)=%[|#[10]]:=aR ∅
theorem iE:(" " : Str)=%[|#[32]]:=aR ∅
def kN (NT:Eo):Sp:=λ vs H Q E=>∃z:Str,vs=[.str z]/\(isN (Lp z)=true->z.length<=60)/\(∀n,rdN (Lp z)=some n->Q (.int n) H)/\(rdN (Lp z)=none->E (.ref NT) none H)
def nR (NT:Eo):Sp:=λ vs H Q E=>∃z:Str,vs=[.str z]/\(∀b,rdT (Lp z)=some b->Q (.bl b) H)/\(rdT (Lp z)=none->E (.ref NT) none H)
def nS (NT:Eo):Sp:=λ vs H Q E=>∃z:Str,vs=[.str z]/\z.length < sizeLine/\(∀q∈sp 32 (Lp z),isN q=true->q.length<=60)/\(∀k,rdK (Lp z)=some k->∀v H',TupAt H' v k->Same H H'->Q v H')/\(rdK (Lp z)=none->∀H',Same H H'->E (.ref NT) none H')
section
variable {P:Dl} {w:Do} {K:C4} {mg:Str->Er Dp} {base:Heap}
theorem pT:FnScope ["word"] ["word"] (defScope cr):=%[U,U,U,∅,U,∅|∅]
theorem sD {f NT:Eo} {fd:Dm} (F:Fun K "read_number" "read_number" cr f fd) (mi:mg "int" = none) (mN:mg "NoText" = ↑NT) (eN:ExcC K NT):FnOk P w K mg base (CXx P w) 1 f fd ["word"] (kN NT):=by
 refine F.okX pT (λ vs H Q E h=>?_) (λ cdv A outer s H vs Q E hr h=>?_)
 ·obtain⟨n,rfl,_⟩:=h
  rfl
 obtain⟨z,rfl,hl,qT,qE⟩:=h;refine⟨_,ah (aI (PW.pt (bU (bE (bo (mO E3 PySem.F.slot_str_isascii PySem.F.type_str_isascii jf (pv 0)))) (ce (bE (bo (mO E3 PySem.F.slot_str_isdigit PySem.F.type_str_isdigit jg (pv 0))))))) (aj (bO (R:=λ c H=>E c none H) rfl rfl mN eN (ae ap af) bt)) au)
  (ah (aI (PW.pt (iL (bo (bW E3 PySem.F.slot_str_startswith PySem.F.type_str_startswith fK (pv 0) (ae ap af))) (gh (aq dC (pv 0) ap (ax _))))) (aj (bO (R:=λ c H=>E c none H) rfl rfl mN eN (ae ap af) bt)) au)
  (aj (ar (bg dn rfl mi FG (ae (pv 0) af))))),?_⟩
 have eN':=pP z;refine%[_,U,U,_,U,U,_,U|?_];cases ha:Txt.isascii z with
 | false=>exact aT (aT %[zS1|qE (dy (by rw[eN',ha];rfl))])
 | true=>
 refine aS %[_,rfl,rfl,_,rfl,rfl,_,rfl|?_];cases hd:Txt.isdigit z with
 | false=>exact aT %[zS1|qE (dy (by rw[eN',ha,hd];rfl))]
 | true=>
 refine aS %[_,rfl,rfl,_,_,rfl,rfl,_,rfl|?_];rw[iD];cases hs:Txt.startswith z %[|#[48]]with
 | false=>
  have e:isN (Lp z)=true:=by rw[eN',ha,hd,hs];rfl
  exact aS (aS %[_,rfl,_,_,rfl,int_str e (by have:=hl e;omega),(by have:=hl e;omega)|qT _ (by unfold rdN;rw[e,Ez rfl])])
 | true=>
  refine aT %[_,rfl,rfl,_,rfl|?_]
  by_cases c:z=%[|#[48]]
  ·have e:isN (Lp z)=true:=by rw[eN',ha,hd,hs,iD,E5 (by simpa using c)];rfl
   rw[show decide (V.str z=V.str %[|#[48]])=true from E2 (by rw[c])];exact aS %[_,rfl,_,_,rfl,int_str e (by have:=hl e;omega),(by have:=hl e;omega)|qT _ (by unfold rdN;rw[e,Ez rfl])]
  ·rw[show decide (V.str z=V.str %[|#[48]])=false from E5 λ q=>c (V.str.inj q)];exact aT %[zS1|qE (dy (by rw[eN',ha,hd,hs,iD,E2 c];rfl))]
theorem pU:FnScope ["word"] ["word"] (defScope cR):=%[U,U,U,∅,U,∅|∅]
theorem sE {f NT:Eo} {fd:Dm} (F:Fun K "read_turns" "read_turns" cR f fd) (W:Words mg) (mN:mg "NoText" = ↑NT) (eN:ExcC K NT):FnOk P w K mg base (CXx P w) 1 f fd ["word"] (nR NT):=by
 refine F.okX pU (λ vs H Q E h=>?_) (λ cdv A outer s H vs Q E hr h=>?_)
 ·obtain⟨n,rfl,_⟩:=h
  rfl
 obtain⟨z,rfl,qT,qE⟩:=h;obtain⟨t1,hT⟩:=W.t;obtain⟨t2,hS⟩:=W.s;refine⟨_,ah (aI (PW.pt (iL (aq dC (pv 0) (aP (v:=.str "turns") rfl hT %[t1|U]) (ax _)) (gh (aq dC (pv 0) (aP (v:=.str "stays") rfl hS %[t2|U]) (ax _))))) (aj (bO (R:=λ c H=>E c none H) rfl rfl mN eN (ae ap af) bt)) au)
  (aj (ar (cm bV (pv 0) (aP (v:=.str "turns") rfl hT %[t1|rfl]) (ax _)))),?_⟩
 have d1:decide (V.str "stays" = V.str "turns")=false:=∅
 refine%[_,U,U,_,U|?_]
 by_cases c1:Lp z=Lp "turns"
 ·have e:=aR c1;subst e;rw[show decide (V.str ("turns" : Str)=V.str "turns")=true from E2 rfl];refine aS (aS %[_,rfl,rfl|?_]);rw[show decide (V.str ("turns" : Str)=V.str "turns")=true from E2 rfl];exact qT _ (Ez rfl)
 rw[show decide (V.str z=V.str "turns")=false from E5 λ q=>c1 (by rw[V.str.inj q])];refine aT %[_,rfl,rfl,_,rfl|?_]
 by_cases c2:Lp z=Lp "stays"
 ·have e:=aR c2;subst e;rw[show decide (V.str ("stays" : Str)=V.str "stays")=true from E2 rfl];refine aS %[_,rfl,rfl|?_];rw[d1];exact qT _ (by unfold rdT;rw[E1 c1,Ez rfl])
 rw[show decide (V.str z=V.str "stays")=false from E5 λ q=>c2 (by rw[V.str.inj q])];exact aT %[zS1|qE (by unfold rdT;rw[E1 c1,E1 c2])]
theorem scReadK:FnScope ["line","words","wide","high","worth","wanted"] ["line"] (defScope cH):=%[U,U,U,∅,U,∅|∅]
theorem sG {f NT:Eo} {fd:Dm} (F:Fun K "read_kind" "read_kind" cH f fd) (W:Words mg) (ml:mg "len" = none) (mN:mg "NoText" = ↑NT) (eN:ExcC K NT) (DN:DnX P w K mg base "read_number" ["word"] 1 (kN NT)) (DT:DnX P w K mg base "read_turns" ["word"] 1 (nR NT)) :
  FnOk P w K mg base (CXx P w) 2 f fd ["line"] (nS NT):=by
 refine F.okX scReadK (λ vs H Q E h=>?_) (λ cdv A outer s H vs Q E hr h=>?_)
 ·obtain⟨k,rfl,_⟩:=h
  rfl
 obtain⟨z,rfl,zl,hsh,qT,qE⟩:=h;have nd:=scReadK.nd;obtain⟨tk,hW⟩:=W.n;have sl:(100000:Nat) < sizeLine:=∅
 refine%[_,((@aA _ _ 1 _ _ _ _ nd U (Or.inl U) (@bW _ _ _ _ _ _ _ _ _ _ _ _ E3 FB FC bI (pv 0) (ap^^^af) U U U U U) U (Or.inr U))<<<((((@az _ _ _ _ _ _ _ _ _ aH U ml E9 ((pv 1)^^^af) ∅ ∅ U U)<*>dC<*>(aP (v:=.int 5) U hW %[tk|U]))<|>(aj (bO (R:=λ c H=>E c none H) U U mN eN (ae ap af) bt))<|>au)<<<((@cX _ _ _ _ _ _ (nG (own:=["word"]) (cs:=[]) (cap:=[]) U (ck (@aO _ _ _ _ _ _ _ _ _ _ bK (pv 1) bi (aW ai))) (bj (sc:=defScope cH) (N:=["line","words","wide","high","worth","wanted"]) U U ∅) (λ _ _ _ _ _=>aB (i:=0) (by show List.Nodup (["word"]:Et Str) ;decide +kernel) U (Or.inl U) (Or.inr U)) (λ _ _ _ _ _=>bL) (λ _ _ _ _ _=>gG DN hr U ((pv 0)^^^af))) (mS U (2•(3•(4•(5•eJ))))) U U U)<<<((@cg _ _ _ _ _ ((pv 2)^^^((pv 3)^^^((pv 4)^^^((pv 5)^^^((nF (gG DT hr U (ae (aZ aE (pv 1) ai (λ _ _=>U)) af)))^^^af))))))⁻¹))))|?_];have eS:=bC z 32;have ll:=dw 32 (Lp z);refine%[_,U,U,z,32,U,by rw[iE],zl|λ l hl=>?_];rw[eS];have eK:rdK (Lp z)=rdW (sp 32 (Lp z)):=rfl;rw[eK]at qT qE;generalize sp 32 (Lp z)=ws at *;clear eK eS;generalize hH:upd H l _=H1;have s1:Same H H1:=by subst hH;exact Dq hl
 have k1:H1 l=↥((ws.map mkS).map V.str):=by subst hH;exact ag
 clear hH;refine%[_,U,l,_,U,.inl (Ds k1),U,_,U|?_]
 by_cases h5:ws.length=5
 ·obtain⟨a,b,c,d,e,rfl⟩:∃a b c d e,ws=[a,b,c,d,e]:=by
   match ws,h5 with
   | [a,b,c,d,e],_=>exact%[a,b,c,d,e|U]
  refine aS ?_;refine%[_,U,4,U,l,_,U,Ds k1|λ p hp=>?_];rw[show cy (([a,b,c,d,e].map mkS).map V.str) none (some (4:Int))=([a,b,c,d].map mkS).map V.str from cC _ 4];generalize hH:upd H1 p _=H2;have s2:Same H1 H2:=by subst hH;exact Dq hp
  have k2:H2 p=↥(([a,b,c,d].map mkS).map V.str):=by subst hH;exact ag
  clear hH;refine%[p,U,%[_|Ds k2]|(bN (K:=K) (.inl k2) (λ i ys H'=>Paired (λ v l=>∃n,rdN l=some n/\v=V.int n) ys ([a,b,c,d].take i)/\Same H2 H') (λ i ys H' _ ⟨_,s'⟩ o e=>s' _ _ e) %[.nil|Same.refl _] ?_ ?_).1 k2]
  ·rintro i y ys H' hi ⟨py,s'⟩;rw[Dz,Dz]at hi;obtain⟨_,hz,rfl⟩:=EC.mp hi;obtain⟨x,hx,rfl⟩:=EC.mp hz;have hin:i < 4:=(A3.mp hx).1;have yl:=DA py;rw[EF]at yl;have hx5:[a,b,c,d,e][i]?=some x:=by
    match i,hin,hx with
    | 0,_,hx=>exact hx
    | 1,_,hx=>exact hx
    | 2,_,hx=>exact hx
    | 3,_,hx=>exact hx
   refine%[by simp at yl;omega,leS.set rfl|bM ?_];refine%[_,U,mkS x,U,λ z=>by rw[av];exact hsh x (B2 hx5) z,λ n hn=>Nx.of hin %[?_|s']|λ hn=>qE (gN hin hx5 hn) _ ((s1.trans s2).trans s')];rw[EJ,hx];exact FW py %[n,hn|rfl]
  ·rintro ys H' ⟨py,s'⟩;cases py with
   | @cons v0 _ ys0 _ p0 py=>
   cases py with
   | @cons v1 _ ys1 _ p1 py=>
   cases py with
   | @cons v2 _ ys2 _ p2 py=>
   cases py with
   | @cons v3 _ ys3 _ p3 py=>
   cases py;obtain⟨n0,r0,rfl⟩:=p0;obtain⟨n1,r1,rfl⟩:=p1;obtain⟨n2,r2,rfl⟩:=p2;obtain⟨n3,r3,rfl⟩:=p3;refine%[by show 4<=sizeLine;decide|λ p2 hp2=>?_];generalize hH:upd H' p2 _=H3;have s3:Same H2 H3:=by subst hH;exact s'.trans (Dq hp2)
   have k3:H3 p2=↥[V.int n0,.int n1,.int n2,.int n3]:=by subst hH;exact ag
   clear hH;have sa:=(s1.trans s2).trans s3;refine%[p2,_,U,.inl (Ds k3),U,_,_,U,_,_,U,_,_,U,_,_,U,U|?_];refine%[_,U,_,U,_,U,_,U,_,U,l,_,4,_,U,U,Ds (s3 _ _ (s2 _ _ k1)),U,mkS e,U,λ tu ht=>%[zS5|λ t ht'=>?_]|λ ht=>qE (dU rfl ht) _ sa];exact qT %[n0,n1,n2,n3|tu] (fC r0 r1 r2 r3 ht) _ _ %[t,rfl|ag] (sa.trans (Dq ht'))
 ·exact bR (by simp;omega) %[zS1|qE (dS h5) _ s1]
end
def gc (K:C4) (C NT:Eo):Sp:=λ vs H Q E=>∃v,vs=[v]/\((∃T,Ty K H v T/\T ≠ "str" /\ ∀H',Same H H'->E (.ref NT) none H')\/∃z,v=.str z/\z.length < sizeLine/\Sh (Lp z) /\
 (∀b ks,rdS (Lp z)=some (b,ks)->(∀k∈ks,Good k)->Nn b->∀x H',H x=none->gy C H' x b ks->Same H H'->Q (.ref x) H')/\(rdS (Lp z)=none->∀H',Same H H'->E (.ref NT) none H'))
structure Two (K:C4) (A B:Eo):Prop where
 aa:PySem.W.exmOne K (.ref A) (.ref A)=some true
 ab:∃b,PySem.W.exmOne K (.ref A) (.ref B)=some b
 ba:∃b,PySem.W.exmOne K (.ref B) (.ref A)=some b
 bb:PySem.W.exmOne K (.ref B) (.ref B)=some true
theorem Two.a {K:C4} {A B:Eo} (t:Two K A B):PySem.W.exmAny K (.ref A) [.ref A,.ref B]=some true:=by obtain⟨b,e⟩:=t.ab;simp only[PySem.W.exmAny,t.aa,e,Bool.true_or]
theorem Two.b {K:C4} {A B:Eo} (t:Two K A B):PySem.W.exmAny K (.ref B) [.ref A,.ref B]=some true:=by obtain⟨b,e⟩:=t.ba;simp only[PySem.W.exmAny,t.bb,e,Bool.or_false,Bool.or_true]
theorem lM {H:Hp} {x dx C:Eo} (h1:H x=none) (h2:H dx=none):Same H (upd (upd H dx (.own x)) x (.ins C dx [])):=λ c o e=>by rw[ao (ak e h1),ao (ak e h2)];exact e
theorem lN (xs:Et V) (z:V):cy (xs ++ [z]) none (some (-1))=xs:=by
 unfold cy HT.sIx;simp;rw[show(-1+((xs.length:Int)+1)).toNat=xs.length by omega,List.take_left']
 rfl
section
variable {P:Dl} {w:Do} {K:C4} {mg:Str->Er Dp} {base:Heap}
theorem scReadS:FnScope ["text","lines","blade","kinds"] ["text"] (defScope cI):=%[U,U,U,∅,U,∅|∅]
theorem sH {f C NT NB NKs NK:Eo} {fd:Dm} (F:Fun K "read_shop" "read_shop" cI f fd) (mi:mg "isinstance" = none) (mst:mg "str" = none) (mN:mg "NoText" = ↑NT) (eN:ExcC K NT) (m2:mg "NoKinds" = ↑NKs) (m3:mg "NoKind" = ↑NK) (tw:Two K NKs NK) (DN:DnX P w K mg base "read_number" ["word"] 1 (kN NT)) (DK:DnX P w K mg base "read_kind" ["line"] 2 (nS NT))
  (DS:KnX P w K mg base "Shop" C ["self","blade","kinds"] 3 (spInitX K C NB NKs NK)):FnOk P w K mg base (CXy P w) 5 f fd ["text"] (gc K C NT):=by
 refine F.okY scReadS (λ vs H Q E h=>?_) (λ cdv A outer s H vs Q E hr h=>?_)
 ·obtain⟨v,rfl,_⟩:=h
  rfl
 obtain⟨v,rfl,h⟩:=h;have hr1:=hr.mono (show 1<=4 by decide);have hr2:=hr.mono (show 2<=4 by decide);have nd:=scReadS.nd;refine%[_,((PS.toY ((PW.pt (bU (@bE _ _ _ _ (@bo _ _ _ (@az _ _ _ _ _ _ _ _ _ cq U mi E7 ((pv 0)^^^((cN (v:=.ty "str") U mst PyProof.Rows.boot_str U)^^^af)) ∅ ∅ U U) (by intro _;rfl))) (ce (@bE _ _ _ _ (@bo _ _ _ (@bW _ _ _ _ _ _ _ _ _ _ _ _ E3 PySem.F.slot_str_endswith PySem.F.type_str_endswith ij (pv 0) (ap^^^af) U U U U U) (by intro _;rfl))))))<|>(aj (bO (R:=λ c H=>E c none H) U U mN eN (ae ap af) bt))<|>au))<<<((@aA _ _ 1 _ _ _ _ nd U (Or.inl U) (@aO _ _ _ _ _ _ _ _ _ _ bK (@bW _ _ _ _ _ _ _ _ _ _ _ _ E3 FB FC bI (pv 0) (ap^^^af) U U U U U) bi (aW (@jV _ _ _ _ _ _ gl ai))) U (Or.inr U))<<<((PS.toY (@aA _ _ 2 _ _ _ _ nd U (Or.inl U) (nF (gG DN hr1 U (ae (aZ aE (pv 1) ai (λ _ _=>U)) af))) U (Or.inr U)))<<<((PS.toY (ny (i:=3) (own:=["line"]) (cs:=[]) (cap:=[]) U nd U U U (ck (@aO _ _ _ _ _ _ _ _ _ _ bK (pv 1) (aW ai) bi)) (bj (sc:=defScope cI) (N:=["text","lines","blade","kinds"]) U U ∅) (λ _ _ _ _ _=>aB (i:=0) (by show List.Nodup (["line"]:Et Str) ;decide +kernel) U (Or.inl U) (Or.inr U)) (λ _ _ _ _ _=>bL) (λ _ _ _ _ _=>gG DK hr2 U ((pv 0)^^^af))))>>>(pC (rQ DS hr U ((pv 2)^^^((pv 3)^^^af))) U m2 U m3 U mN eN)))))|?_];rcases h with⟨T,ty,nT,qE⟩ | ⟨z,rfl,zl,hsh,qT,qE⟩
 ·refine%[_,U,v,_,_,_,_,U,ty.2,U,ki T ty.1,_,U|?_];rw[show(T == "str")=false from FL.mpr nT];exact aT (aT %[zS1|qE _ (Same.refl _)])
 refine%[_,U,.str z,_,_,_,_,U,(Ty.str (K:=K) (H:=H)).2,U,ki "str" (by simp[aL]),_,U|aS ?_];refine%[_,U,U,_,_,U,U,_,U|?_];cases he:Txt.endswith z "
" with
 | false=>exact aT %[zS1|qE (iA λ q=>by rw[(iB z).mpr q]at he;cases he) _ (Same.refl _)]
 | true=>
 refine aS ?_;obtain⟨r,er⟩:∃r,Lp z=r ++ [10]:=by
  have h:=(iB z).mp he;rcases Ei (Lp z)with e | ⟨i,x,e⟩
  ·rw[e]at h;cases h
  ·rw[e]at h;simp at h;exact%[i|by rw[e,h];simp]
 have zL:=av z;have sl:=dw 10 r;rw[er,Dw,Ed]at zL;rw[er,pQ]at qT qE;have hsh1:∀p∈sp 10 r,∀q∈sp 32 p,isN q=true->q.length<=60:=λ p hp=>by unfold Sh at hsh;rw[er,dj]at hsh;exact hsh p (B3 _ hp)
 have fr:∀p∈sp 10 r,10∉p:=eV 10 r;have lp:∀p∈sp 10 r,p.length<=r.length:=ci 10 r;obtain⟨a,t,es⟩:=bF (c:=10) r;refine%[_,U,U,z,10,U,by rw[sy],zl|λ l0 hl0=>?_];rw[bC,er,dj];rw[es]at qT qE hsh1 fr lp sl ⊢;generalize hH:upd H l0 _=H1;have s1:Same H H1:=by subst hH;exact Dq hl0
 have k1:H1 l0=↥(((a :: t).map mkS).map V.str ++ [.str (mkS [])]):=by subst hH;rw[ag,EB,EB];rfl
 clear hH;refine%[_,U,-1,U,l0,_,U,Ds k1|λ l hl=>?_];rw[lN];have s2:Same H1 (upd H1 l (.lst (((a :: t).map mkS).map V.str))):=Dq hl;have k2:(upd H1 l (.lst (((a :: t).map mkS).map V.str))) l=↥(((a :: t).map mkS).map V.str):=ag;generalize upd H1 l (.lst (((a :: t).map mkS).map V.str))=H2 at s2 k2 ⊢;have s12:=s1.trans s2;have hn60:isN a=true->a.length<=60:=λ h=>by
  have nb:32∉a:=λ z=>by have:=(isN_iff.mp h).1.2 32 z;omega
  have:=hsh1 a B5 a (by rw[show sp 32 a=[a]from bT nb];exact B5) h;exact this
 refine%[_,U,l,_,0,_,U,U,Ds k2,eM (j:=0) (xs:=((a :: t).map mkS).map V.str) (v:=.str (mkS a)) rfl,mkS a,U,λ z=>by rw[av];exact hn60 z,λ b hb=>?_|λ hb=>qE (by split <;> first | (unfold rdL;rw[EW,show rdN a=none from hb];rfl) | rfl) _ s12];have nb:Nn b:=nP hb (hn60 (dP hb).1);refine%[_,U,1,U,l,_,U,Ds k2|λ p hp=>?_];rw[show cy (((a :: t).map mkS).map V.str) (some (1:Int)) none=(t.map mkS).map V.str from eo _ 1];have s3:Same H2 (upd H2 p (.lst ((t.map mkS).map V.str))):=Dq hp;have k3:(upd H2 p (.lst ((t.map mkS).map V.str))) p=↥((t.map mkS).map V.str):=ag;generalize upd H2 p (.lst ((t.map mkS).map V.str))=H3 at s3 k3 ⊢;have s13:=s12.trans s3;have tl:t.length < sizeLine:=by simp at sl;omega
 refine%[p,U,%[_|Ds k3]|(bN (K:=K) (.inl k3) (λ i ys H'=>∃ks,Tups H' ys ks/\Paired (λ x k=>rdK x=some k) (t.take i) ks/\Same H3 H') (λ i ys H' _ ⟨_,_,_,s'⟩ o e=>s' _ _ e) %[[],.nil,.nil|Same.refl _] ?_ ?_).1 k3]
 ·rintro i y ys H' hi ⟨ks,ty,pk,s'⟩;rw[Dz,Dz]at hi;obtain⟨_,hz,rfl⟩:=EC.mp hi;obtain⟨x,hx,rfl⟩:=EC.mp hz;have hin:i < t.length:=(A3.mp hx).1;have yl:=DA ty;have kl:=DA pk;rw[EF]at kl;have xm:=B1 a (B2 hx);refine%[⋯,leS.set rfl|bM ?_];refine%[_,U,mkS x,U,?_,hsh1 x xm,λ k hk v H4 hv s4=>Nx.of (by rw[Dv,Dv];exact hin) %[ks ++ [k],?_,?_|s'.trans s4]|λ hk H4 s4=>qE ?_ _ (s13.trans (s'.trans s4))]
  ·rw[av];have:=lp x xm;show x.length < _;omega
  ·exact FW (Tups.keep (λ c z e=>s4 _ _ e) ty) hv
  ·rw[EJ,hx];exact FW pk hk
  ·split
   ·unfold rdL;rw[EW,ET,cK (B2 hx) (iC hk)];cases rdN a <;> rfl
   ·rfl
 ·rintro ys H' ⟨ks,ty,pk,s'⟩;rw[show((t.map mkS).map V.str).length=t.length by rw[Dv,Dv],EX]at pk;have yl:=DA ty;have kl:=DA pk;refine%[⋯|λ p2 hp2=>?_];have s4:Same H' (upd H' p2 (.lst ys)):=Dq hp2;have k4:(upd H' p2 (.lst ys)) p2=↥ys:=ag;generalize upd H' p2 (.lst ys)=H4 at s4 k4 ⊢;have t4:Tups H4 ys ks:=Tups.keep (λ c z e=>s4 _ _ e) ty;have s14:=s13.trans (s'.trans s4);refine%[_,U,_,U|λ x dx hx hdx ne=>?_];have sm:Same H4 (upd (upd H4 dx (.own x)) x (.ins C dx [])):=lM hx hdx;have tS:Tups (upd (upd H4 dx (.own x)) x (.ins C dx [])) ys ks:=Tups.keep (λ c z e=>sm _ _ e) t4;have nks:∀k∈ks,Nn k.w/\Nn k.h/\Nn k.wo/\Nn k.wa:=λ k hk=>by obtain⟨j,hj⟩:=EZ hk;obtain⟨q,hq,e⟩:=Paired.getL pk hj;exact sv e (hsh1 q (B1 _ (B2 hq)))
  refine%[x,dx,.int b,.ref p2,U,ag,%[_|Ty.int]|.inr %[b,U,nb.lo|?_]]
  by_cases h8:1<=t.length/\t.length<=8
  ·by_cases hsd:∀k∈ks,sdK k=true
   ·have gk:∀k∈ks,Good k:=λ k hk=>kM (nks k hk) (hsd k hk);refine .inr (.inr (.inr %[p2,ys,ks,U,.inl (sm _ _ k4),Dt tS (λ v k h=>.inl h),gk,⋯,⋯|λ H5 S5 k5=>%[U|?_]]));have s5:Same H4 H5:=λ c o e=>k5 c o (ak e hx) (sm _ _ e);refine qT b ks ?_ gk nb x H5 (s14.free hx) S5 (s14.trans s5);rw[ET,Ez h8];unfold rdL;rw[EW,ET,kL pk hsd,show rdN a=some b from hb]
    rfl
   ·obtain⟨k,hk,hs⟩:∃k∈ks,sdK k=false:=by
     rcases Classical.em (∃k∈ks,sdK k=false)with h | h
     ·exact h
     ·exact absurd (λ k hk=>by cases e:sdK k with | true=>rfl | false=>exact absurd %[k,hk|e] h) hsd
    have bd:∀z∈ys,gM (upd (upd H4 dx (.own x)) x (.ins C dx [])) z\/BadAt K (upd (upd H4 dx (.own x)) x (.ins C dx [])) z:=λ z hz=>by
     obtain⟨j,hj⟩:=EZ hz;obtain⟨k,hk,a,rfl,ha⟩:=Du tS hj;have km:=B2 hk;cases e:sdK k with
     | true=>exact .inl %[k,.inl %[a,U|ha]|kM (nks k km) e]
     | false=>exact .inr (.inr %[a,_,U,.inr ha,sx k|sw e])
    obtain⟨j,hj⟩:=EZ hk;obtain⟨z,hz,a7,rfl,ha⟩:=Paired.getL tS hj;refine .inr (.inr (.inl %[p2,ys,U,.inl (sm _ _ k4),⋯,⋯,bd,%[.ref a7,B2 hz|?_]|λ H5 s5=>%[tw.b|qE ?_ _ (s14.trans (sm.trans s5))]]))
    ·rintro⟨k',h1 | h1,g⟩
     ·obtain⟨a8,e8,h8⟩:=h1;cases e8;rw[ha]at h8;have:=pR (HO.tup.inj (B6 h8));subst this;have:=g.w;have:=g.h;unfold sdK at hs;simp at hs;omega
     ·obtain⟨a8,e8,h8⟩:=h1;cases e8;rw[ha]at h8;cases h8
    ·rw[ET,Ez h8];unfold rdL;rw[EW,ET,lL pk hk hs];cases rdN a <;> rfl
  ·refine .inr (.inl %[p2,ys,U,.inl (sm _ _ k4),⋯|λ H5 s5=>%[tw.a|qE ?_ _ (s14.trans (sm.trans s5))]]);exact E1 h8
end
def tx (ls:Et Str):Str:=mkS ((ls.map λ x=>Lp x ++ [10]).flatten)
theorem pV (ls:Et Str):Txt.join "" (ls.map λ z=>z ++ ("\n" : Str))=tx ls:=by refine aR ?_;unfold Txt.join;rw[FQ,show("" : Str)=%[|#[]]by decide +kernel,ig,En];show _=(ls.map λ x=>Lp x ++ [10]).flatten;congr 1;refine List.map_congr_left λ z _=>?_;show Lp (z ++ ("\n" : Str))=_;rw[aU,kB]
theorem nU {m:Nat}:∀ls:Et Str,(∀x∈ls,x.length<=m)->(List.map (λ x:Str=>x.length) (ls.map λ z=>z ++ ("\n" : Str))).sum<=ls.length * (m+1)
 | [],_=>DG _
 | x :: r,h=>by have ih:=nU r λ y hy=>h y (B1 _ hy);have hx:=h x B5;simp only[EG,List.sum_cons,EA,aM,fu]at ih ⊢;rw[Nat.succ_mul];omega
theorem Room.units220 {k:Nat} {A:Around} (r:Room k A) (h:2<=k):A.units+220 < cLine:=by have:=r.un;omega
theorem sI {c:Nat} (h:c < 128):(Builtin.Str.occurrences ("0123456789" : Str) %[|#[c]] 0 ("0123456789" : Str).length 1).isEmpty=!dgt c:=by
 have:∀c:Fin 128,(Builtin.Str.occurrences ("0123456789" : Str) %[|#[c.val]] 0 ("0123456789" : Str).length 1).isEmpty=!dgt c.val:=∅
 exact this %[c|h]
theorem okS {x:Str} (h:∀c∈Lp x,c < 128):PyData.strOk x=true:=by unfold PyData.strOk;rw[<- Array.all_toList,Eg];intro c hc;have:=h c hc;simp;omega
theorem qY {K:C4} {H:Hp}:∀ls:Et Str,(∀x∈ls,∀c∈Lp x,c < 128)->DatVs K H (ls.map V.str) (ls.map PyData.str)/\PyData.canLayAll0 (ls.map PyData.str)=true/\PyData.depthAll (ls.map PyData.str)<=1
 | [],_=>%[.nil,U|DG _]
 | x :: r,ho=>by
  obtain⟨h1,h2,h3⟩:=qY (K:=K) (H:=H) r λ y hy=>ho y (B1 _ hy);refine%[.cons (.str x) h1,?_|?_]
  ·simp[PyData.canLayAll0,PyData.canLay0,h2,okS (ho x B5)]
  ·simp only[EG,PyData.depthAll,PyData.depth];omega
theorem kO {K:C4} {H:Hp} {a e:Eo} {ls:Et Str} {Q:VK} (ho:∀x∈ls,∀c∈Lp x,c < 128) (ha:H a=↥(ls.map V.str)) (he:H e=↥[]) (q:Q (.bl (decide (ls≠[]))) H):rz_op_neN K (.ref a) (.ref e) H Q:=by
 obtain⟨h1,h2,h3⟩:=qY (K:=K) (H:=H) ls ho;refine%[.list (ls.map PyData.str),.list [],.lst (Ds ha) h1,.lst (Ds he) .nil,by simp[PyData.canLay0,h2],U,?_|?_]
 ·show PyData.depthAll _+1<=210;omega
 ·cases ls with
  | nil=>exact q
  | cons x r=>exact q
def opI:Er Int->V
 | none=>.non
 | some n=>.int n
section
variable {P:Dl} {w:Do} {K:C4} {mg:Str->Er Dp} {base:Heap}
def pW:Sp:=λ vs H Q _=>∃ (l:Eo) (ls:Et Str),vs=[.ref l]/\H l=↥(ls.map V.str)/\ls.length<=30/\(∀x∈ls,x.length<=5000)/\∀H',Same H H'->Q (.str (tx ls)) H'
def pX:Sp:=λ vs H Q _=>∃z:Str,vs=[.str z]/\(∀c∈Lp z,c < 128)/\z.length<=100000/\(isN (Lp z)=true->z.length<=60)/\∀H',Same H H'->Q (opI (rdN (Lp z))) H'
theorem sctx:FnScope ["_law_lines_here"] ["_law_lines_here"] (defScope ix):=%[U,U,U,∅,U,∅|∅]
theorem xB {f:Eo} {fd:Dm} (F:Fun K "_law_text" "_law_text" ix f fd) (B:Blt mg):FnOk P w K mg base CX0 1 f fd ["_law_lines_here"] (pW):=by
 refine F.ok sctx (λ vs H Q E h=>?_) (λ cdv A outer s H vs Q E hr h=>?_)
 ·obtain⟨l,ls,rfl,_⟩:=h
  rfl
 obtain⟨l,ls,rfl,hl,ln,hm,q⟩:=h;have nd:=sctx.nd;refine%[_,((@bW _ _ _ _ _ _ _ _ _ _ _ _ E3 PySem.F.slot_str_join PySem.F.type_str_join eU ap ((dH (own:=["_law_line"]) (cs:=[]) (cap:=[]) U (ck (pv 0)) (bj (sc:=defScope ix) (N:=["_law_lines_here"]) U U ∅) (λ _ _ _ _ _=>aB (i:=0) (by show List.Nodup (["_law_line"]:Et Str) ;decide +kernel) U (Or.inl U) (Or.inr U)) (λ _ _ _ _ _=>bL) (λ _ _ _ _ _=>((pv 0)|||aD|||ap)))^^^af) U U U U U)⁻¹)|?_];have sz:(1000000:Nat) < sizeLine:=∅
 refine%[U,_,U,l,U,%[_|Ds hl]|(bN (K:=K) (.inl hl) (λ i ys H'=>ys=((ls.take i).map λ z=>V.str (z ++ ("\n" : Str)))/\Same H H') (λ i ys H' _ ⟨_,s'⟩ o e=>s' _ _ e) %[U|Same.refl _] ?_ ?_).1 hl]
 ·rintro i y ys H' hi ⟨rfl,s'⟩;rw[Dz]at hi;obtain⟨z,hz,rfl⟩:=EC.mp hi;have hin:i < ls.length:=(A3.mp hz).1;have zl:=hm z (B2 hz);refine%[by rw[Dv,EF];omega,leS.set rfl|bM ?_];refine%[_,U,z,_,U,U,(by rw[fu];omega)|?_];refine Nx.of (by rw[Dv];exact hin) %[?_|s'];rw[EJ,hz,EB]
  rfl
 ·rintro ys H' ⟨rfl,s'⟩;rw[show(List.map V.str ls).length=ls.length from Dv _,EX];refine%[by rw[Dv];omega|λ p2 hp2=>?_];have sm:=nU ls hm;refine%["",p2,ls.map λ z=>z ++ ("\n" : Str),U,U,(by rw[ag,En];rfl),∅,?_|?_]
  ·rw[Dv];have:ls.length * (5000+1)<=30 * 5001:=Ea _ ln;omega
  ·rw[pV];exact q _ (s'.trans (Dq hp2))
theorem scno:FnScope ["_law_word"] ["_law_word"] (defScope cJ):=%[U,U,U,∅,U,∅|∅]
theorem xC {f:Eo} {fd:Dm} (F:Fun K "_law_number_of" "_law_number_of" cJ f fd) (B:Blt mg):FnOk P w K mg base CX0 3 f fd ["_law_word"] (pX):=by
 refine F.ok scno (λ vs H Q E h=>?_) (λ cdv A outer s H vs Q E hr h=>?_)
 ·obtain⟨z,rfl,_⟩:=h
  rfl
 obtain⟨z,rfl,za,zl,h60,q⟩:=h;have nd:=scno.nd;have hu:=Room.units220 hr ∅;refine%[_,(((PW.pt (bU ((pv 0)<*>bV<*>ap) (bU ((dH (own:=["_law_sign"]) (cs:=[]) (cap:=[]) U (rY (pv 0)) (bj (sc:=defScope cJ) (N:=["_law_word"]) U U ∅) (λ _ _ _ _ _=>aB (i:=0) (by show List.Nodup (["_law_sign"]:Et Str) ;decide +kernel) U (Or.inl U) (Or.inr U)) (λ _ _ _ _ _=>(hJ (@aq _ _ _ _ _ _ _ _ gm (pv 0) ap U))) (λ _ _ _ _ _=>(pv 0)))<*>(ji hu)<*>(@bn _ _ _ _ af)) (ce (PW.pt (iL (((pv 0)&&&mL&&&ai)<*>bV<*>ap) (gh ((pv 0)<*>dC<*>ap))))))))<|>(cc⁻¹)<|>au)<<<((@bg _ _ _ _ _ _ _ _ _ dn U B.int FG ((pv 0)^^^af) ∅ ∅ U U)⁻¹))|?_];have sz:(1000000:Nat) < sizeLine:=∅
 have zL:=av z;refine%[_,U,U,_,U|?_]
 by_cases z0:Lp z=[]
 ·have e:z = "" := aR (by rw[z0];exact Lp_no.symm);subst e;rw[show decide (V.str ("" : Str)=V.str "")=true from E2 rfl];exact aT (aT (by have:=q H (Same.refl _);rw[z0]at this;exact this))
 rw[show decide (V.str z=V.str "")=false from E5 λ e=>z0 (by rw[V.str.inj e];exact Lp_no)];refine aS ?_;refine%[_,U,z,U,?_|nA (λ i ys H'=>∃ls,ys=ls.map V.str/\ls.length<=i/\(ls=[]↔∀c∈(Lp z).take i,dgt c=true)/\(∀x∈ls,∀c∈Lp x,c < 128)/\Same H H') %[[],U,B0 _,by simp,λ x hx=>absurd hx (by simp)|Same.refl _] ?_ ?_]
 ·rw[<- Array.all_toList,Eg];exactλ c hc=>A7 (za c hc)
 ·rintro i c ys H' hi ⟨ls,rfl,ll,lz,la,s'⟩;have hin:i < (Lp z).length:=(A3.mp hi).1;refine%[by rw[Dv];omega,leS.set rfl|?_];refine%[_,U,_,_,U,U,_,U|?_];rw[sI (za c (B2 hi)),Bool.not_not];have tk:(Lp z).take (i+1)=(Lp z).take i ++ [c]:=by rw[EJ,hi];rfl
  cases dc:dgt c with
  | true=>
   refine aS (Nx.of hin %[ls,rfl,⋯,?_,la|s']);rw[tk,lz];constructor
   ·intro h c' hc';rcases C0.mp hc' with h' | h'
    ·exact h c' h'
    ·rw[C9.mp h'];exact dc
   ·intro h c' hc';exact h c' (B3 _ hc')
  | false=>
   refine aT %[_,rfl|Nx.of hin %[ls ++ [%[|#[c]]],by rw[EB];rfl,by rw[Dw];simp;omega,?_,λ x hx=>?_|s']]
   ·rw[tk];constructor
    ·intro h;simp at h
    ·intro h;have:=h c (A2 _ B5);rw[dc]at this;cases this
   ·rcases C0.mp hx with h' | h'
    ·exact la x h'
    ·rw[C9.mp h'];intro c' hc';have:c'=c:=by simpa[Lp]using hc'
     rw[this];exact za c (B2 hi)
 ·rintro ys H' ⟨ls,rfl,ll,lz,la,s'⟩;rw[EX]at lz;refine%[by rw[Dv];omega|λ p hp=>?_];have s1:Same H' (upd H' p (.lst (ls.map V.str))):=Dq hp;have k1:(upd H' p (.lst (ls.map V.str))) p=↥(ls.map V.str):=ag;generalize upd H' p (.lst (ls.map V.str))=H1 at s1 k1 ⊢;refine%[by show 0<=sizeLine;decide|λ e he=>?_];have s2:Same H1 (upd H1 e (.lst [])):=Dq he;have k2:(upd H1 e (.lst [])) e=↥[]:=ag;generalize upd H1 e (.lst [])=H2 at s2 k2 ⊢;have s12:Same H H2:=s'.trans (s1.trans s2);have qq:=q H2 s12;refine kO la (s2 _ _ k1) k2 %[_,rfl|?_]
  by_cases l0:ls=[]
  ·rw[E5 (by simpa using l0)];have ad:NumText.AllDigits (Lp z):=λ c hc=>dgt_iff.mp (lz.mp l0 c hc);obtain⟨c,r,ez⟩:=List.exists_cons_of_ne_nil z0;refine aS %[_,rfl,z,0,c,rfl,rfl,⋯,by rw[show z.cps.toList=c :: r from ez];exact bz ∅ rfl,rfl,_,rfl|?_];have go:isN (Lp z)=true->rz_call_int_text [V.str z] H2 Q:=λ hn=>%[z,_,U,int_str hn (by have:=h60 hn;omega),by have:=h60 hn;omega|by unfold rdN at qq;rw[hn,Ez rfl]at qq;exact qq]
   by_cases c48:c=48
   ·subst c48;rw[show decide (V.str %[|#[48]]=V.str "0")=true from E2 (by rw[iD])];refine aT %[_,rfl,rfl,_,rfl|?_]
    by_cases zz:z = "0"
    ·rw[show decide (V.str z=V.str "0")=true from E2 (by rw[zz])];exact aS %[_,rfl|go (isN_iff.mpr %[%[z0|ad]|.inl ((su z).mp zz)])]
    ·rw[show decide (V.str z=V.str "0")=false from E5 λ q=>zz (V.str.inj q)];refine aT ?_;rw[dy (ES.mpr λ h=>?_)]at qq
     ·exact qq
     ·rcases(isN_iff.mp h).2 with h2 | h2
      ·exact zz ((su z).mpr h2)
      ·rw[ez]at h2;exact h2 rfl
   ·rw[show decide (V.str %[|#[c]]=V.str "0")=false from E5 λ q=>c48 (by have:=V.str.inj q;rw[iD]at this;simpa using this)];exact aS (aS %[_,rfl|go (isN_iff.mpr %[%[z0|ad]|.inr (by rw[ez];simpa using c48)])])
  ·rw[E2 l0];refine aT (aT ?_);rw[dy (ES.mpr λ h=>l0 (lz.mpr λ c hc=>dgt_iff.mpr ((isN_iff.mp h).1.2 c hc)))]at qq;exact qq
def sJ:Sp:=λ vs H Q _=>∃z:Str,vs=[.str z]/\(∀c∈Lp z,c < 128)/\z.length < sizeLine/\(∀q∈sp 32 (Lp z),q.length<=60)/\(rdG (Lp z)=none->∀H',Same H H'->Q .non H')/\∀k,rdG (Lp z)=some k->∀H' a,Same H H'->H' a= ~~~(kdV k)->Q (.ref a) H'
theorem kP {c m:Nat} {l:Et Nat} (h:∀x∈l,x < m):∀p∈sp c l,∀x∈p,x < m:=by
 induction l with
 | nil=>intro p hp x hx;simp[sp]at hp;subst hp;cases hx
 | cons y r ih=>
  have ih:=ih λ x hx=>h x (B1 _ hx);obtain⟨a,t,e⟩:=bF (c:=c) r;rw[e]at ih;intro p hp x hx;simp only[sp,e,EW,ET]at hp
  split at hp
  ·rcases Dx.mp hp with rfl | hp
   ·cases hx
   ·exact ih p hp x hx
  ·rcases Dx.mp hp with rfl | hp
   ·rcases Dx.mp hx with rfl | hx
    ·exact h _ B5
    ·exact ih a B5 x hx
   ·exact ih p (B1 _ hp) x hx
theorem nV (o:Er Int):dF (opI o)=true:=by cases o <;> rfl
theorem scko:FnScope ["_law_line","_law_words","_law_numbers"] ["_law_line"] (defScope dO):=%[U,U,U,∅,U,∅|∅]
theorem xD {f:Eo} {fd:Dm} (F:Fun K "_law_kind_of" "_law_kind_of" dO f fd) (B:Blt mg) (DN:Dn P w K mg base "_law_number_of" ["_law_word"] 3 pX):FnOk P w K mg base CX0 4 f fd ["_law_line"] (sJ):=by
 refine F.ok scko (λ vs H Q E h=>?_) (λ cdv A outer s H vs Q E hr h=>?_)
 ·obtain⟨z,rfl,_⟩:=h
  rfl
 obtain⟨z,rfl,za,zl,hsh,qE,qT⟩:=h;have nd:=scko.nd;refine%[_,((1∣(@bW _ _ _ _ _ _ _ _ _ _ _ _ E3 FB FC bI (pv 0) (ap^^^af) U U U U U))<<<((gv (i:=2) (own:=["_law_word"]) (cs:=[]) (cap:=[]) U nd U U U (ck (@aO _ _ _ _ _ _ _ _ _ _ bK (pv 1) bi (aW ai))) (bj (sc:=defScope dO) (N:=["_law_line","_law_words","_law_numbers"]) U U ∅) (λ _ _ _ _ _=>aB (i:=0) (by show List.Nodup (["_law_word"]:Et Str) ;decide +kernel) U (Or.inl U) (Or.inr U)) (λ _ _ _ _ _=>bL) (λ _ _ _ _ _=>(DN∪((pv 0)^^^af))))<<<(((PW.pt (bU ((@az _ _ _ _ _ _ _ _ _ aH U B.len E9 ((pv 1)^^^af) ∅ ∅ U U)<*>dC<*>ai) (bU (@aq _ _ _ _ _ _ _ _ fT cc (pv 2) U) (bU (@aq _ _ _ _ _ _ _ _ fT ai (@aO _ _ _ _ _ _ _ _ _ _ bK (pv 2) bi (aW ai)) U) (ce (@aq _ _ _ _ _ _ _ _ gr ((pv 1)&&&aE&&&ai) (@cg _ _ _ _ _ (ap^^^(ap^^^af))) U))))))<|>(cc⁻¹)<|>au)<<<((@bg _ _ _ _ _ _ _ _ _ cz U B.tuple PyProof.Rows.boot_tuple (((pv 2)|||du|||(@bn _ _ _ _ ((@cm _ _ _ _ _ _ _ _ bV ((pv 1)&&&aE&&&ai) ap (ax _))^^^af)))^^^af) ∅ ∅ U U)⁻¹))))|?_];have eS:=bC z 32;have ll:=dw 32 (Lp z);have zL:=av z;have sl:=kP (c:=32) za;refine%[_,U,U,z,32,U,by rw[iE],zl|λ l hl=>?_];rw[eS];have eG:rdG (Lp z)=(rdW (sp 32 (Lp z))).bind λ k=>if sdK k=true then some k else none:=rfl
 rw[eG]at qE qT;generalize sp 32 (Lp z)=ws at *;clear eG eS;generalize hH:upd H l _=H1;have s1:Same H H1:=by subst hH;exact Dq hl
 have k1:H1 l=↥((ws.map mkS).map V.str):=by subst hH;exact ag
 clear hH;refine%[_,U,4,U,l,_,U,Ds k1|λ p hp=>?_];rw[show cy ((ws.map mkS).map V.str) none (some (4:Int))=((ws.take 4).map mkS).map V.str from by rw[Ek,Ek];exact cC _ 4];generalize hH:upd H1 p _=H2;have s2:Same H1 H2:=by subst hH;exact Dq hp
 have k2:H2 p=↥(((ws.take 4).map mkS).map V.str):=by subst hH;exact ag
 clear hH;have w4:(ws.take 4).length<=4:=by rw[EF];omega
 have wm:∀x∈ws.take 4,x∈ws:=λ x hx=>List.take_subset _ _ hx;generalize hw:ws.take 4=wt at *;refine%[p,U,%[_|Ds k2]|(bN (K:=K) (.inl k2) (λ i ys H'=>ys=(wt.take i).map (λ x=>opI (rdN x))/\Same H2 H') (λ i ys H' _ ⟨_,s'⟩ o e=>s' _ _ e) %[U|Same.refl _] ?_ ?_).1 k2]
 ·rintro i y ys H' hi ⟨rfl,s'⟩;rw[Dz,Dz]at hi;obtain⟨_,hz,rfl⟩:=EC.mp hi;obtain⟨x,hx,rfl⟩:=EC.mp hz;have hin:i < wt.length:=(A3.mp hx).1;have xm:x∈ws:=wm x (B2 hx);refine%[C6 (m:=4) (by rw[Dv,EF];omega) ∅,leS.set rfl|bM ?_];refine%[_,U,mkS x,U,sl x xm,by rw[av];have:=hsh x xm;show x.length<=_;omega,λ _=>by rw[av];exact hsh x xm|λ H3 s3=>Nx.of (by rw[Dv,Dv];exact hin) %[?_|s'.trans s3]];rw[EJ,hx,EB]
  rfl
 rintro ys H' ⟨rfl,s'⟩;rw[show((wt.map mkS).map V.str).length=wt.length by rw[Dv,Dv],EX];refine%[C7 (C6 (m:=4) (by rw[Dv];exact w4) ∅)|λ p2 hp2=>?_];generalize hH:upd H' p2 _=H3;have s3:Same H2 H3:=by subst hH;exact s'.trans (Dq hp2)
 have k3:H3 p2=↥(wt.map λ x=>opI (rdN x)):=by subst hH;exact ag
 clear hH;have sa:=(s1.trans s2).trans s3;have l3:=s3 _ _ (s2 _ _ k1);clear k2 hp2 s';refine%[_,U,l,_,U,.inl (Ds l3),U,_,U|?_]
 by_cases h5:ws.length=5
 case neg=>exact bR (by simp;omega) (aT (qE (by rw[dS h5];rfl) _ sa))
 obtain⟨a,b,c,d,e,rfl⟩:∃a b c d e,ws=[a,b,c,d,e]:=by
  match ws,h5 with
  | [a,b,c,d,e],_=>exact%[a,b,c,d,e|U]
 subst hw;refine aS ?_;refine%[_,U,p2,_,U,.inl (Ds k3),U,by simp[nV],_,U|?_];have ea:=l3
 by_cases hno:∃x∈[a,b,c,d],rdN x=none
 case pos=>
  obtain⟨x,hx,ex⟩:=hno;obtain⟨j,hj⟩:=EZ hx;have hj4:j < 4:=(A3.mp hj).1;have hj5:[a,b,c,d,e][j]?=some x:=by
   match j,hj4,hj with
   | 0,_,hx=>exact hx
   | 1,_,hx=>exact hx
   | 2,_,hx=>exact hx
   | 3,_,hx=>exact hx
  refine bR ?_ (aT (qE (by rw[gN hj4 hj5 ex];rfl) _ sa));exact List.any_eq_true.mpr %[.non,ED.mpr %[x,hx|by rw[ex];rfl]|U]
 have get:∀x∈[a,b,c,d],∃n:Nat,rdN x=some (n:Int):=λ x hx=>by
  cases h:rdN x with
  | none=>exact absurd %[x,hx|h] hno
  | some n=>exact%[_|by rw[(dP h).2]]
 obtain⟨n0,r0⟩:=get a (by simp);obtain⟨n1,r1⟩:=get b (by simp);obtain⟨n2,r2⟩:=get c (by simp);obtain⟨n3,r3⟩:=get d (by simp);have k4:H3 p2=↥[V.int n0,.int n1,.int n2,.int n3]:=by
  rw[k3];show some (HO.lst [opI (rdN a),opI (rdN b),opI (rdN c),opI (rdN d)])=_;rw[r0,r1,r2,r3]
  rfl
 show(if inV V.non [opI (rdN a),opI (rdN b),opI (rdN c),opI (rdN d)]=true then _ else _);rw[r0,r1,r2,r3];refine aS %[_,rfl,2,rfl,p2,_,rfl,Ds k4|λ p5 hp5=>?_];have s5:Same H3 (upd H3 p5 (.lst [V.int n0,.int n1])):=Dq hp5;have k5:(upd H3 p5 (.lst [V.int n0,.int n1])) p5=↥[V.int n0,.int n1]:=ag;rw[show cy [V.int n0,.int n1,.int n2,.int n3] none (some (2:Int))=[V.int n0,.int n1]from cC _ 2];generalize upd H3 p5 (.lst [V.int n0,.int n1])=H5 at s5 k5 ⊢;refine%[p5,_,U,.inl (Ds k5),U,U,_,U|?_];have eW:∀tu,rdT e=some tu->rdW [a,b,c,d,e]=some %[n0,n1,n2,n3|tu]:=λ tu ht=>fC r0 r1 r2 r3 ht;have iv:inV (V.int 0) [V.int n0,.int n1]=!(decide (1<=(n0:Int)) && decide (1<=(n1:Int))):=by
  show(decide ((n0:Int)=0) || (decide ((n1:Int)=0) || false))=_;rcases Nat.eq_zero_or_pos n0 with h | h <;> rcases Nat.eq_zero_or_pos n1 with h' | h'
  ·subst h h';rfl
  ·subst h;simp
  ·subst h';simp
  ·rw[E5 ⋯,E5 ⋯,E2 ⋯,E2 ⋯];rfl
 have sk:∀tu,sdK %[n0,n1,n2,n3|tu]=(decide (1<=(n0:Int)) && decide (1<=(n1:Int))):=λ _=>rfl;have s05:=sa.trans s5;rw[iv];cases hsd:(decide (1<=(n0:Int)) && decide (1<=(n1:Int)))with
 | false=>
  rw[hsd]at sk;refine aT (aT (qE ?_ _ s05));cases ht:rdT e with
  | none=>rw[dU rfl ht];rfl
  | some tu=>rw[eW tu ht];show(if sdK _=true then _ else _)=_;rw[sk tu];rfl
 | true=>
 rw[hsd]at sk;refine aS %[_,rfl,l,_,4,_,rfl,rfl,Ds (s5 _ _ l3),rfl,zS2|λ q6 hq6=>?_];have s6:Same H5 (upd H5 q6 (.tup [V.str "turns",.str "stays"])):=Dq hq6;have k6:(upd H5 q6 (.tup [V.str "turns",.str "stays"])) q6=some (.tup [V.str "turns",.str "stays"]):=ag;generalize upd H5 q6 (.tup [V.str "turns",.str "stays"])=H6 at s6 k6 ⊢;have s06:=s05.trans s6;refine%[q6,_,U,.inr (Dr k6),U,U,_,U|?_];have iw:inV (V.str (mkS e)) [V.str "turns",.str "stays"]=(rdT e).isSome:=by
  show(decide (("turns" : Str)=mkS e) || (decide (("stays" : Str)=mkS e) || false))=_;unfold rdT
  by_cases c1:e=Lp "turns"
  ·rw[Ez c1,E2 (by rw[c1,dh])];rfl
  ·rw[E1 c1,E5 (λ q=>c1 (by rw[q];rfl))]
   by_cases c2:e=Lp "stays"
   ·rw[Ez c2,E2 (by rw[c2,dh])];rfl
   ·rw[E1 c2,E5 (λ q=>c2 (by rw[q];rfl))];rfl
 show(if (!inV (V.str (mkS e)) [V.str "turns",.str "stays"])=true then _ else _);rw[iw];cases ht:rdT e with
 | none=>exact aT (qE (by rw[dU rfl ht];rfl) _ s06)
 | some tu=>
 refine aS ?_;have k46:=s6 _ _ (s5 _ _ k4);refine%[_,U,_,U,l,_,4,_,U,U,Ds (s6 _ _ (s5 _ _ l3)),U,U,zS1|λ r7 hr7=>?_];have etu:decide (V.str (mkS e)=V.str "turns")=tu:=by
  unfold rdT at ht
  by_cases c1:e=Lp "turns"
  ·rw[Ez c1]at ht;cases ht;exact A7 (by rw[c1,dh])
  ·rw[E1 c1]at ht
   by_cases c2:e=Lp "stays"
   ·rw[Ez c2]at ht;cases ht;exact A8 λ q=>c1 (by rw[<- V.str.inj q];rfl)
   ·rw[E1 c2]at ht;cases ht
 rw[etu];have s7:Same H6 (upd H6 r7 (.lst [V.bl tu])):=Dq hr7;have k7:(upd H6 r7 (.lst [V.bl tu])) r7=↥[V.bl tu]:=ag;generalize upd H6 r7 (.lst [V.bl tu])=H7 at s7 k7 ⊢;refine%[p2,r7,_,_,U,U,s7 _ _ k46,k7,zS5|λ r8 hr8=>?_];refine%[r8,_,U|.inl %[Ds ag|λ t9 ht9=>?_]];have s8:=Dq (o:=HO.lst ([V.int n0,.int n1,.int n2,.int n3] ++ [V.bl tu])) hr8;refine qT %[n0,n1,n2,n3|tu] ?_ _ t9 ((s06.trans s7).trans (s8.trans (Dq ht9))) ag;rw[eW tu ht];show(if sdK _=true then _ else _)=_;rw[sk tu]
 rfl
def KO (H:Hp) (v:V) (o:Er Kd):Prop:=match o with
 | none=>v=.non
 | some k=>TupAt H v k
theorem KO.keep {H H':Hp} (s:Same H H') {v:V} {o:Er Kd} (h:KO H v o):KO H' v o:=by
 cases o with
 | none=>exact h
 | some k=>obtain⟨a,e,ha⟩:=h;exact%[a,e|s _ _ ha]
def odD:Er Kd->PyData
 | none=>.none
 | some k=>kdD k
theorem sK {K:C4} {H:Hp}:∀ {ys:Et V} {os:Et (Er Kd)},Paired (KO H) ys os->DatVs K H ys (os.map odD)/\PyData.canLayAll0 (os.map odD)=true
 | _,_,.nil=>%[.nil|U]
 | _,none :: _,.cons e r=>by obtain⟨h1,h2⟩:=sK (K:=K) r;cases(show _=V.non from e);exact%[.cons .non h1|by simp[PyData.canLayAll0,odD,PyData.canLay0,h2]]
 | _,some k :: _,.cons e r=>by obtain⟨h1,h2⟩:=sK (K:=K) r;obtain⟨a,rfl,ha⟩:=e;exact%[.cons (.tup (Dr ha) (.cons (.int _) (.cons (.int _) (.cons (.int _) (.cons (.int _) (.cons (.bl _) .nil)))))) h1|by simp[PyData.canLayAll0,odD,kdD,PyData.canLay0,h2]]
theorem nW:∀os:Et (Er Kd),(os.map odD).any (λ y=>PyData.eqv y .none)=os.any λ o=>o.isNone
 | []=>rfl
 | none :: r=>by
  show(true || _)=(true || _)
  rfl
 | some k :: r=>by
  show(false || _)=(false || _)
  rw[Bool.false_or,Bool.false_or];exact nW r
theorem iF {α β:Type} (f:α->Er β):∀l:Et α,(l.map f).any (λ o=>o.isNone)=true->cU f l=none
 | [],h=>by cases h
 | a :: r,h=>by
  cases e:f a with
  | none=>simp[cU,e]
  | some b=>
   simp only[EG,List.any_cons,e,Option.isNone_some,Bool.false_or]at h;simp[cU,e,iF f r h]
theorem ge {H:Hp}:∀ {l:Et (Et Nat)} {ys:Et V},Paired (KO H) ys (l.map rdG)->(l.map rdG).any (λ o=>o.isNone)=false->∃ks,cU rdG l=some ks/\Tups H ys ks
 | [],_,.nil,_=>%[[],U|.nil]
 | a :: r,_,.cons e t,h=>by
  cases ea:rdG a with
  | none=>simp[ea]at h
  | some k=>
   simp only[EG,List.any_cons,ea,Option.isNone_some,Bool.false_or]at h;obtain⟨ks,e1,e2⟩:=ge t h;rw[ea]at e;exact%[k :: ks,by simp[cU,ea,e1]|.cons e e2]
theorem nX (a z:V) (xs:Et V):cy (a :: xs ++ [z]) (some 1) (some (-1))=xs:=by
 unfold cy HT.sIx;simp;rw[show((-1+((xs.length:Int)+1+1)).toNat - 1)=xs.length by omega,List.take_left']
 rfl
theorem eF (d:PyData):∀l:Et PyData,0<=PySem.Spec.countIn d l
 | []=>Int.le_refl _
 | y :: r=>by
  have:=eF d r;unfold PySem.Spec.countIn
  split <;> omega
theorem fD:∀os:Et (Er Kd),decide (PySem.Spec.countIn .none (os.map odD)≠0)=os.any λ o=>o.isNone
 | []=>rfl
 | none :: r=>by have:=eF .none (r.map odD);show decide (1+PySem.Spec.countIn .none (r.map odD)≠0)=true;exact A7 ⋯
 | some k :: r=>by
  show decide (0+PySem.Spec.countIn .none (r.map odD)≠0)=(false || _)
  rw[Int.zero_add,Bool.false_or];exact fD r
theorem pY (os:Et (Er Kd)) (h:PyData.canLayAll0 (os.map odD)=true):SeqAt.shaped (.list (os.map odD))=true:=by
 have:∀os:Et (Er Kd),PyData.depthAll (os.map odD)<=2:=λ os=>by
  induction os with
  | nil=>exact DG _
  | cons o r ih=>
   cases o with
   | none=>show max 0 _<=2;omega
   | some k=>show max (max 0 (max 0 (max 0 (max 0 (max 0 0))))+1) _<=2;omega
 unfold SeqAt.shaped;rw[EL,FD];refine%[by simp[PyData.canLay0,h]|?_];have:=this os;show PyData.depthAll _+1<=64;omega
theorem sM (os:Et (Er Kd)):∀y∈os.map odD,SeqAt.noMix y .none=true:=λ y hy=>by obtain⟨o,_,rfl⟩:=ED.mp hy;cases o <;> rfl
def sN:Sp:=λ vs H Q _=>∃z:Str,vs=[.str z]/\(∀c∈Lp z,c < 128)/\z.length<=100000/\(∀p∈sp 10 (Lp z),∀q∈sp 32 p,q.length<=60)/\(rdS (Lp z)=none->∀H',Same H H'->Q .non H') /\
 ∀b ks,rdS (Lp z)=some (b,ks)->∀H' r kl rs,Same H H'->H' r= ~~~[.int b,.ref kl]->H' kl=↥rs->Tups H' rs ks->Q (.ref r) H'
theorem scdu:FnScope ["_law_text_here","_law_lines_here","_law_blade","_law_kinds"] ["_law_text_here"] (defScope nH):=%[U,U,U,∅,U,∅|∅]
theorem xE {f:Eo} {fd:Dm} (F:Fun K "_law_due" "_law_due" nH f fd) (B:Blt mg) (DN:Dn P w K mg base "_law_number_of" ["_law_word"] 3 pX) (DK:Dn P w K mg base "_law_kind_of" ["_law_line"] 4 sJ):FnOk P w K mg base CX0 5 f fd ["_law_text_here"] (sN):=by
 refine F.ok scdu (λ vs H Q E h=>?_) (λ cdv A outer s H vs Q E hr h=>?_)
 ·obtain⟨z,rfl,_⟩:=h
  rfl
 obtain⟨z,rfl,za,zl,hsh,qE,qT⟩:=h;have nd:=scdu.nd;have hu6:=hr.units66;refine%[_,((1∣(@bW _ _ _ _ _ _ _ _ _ _ _ _ E3 FB FC bI (pv 0) (ap^^^af) U U U U U))<<<(((PW.pt (bU (((pv 1)&&&aE&&&(@jV _ _ _ _ _ _ gl ai))<*>dC<*>ap) (bU ((@az _ _ _ _ _ _ _ _ _ aH U B.len E9 ((pv 1)^^^af) ∅ ∅ U U)<*>mB<*>ai) (ce ((@az _ _ _ _ _ _ _ _ _ aH U B.len E9 ((pv 1)^^^af) ∅ ∅ U U)<*>fg<*>ai)))))<|>(cc⁻¹)<|>au)<<<((2∣(DN∩(((pv 1)&&&aE&&&ai)^^^af)))<<<((gv (i:=3) (own:=["_law_line"]) (cs:=[]) (cap:=[]) U nd U U U (ck (@aO _ _ _ _ _ _ _ _ _ _ bK (pv 1) (aW ai) (aW (@jV _ _ _ _ _ _ gl ai)))) (bj (sc:=defScope nH) (N:=["_law_text_here","_law_lines_here","_law_blade","_law_kinds"]) U U ∅) (λ _ _ _ _ _=>aB (i:=0) (by show List.Nodup (["_law_line"]:Et Str) ;decide +kernel) U (Or.inl U) (Or.inr U)) (λ _ _ _ _ _=>bL) (λ _ _ _ _ _=>(DK∪((pv 0)^^^af))))<<<(((PW.pt (bU ((pv 2)<*>iQ<*>cc) (ce (@aq _ _ _ _ _ _ _ _ (rN (Nat.lt_of_succ_lt hu6)) cc (pv 3) U))))<|>(cc⁻¹)<|>au)<<<((@cg _ _ _ _ _ ((pv 2)^^^((pv 3)^^^af)))⁻¹))))))|?_];have eS:=bC z 10;have zL:=av z;have sz:(1000000:Nat) < sizeLine:=∅
 have ll:=dw 10 (Lp z);have pa:=kP (c:=10) za;have pl:=ci 10 (Lp z);have pf:=eV 10 (Lp z);refine%[_,U,U,z,10,U,by rw[sy],⋯|λ l hl=>?_];rw[eS];generalize hH:upd H l _=H1;have s1:Same H H1:=by subst hH;exact Dq hl
 have k1:H1 l=↥(((sp 10 (Lp z)).map mkS).map V.str):=by subst hH;exact ag
 clear hH;obtain⟨i,last,ei⟩:∃i last,sp 10 (Lp z)=i ++ [last]:=by
  rcases Ei (sp 10 (Lp z))with e | ⟨i,x,e⟩
  ·exact absurd e (gb _ _)
  ·exact%[i,x|by rw[e];simp]
 have eR:rdS (Lp z)=if (i ++ [last]).getLast?=some []/\3<=(i ++ [last]).length/\(i ++ [last]).length<=10 then rdL (i ++ [last]).dropLast else none:=by unfold rdS;rw[ei]
 rw[eR]at qE qT;rw[ei]at k1 hsh pa pl;clear eS eR;have e1:(i ++ [last]).getLast?=some last:=List.getLast?_concat ..;have e2:(i ++ [last]).dropLast=i:=List.dropLast_concat ..;rw[e1,e2]at qE qT;rw[EB,EB]at k1;have q0:(¬ (last=[]/\3<=(i ++ [last]).length/\(i ++ [last]).length<=10))->∀H',Same H H'->Q .non H':=λ h=>qE (E1 λ%[a|b]=>h %[B6 a|b]);have il:(i ++ [last]).length=i.length+1:=Dw ..;refine%[_,U,1,U,l,_,-1,_,U,U,Ds k1,mK _ _,U,_,U|?_]
 by_cases c0:last=[]
 case neg=>
  rw[show decide (V.str (mkS last)=V.str "")=false from E5 λ q=>c0 (by have:=V.str.inj q;rw[<- jj last,this];exact Lp_no)];exact aT (aT (q0 (λ h=>c0 h.1) _ s1))
 subst c0;rw[show decide (V.str (mkS [])=V.str "")=true from E2 (by rw[show mkS []=("" : Str)from aR Lp_no.symm])];refine aS %[_,rfl,l,_,rfl,.inl (Ds k1),_,_,rfl,rfl,_,rfl|?_]
 by_cases c3:i.length+1 < 3
 ·exact bR (by simp;omega) (aT (q0 (λ h=>⋯) _ s1))
 refine cx (by simp;omega) %[_,rfl,l,_,rfl,.inl (Ds k1),_,_,rfl,rfl,_,rfl|?_]
 by_cases c10:10 < i.length+1
 ·exact bR (by simp;omega) (q0 (λ h=>⋯) _ s1)
 refine cx (by simp;omega) ?_;rw[Ez %[rfl,⋯|⋯]]at qE qT;obtain⟨a,t,rfl⟩:∃a t,i=a :: t:=by
  cases i with
  | nil=>simp at c3
  | cons a t=>exact%[a,t|U]
 have am:a∈a :: t ++ [[]]:=by simp
 have ha60:isN a=true->a.length<=60:=λ h=>by
  have nb:32∉a:=λ z=>by have:=(isN_iff.mp h).1.2 32 z;omega
  exact hsh a am a (by rw[bT nb];exact B5)
 refine%[_,U,l,_,0,_,U,U,Ds k1,eM (j:=0) (v:=.str (mkS a)) rfl,mkS a,U,pa a am,by have:=pl a am;rw[av];show a.length<=_;omega,λ h=>by rw[av];exact ha60 h|λ H2 s2=>?_];have s12:=s1.trans s2;refine%[_,U,1,U,_,U,-1,U,l,_,U,Ds (s2 _ _ k1)|λ p hp=>?_];rw[show cy (((a :: t).map mkS).map V.str ++ ([[]].map mkS).map V.str) (some (1:Int)) (some (-1))=(t.map mkS).map V.str from nX _ _ _];generalize hH:upd H2 p _=H3;have s3:Same H2 H3:=by subst hH;exact Dq hp
 have k3:H3 p=↥((t.map mkS).map V.str):=by subst hH;exact ag
 clear hH;have s13:=s12.trans s3;have tl:t.length<=10:=by rw[EA]at c10;omega
 refine%[p,U,%[_|Ds k3]|(bN (K:=K) (.inl k3) (λ i ys H'=>Paired (KO H') ys ((t.take i).map rdG)/\Same H3 H') (λ i ys H' _ ⟨_,s'⟩ o e=>s' _ _ e) %[.nil|Same.refl _] ?_ ?_).1 k3]
 ·rintro i y ys H' hi ⟨ty,s'⟩;rw[Dz,Dz]at hi;obtain⟨_,hz,rfl⟩:=EC.mp hi;obtain⟨x,hx,rfl⟩:=EC.mp hz;have hin:i < t.length:=(A3.mp hx).1;have yl:=DA ty;rw[Dv,EF]at yl;have xm:x∈a :: t ++ [[]]:=B3 _ (B1 a (B2 hx));have tk:(t.take (i+1)).map rdG=(t.take i).map rdG ++ [rdG x]:=by rw[EJ,hx,EB];rfl
  refine%[⋯,leS.set rfl|bM ?_];refine%[_,U,mkS x,U,pa x xm,by have:=pl x xm;rw[av];show x.length < _;omega,hsh x xm,λ hn H4 s4=>Nx.of (by rw[Dv,Dv];exact hin) %[?_|s'.trans s4]|λ k hk H4 a4 s4 h4=>Nx.of (by rw[Dv,Dv];exact hin) %[?_|s'.trans s4]]
  ·rw[tk,show rdG x=none from hn];exact FW (Dt ty λ v o h=>h.keep s4) (show KO H4 .non none from rfl)
  ·rw[tk,show rdG x=some k from hk];exact FW (Dt ty λ v o h=>h.keep s4) (show KO H4 (.ref a4) (some k)from%[a4,U|h4])
 rintro ys H' ⟨ty,s'⟩;rw[show((t.map mkS).map V.str).length=t.length by rw[Dv,Dv],EX]at ty;have yl:=DA ty;rw[Dv]at yl;refine%[⋯|λ p4 hp4=>?_];have s4:Same H' (upd H' p4 (.lst ys)):=Dq hp4;have k4:(upd H' p4 (.lst ys)) p4=↥ys:=ag;generalize upd H' p4 (.lst ys)=H4 at s4 k4 ⊢;have s14:=s13.trans (s'.trans s4);have t4:Paired (KO H4) ys (t.map rdG):=Dt ty λ v o h=>h.keep s4;refine%[_,U,U,_,U|?_];have eL:rdL (a :: t)=(rdN a).bind λ b=>(cU rdG t).map λ ks=>(b,ks):=rfl;rw[eL]at qE qT;rw[jj];cases ea:rdN a with
 | none=>
  rw[ea]at qE;exact aT (aT (qE rfl _ s14))
 | some b=>
 rw[ea]at qE qT;refine aS ?_;obtain⟨d1,d2⟩:=sK (K:=K) t4;refine%[_,U,.none,(t.map rdG).map odD,.non,.lst (Ds k4) d1,pY _ d2,U,sM _,_,U|?_];rw[fD];cases hany:(t.map rdG).any λ o=>o.isNone with
 | true=>exact aT (qE (by rw[iF _ _ hany];rfl) _ s14)
 | false=>
 obtain⟨ks,ek,tks⟩:=ge t4 hany;refine aS %[_,rfl,_,rfl,zS2|λ r hr=>?_];have s5:=Dq (o:=HO.tup [opI (some b),.ref p4]) hr;exact qT b ks (by rw[ek];rfl) _ r p4 ys (s14.trans s5) ag (s5 _ _ k4) (Tups.keep (λ c z e=>s5 _ _ e) tks)
end
theorem sO:bootBuiltins "ValueError" = some (.type "ValueError"):=∅
structure Ec15 (K:C4) (CE c x1 x2 x3 x4 x5 x6 x7 x8 x9 x10 x11 x12:Eo):Prop where
 F0:ExK K c
 kc:PySem.W.kitOne K (.ref c) (.ref c)=some true
 kv:PySem.W.kitOne K (.ref c) (.type "ValueError")=some true
 a1:PySem.W.kitAny K (.ref c) [.ref x1,.ref x2,.ref x3,.ref x4,.ref x5,.ref x6]=some false
 a2:PySem.W.kitAny K (.ref c) [.ref x7,.ref x8,.ref x9,.ref x10,.ref x11,.ref x12]=some false
 xm:PySem.W.exmOne K (.ref c) (.ref CE)=some true
structure Cl15 (mg:Str->Er Value) (c CE x1 x2 x3 x4 x5 x6 x7 x8 x9 x10 x11 x12:Eo):Prop where
 mc:mg "NoText" = ↑c
 mp:mg "PlateError" = ↑CE
 m1:mg "NoBlade" = ↑x1
 m2:mg "NoKind" = ↑x2
 m3:mg "NoKinds" = ↑x3
 m4:mg "NoLaying" = ↑x4
 m5:mg "NoLying" = ↑x5
 m6:mg "NoNumber" = ↑x6
 m7:mg "NoPlate" = ↑x7
 m8:mg "NoTable" = ↑x8
 m9:mg "NoTelling" = ↑x9
 m10:mg "NoTree" = ↑x10
 m11:mg "NoWeights" = ↑x11
 m12:mg "TooLarge" = ↑x12
 mv:mg "ValueError" = none
section
variable {P:Dl} {w:Do} {K:C4} {mg:Str->Er Dp} {base:Heap}
def fE (K:C4) (H:Hp) (v:V):Prop:=(∃T,Ty K H v T/\T ≠ "str")\/∃z,v=.str z/\z.length < sizeLine/\Sh (Lp z)/\rdS (Lp z)=none
def fb (K:C4):Sp:=λ vs H Q _=>∃v,vs=[v]/\fE K H v/\∀H',Same H H'->Q (.bl true) H'
theorem jo {C NT:Eo} {H:Hp} {v:V} {Q:VK} {E:XK} (b:fE K H v) (q:∀H1,Same H H1->E (.ref NT) none H1):gc K C NT [v] H Q E:=by
 rcases b with⟨T,ty,nT⟩ | ⟨z,rfl,zl,sh,rn⟩
 ·exact%[_,U|.inl %[T,ty,nT|q]]
 ·exact%[_,U|.inr ⟨z,U,zl,sh,λ b ks e=>by rw[rn]at e;(cases e),λ _=>q⟩]
theorem scRefu:FnScope ["_law_text_here","_law_told_here","e"] ["_law_text_here"] (defScope dN):=%[U,U,U,∅,U,∅|∅]
theorem pZ {f C NT CE x1 x2 x3 x4 x5 x6 x7 x8 x9 x10 x11 x12:Eo} {fd:Dm} (F:Fun K "_law_refused" "_law_refused" dN f fd) (B:Blt mg) (Z:Cl15 mg NT CE x1 x2 x3 x4 x5 x6 x7 x8 x9 x10 x11 x12) (Y:Ec15 K CE NT x1 x2 x3 x4 x5 x6 x7 x8 x9 x10 x11 x12) (DS:DnY P w K mg base "read_shop" ["text"] 5 (gc K C NT)):FnOk P w K mg base CX0 6 f fd ["_law_text_here"] (fb K):=by
 refine F.ok scRefu (λ vs H Q E h=>?_) (λ cdv A outer s H vs Q E hr h=>?_)
 ·obtain⟨v,rfl,_⟩:=h
  rfl
 obtain⟨v,rfl,bad,q⟩:=h;have nd:=scRefu.nd;refine⟨_,ah (aA (i:=1) nd rfl (Or.inl rfl) cc) (ah (pE (i:=2) rfl rfl rfl (jl DS hr rfl (ae (pv 0) af)) nd rfl rfl rfl Z.mp (λ ea=>aj (aA (i:=1) nd rfl (Or.inl rfl) (pv 2) rfl (Or.inl rfl))))
  (ah (aI (PW.pt (bU (aq iQ (pv 1) cc (ax _)) (bU (bE (bo (az (dM Y.F0) rfl B.isi E7 (ae (pv 1) (ae (aP (v:=.ref NT) rfl Z.mc rfl) af))))) (ce (bE (bo (az (dM Y.F0) rfl B.isi E7 (ae (pv 1) (ae (cN (v:=.ty "ValueError") rfl Z.mv sO rfl) af))))))))) (aj (ar dl)) au)
  (ah (aI (bo (az (dq Y.F0) rfl B.isi E7 (ae (pv 1) (ae (cg (ae (aP (v:=.ref x1) rfl Z.m1 rfl) (ae (aP (v:=.ref x2) rfl Z.m2 rfl) (ae (aP (v:=.ref x3) rfl Z.m3 rfl) (ae (aP (v:=.ref x4) rfl Z.m4 rfl) (ae (aP (v:=.ref x5) rfl Z.m5 rfl) (ae (aP (v:=.ref x6) rfl Z.m6 rfl) af))))))) af)))) (aj (ar dl)) au)
  (aj (ar (mq (az (dq Y.F0) rfl B.isi E7 (ae (pv 1) (ae (cg (ae (aP (v:=.ref x7) rfl Z.m7 rfl) (ae (aP (v:=.ref x8) rfl Z.m8 rfl) (ae (aP (v:=.ref x9) rfl Z.m9 rfl) (ae (aP (v:=.ref x10) rfl Z.m10 rfl) (ae (aP (v:=.ref x11) rfl Z.m11 rfl) (ae (aP (v:=.ref x12) rfl Z.m12 rfl) af))))))) af))))))))),?_⟩
 refine%[_,U|?_];dsimp only[li];refine jo bad λ H1 s1=>%[Y.xm|λ ea hea=>?_]
 refine%[_,U|?_];have ha:(upd H1 ea (.ext (IsA0 ea (.ref NT)))) ea=some (.ext (IsA0 ea (.ref NT))):=ag;have s2:=s1.trans (Dq (o:=HO.ext (IsA0 ea (.ref NT))) hea);generalize upd H1 ea (.ext (IsA0 ea (.ref NT)))=H2 at ha s2 ⊢;refine%[_,U,U,_,U|aS ?_];refine%[_,U,ea,_,_,_,U,ha,U,Y.kc,_,U|aS ?_];refine%[_,U,ea,_,_,_,U,ha,U,Y.kv,_,U|aS ?_];refine%[_,U,zS6|λ p hp=>?_];have s5:=Dq hp (o:=.tup [.ref x1,.ref x2,.ref x3,.ref x4,.ref x5,.ref x6]);refine%[ea,p,_,_,_,U,s5 _ _ ha,ag,U,Y.a1,_,U|aS ?_];refine%[_,U,zS6|λ p' hp'=>?_];have s6:=s5.trans (Dq hp' (o:=.tup [.ref x7,.ref x8,.ref x9,.ref x10,.ref x11,.ref x12]));exact%[ea,p',_,_,_,U,s6 _ _ ha,ag,U,Y.a2,_,U|q _ (s2.trans s6)]
end
theorem jp (c:Nat):∀a r:Et Nat,sp c (a ++ c :: r)=sp c a ++ sp c r
 | [],r=>by simp[sp]
 | x :: a,r=>by
  have ih:=jp c a r;obtain⟨b,t,e⟩:=bF (c:=c) a
  by_cases h:x=c
  ·simp only[EO,sp,Ez h,ih]
  ·simp only[EO,sp,E1 h,ih,e,EO,EW,ET]
theorem fF (c:Nat):∀ps:Et (Et Nat),ps≠[]->sp c (jn c ps)=(ps.map (sp c)).flatten
 | [],h=>absurd rfl h
 | [a],_=>by simp[jn]
 | a :: b :: r,_=>by
  rw[bZ (by simp),jp,fF c (b :: r) (by simp)]
  rfl
theorem qa (z:Str):Lp (Txt.replace z "\n" " ")=jn 32 (sp 10 (Lp z)):=by
 rw[sy]
 by_cases h:10∈Lp z
 ·obtain⟨h1,h2,h3⟩:=lE h;unfold Txt.replace;rw[h2,E1 ∅,<- h3,FQ,iE,dL,bC,En];congr 1;exact List.map_id'' (λ _=>rfl) _
 ·have hs:Txt.split z %[|#[10]]=[z]:=by rw[bC,bT h];show[mkS (Lp z)]=_;rw[dh]
  rw[bT h];show Lp _=Lp z;congr 1
  by_cases he:(Builtin.Str.occurrences z %[|#[10]] 0 z.length (z.length+1)).isEmpty=true
  ·unfold Txt.replace;rw[he,Bool.true_or,Ez rfl]
  ·cases h1:(decide (z.length < (%[|#[10]]:Str).length) || decide (Builtin.Str.strKind z < Builtin.Str.strKind %[|#[10]]))with
   | true=>
    exfalso;rw[Bool.or_eq_true,FD,FD]at h1;rcases h1 with h1 | h1
    ·have z0:z=Str.empty:=aR (by
      have:=av z;rw[show(%[|#[10]]:Str).length=1 from rfl]at h1;rw[ik];exact List.length_eq_zero_iff.mp ⋯)
     subst z0;exact he ∅
    ·have:Builtin.Str.strKind %[|#[10]]<=Builtin.Str.strKind z:=by
      rw[show Builtin.Str.strKind %[|#[10]]=1 by decide +kernel];unfold Builtin.Str.strKind
      split <;> first | omega | (split <;> omega)
     omega
   | false=>
    have e:Txt.split z %[|#[10]]=Builtin.Str.partsBetween z (Builtin.Str.occurrences z %[|#[10]] 0 z.length (z.length+1)) (%[|#[10]]:Str).length:=by unfold Txt.split;rw[E1 (by rw[h1];exact A9),E1 he]
    unfold Txt.replace;rw[E1 (by rw[Bool.or_eq_true];rintro(h | h);exact he h;simp at h;cases h.1),<- e,hs,FQ]
    rfl
section
variable {X:Cx}
inductive rEqM (K:C4) (x:V) (y:V) (H:Hp) (Q:VK):Prop
 | mk (da:PyData) (db:PyData) (e_0:DatV K H x da) (e_1:DatV K H y db) (e_2:da.canLay0=true) (e_3:db.canLay0=true) (e_4:da.depth<=210) (e_5:Q (.bl (PyData.eqv da db)) H):rEqM K x y H Q
theorem sP (hu:X.A.units+220 < cLine):OpR X (compareOp .Eq) (rEqM X.K):=by intro Ev s σ H x y v u Q I rx ry h;obtain⟨da,db,hx,hy,s1,s2,dz,q⟩:=h;obtain⟨as,ra⟩:=I.reads hx rx;obtain⟨bs,rb⟩:=I.reads hy ry;exact SeqAt.compareEq_reads ra rb s1 s2 (by have:min da.depth db.depth<=da.depth:=Nat.min_le_left _ _;omega) %[.bl _,H,I,rfl|q]
end
theorem jq (c d:Nat):∀ps:Et (Et Nat),(jn c ps).length=(jn d ps).length
 | []=>rfl
 | [a]=>rfl
 | a :: b :: r=>by rw[bZ (c:=c) (a:=a) (r:=b :: r) (by simp),bZ (c:=d) (a:=a) (r:=b :: r) (by simp),Dw,Dw,EA,EA,jq c d (b :: r)]
theorem xF (ks:Et Kd):PyData.canLayAll0 (ks.map kdD)=true/\PyData.depthAll (ks.map kdD)<=2:=by
 induction ks with
 | nil=>exact%[U|DG _]
 | cons k r ih=>
  refine%[by simp[PyData.canLayAll0,kdD,PyData.canLay0,ih.1]|?_];show max (max 0 (max 0 (max 0 (max 0 (max 0 0))))+1) _<=2;have:=ih.2;omega
section
variable {P:Dl} {w:Do} {K:C4} {mg:Str->Er Dp} {base:Heap}
def sQ:Sp:=λ vs H Q _=>∃z:Str,vs=[.str z]/\(∀c∈Lp z,c < 128)/\z.length<=100000/\∀H',Same H H'->Q (.bl true) H'
theorem scor:FnScope ["_law_text_here","_law_words","_law_due_here","_law_shop"] ["_law_text_here"] (defScope bQ):=%[U,U,U,∅,U,∅|∅]
theorem xG {f C NT:Eo} {fd:Dm} (F:Fun K "_law_other_right" "_law_other_right" bQ f fd) (B:Blt mg) (T:ShopTxt K C) (MB:Mn P w K mg base C "blade" ["self"] 1 (eQ C)) (MK:Mn P w K mg base C "kinds" ["self"] 1 (eT C)) (DU:Dn P w K mg base "_law_due" ["_law_text_here"] 5 sN) (DR:Dn P w K mg base "_law_refused" ["_law_text_here"] 6 (fb K)) (DS:DnY P w K mg base "read_shop" ["text"] 5 (gc K C NT)):FnOk P w K mg base CX0 7 f fd ["_law_text_here"] (sQ):=by
 refine F.okT scor (λ vs H Q E h=>?_) ∅ ∅ ∅ (λ cdv A outer s H vs Q E hr h=>?_)
 ·obtain⟨z,rfl,_⟩:=h
  rfl
 obtain⟨z,rfl,za,zl,q⟩:=h;have nd:=scor.nd;have hu:=Room.units220 hr ∅;have hr1:=hr.mono (show 1<=6 by decide);have hr5:=hr.mono (show 5<=6 by decide);refine%[_,(lH (pr (i:=1) nd rfl (Or.inl rfl) (rZ E3 FB FC bI (px (i:=0) rfl rfl ∅ ∅) (ae ap af))) ((((dH (own:=["_law_word"]) (cs:=[]) (cap:=[]) rfl (ck (pv 1)) (bj (sc:=defScope bQ) (N:=["_law_text_here","_law_words","_law_due_here","_law_shop"]) rfl rfl ∅) (λ _ _ _ _ _=>aB (i:=0) (by show List.Nodup (["_law_word"]:Et Str) ;decide +kernel) rfl (Or.inl rfl) (Or.inr rfl)) (λ _ _ _ _ _=>(hJ ((az (r:=rz_call_len_str) bX rfl B.len E9 ((pv 0)^^^af))<*>fg<*>ai))) (λ _ _ _ _ _=>(pv 0)))<*>(ji hu)<*>(@bn _ _ _ _ af))<|>(dl⁻¹)<|>au)<<<((2∣(@ay _ _ _ _ _ _ _ _ _ _ DU hr5 rfl ((pv 0)^^^af) ∅ rfl rfl))<<<((((pv 2)<*>iQ<*>cc)<|>((DR∪((pv 0)^^^af))⁻¹)<|>au)<<<((3∣(nE (jl DS hr5 rfl ((pv 0)^^^af))))<<<((@cm _ _ _ _ _ _ _ _ (sP hu) (@cg _ _ _ _ _ ((gz (pv 3) T.cl MB hr1)^^^((gz (pv 3) T.cl MK hr1)^^^af))) (pv 2) (ax _))⁻¹))))))|?_];have sz:(1000000:Nat) < sizeLine:=∅
 have rL:=qa z;have zL:=av z;have rl:(Txt.replace z "\n" " ").length=z.length:=by rw[av,rL,jq 32 10,kC,zL]
 refine .mk z rfl ⋯ %[rfl,_,32,rfl,by rw[iE],⋯|λ l hl=>?_];have eW:(Txt.split (Txt.replace z "\n" " ") %[|#[32]])=(((sp 10 (Lp z)).map (sp 32)).flatten).map mkS:=by rw[bC,rL,fF 32 _ (gb _ _)]
 rw[eW];have wa:∀q∈((sp 10 (Lp z)).map (sp 32)).flatten,∀c∈q,c < 128:=λ q hq=>by obtain⟨_,hp,hq⟩:=Ej.mp hq;obtain⟨p,hp',rfl⟩:=ED.mp hp;exact kP (kP za p hp') q hq
 have wl:(((sp 10 (Lp z)).map (sp 32)).flatten).length<=z.length+1:=by rw[<- fF 32 _ (gb _ _)];have:=dw 32 (jn 32 (sp 10 (Lp z)));rw[jq 32 10,kC,<- zL]at this;exact this
 have wq:∀q∈((sp 10 (Lp z)).map (sp 32)).flatten,q.length<=z.length:=λ q hq=>by obtain⟨_,hp,hq⟩:=Ej.mp hq;obtain⟨p,hp',rfl⟩:=ED.mp hp;have h1:=ci 10 (Lp z) p hp';have h2:=ci 32 p q hq;omega
 have wm:∀p∈sp 10 (Lp z),∀q∈sp 32 p,q∈((sp 10 (Lp z)).map (sp 32)).flatten:=λ p hp q hq=>Ej.mpr %[_,ED.mpr %[p,hp|U]|hq];generalize((sp 10 (Lp z)).map (sp 32)).flatten=ws at *;clear eW;generalize hH:upd H l _=H1;have s1:Same H H1:=by subst hH;exact Dq hl
 have k1:H1 l=↥((ws.map mkS).map V.str):=by subst hH;exact ag
 clear hH;refine%[_,U,l,U,%[_|Ds k1]|(bN (K:=K) (.inl k1) (λ i ys H'=>ys=(((ws.take i).filter λ q=>decide (60 < q.length)).map mkS).map V.str/\Same H1 H') (λ i ys H' _ ⟨_,s'⟩ o e=>s' _ _ e) %[U|Same.refl _] ?_ ?_).1 k1]
 ·rintro i y ys H' hi ⟨rfl,s'⟩;rw[Dz,Dz]at hi;obtain⟨_,hz,rfl⟩:=EC.mp hi;obtain⟨x,hx,rfl⟩:=EC.mp hz;have hin:i < ws.length:=(A3.mp hx).1;have fl:=List.length_filter_le (λ q:Et Nat=>decide (60 < q.length)) (ws.take i);rw[EF]at fl;have xl:(mkS x).length=x.length:=av _;have xq:=wq x (B2 hx);refine%[by rw[Dv,Dv];omega,leS.set rfl|?_];refine%[_,U,mkS x,U,⋯,_,_,U,U,_,U|?_];have tk:ws.take (i+1)=ws.take i ++ [x]:=by rw[EJ,hx];rfl
  by_cases c:60 < x.length
  ·refine bR (by rw[xl];exact A7 ⋯) %[_,rfl|Nx.of (by rw[Dv,Dv];exact hin) %[?_|s']];rw[tk,List.filter_append,List.filter_cons_of_pos (by simpa using c),EB,EB]
   rfl
  ·refine cx (by rw[xl];exact A8 ⋯) (Nx.of (by rw[Dv,Dv];exact hin) %[?_|s']);rw[tk,List.filter_append,List.filter_cons_of_neg (by simpa using c)];simp
 rintro ys H' ⟨rfl,s'⟩;rw[show((ws.map mkS).map V.str).length=ws.length by rw[Dv,Dv],EX];have fl:=List.length_filter_le (λ q:Et Nat=>decide (60 < q.length)) ws;refine%[by rw[Dv,Dv];omega|λ p hp=>?_];generalize hH:upd H' p _=H2;have s2:Same H1 H2:=by subst hH;exact s'.trans (Dq hp)
 have k2:H2 p=↥(((ws.filter λ q=>decide (60 < q.length)).map mkS).map V.str):=by subst hH;exact ag
 clear hH;refine%[by show 0<=sizeLine;decide|λ e he=>?_];have s3:Same H2 (upd H2 e (.lst [])):=Dq he;have k3:(upd H2 e (.lst [])) e=↥[]:=ag;generalize upd H2 e (.lst [])=H3 at s3 k3 ⊢;have s13:=s1.trans (s2.trans s3);refine kO (λ x hx c hc=>?_) (s3 _ _ k2) k3 %[_,rfl|?_]
 ·obtain⟨q,hq,rfl⟩:=ED.mp hx;exact wa q (List.mem_filter.mp hq).1 c hc
 by_cases l0:(ws.filter λ q=>decide (60 < q.length))=[]
 case neg=>
  rw[E2 (by simpa using l0)];exact aT (q _ s13)
 rw[E5 (by simpa using l0)];refine aS ?_;have w60:∀p∈sp 10 (Lp z),∀q∈sp 32 p,q.length<=60:=λ p hp q hq=>by have:=List.filter_eq_nil_iff.mp l0 q (wm p hp q hq);simpa using this
 have sh:Sh (Lp z):=λ p hp q hq _=>w60 p hp q hq;refine%[_,U,z,U,za,zl,w60,λ rn H4 s4=>?_|λ b ks rs H4 r kl us s4 hr4 hkl trs=>?_]
 ·refine%[_,U,U,_,U|aT %[_,U,_,U,.inr %[z,U,⋯,sh|rn]|λ H5 s5=>q _ (s13.trans (s4.trans s5))]]
 ·refine%[_,U,U,_,U|aS %[_,U,_,U|.inr %[z,U,⋯,sh,λ b' ks' rs' gk nb x H5 hx S5 s5=>?_|λ rn=>by rw[rs]at rn;cases rn]]];rw[rs]at rs';cases rs';obtain⟨dx,rx,rs0,x1,x2,x3⟩:=id S5;refine%[_,U,x,dx,_,U,x1,eP _ _ ∅ ∅,x,b,ks,U,S5|?_];refine%[_,U,x,dx,_,U,x1,eP _ _ ∅ ∅,x,b,ks,U,S5|λ l2 rs2 hl2 trs2=>?_];have s6:Same H5 (upd H5 l2 (.lst rs2)):=Dq hl2;have k6:(upd H5 l2 (.lst rs2)) l2=↥rs2:=ag;generalize upd H5 l2 (.lst rs2)=H6 at s6 k6 ⊢;refine%[by show 2<=sizeLine;decide|λ t ht=>?_];have s7:=Dq (o:=HO.tup [.int b,.ref l2]) ht;have k7:(upd H6 t (.tup [.int b,.ref l2])) t= ~~~[.int b,.ref l2]:=ag;generalize upd H6 t (.tup [.int b,.ref l2])=H7 at s7 k7 ⊢;have s57:=s6.trans s7;obtain⟨d1,d2⟩:=xF ks;have dd:PyData.canLay0 (.tuple [.int b,.list (ks.map kdD)])=true:=by simp[PyData.canLay0,PyData.canLayAll0,d1]
  refine⟨_,U,.tuple [.int b,.list (ks.map kdD)],.tuple [.int b,.list (ks.map kdD)],.tup (Dr k7) (.cons (.int _) (.cons (.lst (Ds (s7 _ _ k6)) (Tups.dat (Tups.keep (λ c z e=>s57 _ _ e) trs2))) .nil)),
   .tup (Dr (s57 _ _ (s5 _ _ hr4))) (.cons (.int _) (.cons (.lst (Ds (s57 _ _ (s5 _ _ hkl))) (Tups.dat (Tups.keep (λ c z e=>s57 _ _ (s5 _ _ e)) trs))) .nil)),dd,dd,?_,?_⟩
  ·show max 0 (max (PyData.depthAll (ks.map kdD)+1) 0)+1<=210;omega
  ·rw[SeqAt.eqv_refl _ dd];exact q _ (s13.trans (s4.trans (s5.trans s57)))
def sR:Sp:=λ vs H Q _=>∃ (b:Int) (kl:Eo) (rs:Et V) (ks:Et Kd),vs=[.int b,.ref kl]/\H kl=↥rs/\Tups H rs ks/\Nn b/\(∀k∈ks,Good k)/\ks.length<=8/\∀H' r,Same H H'->H' r=↥((lns b ks).map V.str)->Q (.ref r) H'
theorem nY (k:Kd):Txt.join " " (aQ k)=kln k:=by
 refine aR ?_;unfold Txt.join;rw[FQ,iE,dL]
 rfl
theorem scli:FnScope ["_law_blade","_law_kinds","_law_found","_law_wide","_law_high","_law_worth","_law_wanted","_law_turns","_law_last","_law_numbers"] ["_law_blade","_law_kinds"] (defScope fB):=%[U,U,U,∅,U,∅|∅]
theorem xH {f:Eo} {fd:Dm} (F:Fun K "_law_lines" "_law_lines" fB f fd) (B:Blt mg) (mst:mg "str" = none):FnOk P w K mg base CX0 1 f fd ["_law_blade","_law_kinds"] (sR):=by
 refine F.ok scli (λ vs H Q E h=>?_) (λ cdv A outer s H vs Q E hr h=>?_)
 ·obtain⟨b,kl,rs,ks,rfl,_⟩:=h
  rfl
 obtain⟨b,kl,rs,ks,rfl,hkl,trs,nb,hg,n8,q⟩:=h;have nd:=scli.nd;refine%[_,((2∣(@bn _ _ _ _ ((@bg _ _ _ _ _ _ _ _ _ dD U mst PyProof.Rows.boot_str ((pv 0)^^^af) ∅ ∅ U U)^^^af)))<<<((@iP _ _ _ _ _ _ _ _ PassesOwn.never U (ck (pv 1)) (iM U (3•(4•(5•(6•(7•eJ)))))) ((8∣ap)<<<(((@bo _ _ _ (pv 7) (by intro _;rfl))<|>(@aj _ _ _ (8∣ap))<|>au)<<<((gv (i:=9) (own:=["_law_number_here"]) (cs:=[]) (cap:=[]) U nd U U U (mw (@cg _ _ _ _ _ ((pv 3)^^^((pv 4)^^^((pv 5)^^^((pv 6)^^^af)))))) (bj (sc:=defScope fB) (N:=["_law_blade","_law_kinds","_law_found","_law_wide","_law_high","_law_worth","_law_wanted","_law_turns","_law_last","_law_numbers"]) U U ∅) (λ _ _ _ _ _=>aB (i:=0) (by show List.Nodup (["_law_number_here"]:Et Str) ;decide +kernel) U (Or.inl U) (Or.inr U)) (λ _ _ _ _ _=>bL) (λ _ _ _ _ _=>(bg (r:=rz_call_str_int) dD U mst PyProof.Rows.boot_str ((pv 0)^^^af))))>>>(@eI _ _ _ _ (@bW _ _ _ _ _ _ _ _ _ _ _ _ DV PySem.F.slot_list_append PySem.F.type_list_append lj (pv 2) ((@bW _ _ _ _ _ _ _ _ _ _ _ _ PySem.F.plainAttrs_str PySem.F.slot_str_join PySem.F.type_str_join eU ap (((pv 9)|||du|||(@bn _ _ _ _ ((pv 8)^^^af)))^^^af) U U U U U)^^^af) U U U U U) U)))) (by intro _;rfl))<<<((pv 2)⁻¹)))|?_];have sz:(1000:Nat) < sizeLine:=∅
 have tl:=DA trs;refine%[_,U,b,U,nb.log,zS1|λ l hl=>?_];have s1:Same H (upd H l (.lst [.str (num b)])):=Dq hl;have k1:(upd H l (.lst [.str (num b)])) l=↥((lns b (ks.take 0)).map V.str):=ag;generalize upd H l (.lst [.str (num b)])=H1 at s1 k1 ⊢;refine%[_,U,kl,U,%[_|Ds (s1 _ _ hkl)]|gU (xs:=rs) (λ i σ' H'=>(∃v3 v4 v5 v6 v7 v8 v9,σ'=[⇑b,↑kl,↑l,v3,v4,v5,v6,v7,v8,v9])/\H' l=↥((lns b (ks.take i)).map V.str)/\Same H H') %[%[_,_,_,_,_,_,_|U],k1|s1] (λ i σ' H' _ h=>Ds (h.2.2 _ _ hkl)) ?_ ?_]
 ·rintro i x _ H2 hi ⟨⟨v3,v4,v5,v6,v7,v8,v9,rfl⟩,k2,s2⟩;obtain⟨k,hk,a,rfl,ha⟩:=Du trs hi;have g:=hg k (B2 hk);have hin:i < ks.length:=(A3.mp hk).1;refine%[a,_,U,Dr (s2 _ _ ha),U,_,_,U,_,_,U,_,_,U,_,_,U,_,_,U,U|?_];refine bu (λ σ' H'=>σ'=[⇑b,↑kl,↑l,⇑k.w,⇑k.h,⇑k.wo,⇑k.wa,some (.bl k.tu),some (.str "stays"),v9]/\H2=H') (λ R hR=>hR _ _ %[rfl|rfl]) ?_;rintro _ _ ⟨rfl,rfl⟩;refine bu (λ σ' H'=>(∃v9,σ'=[⇑b,↑kl,↑l,⇑k.w,⇑k.h,⇑k.wo,⇑k.wa,some (.bl k.tu),some (.str (wd k.tu)),v9])/\H2=H') (λ R hR=>?_) ?_
  ·refine%[_,U,_,U|?_];cases ht:k.tu with
   | true=>exact aT (hR _ _ %[%[_|by rw[ht];rfl]|rfl])
   | false=>exact aS (hR _ _ %[%[_|by rw[ht];rfl]|rfl])
  rintro _ _ ⟨⟨v9',rfl⟩,rfl⟩;refine%[_,U,_,U,_,U,_,U,zS4|λ t ht=>?_];generalize hH:upd H2 t _=H3;have s3:Same H2 H3:=by subst hH;exact Dq ht
  have k3:H3 t= ~~~[V.int k.w,.int k.h,.int k.wo,.int k.wa]:=by subst hH;exact ag
  clear hH;refine%[t,U,%[_|Dr k3]|(bN (K:=K) (.inr k3) (λ i ys H'=>ys=(([num k.w,num k.h,num k.wo,num k.wa]:Et Str).take i).map V.str/\Same H3 H') (λ i ys H' _ ⟨_,s'⟩ o e=>s' _ _ e) %[U|Same.refl _] ?_ ?_).2 k3]
  ·rintro j y ys H' hj ⟨rfl,s'⟩;have hjn:j < 4:=(A3.mp hj).1;obtain⟨n,nn,rfl,hx⟩:∃n,Nn n/\y=.int n/\([num k.w,num k.h,num k.wo,num k.wa]:Et Str)[j]?=some (num n):=by
    match j,hjn,hj with
    | 0,_,hi=>exact%[k.w,g.nw,(B6 hi).symm|U]
    | 1,_,hi=>exact%[k.h,g.nh,(B6 hi).symm|U]
    | 2,_,hi=>exact%[k.wo,g.nwo,(B6 hi).symm|U]
    | 3,_,hi=>exact%[k.wa,g.nwa,(B6 hi).symm|U]
   refine%[C6 (m:=4) (by rw[Dv,EF];omega) ∅,leS.set rfl|bM ?_];refine%[_,U,n,U,nn.log|Nx.of hjn %[?_|s']];rw[EJ,hx,EB]
   rfl
  rintro ys H' ⟨rfl,s'⟩;refine%[by show 4<=sizeLine;decide|λ p hp=>?_];generalize hH:upd H' p _=H4;have s4:Same H3 H4:=by subst hH;exact s'.trans (Dq hp)
  have k4:H4 p=↥[V.str (num k.w),.str (num k.h),.str (num k.wo),.str (num k.wa)]:=by subst hH;exact ag
  clear hH;have s24:=s3.trans s4;refine%[_,U,.inl %[U,_|Ds (s24 _ _ k2)],U,_,U,_,U,zS1|λ q5 hq5=>?_];have s5:Same H4 (upd H4 q5 (.lst [V.str (wd k.tu)])):=Dq hq5;have k5:(upd H4 q5 (.lst [V.str (wd k.tu)])) q5=↥[V.str (wd k.tu)]:=ag;generalize upd H4 q5 (.lst [V.str (wd k.tu)])=H5 at s5 k5 ⊢;refine%[p,q5,_,_,U,U,s5 _ _ k4,k5,zS5|λ r6 hr6=>?_];generalize hH:upd H5 r6 _=H6;have s6:Same H5 H6:=by subst hH;exact Dq hr6
  have k6:H6 r6=↥((aQ k).map V.str):=by subst hH;exact ag
  clear hH;have s26:=s24.trans (s5.trans s6);have e1:=g.nw.len;have e2:=g.nh.len;have e3:=g.nwo.len;have e4:=g.nwa.len;have e5:=gF k.tu;refine%[" ",r6,aQ k,U,U,k6,(by rw[cF];decide),?_|?_]
  ·simp only[aQ,EG,List.map_nil,List.sum_cons,List.sum_nil,EA,Em];omega
  rw[nY];have l6:=s26 _ _ k2;refine%[l,_,_,U,U,l6,?_|?_]
  ·rw[Dv];have:(lns b (ks.take i)).length<=9:=by simp[lns];omega
   omega
  ·refine%[%[_,_,_,_,_,_,_|U],?_|λ c o e=>?_]
   ·rw[ag,show lns b (ks.take (i+1))=lns b (ks.take i) ++ [kln k]from ?_,EB]
    ·rfl
    ·unfold lns;rw[EJ,hk,EB]
     rfl
   ·rw[ao (λ z=>by rw[z,hl]at e;cases e)];exact s26 _ _ (s2 _ _ e)
 ·rintro _ H2 ⟨⟨v3,v4,v5,v6,v7,v8,v9,rfl⟩,k2,s2⟩;rw[tl,EX]at k2;exact%[_,U|q _ l s2 k2]
end
theorem cL (z:Str) (lo hi:Er Int):∀c∈Lp (Txt.slice z lo hi),c∈Lp z:=by
 intro c hc;unfold Txt.slice at hc
 split at hc
 ·exact hc
 ·obtain⟨i,_,e⟩:=Ec.mp (show c∈List.filterMap (z.cps[·]?) _ from hc);exact Array.mem_toList_iff.mpr (Array.mem_of_getElem? e)
theorem fG {α:Type} (l:Et α) (a:Nat):∀m,a+m<=l.length->((List.range m).map (a + ·)).filterMap (l[·]?)=(l.drop a).take m
 | 0,_=>rfl
 | m+1,h=>by
  have hm:a+m < l.length:=⋯
  rw[List.range_succ,EB,List.filterMap_append,fG l a m ⋯,EJ];congr 1;simp[hm]
theorem iG {z:Str} {lo hi:Er Int} (a b:Nat) (hab:a<=b) (hb:b<=z.length) (h:Builtin.Str.strSliceIndices lo hi 1 z.length=(List.range (b - a)).map (a + ·)):Lp (Txt.slice z lo hi)=((Lp z).drop a).take (b - a):=by
 have zL:=av z;unfold Txt.slice;rw[h]
 split
 ·rename_i e
  have e2:b - a=z.length:=by simpa using e
  have a0:a=0:=⋯
  subst a0;rw[List.drop_zero,e2,EK ⋯]
 ·have:=fG (Lp z) a (b - a) ⋯;rw[<- this];show List.filterMap (z.cps[·]?) _=_;congr 1
  funext i
  exact(Array.getElem?_toList).symm
theorem sr1 {a b:Nat} (h:a<=b) {x y:Int} (hx:x=a) (hy:y=b):sliceRange x y 1=(List.range (b - a)).map (a + ·):=by
 subst hx hy;unfold sliceRange;rw[Ez ∅]
 by_cases c:(a:Int) < b
 ·rw[Ez c];show List.map (λ(k:Nat)=>((a:Int)+1 * (k:Int)).toNat) (List.range (((b:Int) - a+1 - 1) / 1).toNat)=_;rw[show(((b:Int) - a+1 - 1) / 1).toNat=b - a by rw[Int.ediv_one];omega];refine List.map_congr_left λ k _=>?_;show((a:Int)+1 * (k:Int)).toNat=a+k;omega
 ·rw[E1 c,show b - a=0 by omega]
  rfl
theorem jr {z:Str} (h:1<=z.length):Lp (Txt.slice z (some 1) none)=(Lp z).drop 1:=by have zL:=av z;rw[iG 1 z.length h (B0 _) (sr1 h (by show max (0:Int) (min (if (1:Int) < 0 then 1+z.length else 1) z.length)=((1:Nat):Int);rw[E1 ∅];omega) rfl)];exact EK (by rw[EN];omega)
theorem js {z:Str} (h:1<=z.length):Lp (Txt.slice z none (some (-1)))=(Lp z).dropLast:=by
 have zL:=av z;rw[iG 0 (z.length - 1) (DG _) ⋯ (sr1 (DG _) rfl (by show max (0:Int) (min (if (-1:Int) < 0 then -1+z.length else -1) z.length)=((z.length - 1:Nat):Int);rw[Ez ∅];omega))];rw[List.drop_zero,List.dropLast_eq_take,zL]
 rfl
structure Bw (z:Str):Prop where
 len:z.length<=130
 nl:10∉Lp z
 no:isN (Lp z)=false
 sh:∀q∈sp 32 (Lp z),isN q=true->q.length<=60
theorem Bw.free {z:Str} (h1:z.length<=130) (h2:10∉Lp z) (h3:isN (Lp z)=false) (h4:32∉Lp z):Bw z:=⟨h1,h2,h3,λ q hq hn=>by
 rw[bT h4]at hq;rw[C9.mp hq,h3]at hn;cases hn⟩
theorem bD {l:Et Nat} (h:isN l=true) {c:Nat} (hc:c < 48):c∉l:=λ z=>by have:=(isN_iff.mp h).1.2 c z;omega
theorem cB {c:Nat} {x y:Str} (h1:c∉Lp x) (h2:c∉Lp y):c∉Lp (x ++ y):=by rw[aU];simp[h1,h2]
theorem Bw.sign {z a:Str} (c:Nat) (hz:isN (Lp z)=true) (l:z.length<=60) (ha:Lp a=[c]) (hc:c < 48\/57 < c) (h10:c≠10) (h32:c≠32):Bw (a ++ z)/\Bw (z ++ a):=by
 have la:a.length=1:=by rw[av,ha];rfl
 refine⟨.free (by rw[aM];omega) (cB (by rw[ha];simpa using Ne.symm h10) (bD hz ∅)) (dA (c:=c) (by rw[aU,ha];simp) hc) (cB (by rw[ha];simpa using Ne.symm h32) (bD hz ∅)),
  .free (by rw[aM];omega) (cB (bD hz ∅) (by rw[ha];simpa using Ne.symm h10)) (dA (c:=c) (by rw[aU,ha];simp) hc) (cB (bD hz ∅) (by rw[ha];simpa using Ne.symm h32))⟩
theorem Bw.nought {a z:Str} (ha:Lp a=[48]) (hz:∀c∈Lp z,48<=c/\c<=57) (h0:Lp z≠[]) (l:z.length<=60):Bw (a ++ z):=by
 have la:a.length=1:=by rw[av,ha];rfl
 have fr:∀c,c < 48->c∉Lp (a ++ z):=λ c hc=>cB (by rw[ha];simp;omega) λ h=>by have:=hz c h;omega
 refine .free (by rw[aM];omega) (fr 10 ∅) (ES.mpr λ h=>?_) (fr 32 ∅);have e:Lp (a ++ z)=48 :: Lp z:=by rw[aU,ha];rfl
 rw[e]at h;rcases(isN_iff.mp h).2 with h | h
 ·exact h0 (List.cons.inj h).2
 ·exact h rfl
theorem Bw.blank {z:Str} (hz:isN (Lp z)=true) (l:z.length<=60):Bw (" " ++ z)/\Bw (z ++ " "):=by
 have n32:32∉Lp z:=bD hz ∅;have lz:=av z;refine⟨%[by rw[aM,cF];omega,cB (by rw[cD];decide) (bD hz ∅),dA (c:=32) (by rw[aU,cD];simp) ∅|λ q hq hn=>?_],
  %[by rw[aM,cF];omega,cB (bD hz ∅) (by rw[cD];decide),dA (c:=32) (by rw[aU,cD];simp) ∅|λ q hq hn=>?_]⟩
 ·rw[aU,cD,show[32] ++ Lp z=([]:Et Nat) ++ 32 :: Lp z from rfl,jp,bT n32]at hq;have:q=[]\/q=Lp z:=by simpa[sp]using hq
  rcases this with rfl | rfl
  ·simp
  ·omega
 ·rw[aU,cD,dj,bT n32]at hq;have:q=Lp z\/q=[]:=by simpa using hq
  rcases this with rfl | rfl
  ·omega
  ·simp
theorem Bw.mid {z x y u:Str} (hz:isN (Lp z)=true) (l:z.length<=60) (hx:∀c∈Lp x,c∈Lp z) (hy:∀c∈Lp y,c∈Lp z) (lx:x.length<=z.length) (ly:y.length<=z.length) (hu:Lp u=[95]):Bw (x ++ u ++ y):=by
 have lu:u.length=1:=by rw[av,hu];rfl
 have fr:∀c,c < 48->c∉Lp (x ++ u ++ y):=λ c hc=>cB (cB (λ h=>bD hz hc (hx c h)) (by rw[hu];simp;omega)) λ h=>bD hz hc (hy c h);exact .free (by rw[aM,aM];omega) (fr 10 ∅) (dA (c:=95) (by rw[aU,aU,hu];simp) ∅) (fr 32 ∅)
theorem Bw.dot {z u:Str} (hz:isN (Lp z)=true) (l:z.length<=60) (hu:Lp u=[46,48]):Bw (z ++ u):=by
 have lu:u.length=2:=by rw[av,hu];rfl
 have fr:∀c,c < 46->c∉Lp (z ++ u):=λ c hc=>cB (bD hz ⋯) (by rw[hu];simp;omega);exact .free (by rw[aM];omega) (fr 10 ∅) (dA (c:=46) (by rw[aU,hu];simp) ∅) (fr 32 ∅)
theorem Bw.none:Bw "" := by refine .free (by rw[show("" : Str).length=0 by decide +kernel];decide) (by rw[Lp_no];simp) (by rw[Lp_no];rfl) (by rw[Lp_no];simp)
section
variable {P:Dl} {w:Do} {K:C4} {mg:Str->Er Dp} {base:Heap}
def sS:Sp:=λ vs H Q _=>∃ (p:Eo) (z:Str),vs=[.ref p,.str z]/\PotAt H p/\isN (Lp z)=true/\z.length<=60/\∀z' H',Bw z'->PotAt H' p->But p H H'->Q (.str z') H'
theorem scbn:FnScope ["_law_pot_here","_law_word","_law_ahead","_law_some"] ["_law_pot_here","_law_word"] (defScope cS):=%[U,U,U,∅,U,∅|∅]
theorem xI {f:Eo} {fd:Dm} (F:Fun K "_law_bad_number" "_law_bad_number" cS f fd) (B:Blt mg) (DD:Dn P w K mg base "_law_draw" ["_law_pot_here","_law_many"] 1 cA):FnOk P w K mg base CX0 2 f fd ["_law_pot_here","_law_word"] (sS):=by
 refine F.ok scbn (λ vs H Q E h=>?_) (λ cdv A outer s H vs Q E hr h=>?_)
 ·obtain⟨p,z,rfl,_⟩:=h
  rfl
 obtain⟨p,z,rfl,pt,hn,zl,q⟩:=h;have nd:=scbn.nd;refine%[_,((2∣(ap|||aD|||(pv 1)))<<<((((@az _ _ _ _ _ _ _ _ _ bX U B.len E9 ((pv 1)^^^af) ∅ ∅ U U)<*>fg<*>ai)<|>(@aj _ _ _ (2∣(ap|||aD|||(@aO _ _ _ _ _ _ _ _ _ _ eu (pv 1) (aW ai) bi))))<|>au)<<<((3∣(@bn _ _ _ _ ((pv 2)^^^((ap|||aD|||(pv 1))^^^((ap|||aD|||(pv 1))^^^((((@aO _ _ _ _ _ _ _ _ _ _ eu (pv 1) bi (aW ai))|||aD|||ap)|||aD|||(@aO _ _ _ _ _ _ _ _ _ _ eu (pv 1) (aW ai) bi))^^^(((pv 1)|||aD|||ap)^^^af)))))))<<<((@eI _ _ _ _ (@bW _ _ _ _ _ _ _ _ _ _ _ _ DV PySem.F.slot_list_extend PySem.F.type_list_extend lm (pv 3) ((@bn _ _ _ _ ((ap|||aD|||(pv 1))^^^(((pv 1)|||aD|||ap)^^^(ap^^^(((pv 1)|||aD|||ap)^^^af)))))^^^af) U U U U U) U)<<<(((pv 3)&&&aE&&&(DD∪((pv 0)^^^(ai^^^af))))⁻¹)))))|?_];have sz:(1000:Nat) < sizeLine:=∅
 have zL:=av z;have z0:=(isN_iff.mp hn).1.1;have zd:=(isN_iff.mp hn).1.2;have z1:1<=z.length:=by rw[zL];exact Ef.mpr z0
 refine bu (λ σ' H'=>σ'=[↑p,some (.str z),some (.str ("0" ++ z)),none]/\H=H') (λ R hR=>?_) ?_
 ·exact%[_,U,_,_,U,U,(by rw[show("0" : Str).length=1 by decide +kernel];omega)|hR _ _ %[U|U]]
 rintro _ _ ⟨rfl,rfl⟩;refine bu (λ σ' H'=>(∃a,Bw a/\σ'=[↑p,some (.str z),some (.str a),none])/\H=H') (λ R hR=>?_) ?_
 ·refine%[_,U,z,U,⋯,_,_,U,U,_,U|?_];refine hG (λ c=>?_) (λ c=>hR _ _ %[%[_,Bw.nought Lp_0 zd z0 zl|rfl]|rfl]);have c':(59:Int) < (z.length:Int):=B8 c;have et:=jr z1;refine%[_,U,1,U,z,U,⋯,_,_,U,U,?_|hR _ _ %[%[_,Bw.nought Lp_0 (λ c hc=>zd c (cL z _ _ c hc)) (λ e=>?_) (by have:=FH z (some 1) none;omega)|U]|U]]
  ·have:=FH z (some 1) none;rw[show("0" : Str).length=1 by decide +kernel];omega
  ·rw[e]at et;have:=FI List.length et;rw[EN,<- zL]at this;simp at this;omega
 rintro _ _ ⟨⟨a,ba,rfl⟩,rfl⟩;have w1:=Bw.sign 45 hn zl (a := "-") ∅ ∅ ∅ ∅;have w2:=Bw.sign 43 hn zl (a := "+") ∅ ∅ ∅ ∅;have w3:=Bw.mid hn zl (cL z none (some 1)) (cL z (some 1) none) (FH z _ _) (FH z _ _) (u := "_") ∅;have w4:=Bw.sign 120 hn zl (a := "x") ∅ ∅ ∅ ∅;have w5:=Bw.blank hn zl;have w6:=Bw.dot hn zl (u := ".0") ∅;have l1:=w1.1.len;have l2:=w2.1.len;have l3:=w3.len;have l4:=w4.2.len;have l5:=w5.1.len;have l6:=w5.2.len;have l7:=w6.len;have l3':(Txt.slice z none (some 1) ++ ("_" : Str)).length<=130:=by rw[aM]at l3;omega
 have al:=ba.len
 let ws:Et Str:=[a,"-" ++ z,"+" ++ z,Txt.slice z none (some 1) ++ "_" ++ Txt.slice z (some 1) none,z ++ "x"," " ++ z,z ++ " ","",z ++ ".0"]
 have wb:∀x∈ws,Bw x:=λ x hx=>by
  simp only[ws,Dx,EH,FV]at hx;rcases hx with rfl | rfl | rfl | rfl | rfl | rfl | rfl | rfl | rfl
  ·exact ba
  ·exact w1.1
  ·exact w2.1
  ·exact w3
  ·exact w4.2
  ·exact w5.1
  ·exact w5.2
  ·exact Bw.none
  ·exact w6
 refine%[_,U,_,U,_,_,U,U,(by rw[<- aM];omega),_,U,_,_,U,U,(by rw[<- aM];omega),_,U,1,U,z,U,⋯,_,_,U,U,(by rw[<- aM];omega),_,U,1,U,z,U,⋯,_,_,U,U,(by rw[<- aM];omega),_,U,_,_,U,U,(by rw[<- aM];omega),zS5|λ l hl=>?_];generalize hH:upd H l _=H1;have s1:Same H H1:=by subst hH;exact Dq hl
 have k1:H1 l=↥((ws.take 5).map V.str):=by subst hH;exact ag
 clear hH;refine%[_,U,.inl %[U,_|Ds k1],_,U,_,_,U,U,(by rw[<- aM];omega),_,U,_,_,U,U,(by rw[<- aM];omega),_,U,_,_,U,U,(by rw[<- aM];omega),zS4|λ b hb=>?_];generalize hH:upd H1 b _=H2;have s2:Same H1 H2:=by subst hH;exact Dq hb
 have k2:H2 b=↥((ws.drop 5).map V.str):=by subst hH;exact ag
 clear hH;refine%[l,b,_,_,U,U,s2 _ _ k1,k2,zS9|?_];generalize hH:upd H2 l _=H3;have s3:Same H H3:=λ c o e=>by subst hH;rw[ao (λ z=>by rw[z,hl]at e;cases e)];exact s2 _ _ (s1 _ _ e)
 have k3:H3 l=↥(ws.map V.str):=by subst hH;exact ag
 clear hH;have wn:ws.length=9:=rfl
 clear_value ws
 obtain⟨a0,b0,po,hp⟩:=id pt;have hlp:l≠p:=λ e=>by rw[e,hp]at hl;cases hl
 refine%[_,U,_,U,p,9,U,%[a0,b0,po|s3 _ _ hp],∅,∅|λ r H4 r0 r1 pt4 b4=>?_];have hr9:r.toNat < ws.length:=⋯
 refine%[l,_,r,.str ws[r.toNat],U,U,Ds (b4 _ _ hlp k3),bz r0 (by rw[Dz,DJ hr9];rfl)|?_];exact q _ H4 (wb _ (EY hr9)) pt4 λ c o n e=>b4 c o n (s3 c o e)
end
structure Nw (i:Nat) (y:Et Nat):Prop where
 len:y.length<=130
 nl:10∉y
 sh:∀q∈sp 32 y,isN q=true->q.length<=60
 no:32∈y\/(i < 4/\rdN y=none)\/(i=4/\rdT y=none)
theorem Bw.nw {z:Str} (h:Bw z) {i:Nat} (hi:i < 4):Nw i (Lp z):=%[by rw[<- av];exact h.len,h.nl,h.sh|.inr (.inl %[hi|dy h.no])]
structure Wd5 (ws:Et (Et Nat)):Prop where
 fr:∀x∈ws,32∉x
 nl:∀x∈ws,10∉x
 len:∀x∈ws,x.length<=60
 num:∀i x,i < 4->ws[i]?=some x->isN x=true
structure Bl (n:Nat) (l:Et Nat):Prop where
 len:l.length<=1000
 nl:10∉l
 sh:∀q∈sp 32 l,isN q=true->q.length<=60
 kd:n=5->rdG l=none
 nu:n=1->rdN l=none
theorem gO {c d:Nat} (hd:d≠c):∀ps:Et (Et Nat),(∀p∈ps,d∉p)->d∉jn c ps
 | [],_=>by simp[jn]
 | [a],h=>by simpa[jn]using h a B5
 | a :: b :: r,h=>by rw[bZ (a:=a) (r:=b :: r) (by simp)];have ih:=gO hd (b :: r) λ p hp=>h p (B1 _ hp);have ha:=h a B5;simp[ha,ih,hd]
theorem nZ {c m:Nat}:∀ps:Et (Et Nat),(∀p∈ps,p.length<=m)->(jn c ps).length<=ps.length * (m+1)
 | [],_=>by simp[jn]
 | [a],h=>by have:=h a B5;simp[jn];omega
 | a :: b :: r,h=>by rw[bZ (a:=a) (r:=b :: r) (by simp),Dw,EA,EA (a:=a),Nat.succ_mul];have ih:=nZ (c:=c) (b :: r) λ p hp=>h p (B1 _ hp);have ha:=h a B5;omega
theorem og {c:Nat}:∀l:Et Nat,c∈l->2<=(sp c l).length
 | x :: r,h=>by
  obtain⟨a,t,e⟩:=bF (c:=c) r
  by_cases hx:x=c
  ·simp[sp,hx,e]
  ·have:=og r (by rcases Dx.mp h with h | h;exact absurd h.symm hx;exact h);rw[e]at this;simpa[sp,hx,e]using this
theorem iH {ws:Et (Et Nat)} (h0:ws≠[]) (h:∀x∈ws,∀q∈sp 32 x,isN q=true->q.length<=60):∀q∈sp 32 (jn 32 ws),isN q=true->q.length<=60:=λ q hq=>by rw[fF 32 ws h0]at hq;obtain⟨_,hp,hq⟩:=Ej.mp hq;obtain⟨x,hx,rfl⟩:=ED.mp hp;exact h x hx q hq
theorem six {ws:Et (Et Nat)} {i:Nat} {y:Et Nat} (h5:ws.length=5) (hi:i < 5) (hy:32∈y):(sp 32 (jn 32 (ws.set i y))).length≠5:=by
 have p1:∀x:Et Nat,1<=(sp 32 x).length:=λ x=>Ef.mpr (gb 32 x);have h2:=og y hy;rw[fF 32 _ (λ e=>by have:=FI List.length e;rw[EV,Em]at this;omega)]
 match ws,h5 with
 | [a,b,c,d,e],_=>
  have:=p1 a;have:=p1 b;have:=p1 c;have:=p1 d;have:=p1 e
  match i,hi with
  | 0,_=>simp;omega
  | 1,_=>simp;omega
  | 2,_=>simp;omega
  | 3,_=>simp;omega
  | 4,_=>simp;omega
theorem jt {ws:Et (Et Nat)} (W:Wd5 ws) (hl:ws.length=1\/ws.length=5) {i:Nat} (hi:i < ws.length) {y:Et Nat} (n:Nw i y):Bl ws.length (jn 32 (ws.set i y)):=by
 have mem:∀x∈ws.set i y,x∈ws\/x=y:=λ x hx=>EQ hx;have h0:ws.set i y≠[]:=λ e=>by have:=FI List.length e;rw[EV,Em]at this;omega
 have il:(ws.set i y)[i]?=some y:=Eb hi;refine%[?_,gO ∅ _ λ x hx=>?_,iH h0 λ x hx q hq hn=>?_,λ h5=>?_|λ h1=>?_]
 ·have:=nZ (c:=32) (m:=130) (ws.set i y) λ x hx=>by
   rcases mem x hx with h | h
   ·have:=W.len x h;omega
   ·rw[h];exact n.len
  rw[EV]at this;rcases hl with h | h <;> rw[h]at this <;> omega
 ·rcases mem x hx with h | h
  ·exact W.nl x h
  ·rw[h];exact n.nl
 ·rcases mem x hx with h | h
  ·rw[bT (W.fr x h)]at hq;rw[C9.mp hq];exact W.len x h
  ·rw[h]at hq;exact n.sh q hq hn
 ·refine iC ?_
  by_cases h32:32∈y
  ·exact dS (six h5 ⋯ h32)
  ·have e:sp 32 (jn 32 (ws.set i y))=ws.set i y:=fz h0 λ x hx=>by
    rcases mem x hx with h | h
    ·exact W.fr x h
    ·rw[h];exact h32
   unfold rdK;rw[e];rcases n.no with h | ⟨h,hr⟩ | ⟨h,hr⟩
   ·exact absurd h h32
   ·exact gN h il hr
   ·subst h;exact dU il hr
 ·have i0:i=0:=⋯
  subst i0;obtain⟨a,rfl⟩:∃a,ws=[a]:=List.length_eq_one_iff.mp h1;show rdN (jn 32 [y])=none;rw[show jn 32 [y]=y from by simp[jn]];rcases n.no with h | ⟨_,hr⟩ | ⟨h,_⟩
  ·exact dy (dA h ∅)
  ·exact hr
  ·cases h
theorem gP {r:Int} {n:Nat} (h0:0<=r) (h1:r < n):ixN n r=some r.toNat:=by unfold ixN;rw[Ez h0,Ez h1]
theorem nw4 {y:Str} (l:y.length<=130) (h10:10∉Lp y) (hn:∀q∈sp 32 (Lp y),isN q=true->q.length<=60) (h:32∈Lp y\/rdT (Lp y)=none):Nw 4 (Lp y):=%[by rw[<- av];exact l,h10,hn|h.imp_right λ h=>.inr %[U|h]]
def eight:Et Str:=["Turns","TURNS","stay","turnss","1","True","","turns stays"]
theorem oh:∀y∈eight,Nw 4 (Lp y):=by
 have a:∀y∈eight,decide (y.length<=130)=true/\decide (10∉Lp y)=true/\decide (∀q∈sp 32 (Lp y),isN q=true->q.length<=60)=true/\decide (32∈Lp y\/rdT (Lp y)=none)=true:=∅
 exactλ y hy=>nw4 (B8 (a y hy).1) (B8 (a y hy).2.1) (B8 (a y hy).2.2.1) (B8 (a y hy).2.2.2)
section
variable {P:Dl} {w:Do} {K:C4} {mg:Str->Er Dp} {base:Heap}
def sT:Sp:=λ vs H Q _=>∃ (p:Eo) (z:Str),vs=[.ref p,.str z]/\PotAt H p/\z.length<=1000/\Wd5 (sp 32 (Lp z))/\((sp 32 (Lp z)).length=1\/(sp 32 (Lp z)).length=5)/\∀z' H',Bl (sp 32 (Lp z)).length (Lp z')->PotAt H' p->But p H H'->Q (.str z') H'
theorem kQ (ws:Et (Et Nat)):Txt.join " " (ws.map mkS)=mkS (jn 32 ws):=by
 refine aR ?_;unfold Txt.join;rw[FQ,iE,dL,En];show jn 32 (ws.map id)=_;rw[List.map_id]
 rfl
theorem ju {m:Nat}:∀ws:Et (Et Nat),(∀x∈ws,x.length<=m)->(List.map (λ x:Str=>x.length) (ws.map mkS)).sum<=ws.length * m
 | [],_=>DG _
 | x :: r,h=>by have ih:=ju r λ y hy=>h y (B1 _ hy);have hx:=h x B5;simp only[EG,List.sum_cons,EA,Nat.succ_mul];rw[show(mkS x).length=x.length from av _];omega
theorem scsw:FnScope ["_law_pot_here","_law_line","_law_words","_law_at"] ["_law_pot_here","_law_line"] (defScope cu):=%[U,U,U,∅,U,∅|∅]
theorem xJ {f:Eo} {fd:Dm} (F:Fun K "_law_spoilt_word" "_law_spoilt_word" cu f fd) (B:Blt mg) (DD:Dn P w K mg base "_law_draw" ["_law_pot_here","_law_many"] 1 cA) (DB:Dn P w K mg base "_law_bad_number" ["_law_pot_here","_law_word"] 2 sS):FnOk P w K mg base CX0 3 f fd ["_law_pot_here","_law_line"] (sT):=by
 refine F.ok scsw (λ vs H Q E h=>?_) (λ cdv A outer s H vs Q E hr h=>?_)
 ·obtain⟨p,z,rfl,_⟩:=h
  rfl
 obtain⟨p,z,rfl,pt,zl,W,hl5,q⟩:=h;have nd:=scsw.nd;have hr1:=hr.mono (show 1<=2 by decide);refine%[_,((2∣(@bW _ _ _ _ _ _ _ _ _ _ _ _ E3 FB FC bI (pv 1) (ap^^^af) U U U U U))<<<((3∣(@ay _ _ _ _ _ _ _ _ _ _ DD hr1 U ((pv 0)^^^((@az _ _ _ _ _ _ _ _ _ aH U B.len E9 ((pv 2)^^^af) ∅ ∅ U U)^^^af)) ∅ U U))<<<((((pv 3)<*>bV<*>ai)<|>(@aj _ _ _ (@cX _ _ _ _ _ _ ((@bn _ _ _ _ (ap^^^(ap^^^(ap^^^(ap^^^(ap^^^(ap^^^(ap^^^(ap^^^af)))))))))&&&aE&&&(@ay _ _ _ _ _ _ _ _ _ _ DD hr1 U ((pv 0)^^^(ai^^^af)) ∅ U U)) (fe (pv 2) (pv 3) cZ) U U U))<|>(@aj _ _ _ (@cX _ _ _ _ _ _ (DB∪((pv 0)^^^(((pv 2)&&&aE&&&(pv 3))^^^af))) (fe (pv 2) (pv 3) cZ) U U U)))<<<((@bW _ _ _ _ _ _ _ _ _ _ _ _ E3 PySem.F.slot_str_join PySem.F.type_str_join eU ap ((pv 2)^^^af) U U U U U)⁻¹))))|?_];have sz:(1000000:Nat) < sizeLine:=∅
 have eS:=bC z 32;refine bu (λ σ' H'=>∃l,σ'=[↑p,some (.str z),↑l,none]/\H l=none/\H' l=↥(((sp 32 (Lp z)).map mkS).map V.str)/\Same H H') (λ R hR=>?_) ?_
 ·exact%[_,U,U,z,32,U,by rw[iE],⋯|λ l hl=>hR _ _ %[l,U,hl,by rw[eS];exact ag|Dq hl]]
 rintro _ H1 ⟨l,rfl,hl,k1,s1⟩;generalize sp 32 (Lp z)=ws at *;clear eS;have n1:1<=ws.length/\ws.length<=5:=⋯
 obtain⟨a0,b0,po,hp⟩:=id pt;have hlp:l≠p:=λ e=>by rw[e,hp]at hl;cases hl
 have ln:((ws.map mkS).map V.str).length=ws.length:=by rw[Dv,Dv]
 refine bu (λ σ' H'=>∃r:Int,σ'=[↑p,some (.str z),↑l,⇑r]/\0<=r/\r < ws.length/\PotAt H' p/\But p H1 H') (λ R hR=>?_) ?_
 ·exact%[_,U,_,U,l,_,U,.inl (Ds k1),p,_,U,%[a0,b0,po|s1 _ _ hp],⋯,⋯|λ r H2 r0 r1 pt2 b2=>hR _ _ %[r,U,r0,by rw[ln]at r1;exact r1,pt2|b2]]
 rintro _ H2 ⟨r,rfl,r0,r1,pt2,b2⟩;have k2:=b2 _ _ hlp k1;have b02:But p H H2:=λ c o n e=>b2 c o n (s1 c o e);refine bu (λ σ' H'=>σ'=[↑p,some (.str z),↑l,⇑r]/\∃y,Nw r.toNat y/\H' l=↥(((ws.set r.toNat y).map mkS).map V.str)/\PotAt H' p/\But p H H') (λ R hR=>?_) ?_
 ·have setk:∀y:Et Nat,(((ws.map mkS).map V.str).set r.toNat (.str (mkS y)))=((ws.set r.toNat y).map mkS).map V.str:=λ y=>by rw[List.map_set,List.map_set]
  refine%[_,U,U,_,U|?_]
  by_cases c4:r=4
  ·subst c4;refine bR (A7 rfl) %[zS8|λ e he=>?_];generalize hH:upd H2 e _=H3;have s3:Same H2 H3:=by subst hH;exact Dq he
   have k3:H3 e=↥(eight.map V.str):=by subst hH;exact ag
   clear hH;obtain⟨a2,b2',po2,hp2⟩:=id pt2;have hep:e≠p:=λ z=>by rw[z,hp2]at he;cases he
   refine%[_,U,p,8,U,%[a2,b2',po2|s3 _ _ hp2],∅,∅|λ r' H4 r0' r1' pt4 b4=>?_];have h8:r'.toNat < eight.length:=by show r'.toNat < 8;omega
   refine%[e,_,r',.str eight[r'.toNat],U,U,Ds (b4 _ _ hep k3),bz r0' (by rw[Dz,DJ h8];rfl)|?_];have k4:=b4 _ _ hlp (s3 _ _ k2);refine%[_,U,_,U,l,_,4,_,U,U,k4,gP ∅ (by rw[ln];exact r1)|?_];refine hR _ _ %[rfl,Lp eight[r'.toNat],oh _ (EY h8),?_,?_|λ c o n e'=>?_]
   ·rw[ag,<- setk,dh]
   ·obtain⟨a4,b4',po4,hp4⟩:=pt4;exact%[a4,b4',po4|by rw[ao (Ne.symm hlp)];exact hp4]
   ·rw[ao (λ z=>by rw[z,hl]at e';cases e')];exact b4 c o n (s3 _ _ (b02 c o n e'))
  ·have hrn:r.toNat < ws.length:=⋯
   have hx:ws[r.toNat]?=some ws[r.toNat]:=DJ hrn;have r4:r.toNat < 4:=⋯
   refine cx (A8 λ e=>c4 (V.int.inj e)) %[_,rfl,_,rfl,_,rfl,l,_,r,.str (mkS ws[r.toNat]),rfl,rfl,Ds k2,bz r0 (by rw[Dz,Dz,hx];rfl),p,mkS ws[r.toNat],rfl,pt2,W.num _ _ r4 hx,by rw[av];exact W.len _ (EY hrn)|λ z' H4 bw pt4 b4=>?_];have k4:=b4 _ _ hlp k2;refine%[_,U,_,U,l,_,r,_,U,U,k4,gP r0 (by rw[ln];exact r1)|?_];refine hR _ _ %[rfl,Lp z',bw.nw r4,?_,?_|λ c o n e'=>?_]
   ·rw[ag,<- setk,dh]
   ·obtain⟨a4,b4',po4,hp4⟩:=pt4;exact%[a4,b4',po4|by rw[ao (Ne.symm hlp)];exact hp4]
   ·rw[ao (λ z=>by rw[z,hl]at e';cases e')];exact b4 c o n (b02 c o n e')
 rintro _ H3 ⟨rfl,y,nw,k3,pt3,b03⟩;have bl:=jt W hl5 ⋯ nw;have nl:=nw.len;refine%[U,_,U," ",l,(ws.set r.toNat y).map mkS,U,U,k3,(by rw[cF];decide),?_|?_]
 ·have:=ju (m:=130) (ws.set r.toNat y) λ x hx=>by
   rcases EQ hx with h | h
   ·have:=W.len x h;omega
   ·rw[h];exact nl
  rw[EV]at this;rw[Dv,EV];have:ws.length * 130<=5 * 130:=Ea _ n1.2;omega
 rw[kQ];exact q _ H3 bl pt3 b03
end
theorem eD {α β:Type} (f:α->β):∀ (l:Et α) (i:Nat),(l.map f).eraseIdx i=(l.eraseIdx i).map f
 | [],_=>rfl
 | _ :: _,0=>rfl
 | a :: r,i+1=>by simp[eD f r i]
theorem oi {ws:Et (Et Nat)} (h0:ws≠[]) (fr:∀x∈ws,32∉x) (nl:∀x∈ws,10∉x) (len:∀x∈ws,x.length<=60) (h6:ws.length<=6) (hno:(rdW ws).bind (λ k=>if sdK k=true then some k else none)=none):Bl 5 (jn 32 ws):=by
 refine%[?_,gO ∅ _ nl,iH h0 λ x hx q hq hn=>?_,λ _=>?_|λ h=>absurd h ∅]
 ·have:=nZ (c:=32) (m:=60) ws len;have:ws.length * (60+1)<=6 * 61:=Ea _ h6;omega
 ·rw[bT (fr x hx)]at hq;rw[C9.mp hq];exact len x hx
 ·unfold rdG rdK;rw[fz h0 fr];exact hno
theorem iI {ws:Et (Et Nat)} {r:Nat} (hr:r < 2) (hl:r < ws.length):(rdW (ws.set r [48])).bind (λ k=>if sdK k=true then some k else none)=none:=by
 cases h:rdW (ws.set r [48])with
 | none=>rfl
 | some k=>
  obtain⟨a,b,c,d,e,ew,h1,h2,_⟩:=dR h;have il:(ws.set r [48])[r]?=some [48]:=Eb hl;rw[ew]at il;have z:rdN [48]=some 0:=∅
  show(if sdK k=true then some k else none)=none;have:r=0\/r=1:=⋯
  rcases this with rfl | rfl
  ·cases il;rw[z]at h1;rw[E1];unfold sdK;rw[<- B6 h1];simp
  ·cases il;rw[z]at h2;rw[E1];unfold sdK;rw[<- B6 h2];simp
def four:Et Str:=["1","turns","a",""]
theorem qb:∀y∈four,32∉Lp y/\10∉Lp y/\(Lp y).length<=60:=by
 have a:∀y∈four,decide (32∉Lp y)=true/\decide (10∉Lp y)=true/\decide ((Lp y).length<=60)=true:=∅
 exactλ y hy=>%[B8 (a y hy).1,B8 (a y hy).2.1|B8 (a y hy).2.2]
section
variable {P:Dl} {w:Do} {K:C4} {mg:Str->Er Dp} {base:Heap}
def sU:Sp:=λ vs H Q _=>∃ (p:Eo) (n:Int) (z:Str),vs=[.ref p,.int n,.str z]/\6<=n/\n<=8/\PotAt H p/\z.length<=1000/\Wd5 (sp 32 (Lp z))/\(sp 32 (Lp z)).length=5/\∀z' H',Bl 5 (Lp z')->PotAt H' p->But p H H'->Q (.str z') H'
theorem scsl:FnScope ["_law_pot_here","_law_way","_law_line","_law_words"] ["_law_pot_here","_law_way","_law_line"] (defScope cw):=%[U,U,U,∅,U,∅|∅]
theorem xK {f:Eo} {fd:Dm} (F:Fun K "_law_spoilt_line" "_law_spoilt_line" cw f fd) (B:Blt mg) (DD:Dn P w K mg base "_law_draw" ["_law_pot_here","_law_many"] 1 cA):FnOk P w K mg base CX0 2 f fd ["_law_pot_here","_law_way","_law_line"] (sU):=by
 refine F.ok scsl (λ vs H Q E h=>?_) (λ cdv A outer s H vs Q E hr h=>?_)
 ·obtain⟨p,n,z,rfl,_⟩:=h
  rfl
 obtain⟨p,n,z,rfl,n6,n8,pt,zl,W,h5,q⟩:=h;have nd:=scsl.nd;refine%[_,((3∣(@bW _ _ _ _ _ _ _ _ _ _ _ _ E3 FB FC bI (pv 2) (ap^^^af) U U U U U))<<<((((pv 1)<*>bV<*>ai)<|>(@aj _ _ _ (@cX _ _ _ _ _ _ ap (fe (pv 3) (DD∪((pv 0)^^^(ai^^^af))) cZ) U U U))<|>au)<<<((((pv 1)<*>bV<*>ai)<|>(@aj _ _ _ (@eI _ _ _ _ (@bW _ _ _ _ _ _ _ _ _ _ _ _ DV PySem.F.slot_list_pop PySem.F.type_list_pop mP (pv 3) ((DD∪((pv 0)^^^(ai^^^af)))^^^af) U U U U U) U))<|>au)<<<((((pv 1)<*>bV<*>ai)<|>(@aj _ _ _ (@eI _ _ _ _ (@bW _ _ _ _ _ _ _ _ _ _ _ _ DV PySem.F.slot_list_insert PySem.F.type_list_insert lG (pv 3) ((DD∪((pv 0)^^^(ai^^^af)))^^^(((@bn _ _ _ _ (ap^^^(ap^^^(ap^^^(ap^^^af)))))&&&aE&&&(DD∪((pv 0)^^^(ai^^^af))))^^^af)) U U U U U) U))<|>au)<<<((@bW _ _ _ _ _ _ _ _ _ _ _ _ E3 PySem.F.slot_str_join PySem.F.type_str_join eU ap ((pv 3)^^^af) U U U U U)⁻¹)))))|?_];have sz:(1000000:Nat) < sizeLine:=∅
 have eS:=bC z 32;refine bu (λ σ' H'=>∃l,σ'=[↑p,⇑n,some (.str z),↑l]/\H l=none/\H' l=↥(((sp 32 (Lp z)).map mkS).map V.str)/\Same H H') (λ R hR=>?_) ?_
 ·exact%[_,U,U,z,32,U,by rw[iE],⋯|λ l hl=>hR _ _ %[l,U,hl,by rw[eS];exact ag|Dq hl]]
 rintro _ H1 ⟨l,rfl,hl,k1,s1⟩;generalize sp 32 (Lp z)=ws at *;clear eS;obtain⟨a0,b0,po,hp⟩:=id pt;have pt1:PotAt H1 p:=%[a0,b0,po|s1 _ _ hp]
 have hlp:l≠p:=λ e=>by rw[e,hp]at hl;cases hl
 have ln:((ws.map mkS).map V.str).length=ws.length:=by rw[Dv,Dv]
 have lf:∀ {H':Hp} {o:HO},PotAt H' p->PotAt (upd H' l o) p:=λ⟨a4,b4',po4,hp4⟩=>%[a4,b4',po4|by rw[ao (Ne.symm hlp)];exact hp4]
 have bf:∀ {H':Hp} {o:HO},But p H H'->But p H (upd H' l o):=λ b c o n e'=>by rw[ao (λ z=>by rw[z,hl]at e';cases e')];exact b c o n e'
 have b1:But p H H1:=λ c o n e=>s1 c o e;have fin:∀ (ys:Et (Et Nat)) (H':Hp),ys.length<=6->(∀x∈ys,x.length<=60)->H' l=↥((ys.map mkS).map V.str)->PotAt H' p->But p H H'->Bl 5 (jn 32 ys)->True:=λ _ _ _ _ _ _ _ _=>trivial;have w0:ws≠[]:=λ e=>by rw[e]at h5;cases h5
 refine bu (λ σ' H'=>σ'=[↑p,⇑n,some (.str z),↑l]/\∃ys,ys.length<=6/\(∀x∈ys,x.length<=60)/\H' l=↥((ys.map mkS).map V.str)/\PotAt H' p/\But p H H'/\(if n=6 then Bl 5 (jn 32 ys)else ys=ws)) (λ R hR=>?_) ?_
 ·refine%[_,U,U,_,U|?_]
  by_cases c:n=6
  ·refine bR (A7 (by rw[c])) ?_;refine%[_,U,_,U,p,2,U,pt1,∅,∅|λ r H2 r0 r1 pt2 b2=>?_];have k2:=b2 _ _ hlp k1;refine%[l,_,r,_,U,U,k2,gP r0 (by rw[ln];omega)|?_];refine hR _ _ %[rfl,ws.set r.toNat [48],by rw[EV];omega,λ x hx=>?_,?_,lf pt2,bf (b1.trans b2)|?_]
   ·rcases EQ hx with h | h
    ·exact W.len x h
    ·rw[h];decide
   ·rw[ag,List.map_set,List.map_set,show mkS [48]=("0" : Str)from aR Lp_0.symm]
   ·rw[Ez c];refine oi (λ e=>by have:=FI List.length e;rw[EV,Em]at this;omega) (λ x hx=>?_) (λ x hx=>?_) (λ x hx=>?_) (by rw[EV];omega) (iI ⋯ ⋯)
    ·rcases EQ hx with h | h
     ·exact W.fr x h
     ·rw[h];decide
    ·rcases EQ hx with h | h
     ·exact W.nl x h
     ·rw[h];decide
    ·rcases EQ hx with h | h
     ·exact W.len x h
     ·rw[h];decide
  ·exact cx (A8 λ e=>c (V.int.inj e)) (hR _ _ %[rfl,ws,⋯,W.len,k1,pt1,b1|by rw[E1 c]])
 rintro _ H2 ⟨rfl,ys,y6,yl,k2,pt2,b2,hy⟩;refine bu (λ σ' H'=>σ'=[↑p,⇑n,some (.str z),↑l]/\∃ys,ys.length<=6/\(∀x∈ys,x.length<=60)/\H' l=↥((ys.map mkS).map V.str)/\PotAt H' p/\But p H H'/\(if n=6\/n=7 then Bl 5 (jn 32 ys)else ys=ws)) (λ R hR=>?_) ?_
 ·refine%[_,U,U,_,U|?_]
  by_cases c:n=7
  ·rw[E1 ⋯]at hy;subst hy;refine bR (A7 (by rw[c])) ?_;refine%[_,U,.inl %[U,_|Ds k2],_,U,p,5,U,pt2,∅,∅|λ r H3 r0 r1 pt3 b3=>?_];have k3:=b3 _ _ hlp k2;have hrn:r.toNat < ys.length:=⋯
   refine%[l,_,r,r.toNat,.str (mkS ys[r.toNat]),U,U,k3,⋯,⋯,(gp (gP r0 (by rw[ln];omega))).1,by rw[Dz,Dz,DJ hrn];rfl|?_];have sub:∀x∈ys.eraseIdx r.toNat,x∈ys:=λ x hx=>List.mem_of_mem_eraseIdx hx;have le:(ys.eraseIdx r.toNat).length=4:=by rw[List.length_eraseIdx,Ez hrn,h5]
   refine hR _ _ %[rfl,ys.eraseIdx r.toNat,⋯,λ x hx=>W.len x (sub x hx),?_,lf pt3,bf (b2.trans b3)|?_]
   ·rw[ag,eD,eD]
   ·rw[Ez (.inr c)];exact oi (λ e=>by rw[e]at le;cases le) (λ x hx=>W.fr x (sub x hx)) (λ x hx=>W.nl x (sub x hx)) (λ x hx=>W.len x (sub x hx)) ⋯ (by rw[dS ⋯];rfl)
  ·refine cx (A8 λ e=>c (V.int.inj e)) (hR _ _ %[rfl,ys,y6,yl,k2,pt2,b2|?_])
   by_cases c6:n=6
   ·rw[Ez c6]at hy;rw[Ez (.inl c6)];exact hy
   ·rw[E1 c6]at hy;rw[E1 ⋯];exact hy
 clear hy y6 yl k2 pt2 b2;clear ys H2;rintro _ H2 ⟨rfl,ys,y6,yl,k2,pt2,b2,hy⟩;refine bu (λ σ' H'=>σ'=[↑p,⇑n,some (.str z),↑l]/\∃ys,ys.length<=6/\(∀x∈ys,x.length<=60)/\H' l=↥((ys.map mkS).map V.str)/\PotAt H' p/\But p H H'/\Bl 5 (jn 32 ys)) (λ R hR=>?_) ?_
 ·refine%[_,U,U,_,U|?_]
  by_cases c:n=8
  ·rw[E1 ⋯]at hy;subst hy;refine bR (A7 (by rw[c])) ?_;refine%[_,U,.inl %[U,_|Ds k2],_,U,p,6,U,pt2,∅,∅|λ r H3 r0 r1 pt3 b3=>?_];refine%[zS4|λ e he=>?_];generalize hH:upd H3 e _=H4;have s4:Same H3 H4:=by subst hH;exact Dq he
   have k4:H4 e=↥(four.map V.str):=by subst hH;exact ag
   clear hH;obtain⟨a3,b3',po3,hp3⟩:=id pt3;have hep:e≠p:=λ z=>by rw[z,hp3]at he;cases he
   refine%[_,U,p,4,U,%[a3,b3',po3|s4 _ _ hp3],∅,∅|λ r' H5 r0' r1' pt5 b5=>?_];have h4:r'.toNat < four.length:=by show r'.toNat < 4;omega
   refine%[e,_,r',.str four[r'.toNat],U,U,Ds (b5 _ _ hep k4),bz r0' (by rw[Dz,DJ h4];rfl)|?_];have k5:=b5 _ _ hlp (s4 _ _ (b3 _ _ hlp k2));obtain⟨f1,f2,f3⟩:=qb _ (EY h4);generalize four[r'.toNat]=y at f1 f2 f3 ⊢;refine%[l,_,r,.str y,U,U,k5,r0,by rw[ln];omega,by rw[ln];omega|?_];have mm:∀x∈ys.take r.toNat ++ Lp y :: ys.drop r.toNat,x∈ys\/x=Lp y:=λ x hx=>by
    rcases C0.mp hx with h | h
    ·exact .inl (List.mem_of_mem_take h)
    ·rcases Dx.mp h with h | h
     ·exact .inr h
     ·exact .inl (List.mem_of_mem_drop h)
   have le:(ys.take r.toNat ++ Lp y :: ys.drop r.toNat).length=6:=by rw[Dw,EA,EF,EN];omega
   have ll:∀x∈ys.take r.toNat ++ Lp y :: ys.drop r.toNat,x.length<=60:=λ x hx=>by
    rcases mm x hx with h | h
    ·exact W.len x h
    ·rw[h];exact f3
   refine hR _ _ %[rfl,_,⋯,ll,?_,lf pt5,bf (λ c o n e'=>b5 c o n (s4 _ _ (b3 c o n (b2 c o n e'))))|?_]
   ·rw[ag,EB,EB,EG,EG,Ek,Ek,List.map_drop,List.map_drop,dh]
   ·refine oi (λ e=>by rw[e]at le;cases le) (λ x hx=>?_) (λ x hx=>?_) ll ⋯ (by rw[dS ⋯];rfl)
    ·rcases mm x hx with h | h
     ·exact W.fr x h
     ·rw[h];exact f1
    ·rcases mm x hx with h | h
     ·exact W.nl x h
     ·rw[h];exact f2
  ·refine cx (A8 λ e=>c (V.int.inj e)) (hR _ _ %[rfl,ys,y6,yl,k2,pt2,b2|?_]);rw[Ez ⋯]at hy;exact hy
 clear hy y6 yl k2 pt2 b2;clear ys H2;rintro _ H2 ⟨rfl,ys,y6,yl,k2,pt2,b2,bl⟩;refine%[U,_,U," ",l,ys.map mkS,U,U,k2,(by rw[cF];decide),?_|?_]
 ·have:=ju (m:=60) ys yl;rw[Dv];have:ys.length * 60<=6 * 60:=Ea _ y6;omega
 rw[kQ];exact q _ H2 bl pt2 b2
end
def sgs:Str := " !\"#$&'()*+,-./0123456789:;<=>?@ABCDEFGHIJKLMNOPQRSTUVWXYZ[\\]^_`abcdefghijklmnopqrstuvwxyz{|}~\n"
theorem sV:∀c∈Lp sgs,c < 128:=by
 have a:∀c∈Lp sgs,decide (c < 128)=true:=∅
 exactλ c hc=>B8 (a c hc)
theorem qc:(Lp sgs).length=95/\sgs.length=95:=∅
theorem xL (c:Nat) (b:Bool):PySem.MulOk %[|#[c]] (if b=true then 1 else 0)/\(Txt.mul %[|#[c]] (if b=true then 1 else 0)).length<=1/\∀d∈Lp (Txt.mul %[|#[c]] (if b=true then 1 else 0)),d=c:=by
 cases b with
 | false=>exact%[%[U,λ h=>absurd ∅ h|λ h=>absurd ∅ h],DG _|λ d hd=>by cases hd]
 | true=>exact%[%[U,(λ _ h=>by simp at h)|(λ _ h=>by simp at h)],B0 _|λ d hd=>C9.mp hd]
section
variable {P:Dl} {w:Do} {K:C4} {mg:Str->Er Dp} {base:Heap}
def sW:Sp:=λ vs H Q _=>∃ (p:Eo) (z:Str),vs=[.ref p,.str z]/\PotAt H p/\(∀c∈Lp z,c < 128)/\z.length<=40000/\∀z' H',(∀c∈Lp z',c < 128)->z'.length<=100000->PotAt H' p->But p H H'->Q (.str z') H'
theorem scot:FnScope ["_law_pot_here","_law_text_here","_law_signs","_law_at","_law_way","_law_sign"] ["_law_pot_here","_law_text_here"] (defScope gL):=%[U,U,U,∅,U,∅|∅]
theorem xM {f:Eo} {fd:Dm} (F:Fun K "_law_other" "_law_other" gL f fd) (B:Blt mg) (DD:Dn P w K mg base "_law_draw" ["_law_pot_here","_law_many"] 1 cA):FnOk P w K mg base CX0 2 f fd ["_law_pot_here","_law_text_here"] (sW):=by
 refine F.ok scot (λ vs H Q E h=>?_) (λ cdv A outer s H vs Q E hr h=>?_)
 ·obtain⟨p,z,rfl,_⟩:=h
  rfl
 obtain⟨p,z,rfl,pt,za,zl,q⟩:=h;have nd:=scot.nd;refine%[_,((2∣ap)<<<((3∣(DD∪((pv 0)^^^(((@az _ _ _ _ _ _ _ _ _ bX U B.len E9 ((pv 1)^^^af) ∅ ∅ U U)|||bG|||ai)^^^af))))<<<((4∣(DD∪((pv 0)^^^(ai^^^af))))<<<((5∣(((pv 2)&&&mL&&&(DD∪((pv 0)^^^((@az _ _ _ _ _ _ _ _ _ bX U B.len E9 ((pv 2)^^^af) ∅ ∅ U U)^^^af))))|||ph|||(@bg _ _ _ _ _ _ _ _ _ ee U B.int FG ((@cm _ _ _ _ _ _ _ _ fg (pv 4) ai (ax _))^^^af) ∅ ∅ U U)))<<<((((@aO _ _ _ _ _ _ _ _ _ _ eu (pv 1) bi (aW (pv 3)))|||aD|||(pv 5))|||aD|||(@aO _ _ _ _ _ _ _ _ _ _ eu (pv 1) (aW ((pv 3)|||bG|||((@bn _ _ _ _ (ai^^^(ai^^^(ai^^^af))))&&&aE&&&(pv 4)))) bi))⁻¹)))))|?_];have sz:(1000000:Nat) < sizeLine:=∅
 obtain⟨sL,sl⟩:=qc;refine bu (λ σ' H'=>σ'=[↑p,some (.str z),some (.str sgs),none,none,none]/\H=H') (λ R hR=>hR _ _ %[rfl|rfl]) ?_;rintro _ _ ⟨rfl,rfl⟩;refine bu (λ σ' H'=>∃r:Int,σ'=[↑p,some (.str z),some (.str sgs),⇑r,none,none]/\0<=r/\PotAt H' p/\But p H H') (λ R hR=>?_) ?_
 ·exact%[_,U,_,U,z,U,⋯,_,_,U,U,p,_,U,pt,⋯,⋯|λ r H2 r0 r1 pt2 b2=>hR _ _ %[r,U,r0,pt2|b2]]
 rintro _ H1 ⟨r,rfl,r0,pt1,b1⟩;refine bu (λ σ' H'=>∃n:Int,σ'=[↑p,some (.str z),some (.str sgs),⇑r,⇑n,none]/\0<=n/\n < 3/\PotAt H' p/\But p H H') (λ R hR=>?_) ?_
 ·exact%[_,U,p,3,U,pt1,∅,∅|λ n H2 n0 n1 pt2 b2=>hR _ _ %[n,U,n0,n1,pt2|b1.trans b2]]
 rintro _ H2 ⟨n,rfl,n0,n3,pt2,b2⟩;refine bu (λ σ' H'=>∃u:Str,σ'=[↑p,some (.str z),some (.str sgs),⇑r,⇑n,some (.str u)]/\u.length<=1/\(∀c∈Lp u,c < 128)/\PotAt H' p/\But p H H') (λ R hR=>?_) ?_
 ·refine%[_,U,_,U,_,U,sgs,U,⋯,p,_,U,pt2,by rw[sl];decide,by rw[sl];decide|λ y H3 y0 y1 pt3 b3=>?_];have hy:y.toNat < (Lp sgs).length:=by rw[sL];rw[sl]at y1;omega
  refine%[sgs,y,(Lp sgs)[y.toNat],U,U,⋯,bz y0 (DJ hy)|?_];obtain⟨m1,m2,m3⟩:=xL (Lp sgs)[y.toNat] (decide (0 < n));have hc:=sV _ (EY hy);generalize(Lp sgs)[y.toNat]=c at m1 m2 m3 hc ⊢;refine%[_,U,_,_,U,U|.inr %[_,U|%[_,_,U,U,m1|hR _ _ %[_,U,m2,λ d hd=>by rw[m3 d hd];exact hc,pt3|b2.trans b3]]]]
 rintro _ H3 ⟨u,rfl,ul,ua,pt3,b3⟩;have l1:=FH z none (some r);refine%[_,U,_,U,r,U,z,U,⋯,_,U,_,_,U,U,⋯,_,U,_,U,zS3|λ l hl=>?_];have s4:Same H3 (upd H3 l (.lst [.int 1,.int 0,.int 1])):=Dq hl;have k4:(upd H3 l (.lst [.int 1,.int 0,.int 1])) l=↥[.int 1,.int 0,.int 1]:=ag;have pt4:=pt3.new (o:=.lst [.int 1,.int 0,.int 1]) hl;generalize upd H3 l (.lst [.int 1,.int 0,.int 1])=H4 at s4 k4 pt4 ⊢;obtain⟨d,hd⟩:∃d:Int,([.int 1,.int 0,.int 1]:Et V)[n.toNat]? = ⇑d:=by
  have:n.toNat=0\/n.toNat=1\/n.toNat=2:=⋯
  rcases this with h | h | h <;> rw[h]
  ·exact%[1|U]
  ·exact%[0|U]
  ·exact%[1|U]
 have l2:=FH z (some (r+d)) none;refine%[_,U,l,_,n,.int d,U,U,Ds k4,bz n0 hd,r,d,U,U,r+d,U,z,U,⋯,_,_,U,U,by rw[aM];omega|?_];refine q _ H4 (λ c hc=>?_) (by rw[aM,aM];omega) pt4 λ c o n e=>s4 c o (b3 c o n e);rw[aU,aU]at hc;rcases C0.mp hc with h | h
 ·rcases C0.mp h with h | h
  ·exact za c (cL z _ _ c h)
  ·exact ua c h
 ·exact za c (cL z _ _ c h)
end
theorem jv (c:Nat):∀L:Et (Et Nat),L≠[]->jn c (L ++ [[]])=jn c L ++ [c]
 | [],h=>absurd rfl h
 | [a],_=>by simp[jn]
 | a :: b :: r,_=>by rw[EO,bZ (by simp),bZ (a:=a) (r:=b :: r) (by simp),jv c (b :: r) (by simp)];simp
theorem oj (ls:Et Str):Lp (tx ls)=jn 10 (ls.map Lp ++ [[]]):=by
 rw[qW,En]
 rfl
theorem qZ {ls:Et Str} (h:∀x∈ls,10∉Lp x):sp 10 (Lp (tx ls))=ls.map Lp ++ [[]]:=by
 rw[oj];refine fz (by simp) λ p hp=>?_;rcases C0.mp hp with hp | hp
 ·obtain⟨x,hx,rfl⟩:=ED.mp hp;exact h x hx
 ·rw[C9.mp hp];simp
theorem fH {ls:Et Str} (h:∀x∈ls,10∉Lp x):rdS (Lp (tx ls))=if 2<=ls.length/\ls.length<=9 then rdL (ls.map Lp)else none:=by
 unfold rdS;simp only[qZ h];have e1:(ls.map Lp ++ [[]]).getLast?=some ([]:Et Nat):=List.getLast?_concat ..;have e2:(ls.map Lp ++ [[]]).dropLast=ls.map Lp:=List.dropLast_concat ..;rw[e1,e2,Dw,Dv,Ed]
 by_cases c:2<=ls.length/\ls.length<=9
 ·rw[Ez %[rfl,⋯|⋯],Ez c]
 ·rw[E1 (λ z=>c %[⋯|⋯]),E1 c]
structure Ls (ls:Et Str):Prop where
 nl:∀x∈ls,10∉Lp x
 sh:∀x∈ls,∀q∈sp 32 (Lp x),isN q=true->q.length<=60
 le:∀x∈ls,x.length<=1000
 n:ls.length<=30
theorem Ls.txl {ls:Et Str} (h:Ls ls):(tx ls).length<=40000:=by
 have:∀ls:Et Str,(∀x∈ls,x.length<=1000)->(Lp (tx ls)).length<=ls.length * 1001:=λ ls=>by
  induction ls with
  | nil=>intro _;exact B0 _
  | cons x r ih=>
   intro h;have hx:=h x B5;have ih:=ih λ y hy=>h y (B1 _ hy);have e:Lp (tx (x :: r))=(Lp x ++ [10]) ++ Lp (tx r):=rfl;rw[e,Dw,Dw,<- av,Ed];have:(x :: r).length * 1001=r.length * 1001+1001:=by rw[EA];omega
   omega
 have h1:=this ls h.le;have h2:ls.length * 1001<=30 * 1001:=Ea _ h.n;rw[av];omega
theorem Ls.sh' {ls:Et Str} (h:Ls ls):Sh (Lp (tx ls)):=λ p hp q hq hn=>by
 rw[qZ h.nl]at hp;rcases C0.mp hp with hp | hp
 ·obtain⟨x,hx,rfl⟩:=ED.mp hp;exact h.sh x hx q hq hn
 ·rw[C9.mp hp]at hq;have:q=[]:=by simpa[sp]using hq
  rw[this];simp
theorem Ls.bad {K:C4} {H:Hp} {ls:Et Str} (h:Ls ls) (r:rdS (Lp (tx ls))=none):fE K H (.str (tx ls)) :=
 .inr %[_,U,C6 h.txl ∅,h.sh'|r]
theorem fI {b:Int} {ks:Et Kd} (hb:Nn b) (hg:∀k∈ks,Good k) (n8:ks.length<=8):Ls (lns b ks):=by
 refine%[nq hb hg,λ x hx q hq _=>?_,λ x hx=>?_|by simp[lns];omega]
 ·rcases Dx.mp hx with rfl | hx
  ·rw[hb.sg,bT (cb ∅)]at hq;rw[C9.mp hq];exact hb.sgl
  ·obtain⟨k,hk,rfl⟩:=ED.mp hx;have g:=hg k hk;have hq:=hq;rw[ft,fz (by simp[aQ]) (λ p hp=>by
    obtain⟨x,hx,rfl⟩:=ED.mp hp;exact bP g 32 (.inl rfl) x hx)]at hq
   obtain⟨x,hx,rfl⟩:=ED.mp hq;rw[<- av];simp only[aQ,Dx,EH,FV]at hx;rcases hx with rfl | rfl | rfl | rfl | rfl
   ·exact g.nw.len
   ·exact g.nh.len
   ·exact g.nwo.len
   ·exact g.nwa.len
   ·rw[gF];decide
 ·rcases Dx.mp hx with rfl | hx
  ·have:=hb.len;omega
  ·obtain⟨k,hk,rfl⟩:=ED.mp hx;have:=pd (hg k hk);omega
theorem ol {k:Kd} (g:Good k):sp 32 (Lp (kln k))=(aQ k).map Lp:=by rw[ft];refine fz (by simp[aQ]) λ p hp=>?_;obtain⟨x,hx,rfl⟩:=ED.mp hp;exact bP g 32 (.inl rfl) x hx
theorem qd {b:Int} {ks:Et Kd} (hb:Nn b) (hg:∀k∈ks,Good k) {i:Nat} {x:Str} (hx:(lns b ks)[i]?=some x):Wd5 (sp 32 (Lp x))/\(sp 32 (Lp x)).length=(if i=0 then 1 else 5):=by
 cases i with
 | zero=>
  cases hx;rw[hb.sg,bT (cb ∅)];refine%[%[λ y hy=>?_,λ y hy=>?_,λ y hy=>?_|λ j y hj hy=>?_]|U]
  ·rw[C9.mp hy];exact cb ∅
  ·rw[C9.mp hy];exact cb ∅
  ·rw[C9.mp hy];exact hb.sgl
  ·have:y=sg b.toNat:=by
    cases j with
    | zero=>cases hy;rfl
    | succ j=>cases hy
   rw[this];exact eC _
 | succ i=>
  have hx:(ks.map kln)[i]?=some x:=hx;rw[Dz]at hx;obtain⟨k,hk,rfl⟩:=EC.mp hx;have g:=hg k (B2 hk);rw[ol g];have mem:∀y∈(aQ k).map Lp,32∉y/\10∉y:=λ y hy=>by obtain⟨x,hx,rfl⟩:=ED.mp hy;exact%[bP g 32 (.inl rfl) x hx|bP g 10 (.inr rfl) x hx]
  refine%[%[λ y hy=>(mem y hy).1,λ y hy=>(mem y hy).2,λ y hy=>?_|λ j y hj hy=>?_]|U]
  ·obtain⟨x,hx,rfl⟩:=ED.mp hy;rw[<- av];simp only[aQ,Dx,EH,FV]at hx;rcases hx with rfl | rfl | rfl | rfl | rfl
   ·exact g.nw.len
   ·exact g.nh.len
   ·exact g.nwo.len
   ·exact g.nwa.len
   ·rw[gF];decide
  ·rw[Dz]at hy;obtain⟨x,hx,rfl⟩:=EC.mp hy
   match j,hj,hx with
   | 0,_,hx=>cases hx;rw[g.nw.sg];exact eC _
   | 1,_,hx=>cases hx;rw[g.nh.sg];exact eC _
   | 2,_,hx=>cases hx;rw[g.nwo.sg];exact eC _
   | 3,_,hx=>cases hx;rw[g.nwa.sg];exact eC _
theorem dW {K:C4} {H:Hp} {ls:Et Str} (h:Ls ls) {i:Nat} (hi:i < ls.length) {z:Str} {n:Nat} (hn:n=if i=0 then 1 else 5) (b:Bl n (Lp z)):Ls (ls.take i ++ [z] ++ ls.drop (i+1))/\fE K H (.str (tx (ls.take i ++ [z] ++ ls.drop (i+1)))):=by
 have mem:∀x∈ls.take i ++ [z] ++ ls.drop (i+1),x∈ls\/x=z:=λ x hx=>by
  rcases C0.mp hx with hx | hx
  ·rcases C0.mp hx with hx | hx
   ·exact .inl (List.mem_of_mem_take hx)
   ·exact .inr (C9.mp hx)
  ·exact .inl (List.mem_of_mem_drop hx)
 have L:Ls (ls.take i ++ [z] ++ ls.drop (i+1)):=by
  refine%[λ x hx=>?_,λ x hx=>?_,λ x hx=>?_|?_]
  ·rcases mem x hx with h' | rfl
   ·exact h.nl x h'
   ·exact b.nl
  ·rcases mem x hx with h' | rfl
   ·exact h.sh x h'
   ·exact b.sh
  ·rcases mem x hx with h' | rfl
   ·exact h.le x h'
   ·rw[av];exact b.len
  ·have:=h.n;simp;omega
 refine%[L|L.bad ?_];rw[fH L.nl]
 split
 ·unfold rdL;cases i with
  | zero=>
   have e:rdN (Lp z)=none:=b.nu hn;simp[e]
  | succ i=>
   have e:rdG (Lp z)=none:=b.kd hn;obtain⟨a,t,rfl⟩:∃a t,ls=a :: t:=by
    cases ls with
    | nil=>simp at hi
    | cons a t=>exact%[a,t|U]
   have:cU rdG (((a :: t).take (i+1) ++ [z] ++ (a :: t).drop (i+1+1)).map Lp).tail=none:=cK (a:=Lp z) (by simp) e;rw[this];cases rdN _ <;> rfl
 ·rfl
theorem om {K:C4} {H:Hp} {ls:Et Str} (h:Ls ls) (h0:ls≠[]) (hne:∀x∈ls,Lp x≠[]):fE K H (.str (Txt.slice (tx ls) none (some (-1)))):=by
 have sz:(1000000:Nat) < sizeLine:=∅
 have tl:=h.txl;have L0:ls.map Lp≠[]:=by simpa using h0
 have z1:1<=(tx ls).length:=by rw[av,oj,jv 10 _ L0,Dw,Ed];omega
 have e:Lp (Txt.slice (tx ls) none (some (-1)))=jn 10 (ls.map Lp):=by rw[js z1,oj,jv 10 _ L0,List.dropLast_concat]
 have es:sp 10 (jn 10 (ls.map Lp))=ls.map Lp:=fz L0 λ p hp=>by obtain⟨x,hx,rfl⟩:=ED.mp hp;exact h.nl x hx
 have le:=FH (tx ls) none (some (-1));refine .inr %[_,U,⋯,λ p hp q hq hn=>?_|iA λ hl=>?_]
 ·rw[e,es]at hp;obtain⟨x,hx,rfl⟩:=ED.mp hp;exact h.sh x hx q hq hn
 ·rw[e]at hl;obtain⟨r,er⟩:∃r,jn 10 (ls.map Lp)=r ++ [10]:=by
   rcases Ei (jn 10 (ls.map Lp))with e | ⟨i,x,e⟩
   ·rw[e]at hl;cases hl
   ·rw[e]at hl;simp at hl;exact%[i|by rw[e,hl];simp]
  rw[er,dj]at es;have:([]:Et Nat)∈ls.map Lp:=by rw[<- es];simp
  obtain⟨x,hx,e⟩:=ED.mp this;exact hne x hx e
theorem Ls.app {ls ms:Et Str} (h:Ls ls) (g:Ls ms) (n:ls.length+ms.length<=30):Ls (ls ++ ms):=by
 refine%[λ x hx=>?_,λ x hx=>?_,λ x hx=>?_|by rw[Dw];exact n]
 ·exact(C0.mp hx).elim (h.nl x) (g.nl x)
 ·exact(C0.mp hx).elim (h.sh x) (g.sh x)
 ·exact(C0.mp hx).elim (h.le x) (g.le x)
theorem Ls.of {ls ms:Et Str} (h:Ls ls) (n:ms.length<=30) (s:∀x∈ms,x∈ls):Ls ms:=%[λ x hx=>h.nl x (s x hx),λ x hx=>h.sh x (s x hx),λ x hx=>h.le x (s x hx)|n]
theorem Ls.e:Ls [""]:=⟨λ x hx=>by rw[C9.mp hx,Lp_no];simp,λ x hx q hq _=>by
 rw[C9.mp hx,Lp_no]at hq;have:q=[]:=by simpa[sp]using hq
 rw[this];simp,λ x hx=>by rw[C9.mp hx];decide,∅⟩
theorem qe (ls:Et Str):tx ls ++ ("\n" : Str)=tx (ls ++ [("" : Str)]):=aR (by
 rw[aU,kB];show(ls.map λ x=>Lp x ++ [10]).flatten ++ [10]=((ls ++ [("" : Str)]).map λ x=>Lp x ++ [10]).flatten;rw[EB,List.flatten_append];simp[Lp_no])
theorem sX (x:Str):x ++ ("\n" : Str)=tx [x]:=aR (by
 rw[aU,kB];show _=([x].map λ x=>Lp x ++ [10]).flatten;simp)
theorem oo {K:C4} {H:Hp} {ls:Et Str} (h:Ls ls) (h0:ls≠[]) (n:ls.length<=20):fE K H (.str (tx ls ++ "\n")):=by
 rw[qe];have L:=h.app Ls.e (by show ls.length+1<=30;omega);refine L.bad ?_;rw[fH L.nl]
 split
 ·obtain⟨a,t,rfl⟩:=List.exists_cons_of_ne_nil h0;unfold rdL;have:cU rdG ((a :: t ++ [("" : Str)]).map Lp).tail=none:=cK (a:=[]) (by simp[Lp_no]) ∅;rw[this];cases rdN _ <;> rfl
 ·rfl
theorem kR {K:C4} {H:Hp} {ls:Et Str} (h:Ls ls) {x:Str} (hx:x∈ls):fE K H (.str (x ++ "\n")):=by
 rw[sX];have L:=h.of (ms:=[x]) (by show 1<=30;decide) λ y hy=>by rw[C9.mp hy];exact hx
 refine L.bad ?_;rw[fH L.nl]
 rfl
theorem iJ {K:C4} {H:Hp} {ls ms:Et Str} (h:Ls ls) (n:10<=ms.length) (n':ms.length<=30) (s:∀x∈ms,x∈ls):Ls ms/\fE K H (.str (tx ms)):=by have L:=h.of n' s;refine%[L|L.bad ?_];rw[fH L.nl,E1 ⋯]
theorem oq {K:C4} {H:Hp}:∀x∈(["", "\n", " ", "0"]:Et Str),fE K H (.str x):=by
 have a:∀x∈(["", "\n", " ", "0"]:Et Str),decide (x.length < sizeLine)=true/\decide (∀p∈sp 10 (Lp x),∀q∈sp 32 p,isN q=true->q.length<=60)=true/\(rdS (Lp x)).isNone=true:=∅
 intro x hx;obtain⟨a1,a2,a3⟩:=a x hx;exact .inr %[x,U,B8 a1,(show Sh (Lp x)from(B8 a2:∀p∈sp 10 (Lp x),∀q∈sp 32 p,isN q=true->q.length<=60))|Option.isNone_iff_eq_none.mp a3]
section
variable {P:Dl} {w:Do} {K:C4} {mg:Str->Er Dp} {base:Heap}
def sY:C4->Sp:=λ K vs H Q _=>∃ (p l:Eo) (b:Int) (ks:Et Kd),vs=[.ref p,.ref l]/\PotAt H p/\H l=↥((lns b ks).map V.str)/\Nn b/\(∀k∈ks,Good k)/\1<=ks.length/\ks.length<=8/\∀v H',fE K H' v->PotAt H' p->But p H H'->Q v H'
theorem scsp:FnScope ["_law_pot_here","_law_lines_here","_law_way","_law_text_here","_law_at"] ["_law_pot_here","_law_lines_here"] (defScope eZ):=%[U,U,U,∅,U,∅|∅]
theorem xN {f:Eo} {fd:Dm} (F:Fun K "_law_spoilt" "_law_spoilt" eZ f fd) (B:Blt mg) (DD:Dn P w K mg base "_law_draw" ["_law_pot_here","_law_many"] 1 cA) (DX:Dn P w K mg base "_law_text" ["_law_lines_here"] 1 pW) (DW:Dn P w K mg base "_law_spoilt_word" ["_law_pot_here","_law_line"] 3 sT) (DL:Dn P w K mg base "_law_spoilt_line" ["_law_pot_here","_law_way","_law_line"] 2 sU):FnOk P w K mg base CX0 4 f fd ["_law_pot_here","_law_lines_here"] (sY K):=by
 refine F.ok scsp (λ vs H Q E h=>?_) (λ cdv A outer s H vs Q E hr h=>?_)
 ·obtain⟨p,l,b,ks,rfl,_⟩:=h
  rfl
 obtain⟨p,l,b,ks,rfl,pt,hl,hb,hg,n1,n8,q⟩:=h;have nd:=scsp.nd;have hr1:=hr.mono (show 1<=3 by decide);refine%[_,((2∣(@ay _ _ _ _ _ _ _ _ _ _ DD hr1 U ((pv 0)^^^(ai^^^af)) ∅ U U))<<<((3∣(@ay _ _ _ _ _ _ _ _ _ _ DX hr1 U ((pv 1)^^^af) ∅ U U))<<<((((pv 2)<*>bV<*>ai)<|>((@aO _ _ _ _ _ _ _ _ _ _ eu (pv 3) bi (aW (@jV _ _ _ _ _ _ gl ai)))⁻¹)<|>au)<<<((((pv 2)<*>bV<*>ai)<|>(((pv 3)|||aD|||ap)⁻¹)<|>au)<<<((((pv 2)<*>bV<*>ai)<|>((((pv 1)&&&aE&&&ai)|||aD|||ap)⁻¹)<|>au)<<<((((pv 2)<*>bV<*>ai)<|>((@ay _ _ _ _ _ _ _ _ _ _ DX hr1 U (((pv 1)|||du|||((@bn _ _ _ _ (((pv 1)&&&aE&&&ai)^^^af))|||rF|||ai))^^^af) ∅ U U)⁻¹)<|>au)<<<((((pv 2)<*>bV<*>ai)<|>(((@bn _ _ _ _ (ap^^^(ap^^^(ap^^^(ap^^^((((pv 1)&&&aE&&&ai)|||aD|||ap)^^^af))))))&&&aE&&&(@ay _ _ _ _ _ _ _ _ _ _ DD hr1 U ((pv 0)^^^(ai^^^af)) ∅ U U))⁻¹)<|>au)<<<((((pv 2)<*>bV<*>ai)<|>(((@bn _ _ _ _ (cc^^^(ai^^^((@bn _ _ _ _ ((pv 3)^^^af))^^^((@cg _ _ _ _ _ ((pv 3)^^^af))^^^(jd^^^(dl^^^af)))))))&&&aE&&&(@ay _ _ _ _ _ _ _ _ _ _ DD hr1 U ((pv 0)^^^(ai^^^af)) ∅ U U))⁻¹)<|>au)<<<((((pv 2)<*>fg<*>ai)<|>((4∣(@ay _ _ _ _ _ _ _ _ _ _ DD hr1 U ((pv 0)^^^((@az _ _ _ _ _ _ _ _ _ aH U B.len E9 ((pv 1)^^^af) ∅ ∅ U U)^^^af)) ∅ U U))<<<((@ay _ _ _ _ _ _ _ _ _ _ DX hr1 U ((((@aO _ _ _ _ _ _ _ _ _ _ bK (pv 1) bi (aW (pv 4)))|||du|||(@bn _ _ _ _ ((DW∪((pv 0)^^^(((pv 1)&&&aE&&&(pv 4))^^^af)))^^^af)))|||du|||(@aO _ _ _ _ _ _ _ _ _ _ bK (pv 1) (aW ((pv 4)|||bG|||ai)) bi))^^^af) ∅ U U)⁻¹))<|>au)<<<((4∣(ai|||bG|||(@ay _ _ _ _ _ _ _ _ _ _ DD hr1 U ((pv 0)^^^(((@az _ _ _ _ _ _ _ _ _ aH U B.len E9 ((pv 1)^^^af) ∅ ∅ U U)|||my|||ai)^^^af)) ∅ U U)))<<<((@ay _ _ _ _ _ _ _ _ _ _ DX hr1 U ((((@aO _ _ _ _ _ _ _ _ _ _ bK (pv 1) bi (aW (pv 4)))|||du|||(@bn _ _ _ _ ((DL∩((pv 0)^^^((pv 2)^^^(((pv 1)&&&aE&&&(pv 4))^^^af))))^^^af)))|||du|||(@aO _ _ _ _ _ _ _ _ _ _ bK (pv 1) (aW ((pv 4)|||bG|||ai)) bi))^^^af) ∅ U U)⁻¹)))))))))))|?_];have sz:(1000000:Nat) < sizeLine:=∅
 have L:=fI hb hg n8;have wd:=λ i x (hx:(lns b ks)[i]?=some x)=>qd hb hg hx;have e2:∃k0 kr,ks=k0 :: kr:=by
  cases ks with
  | nil=>simp at n1
  | cons a t=>exact%[a,t|U]
 have ll:(lns b ks).length=ks.length+1:=by simp[lns]
 have hlp:l≠p:=λ e=>by obtain⟨a0,b0,po,hp⟩:=pt;rw[e,hp]at hl;cases hl
 refine bu (λ σ' H'=>∃n:Int,σ'=[↑p,↑l,⇑n,none,none]/\0<=n/\n < 19/\PotAt H' p/\But p H H') (λ R hR=>?_) ?_
 ·exact%[_,U,p,19,U,pt,∅,∅|λ n H2 n0 n1 pt2 b2=>hR _ _ %[n,U,n0,n1,pt2|b2]]
 rintro _ H1 ⟨n,rfl,n0,n19,pt1,b1⟩;refine bu (λ σ' H'=>σ'=[↑p,↑l,⇑n,some (.str (tx (lns b ks))),none]/\PotAt H' p/\But p H H') (λ R hR=>?_) ?_
 ·refine%[_,U,l,lns b ks,U,b1 _ _ hlp hl,⋯,λ x hx=>by have:=L.le x hx;omega|λ H2 s2=>hR _ _ %[U,?_|λ c o n e=>s2 c o (b1 c o n e)]];obtain⟨a0,b0,po,hp⟩:=pt1;exact%[a0,b0,po|s2 _ _ hp]
 clear pt1 b1 H1;rintro _ H1 ⟨rfl,pt1,b1⟩;have hl1:=b1 _ _ hlp hl;have tl:=L.txl;have hne:∀x∈lns b ks,Lp x≠[]:=λ x hx=>by
  rcases Dx.mp hx with rfl | hx
  ·rw[hb.sg];exact qV _
  ·obtain⟨k,hk,rfl⟩:=ED.mp hx;exactλ e=>by have:=lF k;rw[e]at this;cases this
 obtain⟨k0,kr,rfl⟩:=e2;have x0:num b∈lns b (k0 :: kr):=B5;have x1:kln k0∈lns b (k0 :: kr):=by simp[lns]
 have a0:atI ((lns b (k0 :: kr)).map V.str) 0=some (.str (num b)):=bz ∅ rfl;have a1:atI ((lns b (k0 :: kr)).map V.str) 1=some (.str (kln k0)):=bz ∅ rfl;have l0:=L.le _ x0;have l1:=L.le _ x1;have ptS:∀ {H':Hp},Same H1 H'->PotAt H' p:=λ s=>by obtain⟨a0,b0,po,hp⟩:=pt1;exact%[a0,b0,po|s _ _ hp]
 have btS:∀ {H':Hp},Same H1 H'->But p H H':=λ s c o n e=>s c o (b1 c o n e);refine%[_,U,U,_,U|?_]
 by_cases c0:n=0
 ·exact bR (A7 (by rw[c0])) %[_,rfl,1,rfl,-1,rfl,tx (lns b (k0 :: kr)),rfl,⋯|q _ H1 (om L (by simp[lns]) hne) pt1 b1]
 refine cx (A8 λ e=>c0 (V.int.inj e)) %[_,rfl,rfl,_,rfl|?_]
 by_cases c1:n=1
 ·exact bR (A7 (by rw[c1])) %[_,rfl,_,_,rfl,rfl,by rw[fu];omega|q _ H1 (oo L (by simp[lns]) ⋯) pt1 b1]
 refine cx (A8 λ e=>c1 (V.int.inj e)) %[_,rfl,rfl,_,rfl|?_]
 by_cases c2:n=2
 ·exact bR (A7 (by rw[c2])) %[_,rfl,l,_,0,_,rfl,rfl,Ds hl1,a0,_,_,rfl,rfl,by rw[fu];omega|q _ H1 (kR L x0) pt1 b1]
 refine cx (A8 λ e=>c2 (V.int.inj e)) %[_,rfl,rfl,_,rfl|?_]
 by_cases c3:n=3
 ·refine bR (A7 (by rw[c3])) %[_,rfl,_,rfl,l,_,1,_,rfl,rfl,Ds hl1,a1,zS1|λ e he=>?_];have s2:Same H1 (upd H1 e (.lst [V.str (kln k0)])):=Dq he;have k2:(upd H1 e (.lst [V.str (kln k0)])) e=↥[V.str (kln k0)]:=ag;generalize upd H1 e (.lst [V.str (kln k0)])=H2 at s2 k2 ⊢;refine%[e,8,_,U,U,k2,∅,∅,zS8|λ r hr'=>?_];generalize hH:upd H2 r _=H3;have s3:Same H2 H3:=by subst hH;exact Dq hr'
  have k3:H3 r=↥((List.replicate 8 (kln k0)).map V.str):=by subst hH;exact ag
  clear hH;have s13:=s2.trans s3;refine%[l,r,_,_,U,U,s13 _ _ hl1,k3,by rw[Dv,ll];show _+8<=_;omega|λ u hu=>?_];generalize hH:upd H3 u _=H4;have s4:Same H3 H4:=by subst hH;exact Dq hu
  have k4:H4 u=↥((lns b (k0 :: kr) ++ List.replicate 8 (kln k0)).map V.str):=by subst hH;rw[ag,EB]
  clear hH;have le:(lns b (k0 :: kr) ++ List.replicate 8 (kln k0)).length=(k0 :: kr).length+9:=by rw[Dw,ll,Eh]
  obtain⟨L2,bd⟩:=iJ (K:=K) (H:=H4) L (ms:=lns b (k0 :: kr) ++ List.replicate 8 (kln k0)) ⋯ ⋯ λ x hx=>by
   rcases C0.mp hx with h | h
   ·exact h
   ·rw[(List.mem_replicate.mp h).2];exact x1
  refine%[u,_,U,k4,⋯,λ x hx=>by have:=L2.le x hx;omega|λ H5 s5=>q _ H5 ?_ (ptS ((s13.trans s4).trans s5)) (btS ((s13.trans s4).trans s5))];exact(iJ (K:=K) (H:=H5) L (ms:=lns b (k0 :: kr) ++ List.replicate 8 (kln k0)) ⋯ ⋯ λ x hx=>by
   rcases C0.mp hx with h | h
   ·exact h
   ·rw[(List.mem_replicate.mp h).2];exact x1).2
 refine cx (A8 λ e=>c3 (V.int.inj e)) %[_,rfl,rfl,_,rfl|?_]
 by_cases c4:n=4
 ·refine bR (A7 (by rw[c4])) %[_,rfl,l,_,1,_,rfl,rfl,Ds hl1,a1,_,_,rfl,rfl,by rw[fu];omega,zS5|λ e he=>?_];generalize hH:upd H1 e _=H2;have s2:Same H1 H2:=by subst hH;exact Dq he
  have k2:H2 e=some (.lst ((([("" : Str), "
", " ", "0"] : Et Str) ++ [kln k0 ++ "
"]).map V.str)):=by subst hH;exact ag
  clear hH;have hep:e≠p:=λ z=>by obtain⟨a0,b0,po,hp⟩:=pt1;rw[z,hp]at he;cases he
  refine%[_,U,p,5,U,ptS s2,∅,∅|λ r H3 r0 r1 pt3 b3=>?_];have r5:r.toNat < (([("" : Str), "
", " ", "0"] : Et Str) ++ [kln k0 ++ "
"]).length:=by show r.toNat < 5;omega
  refine%[e,_,r,.str _,U,U,Ds (b3 _ _ hep k2),bz r0 (by rw[Dz,DJ r5];rfl)|q _ H3 ?_ pt3 λ c o n e'=>b3 c o n (btS s2 c o n e')];rcases C0.mp (EY r5)with h | h
  ·exact oq _ h
  ·rw[C9.mp h];exact kR L x1
 refine cx (A8 λ e=>c4 (V.int.inj e)) %[_,rfl,rfl,_,rfl|?_]
 by_cases c5:n=5
 ·refine bR (A7 (by rw[c5])) %[_,rfl,zS1|λ a ha=>?_];generalize hH:upd H1 a _=H2;have s2:Same H1 H2:=by subst hH;exact Dq ha
  have k2:H2 a=↥[V.str (tx (lns b (k0 :: kr)))]:=by subst hH;exact ag
  clear hH;refine%[_,U,zS1|λ t ht=>?_];generalize hH:upd H2 t _=H3;have s3:Same H2 H3:=by subst hH;exact Dq ht
  have k3:H3 t= ~~~[V.str (tx (lns b (k0 :: kr)))]:=by subst hH;exact ag
  clear hH;refineλ d hd=>?_;generalize hH:upd H3 d _=H4;have s4:Same H3 H4:=by subst hH;exact Dq hd
  have k4:H4 d=some (.dK []):=by subst hH;exact ag
  clear hH;refine%[zS6|λ e he=>?_];generalize hH:upd H4 e _=H5;have s5:Same H4 H5:=by subst hH;exact Dq he
  have k5:H5 e=↥[V.non,.int 5,.ref a,.ref t,.ref d,.bl true]:=by subst hH;exact ag
  clear hH;have s15:=s2.trans (s3.trans (s4.trans s5));have pt5:=ptS s15;have hop:∀ {x:Eo} {o:HO},(∀c d:Int,o≠.lst [.int c,.int d])->H5 x=some o->x≠p:=λ ho hx z=>by obtain⟨a0,b0,po,hp⟩:=pt5;rw[z,hp]at hx;exact ho _ _ (B6 hx).symm
  refine%[_,U,p,6,U,pt5,∅,∅|λ r H6 r0 r1 pt6 b6=>?_];have ka:=b6 _ _ (hop (λ _ _ z=>by cases z) (s5 _ _ (s4 _ _ (s3 _ _ k2)))) (s5 _ _ (s4 _ _ (s3 _ _ k2)));have kt:=b6 _ _ (hop (λ _ _ z=>by cases z) (s5 _ _ (s4 _ _ k3))) (s5 _ _ (s4 _ _ k3));have kd:=b6 _ _ (hop (λ _ _ z=>by cases z) (s5 _ _ k4)) (s5 _ _ k4);have ke:=b6 _ _ (hop (λ _ _ z=>by cases z) k5) k5;obtain⟨v,hv,bv⟩:∃v,([V.non,.int 5,.ref a,.ref t,.ref d,.bl true]:Et V)[r.toNat]?=some v/\fE K H6 v:=by
   have:r.toNat=0\/r.toNat=1\/r.toNat=2\/r.toNat=3\/r.toNat=4\/r.toNat=5:=⋯
   rcases this with h | h | h | h | h | h <;> rw[h]
   ·exact%[_,U|.inl %[_,Ty.non|∅]]
   ·exact%[_,U|.inl %[_,Ty.int|∅]]
   ·exact%[_,U|.inl %[_,Ty.lst ka|∅]]
   ·exact%[_,U|.inl %[_,Ty.tup kt|∅]]
   ·exact%[_,U|.inl %[_,Ty.dK kd|∅]]
   ·exact%[_,U|.inl %[_,Ty.bl|∅]]
  exact%[e,_,r,v,U,U,Ds ke,bz r0 hv|q v H6 bv pt6 λ c o n e'=>b6 c o n (btS s15 c o n e')]
 refine cx (A8 λ e=>c5 (V.int.inj e)) %[_,rfl,_,_,rfl,rfl,_,rfl|?_]
 by_cases c8:8 < n
 ·refine bR (A7 c8) %[_,rfl,_,rfl,l,_,rfl,.inl (Ds hl1),p,_,rfl,pt1,by rw[Dv];omega,by rw[Dv];omega|λ r H2 r0 r1 pt2 b2=>?_];rw[Dv]at r1;obtain⟨i,rfl⟩:∃i:Nat,r=(i:Int):=%[r.toNat|⋯]
  have hi:i < (lns b (k0 :: kr)).length:=⋯
  have hl2:=b2 _ _ hlp hl1;have hx:(lns b (k0 :: kr))[i]?=some ((lns b (k0 :: kr))[i]'hi):=DJ hi;obtain⟨W,wl⟩:=wd _ _ hx;have xm:(lns b (k0 :: kr))[i]'hi∈lns b (k0 :: kr):=EY hi;generalize(lns b (k0 :: kr))[i]'hi=x at hx W wl xm;have hat:atI ((lns b (k0 :: kr)).map V.str) ((i:Int))=some (.str x):=bz ⋯ (by rw[show((i:Int):Int).toNat=i by omega,Dz,hx];rfl);refine%[_,U,_,U,(i:Int),U,l,_,U,Ds hl2|λ u hu=>?_];rw[show cy ((lns b (k0 :: kr)).map V.str) none (some ((i:Int)))=((lns b (k0 :: kr)).take (i)).map V.str from by rw[show((i:Int):Int)=((i:Nat):Int)by omega,cC,Ek]];generalize hH:upd H2 u _=H3;have s3:Same H2 H3:=by subst hH;exact Dq hu
  have k3:H3 u=↥(((lns b (k0 :: kr)).take (i)).map V.str):=by subst hH;exact ag
  clear hH;have pt3:PotAt H3 p:=by obtain⟨a0,b0,po,hp⟩:=pt2;exact%[a0,b0,po|s3 _ _ hp]
  have hup:u≠p:=λ z=>by obtain⟨a0,b0,po,hp⟩:=pt2;rw[z,hp]at hu;cases hu
  refine%[_,U,_,U,_,U,l,_,(i:Int),.str x,U,U,Ds (s3 _ _ hl2),hat,p,x,U,pt3,L.le _ xm,W,by rw[wl];split <;> simp|λ z' H4 bl pt4 b4=>%[zS1|λ e he=>?_]];have k4:=b4 _ _ hup k3;have hl4:=b4 _ _ hlp (s3 _ _ hl2);generalize hH:upd H4 e _=H5;have s5:Same H4 H5:=by subst hH;exact Dq he
  have k5:H5 e=↥[V.str z']:=by subst hH;exact ag
  clear hH;have tk:((lns b (k0 :: kr)).take (i)).length<=30:=by have:=L.n;rw[EF];omega
  refine%[u,e,_,_,U,U,s5 _ _ k4,k5,by rw[Dv];show _+1<=_;omega|λ v hv=>?_];generalize hH:upd H5 v _=H6;have s6:Same H5 H6:=by subst hH;exact Dq hv
  have k6:H6 v=↥(((lns b (k0 :: kr)).take (i) ++ [z']).map V.str):=by subst hH;rw[ag,EB];rfl
  clear hH;refine%[_,U,_,U,(i:Int),1,U,U,(i:Int)+1,U,l,_,U,Ds (s6 _ _ (s5 _ _ hl4))|λ w' hw'=>?_];rw[show cy ((lns b (k0 :: kr)).map V.str) (some ((i:Int)+1)) none=((lns b (k0 :: kr)).drop (i+1)).map V.str from by rw[show((i:Int)+1:Int)=((i+1:Nat):Int)by omega,eo,List.map_drop]];generalize hH:upd H6 w' _=H7;have s7:Same H6 H7:=by subst hH;exact Dq hw'
  have k7:H7 w'=↥(((lns b (k0 :: kr)).drop (i+1)).map V.str):=by subst hH;exact ag
  clear hH;have dk:((lns b (k0 :: kr)).drop (i+1)).length<=30:=by have:=L.n;rw[EN];omega
  refine%[v,w',_,_,U,U,s7 _ _ k6,k7,by rw[Dv,Dv,Dw];show _+1+_<=_;omega|λ y hy=>?_];generalize hH:upd H7 y _=H8;have s8:Same H7 H8:=by subst hH;exact Dq hy
  have k8:H8 y=↥(((lns b (k0 :: kr)).take (i) ++ [z'] ++ (lns b (k0 :: kr)).drop (i+1)).map V.str):=by subst hH;rw[ag,EB (l₂:=(lns b (k0 :: kr)).drop (i+1))]
  clear hH;have s48:=s5.trans (s6.trans (s7.trans s8));obtain⟨L2,_⟩:=dW (K:=K) (H:=H8) L hi wl bl;refine%[y,_,U,k8,L2.n,λ x hx=>by have:=L2.le x hx;omega|λ H9 s9=>q _ H9 (dW (K:=K) (H:=H9) L hi wl bl).2 ?_ λ c o n e'=>s9 c o (s48 c o (b4 c o n (s3 c o (b2 c o n (b1 c o n e')))))];obtain⟨a0,b0,po,hp⟩:=pt4;exact%[a0,b0,po|s9 _ _ (s48 _ _ hp)]
 ·refine cx (A8 c8) %[_,rfl,_,rfl,l,_,rfl,.inl (Ds hl1),_,_,rfl,rfl,p,_,rfl,pt1,by rw[Dv];omega,by rw[Dv];omega|λ r H2 r0 r1 pt2 b2=>%[_,_,rfl,rfl|?_]];rw[Dv]at r1;obtain⟨i,rfl⟩:∃i:Nat,r=(i:Int):=%[r.toNat|⋯]
  have hi:i+1 < (lns b (k0 :: kr)).length:=⋯
  have hl2:=b2 _ _ hlp hl1;have hx:(lns b (k0 :: kr))[i+1]?=some ((lns b (k0 :: kr))[i+1]'hi):=DJ hi;obtain⟨W,wl⟩:=wd _ _ hx;have xm:(lns b (k0 :: kr))[i+1]'hi∈lns b (k0 :: kr):=EY hi;generalize(lns b (k0 :: kr))[i+1]'hi=x at hx W wl xm;have hat:atI ((lns b (k0 :: kr)).map V.str) ((1+(i:Int)))=some (.str x):=bz ⋯ (by rw[show((1+(i:Int)):Int).toNat=i+1 by omega,Dz,hx];rfl);refine%[_,U,_,U,(1+(i:Int)),U,l,_,U,Ds hl2|λ u hu=>?_];rw[show cy ((lns b (k0 :: kr)).map V.str) none (some ((1+(i:Int))))=((lns b (k0 :: kr)).take (i+1)).map V.str from by rw[show((1+(i:Int)):Int)=((i+1:Nat):Int)by omega,cC,Ek]];generalize hH:upd H2 u _=H3;have s3:Same H2 H3:=by subst hH;exact Dq hu
  have k3:H3 u=↥(((lns b (k0 :: kr)).take (i+1)).map V.str):=by subst hH;exact ag
  clear hH;have pt3:PotAt H3 p:=by obtain⟨a0,b0,po,hp⟩:=pt2;exact%[a0,b0,po|s3 _ _ hp]
  have hup:u≠p:=λ z=>by obtain⟨a0,b0,po,hp⟩:=pt2;rw[z,hp]at hu;cases hu
  refine%[_,U,_,U,_,U,_,U,l,_,(1+(i:Int)),.str x,U,U,Ds (s3 _ _ hl2),hat,p,n,x,U,⋯,⋯,pt3,L.le _ xm,W,wl|λ z' H4 bl pt4 b4=>%[zS1|λ e he=>?_]];have k4:=b4 _ _ hup k3;have hl4:=b4 _ _ hlp (s3 _ _ hl2);generalize hH:upd H4 e _=H5;have s5:Same H4 H5:=by subst hH;exact Dq he
  have k5:H5 e=↥[V.str z']:=by subst hH;exact ag
  clear hH;have tk:((lns b (k0 :: kr)).take (i+1)).length<=30:=by have:=L.n;rw[EF];omega
  refine%[u,e,_,_,U,U,s5 _ _ k4,k5,by rw[Dv];show _+1<=_;omega|λ v hv=>?_];generalize hH:upd H5 v _=H6;have s6:Same H5 H6:=by subst hH;exact Dq hv
  have k6:H6 v=↥(((lns b (k0 :: kr)).take (i+1) ++ [z']).map V.str):=by subst hH;rw[ag,EB];rfl
  clear hH;refine%[_,U,_,U,(1+(i:Int)),1,U,U,(1+(i:Int))+1,U,l,_,U,Ds (s6 _ _ (s5 _ _ hl4))|λ w' hw'=>?_];rw[show cy ((lns b (k0 :: kr)).map V.str) (some ((1+(i:Int))+1)) none=((lns b (k0 :: kr)).drop (i+1+1)).map V.str from by rw[show((1+(i:Int))+1:Int)=((i+1+1:Nat):Int)by omega,eo,List.map_drop]];generalize hH:upd H6 w' _=H7;have s7:Same H6 H7:=by subst hH;exact Dq hw'
  have k7:H7 w'=↥(((lns b (k0 :: kr)).drop (i+1+1)).map V.str):=by subst hH;exact ag
  clear hH;have dk:((lns b (k0 :: kr)).drop (i+1+1)).length<=30:=by have:=L.n;rw[EN];omega
  refine%[v,w',_,_,U,U,s7 _ _ k6,k7,by rw[Dv,Dv,Dw];show _+1+_<=_;omega|λ y hy=>?_];generalize hH:upd H7 y _=H8;have s8:Same H7 H8:=by subst hH;exact Dq hy
  have k8:H8 y=↥(((lns b (k0 :: kr)).take (i+1) ++ [z'] ++ (lns b (k0 :: kr)).drop (i+1+1)).map V.str):=by subst hH;rw[ag,EB (l₂:=(lns b (k0 :: kr)).drop (i+1+1))]
  clear hH;have s48:=s5.trans (s6.trans (s7.trans s8));obtain⟨L2,_⟩:=dW (K:=K) (H:=H8) L hi rfl bl;refine%[y,_,U,k8,L2.n,λ x hx=>by have:=L2.le x hx;omega|λ H9 s9=>q _ H9 (dW (K:=K) (H:=H9) L hi rfl bl).2 ?_ λ c o n e'=>s9 c o (s48 c o (b4 c o n (s3 c o (b2 c o n (b1 c o n e')))))];obtain⟨a0,b0,po,hp⟩:=pt4;exact%[a0,b0,po|s9 _ _ (s48 _ _ hp)]
end
theorem ot {b:Int} {ks:Et Kd} (hb:Nn b) (hg:∀k∈ks,Good k) (n1:1<=ks.length) (n8:ks.length<=8):rdS (Lp (tx (lns b ks)))=some (b,ks):=by
 have L:=fI hb hg n8;have ll:(lns b ks).length=ks.length+1:=by simp[lns]
 rw[fH L.nl,Ez %[⋯|⋯]];have m:cU rdG ((lns b ks).map Lp).tail=some ks:=by
  show cU rdG ((ks.map kln).map Lp)=some ks;clear ll L n1 n8
  induction ks with
  | nil=>rfl
  | cons k r ih=>
   have g:=hg k B5;have e:rdG (Lp (kln k))=some k:=by
    unfold rdG rdK;rw[ol g];have ht:rdT (Lp (wd k.tu))=some k.tu:=by cases k.tu <;> decide +kernel
    show(rdW [Lp (num k.w),Lp (num k.h),Lp (num k.wo),Lp (num k.wa),Lp (wd k.tu)]).bind _=_;rw[fC (by rw[g.nw.sg];exact dQ g.nw) (by rw[g.nh.sg];exact dQ g.nh) (by rw[g.nwo.sg];exact dQ g.nwo) (by rw[g.nwa.sg];exact dQ g.nwa) ht];show(if sdK k=true then some k else none)=some k;exact Ez (by unfold sdK;rw[E2 g.w,E2 g.h];rfl)
   simp only[EG,cU,e,ih λ k' hk=>hg k' (B1 _ hk),Option.map_some]
 unfold rdL;rw[m,show((lns b ks).map Lp).headD []=sg b.toNat from hb.sg,dQ hb]
 rfl
theorem xO {b:Int} {ks:Et Kd} (hb:Nn b) (hg:∀k∈ks,Good k):∀c∈Lp (tx (lns b ks)),c < 128:=by
 intro c hc;obtain⟨_,hx,hc⟩:=Ej.mp (show c∈((lns b ks).map λ x=>Lp x ++ [10]).flatten from hc);obtain⟨x,hxm,rfl⟩:=ED.mp hx;rcases C0.mp hc with hc | hc
 ·rcases Dx.mp hxm with rfl | hx
  ·rw[hb.sg]at hc;have:=gE _ c hc;omega
  ·obtain⟨k,hk,rfl⟩:=ED.mp hx;have g:=hg k hk;have hj:∀L:Et (Et Nat),(∀p∈L,∀d∈p,d < 128)->∀d∈jn 32 L,d < 128:=λ L=>by
    induction L with
    | nil=>intro _ d hd;simp[jn]at hd
    | cons a r ih=>
     intro h d hd;cases r with
     | nil=>exact h a B5 d (by simpa[jn]using hd)
     | cons a2 r=>
      rw[bZ (a:=a) (r:=a2 :: r) (by simp)]at hd;rcases C0.mp hd with hd | hd
      ·exact h a B5 d hd
      ·rcases Dx.mp hd with rfl | hd
       ·decide
       ·exact ih (λ p hp=>h p (B1 _ hp)) d hd
   refine hj _ (λ p hp d hd=>?_) c hc;obtain⟨x,hx,rfl⟩:=ED.mp hp;have sgd:∀ {n:Int},Nn n->d∈Lp (num n)->d < 128:=λ hn hd=>by rw[hn.sg]at hd;have:=gE _ d hd;omega
   simp only[aQ,Dx,EH,FV]at hx;rcases hx with rfl | rfl | rfl | rfl | rfl
   ·exact sgd g.nw hd
   ·exact sgd g.nh hd
   ·exact sgd g.nwo hd
   ·exact sgd g.nwa hd
   ·have a:∀t:Bool,∀d∈Lp (wd t),decide (d < 128)=true:=∅
    exact B8 (a _ d hd)
 ·rw[C9.mp hc];decide
def kS (K:C4):Sp:=λ vs H Q _=>∃ (a:Eo) (ns:Et Int),vs=[.ref a]/\SqL K H a (ns.map V.int)/\ns.length<=63/\∀H',Q (.bl true) H'
section
variable {P:Dl} {w:Do} {K:C4} {mg:Str->Er Dp} {base:Heap}
theorem sclaw:FnScope ["_law_script","_law_place","_law_pot_here","_law_blade","_law_kinds","_law_lines_here","_law_shop"] ["_law_script"] (defScope iy):=%[U,U,U,∅,U,∅|∅]
theorem td {f C NT:Eo} {fd:Dm} (F:Fun K "law" "law" iy f fd) (B:Blt mg) (T:ShopTxt K C) (MB:Mn P w K mg base C "blade" ["self"] 1 (eQ C)) (MK:Mn P w K mg base C "kinds" ["self"] 1 (eT C)) (DP:Dn P w K mg base "_law_pot" ["_law_script","_law_place"] 1 (mW K)) (DT:Dn P w K mg base "_law_told" ["_law_pot_here"] 4 iZ) (DLi:Dn P w K mg base "_law_lines" ["_law_blade","_law_kinds"] 1 sR) (DX:Dn P w K mg base "_law_text" ["_law_lines_here"] 1 pW) (DZ:Dn P w K mg base "_law_spoilt" ["_law_pot_here","_law_lines_here"] 4 (sY K)) (DR:Dn P w K mg base "_law_refused" ["_law_text_here"] 6 (fb K)) (DS:DnY P w K mg base "read_shop" ["text"] 5 (gc K C NT)) (DOt:Dn P w K mg base "_law_other" ["_law_pot_here","_law_text_here"] 2 sW) (DO:Dn P w K mg base "_law_other_right" ["_law_text_here"] 7 sQ):FnOk P w K mg base CX0 8 f fd ["_law_script"] (kS K):=by
 refine F.ok sclaw (λ vs H Q E h=>?_) (λ cdv A outer s H vs Q E hr h=>?_)
 ·obtain⟨a,ns,rfl,_⟩:=h
  rfl
 obtain⟨a,ns,rfl,hS,hn,q⟩:=h;have nd:=sclaw.nd;have hu:=Room.units220 hr ∅;have hr1:=hr.mono (show 1<=7 by decide);have hr2:=hr.mono (show 2<=7 by decide);have hr4:=hr.mono (show 4<=7 by decide);have hr5:=hr.mono (show 5<=7 by decide);have hr6:=hr.mono (show 6<=7 by decide);refine%[_,((@iP _ _ _ _ _ _ _ _ PassesOwn.never U (fM U B.range ((@az _ _ _ _ _ _ _ _ _ (kY U) U B.max PyProof.Rows.boot_max (ai^^^((@az _ _ _ _ _ _ _ _ _ (kZ U) U B.min PyProof.Rows.boot_min (ai^^^((@az _ _ _ _ _ _ _ _ _ aH U B.len E9 ((pv 0)^^^af) ∅ ∅ U U)^^^af)) ∅ ∅ U U)^^^af)) ∅ ∅ U U)^^^af)) (aB (i:=1) nd U (Or.inl U)) ((2∣(@ay _ _ _ _ _ _ _ _ _ _ DP hr1 U ((pv 0)^^^((pv 1)^^^af)) ∅ U U))<<<((@cX _ _ _ _ _ _ (@ay _ _ _ _ _ _ _ _ _ _ DT hr4 U ((pv 2)^^^af) ∅ U U) (iM U (3•(4•eJ))) U U U)<<<((5∣(@ay _ _ _ _ _ _ _ _ _ _ DLi hr1 U ((pv 3)^^^((pv 4)^^^af)) ∅ U U))<<<(((@bE _ _ _ _ (@bo _ _ _ (@ay _ _ _ _ _ _ _ _ _ _ DR hr6 U ((@ay _ _ _ _ _ _ _ _ _ _ DZ hr4 U ((pv 2)^^^((pv 5)^^^af)) ∅ U U)^^^af) ∅ U U) (by intro _;rfl)))<|>(dl⁻¹)<|>au)<<<((6∣(nE (jl DS hr5 U ((@ay _ _ _ _ _ _ _ _ _ _ DX hr1 U ((pv 5)^^^af) ∅ U U)^^^af))))<<<(((PW.pt (bU ((gz (pv 6) T.cl MB hr1)<*>dC<*>(pv 3)) (ce ((gz (pv 6) T.cl MK hr1)<*>(ji hu)<*>(pv 4)))))<|>(dl⁻¹)<|>au)>>>((@bE _ _ _ _ (@bo _ _ _ (DO∪((@ay _ _ _ _ _ _ _ _ _ _ DOt hr2 U ((pv 2)^^^((@ay _ _ _ _ _ _ _ _ _ _ DX hr1 U ((pv 5)^^^af) ∅ U U)^^^af)) ∅ U U)^^^af)) (by intro _;rfl)))<|>(dl⁻¹)<|>au))))))) (by intro _;rfl))<<<(dl⁻¹))|?_];have ln:(ns.map V.int).length=ns.length:=Dv _;have sz:(1000000:Nat) < sizeLine:=∅
 have pS:∀ {H1 H2:Hp} {p:Eo},PotAt H1 p->Same H1 H2->PotAt H2 p:=λ⟨a0,b0,po,hp⟩ s=>%[a0,b0,po|s _ _ hp]
 refine%[_,U,a,_,U,.inl hS,40,_,U,1,_,U,_,U,⋯,⋯|?_];generalize hn0:(Int.toNat _)=n;have n40:n<=40:=⋯
 refine kX (n:=n) (λ i σ H'=>∃v1 v2 v3 v4 v5 v6,σ=[↑a,v1,v2,v3,v4,v5,v6]/\Same H H') %[_,_,_,_,_,_,rfl|Same.refl _] ?_ ?_
 ·rintro i σ Ha hi ⟨v1,v2,v3,v4,v5,v6,rfl,sa⟩;refine%[_,U,_,U,a,ns,_,U,sa.seq hS,⋯,⋯,hn|λ p Hb hp ptb sb=>?_];refine%[_,U,p,U,ptb|λ t' l' b xs' ks Hc ht' hl' TL ptc bc=>?_];have m1:=TL.n0;have m8:=TL.n1;have xl:=DA TL.r;have n1:1<=ks.length:=⋯
  have n8:ks.length<=8:=⋯
  have nb:Nn b:=%[TL.b0|TL.b1]
  have g:=TL.g;have L:=fI nb g n8;have rg:=ot nb g n1 n8;have tl:=L.txl;refine%[t',_,U,Dr TL.t,U,_,_,U,_,_,U,U|?_];refine%[_,U,_,U,b,l',xs',ks,U,TL.l,TL.r,nb,g,n8|λ Hd r sd kd=>?_];have ptd:=pS ptc sd;have hne:∀ {o:HO} {x:Eo} {H1:Hp},PotAt H1 p->(∀c d:Int,o≠.lst [.int c,.int d])->H1 x=some o->x≠p:=λ pt ho hx z=>by obtain⟨a0,b0,po,hp⟩:=pt;rw[z,hp]at hx;exact ho _ _ (B6 hx).symm
  have rp:r≠p:=hne ptd (λ c d z=>by
   have:=HO.lst.inj z;simp[lns]at this) kd
  refine%[_,U,_,U,p,r,b,ks,U,ptd,kd,nb,g,n1,n8|λ v He bad pte be=>%[v,U,bad|λ Hf sf=>%[_,U|aS ?_]]];have ptf:=pS pte sf;have kf:=sf _ _ (be _ _ rp kd);refine%[_,U,r,lns b ks,U,kf,L.n,λ x hx=>by have:=L.le x hx;omega|λ Hg sg=>?_];have kg:=sg _ _ kf;refine%[_,U|.inr %[_,U,⋯,L.sh',λ b2 ks2 e2 gk nb2 x Hh hx S sh=>?_|λ rn=>by rw[rg]at rn;cases rn]];rw[rg]at e2;cases e2;have pth:=pS (pS ptf sg) sh;obtain⟨dx,rx,rs0,x1,x2,x3⟩:=id S;have lh:Hh l'=↥xs':=sh _ _ (sg _ _ (sf _ _ (be _ _ (hne ptd (λ c d z=>by
   rw[HO.lst.inj z]at TL;cases TL.r with
   | cons h _=>obtain⟨_,e,_⟩:=h;cases e) (sd _ _ TL.l)) (sd _ _ TL.l))))
  have bh:But p Hd Hh:=be.trans (Pc.Same.but (sf.trans (sg.trans sh)));have th:Tups Hh xs' ks:=Tups.keep (λ c zs e=>bh c _ (hne ptd (λ _ _ z=>by cases z) (sd _ _ e)) (sd _ _ e)) TL.r;refine%[_,U,x,dx,_,U,x1,eP _ _ ∅ ∅,x,b,ks,U,S,_,U,U,_,U|?_];rw[show decide (V.int b=V.int b)=true from E2 rfl];refine aS %[_,rfl,x,dx,_,rfl,x1,eP _ _ ∅ ∅,x,b,ks,rfl,S|λ l2 rs2 hl2 trs2=>?_];have s6:Same Hh (upd Hh l2 (.lst rs2)):=Dq hl2;have k6:(upd Hh l2 (.lst rs2)) l2=↥rs2:=ag;generalize upd Hh l2 (.lst rs2)=Hi at s6 k6 ⊢;obtain⟨d1,d2⟩:=xF ks;have dd:PyData.canLay0 (.list (ks.map kdD))=true:=by simp[PyData.canLay0,d1]
  refine%[_,U,.list (ks.map kdD),.list (ks.map kdD),.lst (Ds k6) (Tups.dat (Tups.keep (λ c z e=>s6 _ _ e) trs2)),.lst (Ds (s6 _ _ lh)) (Tups.dat (Tups.keep (λ c z e=>s6 _ _ e) th)),dd,dd,(by show PyData.depthAll (ks.map kdD)+1<=210;omega),_,U|?_];rw[SeqAt.eqv_refl _ dd];refine aS ?_;refine%[_,U,_,U,r,lns b ks,U,s6 _ _ (sh _ _ kg),L.n,λ x hx=>by have:=L.le x hx;omega|λ Hj sj=>%[p,_,U,pS pth (s6.trans sj),xO nb g,tl|λ z' Hk za zl ptk bk=>%[z',U,za,zl|λ Hl sl=>%[_,U|aS ?_]]]];refine%[_,_,_,_,_,_,U|sa.trans (But.same (p:=p) (λ c o n e=>?_) hp)];exact sl _ _ (bk c o n (sj _ _ (s6 _ _ (bh c o n (sd _ _ (bc c o n (sb _ _ e)))))))
 ·rintro σ Ha ⟨v1,v2,v3,v4,v5,v6,rfl,sa⟩;exact q Ha
end
theorem rc {K:C4} {C X:Eo} {v:Bool} (hx:ExcC K X) (b:PySem.W.subIn K (.ref X) (.type "BaseException")=some true) (s:PySem.W.subIn K (.ref C) (.ref X)=some v):PySem.W.exmOne K (.ref C) (.ref X)=some v:=by unfold PySem.W.exmOne;rw[b,Ez (show((some true == some true)=true)from rfl)];exact el hx s
theorem Bk {α:Type} {us:Et α} (h:us.length=1):∃a,us=[a]:=by
 match us,h with
 | [a],_=>exact%[a|U]
theorem tf {α:Type} {us:Et α} (h:us.length=2):∃a b,us=[a,b]:=by
 match us,h with
 | [a,b],_=>exact%[a,b|U]
theorem Bm {α:Type} {us:Et α} (h:us.length=3):∃a b c,us=[a,b,c]:=by
 match us,h with
 | [a,b,c],_=>exact%[a,b,c|U]
theorem Cl {α:Type} {us:Et α} (h:us.length=4):∃a b c d,us=[a,b,c,d]:=by
 match us,h with
 | [a,b,c,d],_=>exact%[a,b,c,d|U]
theorem Cm {α:Type} {us:Et α} (h:us.length=5):∃a b c d e,us=[a,b,c,d,e]:=by
 match us,h with
 | [a,b,c,d,e],_=>exact%[a,b,c,d,e|U]
abbrev DI (K:C4) (n:Str) (st:Stmt) (f:Eo):Prop:=∃ (od an:Er Eo) (sl:Es (Er Dp)) (oc kV dc pm cd ct:Dp),PySem.W.nsIn K Eu n=some (↑f)/\K.lookup f=some %[oc,od,.func (DC n n (defArgs st) (defBody st) (defScope st) .none kV dc pm an cd ct)|sl]/\PySem.W.codeIn K cd n=true/\PySem.W.keepIn K (.ref f)=true
abbrev MI (K:C4) (C:Eo) (n q:Str) (st:Stmt) (f:Eo):Prop:=∃ (od an:Er Eo) (sl:Es (Er Dp)) (oc kV dc pm cd ct:Dp),PySem.W.findIn K (.ref C) n=some (↑f)/\PySem.W.isFn K (.ref f)=true/\K.lookup f=some %[oc,od,.func (DC n q (defArgs st) (defBody st) (defScope st) .none kV dc pm an cd ct)|sl]/\PySem.W.codeIn K cd q=true/\PySem.W.keepIn K (.ref f)=true
theorem diM {K:C4} {n:Str} {st:Stmt} {f:Eo} {od an:Er Eo} {sl:Es (Er Dp)} {oc kV dc pm cd ct:Dp} (a:PySem.W.nsIn K Eu n=some (↑f)) (l:K.lookup f=some %[oc,od,.func (DC n n (defArgs st) (defBody st) (defScope st) .none kV dc pm an cd ct)|sl]) (c:PySem.W.codeIn K cd n=true) (k:PySem.W.keepIn K (.ref f)=true):DI K n st f:=%[_,_,_,_,_,_,_,_,_,a,l,c|k]
theorem miM {K:C4} {C:Eo} {n q:Str} {st:Stmt} {f:Eo} {od an:Er Eo} {sl:Es (Er Dp)} {oc kV dc pm cd ct:Dp} (a:PySem.W.findIn K (.ref C) n=some (↑f)) (i:PySem.W.isFn K (.ref f)=true) (l:K.lookup f=some %[oc,od,.func (DC n q (defArgs st) (defBody st) (defScope st) .none kV dc pm an cd ct)|sl]) (c:PySem.W.codeIn K cd q=true) (k:PySem.W.keepIn K (.ref f)=true):MI K C n q st f:=%[_,_,_,_,_,_,_,_,_,a,i,l,c|k]
inductive DE (K:C4) (mg:Str->Er Value) (n:Str) (st:Stmt) (f:Eo) (ps:Et Str):Prop
 | mk (fd:Dm) (F:Fun K n n st f fd) (b:Binds K fd ps []) (k:PySem.W.keepIn K (.ref f)=true) (q:mg n=↑f):DE K mg n st f ps
theorem diE {K:C4} {h:Heap} {mg:Str->Er Dp} {n:Str} {st:Stmt} {f:Eo} (X:K.In h) (G:h.Ns Eu mg) (d:DI K n st f) (ps:Et Str) (hb:∀ (kV dc pm:Dp) (an:Er Eo) (cd ct:Dp) (us:Et Dp),us.length=ps.length->bindArgs (DC n n (defArgs st) (defBody st) (defScope st) .none kV dc pm an cd ct) %[us|[]]=pure (ps.zip us)):DE K mg n st f ps:=by obtain⟨_,_,_,_,_,_,_,_,_,a,l,c,k⟩:=d;have F:=iX (st:=st) l c k;exact%[_,F,F.binds hb,k|PySem.W.mg_of X G a]
inductive ME (K:C4) (C:Eo) (n q:Str) (st:Stmt) (f:Eo) (ps:Et Str):Prop
 | mk (fd:Dm) (F:Fun K n q st f fd) (b:Binds K fd ps []) (k:PySem.W.keepIn K (.ref f)=true) (a:PySem.W.findIn K (.ref C) n=some (↑f)) (i:PySem.W.isFn K (.ref f)=true):ME K C n q st f ps
theorem miE {K:C4} {C:Eo} {n q:Str} {st:Stmt} {f:Eo} (d:MI K C n q st f) (ps:Et Str) (hb:∀ (kV dc pm:Dp) (an:Er Eo) (cd ct:Dp) (us:Et Dp),us.length=ps.length->bindArgs (DC n q (defArgs st) (defBody st) (defScope st) .none kV dc pm an cd ct) %[us|[]]=pure (ps.zip us)):ME K C n q st f ps:=by obtain⟨_,_,_,_,_,_,_,_,_,a,i,l,c,k⟩:=d;have F:=iX (st:=st) l c k;exact%[_,F,F.binds hb,k,a|i]
theorem bd1 {n q:Str} {st:Stmt} {a:Str} (h:∀ (kV dc pm:Dp) (an:Er Eo) (cd ct ua:Dp),bindArgs (DC n q (defArgs st) (defBody st) (defScope st) .none kV dc pm an cd ct) %[[ua]|[]]=pure [(a,ua)]):∀ (kV dc pm:Dp) (an:Er Eo) (cd ct:Dp) (us:Et Dp),us.length=[a].length->bindArgs (DC n q (defArgs st) (defBody st) (defScope st) .none kV dc pm an cd ct) %[us|[]]=pure ([a].zip us):=by intro _ _ _ _ _ _ us hl;obtain⟨_,rfl⟩:=Bk hl;exact h _ _ _ _ _ _ _
theorem bd2 {n q:Str} {st:Stmt} {a b:Str} (h:∀ (kV dc pm:Dp) (an:Er Eo) (cd ct ua ub:Dp),bindArgs (DC n q (defArgs st) (defBody st) (defScope st) .none kV dc pm an cd ct) %[[ua,ub]|[]]=pure [(a,ua),(b,ub)]):∀ (kV dc pm:Dp) (an:Er Eo) (cd ct:Dp) (us:Et Dp),us.length=[a,b].length->bindArgs (DC n q (defArgs st) (defBody st) (defScope st) .none kV dc pm an cd ct) %[us|[]]=pure ([a,b].zip us):=by intro _ _ _ _ _ _ us hl;obtain⟨_,_,rfl⟩:=tf hl;exact h _ _ _ _ _ _ _ _
theorem bd3 {n q:Str} {st:Stmt} {a b c:Str} (h:∀ (kV dc pm:Dp) (an:Er Eo) (cd ct ua ub uc:Dp),bindArgs (DC n q (defArgs st) (defBody st) (defScope st) .none kV dc pm an cd ct) %[[ua,ub,uc]|[]]=pure [(a,ua),(b,ub),(c,uc)]):∀ (kV dc pm:Dp) (an:Er Eo) (cd ct:Dp) (us:Et Dp),us.length=[a,b,c].length->bindArgs (DC n q (defArgs st) (defBody st) (defScope st) .none kV dc pm an cd ct) %[us|[]]=pure ([a,b,c].zip us):=by intro _ _ _ _ _ _ us hl;obtain⟨_,_,_,rfl⟩:=Bm hl;exact h _ _ _ _ _ _ _ _ _
open PySem.W in
theorem all_mk {l:OpenLaw} {w:Do} {K:Frag} {h:Heap} {mg:Str->Er Dp} {fa f0 f1 f2 f3 f4 f5 f6 f7 f8 f9 f10 f11 f12 f13 f14 f15 f16 f17 f18 f19 f20 f21 f22 f23 f24 f25 C fm0 fm1 fm2 xPlateError xNoText xNoBlade xNoKind xNoKinds xNoLaying xNoLying xNoNumber xNoPlate xNoTable xNoTelling xNoTree xNoWeights xTooLarge:Eo} (X:K.In h) (G:h.Ns Eu mg) (hfa:mg "law" = ↑fa)
  {tc0:Tok} {tc1:Tok} {tc2:Tok} {tc3:Tok} {tc4:Tok}
  (d0:DI K "is_whole" gI f0)
  (d1:DI K "is_truth" gJ f1)
  (d2:DI K "is_row" pF f2)
  (d3:DI K "is_kind" eX f3)
  (d4:DI K "read_number" cr f4)
  (d5:DI K "read_turns" cR f5)
  (d6:DI K "read_kind" cH f6)
  (d7:DI K "read_shop" cI f7)
  (d8:DI K "_law_pot" pH f8)
  (d9:DI K "_law_draw" kD f9)
  (d10:DI K "_law_number" eY f10)
  (d11:DI K "_law_kind" kF f11)
  (d12:DI K "_law_told" iu f12)
  (d13:DI K "_law_lines" fB f13)
  (d14:DI K "_law_text" ix f14)
  (d15:DI K "_law_bad_number" cS f15)
  (d16:DI K "_law_spoilt_word" cu f16)
  (d17:DI K "_law_spoilt_line" cw f17)
  (d18:DI K "_law_spoilt" eZ f18)
  (d19:DI K "_law_refused" dN f19)
  (d20:DI K "_law_other" gL f20)
  (d21:DI K "_law_number_of" cJ f21)
  (d22:DI K "_law_kind_of" dO f22)
  (d23:DI K "_law_due" nH f23)
  (d24:DI K "_law_other_right" bQ f24)
  (d25:DI K "law" iy f25)
  (aC:nsIn K Eu "Shop" = some (↑C))
  (dm0:MI K C "__init__" "Shop.__init__" cG fm0)
  (dm1:MI K C "blade" "Shop.blade" cP fm1)
  (dm2:MI K C "kinds" "Shop.kinds" cQ fm2)
  (pg:plainGet K C Str.empty=true)
  (hd:hasDictIn K C=true)
  (po:plainOver K C=true)
  (sa:findIn K (.ref C) "__setattr__" = some (some (.builtin "object.__setattr__")))
  (mk:makesIn K C=true)
  (kc:keepIn K (.ref C)=true)
  (n0:findIn K (.ref C) "blade_width" = some none)
  (n1:findIn K (.ref C) "kind_rows" = some none)
  (ePlateError:nsIn K Eu "PlateError" = some (↑xPlateError))
  (eNoText:nsIn K Eu "NoText" = some (↑xNoText))
  (eNoBlade:nsIn K Eu "NoBlade" = some (↑xNoBlade))
  (eNoKind:nsIn K Eu "NoKind" = some (↑xNoKind))
  (eNoKinds:nsIn K Eu "NoKinds" = some (↑xNoKinds))
  (eNoLaying:nsIn K Eu "NoLaying" = some (↑xNoLaying))
  (eNoLying:nsIn K Eu "NoLying" = some (↑xNoLying))
  (eNoNumber:nsIn K Eu "NoNumber" = some (↑xNoNumber))
  (eNoPlate:nsIn K Eu "NoPlate" = some (↑xNoPlate))
  (eNoTable:nsIn K Eu "NoTable" = some (↑xNoTable))
  (eNoTelling:nsIn K Eu "NoTelling" = some (↑xNoTelling))
  (eNoTree:nsIn K Eu "NoTree" = some (↑xNoTree))
  (eNoWeights:nsIn K Eu "NoWeights" = some (↑xNoWeights))
  (eTooLarge:nsIn K Eu "TooLarge" = some (↑xTooLarge))
  (cPlateError:excIn K xPlateError L2.bmVE "ValueError.__new__" = true)
  (cNoText:excIn K xNoText L2.bmVE "ValueError.__new__" = true)
  (cNoBlade:excIn K xNoBlade L2.bmVE "ValueError.__new__" = true)
  (cNoKind:excIn K xNoKind L2.bmVE "ValueError.__new__" = true)
  (cNoKinds:excIn K xNoKinds L2.bmVE "ValueError.__new__" = true)
  (cNoLaying:excIn K xNoLaying L2.bmVE "ValueError.__new__" = true)
  (cNoLying:excIn K xNoLying L2.bmVE "ValueError.__new__" = true)
  (cNoNumber:excIn K xNoNumber L2.bmVE "ValueError.__new__" = true)
  (cNoPlate:excIn K xNoPlate L2.bmVE "ValueError.__new__" = true)
  (cNoTable:excIn K xNoTable L2.bmVE "ValueError.__new__" = true)
  (cNoTelling:excIn K xNoTelling L2.bmVE "ValueError.__new__" = true)
  (cNoTree:excIn K xNoTree L2.bmVE "ValueError.__new__" = true)
  (cNoWeights:excIn K xNoWeights L2.bmVE "ValueError.__new__" = true)
  (cTooLarge:excIn K xTooLarge L2.bmVE "ValueError.__new__" = true)
  (sNoTextPlateError:subIn K (.ref xNoText) (.ref xPlateError)=some true)
  (sNoTextNoText:subIn K (.ref xNoText) (.ref xNoText)=some true)
  (sNoTextNoBlade:subIn K (.ref xNoText) (.ref xNoBlade)=some false)
  (sNoTextNoKind:subIn K (.ref xNoText) (.ref xNoKind)=some false)
  (sNoTextNoKinds:subIn K (.ref xNoText) (.ref xNoKinds)=some false)
  (sNoTextNoLaying:subIn K (.ref xNoText) (.ref xNoLaying)=some false)
  (sNoTextNoLying:subIn K (.ref xNoText) (.ref xNoLying)=some false)
  (sNoTextNoNumber:subIn K (.ref xNoText) (.ref xNoNumber)=some false)
  (sNoTextNoPlate:subIn K (.ref xNoText) (.ref xNoPlate)=some false)
  (sNoTextNoTable:subIn K (.ref xNoText) (.ref xNoTable)=some false)
  (sNoTextNoTelling:subIn K (.ref xNoText) (.ref xNoTelling)=some false)
  (sNoTextNoTree:subIn K (.ref xNoText) (.ref xNoTree)=some false)
  (sNoTextNoWeights:subIn K (.ref xNoText) (.ref xNoWeights)=some false)
  (sNoTextTooLarge:subIn K (.ref xNoText) (.ref xTooLarge)=some false)
  (tNoKindsNoKinds:subIn K (.ref xNoKinds) (.ref xNoKinds)=some true)
  (tNoKindsNoKind:subIn K (.ref xNoKinds) (.ref xNoKind)=some false)
  (tNoKindNoKinds:subIn K (.ref xNoKind) (.ref xNoKinds)=some false)
  (tNoKindNoKind:subIn K (.ref xNoKind) (.ref xNoKind)=some true)
  (vNoText:subIn K (.ref xNoText) (.type "ValueError")=some true)
  (kaNoText:findIn K (.ref xNoText) "__class__" = some (some (.builtin "object.__class__")))
  (kbNoText:findIn K (.ref xNoText) "__getattribute__" = some (some (.builtin "BaseException.__getattribute__")))
  (kcNoText:findIn K (.ref xNoText) "__getattr__" = some none)
  (kdNoText:subIn K (.ref xNoText) (.type "BaseException")=some true)
  (keNoText:subIn K (.ref xNoText) (.type "object")=some true)
  (bPlateError:subIn K (.ref xPlateError) (.type "BaseException")=some true)
  (bNoKinds:subIn K (.ref xNoKinds) (.type "BaseException")=some true)
  (bNoKind:subIn K (.ref xNoKind) (.type "BaseException")=some true)
  (z0:nsIn K Eu "isinstance" = some none)
  (z1:nsIn K Eu "int" = some none)
  (z2:nsIn K Eu "bool" = some none)
  (z3:nsIn K Eu "list" = some none)
  (z4:nsIn K Eu "tuple" = some none)
  (z5:nsIn K Eu "len" = some none)
  (z6:nsIn K Eu "range" = some none)
  (z7:nsIn K Eu "max" = some none)
  (z8:nsIn K Eu "min" = some none)
  (z9:nsIn K Eu "abs" = some none)
  (z10:nsIn K Eu "divmod" = some none)
  (z11:nsIn K Eu "sum" = some none)
  (z12:nsIn K Eu "sorted" = some none)
  (z13:nsIn K Eu "all" = some none)
  (z14:nsIn K Eu "repr" = some none)
  (z15:nsIn K Eu "zip" = some none)
  (z16:nsIn K Eu "enumerate" = some none)
  (z17:nsIn K Eu "str" = some none)
  (z18:nsIn K Eu "ValueError" = some none)
  (uc0:nsIn K Eu "MOST_KINDS" = some (some (.int 8 tc0)))
  (uc1:nsIn K Eu "THINGS_OF_A_KIND" = some (some (.int 5 tc1)))
  (uc2:nsIn K Eu "WORDS_OF_A_KIND" = some (some (.int 5 tc2)))
  (uc3:nsIn K Eu "TURNS" = some (some (.str "turns" tc3)))
  (uc4:nsIn K Eu "STAYS" = some (some (.str "stays" tc4))) :
  ∃fd:Dm,(∀ (s:DY) (v:Dp),BindsTo s fd %[[v]|[]] [("_law_script",v)])/\∀base:Heap,K.In base->base.Ns Eu mg->FnOk l.prog w K mg base CX0 8 fa fd ["_law_script"] (kS K):=by
 obtain⟨_,F0,b0,k0,q0⟩:=diE X G d0 ["thing","least"] (bd2 λ _ _ _ _ _ _ _ _=>rfl);obtain⟨_,F1,b1,k1,q1⟩:=diE X G d1 ["thing"] (bd1 λ _ _ _ _ _ _ _=>rfl);obtain⟨_,F2,b2,k2,q2⟩:=diE X G d2 ["thing"] (bd1 λ _ _ _ _ _ _ _=>rfl);obtain⟨_,F3,b3,k3,q3⟩:=diE X G d3 ["thing"] (bd1 λ _ _ _ _ _ _ _=>rfl);obtain⟨_,F4,b4,k4,q4⟩:=diE X G d4 ["word"] (bd1 λ _ _ _ _ _ _ _=>rfl);obtain⟨_,F5,b5,k5,q5⟩:=diE X G d5 ["word"] (bd1 λ _ _ _ _ _ _ _=>rfl);obtain⟨_,F6,b6,k6,q6⟩:=diE X G d6 ["line"] (bd1 λ _ _ _ _ _ _ _=>rfl);obtain⟨_,F7,b7,k7,q7⟩:=diE X G d7 ["text"] (bd1 λ _ _ _ _ _ _ _=>rfl);obtain⟨_,F8,b8,k8,q8⟩:=diE X G d8 ["_law_script","_law_place"] (bd2 λ _ _ _ _ _ _ _ _=>rfl);obtain⟨_,F9,b9,k9,q9⟩:=diE X G d9 ["_law_pot_here","_law_many"] (bd2 λ _ _ _ _ _ _ _ _=>rfl);obtain⟨_,F10,b10,k10,q10⟩:=diE X G d10 ["_law_pot_here","_law_least"] (bd2 λ _ _ _ _ _ _ _ _=>rfl);obtain⟨_,F11,b11,k11,q11⟩:=diE X G d11 ["_law_pot_here"] (bd1 λ _ _ _ _ _ _ _=>rfl);obtain⟨_,F12,b12,k12,q12⟩:=diE X G d12 ["_law_pot_here"] (bd1 λ _ _ _ _ _ _ _=>rfl);obtain⟨_,F13,b13,k13,q13⟩:=diE X G d13 ["_law_blade","_law_kinds"] (bd2 λ _ _ _ _ _ _ _ _=>rfl);obtain⟨_,F14,b14,k14,q14⟩:=diE X G d14 ["_law_lines_here"] (bd1 λ _ _ _ _ _ _ _=>rfl);obtain⟨_,F15,b15,k15,q15⟩:=diE X G d15 ["_law_pot_here","_law_word"] (bd2 λ _ _ _ _ _ _ _ _=>rfl);obtain⟨_,F16,b16,k16,q16⟩:=diE X G d16 ["_law_pot_here","_law_line"] (bd2 λ _ _ _ _ _ _ _ _=>rfl);obtain⟨_,F17,b17,k17,q17⟩:=diE X G d17 ["_law_pot_here","_law_way","_law_line"] (bd3 λ _ _ _ _ _ _ _ _ _=>rfl);obtain⟨_,F18,b18,k18,q18⟩:=diE X G d18 ["_law_pot_here","_law_lines_here"] (bd2 λ _ _ _ _ _ _ _ _=>rfl);obtain⟨_,F19,b19,k19,q19⟩:=diE X G d19 ["_law_text_here"] (bd1 λ _ _ _ _ _ _ _=>rfl);obtain⟨_,F20,b20,k20,q20⟩:=diE X G d20 ["_law_pot_here","_law_text_here"] (bd2 λ _ _ _ _ _ _ _ _=>rfl);obtain⟨_,F21,b21,k21,q21⟩:=diE X G d21 ["_law_word"] (bd1 λ _ _ _ _ _ _ _=>rfl);obtain⟨_,F22,b22,k22,q22⟩:=diE X G d22 ["_law_line"] (bd1 λ _ _ _ _ _ _ _=>rfl);obtain⟨_,F23,b23,k23,q23⟩:=diE X G d23 ["_law_text_here"] (bd1 λ _ _ _ _ _ _ _=>rfl);obtain⟨_,F24,b24,k24,q24⟩:=diE X G d24 ["_law_text_here"] (bd1 λ _ _ _ _ _ _ _=>rfl);obtain⟨_,an,_,_,kV,dc,pm,cd,ct,a25,l25,c25,k25⟩:=d25;have F25:=iX (st:=iy) l25 c25 k25;obtain⟨_,Fm0,bm0,km0,am0,im0⟩:=miE dm0 ["self","blade","kinds"] (bd3 λ _ _ _ _ _ _ _ _ _=>rfl);obtain⟨_,Fm1,bm1,km1,am1,im1⟩:=miE dm1 ["self"] (bd1 λ _ _ _ _ _ _ _=>rfl);obtain⟨_,Fm2,bm2,km2,am2,im2⟩:=miE dm2 ["self"] (bd1 λ _ _ _ _ _ _ _=>rfl);have e:=hfa.symm.trans (mg_of X G a25);cases e;have y0:=mg_none_of X G z0;have y1:=mg_none_of X G z1;have y2:=mg_none_of X G z2;have y3:=mg_none_of X G z3;have y4:=mg_none_of X G z4;have y5:=mg_none_of X G z5;have y6:=mg_none_of X G z6;have y7:=mg_none_of X G z7;have y8:=mg_none_of X G z8;have y9:=mg_none_of X G z9;have y10:=mg_none_of X G z10;have y11:=mg_none_of X G z11;have y12:=mg_none_of X G z12;have y13:=mg_none_of X G z13;have y14:=mg_none_of X G z14;have y15:=mg_none_of X G z15;have y16:=mg_none_of X G z16;have y17:=mg_none_of X G z17;have y18:=mg_none_of X G z18;have gPlateError:=mg_of X G ePlateError;have gNoText:=mg_of X G eNoText;have gNoBlade:=mg_of X G eNoBlade;have gNoKind:=mg_of X G eNoKind;have gNoKinds:=mg_of X G eNoKinds;have gNoLaying:=mg_of X G eNoLaying;have gNoLying:=mg_of X G eNoLying;have gNoNumber:=mg_of X G eNoNumber;have gNoPlate:=mg_of X G eNoPlate;have gNoTable:=mg_of X G eNoTable;have gNoTelling:=mg_of X G eNoTelling;have gNoTree:=mg_of X G eNoTree;have gNoWeights:=mg_of X G eNoWeights;have gTooLarge:=mg_of X G eTooLarge;have u0:=mg_of X G uc0;have u1:=mg_of X G uc1;have u2:=mg_of X G uc2;have u3:=mg_of X G uc3;have u4:=mg_of X G uc4;have qC:=mg_of X G aC;refine%[fnOf "law" "law" (defArgs iy) (defBody iy) (defScope iy) .none kV dc pm an cd ct,λ s v=>.of_eq rfl|λ base _ _=>?_];have B:Blt mg:=%[y0,y1,y2,y3,y4,y5,y6,y7,y8,y9,y10,y11,y12,y13,y14,y15,y16,%[_|u0]|%[_|u1]]
 have T:ShopTxt K C:=%[%[pg,hd,po|sa],n0|n1]
 have W:Words mg:=%[%[_|u3],%[_|u4]|%[_|u2]]
 have D0:Dn l.prog w K mg base "is_whole" ["thing","least"] 1 (eO K):=%[_,_,nI F0 B,b0,k0|q0]
 have D1:Dn l.prog w K mg base "is_truth" ["thing"] 1 (gx K):=%[_,_,nJ F1 B,b1,k1|q1]
 have D2:Dn l.prog w K mg base "is_row" ["thing"] 1 (kn K):=%[_,_,so F2 B,b2,k2|q2]
 have D3:Dn l.prog w K mg base "is_kind" ["thing"] 2 (df K):=%[_,_,lJ F3 B D0 D1 D2,b3,k3|q3]
 have DSX:KnX l.prog w K mg base "Shop" C ["self","blade","kinds"] 3 (spInitX K C xNoBlade xNoKinds xNoKind):=%[_,_,%[mk,am0,im0|kc],nO Fm0 B T D0 D2 D3 gNoBlade gNoKinds gNoKind cNoBlade cNoKinds cNoKind,bm0|qC]
 have tw:Two K xNoKinds xNoKind:=%[je cNoKinds bNoKinds tNoKindsNoKinds,%[_|rc cNoKind bNoKind tNoKindsNoKind],%[_|rc cNoKinds bNoKinds tNoKindNoKinds]|je cNoKind bNoKind tNoKindNoKind]
 have MB:Mn l.prog w K mg base C "blade" ["self"] 1 (eQ C):=%[_,_,nL Fm1 T,bm1|%[am1,im1|km1]]
 have MK:Mn l.prog w K mg base C "kinds" ["self"] 1 (eT C):=%[_,_,nM Fm2 T y3,bm2|%[am2,im2|km2]]
 have D4:DnX l.prog w K mg base "read_number" ["word"] 1 (kN xNoText):=%[_,_,sD F4 y1 gNoText cNoText,b4,k4|q4]
 have D5:DnX l.prog w K mg base "read_turns" ["word"] 1 (nR xNoText):=%[_,_,sE F5 W gNoText cNoText,b5,k5|q5]
 have D6:DnX l.prog w K mg base "read_kind" ["line"] 2 (nS xNoText):=%[_,_,sG F6 W y5 gNoText cNoText D4 D5,b6,k6|q6]
 have D7:DnY l.prog w K mg base "read_shop" ["text"] 5 (gc K C xNoText):=%[_,_,sH F7 y0 y17 gNoText cNoText gNoKinds gNoKind tw D4 D6 DSX,b7,k7|q7]
 have D8:Dn l.prog w K mg base "_law_pot" ["_law_script","_law_place"] 1 (mW K):=%[_,_,sr F8 y5 y1,b8,k8|q8]
 have D9:Dn l.prog w K mg base "_law_draw" ["_law_pot_here","_law_many"] 1 (cA):=%[_,_,pM F9,b9,k9|q9]
 have D10:Dn l.prog w K mg base "_law_number" ["_law_pot_here","_law_least"] 2 (dJ):=%[_,_,lK F10 D9,b10,k10|q10]
 have D11:Dn l.prog w K mg base "_law_kind" ["_law_pot_here"] 3 (iY):=%[_,_,pN F11 D9 D10 y1,b11,k11|q11]
 have D12:Dn l.prog w K mg base "_law_told" ["_law_pot_here"] 4 (iZ):=%[_,_,pO F12 D9 D10 D11 y6,b12,k12|q12]
 have D13:Dn l.prog w K mg base "_law_lines" ["_law_blade","_law_kinds"] 1 (sR):=%[_,_,xH F13 B y17,b13,k13|q13]
 have D14:Dn l.prog w K mg base "_law_text" ["_law_lines_here"] 1 (pW):=%[_,_,xB F14 B,b14,k14|q14]
 have D15:Dn l.prog w K mg base "_law_bad_number" ["_law_pot_here","_law_word"] 2 (sS):=%[_,_,xI F15 B D9,b15,k15|q15]
 have D16:Dn l.prog w K mg base "_law_spoilt_word" ["_law_pot_here","_law_line"] 3 (sT):=%[_,_,xJ F16 B D9 D15,b16,k16|q16]
 have D17:Dn l.prog w K mg base "_law_spoilt_line" ["_law_pot_here","_law_way","_law_line"] 2 (sU):=%[_,_,xK F17 B D9,b17,k17|q17]
 have D18:Dn l.prog w K mg base "_law_spoilt" ["_law_pot_here","_law_lines_here"] 4 (sY K):=%[_,_,xN F18 B D9 D14 D16 D17,b18,k18|q18]
 have Z:Cl15 mg xNoText xPlateError xNoBlade xNoKind xNoKinds xNoLaying xNoLying xNoNumber xNoPlate xNoTable xNoTelling xNoTree xNoWeights xTooLarge:=%[gNoText,gPlateError,gNoBlade,gNoKind,gNoKinds,gNoLaying,gNoLying,gNoNumber,gNoPlate,gNoTable,gNoTelling,gNoTree,gNoWeights,gTooLarge|y18]
 have Y:Ec15 K xPlateError xNoText xNoBlade xNoKind xNoKinds xNoLaying xNoLying xNoNumber xNoPlate xNoTable xNoTelling xNoTree xNoWeights xTooLarge:=%[%[kaNoText,kbNoText,kcNoText,kdNoText,keNoText|(kq cNoText).1],na,rP vNoText,(aJ (bS sNoTextNoText cNoBlade sNoTextNoBlade) (aJ (bS sNoTextNoText cNoKind sNoTextNoKind) (aJ (bS sNoTextNoText cNoKinds sNoTextNoKinds) (aJ (bS sNoTextNoText cNoLaying sNoTextNoLaying) (aJ (bS sNoTextNoText cNoLying sNoTextNoLying) (aJ (bS sNoTextNoText cNoNumber sNoTextNoNumber) fq)))))),(aJ (bS sNoTextNoText cNoPlate sNoTextNoPlate) (aJ (bS sNoTextNoText cNoTable sNoTextNoTable) (aJ (bS sNoTextNoText cNoTelling sNoTextNoTelling) (aJ (bS sNoTextNoText cNoTree sNoTextNoTree) (aJ (bS sNoTextNoText cNoWeights sNoTextNoWeights) (aJ (bS sNoTextNoText cTooLarge sNoTextTooLarge) fq))))))|je cPlateError bPlateError sNoTextPlateError]
 have D19:Dn l.prog w K mg base "_law_refused" ["_law_text_here"] 6 (fb K):=%[_,_,pZ F19 B Z Y D7,b19,k19|q19]
 have D20:Dn l.prog w K mg base "_law_other" ["_law_pot_here","_law_text_here"] 2 (sW):=%[_,_,xM F20 B D9,b20,k20|q20]
 have D21:Dn l.prog w K mg base "_law_number_of" ["_law_word"] 3 (pX):=%[_,_,xC F21 B,b21,k21|q21]
 have D22:Dn l.prog w K mg base "_law_kind_of" ["_law_line"] 4 (sJ):=%[_,_,xD F22 B D21,b22,k22|q22]
 have D23:Dn l.prog w K mg base "_law_due" ["_law_text_here"] 5 (sN):=%[_,_,xE F23 B D21 D22,b23,k23|q23]
 have D24:Dn l.prog w K mg base "_law_other_right" ["_law_text_here"] 7 (sQ):=%[_,_,xG F24 B T MB MK D23 D19 D7,b24,k24|q24]
 exact td F25 B T MB MK D8 D12 D13 D14 D18 D19 D7 D20 D24
theorem walk {l:PySem.W.OpenLaw} {q:Dl} {loose:Et Str} {XP:(Str->Er Dp)->Heap->Prop} {YP:Do->Heap->Prop} {d:DefRec} {K:Params->C4} (hn:l.most=some 63) (hdf:d.params.defaults=[])
  (hY:∀ (w:Do) (h:Heap),YP w h->(K w.params).In h)
  (F:∀ (w:Do) (mg:Str->Er Dp) (fa:Eo) (h:Heap),(K w.params).In h->h.Ns Eu mg->mg d.name=↑fa ->
   ∃fd:Dm,(∀ (s:DY) (u:Dp),BindsTo s fd %[[u]|[]] [("_law_script",u)])/\∀base:Heap,(K w.params).In base->base.Ns Eu mg->FnOk l.prog w (K w.params) mg base CX0 8 fa fd ["_law_script"] (kS (K w.params))) :
  PySem.W.WalkO q loose XP YP l.row.toRowW d [] (λ f vs=>PySem.call f vs) :=
 L2.walk_of (n:=63) (k:=8) (x := "_law_script") (CX:=λ _=>CX0) (sp:=λ w=>kS (K w.params)) hn ∅ hdf %[rfl,∅,∅|rfl] hY F (λ _ _ a ns hl _ hS=>%[a,ns,U,hS,hl|λ _=>rfl]) λ _ _ _ _ _ z=>z
end Pc
namespace Pc
open PySem L2
section
open PySem.W
def kE (P:Params) (n:Str) (t:Nat) (v:Dp):DictEntry:=%[PyData.keyHash P n,.str n t|v]
def kO3 (P:Params):Obj:=%[(.type "dict"),none,(.dict #[kE P "__name__" 165 (.str "law_platecuts_k15_refused_texts" 579),kE P "__doc__" 166 .none,kE P "__package__" 167 .none,kE P "__loader__" 168 (.builtin "__main__.__loader__#opaque"),kE P "__spec__" 169 .none,kE P "__annotations__" 170 (.ref 6),kE P "__builtins__" 171 (.ref 4),kE P "__file__" 173 (.str "/claim/cut.py" 172),kE P "__cached__" 174 .none,kE P "_wall" 193 (.ref 21),kE P "PlateError" 213 (.ref 31),kE P "NoBlade" 229 (.ref 44),kE P "NoKinds" 245 (.ref 56),kE P "NoKind" 261 (.ref 68),kE P "NoLying" 277 (.ref 80),kE P "NoText" 293 (.ref 92),kE P "NoPlate" 309 (.ref 104),kE P "NoTree" 325 (.ref 116),kE P "NoLaying" 341 (.ref 128),kE P "TooLarge" 357 (.ref 140),kE P "NoTable" 373 (.ref 152),kE P "NoNumber" 389 (.ref 164),kE P "NoWeights" 405 (.ref 176),kE P "NoTelling" 421 (.ref 188),kE P "is_whole" 431 (.ref 197),kE P "is_truth" 438 (.ref 204),kE P "is_row" 445 (.ref 211),kE P "MOST_KINDS" 449 (.int 8 448),kE P "THINGS_OF_A_KIND" 451 (.int 5 450),kE P "is_kind" 463 (.ref 218),kE P "can_lie_turned" 470 (.ref 225),kE P "Shop" 544 (.ref 280),kE P "WORDS_OF_A_KIND" 548 (.int 5 547),kE P "TURNS" 550 (.str "turns" 549),kE P "STAYS" 552 (.str "stays" 551),kE P "read_number" 559 (.ref 291),kE P "read_turns" 566 (.ref 298),kE P "read_kind" 572 (.ref 303),kE P "read_shop" 578 (.ref 308),kE P "_law_pot" 589 (.ref 315),kE P "_law_draw" 598 (.ref 322),kE P "_law_number" 607 (.ref 329),kE P "_law_kind" 616 (.ref 336),kE P "_law_told" 622 (.ref 341),kE P "_law_lines" 628 (.ref 346),kE P "_law_text" 634 (.ref 351),kE P "_law_bad_number" 644 (.ref 358),kE P "_law_spoilt_word" 654 (.ref 365),kE P "_law_spoilt_line" 664 (.ref 372),kE P "_law_spoilt" 675 (.ref 379),kE P "_law_refused" 684 (.ref 386),kE P "_law_other" 696 (.ref 393),kE P "_law_number_of" 702 (.ref 398),kE P "_law_kind_of" 708 (.ref 403),kE P "_law_due" 714 (.ref 408),kE P "_law_other_right" 720 (.ref 413),kE P "law" 733 (.ref 420)] 57)|#[]]
def gk0 (x0:Str)(x1:Nat)(x2:Str)(x3 x4 x5 x6 x7 x8 x9 x10 x11 x12 x13:Nat)(P:Params):Obj:=%[(.type "code"),none,(.fields #[.str x0 x1,.str x2 x3,.str "/claim/cut.py" x4,.int x5 0,.int x6 0,.int 0 0,.int 0 0,.int 3 0,.ref x7,.bool true,.int 181 0,.ref x8,.none,.ref x9,.ref x10,.ref x11,.int x12 0,.int x5 0,.str "/claim/cut.py" x13])|#[]]
def Bn:=gk0 "_wall" 187 "_wall" 188 189 1 1 15 16 17 18 19 191 192
def gk1 (x0 x1:Str)(x2:Stmt)(x3:Str)(x4 x5:Nat)(P:Params):Obj:=%[(.type "function"),none,(.func (fnOf x0 x1 (defArgs x2) (defBody x2) (defScope x2) .none .none .none (.str x3 x4) none (.ref x5) .none))|#[]]
def Bo:=gk1 "_wall" "_wall" xz "__main__" 164 20
def Bp (P:Params):Obj:=%[(.type "dict"),none,(.dict #[kE P "__module__" 203 (.str "platecuts.errors" 194),kE P "__firstlineno__" 207 (.int 5 206),kE P "__static_attributes__" 208 (.ref 29),kE P "__weakref__" 210 (.ref 32),kE P "__doc__" 211 .none] 3)|#[]]
def Bq (P:Params):Obj:=%[(.type "type"),none,(.cls %["PlateError",[.type "ValueError"],[.ref 31,.type "ValueError",.type "Exception",.type "BaseException",.type "object"],30,"PlateError",true,[],[.ref 44,.ref 56,.ref 68,.ref 80,.ref 92,.ref 104,.ref 116,.ref 128,.ref 140,.ref 152,.ref 164,.ref 176,.ref 188],false,none|false])|#[↑22,none,some (.str "PlateError" 196),some (.str "PlateError" 204),some (.builtin "ValueError.__new__"),some (.bool true)]]
def gk2 (x0 x1 x2 x3 x4 x5 x6:Nat)(P:Params):Obj:=%[(.type "dict"),none,(.dict #[kE P "__module__" x0 (.str "platecuts.errors" 194),kE P "__firstlineno__" x1 (.int x2 x3),kE P "__static_attributes__" x4 (.ref x5),kE P "__doc__" x6 .none] 2)|#[]]
def Br:=gk2 221 225 7 224 226 42 227
def gk3 (x0:Str)(x1 x2 x3 x4 x5:Nat)(P:Params):Obj:=%[(.type "type"),none,(.cls %[x0,[.ref 31],[.ref x1,.ref 31,.type "ValueError",.type "Exception",.type "BaseException",.type "object"],x2,x0,true,[],[],false,none|false])|#[↑x3,none,some (.str x0 x4),some (.str x0 x5),some (.builtin "ValueError.__new__"),some (.bool true)]]
def Bs:=gk3 "NoBlade" 44 43 35 214 222
def Bt:=gk2 237 241 9 240 242 54 243
def Bu:=gk3 "NoKinds" 56 55 47 230 238
def Bv:=gk2 253 257 11 256 258 66 259
def Bx:=gk3 "NoKind" 68 67 59 246 254
def By:=gk2 269 273 13 272 274 78 275
def Bz:=gk3 "NoLying" 80 79 71 262 270
def BA:=gk2 285 289 15 288 290 90 291
def BB:=gk3 "NoText" 92 91 83 278 286
def xP:=gk2 301 305 17 304 306 102 307
def xQ:=gk3 "NoPlate" 104 103 95 294 302
def xR:=gk2 317 321 19 320 322 114 323
def xS:=gk3 "NoTree" 116 115 107 310 318
def xT:=gk2 333 337 21 336 338 126 339
def xU:=gk3 "NoLaying" 128 127 119 326 334
def xV:=gk2 349 353 23 352 354 138 355
def xW:=gk3 "TooLarge" 140 139 131 342 350
def xX:=gk2 365 369 25 368 370 150 371
def xY:=gk3 "NoTable" 152 151 143 358 366
def xZ:=gk2 381 385 27 384 386 162 387
def ya:=gk3 "NoNumber" 164 163 155 374 382
def yb:=gk2 397 401 29 400 402 174 403
def yc:=gk3 "NoWeights" 176 175 167 390 398
def yd:=gk2 413 417 31 416 418 186 419
def ye:=gk3 "NoTelling" 188 187 179 406 414
def yf:=gk0 "is_whole" 424 "is_whole" 425 426 34 2 191 192 193 194 195 429 430
def yg:=gk1 "is_whole" "is_whole" gI "platecuts.checks" 422 196
def yh:=gk0 "is_truth" 432 "is_truth" 433 434 36 1 198 199 200 201 202 436 437
def yi:=gk1 "is_truth" "is_truth" gJ "platecuts.checks" 422 203
def yj:=gk0 "is_row" 439 "is_row" 440 441 38 1 205 206 207 208 209 443 444
def yk:=gk1 "is_row" "is_row" pF "platecuts.checks" 422 210
def ym:=gk0 "is_kind" 452 "is_kind" 453 454 43 1 212 213 214 215 216 461 462
def yn:=gk1 "is_kind" "is_kind" eX "platecuts.shops" 446 217
def yo:=gk0 "can_lie_turned" 464 "can_lie_turned" 465 466 50 1 219 220 221 222 223 468 469
def yp:=gk1 "can_lie_turned" "can_lie_turned" pG "platecuts.shops" 446 224
def gk4 (x0:Str)(x1:Nat)(x2:Str)(x3 x4 x5 x6 x7 x8 x9 x10 x11:Nat)(P:Params):Obj:=%[(.type "code"),none,(.fields #[.str x0 x1,.str x2 x3,.str "/claim/cut.py" x4,.int x5 0,.int x6 0,.int 0 0,.int 0 0,.int 3 0,.ref x7,.bool true,.int 181 0,.ref x8,.none,.none,.none,.ref x9,.int x10 0,.int x5 0,.str "/claim/cut.py" x11])|#[]]
def yq:=gk4 "__init__" 483 "Shop.__init__" 484 485 54 3 233 234 235 486 487
def yr:=gk1 "__init__" "Shop.__init__" cG "platecuts.shops" 446 236
def yt:=gk0 "blade" 489 "Shop.blade" 490 491 65 1 238 239 240 241 242 493 494
def yu:=gk1 "blade" "Shop.blade" cP "platecuts.shops" 446 243
def yv:=gk0 "kinds" 496 "Shop.kinds" 497 498 68 1 245 246 247 248 249 500 501
def yw:=gk1 "kinds" "Shop.kinds" cQ "platecuts.shops" 446 250
def yx:=gk4 "wanted" 503 "Shop.wanted" 504 505 71 1 252 253 254 506 507
def yy:=gk1 "wanted" "Shop.wanted" iq "platecuts.shops" 446 255
def yz:=gk0 "lyings" 509 "Shop.lyings" 510 511 74 1 257 258 259 260 261 513 514
def yA:=gk1 "lyings" "Shop.lyings" ir "platecuts.shops" 446 262
def yB:=gk0 "is_lying" 516 "Shop.is_lying" 517 518 77 3 264 265 266 267 268 522 523
def yC:=gk1 "is_lying" "Shop.is_lying" gK "platecuts.shops" 446 269
def yD:=gk0 "sides" 525 "Shop.sides" 526 527 82 3 271 272 273 274 275 532 533
def yE:=gk1 "sides" "Shop.sides" jm "platecuts.shops" 446 276
def yF (P:Params):Obj:=%[(.type "dict"),none,(.dict #[kE P "__module__" 478 (.str "platecuts.shops" 446),kE P "__firstlineno__" 482 (.int 52 481),kE P "__init__" 488 (.ref 237),kE P "blade" 495 (.ref 244),kE P "kinds" 502 (.ref 251),kE P "wanted" 508 (.ref 256),kE P "lyings" 515 (.ref 263),kE P "is_lying" 524 (.ref 270),kE P "sides" 534 (.ref 277),kE P "__static_attributes__" 537 (.ref 278),kE P "__dict__" 539 (.ref 281),kE P "__weakref__" 541 (.ref 282),kE P "__doc__" 542 .none] 4)|#[]]
def yG (P:Params):Obj:=%[(.type "type"),none,(.cls %["Shop",[.type "object"],[.ref 280,.type "object"],279,"Shop",true,[],[],false,none|false])|#[none,none,some (.str "Shop" 471),some (.str "Shop" 479),some (.builtin "object.__new__"),some (.bool true)]]
def yH:=gk0 "read_number" 553 "read_number" 554 555 93 1 285 286 287 288 289 557 558
def yI:=gk1 "read_number" "read_number" cr "platecuts.shoptexts" 545 290
def yJ:=gk0 "read_turns" 560 "read_turns" 561 562 99 1 292 293 294 295 296 564 565
def yK:=gk1 "read_turns" "read_turns" cR "platecuts.shoptexts" 545 297
def yL:=gk4 "read_kind" 567 "read_kind" 568 569 103 1 299 300 301 570 571
def yM:=gk1 "read_kind" "read_kind" cH "platecuts.shoptexts" 545 302
def yN:=gk4 "read_shop" 573 "read_shop" 574 575 109 1 304 305 306 576 577
def yO:=gk1 "read_shop" "read_shop" cI "platecuts.shoptexts" 545 307
def yP:=gk0 "_law_pot" 581 "_law_pot" 582 583 120 2 309 310 311 312 313 587 588
def yQ:=gk1 "_law_pot" "_law_pot" pH "law_platecuts_k15_refused_texts" 579 314
def yR:=gk0 "_law_draw" 590 "_law_draw" 591 592 125 2 316 317 318 319 320 596 597
def yS:=gk1 "_law_draw" "_law_draw" kD "law_platecuts_k15_refused_texts" 579 321
def yT:=gk0 "_law_number" 599 "_law_number" 600 601 132 2 323 324 325 326 327 605 606
def yU:=gk1 "_law_number" "_law_number" eY "law_platecuts_k15_refused_texts" 579 328
def yV:=gk0 "_law_kind" 608 "_law_kind" 609 610 139 1 330 331 332 333 334 614 615
def yW:=gk1 "_law_kind" "_law_kind" kF "law_platecuts_k15_refused_texts" 579 335
def yX:=gk4 "_law_told" 617 "_law_told" 618 619 143 1 337 338 339 620 621
def yY:=gk1 "_law_told" "_law_told" iu "law_platecuts_k15_refused_texts" 579 340
def yZ:=gk4 "_law_lines" 623 "_law_lines" 624 625 146 2 342 343 344 626 627
def zb:=gk1 "_law_lines" "_law_lines" fB "law_platecuts_k15_refused_texts" 579 345
def zc:=gk4 "_law_text" 629 "_law_text" 630 631 155 1 347 348 349 632 633
def ze:=gk1 "_law_text" "_law_text" ix "law_platecuts_k15_refused_texts" 579 350
def zf:=gk0 "_law_bad_number" 635 "_law_bad_number" 636 637 157 2 352 353 354 355 356 642 643
def zg:=gk1 "_law_bad_number" "_law_bad_number" cS "law_platecuts_k15_refused_texts" 579 357
def zh:=gk0 "_law_spoilt_word" 645 "_law_spoilt_word" 646 647 164 2 359 360 361 362 363 652 653
def zi:=gk1 "_law_spoilt_word" "_law_spoilt_word" cu "law_platecuts_k15_refused_texts" 579 364
def zj:=gk0 "_law_spoilt_line" 655 "_law_spoilt_line" 656 657 172 3 366 367 368 369 370 662 663
def zk:=gk1 "_law_spoilt_line" "_law_spoilt_line" cw "law_platecuts_k15_refused_texts" 579 371
def zm:=gk0 "_law_spoilt" 665 "_law_spoilt" 666 667 181 2 373 374 375 376 377 673 674
def zn:=gk1 "_law_spoilt" "_law_spoilt" eZ "law_platecuts_k15_refused_texts" 579 378
def zo:=gk0 "_law_refused" 676 "_law_refused" 677 678 201 1 380 381 382 383 384 682 683
def zp:=gk1 "_law_refused" "_law_refused" dN "law_platecuts_k15_refused_texts" 579 385
def zq:=gk0 "_law_other" 685 "_law_other" 686 687 212 2 387 388 389 390 391 694 695
def zr:=gk1 "_law_other" "_law_other" gL "law_platecuts_k15_refused_texts" 579 392
def zt:=gk4 "_law_number_of" 697 "_law_number_of" 698 699 218 1 394 395 396 700 701
def zu:=gk1 "_law_number_of" "_law_number_of" cJ "law_platecuts_k15_refused_texts" 579 397
def zv:=gk4 "_law_kind_of" 703 "_law_kind_of" 704 705 222 1 399 400 401 706 707
def zw:=gk1 "_law_kind_of" "_law_kind_of" dO "law_platecuts_k15_refused_texts" 579 402
def zx:=gk4 "_law_due" 709 "_law_due" 710 711 228 1 404 405 406 712 713
def zy:=gk1 "_law_due" "_law_due" nH "law_platecuts_k15_refused_texts" 579 407
def zA:=gk4 "_law_other_right" 715 "_law_other_right" 716 717 237 1 409 410 411 718 719
def zB:=gk1 "_law_other_right" "_law_other_right" bQ "law_platecuts_k15_refused_texts" 579 412
def zC:=gk0 "law" 721 "law" 722 723 246 1 414 415 416 417 418 731 732
def zD:=gk1 "law" "law" iy "law_platecuts_k15_refused_texts" 579 419
def kK:Params->Frag:=λ P=>(nat_lit 3,kO3 P) :: (nat_lit 20,Bn P) :: (nat_lit 21,Bo P) :: (nat_lit 30,Bp P) :: (nat_lit 31,Bq P) :: (nat_lit 43,Br P) :: (nat_lit 44,Bs P) :: (nat_lit 55,Bt P) :: (nat_lit 56,Bu P) :: (nat_lit 67,Bv P) :: (nat_lit 68,Bx P) :: (nat_lit 79,By P) :: (nat_lit 80,Bz P) :: (nat_lit 91,BA P) :: (nat_lit 92,BB P) :: (nat_lit 103,xP P) :: (nat_lit 104,xQ P) :: (nat_lit 115,xR P) :: (nat_lit 116,xS P) :: (nat_lit 127,xT P) :: (nat_lit 128,xU P) :: (nat_lit 139,xV P) :: (nat_lit 140,xW P) :: (nat_lit 151,xX P) :: (nat_lit 152,xY P) :: (nat_lit 163,xZ P) :: (nat_lit 164,ya P) :: (nat_lit 175,yb P) :: (nat_lit 176,yc P) :: (nat_lit 187,yd P) :: (nat_lit 188,ye P) :: (nat_lit 196,yf P) :: (nat_lit 197,yg P) :: (nat_lit 203,yh P) :: (nat_lit 204,yi P) :: (nat_lit 210,yj P) :: (nat_lit 211,yk P) :: (nat_lit 217,ym P) :: (nat_lit 218,yn P) :: (nat_lit 224,yo P) :: (nat_lit 225,yp P) :: (nat_lit 236,yq P) :: (nat_lit 237,yr P) :: (nat_lit 243,yt P) :: (nat_lit 244,yu P) :: (nat_lit 250,yv P) :: (nat_lit 251,yw P) :: (nat_lit 255,yx P) :: (nat_lit 256,yy P) :: (nat_lit 262,yz P) :: (nat_lit 263,yA P) :: (nat_lit 269,yB P) :: (nat_lit 270,yC P) :: (nat_lit 276,yD P) :: (nat_lit 277,yE P) :: (nat_lit 279,yF P) :: (nat_lit 280,yG P) :: (nat_lit 290,yH P) :: (nat_lit 291,yI P) :: (nat_lit 297,yJ P) :: (nat_lit 298,yK P) :: (nat_lit 302,yL P) :: (nat_lit 303,yM P) :: (nat_lit 307,yN P) :: (nat_lit 308,yO P) :: (nat_lit 314,yP P) :: (nat_lit 315,yQ P) :: (nat_lit 321,yR P) :: (nat_lit 322,yS P) :: (nat_lit 328,yT P) :: (nat_lit 329,yU P) :: (nat_lit 335,yV P) :: (nat_lit 336,yW P) :: (nat_lit 340,yX P) :: (nat_lit 341,yY P) :: (nat_lit 345,yZ P) :: (nat_lit 346,zb P) :: (nat_lit 350,zc P) :: (nat_lit 351,ze P) :: (nat_lit 357,zf P) :: (nat_lit 358,zg P) :: (nat_lit 364,zh P) :: (nat_lit 365,zi P) :: (nat_lit 371,zj P) :: (nat_lit 372,zk P) :: (nat_lit 378,zm P) :: (nat_lit 379,zn P) :: (nat_lit 385,zo P) :: (nat_lit 386,zp P) :: (nat_lit 392,zq P) :: (nat_lit 393,zr P) :: (nat_lit 397,zt P) :: (nat_lit 398,zu P) :: (nat_lit 402,zv P) :: (nat_lit 403,zw P) :: (nat_lit 407,zx P) :: (nat_lit 408,zy P) :: (nat_lit 412,zA P) :: (nat_lit 413,zB P) :: (nat_lit 419,zC P) :: (nat_lit 420,zD P) :: []
end
end Pc
abbrev PySem.W.Fast.tw14043367921968732359:PySem.Program:=PySem.Challenge.pw_platecuts_k15_refused_texts
theorem PySem.W.Fast.te14043367921968732359:PySem.Challenge.pw_platecuts_k15_refused_texts=PySem.W.Fast.tw14043367921968732359:=rfl
namespace Hd
open PySem PySem.W
def S0:Str:="__name__"
def S2:Str:="__doc__"
def S3:Str:="__package__"
def S4:Str:="__loader__"
def S5:Str:="__spec__"
def zE:Str:="__main__"
def tm:Str:="__annotations__"
def tq:Str:="__builtins__"
def tz:Str:="__file__"
def gQ:Str:=%[|%[|[47,99,108,97,105,109,47,99,117,116,46,112,121]]]
def tD:Str:="__cached__"
def BC:Str:="<module>"
def cV:Str:="platecuts.errors"
def iK:Str:="_wall"
def dX:Str:="PlateError"
def jw:Str:="NoBlade"
def jx:Str:="NoKinds"
def jy:Str:="NoKind"
def jz:Str:="NoLying"
def jA:Str:="NoText"
def jB:Str:="NoPlate"
def jC:Str:="NoTree"
def jD:Str:="NoLaying"
def BD:Str:="k"
def ou:Str:="__module__"
def zF:Str:="__qualname__"
def ow:Str:="__firstlineno__"
def ox:Str:="__static_attributes__"
def tE:Str:="__weakref__"
def cM:Str:="law_platecuts_k15_refused_texts"
def lO:Str:="TooLarge"
def lP:Str:="NoTable"
def lQ:Str:="NoNumber"
def lR:Str:="NoWeights"
def lS:Str:="NoTelling"
def jE:Str:="is_whole"
def jF:Str:="is_truth"
def jG:Str:="is_row"
def tF:Str:="MOST_KINDS"
def tG:Str:="THINGS_OF_A_KIND"
def jH:Str:="is_kind"
def jI:Str:="can_lie_turned"
def gR:Str:="Shop"
def tH:Str:="WORDS_OF_A_KIND"
def tI:Str:="TURNS"
def tJ:Str:="turns"
def tK:Str:="STAYS"
def zG:Str:="stays"
def jJ:Str:="read_number"
def jK:Str:="read_turns"
def jL:Str:="read_kind"
def jM:Str:="read_shop"
def jN:Str:="_law_pot"
def jO:Str:="_law_draw"
def jP:Str:="_law_number"
def jQ:Str:="_law_kind"
def jR:Str:="_law_told"
def jS:Str:="_law_lines"
def qg:Str:="thing"
def BE:Str:="least"
def tL:Str:="platecuts.checks"
def BF:Str:="wide"
def BG:Str:="high"
def BH:Str:="worth"
def lT:Str:="wanted"
def lU:Str:="platecuts.shops"
def tM:Str:="kind"
def oy:Str:="__init__"
def oz:Str:="blade"
def oA:Str:="kinds"
def oB:Str:="lyings"
def oC:Str:="is_lying"
def oE:Str:="sides"
def tN:Str:="Shop.__init__"
def oF:Str:="self"
def tO:Str:="Shop.blade"
def tP:Str:="Shop.kinds"
def tQ:Str:="Shop.wanted"
def tR:Str:="Shop.lyings"
def zH:Str:="turned"
def tT:Str:="Shop.is_lying"
def BI:Str:="row"
def tU:Str:="Shop.sides"
def BJ:Str:="blade_width"
def BK:Str:="kind_rows"
def zI:Str:="__dict__"
def zJ:Str:="word"
def qh:Str:="platecuts.shoptexts"
def zK:Str:="_law_script"
def zM:Str:="_law_place"
def BL:Str:="_law_cell"
def gS:Str:="_law_pot_here"
def BM:Str:="_law_many"
def BN:Str:="_law_found"
def BO:Str:="_law_least"
def qi:Str:="_law_way"
def BP:Str:="_law_wide"
def BQ:Str:="_law_high"
def lV:Str:="_law_text"
def lW:Str:="_law_bad_number"
def lX:Str:="_law_spoilt_word"
def lY:Str:="_law_spoilt_line"
def lZ:Str:="_law_spoilt"
def ma:Str:="_law_refused"
def md:Str:="_law_other"
def me:Str:="_law_number_of"
def mf:Str:="_law_kind_of"
def mh:Str:="_law_due"
def mj:Str:="_law_other_right"
def oG:Str:="law"
def BR:Str:="_law_word"
def BS:Str:="_law_ahead"
def BU:Str:="_law_some"
def zN:Str:="_law_line"
def zO:Str:="_law_words"
def tV:Str:="_law_at"
def zP:Str:="_law_lines_here"
def tW:Str:="_law_text_here"
def BV:Str:="_law_told_here"
def BW:Str:="e"
def BX:Str:="_law_signs"
def BY:Str:="_law_sign"
def BZ:Str:="_law_blade"
def Ca:Str:="_law_kinds"
def Cb:Str:="_law_shop"
abbrev HK:Hook:=kHook Pc.kK [nat_lit 3,nat_lit 20,nat_lit 21,nat_lit 30,nat_lit 31,nat_lit 43,nat_lit 44,nat_lit 55,nat_lit 56,nat_lit 67,nat_lit 68,nat_lit 79,nat_lit 80,nat_lit 91,nat_lit 92,nat_lit 103,nat_lit 104,nat_lit 115,nat_lit 116,nat_lit 127,nat_lit 128,nat_lit 139,nat_lit 140,nat_lit 151,nat_lit 152,nat_lit 163,nat_lit 164,nat_lit 175,nat_lit 176,nat_lit 187,nat_lit 188,nat_lit 196,nat_lit 197,nat_lit 203,nat_lit 204,nat_lit 210,nat_lit 211,nat_lit 217,nat_lit 218,nat_lit 224,nat_lit 225,nat_lit 236,nat_lit 237,nat_lit 243,nat_lit 244,nat_lit 250,nat_lit 251,nat_lit 255,nat_lit 256,nat_lit 262,nat_lit 263,nat_lit 269,nat_lit 270,nat_lit 276,nat_lit 277,nat_lit 279,nat_lit 280,nat_lit 290,nat_lit 291,nat_lit 297,nat_lit 298,nat_lit 302,nat_lit 303,nat_lit 307,nat_lit 308,nat_lit 314,nat_lit 315,nat_lit 321,nat_lit 322,nat_lit 328,nat_lit 329,nat_lit 335,nat_lit 336,nat_lit 340,nat_lit 341,nat_lit 345,nat_lit 346,nat_lit 350,nat_lit 351,nat_lit 357,nat_lit 358,nat_lit 364,nat_lit 365,nat_lit 371,nat_lit 372,nat_lit 378,nat_lit 379,nat_lit 385,nat_lit 386,nat_lit 392,nat_lit 393,nat_lit 397,nat_lit 398,nat_lit 402,nat_lit 403,nat_lit 407,nat_lit 408,nat_lit 412,nat_lit 413,nat_lit 419,nat_lit 420] (λ _=>by kernel_rfl)
abbrev pt:Dl:=PySem.W.Fast.tw14043367921968732359
theorem pt_eq:PySem.Challenge.pw_platecuts_k15_refused_texts=pt:=PySem.W.Fast.te14043367921968732359
def tp (i:Nat):Stmt:=pt.main.body.getD i (.Pass %[0,0,0|0])
abbrev f (o:Params->Obj) (l r:Params->BT):Params->BT:=λ P=>.node (o P) (l P) (r P)
abbrev z:Params->BT:=λ _=>.nil
abbrev e (P:Params) (n:Str) (t:Nat) (v:Dp):DictEntry:=%[PyData.keyHash P n,.str n t|v]
abbrev m0:Nat:=nat_lit 11
abbrev an:Er Dp:=(↑6)
abbrev en:Env:={ scope:=pt.main.scope,locals:=mainNs,globals:=mainNs,cells:=[],code:=(.ref 13),frame:=some 14 }
abbrev cE:Code:=.body (behindTheImports pt) en
abbrev qP:Pos:=%[0,0,0|0]
abbrev B:Et Frame:=[topFrame qP]
abbrev L0:=SL.s14018661285674007319x4
abbrev L1:=SL.s11665532747177232413x24
abbrev L2:=SL.s15183661809925369436x15
abbrev L3:=SL.s13915890719876406383x10
abbrev L4:=SL.s13459172003223722735x3
abbrev L5:=SL.s10557405761357834076x3
abbrev L6:=SL.s4233737765568776869x3
abbrev L7:=SL.s2508922471967985374x5
abbrev L8:=SL.s15574269061696679450x3
abbrev L9:=SL.s6016482663378992977x10
abbrev L10:=SL.s5596568736180474577x8
abbrev L11:=SL.s2839554839881490554x3
abbrev L12:=SL.s725004073602090463x7
abbrev L13:=SL.s9436932552931045734x7
abbrev L14:=SL.s2754603736356183583x3
abbrev L15:=SL.s15185746759980889043x6
abbrev L16:=SL.s8192189862530294059x4
abbrev L17:=SL.s7038307821325472102x4
abbrev L18:=SL.s5662562618415449548x6
abbrev L19:=SL.s15281542589158584767x7
abbrev L20:=SL.s17651547275483570877x7
abbrev L21:=SL.s4036449017235975746x7
abbrev L22:=SL.s8879979712987360175x4
abbrev L23:=SL.s1801250619170735830x3
abbrev L24:=SL.s17659931425627118568x2
abbrev L25:=SL.s6063217899685152688x5
abbrev L26:=SL.s8008927332132565319x10
abbrev L27:=SL.s3544116645089599534x10
abbrev L28:=SL.s13761710972054866084x4
abbrev L29:=SL.s12896375587409280029x5
abbrev L30:=SL.s13014049009108672802x3
abbrev L31:=SL.s13935586738268321596x6
abbrev L32:=SL.s8200498257699607233x3
abbrev L33:=SL.s14114244577727609259x3
abbrev L34:=SL.s1499430450269397089x4
abbrev L35:=SL.s8755793994789770505x5
abbrev L36:=SL.s15725212667919936108x3
abbrev L37:=SL.s15791221867095933363x3
abbrev L38:=SL.s81309575031448614x3
abbrev L39:=SL.s8069831620301644142x5
abbrev L40:=SL.s10061844253413749634x4
abbrev L41:=SL.s9496514870978017513x5
abbrev L42:=SL.s8899691144933366716x7
abbrev L43:=SL.s15201008993051130160x6
abbrev L44:=SL.s741896355592496720x3
abbrev L45:=SL.s17925004256654032244x4
abbrev L46:=SL.s11695548795398191787x4
abbrev L47:=SL.s4156966113859768872x10
abbrev L48:=SL.s9501651726347032510x9
abbrev L49:=SL.s15722918466584999320x5
abbrev L50:=SL.s591115383303110208x11
abbrev L51:=SL.s15721156781594690315x7
abbrev L52:=SL.s14340494229221121180x9
abbrev L53:=SL.s13429844117177748173x6
abbrev L54:=SL.s16463266125957815391x5
abbrev L55:=SL.s4922535414793169389x9
abbrev L56:=SL.s8101838861749082086x8
abbrev L57:=SL.s7066276694103001551x3
abbrev L58:=SL.s9222952809800978799x4
abbrev L59:=SL.s462964344163437139x3
abbrev L60:=SL.s2742458400755230247x6
abbrev L61:=SL.s1438033511350832697x5
abbrev L62:=SL.s14365286008749172514x8
abbrev L63:=SL.s3642769012341782148x3
abbrev L64:=SL.s4674234679698826739x5
abbrev L65:=SL.s16656946322747308186x12
abbrev L66:=SL.s10796804682411823810x3
abbrev L67:=SL.s4290257624100764138x5
abbrev L68:=SL.s2766695959194262286x5
abbrev L69:=SL.s17162191345867700912x4
abbrev L70:=SL.s14339709457334898076x3
abbrev L71:=SL.s4278001404047624695x13
abbrev L72:=SL.s6585700554429387442x18
abbrev L73:=SL.s5946037652744460706x9
abbrev L74:=SL.s7410770068591931388x13
abbrev L75:=SL.s11817881795495490833x17
abbrev L76:=SL.s15679963881808890155x10
abbrev L77:=SL.s3871700062485845797x15
abbrev L78:=SL.s7689518266570723881x14
abbrev L79:=SL.s9001593270443806431x14
abbrev L80:=SL.s6882542574934516792x11
abbrev L81:=SL.s14403400214490484960x8
abbrev L82:=SL.s14457978657717015782x11
abbrev L83:=SL.s1753610191782819921x11
abbrev L84:=SL.s14119380538032626715x11
abbrev L85:=SL.s11437920000406562045x9
abbrev L86:=SL.s10852414792293593619x7
abbrev L87:=SL.s14816307405966870543x14
abbrev L88:=SL.s8682627914449686677x12
abbrev L89:=SL.s4428170145600203450x18
abbrev L90:=SL.s5991306692159431302x13
abbrev L91:=SL.s16067994140765818257x11
abbrev L92:=SL.s2327743974964600596x11
abbrev L93:=SL.s2804747833354056582x9
abbrev L94:=SL.s6070975301684473832x10
abbrev L95:=SL.s14270485950484850486x7
abbrev L96:=SL.s12041534306414923332x18
abbrev L97:=SL.s2531307568338490285x13
abbrev L98:=SL.s631175304937289666x17
abbrev L99:=SL.s5144983644357021410x12
abbrev Cn:=SL.s18039099521571816885x18
abbrev Co:=SL.s6011586214260557989x15
abbrev Cp:=SL.s5430567037509283100x13
abbrev Cq:=SL.s8117915138073963741x13
abbrev Cr:=SL.s3423317712779056401x25
abbrev Cs:=SL.s2007317383269046180x15
abbrev Ct:=SL.s17481586968713580700x14
abbrev Cu:=SL.s2450899226349176912x13
abbrev Cv:=SL.s16626165730633575011x14
abbrev Cw:=SL.s14288496050688921416x11
abbrev Cy:=SL.s5735081916595925998x15
abbrev Cz:=SL.s3865607918536308442x17
abbrev CA:=SL.s13337502604062700212x15
abbrev CB:=SL.s13114017843053701147x15
abbrev CC:=SL.s17467278006356818441x17
abbrev CD:=SL.s17722149559621369488x16
abbrev CF:=SL.s7855274175708717672x17
abbrev CG:=SL.s13351283678309829046x18
abbrev CI:=SL.s6668348653404991179x15
abbrev CJ:=SL.s12913350958174193794x18
abbrev CK:=SL.s16115879512475548326x12
abbrev CL:=SL.s15920661018069861047x16
abbrev CM:=SL.s10779130036587390575x21
abbrev CN:=SL.s7801419657504700863x10
abbrev CO:=SL.s1688129525768580628x8
abbrev CP:=SL.s1031832959479892071x19
abbrev CQ:=SL.s8991790508128307865x19
abbrev CS:=SL.s14539662485746970245x23
abbrev CT:=SL.s11643622729373238714x14
abbrev CU:=SL.s3386828779285465597x17
abbrev CV:=SL.s13042696260734638735x12
abbrev CW:=SL.s18239426817015966623x15
abbrev CY:=SL.s1270395311379034370x22
abbrev CZ:=SL.s10696252587037064777x22
abbrev Da:=SL.s7852717498200857586x20
abbrev Db:=SL.s6377248116197321094x8
abbrev Dc:=SL.s3834378056692298002x18
abbrev Dd:=SL.s17586630440231065808x18
abbrev De:=SL.s15234114252648025395x21
abbrev Df:=SL.s8496462677383758984x14
abbrev Dg:=SL.s16789243406116112673x4
abbrev Dh:=SL.s14400166428656793546x20
abbrev Di:=SL.s5857708277339239366x20
abbrev Dj:=SL.s7804999707787243718x20
abbrev tX:=SL.s7097527257260152453x26
abbrev Dk:=SL.s6658869562736209489x6
abbrev tY:=SL.s5856160107412720595x4
abbrev Cc:=SL.s658472552662922059x5
abbrev sZ (w:Do) (os:OsState):DY:=%[boot_heap w.params,Array.mk [],boot_drawn,boot_toks|os]
def o11 (P:Params):Obj:=%[(.type L68),none,(.seq #[] 0)|#[]]
def o12 (P:Params):Obj:=%[.none,none,(.fields #[])|#[]]
def g0 (x0:Str)(x1 x2 x3:Nat)(P:Params):Obj:=%[(.type tY),none,(.fields #[.str x0 x1,.str x0 (x1+1),.str gQ (x1+2),.int x2 0,.int 0 0,.int 0 0,.int 0 0,.int 0 0,.ref x3,.bool false,.int 181 0,.ref (x3+1),.none,.none,.none,.none,.int (x1+3) 0,.int x2 0,.str gQ (x1+4)])|#[]]
def o13:=g0 BC 182 1 11
def g1 (x0 x1:Nat)(x2:Str)(x3:Nat)(P:Params):Obj:=%[(.type Cc),none,.plain|#[↑x0,↑3,↑x1,none,some (.str x2 x3),none,↑0]]
def o14:=g1 13 3 zE 164
def hA (P:Params):Heap:=%[%[|[boot_o_0 P,boot_o_1 P,boot_o_2 P,boot_o_3 P,boot_o_4 P,boot_o_5 P,boot_o_6 P,boot_o_7 P,boot_o_8 P,boot_o_9 P,boot_o_10 P,o11 P,o12 P,o13 P,o14 P]]|{ }]
abbrev sA (w:Do) (os:OsState):DY:=%[hA w.params,(Array.mk []),%[0,0,0|0],187|os]
abbrev pA:Pos:=%[0,0,0|0]
theorem pre (w:Do):(λ os=>topGo treeTable pt w m0 an 12 (sZ w os) (topStub pt))=λ os=>some (sA w os,(%[denote treeTable cE,cE,pA|B]:Thread)):=by rw[PySem.W.Fast.te15667345088766844465,PySem.W.Fast.te14364793385576792824,PySem.W.Fast.te11892475500146522536];kernel_rfl
def tB:Params->BT:=(f boot_o_0 (f boot_o_1 (f boot_o_3 (f boot_o_7 z z) (f o11 z z)) (f boot_o_5 (f boot_o_9 z z) (f o13 z z))) (f boot_o_2 (f boot_o_4 (f boot_o_8 z z) (f o12 z z)) (f boot_o_6 (f boot_o_10 z z) (f o14 z z))))
abbrev sB (w:Do) (os:OsState):SharedT:=%[tB w.params,15,{ },(Array.mk []),%[0,0,0|0],187|os]
abbrev pB:Pos:=%[0,0,0|0]
theorem blk (w:Do):(λ os=>segRun treeTable pt w m0 an 1 1 (sA w os) ⟨(blockStart (behindTheImports pt) en).wrap (λ _=>doneF .next) deadEnd id id,cE,pA,B⟩)=λ os=>some (.next,(sB w os).abs,cE,pB):=by rw[PySem.W.Fast.te14374325043358763698,PySem.W.Fast.te14364793385576792824,PySem.W.Fast.te1066825118222455980];kernel_rfl
def Cd (P:Params):Obj:=%[(.type L0),none,(.dict #[e P S0 165 (.str cV 194),e P S2 166 .none,e P S3 167 .none,e P S4 168 (.builtin tX),e P S5 169 .none,e P tm 170 (.ref 6),e P tq 171 (.ref 4),e P tz 173 (.str gQ 172),e P tD 174 .none,e P iK 193 (.ref 21),e P dX 213 (.ref 31),e P jw 229 (.ref 44),e P jx 245 (.ref 56),e P jy 261 (.ref 68),e P jz 277 (.ref 80),e P jA 293 (.ref 92),e P jB 309 (.ref 104),e P jC 325 (.ref 116),e P jD 341 (.ref 128)] 19)|#[]]
def zQ (P:Params):Obj:=%[.none,none,(.fields #[.int 1 0,.int 0 0,.ref 20,.int 5 0,.int 0 0,.ref 27,.int 7 0,.int 0 0,.ref 40,.int 9 0,.int 0 0,.ref 52,.int 11 0,.int 0 0,.ref 64,.int 13 0,.int 0 0,.ref 76,.int 15 0,.int 0 0,.ref 88,.int 17 0,.int 0 0,.ref 100,.int 19 0,.int 0 0,.ref 112,.int 21 0,.int 0 0,.ref 124])|#[]]
def g2 (x0:Str)(x1:Nat)(P:Params):Obj:=%[(.type L68),none,(.seq #[.str x0 x1] 0)|#[]]
def o17:=g2 BD 190
def g3 (x0:Str)(x1:Nat)(P:Params):Obj:=%[.none,none,(.func %[x0,x0,L2.defArgs (tp x1),(.stmts (L2.defBody (tp x1))),L2.defScope (tp x1),0,[],.none,.none,.none,.none,none,.none,.none|0])|#[]]
def o19:=g3 iK 0
def g4 (x0:Str)(x1:Nat)(x2:Str)(x3 x4 x5 x6:Nat)(P:Params):Obj:=%[(.type tY),none,(.fields #[.str x0 x1,.str x2 (x1+1),.str gQ (x1+2),.int x3 0,.int x4 0,.int 0 0,.int 0 0,.int 3 0,.ref x5,.bool true,.int 181 0,.ref (x5+1),.none,.ref (x5+2),.ref (x5+3),.ref (x5+4),.int x6 0,.int x3 0,.str gQ (x6+1)])|#[]]
def o20:=g4 iK 187 iK 1 1 15 191
abbrev zR:=SL.s7174869446012820540x8
def g5 (x0:Str)(x1:Nat)(x2:Str)(x3 x4:Nat)(P:Params):Obj:=%[(.type zR),none,(.func %[x0,x0,L2.defArgs (tp x1),(.stmts (L2.defBody (tp x1))),L2.defScope (tp x1),3,[],.none,.none,.none,.str x2 x3,none,.ref x4,.none|0])|#[]]
def o21:=g5 iK 0 zE 164 20
def o22 (P:Params):Obj:=%[(.type L68),none,(.seq #[.type L94] 0)|#[]]
abbrev zS:=SL.s11030030927630378310x26
abbrev Ce:=SL.s10062305145149207511x16
def o23 (P:Params):Obj:=%[(.type zS),none,(.fields #[.builtin Ce,.type L69])|#[]]
def g6 (x0:Nat)(x1:Str)(x2 x3:Nat)(P:Params):Obj:=%[(.type L0),none,(.dict #[e P ou x0 (.str cV 194),e P zF (x0+2) (.str x1 (x0+1)),e P ow (x0+4) (.int x2 (x0+3)),e P ox (x0+5) (.ref x3)] 4)|#[]]
def o24:=g6 203 dX 5 29
def o27:=g0 dX 198 5 25
def o28:=g1 27 24 cV 194
def o30 (P:Params):Obj:=%[(.type L0),none,(.dict #[e P ou 203 (.str cV 194),e P ow 207 (.int 5 206),e P ox 208 (.ref 29),e P tE 210 (.ref 32),e P S2 211 .none] 3)|#[]]
abbrev tZ:=SL.s4209523147560561109x18
def o31 (P:Params):Obj:=%[(.type L69),none,(.cls %[dX,[.type L94],[.ref 31,.type L94,.type L73,.type L71,.type L60],30,dX,true,[],[.ref 44,.ref 56,.ref 68,.ref 80,.ref 92,.ref 104,.ref 116,.ref 128],false,none|false])|#[↑22,none,some (.str dX 196),some (.str dX 204),some (.builtin tZ),some (.bool true)]]
abbrev zT:=SL.s14755015743595814543x17
abbrev Cf:=SL.s10220274742760427390x26
def g7 (x0 x1:Nat)(P:Params):Obj:=%[(.type zT),none,(.fields #[.str tE x0,.ref x1,.builtin Cf,.none])|#[]]
def o32:=g7 209 31
def g8 (x0:Nat)(P:Params):Obj:=%[(.type L67),none,(.fields #[.ref x0,.ref x0,.ref x0])|#[]]
def o33:=g8 31
abbrev Cg:=SL.s4860613602091757760x24
def g9 (x0:Nat)(P:Params):Obj:=%[(.type zS),none,(.fields #[.builtin Cg,.ref x0])|#[]]
def o34:=g9 31
def o35 (P:Params):Obj:=%[(.type L68),none,(.seq #[.ref 31] 0)|#[]]
def o37:=g6 221 jw 7 42
def o40:=g0 jw 216 7 38
def o41:=g1 40 37 cV 194
def g10 (x0 x1 x2:Nat)(P:Params):Obj:=%[(.type L0),none,(.dict #[e P ou x0 (.str cV 194),e P ow (x0+4) (.int x1 (x0+3)),e P ox (x0+5) (.ref x2),e P S2 (x0+6) .none] 2)|#[]]
def o43:=g10 221 7 42
def g11 (x0:Str)(x1 x2 x3 x4:Nat)(P:Params):Obj:=%[(.type L69),none,(.cls %[x0,[.ref 31],[.ref x1,.ref 31,.type L94,.type L73,.type L71,.type L60],x2,x0,true,[],[],false,none|false])|#[↑x3,none,some (.str x0 x4),some (.str x0 (x4+8)),some (.builtin tZ),some (.bool true)]]
def o44:=g11 jw 44 43 35 214
def o45:=g8 44
def o46:=g9 44
def o49:=g6 237 jx 9 54
def o52:=g0 jx 232 9 50
def o53:=g1 52 49 cV 194
def o55:=g10 237 9 54
def o56:=g11 jx 56 55 47 230
def o57:=g8 56
def o58:=g9 56
def o61:=g6 253 jy 11 66
def o64:=g0 jy 248 11 62
def o65:=g1 64 61 cV 194
def o67:=g10 253 11 66
def o68:=g11 jy 68 67 59 246
def o69:=g8 68
def o70:=g9 68
def o73:=g6 269 jz 13 78
def o76:=g0 jz 264 13 74
def o77:=g1 76 73 cV 194
def o79:=g10 269 13 78
def o80:=g11 jz 80 79 71 262
def o81:=g8 80
def o82:=g9 80
def o85:=g6 285 jA 15 90
def o88:=g0 jA 280 15 86
def o89:=g1 88 85 cV 194
def o91:=g10 285 15 90
def o92:=g11 jA 92 91 83 278
def o93:=g8 92
def o94:=g9 92
def o97:=g6 301 jB 17 102
def qj:=g0 jB 296 17 98
def qk:=g1 100 97 cV 194
def ql:=g10 301 17 102
def qm:=g11 jB 104 103 95 294
def qo:=g8 104
def qp:=g9 104
def qr:=g6 317 jC 19 114
def qs:=g0 jC 312 19 110
def qt:=g1 112 109 cV 194
def qu:=g10 317 19 114
def qv:=g11 jC 116 115 107 310
def qw:=g8 116
def qx:=g9 116
def qy:=g6 333 jD 21 126
def qz:=g0 jD 328 21 122
def qA:=g1 124 121 cV 194
def qB:=g10 333 21 126
def qD:=g11 jD 128 127 119 326
def qF:=g8 128
def qG:=g9 128
def t0:Params->BT:=(f boot_o_0 (f boot_o_1 (f Cd (f boot_o_7 (f o11 (f o31 (f o12 (f qB z z) z) (f o35 z z)) (f o35 (f o79 z z) (f o12 z z))) (f o23 (f o12 (f o35 z z) (f ql z z)) (f o55 (f o12 z z) (f o35 z z)))) (f o11 (f o19 (f o35 (f o67 z z) (f o12 z z)) (f o12 (f o35 z z) (f qu z z))) (f o27 (f o43 (f o12 z z) (f o35 z z)) (f o35 (f o91 z z) (f o12 z z))))) (f boot_o_5 (f boot_o_9 (f o17 (f o33 (f o65 (f qF z z) z) (f o97 z z)) (f o49 (f o81 z z) (f qt z z))) (f o11 (f o41 (f o73 z z) (f qo z z)) (f o57 (f o89 z z) (f qy z z)))) (f o13 (f o21 (f o37 (f o69 z z) (f qk z z)) (f o53 (f o85 z z) (f qw z z))) (f o11 (f o45 (f o77 z z) (f qr z z)) (f o61 (f o93 z z) (f qA z z)))))) (f boot_o_2 (f boot_o_4 (f boot_o_8 (f o12 (f o32 (f o64 (f qD z z) z) (f o23 z z)) (f o23 (f o80 z z) (f qs z z))) (f o24 (f o40 (f o23 z z) (f qm z z)) (f o56 (f o88 z z) (f o23 z z)))) (f zQ (f o20 (f o23 (f o68 z z) (f qj z z)) (f o52 (f o23 z z) (f qv z z))) (f o28 (f o44 (f o76 z z) (f o23 z z)) (f o23 (f o92 z z) (f qz z z))))) (f boot_o_6 (f boot_o_10 (f o11 (f o34 (f o11 (f qG z z) z) (f o11 z z)) (f o11 (f o82 z z) (f o11 z z))) (f o12 (f o11 (f o11 z z) (f qp z z)) (f o58 (f o11 z z) (f o11 z z)))) (f o14 (f o22 (f o11 (f o70 z z) (f o11 z z)) (f o11 (f o11 z z) (f qx z z))) (f o30 (f o46 (f o11 z z) (f o11 z z)) (f o11 (f o94 z z) (f o11 z z)))))))
abbrev s0 (w:Do) (os:OsState):SharedT:=%[t0 w.params,131,{ },(Array.mk []),%[0,0,0|0],342|os]
abbrev p0:Pos:=%[21,0,22|8]
abbrev st0:Et Stmt:=(pt.main.body.drop 0).take 11
theorem q0 (w:Do):(λ os=>segRunT treeTable pt w m0 an 1 1929 (sB w os) %[(execs st0 en).wrap doneF deadEnd id id,cE,pB|B])=λ os=>some (.next,s0 w os,cE,p0):=by rw[PySem.W.Fast.te10110043849684766642,PySem.W.Fast.te14364793385576792824,PySem.W.Fast.te12563942051412417395];kernel_rfl
def Ch (P:Params):Obj:=%[(.type L0),none,(.dict #[e P S0 165 (.str cM 579),e P S2 166 .none,e P S3 167 .none,e P S4 168 (.builtin tX),e P S5 169 .none,e P tm 170 (.ref 6),e P tq 171 (.ref 4),e P tz 173 (.str gQ 172),e P tD 174 .none,e P iK 193 (.ref 21),e P dX 213 (.ref 31),e P jw 229 (.ref 44),e P jx 245 (.ref 56),e P jy 261 (.ref 68),e P jz 277 (.ref 80),e P jA 293 (.ref 92),e P jB 309 (.ref 104),e P jC 325 (.ref 116),e P jD 341 (.ref 128),e P lO 357 (.ref 140),e P lP 373 (.ref 152),e P lQ 389 (.ref 164),e P lR 405 (.ref 176),e P lS 421 (.ref 188),e P jE 431 (.ref 197),e P jF 438 (.ref 204),e P jG 445 (.ref 211),e P tF 449 (.int 8 448),e P tG 451 (.int 5 450),e P jH 463 (.ref 218),e P jI 470 (.ref 225),e P gR 544 (.ref 280),e P tH 548 (.int 5 547),e P tI 550 (.str tJ 549),e P tK 552 (.str zG 551),e P jJ 559 (.ref 291),e P jK 566 (.ref 298),e P jL 572 (.ref 303),e P jM 578 (.ref 308),e P jN 589 (.ref 315),e P jO 598 (.ref 322),e P jP 607 (.ref 329),e P jQ 616 (.ref 336),e P jR 622 (.ref 341),e P jS 628 (.ref 346)] 45)|#[]]
def zU (P:Params):Obj:=%[.none,none,(.fields #[.int 1 0,.int 0 0,.ref 20,.int 5 0,.int 0 0,.ref 27,.int 7 0,.int 0 0,.ref 40,.int 9 0,.int 0 0,.ref 52,.int 11 0,.int 0 0,.ref 64,.int 13 0,.int 0 0,.ref 76,.int 15 0,.int 0 0,.ref 88,.int 17 0,.int 0 0,.ref 100,.int 19 0,.int 0 0,.ref 112,.int 21 0,.int 0 0,.ref 124,.int 23 0,.int 0 0,.ref 136,.int 25 0,.int 0 0,.ref 148,.int 27 0,.int 0 0,.ref 160,.int 29 0,.int 0 0,.ref 172,.int 31 0,.int 0 0,.ref 184,.int 34 0,.int 0 0,.ref 196,.int 36 0,.int 0 0,.ref 203,.int 38 0,.int 0 0,.ref 210,.int 43 0,.int 0 0,.ref 217,.int 50 0,.int 0 0,.ref 224,.int 52 0,.int 0 0,.ref 231,.int 93 0,.int 0 0,.ref 290,.int 99 0,.int 0 0,.ref 297,.int 103 0,.int 0 0,.ref 302,.int 109 0,.int 0 0,.ref 307,.int 120 0,.int 0 0,.ref 314,.int 125 0,.int 0 0,.ref 321,.int 132 0,.int 0 0,.ref 328,.int 139 0,.int 0 0,.ref 335,.int 143 0,.int 0 0,.ref 340,.int 146 0,.int 0 0,.ref 345])|#[]]
def oH (P:Params):Obj:=%[(.type L69),none,(.cls %[dX,[.type L94],[.ref 31,.type L94,.type L73,.type L71,.type L60],30,dX,true,[],[.ref 44,.ref 56,.ref 68,.ref 80,.ref 92,.ref 104,.ref 116,.ref 128,.ref 140,.ref 152,.ref 164,.ref 176,.ref 188],false,none|false])|#[↑22,none,some (.str dX 196),some (.str dX 204),some (.builtin tZ),some (.bool true)]]
def ud:=g6 349 lO 23 138
def ue:=g0 lO 344 23 134
def uf:=g1 136 133 cV 194
def ug:=g10 349 23 138
def uh:=g11 lO 140 139 131 342
def ui:=g8 140
def uj:=g9 140
def uk:=g6 365 lP 25 150
def um:=g0 lP 360 25 146
def uo:=g1 148 145 cV 194
def uq:=g10 365 25 150
def ur:=g11 lP 152 151 143 358
def ut:=g8 152
def uu:=g9 152
def uv:=g6 381 lQ 27 162
def uw:=g0 lQ 376 27 158
def ux:=g1 160 157 cV 194
def uy:=g10 381 27 162
def uz:=g11 lQ 164 163 155 374
def uA:=g8 164
def uB:=g9 164
def uC:=g6 397 lR 29 174
def uD:=g0 lR 392 29 170
def uE:=g1 172 169 cV 194
def uF:=g10 397 29 174
def uG:=g11 lR 176 175 167 390
def uH:=g8 176
def uI:=g9 176
def uJ:=g6 413 lS 31 186
def uK:=g0 lS 408 31 182
def uL:=g1 184 181 cV 194
def uM:=g10 413 31 186
def uN:=g11 lS 188 187 179 406
def uO:=g8 188
def uP:=g9 188
def g12 (x0:Str)(x1:Nat)(x2:Str)(P:Params):Obj:=%[(.type L68),none,(.seq #[.str x0 x1,.str x2 (x1+1)] 0)|#[]]
def uQ:=g12 qg 427 BE
def uR:=g3 jE 17
def uS:=g4 jE 424 jE 34 2 191 429
def uT:=g5 jE 17 tL 422 196
def uU:=g2 qg 435
def uV:=g3 jF 18
def uW:=g4 jF 432 jF 36 1 198 436
def uX:=g5 jF 18 tL 422 203
def uY:=g2 qg 442
def uZ:=g3 jG 19
def va:=g4 jG 439 jG 38 1 205 443
def vb:=g5 jG 19 tL 422 210
def g13 (x0:Str)(x1:Nat)(x2 x3 x4 x5 x6:Str)(P:Params):Obj:=%[(.type L68),none,(.seq #[.str x0 x1,.str x2 (x1+1),.str x3 (x1+2),.str x4 (x1+3),.str x5 (x1+4),.str x6 (x1+5)] 0)|#[]]
def vc:=g13 qg 455 BF BG BH lT tJ
def vd:=g3 jH 23
def ve:=g4 jH 452 jH 43 1 212 461
def vf:=g5 jH 23 lU 446 217
def vg:=g2 tM 467
def vh:=g3 jI 24
def vi:=g4 jI 464 jI 50 1 219 468
def vj:=g5 jI 24 lU 446 224
def vk (P:Params):Obj:=%[(.type L0),none,(.dict #[e P ou 478 (.str lU 446),e P zF 480 (.str gR 479),e P ow 482 (.int 52 481),e P oy 488 (.ref 237),e P oz 495 (.ref 244),e P oA 502 (.ref 251),e P lT 508 (.ref 256),e P oB 515 (.ref 263),e P oC 524 (.ref 270),e P oE 534 (.ref 277),e P ox 537 (.ref 278)] 11)|#[]]
def vm (P:Params):Obj:=%[.none,none,(.fields #[.int 54 0,.int 4 0,.ref 236,.int 65 0,.int 4 0,.ref 243,.int 68 0,.int 4 0,.ref 250,.int 71 0,.int 4 0,.ref 255,.int 74 0,.int 4 0,.ref 262,.int 77 0,.int 4 0,.ref 269,.int 82 0,.int 4 0,.ref 276])|#[]]
def vn:=g0 gR 473 52 229
def vo:=g1 231 228 lU 446
def g14 (x0 x1:Str)(x2:Nat)(P:Params):Obj:=%[.none,none,(.func %[x0,x1,L2.defArgs (L2.inClass (tp 25) x2),(.stmts (L2.defBody (L2.inClass (tp 25) x2))),L2.defScope (L2.inClass (tp 25) x2),0,[],.none,.none,.none,.none,none,.none,.none|0])|#[]]
def vp:=g14 oy tN 0
def g15 (x0:Str)(x1:Nat)(x2:Str)(x3 x4 x5:Nat)(P:Params):Obj:=%[(.type tY),none,(.fields #[.str x0 x1,.str x2 (x1+1),.str gQ (x1+2),.int x3 0,.int x4 0,.int 0 0,.int 0 0,.int 3 0,.ref x5,.bool true,.int 181 0,.ref (x5+1),.none,.none,.none,.ref (x5+2),.int (x1+3) 0,.int x3 0,.str gQ (x1+4)])|#[]]
def vq:=g15 oy 483 tN 54 3 233
def g16 (x0 x1:Str)(x2 x3:Nat)(P:Params):Obj:=%[(.type zR),none,(.func %[x0,x1,L2.defArgs (L2.inClass (tp 25) x2),(.stmts (L2.defBody (L2.inClass (tp 25) x2))),L2.defScope (L2.inClass (tp 25) x2),3,[],.none,.none,.none,.str lU 446,none,.ref x3,.none|0])|#[]]
def vt:=g16 oy tN 0 236
def vv:=g2 oF 492
def vw:=g14 oz tO 1
def vx:=g4 oz 489 tO 65 1 238 493
def vy:=g16 oz tO 1 243
def vz:=g2 oF 499
def vA:=g14 oA tP 2
def vB:=g4 oA 496 tP 68 1 245 500
def vC:=g16 oA tP 2 250
def vD:=g14 lT tQ 3
def vE:=g15 lT 503 tQ 71 1 252
def vF:=g16 lT tQ 3 255
def vG:=g2 oF 512
def vH:=g14 oB tR 4
def vI:=g4 oB 509 tR 74 1 257 513
def vJ:=g16 oB tR 4 262
def g17 (x0:Str)(x1:Nat)(x2 x3:Str)(P:Params):Obj:=%[(.type L68),none,(.seq #[.str x0 x1,.str x2 (x1+1),.str x3 (x1+2)] 0)|#[]]
def vK:=g17 oF 519 tM zH
def vL:=g14 oC tT 5
def vM:=g4 oC 516 tT 77 3 264 522
def vN:=g16 oC tT 5 269
def g18 (x0:Str)(x1:Nat)(x2 x3 x4:Str)(P:Params):Obj:=%[(.type L68),none,(.seq #[.str x0 x1,.str x2 (x1+1),.str x3 (x1+2),.str x4 (x1+3)] 0)|#[]]
def vO:=g18 oF 528 tM zH BI
def vP:=g14 oE tU 6
def vQ:=g4 oE 525 tU 82 3 271 532
def vR:=g16 oE tU 6 276
def vS:=g12 BJ 535 BK
def vT (P:Params):Obj:=%[(.type L0),none,(.dict #[e P ou 478 (.str lU 446),e P ow 482 (.int 52 481),e P oy 488 (.ref 237),e P oz 495 (.ref 244),e P oA 502 (.ref 251),e P lT 508 (.ref 256),e P oB 515 (.ref 263),e P oC 524 (.ref 270),e P oE 534 (.ref 277),e P ox 537 (.ref 278),e P zI 539 (.ref 281),e P tE 541 (.ref 282),e P S2 542 .none] 4)|#[]]
abbrev Ci:=SL.s11443829558043349243x14
def vU (P:Params):Obj:=%[(.type L69),none,(.cls %[gR,[.type L60],[.ref 280,.type L60],279,gR,true,[],[],false,none|false])|#[none,none,some (.str gR 471),some (.str gR 479),some (.builtin Ci),some (.bool true)]]
abbrev Cj:=SL.s6511155373996960695x17
abbrev Ck:=SL.s12411053484034534018x21
def vV (P:Params):Obj:=%[(.type zT),none,(.fields #[.str zI 538,.ref 280,.builtin Cj,.builtin Ck])|#[]]
def vW:=g7 540 280
def vX:=g8 280
def vY:=g9 280
def vZ:=g2 zJ 556
def wc:=g3 jJ 30
def we:=g4 jJ 553 jJ 93 1 285 557
def wf:=g5 jJ 30 qh 545 290
def wg:=g2 zJ 563
def wj:=g3 jK 31
def wk:=g4 jK 560 jK 99 1 292 564
def wr:=g5 jK 31 qh 545 297
def wu:=g3 jL 32
def wv:=g15 jL 567 jL 103 1 299
def ww:=g5 jL 32 qh 545 302
def wx:=g3 jM 33
def wy:=g15 jM 573 jM 109 1 304
def wz:=g5 jM 33 qh 545 307
def wA:=g17 zK 584 zM BL
def wB:=g3 jN 35
def wC:=g4 jN 581 jN 120 2 309 587
def wD:=g5 jN 35 cM 579 314
def wE:=g17 gS 593 BM BN
def wF:=g3 jO 36
def wG:=g4 jO 590 jO 125 2 316 596
def wH:=g5 jO 36 cM 579 321
def wI:=g17 gS 602 BO qi
def wJ:=g3 jP 37
def wK:=g4 jP 599 jP 132 2 323 605
def wL:=g5 jP 37 cM 579 328
def wM:=g17 gS 611 BP BQ
def wN:=g3 jQ 38
def wO:=g4 jQ 608 jQ 139 1 330 614
def wP:=g5 jQ 38 cM 579 335
def wQ:=g3 jR 39
def wR:=g15 jR 617 jR 143 1 337
def wS:=g5 jR 39 cM 579 340
def wT:=g3 jS 40
def wU:=g15 jS 623 jS 146 2 342
def wV:=g5 jS 40 cM 579 345
def t1:Params->BT:=(f boot_o_0 (f boot_o_1 (f Ch (f boot_o_7 (f o11 (f oH (f o12 (f qB (f vE z z) z) (f o11 (f o11 z z) z)) (f o35 (f o12 (f vZ z z) z) (f vh z z))) (f o35 (f o79 (f o35 (f o11 z z) z) (f uY (f wO z z) z)) (f o12 (f uF (f ww z z) z) (f o12 z z)))) (f o23 (f o12 (f o35 (f o12 (f vJ z z) z) (f o12 (f wJ z z) z)) (f ql (f o35 (f o11 z z) z) (f vn z z))) (f o55 (f o12 (f uq (f vT z z) z) (f o11 (f o12 z z) z)) (f o35 (f o12 (f wA z z) z) (f vz z z))))) (f o11 (f o19 (f o35 (f o67 (f o35 (f vG z z) z) (f uR (f o11 z z) z)) (f o12 (f uy (f wf z z) z) (f o23 z z))) (f o12 (f o35 (f o12 (f vP z z) z) (f vb (f wQ z z) z)) (f qu (f o35 (f wy z z) z) (f vx z z)))) (f o27 (f o43 (f o12 (f ug (f o11 z z) z) (f uW (f o12 z z) z)) (f o35 (f o12 (f o11 z z) z) (f vp z z))) (f o35 (f o91 (f o35 (f vX z z) z) (f o11 z z)) (f o12 (f uM (f wD z z) z) (f vC z z)))))) (f boot_o_5 (f boot_o_9 (f o17 (f o33 (f o65 (f qF (f o11 z z) z) (f uQ (f wG z z) z)) (f o97 (f ux (f wc z z) z) (f vj z z))) (f o49 (f o81 (f uk (f vO z z) z) (f uZ (f o11 z z) z)) (f qt (f uH (f o12 z z) z) (f o11 z z)))) (f o11 (f o41 (f o73 (f uf (f o12 z z) z) (f o11 (f wL z z) z)) (f qo (f uC (f wk z z) z) (f o11 z z))) (f o57 (f o89 (f ut (f vV z z) z) (f ve (f wU z z) z)) (f qy (f uL (f wB z z) z) (f vA z z))))) (f o13 (f o21 (f o37 (f o69 (f ud (f vH z z) z) (f uT (f wI z z) z)) (f qk (f uA (f o12 z z) z) (f o11 z z))) (f o53 (f o85 (f uo (f vR z z) z) (f o12 (f wS z z) z)) (f qw (f uJ (f o11 z z) z) (f o11 z z)))) (f o11 (f o45 (f o77 (f ui (f vM z z) z) (f o11 (f o11 z z) z)) (f qr (f uE (f wu z z) z) (f vt z z))) (f o61 (f o93 (f uv (f o11 z z) z) (f vg z z)) (f qA (f uO (f o12 z z) z) (f o12 z z))))))) (f boot_o_2 (f boot_o_4 (f boot_o_8 (f o12 (f o32 (f o64 (f qD (f vF z z) z) (f o12 (f wF z z) z)) (f o23 (f uw (f o11 z z) z) (f vi z z))) (f o23 (f o80 (f o23 (f o12 z z) z) (f o11 (f wP z z) z)) (f qs (f uG (f o11 z z) z) (f vv z z)))) (f o24 (f o40 (f o23 (f ue (f o11 z z) z) (f uU (f wK z z) z)) (f qm (f o23 (f wj z z) z) (f vo z z))) (f o56 (f o88 (f ur (f vU z z) z) (f vd (f wT z z) z)) (f o23 (f uK (f o11 z z) z) (f o11 z z))))) (f zU (f o20 (f o23 (f o68 (f o23 (f o11 z z) z) (f uS (f o12 z z) z)) (f qj (f uz (f o11 z z) z) (f vk z z))) (f o52 (f o23 (f um (f vQ z z) z) (f o11 (f wR z z) z)) (f qv (f o23 (f wz z z) z) (f vy z z)))) (f o28 (f o44 (f o76 (f uh (f vL z z) z) (f uX (f wM z z) z)) (f o23 (f uD (f o12 z z) z) (f vq z z))) (f o23 (f o92 (f o23 (f vY z z) z) (f o12 z z)) (f qz (f uN (f o11 z z) z) (f o11 z z)))))) (f boot_o_6 (f boot_o_10 (f o11 (f o34 (f o11 (f qG (f o12 z z) z) (f o11 (f wH z z) z)) (f o11 (f o11 (f we z z) z) (f o11 z z))) (f o11 (f o82 (f o11 (f o11 z z) z) (f va (f o12 z z) z)) (f o11 (f uI (f wx z z) z) (f vw z z)))) (f o12 (f o11 (f o11 (f o11 (f vK z z) z) (f uV (f o11 z z) z)) (f qp (f o11 (f wr z z) z) (f o12 z z))) (f o58 (f o11 (f uu (f vW z z) z) (f vf (f wV z z) z)) (f o11 (f o11 (f wC z z) z) (f vB z z))))) (f o14 (f o22 (f o11 (f o70 (f o11 (f vI z z) z) (f o11 (f o11 z z) z)) (f o11 (f uB (f wg z z) z) (f vm z z))) (f o11 (f o11 (f o11 (f vS z z) z) (f vc (f o11 z z) z)) (f qx (f o11 (f o12 z z) z) (f o12 z z)))) (f o30 (f o46 (f o11 (f uj (f vN z z) z) (f o12 (f wN z z) z)) (f o11 (f o11 (f wv z z) z) (f o11 z z))) (f o11 (f o94 (f o11 (f o12 z z) z) (f o11 z z)) (f o11 (f uP (f wE z z) z) (f vD z z))))))))
abbrev s1 (w:Do) (os:OsState):SharedT:=%[t1 w.params,347,{ },(Array.mk []),%[0,0,0|0],629|os]
abbrev p1:Pos:=%[146,0,154|21]
abbrev st1:Et Stmt:=(pt.main.body.drop 11).take 30
theorem q1 (w:Do):(λ os=>segRunT treeTable pt w m0 an 1 1991 (s0 w os) %[(execs st1 en).wrap doneF deadEnd id id,cE,p0|B])=λ os=>some (.next,s1 w os,cE,p1):=by rw[PySem.W.Fast.te10110043849684766642,PySem.W.Fast.te14364793385576792824,PySem.W.Fast.te12563942051412417395];kernel_rfl
def zV (P:Params):Obj:=%[(.type L0),none,(.dict #[e P S0 165 (.str cM 579),e P S2 166 .none,e P S3 167 .none,e P S4 168 (.builtin tX),e P S5 169 .none,e P tm 170 (.ref 6),e P tq 171 (.ref 4),e P tz 173 (.str gQ 172),e P tD 174 .none,e P iK 193 (.ref 21),e P dX 213 (.ref 31),e P jw 229 (.ref 44),e P jx 245 (.ref 56),e P jy 261 (.ref 68),e P jz 277 (.ref 80),e P jA 293 (.ref 92),e P jB 309 (.ref 104),e P jC 325 (.ref 116),e P jD 341 (.ref 128),e P lO 357 (.ref 140),e P lP 373 (.ref 152),e P lQ 389 (.ref 164),e P lR 405 (.ref 176),e P lS 421 (.ref 188),e P jE 431 (.ref 197),e P jF 438 (.ref 204),e P jG 445 (.ref 211),e P tF 449 (.int 8 448),e P tG 451 (.int 5 450),e P jH 463 (.ref 218),e P jI 470 (.ref 225),e P gR 544 (.ref 280),e P tH 548 (.int 5 547),e P tI 550 (.str tJ 549),e P tK 552 (.str zG 551),e P jJ 559 (.ref 291),e P jK 566 (.ref 298),e P jL 572 (.ref 303),e P jM 578 (.ref 308),e P jN 589 (.ref 315),e P jO 598 (.ref 322),e P jP 607 (.ref 329),e P jQ 616 (.ref 336),e P jR 622 (.ref 341),e P jS 628 (.ref 346),e P lV 634 (.ref 351),e P lW 644 (.ref 358),e P lX 654 (.ref 365),e P lY 664 (.ref 372),e P lZ 675 (.ref 379),e P ma 684 (.ref 386),e P md 696 (.ref 393),e P me 702 (.ref 398),e P mf 708 (.ref 403),e P mh 714 (.ref 408),e P mj 720 (.ref 413),e P oG 733 (.ref 420)] 57)|#[]]
def rd (P:Params):Obj:=%[.none,none,(.fields #[.int 1 0,.int 0 0,.ref 20,.int 5 0,.int 0 0,.ref 27,.int 7 0,.int 0 0,.ref 40,.int 9 0,.int 0 0,.ref 52,.int 11 0,.int 0 0,.ref 64,.int 13 0,.int 0 0,.ref 76,.int 15 0,.int 0 0,.ref 88,.int 17 0,.int 0 0,.ref 100,.int 19 0,.int 0 0,.ref 112,.int 21 0,.int 0 0,.ref 124,.int 23 0,.int 0 0,.ref 136,.int 25 0,.int 0 0,.ref 148,.int 27 0,.int 0 0,.ref 160,.int 29 0,.int 0 0,.ref 172,.int 31 0,.int 0 0,.ref 184,.int 34 0,.int 0 0,.ref 196,.int 36 0,.int 0 0,.ref 203,.int 38 0,.int 0 0,.ref 210,.int 43 0,.int 0 0,.ref 217,.int 50 0,.int 0 0,.ref 224,.int 52 0,.int 0 0,.ref 231,.int 93 0,.int 0 0,.ref 290,.int 99 0,.int 0 0,.ref 297,.int 103 0,.int 0 0,.ref 302,.int 109 0,.int 0 0,.ref 307,.int 120 0,.int 0 0,.ref 314,.int 125 0,.int 0 0,.ref 321,.int 132 0,.int 0 0,.ref 328,.int 139 0,.int 0 0,.ref 335,.int 143 0,.int 0 0,.ref 340,.int 146 0,.int 0 0,.ref 345,.int 155 0,.int 0 0,.ref 350,.int 157 0,.int 0 0,.ref 357,.int 164 0,.int 0 0,.ref 364,.int 172 0,.int 0 0,.ref 371,.int 181 0,.int 0 0,.ref 378,.int 201 0,.int 0 0,.ref 385,.int 212 0,.int 0 0,.ref 392,.int 218 0,.int 0 0,.ref 397,.int 222 0,.int 0 0,.ref 402,.int 228 0,.int 0 0,.ref 407,.int 237 0,.int 0 0,.ref 412,.int 246 0,.int 0 0,.ref 419])|#[]]
def zW:=g3 lV 41
def zX:=g15 lV 629 lV 155 1 347
def zY:=g5 lV 41 cM 579 350
def zZ:=g18 gS 638 BR BS BU
def Aa:=g3 lW 42
def Ab:=g4 lW 635 lW 157 2 352 642
def Ac:=g5 lW 42 cM 579 357
def Ad:=g18 gS 648 zN zO tV
def Ae:=g3 lX 43
def Af:=g4 lX 645 lX 164 2 359 652
def Ag:=g5 lX 43 cM 579 364
def Ah:=g18 gS 658 qi zN zO
def Ai:=g3 lY 44
def Aj:=g4 lY 655 lY 172 3 366 662
def Ak:=g5 lY 44 cM 579 371
def Al (P:Params):Obj:=%[(.type L68),none,(.seq #[.str gS 668,.str zP 669,.str qi 670,.str tW 671,.str tV 672] 0)|#[]]
def Am:=g3 lZ 45
def An:=g4 lZ 665 lZ 181 2 373 673
def Ao:=g5 lZ 45 cM 579 378
def Ap:=g17 tW 679 BV BW
def Aq:=g3 ma 46
def Ar:=g4 ma 676 ma 201 1 380 682
def As:=g5 ma 46 cM 579 385
def At:=g13 gS 688 tW BX tV qi BY
def Au:=g3 md 47
def Av:=g4 md 685 md 212 2 387 694
def Aw:=g5 md 47 cM 579 392
def Ax:=g3 me 48
def Ay:=g15 me 697 me 218 1 394
def Az:=g5 me 48 cM 579 397
def AA:=g3 mf 49
def AB:=g15 mf 703 mf 222 1 399
def AC:=g5 mf 49 cM 579 402
def AD:=g3 mh 50
def AE:=g15 mh 709 mh 228 1 404
def AF:=g5 mh 50 cM 579 407
def AG:=g3 mj 51
def AH:=g15 mj 715 mj 237 1 409
def AI:=g5 mj 51 cM 579 412
def AJ (P:Params):Obj:=%[(.type L68),none,(.seq #[.str zK 724,.str zM 725,.str gS 726,.str BZ 727,.str Ca 728,.str zP 729,.str Cb 730] 0)|#[]]
def AK:=g3 oG 52
def AL:=g4 oG 721 oG 246 1 414 731
def AM:=g5 oG 52 cM 579 419
def t2:Params->BT:=(f boot_o_0 (f boot_o_1 (f zV (f boot_o_7 (f o11 (f oH (f o12 (f qB (f vE z z) (f o11 z z)) (f o11 (f o11 z z) z)) (f o35 (f o12 (f vZ z z) (f o12 z z)) (f vh (f zY z z) z))) (f o35 (f o79 (f o35 (f o11 z z) (f o11 z z)) (f uY (f wO z z) z)) (f o12 (f uF (f ww z z) z) (f o12 (f o12 z z) z)))) (f o23 (f o12 (f o35 (f o12 (f vJ z z) (f Au z z)) (f o12 (f wJ z z) z)) (f ql (f o35 (f o11 z z) z) (f vn (f o11 z z) z))) (f o55 (f o12 (f uq (f vT z z) (f AE z z)) (f o11 (f o12 z z) z)) (f o35 (f o12 (f wA z z) z) (f vz (f Al z z) z))))) (f o11 (f o19 (f o35 (f o67 (f o35 (f vG z z) (f o11 z z)) (f uR (f o11 z z) z)) (f o12 (f uy (f wf z z) (f AL z z)) (f o23 (f o11 z z) z))) (f o12 (f o35 (f o12 (f vP z z) (f AC z z)) (f vb (f wQ z z) z)) (f qu (f o35 (f wy z z) z) (f vx (f Aj z z) z)))) (f o27 (f o43 (f o12 (f ug (f o11 z z) (f o12 z z)) (f uW (f o12 z z) z)) (f o35 (f o12 (f o11 z z) z) (f vp (f Ae z z) z))) (f o35 (f o91 (f o35 (f vX z z) (f AG z z)) (f o11 (f o11 z z) z)) (f o12 (f uM (f wD z z) z) (f vC (f Ao z z) z)))))) (f boot_o_5 (f boot_o_9 (f o17 (f o33 (f o65 (f qF (f o11 z z) (f Ar z z)) (f uQ (f wG z z) z)) (f o97 (f ux (f wc z z) (f o11 z z)) (f vj (f o12 z z) z))) (f o49 (f o81 (f uk (f vO z z) (f AA z z)) (f uZ (f o11 z z) z)) (f qt (f uH (f o12 z z) z) (f o11 (f o11 z z) z)))) (f o11 (f o41 (f o73 (f uf (f o12 z z) (f Aw z z)) (f o11 (f wL z z) z)) (f qo (f uC (f wk z z) z) (f o11 (f Ad z z) z))) (f o57 (f o89 (f ut (f vV z z) (f o11 z z)) (f ve (f wU z z) z)) (f qy (f uL (f wB z z) z) (f vA (f Am z z) z))))) (f o13 (f o21 (f o37 (f o69 (f ud (f vH z z) (f At z z)) (f uT (f wI z z) z)) (f qk (f uA (f o12 z z) z) (f o11 (f Ab z z) z))) (f o53 (f o85 (f uo (f vR z z) (f o12 z z)) (f o12 (f wS z z) z)) (f qw (f uJ (f o11 z z) z) (f o11 (f o11 z z) z)))) (f o11 (f o45 (f o77 (f ui (f vM z z) (f Ay z z)) (f o11 (f o11 z z) z)) (f qr (f uE (f wu z z) z) (f vt (f Ag z z) z))) (f o61 (f o93 (f uv (f o11 z z) (f AI z z)) (f vg (f zW z z) z)) (f qA (f uO (f o12 z z) z) (f o12 (f o12 z z) z))))))) (f boot_o_2 (f boot_o_4 (f boot_o_8 (f o12 (f o32 (f o64 (f qD (f vF z z) (f Aq z z)) (f o12 (f wF z z) z)) (f o23 (f uw (f o11 z z) (f AJ z z)) (f vi (f o11 z z) z))) (f o23 (f o80 (f o23 (f o12 z z) (f o12 z z)) (f o11 (f wP z z) z)) (f qs (f uG (f o11 z z) z) (f vv (f Ah z z) z)))) (f o24 (f o40 (f o23 (f ue (f o11 z z) (f Av z z)) (f uU (f wK z z) z)) (f qm (f o23 (f wj z z) z) (f vo (f o12 z z) z))) (f o56 (f o88 (f ur (f vU z z) (f AF z z)) (f vd (f wT z z) z)) (f o23 (f uK (f o11 z z) z) (f o11 (f o11 z z) z))))) (f rd (f o20 (f o23 (f o68 (f o23 (f o11 z z) (f o12 z z)) (f uS (f o12 z z) z)) (f qj (f uz (f o11 z z) (f AM z z)) (f vk (f Aa z z) z))) (f o52 (f o23 (f um (f vQ z z) (f o11 z z)) (f o11 (f wR z z) z)) (f qv (f o23 (f wz z z) z) (f vy (f Ak z z) z)))) (f o28 (f o44 (f o76 (f uh (f vL z z) (f Ax z z)) (f uX (f wM z z) z)) (f o23 (f uD (f o12 z z) z) (f vq (f Af z z) z))) (f o23 (f o92 (f o23 (f vY z z) (f AH z z)) (f o12 (f o12 z z) z)) (f qz (f uN (f o11 z z) z) (f o11 (f o11 z z) z)))))) (f boot_o_6 (f boot_o_10 (f o11 (f o34 (f o11 (f qG (f o12 z z) (f As z z)) (f o11 (f wH z z) z)) (f o11 (f o11 (f we z z) (f AK z z)) (f o11 (f zZ z z) z))) (f o11 (f o82 (f o11 (f o11 z z) (f AB z z)) (f va (f o12 z z) z)) (f o11 (f uI (f wx z z) z) (f vw (f Ai z z) z)))) (f o12 (f o11 (f o11 (f o11 (f vK z z) (f o11 z z)) (f uV (f o11 z z) z)) (f qp (f o11 (f wr z z) z) (f o12 (f o11 z z) z))) (f o58 (f o11 (f uu (f vW z z) (f o12 z z)) (f vf (f wV z z) z)) (f o11 (f o11 (f wC z z) z) (f vB (f An z z) z))))) (f o14 (f o22 (f o11 (f o70 (f o11 (f vI z z) (f o11 z z)) (f o11 (f o11 z z) z)) (f o11 (f uB (f wg z z) z) (f vm (f Ac z z) z))) (f o11 (f o11 (f o11 (f vS z z) (f AD z z)) (f vc (f o11 z z) z)) (f qx (f o11 (f o12 z z) z) (f o12 (f o12 z z) z)))) (f o30 (f o46 (f o11 (f uj (f vN z z) (f Az z z)) (f o12 (f wN z z) z)) (f o11 (f o11 (f wv z z) z) (f o11 (f o11 z z) z))) (f o11 (f o94 (f o11 (f o12 z z) (f o11 z z)) (f o11 (f zX z z) z)) (f o11 (f uP (f wE z z) z) (f vD (f Ap z z) z))))))))
abbrev s2 (w:Do) (os:OsState):SharedT:=%[t2 w.params,421,{ },(Array.mk []),%[0,0,0|0],734|os]
abbrev p2:Pos:=%[246,0,258|15]
abbrev st2:Et Stmt:=(pt.main.body.drop 41).take 12
theorem q2 (w:Do):(λ os=>segRunT treeTable pt w m0 an 1 360 (s1 w os) %[(execs st2 en).wrap doneF deadEnd id id,cE,p1|B])=λ os=>some (.next,s2 w os,cE,p2):=by rw[PySem.W.Fast.te10110043849684766642,PySem.W.Fast.te14364793385576792824,PySem.W.Fast.te12563942051412417395];kernel_rfl
def hF (P:Params):Heap:=%[%[|[boot_o_0 P,boot_o_1 P,boot_o_2 P,zV P,boot_o_4 P,boot_o_5 P,boot_o_6 P,boot_o_7 P,boot_o_8 P,boot_o_9 P,boot_o_10 P,o11 P,rd P,o13 P,o14 P,o11 P,o12 P,o17 P,o11 P,o19 P,o20 P,o21 P,o22 P,o23 P,o24 P,o11 P,o12 P,o27 P,o28 P,o11 P,o30 P,oH P,o32 P,o33 P,o34 P,o35 P,o23 P,o37 P,o11 P,o12 P,o40 P,o41 P,o11 P,o43 P,o44 P,o45 P,o46 P,o35 P,o23 P,o49 P,o11 P,o12 P,o52 P,o53 P,o11 P,o55 P,o56 P,o57 P,o58 P,o35 P,o23 P,o61 P,o11 P,o12 P,o64 P,o65 P,o11 P,o67 P,o68 P,o69 P,o70 P,o35 P,o23 P,o73 P,o11 P,o12 P,o76 P,o77 P,o11 P,o79 P,o80 P,o81 P,o82 P,o35 P,o23 P,o85 P,o11 P,o12 P,o88 P,o89 P,o11 P,o91 P,o92 P,o93 P,o94 P,o35 P,o23 P,o97 P,o11 P,o12 P,qj P,qk P,o11 P,ql P,qm P,qo P,qp P,o35 P,o23 P,qr P,o11 P,o12 P,qs P,qt P,o11 P,qu P,qv P,qw P,qx P,o35 P,o23 P,qy P,o11 P,o12 P,qz P,qA P,o11 P,qB P,qD P,qF P,qG P,o35 P,o23 P,ud P,o11 P,o12 P,ue P,uf P,o11 P,ug P,uh P,ui P,uj P,o35 P,o23 P,uk P,o11 P,o12 P,um P,uo P,o11 P,uq P,ur P,ut P,uu P,o35 P,o23 P,uv P,o11 P,o12 P,uw P,ux P,o11 P,uy P,uz P,uA P,uB P,o35 P,o23 P,uC P,o11 P,o12 P,uD P,uE P,o11 P,uF P,uG P,uH P,uI P,o35 P,o23 P,uJ P,o11 P,o12 P,uK P,uL P,o11 P,uM P,uN P,uO P,uP P,o11 P,o12 P,uQ P,o11 P,uR P,uS P,uT P,o11 P,o12 P,uU P,o11 P,uV P,uW P,uX P,o11 P,o12 P,uY P,o11 P,uZ P,va P,vb P,o11 P,o12 P,vc P,o11 P,vd P,ve P,vf P,o11 P,o12 P,vg P,o11 P,vh P,vi P,vj P,o11 P,o23 P,vk P,o11 P,vm P,vn P,vo P,o11 P,o12 P,vp P,vq P,vt P,o11 P,o12 P,vv P,o11 P,vw P,vx P,vy P,o11 P,o12 P,vz P,o11 P,vA P,vB P,vC P,o11 P,o12 P,vD P,vE P,vF P,o11 P,o12 P,vG P,o11 P,vH P,vI P,vJ P,o11 P,o12 P,vK P,o11 P,vL P,vM P,vN P,o11 P,o12 P,vO P,o11 P,vP P,vQ P,vR P,vS P,vT P,vU P,vV P,vW P,vX P,vY P,o11 P,o12 P,vZ P,o11 P,wc P,we P,wf P,o11 P,o12 P,wg P,o11 P,wj P,wk P,wr P,o11 P,o12 P,wu P,wv P,ww P,o11 P,o12 P,wx P,wy P,wz P,o11 P,o12 P,wA P,o11 P,wB P,wC P,wD P,o11 P,o12 P,wE P,o11 P,wF P,wG P,wH P,o11 P,o12 P,wI P,o11 P,wJ P,wK P,wL P,o11 P,o12 P,wM P,o11 P,wN P,wO P,wP P,o11 P,o12 P,wQ P,wR P,wS P,o11 P,o12 P,wT P,wU P,wV P,o11 P,o12 P,zW P,zX P,zY P,o11 P,o12 P,zZ P,o11 P,Aa P,Ab P,Ac P,o11 P,o12 P,Ad P,o11 P,Ae P,Af P,Ag P,o11 P,o12 P,Ah P,o11 P,Ai P,Aj P,Ak P,o11 P,o12 P,Al P,o11 P,Am P,An P,Ao P,o11 P,o12 P,Ap P,o11 P,Aq P,Ar P,As P,o11 P,o12 P,At P,o11 P,Au P,Av P,Aw P,o11 P,o12 P,Ax P,Ay P,Az P,o11 P,o12 P,AA P,AB P,AC P,o11 P,o12 P,AD P,AE P,AF P,o11 P,o12 P,AG P,AH P,AI P,o11 P,o12 P,AJ P,o11 P,AK P,AL P,AM P]]|{ }]
abbrev sF (w:Do) (os:OsState):DY:=%[hF w.params,(Array.mk []),%[0,0,0|0],734|os]
theorem fin (w:Do):(λ os=>topRun treeTable pt w m0 an 2 (s2 w os).abs ⟨doneF .next,cE,p2,B⟩)=λ os=>some (sF w os):=by rw[PySem.W.Fast.te14082659384304107361,PySem.W.Fast.te14364793385576792824];kernel_rfl
theorem qH:behindTheImports pt=st0 ++ (st1 ++ (st2 ++ ([]))):=by kernel_rfl
abbrev MM:Nat:=12+(1+(1929+(1991+(360+2))))
theorem wW (w:Do) (os:OsState):topRun treeTable pt w m0 an MM (sZ w os) (topStub pt)=some (sF w os) :=
 go_top (congrFun (pre w) os) (piece_block (congrFun (blk w) os) (qH ▸ (piece_app (l:=st0) (segRun_of (congrFun (q0 w) os)) (piece_app (l:=st1) (segRun_of (congrFun (q1 w) os)) (piece_app (l:=st2) (segRun_of (congrFun (q2 w) os)) (piece_nil (congrFun (fin w) os)))))))
def loose:Et Str:=[iK,dX,jw,jx,jy,jz,jA,jB,jC,jD,lO,lP,lQ,lR,lS,jE,jF,jG,tF,tG,jH,jI,gR,tH,tI,tK,jJ,jK,jL,jM,jN,jO,jP,jQ,jR,jS,lV,lW,lX,lY,lZ,ma,md,me,mf,mh,mj]
abbrev NN:Nat:=8680
abbrev q:Dl:=view pt [52]
abbrev Xt:DY->Bool:=λ s=>xlAt q [] s && recOk [] s
theorem size (w:Do):((boot_heap w.params).isNs Eu && (Array.mk []:Es GenState).size == 0,(boot_heap w.params).objs.size,(boot_heap w.params).nsMap Eu "__annotations__")=(true,m0,an):=by rw[PySem.W.Fast.te8920871248978507458];kernel_rfl
theorem AN (w:Do):(λ os=>((staticsOk (importedModules pt.main.body) (boot_heap w.params) (hF w.params) && namesBound pt (hF w.params) && gensDone (sF w os) && laidKept (boot_heap w.params) (hF w.params)),openSeen q loose (importedModules pt.main.body) Xt true (sF w os),HK.obs (sF w os)))=λ _=>(true,openGood q loose,HK.val w):=by rw[PySem.W.Fast.te4187177175401517315,PySem.W.Fast.te5923862056798008813];kernel_rfl
theorem left:LeftO pt q loose Xt HK.obs HK.val NN true:=LeftO.of_pieces (boot_open (by kernel_rfl) ∅ (λ s=>rfl)) size wW ∅ AN
end Hd
open PySem PySem.W PyProof.Rows
set_option maxRecDepth 100000 in
set_option maxHeartbeats 0 in
theorem PySem.Challenge.cw_platecuts_k15_refused_texts_holds : PySem.Challenge.rw_platecuts_k15_refused_texts.Holds := by
 w_on;o_law
 refine holds_open (q:=view PySem.Challenge.pw_platecuts_k15_refused_texts [52]) (loose:=Hd.loose) (Xt:=λ s=>xlAt (view PySem.Challenge.pw_platecuts_k15_refused_texts [52]) [] s && recOk [] s) (XP:=XL (view PySem.Challenge.pw_platecuts_k15_refused_texts [52]) []) (Yf:=Hook.obs Hd.HK) (Ya:=Hook.val Hd.HK) (YP:=InK Pc.kK) (N:=Hd.NN) ?hl (Hook.of Hd.HK) (Hook.keeps Hd.HK) (λ s e=>xl_of s (Bool.and_eq_true_iff.mp e).1) XL.keeps (by rfl) (by rfl) (by rfl) (λ s e=>recFacts_of (Bool.and_eq_true_iff.mp e).2) (by rfl) (by first | assumption | decide +kernel) (by decide +kernel) ⟨rfl,rfl,rfl,rfl,rfl,by decide +kernel⟩ ?hw ?hc
 case hl=>exact Hd.pt_eq ▸ Hd.left
 case hw=>w_witness2
 k_fill
 refine Pc.walk (l:=PySem.Challenge.rw_platecuts_k15_refused_texts) rfl rfl (λ w h Y=>Y) ?F
 case F=>
  intro w mg fa h KX G hmg;refine' Pc.all_mk KX G hmg ?d0 ?d1 ?d2 ?d3 ?d4 ?d5 ?d6 ?d7 ?d8 ?d9 ?d10 ?d11 ?d12 ?d13 ?d14 ?d15 ?d16 ?d17 ?d18 ?d19 ?d20 ?d21 ?d22 ?d23 ?d24 ?d25 ?aC ?dm0 ?dm1 ?dm2 ?pg ?hd ?po ?sa ?mk ?kc ?n0 ?n1 ?ePlateError ?eNoText ?eNoBlade ?eNoKind ?eNoKinds ?eNoLaying ?eNoLying ?eNoNumber ?eNoPlate ?eNoTable ?eNoTelling ?eNoTree ?eNoWeights ?eTooLarge ?cPlateError ?cNoText ?cNoBlade ?cNoKind ?cNoKinds ?cNoLaying ?cNoLying ?cNoNumber ?cNoPlate ?cNoTable ?cNoTelling ?cNoTree ?cNoWeights ?cTooLarge ?sNoTextPlateError ?sNoTextNoText ?sNoTextNoBlade ?sNoTextNoKind ?sNoTextNoKinds ?sNoTextNoLaying ?sNoTextNoLying ?sNoTextNoNumber ?sNoTextNoPlate ?sNoTextNoTable ?sNoTextNoTelling ?sNoTextNoTree ?sNoTextNoWeights ?sNoTextTooLarge ?tNoKindsNoKinds ?tNoKindsNoKind ?tNoKindNoKinds ?tNoKindNoKind ?vNoText ?kaNoText ?kbNoText ?kcNoText ?kdNoText ?keNoText ?bPlateError ?bNoKinds ?bNoKind ?z0 ?z1 ?z2 ?z3 ?z4 ?z5 ?z6 ?z7 ?z8 ?z9 ?z10 ?z11 ?z12 ?z13 ?z14 ?z15 ?z16 ?z17 ?z18 ?uc0 ?uc1 ?uc2 ?uc3 ?uc4
  (case d0 | d1 | d2 | d3 | d4 | d5 | d6 | d7 | d8 | d9 | d10 | d11 | d12 | d13 | d14 | d15 | d16 | d17 | d18 | d19 | d20 | d21 | d22 | d23 | d24 | d25=>refine' Pc.diM ?a ?l ?c ?k;(case a=>k_is);(case l=>k_is);(case c=>k_is);(case k=>k_is))
  (case aC=>k_is)
  (case dm0 | dm1 | dm2=>refine' Pc.miM ?a ?i ?l ?c ?k;(case a=>k_is);(case i=>k_is);(case l=>k_is);(case c=>k_is);(case k=>k_is))
  (case pg | hd | po | sa | mk | kc | n0 | n1 | ePlateError | eNoText | eNoBlade | eNoKind | eNoKinds | eNoLaying | eNoLying | eNoNumber | eNoPlate | eNoTable | eNoTelling | eNoTree | eNoWeights | eTooLarge=>k_is)
  (case cPlateError | cNoText | cNoBlade | cNoKind | cNoKinds | cNoLaying | cNoLying | cNoNumber | cNoPlate | cNoTable | cNoTelling | cNoTree | cNoWeights | cTooLarge=>k_exc)
  (case sNoTextPlateError | sNoTextNoText | sNoTextNoBlade | sNoTextNoKind | sNoTextNoKinds | sNoTextNoLaying | sNoTextNoLying | sNoTextNoNumber | sNoTextNoPlate | sNoTextNoTable | sNoTextNoTelling | sNoTextNoTree | sNoTextNoWeights | sNoTextTooLarge | tNoKindsNoKinds | tNoKindsNoKind | tNoKindNoKinds | tNoKindNoKind | vNoText | kaNoText | kbNoText | kcNoText | kdNoText | keNoText | bPlateError | bNoKinds | bNoKind | z0 | z1 | z2 | z3 | z4 | z5 | z6 | z7 | z8 | z9 | z10 | z11 | z12 | z13 | z14 | z15 | z16 | z17 | z18 | uc0 | uc1 | uc2 | uc3 | uc4=>k_is)