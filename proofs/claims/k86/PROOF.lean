import PyProof.Rows.All
import Wide.All
import OpenK.AllK
import Wide.FinOn
import Lean
import PyProof.EqAt
import PyProof.EqKinds
import PyProof.TupleCall
import PyProof.Draws
import PyProof.WalksMore
import PyProof.EnumMake
import PyProof.ReprRoads
import PyProof.Rows.SortWalk
import PyProof.Rows.SumAny
import PyProof.FitsBits
import KE.KSortTup
import PyProof.Rows.Range3
import PySem.Challenge.RW_platecuts_k86_whole_stores_undone
set_option maxRecDepth 100000
set_option maxHeartbeats 0
local macro_rules|`(def $i $s:optDeclSig $v:declVal)=>`(noncomputable def $i $s:optDeclSig $v:declVal)
local macro_rules|`(abbrev $i $s:optDeclSig $v:declVal)=>`(noncomputable abbrev $i $s:optDeclSig $v:declVal)
local macro_rules|`(∅)=>`(by decide +kernel)
local macro_rules|`(⋯)=>`(by lia)
local macro_rules|`(↑$x)=>`(some (.ref $x))
local macro_rules|`(⇑$x)=>`(some (.int $x))
local macro_rules|`(↥$x)=>`(some (.lst $x))
local macro_rules|`(~~~$x)=>`(some (.tup $x))
section
open PySem PySem.W PySem.Spec PyProof PyProof.Rows
abbrev G7:=@Shared
abbrev G8:=@Program
abbrev I9:=@FuncData
abbrev JT:=@World
abbrev JU:=@Value
abbrev A0:=@wpAny_bind
abbrev A3:=@wpAny_pure
abbrev A4:=@wpS_bind
abbrev A7:=@wpS_pure
abbrev A8:=@List.mem_append_right
abbrev A9:=@List.getElem?_eq_some_iff
abbrev B0:=@Heap.get?_push_of_some
abbrev B1:=@Heap.get?_push_size
abbrev B2:=@Heap.lt_size
abbrev B3:=@decide_eq_true
abbrev B4:=@decide_eq_false
abbrev B5:=@Bool.false_ne_true
abbrev B6:=@Nat.le_refl
abbrev B7:=@List.mem_cons_of_mem
abbrev B8:=@List.mem_of_getElem?
abbrev B9:=@List.mem_append_left
abbrev C0:=@List.mem_cons_self
abbrev C1:=@Option.some.inj
abbrev C2:=@Nat.ne_of_lt
abbrev C3:=@of_decide_eq_true
abbrev C4:=@List.not_mem_nil
abbrev C5:=@Nat.lt_of_lt_of_le
abbrev C6:=@List.mem_append
abbrev C7:=@beq_iff_eq
abbrev C8:=@PySem.W.Frag
abbrev C9:=@Nat.le_trans
abbrev E1:=@Nat.lt_of_le_of_lt
abbrev E2:=@List.getElem?_eq_none
abbrev E3:=@Nat.lt_irrefl
abbrev E4:=@List.mem_singleton
abbrev E5:=@Paired.length
abbrev E6:=@PassesOwn.never
abbrev E7:=@Int.le_refl
abbrev E8:=@PySem.W.fnOf
abbrev E9:=@False.elim
abbrev G0:=@Nat.zero_le
abbrev G1:=@Nat.lt_succ_self
abbrev G2:=@List.getElem?_eq_getElem
abbrev G3:=@wpAny_truthy_bool
abbrev G4:=@wpAny_call_entry
abbrev G5:=@wpAny_newObj_type
abbrev G6:=@PySem.F.plainAttrs_list
end
theorem zS2:2<=PySem.sizeLine:=∅
theorem zS5:5<=PySem.sizeLine:=∅
theorem zS1:1<=PySem.sizeLine:=∅
theorem zS4:4<=PySem.sizeLine:=∅
theorem zS3:3<=PySem.sizeLine:=∅
theorem zS0:0<=PySem.sizeLine:=∅
theorem zS11:11<=PySem.sizeLine:=∅
theorem Y{α:Sort _}{a:α}:a=a:=rfl
set_option Elab.async false
set_option linter.all false
namespace L2
open PySem PySem.Spec PyProof.Rows
abbrev Key:=Sum Int Str
def vL:Key->JU->Bool
 | .inl k,v=>Value.isInt k v
 | .inr x,v=>Value.isStrOf x v
def GB (w:JT):Key->Int
 | .inl k=>hashInt k
 | .inr x=>hashStr w x
theorem bj:∀ {k:Key} {v:JU},vL k v=true->(∃i t,k=Sum.inl i/\v=Value.int i t)\/(∃x t,k=Sum.inr x/\v=Value.str x t)
 | .inl i,v,h=>by obtain ⟨t,e⟩:=Value.isInt_shape (k:=i) (v:=v) h;exact .inl ⟨i,t,Y,e⟩
 | .inr x,v,h=>by obtain ⟨t,e⟩:=Value.isStrOf_shape (x:=x) (v:=v) h;exact .inr ⟨x,t,Y,e⟩
theorem we (a b:Int):decide ((Sum.inl a:Key)=Sum.inl b)=(a == b):=by
 by_cases e:a=b
 ·subst e; simp
 ·have h:¬ (Sum.inl a:Key)=Sum.inl b:=λ q=>e (Sum.inl.inj q);rw [decide_eq_false h];exact (beq_eq_false_iff_ne.mpr e).symm
theorem wf (a b:Str):decide ((Sum.inr a:Key)=Sum.inr b)=decide (a=b):=by
 by_cases e:a=b
 ·subst e; simp
 ·have h:¬ (Sum.inr a:Key)=Sum.inr b:=λ q=>e (Sum.inr.inj q);rw [decide_eq_false h,decide_eq_false e]
theorem wg (a:Int) (b:Str):decide ((Sum.inl a:Key)=Sum.inr b)=false:=B4 (λ q=>nomatch q)
theorem wj (a:Str) (b:Int):decide ((Sum.inr a:Key)=Sum.inl b)=false:=B4 (λ q=>nomatch q)
def iG (prog:G8) (w:JT):PySem.KeyKind prog w Key where
 is:=vL
 hash:=GB w
 inj:=λ v a b ha hb=>by
  rcases bj ha with ⟨i,t,rfl,rfl⟩ | ⟨x,t,rfl,rfl⟩
  ·rcases bj hb with ⟨j,u,rfl,e⟩ | ⟨y,u,rfl,e⟩
   ·injection e with e1 _; rw [e1]
   ·exact nomatch e
  ·rcases bj hb with ⟨j,u,rfl,e⟩ | ⟨y,u,rfl,e⟩
   ·exact nomatch e
   ·injection e with e1 _; rw [e1]
 byValue:=λ k v h=>by rcases bj h with ⟨i,t,rfl,rfl⟩ | ⟨x,t,rfl,rfl⟩ <;> rfl
 pyHash:=λ hv h=>by
  rcases bj hv with ⟨i,t,rfl,rfl⟩ | ⟨x,t,rfl,rfl⟩
  ·exact wpAny_pyHash_int h
  ·exact wpAny_pyHash_str h
 eqBool:=λ hu hv h=>by
  rcases bj hu with ⟨i,t,rfl,rfl⟩ | ⟨x,t,rfl,rfl⟩
  ·rcases bj hv with ⟨j,u,rfl,rfl⟩ | ⟨y,u,rfl,rfl⟩
   ·rw [we] at h; exact wpAny_eqBool_int h
   ·rw [wg] at h; exact SeqAt.EqAt.int_str i t y u _ _ _ _ h
  ·rcases bj hv with ⟨j,u,rfl,rfl⟩ | ⟨y,u,rfl,rfl⟩
   ·rw [wj] at h; exact SeqAt.EqAt.str_int x t j u _ _ _ _ h
   ·rw [wf] at h; exact wpAny_eqBool_str h
 «strs» := λ k x t v h=>by
  rcases bj h with ⟨i,u,rfl,e⟩ | ⟨y,u,rfl,e⟩
  ·exact nomatch e
  ·injection e with e1 _
   subst e1;cases v <;> rfl
inductive V where
 | non | bl (b:Bool) | int (i:Int) | str (x:Str) | byt (b:Array UInt8) | flt (b:UInt64) | ref (a:Addr) | ty (n:String)
 deriving DecidableEq
def RelV:V->JU->Prop
 | .non,u=>u=Value.none
 | .bl b,u=>u=Value.bool b
 | .int i,u=>∃t,u=Value.int i t
 | .str x,u=>∃t,u=Value.str x t
 | .byt b,u=>∃t,u=Value.bytes b t
 | .flt b,u=>∃t,u=Value.float b t
 | .ref a,u=>u=Value.ref a
 | .ty n,u=>u=Value.type n
abbrev Vals:List V->List JU->Prop:=Paired RelV
theorem Vals.length {xs:List V} {us:List JU} (r:Vals xs us):xs.length=us.length:=E5 r
theorem Vals.get:∀ {xs:List V} {us:List JU} {i:Nat} {x:V},Vals xs us->xs[i]? = some x->∃u,us[i]? = some u/\RelV x u
 | _,_,_,_,.nil,e=>by simp at e
 | _,_,0,_,.cons r _,e=>by simp at e; subst e; exact ⟨_,Y,r⟩
 | _,_,i + 1,x,.cons _ t,e=>by obtain ⟨u,h1,h2⟩:=Vals.get (i:=i) (x:=x) t (by simpa using e);exact ⟨u,by simpa using h1,h2⟩
theorem Vals.set {x:V} {u:JU} (r:RelV x u):∀ {xs:List V} {us:List JU} (i:Nat),Vals xs us->Vals (xs.set i x) (us.set i u)
 | _,_,_,.nil=>.nil
 | _,_,0,.cons _ t=>.cons r t
 | _,_,i + 1,.cons q t=>.cons q (Vals.set r i t)
theorem Vals.append:∀ {xs ys:List V} {us ws:List JU},Vals xs us->Vals ys ws->Vals (xs ++ ys) (us ++ ws)
 | _,_,_,_,.nil,s=>s
 | _,_,_,_,.cons r t,s=>.cons r (Vals.append t s)
theorem Vals.take:∀ {xs:List V} {us:List JU} (n:Nat),Vals xs us->Vals (xs.take n) (us.take n)
 | _,_,0,_=>.nil
 | _,_,_ + 1,.nil=>.nil
 | _,_,n + 1,.cons r t=>.cons r (Vals.take n t)
theorem Vals.drop:∀ {xs:List V} {us:List JU} (n:Nat),Vals xs us->Vals (xs.drop n) (us.drop n)
 | _,_,0,r=>r
 | _,_,_ + 1,.nil=>.nil
 | _,_,n + 1,.cons _ t=>Vals.drop n t
def RelO:Option V->Option JU->Prop
 | some v,some u=>RelV v u
 | none,none=>True
 | _,_=>False
def KV {κ:Type}:List (κ×V)->List (κ×JU)->Prop:=Paired λ (p:κ×V) (q:κ×JU)=>p.1=q.1/\RelV p.2 q.2
def kV:Key->V
 | .inl i=>.int i
 | .inr x=>.str x
inductive HO where
 | lst (xs:List V)
 | tup (xs:List V)
 | dK (kvs:List (Key×V)) | dT (kvs:List (List Key×V))
 | set (S:Int->Bool) (n:Nat)
 | ins (C dx:Addr) (fs:List (Str×V))
 | own (x:Addr)
 | xd (fs:List (Str×V))
 | met (f x:Addr)
 | rng (lo hi:Int)
 | frz (o:Obj) (u:HO)
 | tbl (ps:Array JU)
 | ext (φ:Heap->Prop)
abbrev Hp:=Addr->Option HO
def upd (H:Hp) (a:Addr) (o:HO):Hp:=λ b=>if b=a then some o else H b
theorem af {H:Hp} {a:Addr} {o:HO}:upd H a o a=some o:=by unfold upd; rw [if_pos rfl]
theorem au {H:Hp} {a b:Addr} {o:HO} (h:b≠a):upd H a o b=H b:=by unfold upd; rw [if_neg h]
theorem ar {H:Hp} {a b:Addr} {o:HO} (h:H a=some o) (h':H b=none):a≠b:=by intro e; subst e; rw [h] at h'; cases h'
section
variable (P:G8) (w:JT)
def ObjOk (H:Hp) (h:Heap) (a:Addr):HO->Prop
 | .lst xs=>xs.length<=sizeLine/\∃ (its:List JU) (n:Nat),Vals xs its/\h.get? a=some { cls:=.type "list",data:=.seq its.toArray n }
 | .tup xs=>xs.length<=sizeLine/\∃its:List JU,Vals xs its/\IsTup h a its.toArray
 | .dK kvs=>kvs.length<=sizeLine/\(a == sysModules)=false/\∃vs,KV kvs vs/\h.DictOf (iG P w) a vs
 | .dT kvs=>kvs.length<=sizeLine/\(a == sysModules)=false/\∃xs:List (List Key×Addr×JU),
   Paired (λ (p:List Key×V) (q:List Key×Addr×JU)=>p.1=q.1/\H q.2.1= ~~~(p.1.map kV)/\RelV p.2 q.2.2) kvs xs /\
   ∃o es ep,h.get? a=some o/\o.ExactDict/\o.data=.dict es ep/\es.toList=xs.map (entryOfKey (tupleKind (iG P w)))/\(xs.map (·.1)).Nodup
 | .set S n=>h.SetOf (intKind P w) a S n
 | .ins C dx fs=>H dx=some (.own a)/\fs.length<=1000/\dx≠a/\h.get? a=some (PySem.W.instObj C dx) /\
   ∃mA,h.Ns1 dx mA/\(∀f,RelO (fs.lookup f) (mA f))/\PySem.Within mA (fs.map (·.1))
 | .own _=>∃o,h.get? a=some o
 | .xd fs=>∃mA,h.Ns1 a mA/\∀f,RelO (fs.lookup f) (mA f)
 | .rng lo hi=>∃t u v,h.get? a=some { cls:=.type "range",data:=.fields #[.int lo t,.int hi u,.int 1 v] }
 | .frz o u=>h.get? a=some o/\ObjOk H h a u
 | .tbl ps=>h.get? a=some { cls:=.none,data:=.fields ps }
 | .met f x=>h.get? a=some (PySem.W.methodObj (.ref f) (.ref x))
 | .ext φ=>φ h/\(∃o,h.get? a=some o)/\∀h1 h2:Heap,φ h1->(∀o,h1.get? a=some o->h2.get? a=some o)->φ h2
def HOk (H:Hp) (h:Heap):Prop:=∀a o,H a=some o->ObjOk P w H h a o
end
section
variable {P:G8} {w:JT} {H H':Hp} {h h':Heap} {a:Addr} {o:HO}
theorem ObjOk.lt (x:ObjOk P w H h a o):a < h.objs.size:=by
 cases o with
 | lst xs=>obtain ⟨_,_,_,_,e⟩:=x; exact B2 e
 | tup xs=>obtain ⟨_,_,_,p⟩:=x; exact p.lt
 | dK kvs=>obtain ⟨_,_,_,_,o,_,_,e,_⟩:=x; exact B2 e
 | dT kvs=>obtain ⟨_,_,_,_,o,_,_,e,_⟩:=x; exact B2 e
 | set S n=>obtain ⟨o,_,_,_,e,_⟩:=x; exact B2 e
 | ins C dx fs=>obtain ⟨_,_,_,e,_⟩:=x; exact B2 e
 | own y=>obtain ⟨_,e⟩:=x; exact B2 e
 | xd fs=>obtain ⟨_,⟨_,_,_,e,_⟩,_⟩:=x; exact B2 e
 | rng lo hi=>obtain ⟨_,_,_,e⟩:=x; exact B2 e
 | frz ob u=>obtain ⟨e,_⟩:=x; exact B2 e
 | tbl ps=>exact B2 (show h.get? a=some _ from x)
 | met f y=>exact B2 (show h.get? a=some _ from x)
 | ext φ=>obtain ⟨_,⟨_,e⟩,_⟩:=x; exact B2 e
theorem Paired.mapP {α β:Type} {F G:α->β->Prop}:∀ {l₁:List α} {l₂:List β},Paired F l₁ l₂->(∀a b,F a b->G a b)->Paired G l₁ l₂
 | _,_,.nil,_=>.nil
 | _,_,.cons r t,f=>.cons (f _ _ r) (Paired.mapP t f)
abbrev JY:=@Paired.mapP
theorem ObjOk.stay (x:ObjOk P w H h a o) (k:∀b u,(b=a\/H b=some (.own a))->h.get? b=some u->h'.get? b=some u)
  (ho:∀b,H b=some (.own a)->H' b=some (.own a)) (ht:∀b xs,H b= ~~~xs->H' b= ~~~xs):ObjOk P w H' h' a o:=by
 induction o with
 | lst xs=>obtain ⟨z,its,n,r,e⟩:=x; exact ⟨z,its,n,r,k _ _ (.inl rfl) e⟩
 | tup xs=>obtain ⟨z,its,r,ob,e,c⟩:=x; exact ⟨z,its,r,ob,k _ _ (.inl rfl) e,c⟩
 | dK kvs=>obtain ⟨z,y,vs,r,ob,es,ep,e,c⟩:=x; exact ⟨z,y,vs,r,ob,es,ep,k _ _ (.inl rfl) e,c⟩
 | dT kvs =>
  obtain ⟨z,y,xs,r,ob,es,ep,e,c⟩:=x;exact ⟨z,y,xs,JY r λ p q z=>⟨z.1,ht _ _ z.2.1,z.2.2⟩,ob,es,ep,k _ _ (.inl rfl) e,c⟩
 | set S n=>obtain ⟨ob,es,ep,t,e,c⟩:=x; exact ⟨ob,es,ep,t,k _ _ (.inl rfl) e,c⟩
 | ins C dx fs =>
  obtain ⟨d,z,ne,e,mA,⟨od,es,ep,e2,c⟩,r⟩:=x;exact ⟨ho _ d,z,ne,k _ _ (.inl rfl) e,mA,⟨od,es,ep,k _ _ (.inr d) e2,c⟩,r⟩
 | own y=>obtain ⟨ob,e⟩:=x; exact ⟨ob,k _ _ (.inl rfl) e⟩
 | xd fs=>obtain ⟨mA,⟨od,es,ep,e,c⟩,r⟩:=x; exact ⟨mA,⟨od,es,ep,k _ _ (.inl rfl) e,c⟩,r⟩
 | rng lo hi=>obtain ⟨t,u,v,e⟩:=x; exact ⟨t,u,v,k _ _ (.inl rfl) e⟩
 | frz ob u ih=>obtain ⟨e,q⟩:=x; exact ⟨k _ _ (.inl rfl) e,ih q⟩
 | tbl ps =>
  have e:h.get? a=some { cls:=.none,data:=.fields ps }:=x;show h'.get? a=some { cls:=.none,data:=.fields ps };exact k a _ (.inl rfl) e
 | met f y =>
  have e:h.get? a=some (PySem.W.methodObj (.ref f) (.ref y)):=x;show h'.get? a=some (PySem.W.methodObj (.ref f) (.ref y));exact k a _ (.inl rfl) e
 | ext φ=>obtain ⟨p,⟨o,e⟩,st⟩:=x; exact ⟨st _ _ p λ o q=>k _ _ (.inl rfl) q,⟨o,k _ _ (.inl rfl) e⟩,st⟩
theorem HOk.lt (x:HOk P w H h) (e:H a=some o):a < h.objs.size:=(x a o e).lt
theorem HOk.fresh (x:HOk P w H h) (e:h.objs.size<=a):H a=none:=by
 cases q:H a with
 | none=>rfl
 | some u=>exact absurd (C5 (x.lt q) e) (E3 _)
theorem HOk.kept (x:HOk P w H h) (k:∀b u,h.get? b=some u->h'.get? b=some u):HOk P w H h':=λ a o e =>
 (x a o e).stay (λ b u _ q=>k b u q) (λ _ q=>q) λ _ _ q=>q
theorem HOk.laid (x:HOk P w H h) (k:∀b u,h.get? b=some u->h'.get? b=some u) (hp:h.objs.size<=a) (new:ObjOk P w (upd H a o) h' a o):HOk P w (upd H a o) h':=λ b u e=>by
 have hn:=x.fresh hp
 by_cases hb:b=a
 ·subst hb; rw [af] at e; cases e; exact new
 ·rw [au hb] at e;exact (x b u e).stay (λ c v _ q=>k c v q) (λ c q=>by rw [au (ar q hn)]; exact q) λ c xs q=>by rw [au (ar q hn)]; exact q
end
def Rd (H:Hp) (a:Addr) (u:HO):Prop:=H a=some u\/∃o,H a=some (.frz o u)
theorem Rd.ok {P:G8} {w:JT} {H:Hp} {h:Heap} {a:Addr} {u:HO} (r:Rd H a u) (x:HOk P w H h):ObjOk P w H h a u:=by
 rcases r with r | ⟨o,r⟩
 ·exact x a u r
 ·obtain ⟨_,q⟩:=x a _ r;exact q
def Mut:Option HO->Prop
 | ↥_=>True
 | some (.dK _)=>True
 | some (.dT _)=>True
 | some (.set _ _)=>True
 | some (.ins _ _ _)=>True
 | some (.ext _)=>True
 | _=>False
section
variable {P:G8} {w:JT} {H:Hp} {h h':Heap} {x e:Addr} {o':HO}
theorem HOk.write (ok:HOk P w H h) (mu:Mut (H x)) (he:e=x\/H e=some (.own x)) (k:∀b u,b≠e->h.get? b=some u->h'.get? b=some u) (heo:∃u,h'.get? e=some u)
  (new:ObjOk P w (upd H x o') h' x o'):HOk P w (upd H x o') h':=λ b u q=>by
 have nown:∀c y,H c=some (.own y)->c≠x:=λ c y r z=>by subst z; rw [r] at mu; exact mu
 have ntup:∀c xs,H c= ~~~xs->c≠x:=λ c xs r z=>by subst z; rw [r] at mu; exact mu
 by_cases hb:b=x
 ·subst hb; rw [af] at q; cases q; exact new
 ·rw [au hb] at q
  by_cases hbe:b=e
  ·have q':H b=some (.own x):=by
    rcases he with z | z
    ·exact absurd (hbe.trans z) hb
    ·rw [hbe]; exact z
   rw [q] at q'; cases q';obtain ⟨v,hv⟩:=heo;exact ⟨v,by rw [hbe]; exact hv⟩
  ·refine (ok b u q).stay (λ c v hc r=>k c v ?_ r) (λ c r=>by rw [au (nown c b r)]; exact r) λ c xs r=>by rw [au (ntup c xs r)]; exact r
   rcases hc with rfl | hc
   ·exact hbe
   ·rintro rfl;rcases he with z | z
    ·exact nown c b hc z
    ·rw [hc] at z; cases z; exact hb rfl
end
structure Un (fs ex:List Addr) (H H':Hp) (h h':Heap):Prop where
 keep:∀b o,h.get? b=some o->H b=none->b∉fs->b∉ex->h'.get? b=some o
 slot:∀b o,h.get? b=some o->H b=none->b∈fs->b∉ex->∃sl,h'.get? b=some { o with slots:=sl }
 free:∀b o,h.get? b=some o->H b=none->b∉ex->H' b=none
 there:∀b o,h.get? b=some o->b∉ex->∃o',h'.get? b=some o'
 tups:∀b xs,H b= ~~~xs->H' b= ~~~xs
 frzs:∀b o u,H b=some (.frz o u)->H' b=some (.frz o u)
 tbls:∀b ps,H b=some (.tbl ps)->∃more,H' b=some (.tbl (ps ++ more))
section
variable {fs fs' ex ex':List Addr} {H H1 H2:Hp} {h h1 h2 h':Heap} {a x e:Addr} {o:HO}
theorem Un.any (u:Un fs ex H H1 h h1) {b:Addr} {ob:Obj} (q:h.get? b=some ob) (n:H b=none) (hx:b∉ex):∃sl,h1.get? b=some { ob with slots:=sl }:=by
 by_cases hb:b∈fs
 ·exact u.slot b ob q n hb hx
 ·exact ⟨ob.slots,u.keep b ob q n hb hx⟩
theorem Un.kept (k:∀b u,h.get? b=some u->h'.get? b=some u):Un fs ex H H h h' :=
 ⟨λ b ob q _ _ _=>k b ob q,λ b ob q _ _ _=>⟨ob.slots,k b ob q⟩,λ _ _ _ n _=>n,λ b ob q _=>⟨ob,k b ob q⟩,λ _ _ q=>q,λ _ _ _ q=>q,λ _ ps q=>⟨#[],by rw [q]; simp⟩⟩
theorem Un.refl:Un fs ex H H h h:=Un.kept λ _ _ q=>q
theorem Un.laid (k:∀b u,h.get? b=some u->h'.get? b=some u) (hp:h.objs.size<=a) (hn:H a=none):Un fs ex H (upd H a o) h h' where
 keep:=λ b u q _ _ _=>k b u q
 slot:=λ b u q _ _ _=>⟨u.slots,k b u q⟩
 free:=λ b u q n _=>by rw [au (Nat.ne_of_lt (Nat.lt_of_lt_of_le (Heap.lt_size q) hp))]; exact n
 there:=λ b u q _=>⟨u,k b u q⟩
 tups:=λ b xs q=>by rw [au (ar q hn)]; exact q
 frzs:=λ b u xs q=>by rw [au (ar q hn)]; exact q
 tbls:=λ b ps q=>⟨#[],by rw [au (ar q hn),q]; simp⟩
theorem Un.write (mu:Mut (H x)) (he:e=x\/H e=some (.own x)) (k:∀b u,b≠e->h.get? b=some u->h'.get? b=some u) (heo:∃u,h'.get? e=some u):Un fs ex H (upd H x o) h h':=by
 have hx:∀b,H b=none->b≠x:=λ b n z=>by subst z; rw [n] at mu; exact mu
 have hb:∀b,H b=none->b≠e:=λ b n z=>by
  subst z;rcases he with r | r
  ·exact hx b n r
  ·rw [n] at r; cases r
 have hm:∀b u,H b=some u->¬ Mut (some u)->b≠x:=λ b u q nm z=>by subst z; rw [q] at mu; exact nm mu
 refine ⟨λ b u q n _ _=>k b u (hb b n) q,λ b u q n _ _=>⟨u.slots,k b u (hb b n) q⟩,λ b u q n _=>by rw [au (hx b n)]; exact n,λ b u q _=>?_,
  λ b xs q=>by rw [au (hm b _ q λ z=>z)]; exact q,λ b u xs q=>by rw [au (hm b _ q λ z=>z)]; exact q,λ b ps q=>⟨#[],by rw [au (hm b _ q λ z=>z),q]; simp⟩⟩
 by_cases hbe:b=e
 ·subst hbe; exact heo
 ·exact ⟨u,k b u hbe q⟩
end
def trk (h:Heap) (H:Hp):List Addr:=(List.range h.objs.size).filter λ a=>(H a).isSome
def iH (h:Heap) (H:Hp):Heap:=PySem.W.hideAll h (trk h H)
theorem nY (h:Heap) (H:Hp):(iH h H).objs.size=h.objs.size:=PySem.W.hideAll_size _ _
theorem pZ {h:Heap} {H:Hp} {b:Addr} {o:Obj} (e:h.get? b=some o) (n:H b=none):(iH h H).get? b=some o :=
 PySem.W.hideAll_get _ e λ hm=>by have q:(H b).isSome=true:=(List.mem_filter.mp hm).2;rw [n] at q; simp at q
theorem sI {h:Heap} {H:Hp} {b:Addr} {o:Obj} (e:(iH h H).get? b=some o):h.get? b=some o/\H b=none:=by
 have e':h.get? b=some o:=PySem.W.of_hideAll (trk h H) e;refine ⟨e',?_⟩;cases q:H b with
 | none=>rfl
 | some x =>
  have hm:b∈trk h H:=List.mem_filter.mpr ⟨List.mem_range.mpr (B2 e'),by simp [q]⟩;have z:(iH h H).get? b=none:=PySem.W.hideAll_none (trk h H) hm;rw [z] at e; cases e
def sJ (g h:Heap) (L:Addr):List (Addr×Obj):=(List.range h.objs.size).filterMap λ a=>if a=L\/(g.get? a).isSome=true then none else (h.get? a).map λ o=>(a,o)
def rest (g h:Heap) (L d:Addr):List (Addr×Obj):=(sJ g h L).filter λ p=>decide (p.1≠d)
structure Mod (K:C8) (mg:Str->Option Value) (base:Heap):Prop where
 kin:K.In base
 glob:base.Ns mainGlobals mg
 blt:∃mb,base.Ns builtinsNs mb/\∀x:Str,x ≠ "__name__" -> mb x=bootBuiltins x
 nolimit:base.NoLimit
/-- the context: a def's body (or a comprehension's block) running. base: fixed through the aU law; s₀,H₀: the entry; outer: the frames whose slots others may change (a def's callers); stack: all frames that run;
   ex: iterators that were made ahead of the entry and are walked here (a comprehension's); fn: the names whose cells were made at the entry (a def: all; a comprehension's block: its own); calm: not within an except suite; pn: pins that every state bears; xe: what is wanted of an exception that leaves the code -/
structure Cx where
 prog:Program
 w:World
 K:C8
 mg:Str->Option Value
 base:Heap
 A:Around
 N:List Str
 s₀:Shared
 H₀:Hp
 env:Env
 outer:List Env
 stack:List Env
 ex:List Addr
 fn:Str->Bool
 calm:Bool
 pn:List (Addr×Obj)
 xe:JU->G7->Prop
def frs (l:List Env):List Addr:=l.filterMap (·.frame)
abbrev Cx.fs (X:Cx):List Addr:=frs X.outer
def Vis (sc:Scope) (x:Str):Prop:=sc.names.lookup x=some .local\/sc.names.lookup x=some .cell\/sc.names.lookup x=some .free
def Loc (sc:Scope) (x:Str):Prop:=sc.names.lookup x=some .local\/sc.names.lookup x=some .cell
def GC (env:Env) (h:Heap) (m:Str->Option JU) (x:Str) (u:JU):Prop :=
 (env.kindOf x=some .local/\m x=some u)\/((env.kindOf x=some .cell\/env.kindOf x=some .free)/\∃c,env.cells.lookup x=some c/\h.IsCell c (some u))
structure Cx.Ok (X:Cx):Prop where
 mod:Mod X.K X.mg X.base
 kind:X.env.scope.kind=.function
 glob:X.env.globals=mainGlobals
 blt:X.env.builtins=builtinsNs
 above:X.s₀.heap.objs.size<=X.env.locals
 inj:∀x y c,X.env.cells.lookup x=some c->X.env.cells.lookup y=some c->x=y
 has:∀x,(X.env.kindOf x=some .cell\/X.env.kindOf x=some .free)->∃c,X.env.cells.lookup x=some c
 cab:∀x c,X.fn x=true->X.env.cells.lookup x=some c->X.s₀.heap.objs.size<=c
 hd:X.calm=true->X.A.handled=none
 frames:X.A.frames=some X.stack
 stk:X.stack=X.outer\/(X.stack=X.env :: X.outer/\X.env.frame=some X.env.locals)
 exf:∀b∈X.ex,b≠X.env.locals/\∀x c,X.env.cells.lookup x=some c->c≠b
 bs:∀b o,X.base.get? b=some o->X.s₀.heap.get? b=some o/\X.H₀ b=none
 bsz:X.base.objs.size<=X.s₀.heap.objs.size
 noex:∀b o,X.base.get? b=some o->b∉X.ex
 exfs:∀b∈X.ex,b∉X.fs
 funs:X.s₀.heap.FunFrames X.base X.outer
 frf:∀b∈X.fs,X.H₀ b=none
structure Inv (X:Cx) (pins:List (Addr×Obj)) (σ:List (Option V)) (H:Hp) (s:Shared):Prop where
 ok:X.Ok
 os:s.os=X.s₀.os
 bare:AllBare s.gens
 base:Un X.fs X.ex X.H₀ H X.s₀.heap s.heap
 loc:∃m,s.heap.Ns X.env.locals m/\∀ (i:Nat) (x:Str) (v:V),X.N[i]? = some x->σ[i]? = some (some v)->Vis X.env.scope x->∃u,RelV v u/\GC X.env s.heap m x u
 cell:∀x c,X.env.cells.lookup x=some c->∃v,s.heap.IsCell c v
 free:H X.env.locals=none
 freeC:∀x c,X.env.cells.lookup x=some c->H c=none
 pin:∀p∈X.pn ++ pins,s.heap.get? p.1=some p.2/\H p.1=none/\p.1≠X.env.locals/\p.1∉X.fs/\∀v,p.2.data≠.cell v
 hok:HOk X.prog X.w H s.heap
 len:σ.length=X.N.length
section
variable {X:Cx} {pins:List (Addr×Obj)} {σ:List (Option V)} {H H':Hp} {s:G7} {h':Heap}
theorem Cx.Ok.nofr (ok:X.Ok) {b:Addr} {o:Obj} (e:X.base.get? b=some o):b∉X.fs:=λ hb=>by have:=(ok.funs.mem hb).1;rw [e] at this; cases this
theorem Inv.bs (I:Inv X pins σ H s):∀b o,X.base.get? b=some o->s.heap.get? b=some o/\H b=none:=λ b o e =>
 ⟨I.base.keep b o (I.ok.bs b o e).1 (I.ok.bs b o e).2 (I.ok.nofr e) (I.ok.noex b o e),I.base.free b o (I.ok.bs b o e).1 (I.ok.bs b o e).2 (I.ok.noex b o e)⟩
theorem Inv.bk (I:Inv X pins σ H s):∀b o,X.base.get? b=some o->s.heap.get? b=some o:=λ b o e=>(I.bs b o e).1
theorem Inv.mod (I:Inv X pins σ H s):Mod X.K X.mg X.base:=I.ok.mod
theorem Inv.kIn (I:Inv X pins σ H s):X.K.In s.heap:=I.ok.mod.kin.keeps I.bk
theorem Inv.fr (I:Inv X pins σ H s):∃m,Fr X.base X.env.locals s.heap m :=
 let ⟨m,hn,_⟩:=I.loc
 ⟨m,hn,I.bk,C9 I.ok.bsz I.ok.above⟩
theorem Inv.lt (I:Inv X pins σ H s):X.env.locals < s.heap.objs.size:=let ⟨_,hn,_⟩:=I.loc; hn.lt
theorem Inv.sz (I:Inv X pins σ H s):X.s₀.heap.objs.size<=s.heap.objs.size:=C9 I.ok.above (Nat.le_of_lt I.lt)
theorem Inv.nofs (I:Inv X pins σ H s) {a:Addr} (h:s.heap.objs.size<=a):a∉X.fs:=λ hb=>by obtain ⟨_,o,ho,_⟩:=I.ok.funs.mem hb;exact absurd (C5 (B2 ho) (C9 I.sz h)) (E3 _)
theorem Inv.cne (I:Inv X pins σ H s):∀x c,X.env.cells.lookup x=some c->c≠X.env.locals:=λ x c e z=>by obtain ⟨v,o,ho,hd⟩:=I.cell x c e;obtain ⟨m,⟨o',es,ep,ho',hd',_⟩,_⟩:=I.loc;rw [z,ho'] at ho; cases ho; rw [hd'] at hd; cases hd
theorem Inv.funs (I:Inv X pins σ H s):s.heap.FunFrames X.base X.outer:=by
 have all:∀ (l:List Env),(∀b∈frs l,b∈X.fs)->X.s₀.heap.FunFrames X.base l->s.heap.FunFrames X.base l:=by
  intro l
  induction l with
  | nil=>intro _ _; trivial
  | cons env r ih =>
   intro hs hl;obtain ⟨hk,⟨L,o,hf,hn,ho,hd⟩,hr⟩:=hl;have hL:L∈X.fs:=hs L (by unfold frs; rw [List.filterMap_cons,hf]; exact List.mem_cons_self);obtain ⟨sl,e⟩:=I.base.slot L o ho (I.ok.frf L hL) hL λ z=>I.ok.exfs L z hL;exact ⟨hk,⟨L,_,hf,hn,e,hd⟩,ih (λ b hb=>hs b (by unfold frs; rw [List.filterMap_cons,hf]; exact List.mem_cons_of_mem _ hb)) hr⟩
 exact all X.outer (λ _ hb=>hb) I.ok.funs
theorem Inv.stack (I:Inv X pins σ H s):s.heap.FunFrames X.base X.stack:=by
 rcases I.ok.stk with e | ⟨e,hf⟩
 ·rw [e]; exact I.funs
 ·rw [e];obtain ⟨m,hn,_⟩:=I.loc;refine .cons (by rw [I.ok.kind]; decide) hf hn ?_ I.funs;exact Heap.get?_none_of_le (C9 I.ok.bsz I.ok.above)
theorem Inv.stkSub (I:Inv X pins σ H s):∀b∈frs X.stack,b∈X.env.locals :: X.fs:=λ b hb=>by
 rcases I.ok.stk with e | ⟨e,hf⟩
 ·rw [e] at hb; exact B7 _ hb
 ·rw [e] at hb;unfold frs at hb;rw [List.filterMap_cons,hf] at hb;exact hb
theorem Inv.stkFree (I:Inv X pins σ H s):∀b∈frs X.stack,H b=none:=λ b hb=>by
 rcases List.mem_cons.mp (I.stkSub b hb) with e | hb
 ·rw [e]; exact I.free
 ·obtain ⟨_,o,ho,_⟩:=I.ok.funs.mem hb;exact I.base.free b o ho (I.ok.frf b hb) λ z=>I.ok.exfs b z hb
theorem Inv.step {g':Array GenState} {t':Nat} {d':Drawn} {ch:List Addr} (I:Inv X pins σ H s)
  (hch:∀b∈ch,(b∈X.ex\/X.s₀.heap.objs.size<=b)/\b≠X.env.locals/\(∀x c,X.env.cells.lookup x=some c->c≠b)/\∀p∈X.pn ++ pins,p.1≠b)
  (keep:∀b o,b≠X.env.locals->b∉X.fs->b∉ch->s.heap.get? b=some o->H b=none->h'.get? b=some o)
  (slot:∀b o,b≠X.env.locals->b∈X.fs->b∉ch->s.heap.get? b=some o->H b=none->∃sl,h'.get? b=some { o with slots:=sl }) (free:∀b o,b∉ch->s.heap.get? b=some o->H b=none->H' b=none)
  (there:∀b o,b∉ch->s.heap.get? b=some o->∃o',h'.get? b=some o')
  (tups:∀b xs,H b= ~~~xs->H' b= ~~~xs) (frzs:∀b o u,H b=some (.frz o u)->H' b=some (.frz o u)) (tbls:∀b ps,H b=some (.tbl ps)->∃more,H' b=some (.tbl (ps ++ more)))
  (ns:∀m,s.heap.Ns X.env.locals m->h'.Ns X.env.locals m) (hok:HOk X.prog X.w H' h') (hg:AllBare g') :
  Inv X pins σ H' { s with heap:=h',gens:=g',drawn:=d',toks:=t' }:=by
 have neL:∀b o,X.s₀.heap.get? b=some o->b≠X.env.locals:=λ b o e=>C2 (C5 (B2 e) I.ok.above);have neC:∀b o,X.s₀.heap.get? b=some o->b∉X.ex->b∉ch:=λ b o e hx hb=>by
  rcases (hch b hb).1 with z | z
  ·exact hx z
  ·exact absurd (C5 (B2 e) z) (E3 _)
 have cellK:∀x c,X.env.cells.lookup x=some c->∀v,s.heap.IsCell c v->h'.IsCell c v:=λ x c e v ⟨o,ho,hd⟩=>by
  have nch:c∉ch:=λ z=>(hch c z).2.2.1 x c e rfl
  by_cases hc:c∈X.fs
  ·obtain ⟨sl,q⟩:=slot c o (I.cne x c e) hc nch ho (I.freeC x c e);exact ⟨_,q,hd⟩
  ·exact ⟨o,keep c o (I.cne x c e) hc nch ho (I.freeC x c e),hd⟩
 refine ⟨I.ok,I.os,hg,⟨λ b o e n hb hx=>?_,λ b o e n hb hx=>?_,λ b o e n hx=>?_,λ b o e hx=>?_,λ b xs e=>tups b xs (I.base.tups b xs e),λ b o xs e=>frzs b o xs (I.base.frzs b o xs e),λ b ps e=>?_⟩,?_,λ x c e=>?_,?_,λ x c e=>?_,λ p hp=>?_,hok,I.len⟩
 ·exact keep b o (neL b o e) hb (neC b o e hx) (I.base.keep b o e n hb hx) (I.base.free b o e n hx)
 ·obtain ⟨sl,e1⟩:=I.base.slot b o e n hb hx;obtain ⟨sl',e2⟩:=slot b _ (neL b o e) hb (neC b o e hx) e1 (I.base.free b o e n hx);exact ⟨sl',e2⟩
 ·obtain ⟨o',e1⟩:=I.base.there b o e hx;exact free b o' (neC b o e hx) e1 (I.base.free b o e n hx)
 ·obtain ⟨o',e1⟩:=I.base.there b o e hx;exact there b o' (neC b o e hx) e1
 ·obtain ⟨m1,e1⟩:=I.base.tbls b ps e;obtain ⟨m2,e2⟩:=tbls b _ e1;exact ⟨m1 ++ m2,by rw [e2,Array.append_assoc]⟩
 ·obtain ⟨m,hn,hl⟩:=I.loc;refine ⟨m,ns m hn,λ i x v e1 e2 e3=>?_⟩;obtain ⟨u,r,l⟩:=hl i x v e1 e2 e3;refine ⟨u,r,?_⟩;rcases l with l | ⟨k,c,e,z⟩
  ·exact .inl l
  ·exact .inr ⟨k,c,e,cellK x c e _ z⟩
 ·obtain ⟨v,z⟩:=I.cell x c e;exact ⟨v,cellK x c e v z⟩
 ·obtain ⟨m,⟨o,_,_,ho,_⟩,_⟩:=I.loc;exact free _ o (λ z=>(hch _ z).2.1 rfl) ho I.free
 ·obtain ⟨v,o,ho,hd⟩:=I.cell x c e;exact free c o (λ z=>(hch c z).2.2.1 x c e rfl) ho (I.freeC x c e)
 ·obtain ⟨e,n,ne,nf,d⟩:=I.pin p hp;have nch:p.1∉ch:=λ z=>(hch p.1 z).2.2.2 p hp rfl;exact ⟨keep p.1 p.2 ne nf nch e n,free p.1 p.2 nch e n,ne,nf,d⟩
theorem Inv.un {t':Nat} (I:Inv X pins σ H s) (u:Un X.fs [] H H' s.heap h') (hok:HOk X.prog X.w H' h'):Inv X pins σ H' { s with heap:=h',toks:=t' }:=by
 obtain ⟨m,⟨o,es,ep,ho,r⟩,_⟩:=id I.loc;obtain ⟨sl,hL⟩:=u.any ho I.free (by simp);exact I.step (g':=s.gens) (d':=s.drawn) (ch:=[]) (λ _ z=>nomatch z) (λ b o _ hb _ e n=>u.keep b o e n hb (by simp)) (λ b o _ hb _ e n=>u.slot b o e n hb (by simp)) (λ b o _ e n=>u.free b o e n (by simp)) (λ b o _ e=>u.there b o e (by simp)) u.tups u.frzs u.tbls (λ m' hm=>by
  obtain ⟨o',es',ep',ho',r'⟩:=hm;rw [ho] at ho'; cases ho';exact ⟨_,es',ep',hL,r'⟩) hok I.bare
theorem Inv.call {g':Array GenState} {t':Nat} {d':Drawn} {ch:List Addr} (I:Inv X pins σ H s) (u:Un (frs X.stack) ch H H' s.heap h') (hok:HOk X.prog X.w H' h') (hg:AllBare g')
  (hch:∀b∈ch,(b∈X.ex\/X.s₀.heap.objs.size<=b)/\b≠X.env.locals/\(∀x c,X.env.cells.lookup x=some c->c≠b)/\∀p∈X.pn ++ pins,p.1≠b) :
  Inv X pins σ H' { s with heap:=h',gens:=g',drawn:=d',toks:=t' }:=by
 obtain ⟨m,⟨o,es,ep,ho,r⟩,_⟩:=id I.loc;obtain ⟨sl,hL⟩:=u.any ho I.free λ z=>(hch _ z).2.1 rfl;exact I.step (ch:=ch) hch (λ b o hL hb hc e n=>u.keep b o e n (λ z=>(List.mem_cons.mp (I.stkSub b z)).elim hL hb) hc) (λ b o _ _ hc e n=>u.any e n hc) (λ b o hc e n=>u.free b o e n hc) (λ b o hc e=>u.there b o e hc) u.tups u.frzs u.tbls (λ m' hm=>by
  obtain ⟨o',es',ep',ho',r'⟩:=hm;rw [ho] at ho'; cases ho';exact ⟨_,es',ep',hL,r'⟩) hok hg
theorem Inv.turned {t':Nat} {it:Addr} (I:Inv X pins σ H s) (k:∀b o,b≠it->s.heap.get? b=some o->h'.get? b=some o) (hn:H it=none) (hL:it≠X.env.locals)
  (h1:it∈X.ex\/X.s₀.heap.objs.size<=it) (h2:∀x c,X.env.cells.lookup x=some c->c≠it) (h3:∀p∈X.pn ++ pins,p.1≠it):Inv X pins σ H { s with heap:=h',toks:=t' }:=by
 have nit:∀b u,H b=some u->b≠it:=λ b u e z=>by rw [z,hn] at e; cases e
 refine I.step (g':=s.gens) (d':=s.drawn) (ch:=[it]) (λ b hb=>?_) (λ b o _ _ hc e _=>k b o (λ z=>hc (by simp [z])) e) (λ b o _ _ hc e _=>⟨o.slots,k b o (λ z=>hc (by simp [z])) e⟩) (λ _ _ _ _ n=>n)
  (λ b o hc e=>⟨o,k b o (λ z=>hc (by simp [z])) e⟩) (λ _ _ e=>e) (λ _ _ _ e=>e) (λ b ps e=>⟨#[],by rw [e]; simp⟩) (λ m hm=>?_) (λ b u e=>?_) I.bare
 ·have e:b=it:=by simpa using hb
  subst e;exact ⟨h1,hL,h2,h3⟩
 ·obtain ⟨o,es,ep,ho,r⟩:=hm;exact ⟨o,es,ep,k _ o (Ne.symm hL) ho,r⟩
 ·refine (I.hok b u e).stay (λ c v hc q=>k c v ?_ q) (λ _ q=>q) λ _ _ q=>q;rcases hc with z | z
  ·rw [z]; exact nit b u e
  ·exact nit c _ z
theorem Inv.tok (I:Inv X pins σ H s) (t:Nat):Inv X pins σ H { s with toks:=t }:=I.un (h':=s.heap) (t':=t) Un.refl I.hok
theorem Inv.kept {t':Nat} (I:Inv X pins σ H s) (k:∀b u,s.heap.get? b=some u->h'.get? b=some u):Inv X pins σ H { s with heap:=h',toks:=t' }:=I.un (Un.kept k) (I.hok.kept k)
theorem Inv.laid {a:Addr} {o:HO} {t':Nat} (I:Inv X pins σ H s) (k:∀b u,s.heap.get? b=some u->h'.get? b=some u) (hp:s.heap.objs.size<=a) (new:ObjOk X.prog X.w (upd H a o) h' a o) :
  Inv X pins σ (upd H a o) { s with heap:=h',toks:=t' }:=I.un (Un.laid k hp (I.hok.fresh hp)) (I.hok.laid k hp new)
theorem Inv.write {x e:Addr} {o:HO} {t':Nat} (I:Inv X pins σ H s) (mu:Mut (H x)) (he:e=x\/H e=some (.own x)) (k:∀b u,b≠e->s.heap.get? b=some u->h'.get? b=some u) (heo:∃u,h'.get? e=some u)
  (new:ObjOk X.prog X.w (upd H x o) h' x o):Inv X pins σ (upd H x o) { s with heap:=h',toks:=t' }:=I.un (Un.write mu he k heo) (I.hok.write mu he k heo new)
theorem Inv.weak {σ':List (Option V)} (I:Inv X pins σ H s) (hl:σ'.length=σ.length) (w:∀ (i:Nat) v,σ'[i]? = some (some v)->σ[i]? = some (some v)):Inv X pins σ' H s :=
 ⟨I.ok,I.os,I.bare,I.base,let ⟨m,hn,hl'⟩:=I.loc; ⟨m,hn,λ i x v e1 e2 e3=>hl' i x v e1 (w i v e2) e3⟩,I.cell,I.free,I.freeC,I.pin,I.hok,hl.trans I.len⟩
theorem Inv.pins_of {pins':List (Addr×Obj)} (I:Inv X pins σ H s) (h:∀p∈pins',s.heap.get? p.1=some p.2/\H p.1=none/\p.1≠X.env.locals/\p.1∉X.fs/\∀v,p.2.data≠.cell v):Inv X pins' σ H s :=
 ⟨I.ok,I.os,I.bare,I.base,I.loc,I.cell,I.free,I.freeC,λ p hp=>(C6.mp hp).elim (λ z=>I.pin p (B9 _ z)) (h p),I.hok,I.len⟩
theorem jm {N:List Str} (hN:N.Nodup) {i j:Nat} {x:Str} (a:N[i]? = some x) (b:N[j]? = some x):i=j:=by obtain ⟨h1,e1⟩:=A9.mp a;obtain ⟨h2,e2⟩:=A9.mp b;exact (List.getElem_inj hN).mp (e1.trans e2.symm)
theorem ib {M:Model} {A:Around} {E:JU->G7->Prop} {i:Nat} {x:Str} {v:V} {u:JU} {Q:Unit->G7->Prop} (I:Inv X pins σ H s) (hN:X.N.Nodup) (hi:X.N[i]? = some x) (hx:Loc X.env.scope x) (r:RelV v u)
  (h:∀s',Inv X pins (σ.set i (some v)) H s'->(∃a,Heap.SameBut a s.heap s'.heap/\(a=X.env.locals\/X.env.cells.lookup x=some a))->Q () s') (hf:X.fn x=true\/X.env.scope.names.lookup x=some .local:=by first | exact .inl rfl | exact .inr rfl | assumption):wpAny M A (storeName X.env x u) Q E s:=by
 obtain ⟨m,hn,hl⟩:=id I.loc;have hcls:(X.env.scope.kind == .class || (X.env.scope.kind == .module && X.env.locals != X.env.globals))=false:=by rw [I.ok.kind]; rfl
 have hiσ:i < σ.length:=by rw [I.len]; exact (A9.mp hi).1
 have cne:=I.cne;have tracked:∀ {a:Addr} {h':Heap},(∃o,s.heap.get? a=some o/\H a=none)->Heap.SameBut a s.heap h'->HOk X.prog X.w H h':=λ {a h'} ha hs b ob e=>by
  obtain ⟨_,_,hfree⟩:=ha;refine (I.hok b ob e).stay (λ c w' hc q=>(hs.2 c ?_).trans q) (λ _ q=>q) λ _ _ q=>q;rintro rfl;rcases hc with rfl | hc
  ·rw [hfree] at e; cases e
  ·rw [hfree] at hc; cases hc
 rcases hx with hk | hk
 ·refine wpAny_storeName_local hk hn (λ h' hn' hs=>?_) hcls;obtain ⟨oL,_,_,hoL,_⟩:=id hn;refine h _ ⟨I.ok,I.os,I.bare,⟨λ b o e n hb hx=>?_,λ b o e n hb hx=>?_,I.base.free,λ b o e hx=>?_,I.base.tups,I.base.frzs,I.base.tbls⟩,⟨_,hn',λ j y v' e1 e2 e3=>?_⟩,λ y c e=>?_,I.free,I.freeC,λ p hp=>?_,tracked ⟨oL,hoL,I.free⟩ hs,by simpa using I.len⟩ ⟨_,hs,.inl rfl⟩
  ·exact (hs.2 b (C2 (C5 (B2 e) I.ok.above))).trans (I.base.keep b o e n hb hx)
  ·obtain ⟨sl,e1⟩:=I.base.slot b o e n hb hx;exact ⟨sl,(hs.2 b (C2 (C5 (B2 e) I.ok.above))).trans e1⟩
  ·obtain ⟨o',e1⟩:=I.base.there b o e hx;exact ⟨o',(hs.2 b (C2 (C5 (B2 e) I.ok.above))).trans e1⟩
  ·by_cases hj:j=i
   ·subst hj;rw [hi] at e1; cases e1;rw [List.getElem?_set_self hiσ] at e2;cases e2;exact ⟨u,r,.inl ⟨hk,by simp⟩⟩
   ·rw [List.getElem?_set_ne (Ne.symm hj)] at e2;obtain ⟨u',r',q⟩:=hl j y v' e1 e2 e3;refine ⟨u',r',?_⟩;rcases q with ⟨k,e⟩ | ⟨k,c,e,z⟩
    ·refine .inl ⟨k,?_⟩;have:y≠x:=λ e=>hj (jm hN e1 (e ▸ hi));simp [this,e]
    ·exact .inr ⟨k,c,e,z.sameBut hs (cne y c e)⟩
  ·obtain ⟨w',z⟩:=I.cell y c e;exact ⟨w',z.sameBut hs (cne y c e)⟩
  ·obtain ⟨e,n,ne,nf,d⟩:=I.pin p hp;exact ⟨(hs.2 p.1 ne).trans e,n,ne,nf,d⟩
 ·have hfn:X.fn x=true:=by
   rcases hf with z | z
   ·exact z
   ·rw [z] at hk; cases hk
  obtain ⟨c,hc⟩:=I.ok.has x (.inl hk);obtain ⟨w',z⟩:=I.cell x c hc;refine wpAny_storeName_cell I.ok.kind hk hc z (λ h' hc' hs=>?_);obtain ⟨oc,hoc,hocd⟩:=id z;refine h { s with heap:=h' } ⟨I.ok,I.os,I.bare,⟨λ b o e n hb hx=>?_,λ b o e n hb hx=>?_,I.base.free,λ b o e hx=>?_,I.base.tups,I.base.frzs,I.base.tbls⟩,⟨m,hn.sameBut hs (Ne.symm (cne x c hc)),λ j y v' e1 e2 e3=>?_⟩,λ y c' e=>?_,I.free,I.freeC,λ p hp=>?_,tracked ⟨oc,hoc,I.freeC x c hc⟩ hs,by simpa using I.len⟩ ⟨c,hs,.inr hc⟩
  ·exact (hs.2 b (C2 (C5 (B2 e) (I.ok.cab x c hfn hc)))).trans (I.base.keep b o e n hb hx)
  ·obtain ⟨sl,e1⟩:=I.base.slot b o e n hb hx;exact ⟨sl,(hs.2 b (C2 (C5 (B2 e) (I.ok.cab x c hfn hc)))).trans e1⟩
  ·obtain ⟨o',e1⟩:=I.base.there b o e hx;exact ⟨o',(hs.2 b (C2 (C5 (B2 e) (I.ok.cab x c hfn hc)))).trans e1⟩
  ·by_cases hj:j=i
   ·subst hj;rw [hi] at e1; cases e1;rw [List.getElem?_set_self hiσ] at e2;cases e2;exact ⟨u,r,.inr ⟨.inl hk,c,hc,hc'⟩⟩
   ·rw [List.getElem?_set_ne (Ne.symm hj)] at e2;obtain ⟨u',r',q⟩:=hl j y v' e1 e2 e3;refine ⟨u',r',?_⟩;rcases q with q | ⟨k,c',e,z'⟩
    ·exact .inl q
    ·refine .inr ⟨k,c',e,z'.sameBut hs ?_⟩;rintro rfl;exact hj (jm hN e1 (I.ok.inj _ _ _ e hc ▸ hi))
  ·by_cases hcc:c'=c
   ·subst hcc; exact ⟨_,hc'⟩
   ·obtain ⟨w2,z2⟩:=I.cell y c' e;exact ⟨w2,z2.sameBut hs hcc⟩
  ·obtain ⟨e,n,ne,nf,d⟩:=I.pin p hp;refine ⟨(hs.2 p.1 ?_).trans e,n,ne,nf,d⟩;intro q;rw [q,hoc] at e;have q':oc=p.2:=C1 e;exact d w' (by rw [<- q']; exact hocd)
theorem cQ {M:Model} {A:Around} {E:JU->G7->Prop} {i:Nat} {x:Str} {v:V} {u:JU} {Q:Unit->G7->Prop} (I:Inv X pins σ H s) (hN:X.N.Nodup) (hi:X.N[i]? = some x) (hx:Loc X.env.scope x) (r:RelV v u)
  (h:∀s',Inv X pins (σ.set i (some v)) H s'->Q () s') (hf:X.fn x=true\/X.env.scope.names.lookup x=some .local:=by first | exact .inl rfl | exact .inr rfl | assumption):wpAny M A (storeName X.env x u) Q E s :=
 ib I hN hi hx r (λ s' I' _=>h s' I') hf
theorem Inv.call' {s':G7} {ch:List Addr} (I:Inv X pins σ H s) (ho:s'.os=s.os) (u:Un (frs X.stack) ch H H' s.heap s'.heap) (hok:HOk X.prog X.w H' s'.heap) (hg:AllBare s'.gens)
  (hch:∀b∈ch,(b∈X.ex\/X.s₀.heap.objs.size<=b)/\b≠X.env.locals/\(∀x c,X.env.cells.lookup x=some c->c≠b)/\∀p∈X.pn ++ pins,p.1≠b):Inv X pins σ H' s':=by
 obtain ⟨h',g',d',t',o'⟩:=s';have e:o'=s.os:=ho;subst e;exact I.call (g':=g') (t':=t') (d':=d') u hok hg hch
end
abbrev XK:=Value->Option Addr->Hp->Prop
abbrev St:=List (Option V)
abbrev VK:=V->Hp->Prop
abbrev TE:=St->Hp->VK->Prop
abbrev TT:=St->Hp->(Bool->Hp->Prop)->Prop
abbrev TA:=St->Hp->(List V->Hp->Prop)->Prop
structure Ends where
 nx:St->Hp->Prop
 rt:VK
 bk:St->Hp->Prop:=λ _ _=>False
 ct:St->Hp->Prop:=λ _ _=>False
abbrev TS:=Ends->St->Hp->Prop
def EP (X:Cx) (pins:List (Addr×Obj)) (σ:St) (Q:VK) (u:JU) (s':G7):Prop:=∃v H',Inv X pins σ H' s'/\RelV v u/\Q v H'
def TP (X:Cx) (pins:List (Addr×Obj)) (σ:St) (Q:Bool->Hp->Prop) (b:Bool) (s':G7):Prop:=∃H',Inv X pins σ H' s'/\Q b H'
def AP (X:Cx) (pins:List (Addr×Obj)) (σ:St) (Q:List V->Hp->Prop) (us:List JU) (s':G7):Prop:=∃vs H',Inv X pins σ H' s'/\Vals vs us/\Q vs H'
def SP (X:Cx) (pins:List (Addr×Obj)) (D:Ends) (f:Flow) (s':G7):Prop :=
 match f with
 | .next=>∃σ' H',Inv X pins σ' H' s'/\D.nx σ' H'
 | .brk=>∃σ' H',Inv X pins σ' H' s'/\D.bk σ' H'
 | .cont=>∃σ' H',Inv X pins σ' H' s'/\D.ct σ' H'
 | .ret u=>∃v σ' H',Inv X pins σ' H' s'/\RelV v u/\D.rt v H'
def PE (X:Cx) (e:Expr) (t:TE):Prop :=
 ∀ (pins:List (Addr×Obj)) (s:G7) (σ:St) (H:Hp) (Q:VK),Inv X pins σ H s->t σ H Q->wpAny (model X.prog X.w) X.A (eval e X.env) (EP X pins σ Q) X.xe s
def PT (X:Cx) (e:Expr) (t:TT):Prop :=
 ∀ (pins:List (Addr×Obj)) (s:G7) (σ:St) (H:Hp) (Q:Bool->Hp->Prop),Inv X pins σ H s->t σ H Q->wpAny (model X.prog X.w) X.A (isTrue e X.env (eval e X.env)) (TP X pins σ Q) X.xe s
def PW (X:Cx) (e:Expr) (t:TT):Prop :=
 ∀ (aU:Sem JU) (pins:List (Addr×Obj)) (s:G7) (σ:St) (H:Hp) (Q:Bool->Hp->Prop),Inv X pins σ H s->t σ H Q->wpAny (model X.prog X.w) X.A (isTrue e X.env aU) (TP X pins σ Q) X.xe s
theorem PW.pt {X:Cx} {e:Expr} {t:TT} (h:PW X e t):PT X e t:=h _
def PA (X:Cx) (es:List Expr) (t:TA):Prop :=
 ∀ (pos:Pos) (pins:List (Addr×Obj)) (s:G7) (σ:St) (H:Hp) (Q:List V->Hp->Prop),Inv X pins σ H s->t σ H Q->wpAny (model X.prog X.w) X.A (spliced (backTo pos (starEach es X.env))) (AP X pins σ Q) X.xe s
def PS (X:Cx) (st:Stmt) (t:TS):Prop :=
 ∀ (pins:List (Addr×Obj)) (s:G7) (σ:St) (H:Hp) (D:Ends),Inv X pins σ H s->t D σ H->wpAny (model X.prog X.w) X.A (exec st X.env) (SP X pins D) X.xe s
def PSs (X:Cx) (st:List Stmt) (t:TS):Prop :=
 ∀ (pins:List (Addr×Obj)) (s:G7) (σ:St) (H:Hp) (D:Ends),Inv X pins σ H s->t D σ H->wpAny (model X.prog X.w) X.A (execs st X.env) (SP X pins D) X.xe s
theorem thn {α:Type} {t:Sem α} {Q Q':α->G7->Prop} {M:Model} {A:Around} {E:JU->G7->Prop} {s:G7} (h:wpAny M A t Q E s) (hQ:∀a s,Q a s->Q' a s):wpAny M A t Q' E s:=wpAny_mono h hQ λ _ _ x=>x
section
variable {X:Cx}
theorem bin {a b:Expr} {ta tb:TE} (ha:PE X a ta) (hb:PE X b tb) {pins:List (Addr×Obj)} {s:G7} {σ:St} {H:Hp} {R:V->V->Hp->Prop} (I:Inv X pins σ H s) (h:ta σ H λ x H1=>tb σ H1 λ y H2=>R x y H2)
  {α:Type} {Q:α->G7->Prop} {f:JU->JU->Sem α}
  (hf:∀v u s2 x y H2,Inv X pins σ H2 s2->RelV x v->RelV y u->R x y H2->wpAny (model X.prog X.w) X.A (f v u) Q X.xe s2) :
  wpAny (model X.prog X.w) X.A (eval a X.env) (λ v s₁=>wpAny (model X.prog X.w) X.A (eval b X.env) (λ u s₂=>wpAny (model X.prog X.w) X.A (f v u) Q X.xe s₂) X.xe s₁) X.xe s:=by
 refine thn (ha pins s σ H _ I h) λ v s1 ⟨x,H1,I1,r1,q1⟩=>?_;refine thn (hb pins s1 σ H1 _ I1 q1) λ u s2 ⟨y,H2,I2,r2,q2⟩=>?_;exact hf v u s2 x y H2 I2 r1 r2 q2
inductive tVar (i:Nat) (σ:St) (H:Hp) (Q:VK):Prop
 | mk (v:V) (e_0:σ[i]? = some (some v)) (e_1:Q v H):tVar i σ H Q
def tC (v:V):TE:=λ _ H Q=>Q v H
theorem wk {i:Nat} {x:Str} {pos:Pos} (hN:X.N[i]? = some x) (hv:Vis X.env.scope x) (hd:(x == ("__debug__" : Str))=false:=by decide) (hcd:(x == ("__classdict__" : Str))=false:=by decide):PE X (.Name x pos) (tVar i):=by
 intro pins s σ H Q I h;obtain ⟨v,e,h⟩:=h;obtain ⟨m,hn,hl⟩:=I.loc;obtain ⟨u,r,l⟩:=hl i x v hN e hv;have fin:EP X pins σ Q u s:=⟨v,H,I,r,h⟩
 rcases l with ⟨hk,hm⟩ | ⟨hk,c,hc,hcell⟩
 ·exact wpAny_Name (wpAny_loadName_local I.ok.kind hk hn hm fin) hd
 ·rcases hk with hk | hk
  ·exact wpAny_Name (wpAny_loadName_cell I.ok.kind hk hc hcell fin) hd
  ·exact wpAny_Name (wpAny_loadName_free I.ok.kind hk hc hcell fin hcd) hd
theorem ah {i j pos}:PE X (.Constant (.int i) j pos) (tC (.int i)):=λ _ _ _ H _ I h=>wpAny_Constant_int ⟨.int i,H,I.tok _,⟨_,rfl⟩,h⟩
theorem bF {b j pos}:PE X (.Constant (.bool b) j pos) (tC (.bl b)):=λ _ _ _ H _ I h=>Constant_bool ⟨.bl b,H,I,rfl,h⟩
theorem wm {j pos}:PE X (.Constant .none j pos) (tC .non):=λ _ _ _ H _ I h=>Constant_none ⟨.non,H,I,rfl,h⟩
theorem cf {x j pos}:PE X (.Constant (.str x) j pos) (tC (.str x)):=λ _ _ _ H _ I h=>Calls.Constant_str ⟨.str x,H,I.tok _,⟨_,Y⟩,h⟩
def Gl (X:Cx) (x:Str):Prop:=X.env.kindOf x=some .globalImplicit
theorem dM {E:JU->G7->Prop} {pins:List (Addr×Obj)} {s:G7} {σ:St} {H:Hp} {x:Str} {u:JU} {pos:Pos} {Q:JU->G7->Prop} (I:Inv X pins σ H s) (hg:Gl X x) (hm:X.mg x=some u) (h:Q u s)
  (hd:(x == ("__debug__" : Str))=false:=by decide):wpAny (model X.prog X.w) X.A (eval (.Name x pos) X.env) Q E s :=
 Calls.Name_function_global I.ok.kind hg (Calls.loadGlobal_global (by rw [I.ok.glob]; exact I.mod.glob.keeps I.bk) hm h) hd
theorem dC {E:JU->G7->Prop} {pins:List (Addr×Obj)} {s:G7} {σ:St} {H:Hp} {x:Str} {u:JU} {pos:Pos} {Q:JU->G7->Prop} (I:Inv X pins σ H s) (hg:Gl X x) (hm:X.mg x=none) (hv:bootBuiltins x=some u) (h:Q u s)
  (hn:x ≠ "__name__" := by decide) (hd:(x == ("__debug__" : Str))=false:=by decide):wpAny (model X.prog X.w) X.A (eval (.Name x pos) X.env) Q E s:=by
 obtain ⟨mb,h1,h2⟩:=I.mod.blt;exact Calls.Name_function_global I.ok.kind hg (Calls.loadGlobal_builtin (by rw [I.ok.glob]; exact I.mod.glob.keeps I.bk) hm (by rw [I.ok.blt]; exact h1.keeps I.bk) ((h2 x hn).trans hv) h) hd
theorem br {x:Str} {v:V} {u:JU} {pos:Pos} (hg:Gl X x) (hm:X.mg x=some u) (r:RelV v u) (hd:(x == ("__debug__" : Str))=false:=by decide):PE X (.Name x pos) (tC v) :=
 λ _ _ _ H _ I h=>dM I hg hm ⟨v,H,I,r,h⟩ hd
theorem dN {x:Str} {v:V} {u:JU} {pos:Pos} (hg:Gl X x) (hm:X.mg x=none) (hv:bootBuiltins x=some u) (r:RelV v u) (hn:x ≠ "__name__" := by decide) (hd:(x == ("__debug__" : Str))=false:=by decide):PE X (.Name x pos) (tC v) :=
 λ _ _ _ H _ I h=>dC I hg hm hv ⟨v,H,I,r,h⟩ hn hd
variable {a b:Expr} {ta tb:TE} {pos:Pos}
def PC (X:Cx) (op:CmpOp) (a b:Expr) (t:TE):Prop :=
 ∀ (pins:List (Addr×Obj)) (s:G7) (σ:St) (H:Hp) (Q:VK),Inv X pins σ H s->t σ H Q ->
  wpAny (model X.prog X.w) X.A (eval a X.env) (λ v s₁=>wpAny (model X.prog X.w) X.A (eval b X.env) (λ u s₂=>wpAny (model X.prog X.w) X.A (compareOp op v u) (EP X pins σ Q) X.xe s₂) X.xe s₁) X.xe s
inductive IsB (x:V) (Q:Bool->Prop):Prop
 | mk (c:Bool) (e:x=.bl c) (q:Q c):IsB x Q
def tB (t:TE):TT:=λ σ H Q=>t σ H λ x H1=>IsB x λ c=>Q c H1
theorem GD {op:CmpOp} {t:TE} (h:PC X op a b t) (h1:behindInMarks op b=false:=by first | exact nobehind _ ∅ ∅ | rfl):PT X (.Compare a [op] [b] pos) (tB t):=by intro pins s σ H Q I hw;refine wpAny_isTrue_Compare1 (thn (h pins s σ H _ I hw) λ v s1 h1=>thn h1 λ u s2 h2=>thn h2 λ c s3 ⟨x,H1,I1,r1,q1⟩=>?_) h1;obtain ⟨d,rfl,q⟩:=q1;cases r1;exact G3 ⟨H1,I1,q⟩
theorem aY {e:Expr} {t:TE} (h:PE X e t) (he:∀aU,isTrue e X.env aU=(do let v<-aU; standAt e.pos; holding [v] (truthy v)):=by intro _; rfl):PT X e (tB t):=by intro pins s σ H Q I hw;refine isTrue_plain (thn (h pins s σ H _ I hw) λ v s1 ⟨x,H1,I1,r1,q1⟩=>?_) (he _);obtain ⟨d,rfl,q⟩:=q1;cases r1;exact G3 ⟨H1,I1,q⟩
variable {tA tB':TT} {rest:List Expr}
def GE (t u:TT):TT:=λ σ H Q=>t σ H λ c H1=>if c=true then u σ H1 Q else Q false H1
def tOr (t u:TT):TT:=λ σ H Q=>t σ H λ c H1=>if c=true then Q true H1 else u σ H1 Q
def GF (t:TT):TT:=λ σ H Q=>t σ H λ c H1=>Q (!c) H1
theorem iI (ha:PT X a tA):PW X (.BoolOp .And [a] pos) tA:=by
 intro wh pins s σ H Q I h;refine isTrue_and (thn (ha pins s σ H Q I h) λ c s1 e=>?_);cases c with
 | true=>exact isTrue_and_nil e
 | false=>exact e
theorem cD (ha:PT X a tA):PW X (.BoolOp .Or [a] pos) tA:=by
 intro wh pins s σ H Q I h;refine isTrue_or (thn (ha pins s σ H Q I h) λ c s1 e=>?_);cases c with
 | false=>exact isTrue_or_nil e
 | true=>exact e
theorem kn (ha:PT X a tA) (hb:PW X (.BoolOp .And (b :: rest) pos) tB'):PW X (.BoolOp .And (a :: b :: rest) pos) (GE tA tB'):=by
 intro wh pins s σ H Q I h;refine isTrue_and (thn (ha pins s σ H _ I h) λ c s1 ⟨H1,I1,q1⟩=>?_);cases c with
 | true=>exact hb wh pins s1 σ H1 Q I1 q1
 | false=>exact ⟨H1,I1,q1⟩
theorem cF (ha:PT X a tA) (hb:PW X (.BoolOp .Or (b :: rest) pos) tB'):PW X (.BoolOp .Or (a :: b :: rest) pos) (tOr tA tB'):=by
 intro wh pins s σ H Q I h;refine isTrue_or (thn (ha pins s σ H _ I h) λ c s1 ⟨H1,I1,q1⟩=>?_);cases c with
 | true=>exact ⟨H1,I1,q1⟩
 | false=>exact hb wh pins s1 σ H1 Q I1 q1
theorem bf (ha:PT X a tA):PT X (.UnaryOp .Not a pos) (GF tA):=by intro pins s σ H Q I h;exact isTrue_not (ha pins s σ H (λ c H1=>Q (!c) H1) I h)
def Ci (ta tb:TE):TE:=λ σ H Q=>ta σ H λ x H1=>IsB x λ c=>if c=true then tb σ H1 Q else Q (.bl false) H1
def GG (ta tb:TE):TE:=λ σ H Q=>ta σ H λ x H1=>IsB x λ c=>if c=true then Q (.bl true) H1 else tb σ H1 Q
def Cj (ta:TE):TE:=λ σ H Q=>ta σ H λ x H1=>IsB x λ c=>Q (.bl (!c)) H1
theorem cW {op} {t:TE} (h:PE X a t):PE X (.BoolOp op [a] pos) t:=λ pins s σ H Q I hw=>BoolOp_one (h pins s σ H Q I hw)
theorem cO (ha:PE X a ta) (hb:PE X (.BoolOp .And (b :: rest) pos) tb):PE X (.BoolOp .And (a :: b :: rest) pos) (Ci ta tb):=by
 intro pins s σ H Q I h;refine BoolOp_and (thn (ha pins s σ H _ I h) λ v s1 ⟨x,H1,I1,r1,q1⟩=>?_);obtain ⟨c,rfl,q1⟩:=q1;cases r1;refine G3 ?_;cases c with
 | true=>exact hb pins s1 σ H1 Q I1 q1
 | false=>exact ⟨.bl false,H1,I1,Y,q1⟩
theorem Ck (ha:PE X a ta) (hb:PE X (.BoolOp .Or (b :: rest) pos) tb):PE X (.BoolOp .Or (a :: b :: rest) pos) (GG ta tb):=by
 intro pins s σ H Q I h;refine BoolOp_or (thn (ha pins s σ H _ I h) λ v s1 ⟨x,H1,I1,r1,q1⟩=>?_);obtain ⟨c,rfl,q1⟩:=q1;cases r1;refine G3 ?_;cases c with
 | false=>exact hb pins s1 σ H1 Q I1 q1
 | true=>exact ⟨.bl true,H1,I1,Y,q1⟩
theorem qa (ha:PE X a ta):PE X (.UnaryOp .Not a pos) (Cj ta):=by intro pins s σ H Q I h;refine UnaryOp_ (thn (ha pins s σ H _ I h) λ v s1 ⟨x,H1,I1,r1,q1⟩=>?_);obtain ⟨c,rfl,q1⟩:=q1;cases r1;exact not_of (G3 ⟨.bl (!c),H1,I1,rfl,q1⟩)
def tIf (t:TT) (ta tb:TE):TE:=λ σ H Q=>t σ H λ c H1=>if c=true then ta σ H1 Q else tb σ H1 Q
theorem jn {c:Expr} (hc:PT X c tA) (ha:PE X a ta) (hb:PE X b tb):PE X (.IfExp c a b pos) (tIf tA ta tb):=by
 intro pins s σ H Q I h;refine wpAny_IfExp (thn (hc pins s σ H _ I h) λ d s1 ⟨H1,I1,q1⟩=>?_);cases d with
 | true=>exact ha pins s1 σ H1 Q I1 q1
 | false=>exact hb pins s1 σ H1 Q I1 q1
end
def SqL (K:C8) (H:Hp) (a:Addr) (xs:List V):Prop :=
 Rd H a (.lst xs) \/
  ∃ (o:Obj) (its:Array JU) (n:Nat),K.lookup a=some o/\o.cls=.type "list" /\ o.dict=none/\o.data=.seq its n/\its.size<=sizeLine/\Vals xs its.toList
def SqT (K:C8) (H:Hp) (a:Addr) (xs:List V):Prop :=
 Rd H a (.tup xs) \/
  ∃ (o:Obj) (its:Array JU) (n:Nat),K.lookup a=some o/\o.cls=.type "tuple" /\ o.data=.seq its n/\its.size<=sizeLine/\Vals xs its.toList
def GH:JU->Option V
 | .none=>some .non
 | .bool b=>some (.bl b)
 | .int i _=>⇑i
 | .str x _=>some (.str x)
 | .bytes b _=>some (.byt b)
 | .float b _=>some (.flt b)
 | .ref a=>↑a
 | .type n=>some (.ty n)
 | _=>none
theorem RelV.abs {x:V} {u:JU} (r:RelV x u):GH u=some x:=by
 cases x with
 | non=>cases r; rfl
 | bl _=>cases r; rfl
 | int _=>obtain ⟨t,rfl⟩:=r; rfl
 | str _=>obtain ⟨t,rfl⟩:=r; rfl
 | byt _=>obtain ⟨t,rfl⟩:=r; rfl
 | flt _=>obtain ⟨t,rfl⟩:=r; rfl
 | ref _=>cases r; rfl
 | ty _=>cases r; rfl
theorem RelV.inj {x y:V} {u:JU} (r:RelV x u) (q:RelV y u):x=y:=C1 (r.abs.symm.trans q.abs)
theorem Vals.inj:∀ {xs ys:List V} {us:List JU},Vals xs us->Vals ys us->xs=ys
 | _,_,_,.nil,.nil=>rfl
 | _,_,_,.cons r t,.cons r' t'=>by rw [r.inj r',Vals.inj t t']
section
variable {X:Cx} {pins:List (Addr×Obj)} {σ:St} {H:Hp} {s:G7} {a:Addr} {xs ys:List V}
theorem SqL.of {K:C8} (h:H a=↥xs):SqL K H a xs:=.inl (.inl h)
abbrev JX:=@SqL.of
theorem SqT.of {K:C8} (h:H a= ~~~xs):SqT K H a xs:=.inl (.inl h)
abbrev JW:=@SqT.of
theorem Inv.list (I:Inv X pins σ H s) (h:SqL X.K H a xs):∃its:List JU,Vals xs its/\PlainL s.heap a its.toArray/\xs.length<=sizeLine:=by
 rcases h with h | ⟨o,its,n,hk,hc,hd,hs,hz,r⟩
 ·obtain ⟨z,its,n,r,e⟩:=h.ok I.hok;exact ⟨its,r,⟨_,n,e,Y,Y,Y⟩,z⟩
 ·refine ⟨its.toList,r,⟨o,n,I.kIn a o hk,hc,hd,by simpa using hs⟩,?_⟩;have e:=r.length;simp only [Array.length_toList] at e;lia
theorem Inv.tuple (I:Inv X pins σ H s) (h:SqT X.K H a xs):∃its:List JU,Vals xs its/\IsTup s.heap a its.toArray/\xs.length<=sizeLine:=by
 rcases h with h | ⟨o,its,n,hk,hc,hs,hz,r⟩
 ·obtain ⟨z,its,r,p⟩:=h.ok I.hok;exact ⟨its,r,p,z⟩
 ·refine ⟨its.toList,r,⟨o,I.kIn a o hk,hc,n,by simpa using hs⟩,?_⟩;have e:=r.length;simp only [Array.length_toList] at e;lia
theorem Inv.list_inj (I:Inv X pins σ H s) (h:SqL X.K H a xs) (h':SqL X.K H a ys):xs=ys:=by
 obtain ⟨its,r,⟨o,n,e,_,_,d⟩,_⟩:=I.list h;obtain ⟨its',r',⟨o',n',e',_,_,d'⟩,_⟩:=I.list h';rw [e] at e'; cases e';rw [d] at d';injection d' with d1 _
 have:its=its':=by simpa using congrArg Array.toList d1
 subst this;exact r.inj r'
theorem Inv.tuple_inj (I:Inv X pins σ H s) (h:SqT X.K H a xs) (h':SqT X.K H a ys):xs=ys:=by
 obtain ⟨its,r,⟨o,e,_,n,d⟩,_⟩:=I.tuple h;obtain ⟨its',r',⟨o',e',_,n',d'⟩,_⟩:=I.tuple h';rw [e] at e'; cases e';rw [d] at d';injection d' with d1 _
 have:its=its':=by simpa using congrArg Array.toList d1
 subst this;exact r.inj r'
end
abbrev Cx.wish (X:Cx) (E:JU->G7->Prop):Cx:={ X with xe:=E }
abbrev Cx.nox (X:Cx):Cx:=X.wish λ _ _=>False
theorem Cx.Ok.wish {X:Cx} (ok:X.Ok) (E:JU->G7->Prop):(X.wish E).Ok :=
 ⟨ok.mod,ok.kind,ok.glob,ok.blt,ok.above,ok.inj,ok.has,ok.cab,ok.hd,ok.frames,ok.stk,ok.exf,ok.bs,ok.bsz,ok.noex,ok.exfs,ok.funs,ok.frf⟩
theorem Cx.Ok.unwish {X:Cx} {E:JU->G7->Prop} (ok:(X.wish E).Ok):X.Ok :=
 ⟨ok.mod,ok.kind,ok.glob,ok.blt,ok.above,ok.inj,ok.has,ok.cab,ok.hd,ok.frames,ok.stk,ok.exf,ok.bs,ok.bsz,ok.noex,ok.exfs,ok.funs,ok.frf⟩
section
variable {X:Cx} {pins:List (Addr×Obj)} {σ:St} {H:Hp} {s:G7} {E:JU->G7->Prop}
theorem Inv.wish (I:Inv X pins σ H s) (E:JU->G7->Prop):Inv (X.wish E) pins σ H s:=⟨I.ok.wish E,I.os,I.bare,I.base,I.loc,I.cell,I.free,I.freeC,I.pin,I.hok,I.len⟩
theorem Inv.unwish (I:Inv (X.wish E) pins σ H s):Inv X pins σ H s:=⟨I.ok.unwish,I.os,I.bare,I.base,I.loc,I.cell,I.free,I.freeC,I.pin,I.hok,I.len⟩
theorem SP.unwish {D:Ends} {f:Flow} {s':G7} (h:SP (X.wish E) pins D f s'):SP X pins D f s':=by
 cases f with
 | next=>obtain ⟨σ',H',I,q⟩:=h; exact ⟨σ',H',I.unwish,q⟩
 | brk=>obtain ⟨σ',H',I,q⟩:=h; exact ⟨σ',H',I.unwish,q⟩
 | cont=>obtain ⟨σ',H',I,q⟩:=h; exact ⟨σ',H',I.unwish,q⟩
 | ret u=>obtain ⟨v,σ',H',I,r,q⟩:=h; exact ⟨v,σ',H',I.unwish,r,q⟩
theorem PSs.nox {st:List Stmt} {t:TS} (h:PSs X.nox st t):PSs X st t:=λ pins s σ H D I hw =>
 wpAny_mono (h pins s σ H D (I.wish _) hw) (λ _ _ q=>q.unwish) λ _ _ z=>E9 z
end
section
variable {X:Cx} {st:Stmt} {rest:List Stmt} {t u:TS} {e:Expr} {te:TE} {pos:Pos}
def Cl:TS:=λ D σ H=>D.nx σ H
def sK (t u:TS):TS:=λ D σ H=>t { D with nx:=u D } σ H
theorem aF:PSs X [] Cl:=λ _ _ σ H _ I h=>wpAny_execs_nil ⟨σ,H,I,h⟩
theorem ag (h1:PS X st t) (h2:PSs X rest u):PSs X (st :: rest) (sK t u):=by
 intro pins s σ H D I h;refine wpAny_execs_cons (thn (h1 pins s σ H { D with nx:=u D } I h) λ f s1 q=>?_);cases f with
 | next =>
  obtain ⟨σ',H',I',q⟩:=q;exact h2 pins s1 σ' H' D I' q
 | ret v=>exact q
 | brk=>exact q
 | cont=>exact q
theorem ap (h1:PS X st t):PSs X [st] t:=by
 intro pins s σ H D I h;refine wpAny_execs_cons (thn (h1 pins s σ H D I h) λ f s1 q=>?_);cases f with
 | next=>exact wpAny_execs_nil q
 | ret v=>exact q
 | brk=>exact q
 | cont=>exact q
theorem Inv.quiet {pins:List (Addr×Obj)} {σ:St} {H:Hp} {s:G7} (I:Inv X pins σ H s):interactive X.env=false:=by simp [interactive,I.ok.kind]
def Cm (te:TE):TS:=λ D σ H=>te σ H λ _ H1=>D.nx σ H1
theorem bc (he:PE X e te) (hs:swapsWith e none pos.line X.env=pure false:=by rfl):PS X (.Expr e pos) (Cm te):=by intro pins s σ H D I h;exact wpAny_Expr_any (thn (he pins s σ H _ I h) λ v s1 ⟨x,H1,I1,r1,q1⟩=>⟨σ,H1,I1,q1⟩) I.quiet hs
def GJ (te:TE):TS:=λ D σ H=>te σ H D.rt
theorem ay (he:PE X e te):PS X (.Return (some e) pos) (GJ te):=by intro pins s σ H D I h;exact wpAny_Return_some (thn (he pins s σ H _ I h) λ v s1 ⟨x,H1,I1,r1,q1⟩=>⟨x,σ,H1,I1,r1,q1⟩)
def GK (c:TT) (t u:TS):TS:=λ D σ H=>c σ H λ b H1=>if b=true then t D σ H1 else u D σ H1
theorem aR {c:Expr} {a b:List Stmt} {tc:TT} (hc:PT X c tc) (ha:PSs X a t) (hb:PSs X b u):PS X (.If c a b pos) (GK tc t u):=by
 intro pins s σ H D I h;refine wpAny_If (thn (hc pins s σ H _ I h) λ d s1 ⟨H1,I1,q1⟩=>?_);cases d with
 | true=>exact ha pins s1 σ H1 D I1 q1
 | false=>exact hb pins s1 σ H1 D I1 q1
def qb:TS:=λ _ _ _=>False
theorem bU:PS X st qb:=λ _ _ _ _ _ _ h=>h.elim
theorem fv {sts:List Stmt}:PSs X sts qb:=λ _ _ _ _ _ _ h=>h.elim
end
abbrev TG:=V->St->Hp->(St->Hp->Prop)->Prop
abbrev TGs:=List V->St->Hp->(St->Hp->Prop)->Prop
def PG (X:Cx) (target:Expr) (t:TG):Prop :=
 ∀ (pins:List (Addr×Obj)) (s:G7) (σ:St) (H:Hp) (v:V) (u:JU) (Q:St->Hp->Prop),Inv X pins σ H s->RelV v u->t v σ H Q ->
  wpAny (model X.prog X.w) X.A (assign target X.env u) (λ _ s'=>∃σ' H',Inv X pins σ' H' s'/\Q σ' H') X.xe s
def PGs (X:Cx) (ts:List Expr) (t:TGs):Prop :=
 ∀ (pins:List (Addr×Obj)) (s:G7) (σ:St) (H:Hp) (vs:List V) (us:List JU) (Q:St->Hp->Prop),Inv X pins σ H s->Vals vs us->t vs σ H Q ->
  wpAny (model X.prog X.w) X.A (assignInOrder ((assignEach ts X.env).map (·.2)) us) (λ _ s'=>∃σ' H',Inv X pins σ' H' s'/\Q σ' H') X.xe s
abbrev qc:=V->V->V->Hp->(Hp->Prop)->Prop
def wn (X:Cx) (t:qc):Prop :=
 ∀ (pins:List (Addr×Obj)) (s:G7) (σ:St) (H:Hp) (o i v:V) (ov iv u:JU) (Q:Hp->Prop),Inv X pins σ H s->RelV o ov->RelV i iv->RelV v u->t o i v H Q ->
  wpAny (model X.prog X.w) X.A (setItem ov iv u) (λ _ s'=>∃H',Inv X pins σ H' s'/\Q H') X.xe s
abbrev TIp:=V->V->Hp->VK->Prop
def PIp (X:Cx) (op:Operator) (t:TIp):Prop :=
 ∀ (pins:List (Addr×Obj)) (s:G7) (σ:St) (H:Hp) (x y:V) (v u:JU) (Q:VK),Inv X pins σ H s->RelV x v->RelV y u->t x y H Q ->
  wpAny (model X.prog X.w) X.A (inplaceOp op v u) (EP X pins σ Q) X.xe s
section
variable {X:Cx} {pos:Pos}
def bR (i:Nat):TG:=λ v σ H Q=>Q (σ.set i (some v)) H
theorem ao {i:Nat} {x:Str} (hN:X.N.Nodup) (hi:X.N[i]? = some x) (hx:Loc X.env.scope x) (hf:X.fn x=true\/X.env.scope.names.lookup x=some .local:=by first | exact .inl rfl | exact .inr rfl | assumption):PG X (.Name x pos) (bR i):=by intro pins s σ H v u Q I r h;exact wpAny_assign_Name (cQ I hN hi hx r (λ s' I'=>⟨_,H,I',h⟩) hf)
def ko:TGs:=λ vs σ H Q=>vs=[]/\Q σ H
inductive gCons (t:TG) (u:TGs) (vs:List V) (σ:St) (H:Hp) (Q:St->Hp->Prop):Prop
 | mk (v:V) (r:List V) (e_0:vs=v :: r) (e_1:t v σ H λ σ' H'=>u r σ' H' Q):gCons t u vs σ H Q
theorem aI:PGs X [] ko:=by intro pins s σ H vs us Q I r h;obtain ⟨e,h⟩:=h;subst e;cases r;exact assignInOrder_nil ⟨σ,H,I,h⟩
theorem ai {e:Expr} {es:List Expr} {t:TG} {u:TGs} (h1:PG X e t) (h2:PGs X es u)
  (hs:(assignEach (e :: es) X.env).map (·.2)=assign e X.env :: (assignEach es X.env).map (·.2):=by rfl):PGs X (e :: es) (gCons t u):=by
 intro pins s σ H vs us Q I r h;obtain ⟨v,vr,e1,h⟩:=h;subst e1;cases r with
 | cons r rr =>
  rw [hs];refine assignInOrder_cons (thn (h1 pins s σ H _ _ _ I r h) λ _ s1 ⟨σ1,H1,I1,q1⟩=>?_);exact h2 pins s1 σ1 H1 _ _ Q I1 rr q1
inductive gTup (K:C8) (n:Nat) (t:TGs) (v:V) (σ:St) (H:Hp) (Q:St->Hp->Prop):Prop
 | mk (a:Addr) (xs:List V) (e_0:v=.ref a) (e_1:SqT K H a xs) (e_2:xs.length=n) (e_3:t xs σ H Q):gTup K n t v σ H Q
theorem aP {es:List Expr} {k:Nat} {t:TGs} {n:Nat} (hc:X.calm=true) (h:PGs X es t)
  (hn:(assignEach es X.env).length=n:=by rfl) (hst:(assignEach es X.env).findIdx? (·.1)=none:=by rfl):PG X (.Tuple es k pos) (gTup X.K n t):=by
 intro pins s σ H v u Q I r hw;obtain ⟨a,xs,e1,hq,hl,hw⟩:=hw;subst e1;cases r;obtain ⟨its,rv,ht,hz⟩:=I.tuple hq;refine assign_Tuple_tuple (I.ok.hd hc) ht (by simp [hn,<- hl,rv.length]) hst λ h' hx=>?_;have I1:Inv X pins σ H { s with heap:=h' }:=I.kept (t':=s.toks) λ b o e=>hx b o (C2 (B2 e)) e;exact h pins _ σ H xs _ Q I1 (by simpa using rv) hw
def GL (to ti:TE) (t:qc):TG:=λ v σ H Q=>to σ H λ o H1=>ti σ H1 λ i H2=>t o i v H2 λ H3=>Q σ H3
theorem iJ {o i:Expr} {to ti:TE} {t:qc} (ho:PE X o to) (hi:PE X i ti) (hs:wn X t)
  (ha:∀v,assign (.Subscript o i pos) X.env v=(do
   let ov<-holding [v] (eval o X.env)
   let iv<-holding [v,ov] (eval i X.env)
   standAt pos
   holding [v,ov,iv] (setItem ov iv v)
   release [v,ov,iv] []):=by intro _; rfl):PG X (.Subscript o i pos) (GL to ti t):=by
 intro pins s σ H v u Q I r h;rw [ha];refine A0 (wpAny_holding (thn (ho pins s σ H _ I h) λ ov s1 ⟨x,H1,I1,r1,q1⟩=>?_));refine A0 (wpAny_holding (thn (hi pins s1 σ H1 _ I1 q1) λ iv s2 ⟨y,H2,I2,r2,q2⟩=>?_));refine A0 (wpAny_standAt (A0 (wpAny_holding (thn (hs pins s2 σ H2 x y v ov iv u _ I2 r1 r2 r q2) λ _ s3 ⟨H3,I3,q3⟩=>?_))));exact wpAny_release ⟨σ,H3,I3,q3⟩
def wr (te:TE) (g:TG):TS:=λ D σ H=>te σ H λ x H1=>g x σ H1 D.nx
theorem bg {tg e:Expr} {te:TE} {g:TG} (he:PE X e te) (hg:PG X tg g) (hs:swapsWithSole [tg] e pos.line X.env=pure false:=by rfl) (hw:swappedStores [tg] e X.env=pure none:=by rfl)
  (h1:(assignEach [tg] X.env).map (·.2)=[assign tg X.env]:=by rfl):PS X (.Assign [tg] e pos) (wr te g):=by
 intro pins s σ H D I h;refine wpAny_Assign_stores (thn (he pins s σ H _ I h) λ v s1 ⟨x,H1,I1,r1,q1⟩=>?_) hs hw;rw [h1];exact thn (hg pins s1 σ H1 x v _ I1 r1 q1) λ _ s2 q=>q
theorem aB {i:Nat} {x:Str} {e:Expr} {te:TE} {pos':Pos} (hN:X.N.Nodup) (hi:X.N[i]? = some x) (hx:Loc X.env.scope x) (he:PE X e te) (hs:swapsWith e (some (.Name x pos')) pos.line X.env=pure false:=by rfl) (hf:X.fn x=true\/X.env.scope.names.lookup x=some .local:=by first | exact .inl rfl | exact .inr rfl | assumption) :
  PS X (.Assign [.Name x pos'] e pos) (wr te (bR i)):=by
 intro pins s σ H D I h;refine wpAny_Assign_Name (thn (he pins s σ H _ I h) λ v s1 ⟨y,H1,I1,r1,q1⟩=>?_) hs;exact cQ I1 hN hi hx r1 (λ s2 I2=>⟨_,H1,I2,q1⟩) hf
def GM (i:Nat) (te:TE) (ti:TIp):TS:=λ D σ H=>∃x,σ[i]? = some (some x)/\te σ H λ y H1=>ti x y H1 λ z H2=>D.nx (σ.set i (some z)) H2
theorem kq {i:Nat} {x:Str} {e:Expr} {te:TE} {op:Operator} {ti:TIp} {pos':Pos} (hN:X.N.Nodup) (hi:X.N[i]? = some x) (hx:Loc X.env.scope x) (he:PE X e te) (ho:PIp X op ti) (hf:X.fn x=true\/X.env.scope.names.lookup x=some .local:=by first | exact .inl rfl | exact .inr rfl | assumption) :
  PS X (.AugAssign (.Name x pos') op e pos) (GM i te ti):=by
 intro pins s σ H D I h;obtain ⟨v,e1,h⟩:=h;obtain ⟨m,hn,hl⟩:=I.loc;have vis:Vis X.env.scope x:=by rcases hx with k | k; exact .inl k; exact .inr (.inl k)
 obtain ⟨u,r,l⟩:=hl i x v hi e1 vis;refine wpAny_AugAssign_Name ?_;have go:wpAny (model X.prog X.w) X.A (eval e X.env) (λ w s₂=>wpAny (model X.prog X.w) X.A (inplaceOp op u w) (λ r s₃=>wpAny (model X.prog X.w) X.A (storeName X.env x r) (λ _=>SP X pins D .next) X.xe s₃) X.xe s₂) X.xe s:=by refine thn (he pins s σ H _ I h) λ w s1 ⟨y,H1,I1,r1,q1⟩=>?_;refine thn (ho pins s1 σ H1 v y u w _ I1 r r1 q1) λ z s2 ⟨zv,H2,I2,r2,q2⟩=>?_;exact cQ I2 hN hi hx r2 (λ s3 I3=>⟨_,H2,I3,q2⟩) hf
 rcases l with ⟨hk,hm⟩ | ⟨hk,c,hc,hcell⟩
 ·exact wpAny_loadName_local I.ok.kind hk hn hm go
 ·rcases hk with hk | hk
  ·exact wpAny_loadName_cell I.ok.kind hk hc hcell go
  ·rcases hx with k | k
   ·have:X.env.scope.names.lookup x=some .free:=hk;rw [k] at this; cases this
   ·have:X.env.scope.names.lookup x=some .free:=hk;rw [k] at this; cases this
def Cn (to ti te:TE) (tget:V->V->Hp->VK->Prop) (tip:TIp) (tset:qc):TS:=λ D σ H=>to σ H λ o H1=>ti σ H1 λ i H2=>tget o i H2 λ x H3=>te σ H3 λ y H4=>tip x y H4 λ z H5=>tset o i z H5 λ H6=>D.nx σ H6
def Co (X:Cx) (t:V->V->Hp->VK->Prop):Prop :=
 ∀ (pins:List (Addr×Obj)) (s:G7) (σ:St) (H:Hp) (o i:V) (ov iv:JU) (Q:VK),Inv X pins σ H s->RelV o ov->RelV i iv->t o i H Q ->
  wpAny (model X.prog X.w) X.A (getItem ov iv) (EP X pins σ Q) X.xe s
theorem sL {o i e:Expr} {to ti te:TE} {tget:V->V->Hp->VK->Prop} {tip:TIp} {tset:qc} {op:Operator} {tpos:Pos} (ho:PE X o to) (hi:PE X i ti) (hg:Co X tget) (he:PE X e te) (hp:PIp X op tip) (hs:wn X tset)
  (ha:∀ov iv new,augStore i ov iv new=(do holding [new,ov,iv] (setItem ov iv new); release [new,ov,iv] []; pure .next):=by intros; rfl):PS X (.AugAssign (.Subscript o i tpos) op e pos) (Cn to ti te tget tip tset):=by
 intro pins s σ H D I h;refine wpAny_AugAssign_SubscriptAny (thn (ho pins s σ H _ I h) λ ov s1 ⟨x1,H1,I1,r1,q1⟩=>?_) ha;refine thn (hi pins s1 σ H1 _ I1 q1) λ iv s2 ⟨x2,H2,I2,r2,q2⟩=>?_;refine thn (hg pins s2 σ H2 x1 x2 ov iv _ I2 r1 r2 q2) λ old s3 ⟨x3,H3,I3,r3,q3⟩=>?_;refine thn (he pins s3 σ H3 _ I3 q3) λ v s4 ⟨x4,H4,I4,r4,q4⟩=>?_;refine thn (hp pins s4 σ H4 x3 x4 old v _ I4 r3 r4 q4) λ new s5 ⟨x5,H5,I5,r5,q5⟩=>?_;exact thn (hs pins s5 σ H5 x1 x2 x5 ov iv new _ I5 r1 r2 r5 q5) λ _ s6 ⟨H6,I6,q6⟩=>⟨σ,H6,I6,q6⟩
def ipI (f:Int->Int->Int):TIp:=λ x y H Q=>∃i j,x=.int i/\y=.int j/\Q (.int (f i j)) H
theorem iK:PIp X .Add (ipI λ i j=>i + j):=by intro pins s σ H x y v u Q I r1 r2 h;obtain ⟨i,j,e1,e2,q⟩:=h;subst e1; subst e2;obtain ⟨t,rfl⟩:=r1;obtain ⟨t',rfl⟩:=r2;exact iadd_int ⟨.int _,H,I.tok _,⟨_,rfl⟩,q⟩
end
section
variable {X:Cx} {pos:Pos}
def wu (c:TT) (tb:TS):TS:=λ D σ H=>∃W:Nat->St->Hp->Prop,(∃m,W m σ H)/\∀m σ H,W m σ H ->
 c σ H λ b H1=>if b=true then ∃N:St->Hp->Prop,(∀σ' H',N σ' H'->∃m',m' < m/\W m' σ' H')/\tb { D with nx:=N,ct:=N,bk:=D.nx } σ H1 else D.nx σ H1
theorem jo {c:Expr} {body:List Stmt} {tc:TT} {tb:TS} (hp:PassesOwn (model X.prog X.w) X.A X.env X.xe) (hc:PT X c tc) (hb:PSs X body tb):PS X (.While c body [] pos) (wu tc tb):=by
 intro pins s σ H D I h;obtain ⟨W,⟨m0,w0⟩,turn⟩:=h;refine wpAny_While (codeAny_whileLoop (λ n s'=>∃σ' H',Inv X pins σ' H' s'/\W n σ' H') ?_ m0 ⟨σ,H,I,w0⟩);rintro n s1 ⟨σ1,H1,I1,w1⟩;refine wpAny_passesOwn hp (thn (hc pins s1 σ1 H1 _ I1 (turn n σ1 H1 w1)) λ b s2 ⟨H2,I2,q2⟩=>?_);cases b with
 | true =>
  obtain ⟨N,hN,q2⟩:=q2;rw [if_pos rfl];refine wpAny_passesOwn hp (thn (hb pins s2 σ1 H2 _ I2 q2) λ f s3 q3=>?_);cases f with
  | next =>
   obtain ⟨σ3,H3,I3,n3⟩:=q3;obtain ⟨m',hm,w3⟩:=hN σ3 H3 n3;exact ⟨m',hm,σ3,H3,I3,w3⟩
  | cont =>
   obtain ⟨σ3,H3,I3,n3⟩:=q3;obtain ⟨m',hm,w3⟩:=hN σ3 H3 n3;exact ⟨m',hm,σ3,H3,I3,w3⟩
  | brk=>exact q3
  | ret v=>exact q3
 | false =>
  rw [if_neg Bool.false_ne_true];exact wpAny_execs_nil ⟨σ1,H2,I2,q2⟩
end
structure It where
 go:Nat->Hp->Prop
 yld:Nat->Hp->V->Hp->Prop
 stop:Nat->Hp->Prop
def fA (X:Cx) (pins:List (Addr×Obj)) (H:Hp) (b:Addr):Prop :=
 H b=none/\b≠X.env.locals/\b∉X.fs/\(b∈X.ex\/X.s₀.heap.objs.size<=b)/\(∀x c,X.env.cells.lookup x=some c->c≠b)/\∀p∈X.pn ++ pins,p.1≠b
theorem Inv.fpOk {X:Cx} {pins:List (Addr×Obj)} {σ:St} {H H':Hp} {s:G7} {b:Addr} (I:Inv X pins σ H s) (hb:s.heap.objs.size<=b) (hn:H' b=none):fA X pins H' b:=by
 refine ⟨hn,Nat.ne_of_gt (C5 I.lt hb),I.nofs hb,.inr (C9 I.sz hb),λ x c e z=>?_,λ p hp z=>?_⟩
 ·obtain ⟨v,q⟩:=I.cell x c e;exact absurd (C5 q.lt (by rw [z]; exact hb)) (E3 _)
 ·exact absurd (C5 (B2 (I.pin p hp).1) (by rw [z]; exact hb)) (E3 _)
structure Turn (P:Program) (w:World) (K:C8) (tg:Expr) (J:It) (fp:List Addr) (it:Addr) (tn:Nat->Heap->Prop):Prop where
 mem:it∈fp
 obj:∀i h,tn i h->∀b∈fp,∃o,h.get? b=some o/\∀v,o.data≠.cell v
 keep:∀i h h',tn i h->(∀b∈fp,∀o,h.get? b=some o->h'.get? b=some o)->tn i h'
 item:∀ (X:Cx),X.prog=P->X.w=w->X.K=K->X.calm=true->∀ (i:Nat) (pins:List (Addr×Obj)) (s:G7) (σ:St) (H:Hp) (E:JU->G7->Prop),Inv X pins σ H s->(∀b∈fp,fA X pins H b)->tn i s.heap->J.go i H ->
  wpAny (model P w) X.A (pyNext (.ref it)) (λ r s1=>∃u,r=some u /\
   wpAny (model P w) X.A (letOwnedTupleGo tg (.ref it) u) (λ _ s2=>∃x H',Inv X pins σ H' s2/\RelV x u/\J.yld i H x H'/\tn (i + 1) s2.heap/\∀b∈fp,H' b=none) E s1) E s
 done:∀ (X:Cx),X.prog=P->X.w=w->X.K=K->X.calm=true->∀ (i:Nat) (pins:List (Addr×Obj)) (s:G7) (σ:St) (H:Hp) (E:JU->G7->Prop),Inv X pins σ H s->(∀b∈fp,fA X pins H b)->tn i s.heap->J.stop i H ->
  wpAny (model P w) X.A (pyNext (.ref it)) (λ r s1=>r=none/\Inv X pins σ H s1) E s
 self:∀ (A:Around) (i:Nat) (s:G7) (Q:JU->G7->Prop) (E:JU->G7->Prop),tn i s.heap->Q (.ref it) s->wpAny (model P w) A (pyIter (.ref it)) Q E s
abbrev TI:=St->Hp->(It->Hp->Prop)->Prop
def PIE (X:Cx) (pins:List (Addr×Obj)) (σ:St) (tg:Expr) (R:It->Hp->Prop) (itv:JU) (s2:G7):Prop :=
 ∃ (it:Addr) (fp:List Addr) (tn:Nat->Heap->Prop) (J:It) (H':Hp),itv=.ref it/\Inv X pins σ H' s2/\Turn X.prog X.w X.K tg J fp it tn/\tn 0 s2.heap/\(∀b∈fp,fA X pins H' b)/\R J H'
def PI (X:Cx) (tg iter:Expr) (wi:TI):Prop :=
 ∀ (pins:List (Addr×Obj)) (s:G7) (σ:St) (H:Hp) (R:It->Hp->Prop),Inv X pins σ H s->wi σ H R ->
  wpAny (model X.prog X.w) X.A (eval iter X.env) (λ v s1=>wpAny (model X.prog X.w) X.A (pyIter v) (PIE X pins σ tg R) X.xe s1) X.xe s
theorem mH {M:Model} {A:Around} {E:JU->G7->Prop} {s:G7} {tg:Expr} {it:Addr} {u:JU} {o:Obj} {n:String} {vs:Array JU} {Q:Unit->G7->Prop} (ho:s.heap.get? it=some o) (hc:o.cls=.type n) (hd:o.data=.fields vs)
    (hn:["enumerate","zip","dict_itemiterator","dict_reverseitemiterator","odict_iterator","itertools.zip_longest","itertools.pairwise"].contains n=false) (hQ:Q () s):wpAny M A (letOwnedTupleGo tg (.ref it) u) Q E s:=by
  unfold letOwnedTupleGo;cases tg <;> first
    | exact A3 hQ
    | (cases u <;> first
        | exact A3 hQ
        | (refine A0 (wpAny_load ho ?_)
           rw [hc,hd];show wpAny M A (if (["enumerate","zip","dict_itemiterator","dict_reverseitemiterator","odict_iterator","itertools.zip_longest","itertools.pairwise"].contains n && vs[0]? == some (rawInt _))=true then _ else _) Q E s;rw [if_neg (by intro h; rw [hn,Bool.false_and] at h; cases h)];exact A3 hQ))
def Itl (K:C8) (a:Addr):It :=
 ⟨λ i H=>∃xs x,SqL K H a xs/\xs[i]? = some x,λ i H x H'=>H'=H/\∀xs,SqL K H a xs->xs[i]? = some x,λ i H=>∃xs,SqL K H a xs/\xs.length<=i⟩
def Itt (K:C8) (a:Addr):It :=
 ⟨λ i H=>∃xs x,SqT K H a xs/\xs[i]? = some x,λ i H x H'=>H'=H/\∀xs,SqT K H a xs->xs[i]? = some x,λ i H=>∃xs,SqT K H a xs/\xs.length<=i⟩
def Itr (lo:Int) (n:Nat):It:=⟨λ i _=>i < n,λ i H x H'=>H'=H/\x=.int (lo + i),λ i _=>n<=i⟩
theorem nZ {P:G8} {w:JT} {K:C8} {tg:Expr} (a it:Addr):Turn P w K tg (Itl K a) [it] it (λ i h=>h.IsListIter it a i) where
 mem:=by simp
 obj:=λ i h st b hb=>by
  have e:b=it:=by simpa using hb
  subst e;obtain ⟨o,e,c,d⟩:=st;exact ⟨o,e,λ v z=>by rw [d] at z; cases z⟩
 keep:=λ i h h' st k=>st.at λ o e=>k it (by simp) o e
 item:=by intro X hP hw hK hc i pins s σ H E I hf st hg;subst hP hw hK;obtain ⟨xs,x,hq,hx⟩:=hg;obtain ⟨its,rv,p,hz⟩:=I.list hq;obtain ⟨u,hu,ru⟩:=rv.get hx;obtain ⟨f0,f1,f2,f3,f4,f5⟩:=hf it (by simp);refine wpAny_pyNext_list_item st p.isList (x:=u) (by simpa using hu) λ h' st' sb=>?_;have I1:Inv X pins σ H { s with heap:=h' }:=I.turned (t':=s.toks) (λ b o hb e=>(sb.2 b hb).trans e) f0 f1 f3 f4 f5;obtain ⟨o,e,c,d⟩:=id st';exact ⟨u,Y,mH (s:={ s with heap:=h' }) e c d ∅ ⟨x,H,I1,ru,⟨Y,λ ys hy=>by rw [I.list_inj hy hq]; exact hx⟩,st',λ b hb=>(hf b hb).1⟩⟩
 done:=by intro X hP hw hK hc i pins s σ H E I hf st hg;subst hP hw hK;obtain ⟨xs,hq,hx⟩:=hg;obtain ⟨its,rv,p,hz⟩:=I.list hq;obtain ⟨f0,f1,f2,f3,f4,f5⟩:=hf it (by simp);have hl:=rv.length;exact wpAny_pyNext_list_end (I.ok.hd hc) st p.isList (by simp; lia) λ h' eb=>⟨Y,I.turned (t':=s.toks) (λ b o hb e=>eb b o hb e) f0 f1 f3 f4 f5⟩
 self:=λ _ _ _ _ _ st h=>wpAny_pyIter_listiter st h
theorem kx {P:G8} {w:JT} {K:C8} {tg:Expr} (a it:Addr):Turn P w K tg (Itt K a) [it] it (λ i h=>h.IsTupleIter it a i) where
 mem:=by simp
 obj:=λ i h st b hb=>by
  have e:b=it:=by simpa using hb
  subst e;obtain ⟨o,e,c,d⟩:=st;exact ⟨o,e,λ v z=>by rw [d] at z; cases z⟩
 keep:=λ i h h' st k=>st.at λ o e=>k it (by simp) o e
 item:=by intro X hP hw hK hc i pins s σ H E I hf st hg;subst hP hw hK;obtain ⟨xs,x,hq,hx⟩:=hg;obtain ⟨its,rv,p,hz⟩:=I.tuple hq;obtain ⟨u,hu,ru⟩:=rv.get hx;obtain ⟨f0,f1,f2,f3,f4,f5⟩:=hf it (by simp);refine wpAny_pyNext_tuple_item st (show s.heap.IsTuple a its.toArray from p) (x:=u) (by simpa using hu) λ h' st' sb=>?_;have I1:Inv X pins σ H { s with heap:=h' }:=I.turned (t':=s.toks) (λ b o hb e=>(sb.2 b hb).trans e) f0 f1 f3 f4 f5;obtain ⟨o,e,c,d⟩:=id st';exact ⟨u,Y,mH (s:={ s with heap:=h' }) e c d ∅ ⟨x,H,I1,ru,⟨Y,λ ys hy=>by rw [I.tuple_inj hy hq]; exact hx⟩,st',λ b hb=>(hf b hb).1⟩⟩
 done:=by intro X hP hw hK hc i pins s σ H E I hf st hg;subst hP hw hK;obtain ⟨xs,hq,hx⟩:=hg;obtain ⟨its,rv,p,hz⟩:=I.tuple hq;obtain ⟨f0,f1,f2,f3,f4,f5⟩:=hf it (by simp);have hl:=rv.length;exact wpAny_pyNext_tuple_end (I.ok.hd hc) st (show s.heap.IsTuple a its.toArray from p) (by simp; lia) λ h' eb=>⟨Y,I.turned (t':=s.toks) (λ b o hb e=>eb b o hb e) f0 f1 f3 f4 f5⟩
 self:=λ _ _ _ _ _ st h=>wpAny_pyIter_tupleiter st h
theorem ky {P:G8} {w:JT} {K:C8} {tg:Expr} (it:Addr) (lo:Int) (n:Nat):Turn P w K tg (Itr lo n) [it] it (λ i h=>IsRangeIter h it (lo + (i:Nat) * 1) ((n:Int) - (i:Nat)) 1) where
 mem:=by simp
 obj:=λ i h st b hb=>by
  have e:b=it:=by simpa using hb
  subst e;exact ⟨_,st,λ v z=>by
   have z':Data.fields _=Data.cell v:=z;cases z'⟩
 keep:=λ i h h' st k=>k it (by simp) _ st
 item:=by intro X hP hw hK hc i pins s σ H E I hf st hg;subst hP hw hK;obtain ⟨f0,f1,f2,f3,f4,f5⟩:=hf it (by simp);have W:=Walks.range (prog:=X.prog) (w:=X.w) (I.ok.hd hc) it lo 1 n;refine W.item i s _ _ hg st λ v h' tk hv st' kk=>?_;obtain ⟨t,rfl⟩:=hv;have I1:Inv X pins σ H { s with heap:=h',toks:=tk }:=I.turned (λ b o hb e=>kk b o (by simpa using hb) e) f0 f1 f3 f4 f5;refine ⟨_, Y, mH (s:={ s with heap:=h', toks:=tk }) (n := "range_iterator") st' rfl rfl ∅ ⟨.int (lo + i), H, I1, ⟨t, ?_⟩, ⟨Y, Y⟩, st', λ b hb=>(hf b hb).1⟩⟩;rw [Int.mul_one]
 done:=by intro X hP hw hK hc i pins s σ H E I hf st hg;subst hP hw hK;obtain ⟨f0,f1,f2,f3,f4,f5⟩:=hf it (by simp);exact wpAny_pyNext_range_end (I.ok.hd hc) st (by have:n<=i:=hg; lia) λ h' eb=>⟨Y,I.turned (t':=s.toks) (λ b o hb e=>eb b o hb e) f0 f1 f3 f4 f5⟩
 self:=λ _ _ _ _ _ st h=>wpAny_pyIter_rangeiter st h
section
variable {X:Cx} {tg:Expr}
inductive iListA (K:C8) (R:It->Hp->Prop) (x:V) (H1:Hp):Prop
 | mk (a:Addr) (e_0:x=.ref a) (e_1:(∃xs,SqL K H1 a xs)) (e_2:R (Itl K a) H1):iListA K R x H1
def vM (K:C8) (tl:TE):TI:=λ σ H R=>tl σ H λ x H1=>iListA K R x H1
inductive iTupA (K:C8) (R:It->Hp->Prop) (x:V) (H1:Hp):Prop
 | mk (a:Addr) (e_0:x=.ref a) (e_1:(∃xs,SqT K H1 a xs)) (e_2:R (Itt K a) H1):iTupA K R x H1
def Cp (K:C8) (tl:TE):TI:=λ σ H R=>tl σ H λ x H1=>iTupA K R x H1
theorem bv {l:Expr} {tl:TE} (hl:PE X l tl):PI X tg l (vM X.K tl):=by
 intro pins s σ H R I h;refine thn (hl pins s σ H _ I h) λ v s1 ⟨x,H1,I1,r1,q1⟩=>?_;obtain ⟨a,e,⟨xs,hq⟩,q⟩:=q1;subst e;cases r1;obtain ⟨its,rv,p,hz⟩:=I1.list hq;refine wpAny_pyIter_list p.isList ?_;refine ⟨s1.heap.objs.size,[s1.heap.objs.size],_,_,H1,Y,I1.kept (t':=s1.toks) λ b o e=>B0 _ e,nZ a _,⟨_,B1 _ rfl,Y,Y⟩,λ b hb=>?_,q⟩;have e:b=s1.heap.objs.size:=by simpa using hb
 subst e;exact I1.fpOk (B6 _) (I1.hok.fresh (B6 _))
theorem fB {l:Expr} {tl:TE} (hl:PE X l tl):PI X tg l (Cp X.K tl):=by
 intro pins s σ H R I h;refine thn (hl pins s σ H _ I h) λ v s1 ⟨x,H1,I1,r1,q1⟩=>?_;obtain ⟨a,e,⟨xs,hq⟩,q⟩:=q1;subst e;cases r1;obtain ⟨its,rv,p,hz⟩:=I1.tuple hq;refine wpAny_pyIter_tuple (show s1.heap.IsTuple a its.toArray from p) ?_;refine ⟨s1.heap.objs.size,[s1.heap.objs.size],_,_,H1,Y,I1.kept (t':=s1.toks) λ b o e=>B0 _ e,kx a _,⟨_,B1 _ rfl,Y,Y⟩,λ b hb=>?_,q⟩;have e:b=s1.heap.objs.size:=by simpa using hb
 subst e;exact I1.fpOk (B6 _) (I1.hok.fresh (B6 _))
theorem jp {pins:List (Addr×Obj)} {σ:St} {H:Hp} {s:G7} {R:It->Hp->Prop} {E:JU->G7->Prop} {lo hi:Int} {t u v:Tok} {tk:Nat} (I:Inv X pins σ H s) (h1:-(2 ^ 62)<=lo) (h2:lo < 2 ^ 62) (h3:-(2 ^ 62)<=hi) (h4:hi < 2 ^ 62)
  (q:R (Itr lo (hi - lo).toNat) H):wpAny (model X.prog X.w) X.A (pyIter (.ref s.heap.objs.size)) (PIE X pins σ tg R) E { s with heap:=s.heap.push { cls:=.type "range",data:=.fields #[.int lo t,.int hi u,.int 1 v] },toks:=tk }:=by
 refine wpAny_pyIter_range (IsRange.new ..) (small_one h1 h2 h3 h4) ?_;have I1:Inv X pins σ H { s with heap:=s.heap.push { cls:=.type "range",data:=.fields #[.int lo t,.int hi u,.int 1 v] },toks:=tk }:=I.kept λ b o e=>B0 _ e;refine ⟨(s.heap.push { cls:=.type "range",data:=.fields #[.int lo t,.int hi u,.int 1 v] }).objs.size,[(s.heap.push { cls:=.type "range",data:=.fields #[.int lo t,.int hi u,.int 1 v] }).objs.size],_,_,H,Y,
  I1.kept (t':=tk) λ b o e=>B0 _ e,ky _ lo (hi - lo).toNat,?_,λ b hb=>?_,q⟩
 ·have e1:lo + ((0:Nat):Int) * 1=lo:=by simp
  have e2:(((hi - lo).toNat:Nat):Int) - ((0:Nat):Int)=Builtin.Range.rangeSize lo hi 1:=by rw [rangeSize_one]; split <;> lia
  show IsRangeIter _ _ (lo + ((0:Nat):Int) * 1) ((((hi - lo).toNat:Nat):Int) - ((0:Nat):Int)) 1;rw [e1,e2];exact B1 _ rfl
 ·have e:b=(s.heap.push { cls:=.type "range",data:=.fields #[.int lo t,.int hi u,.int 1 v] }).objs.size:=by simpa using hb
  subst e;exact I1.fpOk (B6 _) (I1.hok.fresh (B6 _))
def Cq (ta:TA):TI:=λ σ H R=>ta σ H λ vs H1=>∃j:Int,vs=[.int j]/\-(2 ^ 62)<=j/\j < 2 ^ 62/\R (Itr 0 j.toNat) H1
def Cr (ta:TA):TI:=λ σ H R=>ta σ H λ vs H1=>∃i j:Int,vs=[.int i,.int j]/\(-(2 ^ 62)<=i/\i < 2 ^ 62/\-(2 ^ 62)<=j/\j < 2 ^ 62)/\R (Itr i (j - i).toNat) H1
theorem dO {a:Expr} {ta:TA} {p pos:Pos} (hg:Gl X "range") (hm:X.mg "range" = none) (ha:PA X [a] ta) (hs:starEach [a] X.env=[(false,eval a X.env)]:=by rfl):PI X tg (.Call (.Name "range" p) [a] [] pos) (Cq ta):=by
 intro pins s σ H R I h;refine Call_ (dC I hg hm boot_range (PyProof.Rows.callWith_type1 (thn (ha pos pins s σ H _ I h) λ us s1 ⟨vs,H1,I1,r1,q1⟩=>?_) hs rfl));obtain ⟨j,e,q1,q2,q⟩:=q1;subst e;cases r1 with
 | cons r rr =>
  cases rr;obtain ⟨t,rfl⟩:=r;exact call_range_1 (jp I1 ⋯ ⋯ q1 q2 (by simpa using q))
theorem oa {a b:Expr} {ta:TA} {p pos:Pos} (hg:Gl X "range") (hm:X.mg "range" = none) (ha:PA X [a,b] ta) (hs:starEach [a,b] X.env=[(false,eval a X.env),(false,eval b X.env)]:=by rfl) (hs2:starEach [b] X.env=[(false,eval b X.env)]:=by rfl) :
  PI X tg (.Call (.Name "range" p) [a,b] [] pos) (Cr ta):=by
 intro pins s σ H R I h;refine Call_ (dC I hg hm boot_range (PyProof.Rows.callWith_type1 (thn (ha pos pins s σ H _ I h) λ us s1 ⟨vs,H1,I1,r1,q1⟩=>?_) (by rw [hs,hs2]) (by rw [hs2]; rfl)));obtain ⟨i,j,e,⟨q1,q2,q3,q4⟩,q⟩:=q1;subst e;cases r1 with
 | cons r rr =>
  cases rr with
  | cons r' rr =>
   cases rr;obtain ⟨t,rfl⟩:=r;obtain ⟨t',rfl⟩:=r';exact call_range_2 (jp I1 q1 q2 q3 q4 q)
def Cs (wi:TI) (g:TG) (tb:TS):TS:=λ D σ H=>wi σ H λ J H1=>∃W:Nat->Nat->St->Hp->Prop,(∃m,W 0 m σ H1)/\∀i m σ H,W i m σ H ->
 (J.stop i H/\D.nx σ H)\/(J.go i H/\∃N:St->Hp->Prop,(∀σ' H',N σ' H'->∃m',m' < m/\W (i + 1) m' σ' H')/\∀x H',J.yld i H x H'->g x σ H' λ σ2 H2=>tb { D with nx:=N,ct:=N,bk:=D.nx } σ2 H2)
def iL (fp:List Addr) (h:Heap):List (Addr×Obj):=fp.filterMap λ b=>(h.get? b).map λ o=>(b,o)
theorem cg {fp:List Addr} {h:Heap} {b:Addr} {o:Obj} (hb:b∈fp) (e:h.get? b=some o):(b,o)∈iL fp h:=List.mem_filterMap.mpr ⟨b,hb,by rw [e]; rfl⟩
theorem og {fp:List Addr} {h:Heap} {p:Addr×Obj} (hp:p∈iL fp h):p.1∈fp/\h.get? p.1=some p.2:=by
 obtain ⟨b,hb,e⟩:=List.mem_filterMap.mp hp;cases q:h.get? b with
 | none=>rw [q] at e; cases e
 | some o =>
  rw [q] at e;have e':(b,o)=p:=C1 e;subst e';exact ⟨hb,q⟩
theorem Inv.pinned {pins:List (Addr×Obj)} {σ:St} {H:Hp} {s:G7} {fp:List Addr} (I:Inv X pins σ H s) (hf:∀b∈fp,fA X pins H b) (ho:∀b∈fp,∃o,s.heap.get? b=some o/\∀v,o.data≠.cell v):Inv X (pins ++ iL fp s.heap) σ H s :=
 I.pins_of λ p hp=>(C6.mp hp).elim (λ z=>I.pin p (A8 _ z)) λ z=>by obtain ⟨hb,e⟩:=og z;obtain ⟨f0,f1,f2,_⟩:=hf p.1 hb;obtain ⟨o,e',d⟩:=ho p.1 hb;rw [e] at e'; cases e';exact ⟨e,f0,f1,f2,d⟩
theorem Inv.unpinned {pins pl:List (Addr×Obj)} {σ:St} {H:Hp} {s:G7} (I:Inv X (pins ++ pl) σ H s):Inv X pins σ H s:=I.pins_of λ p hp=>I.pin p (A8 _ (B9 _ hp))
theorem bM {iter:Expr} {body:List Stmt} {wi:TI} {g:TG} {tb:TS} {pos:Pos} (hp:PassesOwn (model X.prog X.w) X.A X.env X.xe) (hc:X.calm=true) (hi:PI X tg iter wi) (hg:PG X tg g) (hb:PSs X body tb)
  (hs:∀x,foldedSetIterable iter X.env x=pure x:=by intro _; rfl):PS X (.For tg iter body [] pos) (Cs wi g tb):=by
 intro pins s σ H D I h;refine wpAny_For (thn (hi pins s σ H _ I h) λ v s1 h1=>thn h1 λ itv s2 h2=>?_) hs;obtain ⟨it,fp,tn,J,H2,e,I2,T,st2,f2,W,⟨m0,w0⟩,turn⟩:=h2;subst e;have stat:∀ {H':Hp},(∀b∈fp,H' b=none)->∀b∈fp,fA X pins H' b:=λ hn b hb=>⟨hn b hb,(f2 b hb).2⟩
 refine codeAny_forLoop_any (λ n s'=>∃i σ' H',Inv X pins σ' H' s'/\tn i s'.heap/\(∀b∈fp,H' b=none)/\W i n σ' H') ?_ m0 ⟨0,σ,H2,I2,st2,λ b hb=>(f2 b hb).1,w0⟩;rintro n s3 ⟨i,σ3,H3,I3,st3,fr3,w3⟩;rcases turn i n σ3 H3 w3 with ⟨stop,qn⟩ | ⟨go,N,hN,step⟩
 ·refine wpAny_passesOwn hp (thn (T.done X rfl rfl rfl hc i pins s3 σ3 H3 X.xe I3 (stat fr3) st3 stop) λ r s4 ⟨hr,I4⟩=>?_);subst hr;exact wpAny_execs_nil ⟨σ3,H3,I4,qn⟩
 ·refine wpAny_passesOwn hp (thn (T.item X rfl rfl rfl hc i pins s3 σ3 H3 X.xe I3 (stat fr3) st3 go) λ r s4 ⟨u,hr,h4⟩=>?_);subst hr;refine wpAny_passesOwn hp (thn h4 λ _ s5 ⟨x,H5,I5,r5,y5,st5,fr5⟩=>?_);have I5':=I5.pinned (stat fr5) (T.obj _ _ st5);refine wpAny_passesOwn hp (thn (hg _ s5 σ3 H5 x u _ I5' r5 (step x H5 y5)) λ _ s6 ⟨σ6,H6,I6,q6⟩=>?_);refine wpAny_passesOwn hp (thn (hb _ s6 σ6 H6 _ I6 q6) λ f s7 q7=>?_);have again:∀ {σ7:St} {H7:Hp},Inv X (pins ++ iL fp s5.heap) σ7 H7 s7->N σ7 H7->∃m,m < n/\∃i σ' H',Inv X pins σ' H' s7/\tn i s7.heap/\(∀b∈fp,H' b=none)/\W i m σ' H':=λ {σ7 H7} I7 n7=>by obtain ⟨m',hm,w7⟩:=hN σ7 H7 n7;refine ⟨m',hm,i + 1,σ7,H7,I7.unpinned,T.keep _ _ _ st5 λ b hb o e=>(I7.pin (b,o) (A8 _ (A8 _ (cg hb e)))).1,λ b hb=>?_,w7⟩;obtain ⟨o,e,d⟩:=T.obj _ _ st5 b hb;exact (I7.pin (b,o) (A8 _ (A8 _ (cg hb e)))).2.1
  cases f with
  | next=>obtain ⟨σ7,H7,I7,n7⟩:=q7; exact again I7 n7
  | cont=>obtain ⟨σ7,H7,I7,n7⟩:=q7; exact again I7 n7
  | brk=>obtain ⟨σ7,H7,I7,q7⟩:=q7; exact ⟨σ7,H7,I7.unpinned,q7⟩
  | ret v=>obtain ⟨x7,σ7,H7,I7,r7,q7⟩:=q7; exact ⟨x7,σ7,H7,I7.unpinned,r7,q7⟩
end
theorem dD {K:C8} {a:Addr} {xs:List V} {g:TG} {tb:TS} {D:Ends} {σ:St} {H:Hp} (Pv:Nat->St->Hp->Prop) (h0:Pv 0 σ H) (hl:∀i σ H,i<=xs.length->Pv i σ H->SqL K H a xs)
  (hs:∀i x σ H,xs[i]? = some x->Pv i σ H->g x σ H λ σ2 H2=>tb { D with nx:=Pv (i + 1),ct:=Pv (i + 1),bk:=D.nx } σ2 H2) (hd:∀σ H,Pv xs.length σ H->D.nx σ H) :
  ∃W:Nat->Nat->St->Hp->Prop,(∃m,W 0 m σ H)/\∀i m σ H,W i m σ H ->
   ((Itl K a).stop i H/\D.nx σ H)\/((Itl K a).go i H/\∃N:St->Hp->Prop,(∀σ' H',N σ' H'->∃m',m' < m/\W (i + 1) m' σ' H')/\∀x H',(Itl K a).yld i H x H'->g x σ H' λ σ2 H2=>tb { D with nx:=N,ct:=N,bk:=D.nx } σ2 H2):=by
 refine ⟨λ i m σ H=>m=xs.length - i/\i<=xs.length/\Pv i σ H,⟨xs.length,by simp,G0 _,h0⟩,?_⟩;rintro i m σ H ⟨rfl,hi,p⟩;have q:=hl i σ H hi p
 by_cases hlt:i < xs.length
 ·refine .inr ⟨⟨xs,xs[i],q,by simp [hlt]⟩,Pv (i + 1),λ σ' H' p'=>⟨xs.length - (i + 1),⋯,Y,hlt,p'⟩,λ x H' y=>?_⟩;obtain ⟨e,y⟩:=y;subst e;exact hs i x σ _ (y xs q) p
 ·have e:i=xs.length:=⋯
  subst e;exact .inl ⟨⟨xs,q,B6 _⟩,hd σ H p⟩
theorem iM {K:C8} {a:Addr} {xs:List V} {g:TG} {tb:TS} {D:Ends} {σ:St} {H:Hp} (Pv:Nat->St->Hp->Prop) (h0:Pv 0 σ H) (hl:∀i σ H,i<=xs.length->Pv i σ H->SqT K H a xs)
  (hs:∀i x σ H,xs[i]? = some x->Pv i σ H->g x σ H λ σ2 H2=>tb { D with nx:=Pv (i + 1),ct:=Pv (i + 1),bk:=D.nx } σ2 H2) (hd:∀σ H,Pv xs.length σ H->D.nx σ H) :
  ∃W:Nat->Nat->St->Hp->Prop,(∃m,W 0 m σ H)/\∀i m σ H,W i m σ H ->
   ((Itt K a).stop i H/\D.nx σ H)\/((Itt K a).go i H/\∃N:St->Hp->Prop,(∀σ' H',N σ' H'->∃m',m' < m/\W (i + 1) m' σ' H')/\∀x H',(Itt K a).yld i H x H'->g x σ H' λ σ2 H2=>tb { D with nx:=N,ct:=N,bk:=D.nx } σ2 H2):=by
 refine ⟨λ i m σ H=>m=xs.length - i/\i<=xs.length/\Pv i σ H,⟨xs.length,by simp,G0 _,h0⟩,?_⟩;rintro i m σ H ⟨rfl,hi,p⟩;have q:=hl i σ H hi p
 by_cases hlt:i < xs.length
 ·refine .inr ⟨⟨xs,xs[i],q,by simp [hlt]⟩,Pv (i + 1),λ σ' H' p'=>⟨xs.length - (i + 1),⋯,Y,hlt,p'⟩,λ x H' y=>?_⟩;obtain ⟨e,y⟩:=y;subst e;exact hs i x σ _ (y xs q) p
 ·have e:i=xs.length:=⋯
  subst e;exact .inl ⟨⟨xs,q,B6 _⟩,hd σ H p⟩
theorem cR {lo:Int} {n:Nat} {g:TG} {tb:TS} {D:Ends} {σ:St} {H:Hp} (Pv:Nat->St->Hp->Prop) (h0:Pv 0 σ H)
  (hs:∀i σ H,i < n->Pv i σ H->g (.int (lo + i)) σ H λ σ2 H2=>tb { D with nx:=Pv (i + 1),ct:=Pv (i + 1),bk:=D.nx } σ2 H2) (hd:∀σ H,Pv n σ H->D.nx σ H) :
  ∃W:Nat->Nat->St->Hp->Prop,(∃m,W 0 m σ H)/\∀i m σ H,W i m σ H ->
   ((Itr lo n).stop i H/\D.nx σ H)\/((Itr lo n).go i H/\∃N:St->Hp->Prop,(∀σ' H',N σ' H'->∃m',m' < m/\W (i + 1) m' σ' H')/\∀x H',(Itr lo n).yld i H x H'->g x σ H' λ σ2 H2=>tb { D with nx:=N,ct:=N,bk:=D.nx } σ2 H2):=by
 refine ⟨λ i m σ H=>m=n - i/\i<=n/\Pv i σ H,⟨n,by simp,G0 _,h0⟩,?_⟩;rintro i m σ H ⟨rfl,hi,p⟩
 by_cases hlt:i < n
 ·refine .inr ⟨hlt,Pv (i + 1),λ σ' H' p'=>⟨n - (i + 1),⋯,Y,hlt,p'⟩,λ x H' y=>?_⟩;obtain ⟨e,y⟩:=y;subst e y;exact hs i σ _ hlt p
 ·have e:i=n:=⋯
  subst e;exact .inl ⟨B6 _,hd σ H p⟩
abbrev R2:=V->V->Hp->VK->Prop
def OpR (X:Cx) (f:JU->JU->Sem JU) (r:R2):Prop :=
 ∀ (pins:List (Addr×Obj)) (s:G7) (σ:St) (H:Hp) (x y:V) (v u:JU) (Q:VK),Inv X pins σ H s->RelV x v->RelV y u->r x y H Q ->
  wpAny (model X.prog X.w) X.A (f v u) (EP X pins σ Q) X.xe s
def UnR (X:Cx) (f:JU->Sem JU) (r:V->Hp->VK->Prop):Prop :=
 ∀ (pins:List (Addr×Obj)) (s:G7) (σ:St) (H:Hp) (x:V) (v:JU) (Q:VK),Inv X pins σ H s->RelV x v->r x H Q ->
  wpAny (model X.prog X.w) X.A (f v) (EP X pins σ Q) X.xe s
def cG (X:Cx) (f:JU) (r:List V->Hp->VK->Prop):Prop :=
 ∀ (pins:List (Addr×Obj)) (s:G7) (σ:St) (H:Hp) (xs:List V) (us:List JU) (Q:VK),Inv X pins σ H s->Vals xs us->r xs H Q ->
  wpAny (model X.prog X.w) X.A (call f us) (EP X pins σ Q) X.xe s
def GN (X:Cx) (r:V->Hp->(Bool->Hp->Prop)->Prop):Prop :=
 ∀ (pins:List (Addr×Obj)) (s:G7) (σ:St) (H:Hp) (x:V) (v:JU) (Q:Bool->Hp->Prop),Inv X pins σ H s->RelV x v->r x H Q ->
  wpAny (model X.prog X.w) X.A (truthy v) (TP X pins σ Q) X.xe s
def tOp (r:R2) (ta tb:TE):TE:=λ σ H Q=>ta σ H λ x H1=>tb σ H1 λ y H2=>r x y H2 Q
def tUn (r:V->Hp->VK->Prop) (ta:TE):TE:=λ σ H Q=>ta σ H λ x H1=>r x H1 Q
inductive rI (C:Int->Int->Prop) (g:Int->Int->V) (x:V) (y:V) (H:Hp) (Q:VK):Prop
 | mk (i:Int) (j:Int) (e_0:x=.int i) (e_1:y=.int j) (e_2:C i j) (e_3:Q (g i j) H):rI C g x y H Q
inductive rI0 (g:Int->Int->V) (x:V) (y:V) (H:Hp) (Q:VK):Prop
 | mk (i:Int) (j:Int) (e_0:x=.int i) (e_1:y=.int j) (e_2:Q (g i j) H):rI0 g x y H Q
def rU (g:Int->V):V->Hp->VK->Prop:=λ x H Q=>∃i,x=.int i/\Q (g i) H
section
variable {X:Cx} {a b c:Expr} {ta tb tc:TE} {pos:Pos}
theorem wv (ha:PE X a ta) (hb:PE X b tb) {pins:List (Addr×Obj)} {s:G7} {σ:St} {H:Hp} {R:V->V->Hp->Prop} (I:Inv X pins σ H s)
  (h:ta σ H λ x H1=>tb σ H1 λ y H2=>R x y H2) {Q:JU->G7->Prop} {f:JU->JU->Sem JU}
  (hf:∀v u s2 x y H2,Inv X pins σ H2 s2->RelV x v->RelV y u->R x y H2->wpAny (model X.prog X.w) X.A (f v u) Q X.xe s2) :
  wpAny (model X.prog X.w) X.A (eval a X.env) (λ v s₁=>wpAny (model X.prog X.w) X.A (eval b X.env) (λ u s₂=>wpAny (model X.prog X.w) X.A (f v u) Q X.xe s₂) X.xe s₁) X.xe s:=by
 refine thn (ha pins s σ H _ I h) λ v s1 ⟨x,H1,I1,r1,q1⟩=>?_;refine thn (hb pins s1 σ H1 _ I1 q1) λ u s2 ⟨y,H2,I2,r2,q2⟩=>?_;exact hf v u s2 x y H2 I2 r1 r2 q2
theorem aA {op:Operator} {r:R2} (ho:OpR X (binaryOp op) r) (ha:PE X a ta) (hb:PE X b tb):PE X (.BinOp a op b pos) (tOp r ta tb):=by intro pins s σ H Q I h;exact wpAny_BinOp (wv ha hb I h λ v u s2 x y H2 I2 rx ry q=>ho pins s2 σ H2 x y v u Q I2 rx ry q)
theorem mI {op:UnaryOp} {r:V->Hp->VK->Prop} (ho:UnR X (unaryOp op) r) (ha:PE X a ta):PE X (.UnaryOp op a pos) (tUn r ta):=by intro pins s σ H Q I h;exact UnaryOp_ (thn (ha pins s σ H _ I h) λ v s1 ⟨x,H1,I1,r1,q1⟩=>ho pins s1 σ H1 x v Q I1 r1 q1)
theorem opI {f:JU->JU->Sem JU} {C:Int->Int->Prop} {g:Int->Int->Int}
  (rule:∀ (i j:Int) (t u:Tok) (s:G7) (Q:JU->G7->Prop) (E:JU->G7->Prop),C i j->Q (.int (g i j) s.toks) { s with toks:=s.toks + 1 }->wpAny (model X.prog X.w) X.A (f (.int i t) (.int j u)) Q E s) :
  OpR X f (rI C λ i j=>.int (g i j)):=by
 intro pins s σ H x y v u Q I rx ry h;obtain ⟨i,j,rfl,rfl,hc,q⟩:=h;obtain ⟨t,rfl⟩:=rx;obtain ⟨t',rfl⟩:=ry;exact rule i j t t' s _ _ hc ⟨.int (g i j),H,I.tok _,⟨_,rfl⟩,q⟩
theorem Ct {f:JU->JU->Sem JU} {g:Int->Int->Int}
  (rule:∀ (i j:Int) (t u:Tok) (s:G7) (Q:JU->G7->Prop) (E:JU->G7->Prop),Q (.int (g i j) s.toks) { s with toks:=s.toks + 1 }->wpAny (model X.prog X.w) X.A (f (.int i t) (.int j u)) Q E s) :
  OpR X f (rI0 λ i j=>.int (g i j)):=by
 intro pins s σ H x y v u Q I rx ry h;obtain ⟨i,j,rfl,rfl,q⟩:=h;obtain ⟨t,rfl⟩:=rx;obtain ⟨t',rfl⟩:=ry;exact rule i j t t' s _ _ ⟨.int (g i j),H,I.tok _,⟨_,rfl⟩,q⟩
theorem sM {f:JU->JU->Sem JU} {g:Int->Int->Bool}
  (rule:∀ (i j:Int) (t u:Tok) (s:G7) (Q:JU->G7->Prop) (E:JU->G7->Prop),Q (.bool (g i j)) s->wpAny (model X.prog X.w) X.A (f (.int i t) (.int j u)) Q E s) :
  OpR X f (rI0 λ i j=>.bl (g i j)):=by
 intro pins s σ H x y v u Q I rx ry h;obtain ⟨i,j,rfl,rfl,q⟩:=h;obtain ⟨t,rfl⟩:=rx;obtain ⟨t',rfl⟩:=ry;exact rule i j t t' s _ _ ⟨.bl (g i j),H,I,rfl,q⟩
def GO (i j:Int):Prop:=0<=j/\j<=1000000/\i.natAbs < 2 ^ 64
def CMul (i j:Int):Prop:=(-(2 ^ 64) < i/\i < 2 ^ 64)\/(-(2 ^ 64) < j/\j < 2 ^ 64)
theorem CMul.ok {i j:Int} (h:CMul i j):IntMulOk i j:=by
 rcases h with ⟨h1,h2⟩ | ⟨h1,h2⟩
 ·exact .of_left (intBits_le_64 h1 h2)
 ·exact .of_right (intBits_le_64 h1 h2)
theorem aN:OpR X (binaryOp .Add) (rI0 λ i j=>.int (i + j)):=Ct λ _ _ _ _ _ _ _ q=>add_int q
theorem bd:OpR X (binaryOp .Sub) (rI0 λ i j=>.int (i - j)):=Ct λ _ _ _ _ _ _ _ q=>sub_int q
theorem fC:OpR X (binaryOp .Mult) (rI CMul λ i j=>.int (i * j)):=opI λ _ _ _ _ _ _ _ hc q=>mul_int q hc.ok
theorem gA:OpR X (binaryOp .Mod) (rI (λ _ j=>0 < j) λ i j=>.int (i % j)):=opI λ i j _ _ _ _ _ hc q=>by have h1:(0:Int) < j:=hc;exact mod_int' ⋯ (by rw [Int.fmod_eq_emod_of_nonneg i ⋯]; exact q)
theorem eG:OpR X (binaryOp .Pow) (rI GO λ i j=>.int (i ^ j.toNat)):=opI λ _ _ _ _ _ _ _ hc q=>pow_int_small hc.1 hc.2.1 hc.2.2 q
theorem unI {f:JU->Sem JU} {g:Int->Int}
  (rule:∀ (i:Int) (t:Tok) (s:G7) (Q:JU->G7->Prop) (E:JU->G7->Prop),Q (.int (g i) s.toks) { s with toks:=s.toks + 1 }->wpAny (model X.prog X.w) X.A (f (.int i t)) Q E s) :
  UnR X f (rU λ i=>.int (g i)):=by
 intro pins s σ H x v Q I rx h;obtain ⟨i,rfl,q⟩:=h;obtain ⟨t,rfl⟩:=rx;exact rule i t s _ _ ⟨.int (g i),H,I.tok _,⟨_,rfl⟩,q⟩
theorem iN:UnR X (unaryOp .USub) (rU λ i=>.int (-i)):=unI λ _ _ _ _ _ q=>neg_int q
end
def Cu:V->V->Bool
 | .non,.non=>true | .non,.int _=>true | .int _,.non=>true | .non,.bl _=>true | .bl _,.non=>true | .non,.str _=>true | .str _,.non=>true
 | .int _,.int _=>true | .bl _,.bl _=>true | .str _,.str _=>true | .byt _,.byt _=>true
 | .int _,.str _=>true | .str _,.int _=>true | .bl _,.str _=>true | .str _,.bl _=>true
 | _,_=>false
def rEq:R2:=λ x y H Q=>Cu x y=true/\Q (.bl (decide (x=y))) H
def rNe:R2:=λ x y H Q=>Cu x y=true/\Q (.bl (!decide (x=y))) H
theorem iO {i j:Int}:decide (V.int i=V.int j)=(i == j):=by rw [Bool.eq_iff_iff];simp
theorem qd {i j:Bool}:decide (V.bl i=V.bl j)=(i == j):=by rw [Bool.eq_iff_iff];simp
theorem mJ {i j:Str}:decide (V.str i=V.str j)=(i == j):=by rw [Bool.eq_iff_iff];simp
theorem mK {i j:Array UInt8}:decide (V.byt i=V.byt j)=(i.toList == j.toList):=by rw [Bool.eq_iff_iff];cases i;cases j;simp
section
variable {X:Cx} {a b c:Expr} {ta tb tc:TE} {pos:Pos}
theorem aL {pins:List (Addr×Obj)} {σ:St} {H:Hp} {s:G7} {Q:VK} {k k':Bool} (I:Inv X pins σ H s) (q:Q (.bl k) H) (e:k=k'):EP X pins σ Q (.bool k') s:=by subst e;exact ⟨.bl k,H,I,Y,q⟩
theorem bL:OpR X (compareOp .Eq) rEq:=by
 intro pins s σ H x y v u Q I rx ry h;obtain ⟨hs,q⟩:=h;cases x with
 | non =>
  cases rx;cases y with
  | non=>cases ry; exact PySem.EqNone.eq_none_none (aL I q (by simp))
  | bl j=>cases ry; exact PySem.EqNone.eq_none_bool (aL I q (by simp))
  | int j=>obtain ⟨t',rfl⟩:=ry; exact PySem.EqNone.eq_none_int (aL I q (by simp))
  | str j=>obtain ⟨t',rfl⟩:=ry; exact PySem.EqNone.eq_none_str (aL I q (by simp))
  | _=>exact absurd (show false=true from hs) B5
 | bl i =>
  cases rx;cases y with
  | non=>cases ry; exact PySem.EqNone.eq_bool_none (aL I q (by simp))
  | bl j=>cases ry; exact eq_bool (aL I q qd)
  | str j=>obtain ⟨t',rfl⟩:=ry; exact PySem.EqMixed.eq_bool_str (aL I q (by simp))
  | _=>exact absurd (show false=true from hs) B5
 | int i =>
  obtain ⟨t,rfl⟩:=rx;cases y with
  | non=>cases ry; exact PySem.EqNone.eq_int_none (aL I q (by simp))
  | int j=>obtain ⟨t',rfl⟩:=ry; exact eq_int (aL I q iO)
  | str j=>obtain ⟨t',rfl⟩:=ry; exact PySem.EqMixed.eq_int_str (aL I q (by simp))
  | _=>exact absurd (show false=true from hs) B5
 | str i =>
  obtain ⟨t,rfl⟩:=rx;cases y with
  | non=>cases ry; exact PySem.EqNone.eq_str_none (aL I q (by simp))
  | bl j=>cases ry; exact PySem.EqMixed.eq_str_bool (aL I q (by simp))
  | int j=>obtain ⟨t',rfl⟩:=ry; exact PySem.EqMixed.eq_str_int (aL I q (by simp))
  | str j=>obtain ⟨t',rfl⟩:=ry; exact eq_str (aL I q mJ)
  | _=>exact absurd (show false=true from hs) B5
 | byt i =>
  obtain ⟨t,rfl⟩:=rx;cases y with
  | byt j=>obtain ⟨t',rfl⟩:=ry; exact PySem.W.eq_bytes (aL I q mK)
  | _=>exact absurd (show false=true from hs) B5
 | _=>cases y <;> exact absurd (show false=true from hs) B5
theorem gB:OpR X (compareOp .NotEq) rNe:=by
 intro pins s σ H x y v u Q I rx ry h;obtain ⟨hs,q⟩:=h;cases x with
 | non =>
  cases rx;cases y with
  | non=>cases ry; exact PySem.EqNone.ne_none_none (aL I q (by simp))
  | bl j=>cases ry; exact PySem.EqNone.ne_none_bool (aL I q (by simp))
  | int j=>obtain ⟨t',rfl⟩:=ry; exact PySem.EqNone.ne_none_int (aL I q (by simp))
  | str j=>obtain ⟨t',rfl⟩:=ry; exact PySem.EqNone.ne_none_str (aL I q (by simp))
  | _=>exact absurd (show false=true from hs) B5
 | bl i =>
  cases rx;cases y with
  | non=>cases ry; exact PySem.EqNone.ne_bool_none (aL I q (by simp))
  | bl j=>cases ry; exact ne_bool (aL I q (congrArg not qd))
  | str j=>obtain ⟨t',rfl⟩:=ry; exact PySem.EqMixed.ne_bool_str (aL I q (by simp))
  | _=>exact absurd (show false=true from hs) B5
 | int i =>
  obtain ⟨t,rfl⟩:=rx;cases y with
  | non=>cases ry; exact PySem.EqNone.ne_int_none (aL I q (by simp))
  | int j=>obtain ⟨t',rfl⟩:=ry; exact ne_int (aL I q (congrArg not iO))
  | str j=>obtain ⟨t',rfl⟩:=ry; exact PySem.EqMixed.ne_int_str (aL I q (by simp))
  | _=>exact absurd (show false=true from hs) B5
 | str i =>
  obtain ⟨t,rfl⟩:=rx;cases y with
  | non=>cases ry; exact PySem.EqNone.ne_str_none (aL I q (by simp))
  | bl j=>cases ry; exact PySem.EqMixed.ne_str_bool (aL I q (by simp))
  | int j=>obtain ⟨t',rfl⟩:=ry; exact PySem.EqMixed.ne_str_int (aL I q (by simp))
  | str j=>obtain ⟨t',rfl⟩:=ry; exact ne_str (aL I q (congrArg not mJ))
  | _=>exact absurd (show false=true from hs) B5
 | byt i =>
  obtain ⟨t,rfl⟩:=rx;cases y with
  | byt j=>obtain ⟨t',rfl⟩:=ry; exact PySem.W.ne_bytes (aL I q (congrArg not mK))
  | _=>exact absurd (show false=true from hs) B5
 | _=>cases y <;> exact absurd (show false=true from hs) B5
theorem qe:OpR X (compareOp .Lt) (rI0 λ i j=>.bl (decide (i < j))):=sM λ _ _ _ _ _ _ _ q=>lt_int q
theorem ic:OpR X (compareOp .LtE) (rI0 λ i j=>.bl (decide (i<=j))):=sM λ _ _ _ _ _ _ _ q=>le_int q
theorem vN:OpR X (compareOp .Gt) (rI0 λ i j=>.bl (decide (j < i))):=sM λ _ _ _ _ _ _ _ q=>gt_int q
theorem qg:OpR X (compareOp .GtE) (rI0 λ i j=>.bl (decide (j<=i))):=sM λ _ _ _ _ _ _ _ q=>ge_int q
theorem aG (b:Expr) {op:CmpOp} (h:op≠.In:=by decide) (h2:op≠.NotIn:=by decide):behindInMarks op b=false:=by
 have e1:(op == CmpOp.In)=false:=by cases op <;> first | rfl | exact absurd rfl h
 have e2:(op == CmpOp.NotIn)=false:=by cases op <;> first | rfl | exact absurd rfl h2
 cases b <;> simp [behindInMarks,e1,e2]
theorem bI {op:CmpOp} {r:R2} (ho:OpR X (compareOp op) r) (ha:PE X a ta) (hb:PE X b tb) (hm:behindInMarks op b=false):PE X (.Compare a [op] [b] pos) (tOp r ta tb):=by intro pins s σ H Q I h;exact wpAny_Compare1 (wv ha hb I h λ v u s2 x y H2 I2 rx ry q=>ho pins s2 σ H2 x y v u Q I2 rx ry q) hm
def vO (t:TE):TT:=λ σ H Q=>t σ H λ x H'=>IsB x λ k=>Q k H'
theorem aH {op:CmpOp} {r:R2} (ho:OpR X (compareOp op) r) (ha:PE X a ta) (hb:PE X b tb) (hm:behindInMarks op b=false):PT X (.Compare a [op] [b] pos) (vO (tOp r ta tb)):=by
 intro pins s σ H Q I h;refine wpAny_isTrue_Compare1 (thn (ha pins s σ H _ I h) λ v s1 ⟨x,H1,I1,r1,q1⟩=>thn (hb pins s1 σ H1 _ I1 q1) λ u s2 ⟨y,H2,I2,r2,q2⟩ =>
  thn (ho pins s2 σ H2 x y v u _ I2 r1 r2 q2) λ c s3 ⟨z,H3,I3,r3,k,e,q3⟩=>?_) hm
 subst e;cases r3;exact G3 ⟨H3,I3,q3⟩
def ww (r r':R2) (ta tb tc:TE):TE:=λ σ H Q=>ta σ H λ x H1=>tb σ H1 λ y H2=>r x y H2 λ z H3=>∃k,z=.bl k /\
 (if k=true then tc σ H3 λ w' H4=>r' y w' H4 Q else Q (.bl false) H3)
theorem qh {op op':CmpOp} {r r':R2} (ho:OpR X (compareOp op) r) (ho':OpR X (compareOp op') r') (ha:PE X a ta) (hb:PE X b tb) (hc:PE X c tc)
  (hm:lastMarks [op,op'] [b,c]=false:=by with_unfolding_all rfl):PT X (.Compare a [op,op'] [b,c] pos) (vO (ww r r' ta tb tc)):=by
 intro pins s σ H Q I h;refine isTrue_chain (thn (ha pins s σ H _ I h) λ v s1 ⟨x,H1,I1,r1,q1⟩=>test_link (thn (hb pins s1 σ H1 _ I1 q1) λ u s2 ⟨y,H2,I2,r2,q2⟩ =>
  thn (ho pins s2 σ H2 x y v u _ I2 r1 r2 q2) λ d s3 ⟨z,H3,I3,r3,k,e,q3⟩=>?_)) hm
 subst e;cases r3;refine G3 ?_;cases k with
 | false =>
  obtain ⟨k',e',q'⟩:=q3;cases e';exact ite_ff ⟨H3,I3,q'⟩
 | true =>
  refine ite_tt (test_last (thn (hc pins s3 σ H3 _ I3 q3) λ w' s4 ⟨z',H4,I4,r4,q4⟩=>thn (ho' pins s4 σ H4 y z' u w' _ I4 r2 r4 q4) λ d' s5 ⟨z2,H5,I5,r5,k2,e2,q5⟩=>?_));subst e2;cases r5;exact G3 ⟨H5,I5,q5⟩
def Cv (K:C8) (x:V) (H:Hp) (k:Bool):Prop :=
 match x with
 | .non=>k=false
 | .bl b=>k=b
 | .int i=>k=(i != 0)
 | .str y=>y.length<=sizeLine/\k=((y.length:Int) != 0)
 | .byt y=>y.size<=sizeLine/\k=((y.size:Int) != 0)
 | .ref p=>(∃xs,SqL K H p xs/\k=!xs.isEmpty)\/(∃xs,SqT K H p xs/\k=!xs.isEmpty)\/∃kvs,H p=some (.dK kvs)/\k=!kvs.isEmpty
 | _=>False
theorem kB {κ:Type} {kvs:List (κ×V)} {vs:List (κ×JU)} (r:KV kvs vs):(!vs.isEmpty)=!kvs.isEmpty:=by cases r <;> rfl
theorem gC {xs:List V} {its:List JU} (r:Vals xs its):(!its.toArray.isEmpty)=!xs.isEmpty:=by cases r <;> simp
theorem eH:(sizeLine:Nat) < 2 ^ 63:=by rw [sizeLine_eq]; decide
theorem wx:GN X (λ x H Q=>∃k,Cv X.K x H k/\Q k H):=by
 intro pins s σ H x v Q I rx h;obtain ⟨k,e,q⟩:=h;have hl:=eH;have hs:sizeLine=16777216:=sizeLine_eq;cases x with
 | non =>
  cases rx;have e':k=false:=e;subst e';exact truthy_none ⟨H,I,q⟩
 | bl b =>
  cases rx;have e':k=b:=e;subst e';exact G3 ⟨H,I,q⟩
 | int i =>
  obtain ⟨t,rfl⟩:=rx;have e':k=(i != 0):=e;subst e';exact PySem.P.truthy_int ⟨H,I,q⟩
 | str y =>
  obtain ⟨t,rfl⟩:=rx;obtain ⟨hy,e'⟩:y.length<=sizeLine/\k=((y.length:Int) != 0):=e;subst e';exact PySem.P.truthy_str ⋯ ⟨H,I.tok _,q⟩
 | byt y =>
  obtain ⟨t,rfl⟩:=rx;obtain ⟨hy,e'⟩:y.size<=sizeLine/\k=((y.size:Int) != 0):=e;subst e';exact PySem.W.truthy_bytes ⋯ ⟨H,I.tok _,q⟩
 | ref p =>
  cases rx;have e':(∃xs,SqL X.K H p xs/\k=!xs.isEmpty)\/(∃xs,SqT X.K H p xs/\k=!xs.isEmpty)\/∃kvs,H p=some (.dK kvs)/\k=!kvs.isEmpty:=e;rcases e' with ⟨xs,hx,e'⟩ | ⟨xs,hx,e'⟩ | ⟨kvs,hx,e'⟩
  ·subst e';obtain ⟨its,r,pl,hz⟩:=I.list hx;have hlen:=r.length;exact wpAny_truthy_list pl.isList (by simp only [List.size_toArray]; lia) ⟨H,I.tok _,by rw [gC r]; exact q⟩
  ·subst e';obtain ⟨its,r,pl,hz⟩:=I.tuple hx;have hlen:=r.length;exact truthy_tuple pl (by simp only [List.size_toArray]; lia) ⟨H,I.tok _,by rw [gC r]; exact q⟩
  ·subst e';obtain ⟨hz,hS,vs,r,m⟩:kvs.length<=sizeLine/\(p == sysModules)=false/\∃vs,KV kvs vs/\s.heap.DictOf (iG X.prog X.w) p vs:=I.hok p _ hx;have hlen:kvs.length=vs.length:=E5 r;exact wpAny_truthy_dict hS m ⋯ ⟨H,I.tok _,by rw [kB r]; exact q⟩
 | _=>exact (show False from e).elim
theorem gD (ha:PE X a ta) (he:∀aU,isTrue a X.env aU=(do let v<-aU; standAt a.pos; holding [v] (truthy v))) :
  PT X a (λ σ H Q=>ta σ H λ x H'=>∃k,Cv X.K x H' k/\Q k H'):=by
 intro pins s σ H Q I h;exact isTrue_plain (thn (ha pins s σ H _ I h) λ v s1 ⟨x,H1,I1,r1,q1⟩=>wx pins s1 σ H1 x v Q I1 r1 q1) (he _)
theorem eC {x:V} {us:List JU} (r:Vals [x] us):∃u,us=[u]/\RelV x u:=by
 cases r with
 | cons r1 r2=>cases r2; exact ⟨_,Y,r1⟩
theorem vP {x y:V} {us:List JU} (r:Vals [x,y] us):∃u w',us=[u,w']/\RelV x u/\RelV y w':=by
 cases r with
 | cons r1 r2 =>
  cases r2 with
  | cons r3 r4=>cases r4; exact ⟨_,_,Y,r1,r3⟩
theorem jq:cG X (.builtin "abs") (λ xs H Q=>∃i,xs=[.int i]/\Q (.int (if i < 0 then -i else i)) H):=by intro pins s σ H xs us Q I r h;obtain ⟨i,rfl,q⟩:=h;obtain ⟨u,rfl,t,rfl⟩:=eC r;exact call_abs_int λ u tk=>⟨.int (if i < 0 then -i else i),H,I.tok _,⟨_,Y⟩,q⟩
theorem ie (hc:X.calm=true):cG X (.builtin "max") (λ xs H Q=>∃i j,xs=[.int i,.int j]/\Q (.int (if j > i then j else i)) H):=by
 intro pins s σ H xs us Q I r h;obtain ⟨i,j,rfl,q⟩:=h;obtain ⟨u,w',rfl,⟨t,rfl⟩,⟨t',rfl⟩⟩:=vP r;refine max_two_ints (I.ok.hd hc) λ h' tk k=>⟨_,H,I.kept k,?_,q⟩
 by_cases hj:j > i
 ·rw [if_pos hj,if_pos hj]; exact ⟨_,Y⟩
 ·rw [if_neg hj,if_neg hj]; exact ⟨_,Y⟩
theorem dP (hc:X.calm=true):cG X (.builtin "min") (λ xs H Q=>∃i j,xs=[.int i,.int j]/\Q (.int (if j < i then j else i)) H):=by
 intro pins s σ H xs us Q I r h;obtain ⟨i,j,rfl,q⟩:=h;obtain ⟨u,w',rfl,⟨t,rfl⟩,⟨t',rfl⟩⟩:=vP r;refine min_two_ints (I.ok.hd hc) λ h' tk k=>⟨_,H,I.kept k,?_,q⟩
 by_cases hj:j < i
 ·rw [if_pos hj,if_pos hj]; exact ⟨_,Y⟩
 ·rw [if_neg hj,if_neg hj]; exact ⟨_,Y⟩
theorem fD:cG X (.type "int") (λ xs H Q=>(∃i,xs=[.int i]/\Q (.int i) H)\/∃k,xs=[.bl k]/\Q (.int (if k then 1 else 0)) H):=by
 intro pins s σ H xs us Q I r h;rcases h with ⟨i,rfl,q⟩ | ⟨k,rfl,q⟩
 ·obtain ⟨u,rfl,t,rfl⟩:=eC r;exact call_int_int ⟨.int i,H,I,⟨_,rfl⟩,q⟩
 ·obtain ⟨u,rfl,r1⟩:=eC r;cases r1;exact call_int_bool ⟨.int (if k then 1 else 0),H,I.tok _,⟨_,rfl⟩,q⟩
end
structure ObjM (h:Heap) (x dx C:Addr) (mA:Str->Option Value):Prop where
 obj:h.get? x=some (PySem.W.instObj C dx)
 ns:h.Ns1 dx mA
 ne:dx≠x
theorem oh {h:Heap} {dx:Addr} {mA:Str->Option JU} (n:h.Ns1 dx mA):∃od,h.get? dx=some od/\∀name,PySem.W.lookIn name od=some (mA name):=by
 obtain ⟨o,es,ep,ho,hd,hk,_,hm⟩:=n;refine ⟨o,ho,λ name=>?_⟩;have e:=hm name;unfold nsFind findBy at e;rw [<- Array.find?_toList] at e;unfold PySem.W.lookIn;rw [hd];dsimp only
 split
 ·rename_i y q
  rw [q] at e;exact congrArg some e
 ·rename_i q
  rw [q] at e;have a:es.toList.any (·.refKey)=false:=by rw [List.any_eq_false];intro y hy;obtain ⟨z,t,hkey⟩:=hk y (Array.mem_toList_iff.mp hy);simp [DictEntry.refKey,hkey]
  have a':¬ es.toList.any (·.refKey)=true:=by rw [a]; exact B5
  rw [if_neg a'];exact congrArg some e
theorem ObjM.look {h:Heap} {x dx C:Addr} {mA:Str->Option JU} (I:ObjM h x dx C mA):∃od,PySem.W.InstAt h x (PySem.W.instObj C dx) C (some od)/\∀name,PySem.W.lookIn name od=some (mA name) :=
 let ⟨od,ho,hl⟩:=oh I.ns
 ⟨od,⟨I.obj,rfl,rfl,ho⟩,hl⟩
section
variable {prog:G8} {w:JT} {A:Around} {E:JU->G7->Prop} {s:G7} {K:C8} {x dx C f:Addr} {mA:Str->Option JU} {name:Str} {v:JU}
theorem sN {expr:Bool} {Q:JU->G7->Prop} (X:K.In s.heap) (I:ObjM s.heap x dx C mA) (hg:PySem.W.plainGet K C name=true) (hh:PySem.W.hasDictIn K C=true)
  (ha:PySem.W.findIn K (.ref C) name=some none) (hv:mA name=some v) (hv':PySem.W.handedIn v=true) (h:Q v { s with toks:=s.toks + 1 }) :
  wpAny (model prog w) A (getAttr (.ref x) name expr) Q E s:=by
 obtain ⟨od,J,hl⟩:=I.look;exact PySem.W.get_value X J (PySem.W.plainGet_of hg).1 (PySem.W.findObj_own hh ha rfl (by rw [hl,hv])) hv' h
theorem qi {pl:Sem Bool} {Q:JU×List JU->G7->Prop} (X:K.In s.heap) (I:ObjM s.heap x dx C mA) (hg:PySem.W.plainGet K C name=true)
  (hf:PySem.W.findIn K (.ref C) name=some (↑f)) (ht:PySem.W.isFn K (.ref f)=true) (hv:mA name=none) (h:Q (.ref f,[.ref x]) s) :
  wpAny (model prog w) A (getMethod (.ref x) name pl) Q E s:=by
 obtain ⟨od,J,hl⟩:=I.look;exact PySem.W.method_fn X J (PySem.W.plainGet_of hg).1 (PySem.W.plainGet_of hg).2 hf (C7.mp ht) (by show (PySem.W.lookIn name od).map (·.isSome)=some false; rw [hl,hv]; rfl) h
theorem sO {ns:List Str} {Q:Unit->G7->Prop} (X:K.In s.heap) (I:ObjM s.heap x dx C mA)
  (hs:PySem.W.findIn K (.ref C) "__setattr__" = some (some (.builtin "object.__setattr__"))) (hp:PySem.W.plainOver K C=true) (ht:PySem.W.takerIn K C name=some none) (hh:PySem.W.hasDictIn K C=true)
  (hw:PySem.Within mA ns) (hsz:ns.length<=sizeLine)
  (h:∀h',ObjM h' x dx C (λ y=>if y=name then some v else mA y)->Heap.SameBut dx s.heap h'->Q () { s with heap:=h',toks:=s.toks + 2 }) :
  wpAny (model prog w) A (setAttr (.ref x) name v) Q E s:=by
 obtain ⟨od,J,hl⟩:=I.look;refine PySem.W.set_plain X J hs (PySem.W.osa_open (s:={ s with toks:=s.toks + 1 }) (r:=none) X J hp ht λ b=>?_);obtain ⟨cd,hc,hd'⟩:=PySem.W.any_some hh;have hx:s.heap.get? x=some ⟨.ref C,some dx,.plain,#[]⟩:=I.obj;refine A0 (A3 (A0 (A0 (wpAny_loadPart hx (A0 (PySem.W.Looks.here (s:={ s with toks:=s.toks + 1 }) (PySem.W.looks_clsIn X hc) ?_))))));rw [hd'];refine A3 (a:=some dx) (A0 (A3 (A0 ?_)));refine wpAny_nsSet1 (s:={ s with toks:=s.toks + 1 }) I.ns λ h' hn2 hs2=>?_;obtain ⟨oD,esD,epD,hoD,hdD,hcD⟩:=hn2.count (PySem.Within.cons name v hw);refine A0 (wpAny_lookBehind hoD (by rw [hdD]; exact pastItsLine_dict (C9 hcD (by rw [List.length_cons]; lia))) ?_);exact A3 (h _ ⟨(hs2.2 _ (Ne.symm I.ne)).trans I.obj,hn2,I.ne⟩ hs2)
theorem jr {R:Result->G7->Prop} {vs:List JU} {kw:List (Str×JU)} (X:K.In s.heap) (hm:PySem.W.makesIn K C=true)
  (hi:PySem.W.findIn K (.ref C) "__init__" = some (↑f)) (hf:PySem.W.typeIn K (.ref f)=some (.type "function"))
  (h:codeAny (model prog w) (A.under (.builtin "type.__call__" ⟨.ref C :: vs,kw⟩)) (.call (.ref f) ⟨.ref (s.heap.objs.size + 1) :: vs,kw⟩) (PySem.W.InitBack (s.heap.objs.size + 1) R)
   { s with heap:=(s.heap.push PySem.W.emptyDict).push (PySem.W.instObj C s.heap.objs.size) }) :
  codeAny (model prog w) A (.call (.ref C) ⟨vs,kw⟩) R s:=by
 obtain ⟨hh,g,d,t,os⟩:=s;exact PySem.W.make_core (PySem.W.makes_of X hm) (PySem.W.looks_findIn X hi) (λ self=>PySem.W.bind_fn X self hf) (.inl rfl) h
end
def bp (f:Str) (v:V):List (Str×V)->List (Str×V)
 | []=>[(f,v)]
 | (g,x) :: r=>if g=f then (g,v) :: r else (g,x) :: bp f v r
theorem aX (f g:Str) (v:V):∀fs:List (Str×V),(bp f v fs).lookup g=if g=f then some v else fs.lookup g
 | []=>by
  show List.lookup g [(f,v)]=_
  by_cases h:g=f
  ·have hb:(g == f)=true:=C7.mpr h;simp only [List.lookup,hb,if_pos h]
  ·have hb:(g == f)=false:=beq_eq_false_iff_ne.mpr h;simp only [List.lookup,hb,if_neg h]
 | (k,x) :: r=>by
  have ih:=aX f g v r;rw [show bp f v ((k,x) :: r)=(if k=f then (k,v) :: r else (k,x) :: bp f v r) from rfl]
  by_cases hk:k=f
  ·rw [if_pos hk]
   by_cases h:g=k
   ·have hb:(g == k)=true:=C7.mpr h;simp only [List.lookup,hb,if_pos (h.trans hk)]
   ·have hb:(g == k)=false:=beq_eq_false_iff_ne.mpr h;simp only [List.lookup,hb,if_neg (λ e:g=f=>h (e.trans hk.symm))]
  ·rw [if_neg hk]
   by_cases h:g=k
   ·have hb:(g == k)=true:=C7.mpr h;simp only [List.lookup,hb,if_neg (λ e:g=f=>hk (h.symm.trans e))]
   ·have hb:(g == k)=false:=beq_eq_false_iff_ne.mpr h;simp only [List.lookup,hb];exact ih
theorem fE (f:Str) (v:V):∀fs:List (Str×V),f∈(bp f v fs).map (·.1)/\∀g,g∈fs.map (·.1)->g∈(bp f v fs).map (·.1)
 | []=>⟨by simp [bp],λ g h=>by simp at h⟩
 | (k,x) :: r=>by
  obtain ⟨i1,i2⟩:=fE f v r;rw [show bp f v ((k,x) :: r)=(if k=f then (k,v) :: r else (k,x) :: bp f v r) from rfl]
  by_cases hk:k=f
  ·rw [if_pos hk];subst hk;exact ⟨by simp,λ g h=>by simpa using h⟩
  ·rw [if_neg hk];refine ⟨?_,λ g h=>?_⟩
   ·rw [List.map_cons];exact B7 _ i1
   ·rw [List.map_cons] at h ⊢;rcases List.mem_cons.mp h with e | e
    ·exact List.mem_cons.mpr (.inl e)
    ·exact B7 _ (i2 g e)
theorem bG (f:Str) (v:V):∀fs:List (Str×V),(bp f v fs).length<=fs.length + 1
 | []=>by simp [bp]
 | (k,x) :: r=>by
  have ih:=bG f v r;rw [show bp f v ((k,x) :: r)=(if k=f then (k,v) :: r else (k,x) :: bp f v r) from rfl]
  by_cases hk:k=f
  ·rw [if_pos hk,List.length_cons,List.length_cons]; lia
  ·rw [if_neg hk,List.length_cons,List.length_cons]; lia
theorem RelO.some_of {v:V} {o:Option JU} (r:RelO (some v) o):∃u,o=some u/\RelV v u:=by
 cases o with
 | none=>exact (show False from r).elim
 | some u=>exact ⟨u,Y,r⟩
theorem RelO.none_of {o:Option JU} (r:RelO none o):o=none:=by
 cases o with
 | none=>rfl
 | some u=>exact (show False from r).elim
theorem oi {v:V} {u:JU} (r:RelV v u):PySem.W.handedIn u=true:=by
 cases v with
 | non=>cases (show u=Value.none from r); rfl
 | bl b=>cases (show u=Value.bool b from r); rfl
 | int i=>obtain ⟨t,e⟩:=(show ∃t,u=Value.int i t from r); cases e; rfl
 | str x=>obtain ⟨t,e⟩:=(show ∃t,u=Value.str x t from r); cases e; rfl
 | byt b=>obtain ⟨t,e⟩:=(show ∃t,u=Value.bytes b t from r); cases e; rfl
 | flt b=>obtain ⟨t,e⟩:=(show ∃t,u=Value.float b t from r); cases e; rfl
 | ref a=>cases (show u=Value.ref a from r); rfl
 | ty n=>cases (show u=Value.type n from r); rfl
section
variable {P:G8} {w:JT} {H H':Hp} {h h':Heap} {a C dx:Addr} {fs fs':List (Str×V)}
theorem eP (hok:HOk P w H h) (e:H a=some (.ins C dx fs)):∃mA,ObjM h a dx C mA/\(∀f,RelO (fs.lookup f) (mA f))/\PySem.Within mA (fs.map (·.1))/\fs.length<=1000/\H dx=some (.own a):=by
 obtain ⟨d,z,ne,ob,mA,n,r,q⟩:=(show ObjOk P w H h a (.ins C dx fs) from hok a _ e)
 exact ⟨mA,⟨ob,n,ne⟩,r,q,z,d⟩
end
structure Cls (K:C8) (C:Addr):Prop where
 pg:PySem.W.plainGet K C Str.empty=true
 hd:PySem.W.hasDictIn K C=true
 po:PySem.W.plainOver K C=true
 sa:PySem.W.findIn K (.ref C) "__setattr__" = some (some (.builtin "object.__setattr__"))
theorem Cls.get {K:C8} {C:Addr} (c:Cls K C) (f:Str):PySem.W.plainGet K C f=true:=c.pg
def NoAttr (K:C8) (C:Addr) (f:Str):Prop:=PySem.W.findIn K (.ref C) f=some none
theorem NoAttr.taker {K:C8} {C:Addr} {f:Str} (n:NoAttr K C f):PySem.W.takerIn K C f=some none:=by
 unfold PySem.W.takerIn;rw [show PySem.W.findIn K (.ref C) f=some none from n]
 rfl
structure Con (K:C8) (C:Addr) (f:Str) (v:V) (u:Value):Prop where
 at_:PySem.W.findIn K (.ref C) f=some (some u)
 rel:RelV v u
 get:PySem.W.specialIn K u "__get__" = some none
 cp:PySem.W.copiedNames.contains f=false
structure Meth (K:C8) (C:Addr) (m:Str) (f:Addr):Prop where
 at_:PySem.W.findIn K (.ref C) m=some (↑f)
 fn:PySem.W.isFn K (.ref f)=true
 kp:PySem.W.keepIn K (.ref f)=true
section
variable {X:Cx} {pins:List (Addr×Obj)} {σ:St} {H:Hp} {s:G7} {a C dx:Addr} {fs:List (Str×V)} {f:Str} {v:V} {A:Around} {E:JU->G7->Prop}
theorem kC {b:Bool} {Q:JU->G7->Prop} (I:Inv X pins σ H s) (e:H a=some (.ins C dx fs)) (c:Cls X.K C) (n:NoAttr X.K C f) (l:fs.lookup f=some v)
  (h:∀u s',Inv X pins σ H s'->RelV v u->Q u s'):wpAny (model X.prog X.w) A (getAttr (.ref a) f b) Q E s:=by
 obtain ⟨mA,O,r,_,_,_⟩:=eP I.hok e;obtain ⟨u,hu,ru⟩:=RelO.some_of (v:=v) (o:=mA f) (by rw [<- l]; exact r f);exact sN I.kIn O (c.get f) c.hd n hu (oi ru) (h u _ (I.tok _) ru)
theorem eI {m:Str} {g:Addr} {pl:Sem Bool} {Q:JU×List JU->G7->Prop} (I:Inv X pins σ H s) (e:H a=some (.ins C dx fs)) (c:Cls X.K C) (k:Meth X.K C m g) (l:fs.lookup m=none)
  (h:Q (.ref g,[.ref a]) s):wpAny (model X.prog X.w) A (getMethod (.ref a) m pl) Q E s:=by
 obtain ⟨mA,O,r,_,_,_⟩:=eP I.hok e;have hn:mA m=none:=RelO.none_of (by rw [<- l]; exact r m);exact qi I.kIn O (c.get m) k.at_ k.fn hn h
theorem kD {y:V} {u:JU} {Q:Unit->G7->Prop} (I:Inv X pins σ H s) (e:H a=some (.ins C dx fs)) (c:Cls X.K C) (n:NoAttr X.K C f) (hl:fs.length < 1000) (ry:RelV y u)
  (h:∀s',Inv X pins σ (upd H a (.ins C dx (bp f y fs))) s'->Q () s'):wpAny (model X.prog X.w) A (setAttr (.ref a) f u) Q E s:=by
 obtain ⟨mA,O,r,wi,_,ho⟩:=eP I.hok e;have hz:(fs.map (·.1)).length<=sizeLine:=by rw [List.length_map,sizeLine_eq]; lia
 refine sO I.kIn O c.sa c.po n.taker c.hd wi hz λ h' O' sb=>h _ ?_;have hd:∃o,h'.get? dx=some o:=let ⟨o,_,_,e',_⟩:=O'.ns; ⟨o,e'⟩
 refine I.write (x:=a) (e:=dx) (by rw [e]; exact True.intro) (.inr ho) (λ b q hb z=>(sb.2 b hb).trans z) hd ?_;refine ⟨by rw [au O.ne]; exact ho,?_,O.ne,O'.obj,_,O'.ns,λ g=>?_,λ g hg=>?_⟩
 ·have:=bG f y fs; lia
 ·show RelO ((bp f y fs).lookup g) (if g=f then some u else mA g);rw [aX]
  by_cases q:g=f
  ·rw [if_pos q,if_pos q]; exact ry
  ·rw [if_neg q,if_neg q]; exact r g
 ·by_cases q:g=f
  ·rw [q]; exact (fE f y fs).1
  ·refine (fE f y fs).2 g (wi g λ z=>hg ?_);show (if g=f then some u else mA g)=none;rw [if_neg q]; exact z
theorem Inv.made (I:Inv X pins σ H s):Inv X pins σ (upd (upd H s.heap.objs.size (.own (s.heap.objs.size + 1))) (s.heap.objs.size + 1) (.ins C s.heap.objs.size []))
  { s with heap:=(s.heap.push PySem.W.emptyDict).push (PySem.W.instObj C s.heap.objs.size) }:=by
 have e1:(s.heap.push PySem.W.emptyDict).get? s.heap.objs.size=some PySem.W.emptyDict:=B1 s.heap rfl;have e2:((s.heap.push PySem.W.emptyDict).push (PySem.W.instObj C s.heap.objs.size)).get? (s.heap.objs.size + 1)=some (PySem.W.instObj C s.heap.objs.size):=by have:=B1 (s.heap.push PySem.W.emptyDict) (o:=PySem.W.instObj C s.heap.objs.size) rfl;rwa [Heap.size_push] at this
 have e3:(s.heap.push PySem.W.emptyDict).Ns s.heap.objs.size (λ _=>none):=⟨PySem.W.emptyDict,#[],_,e1,Y,(λ e he=>absurd he (by simp)),λ _=>rfl⟩
 have I1:=I.laid (a:=s.heap.objs.size) (o:=.own (s.heap.objs.size + 1)) (h':=s.heap.push PySem.W.emptyDict) (t':=s.toks) (λ b u q=>B0 _ q) (B6 _) ⟨_,e1⟩;refine I1.laid (a:=s.heap.objs.size + 1) (o:=.ins C s.heap.objs.size []) (t':=s.toks) (λ b u q=>B0 _ q) (Nat.le_of_eq (Heap.size_push _ _)) ?_;have ne:s.heap.objs.size≠s.heap.objs.size + 1:=C2 (G1 _);refine ⟨by rw [au ne,af],G0 _,ne,e2,λ _=>none,(Heap.Ns1.of_empty e3).at λ o q=>B0 _ q,λ _=>True.intro,λ y hy=>absurd rfl hy⟩
theorem sP {prog:G8} {w:JT} {env:Env} {e:Expr} {f:Str} {pos:Pos} {s:G7} {Q:JU->G7->Prop} (hb:attributeBase e f env (eval e env)=eval e env)
  (h:wpAny (model prog w) A (eval e env) (λ o s₁=>wpAny (model prog w) A (getAttr o f true) Q E s₁) E s):wpAny (model prog w) A (eval (.Attribute e f pos) env) Q E s :=
 Attribute_any_ h (by rw [arm_eval_Attribute,hb])
end
def Cw (K:C8) (ta:TE) (f:Str):TE:=λ σ H Q=>ta σ H λ x H1=>∃a C dx fs v,x=.ref a/\H1 a=some (.ins C dx fs)/\Cls K C/\NoAttr K C f/\fs.lookup f=some v/\Q v H1
def Cy (K:C8) (ta tv:TE) (f:Str):TS:=λ D σ H=>tv σ H λ y H1=>ta σ H1 λ x H2=>∃a C dx fs,x=.ref a/\H2 a=some (.ins C dx fs)/\Cls K C/\NoAttr K C f/\fs.length < 1000 /\
 D.nx σ (upd H2 a (.ins C dx (bp f y fs)))
section
variable {X:Cx} {o e value:Expr} {f:Str} {pos pos' tpos:Pos} {ta tv:TE}
theorem bz (he:PE X e ta) (hb:attributeBase e f X.env (eval e X.env)=eval e X.env):PE X (.Attribute e f pos) (Cw X.K ta f):=by intro pins s σ H Q I h;refine sP hb (thn (he pins s σ H _ I h) λ u s1 ⟨x,H1,I1,rx,a,C,dx,fs,v,ex,ea,c,n,l,q⟩=>?_);subst ex;obtain rfl:u=Value.ref a:=rx;exact kC I1 ea c n l λ u' s2 I2 ru=>⟨v,H1,I2,ru,q⟩
theorem dE (ha:PE X o ta) (hv:PE X value tv) (hs:swapsWith value (some (.Attribute o f pos')) pos.line X.env=pure false):PS X (.Assign [.Attribute o f pos'] value pos) (Cy X.K ta tv f):=by intro pins s σ H D I h;refine plainObj_wpAny_Assign_Attribute (thn (hv pins s σ H _ I h) λ u s1 ⟨y,H1,I1,ry,q⟩=>thn (ha pins s1 σ H1 _ I1 q) λ ov s2 ⟨x,H2,I2,rx,a,C,dx,fs,ex,ea,c,n,l,q2⟩=>?_) hs;subst ex;obtain rfl:ov=Value.ref a:=rx;exact kD I2 ea c n l ry λ s3 I3=>⟨σ,_,I3,q2⟩
theorem vQ {pl:Sem Bool} {m:Str} {apos:Pos} {args:List Expr} {pins:List (Addr×Obj)} {s:G7} {σ:St} {H:Hp} {Q:JU->G7->Prop} {te:TE} (he:PE X e te) (I:Inv X pins σ H s)
  (h:te σ H λ x H1=>∃a C dx fs g,x=.ref a/\H1 a=some (.ins C dx fs)/\Cls X.K C/\Meth X.K C m g/\fs.lookup m=none /\
   ∀s1,Inv X pins σ H1 s1->wpAny (model X.prog X.w) X.A (callWith pos (.ref g) [.ref a] (backTo pos (starEach args X.env)) (backToKw pos (keywordEach [] X.env))) Q X.xe s1)
  (ht:eval (.Call (.Attribute e m apos) args [] pos) X.env=(do
   let ov<-eval e X.env
   standAt apos.atName
   let (f,first)<-holding [ov] (getMethod ov m pl)
   callWith pos f first (backTo pos (starEach args X.env)) (backToKw pos (keywordEach [] X.env)))) :
  wpAny (model X.prog X.w) X.A (eval (.Call (.Attribute e m apos) args [] pos) X.env) Q X.xe s:=by
 refine PySem.W.methodCall_KW (pl:=pl) (thn (he pins s σ H _ I h) λ u s1 ⟨x,H1,I1,rx,a,C,dx,fs,g,ex,ea,c,k,l,q⟩=>?_) ht;subst ex;obtain rfl:u=Value.ref a:=rx;exact eI I1 ea c k l (q s1 I1)
end
section
variable {X:Cx} {pins:List (Addr×Obj)} {σ:St} {H:Hp} {s:G7} {A:Around} {E:JU->G7->Prop} {Q:JU->G7->Prop} {c:JU} {b:Bool}
inductive TyOf (K:C8) (H:Hp):V->Value->Prop where
 | non:TyOf K H .non (.type "NoneType")
 | bl (x:Bool):TyOf K H (.bl x) (.type "bool")
 | int (i:Int):TyOf K H (.int i) (.type "int")
 | str (x:Str):TyOf K H (.str x) (.type "str")
 | flt (x:UInt64):TyOf K H (.flt x) (.type "float")
 | lst {a:Addr} {xs:List V} (e:H a=↥xs):TyOf K H (.ref a) (.type "list")
 | frz {a:Addr} {o:Obj} {xs:List V} (e:H a=some (.frz o (.lst xs))):TyOf K H (.ref a) (.type "list")
 | tup {a:Addr} {xs:List V} (e:H a= ~~~xs):TyOf K H (.ref a) (.type "tuple")
 | dK {a:Addr} {kvs:List (Key×V)} (e:H a=some (.dK kvs)):TyOf K H (.ref a) (.type "dict")
 | dT {a:Addr} {kvs:List (List Key×V)} (e:H a=some (.dT kvs)):TyOf K H (.ref a) (.type "dict")
 | ext {a:Addr} {φ:Heap->Prop} (e:H a=some (.ext φ)) (c:∀h,φ h->∃o,h.get? a=some o/\o.cls=.type "dict"):TyOf K H (.ref a) (.type "dict")
 | ins {a C dx:Addr} {fs:List (Str×V)} (e:H a=some (.ins C dx fs)) (cl:Cls K C) (ha:PySem.W.findIn K (.ref C) "__class__" = some (some (.builtin "object.__class__")))
   (hn:PySem.W.specialIn K (.builtin "object.__class__") "__get__" = some (some (.builtin "getset_descriptor.__get__"))) (htk:PySem.W.takesIn K (.builtin "object.__class__")=some true)
   (hm:PySem.W.mroIn K C (.type "object")=some true):TyOf K H (.ref a) (.ref C)
theorem oj {x:V} {u t:JU} (I:Inv X pins σ H s) (rx:RelV x u) (ty:TyOf X.K H x t) (e:PySem.W.kitOne X.K t c=some b) (h:∀tk,Q (.bool b) { s with toks:=tk }) :
  wpAny (model X.prog X.w) A (call (.builtin "isinstance") [u,c]) Q E s:=by
 cases ty with
 | non=>cases (show u=Value.none from rx); exact PySem.W.kia_one PySem.W.kitx_none I.kIn True.intro e (λ z=>nomatch z) h
 | bl y=>cases (show u=Value.bool y from rx); exact PySem.W.kia_one PySem.W.kitx_bool I.kIn True.intro e (λ z=>nomatch z) h
 | int i=>obtain ⟨t,q⟩:=(show ∃t,u=Value.int i t from rx); cases q; exact PySem.W.kia_one PySem.W.kitx_int I.kIn True.intro e (λ z=>nomatch z) h
 | str y=>obtain ⟨t,q⟩:=(show ∃t,u=Value.str y t from rx); cases q; exact PySem.W.kia_one PySem.W.kitx_str I.kIn True.intro e (λ z=>nomatch z) h
 | flt y=>obtain ⟨t,q⟩:=(show ∃t,u=Value.float y t from rx); cases q; exact PySem.W.kia_one PySem.W.kitx_float I.kIn True.intro e (λ z=>nomatch z) h
 | @lst a xs ea =>
  cases (show u=Value.ref a from rx);obtain ⟨_,_,n,_,h1⟩:=(show ObjOk X.prog X.w H s.heap a (.lst xs) from I.hok a _ ea)
  exact PySem.W.kia_one PySem.W.kitx_list I.kIn ⟨_,h1,Y⟩ e (λ z=>nomatch z) h
 | @frz a ob xs ea =>
  cases (show u=Value.ref a from rx);obtain ⟨_,_,_,n,_,h1⟩:=(show ObjOk X.prog X.w H s.heap a (.frz ob (.lst xs)) from I.hok a _ ea)
  exact PySem.W.kia_one PySem.W.kitx_list I.kIn ⟨_,h1,Y⟩ e (λ z=>nomatch z) h
 | @tup a xs ea =>
  cases (show u=Value.ref a from rx);obtain ⟨_,_,_,p⟩:=(show ObjOk X.prog X.w H s.heap a (.tup xs) from I.hok a _ ea)
  obtain ⟨o,h1,h2,_⟩:=p;exact PySem.W.kia_one PySem.W.kitx_tuple I.kIn ⟨o,h1,h2⟩ e (λ z=>nomatch z) h
 | @dK a kvs ea =>
  cases (show u=Value.ref a from rx);obtain ⟨_,_,vs,_,p⟩:=(show ObjOk X.prog X.w H s.heap a (.dK kvs) from I.hok a _ ea)
  obtain ⟨o,es,ep,h1,h2,_⟩:=p;exact PySem.W.kia_one PySem.W.kitx_dict I.kIn ⟨o,h1,h2.1⟩ e (λ z=>nomatch z) h
 | @dT a kvs ea =>
  cases (show u=Value.ref a from rx);obtain ⟨_,_,xs,_,o,es,ep,h1,h2,_⟩:=(show ObjOk X.prog X.w H s.heap a (.dT kvs) from I.hok a _ ea)
  exact PySem.W.kia_one PySem.W.kitx_dict I.kIn ⟨o,h1,h2.1⟩ e (λ z=>nomatch z) h
 | @ext a φ ea c =>
  cases (show u=Value.ref a from rx);obtain ⟨p,_,_⟩:=(show ObjOk X.prog X.w H s.heap a (.ext φ) from I.hok a _ ea)
  obtain ⟨o,h1,h2⟩:=c _ p;exact PySem.W.kia_one PySem.W.kitx_dict I.kIn ⟨o,h1,h2⟩ e (λ z=>nomatch z) h
 | @ins a C dx fs ea cl ha hn htk hm =>
  cases (show u=Value.ref a from rx);obtain ⟨mA,O,_⟩:=eP I.hok ea;obtain ⟨od,J,_⟩:=O.look;exact PySem.W.kia_one (PySem.W.kitx_own (cl.get _) cl.hd ha hn htk hm) I.kIn J e (λ z=>nomatch z) h
end
structure Room (k:Nat) (A:Around):Prop where
 hd:A.handled=none
 dp:A.depth + 3 * k + 5 < recursionLimit
 un:A.units + 16 * k + 200 < cLine
 gd:A.guards=some []
theorem Room.mono {j k:Nat} {A:Around} (r:Room k A) (h:j<=k):Room j A:=⟨r.hd,by have:=r.dp; lia,by have:=r.un; lia,r.gd⟩
theorem Room.deeper {k:Nat} {A:Around} (r:Room (k + 1) A) (env:Env):Room k (A.deeper env) :=
 ⟨r.hd,by have:=r.dp; show A.depth + 1 + 3 * k + 5 < _; lia,by have:=r.un; show A.units + 3 + 16 * k + 200 < _; lia,r.gd⟩
theorem kF {A:Around} {C:Addr} {us:List JU} {kw:List (Str×JU)}:(A.under (.builtin "type.__call__" ⟨.ref C :: us,kw⟩)).depth=A.depth + 1:=by first | rfl | simp [Around.under,Code.weight,Code.isCreation,Code.isGuard,Code.isCaller,Code.frames,Code.isFrame,guardIds]
theorem kG {A:Around} {C:Addr} {us:List JU} {kw:List (Str×JU)}:(A.under (.builtin "type.__call__" ⟨.ref C :: us,kw⟩)).units=A.units + 1:=by first | rfl | simp [Around.under,Code.cUnits,Code.frames,Code.isFrame]
theorem js {A:Around} {C:Addr} {us:List JU} {kw:List (Str×JU)}:(A.under (.builtin "type.__call__" ⟨.ref C :: us,kw⟩)).guards=A.guards:=by
 have e:Code.guards (.builtin "type.__call__" ⟨.ref C :: us,kw⟩)=[]:=by
  have:(Code.builtin "type.__call__" ⟨.ref C :: us,kw⟩).isGuard=false:=by show guardIds.contains "type.__call__" = false; decide +kernel
  simp [Code.guards,this]
 unfold Around.under;dsimp only;rw [e]
 rfl
theorem Room.make {k:Nat} {A:Around} (r:Room (k + 1) A) (C:Addr) (us:List JU) (kw:List (Str×JU)):Room k (A.under (.builtin "type.__call__" ⟨.ref C :: us,kw⟩)) :=
 ⟨r.hd,by have:=r.dp; rw [kF]; lia,by have:=r.un; rw [kG]; lia,by rw [js]; exact r.gd⟩
theorem Room.depth {k:Nat} {A:Around} (r:Room k A):A.depth < recursionLimit:=by have:=r.dp; lia
theorem Room.units {k:Nat} {A:Around} (r:Room k A):A.units + 64 < cLine:=by have:=r.un; lia
def sQ:TA:=λ _ H Q=>Q [] H
def vR (ta:TE) (tr:TA):TA:=λ σ H Q=>ta σ H λ x H1=>tr σ H1 λ xs H2=>Q (x :: xs) H2
section
variable {X:Cx} {e:Expr} {es:List Expr} {te:TE} {t:TA} {pos:Pos}
theorem ae:PA X [] sQ:=λ _ _ _ _ H Q I h=>Calls.spliced_nil ⟨[],H,I,.nil,h⟩
theorem aa (ha:PE X e te) (hr:PA X es t) (hs:starEach (e :: es) X.env=(false,eval e X.env) :: starEach es X.env:=by rfl):PA X (e :: es) (vR te t):=by intro pos pins s σ H Q I h;rw [hs];show wpAny _ _ (spliced ((false,eval e X.env) :: backTo pos (starEach es X.env))) _ _ s;refine Calls.spliced_cons (thn (ha pins s σ H _ I h) λ u s1 ⟨x,H1,I1,r1,q1⟩=>?_);exact thn (hr pos pins s1 σ H1 _ I1 q1) λ us s2 ⟨xs,H2,I2,r2,q2⟩=>⟨x :: xs,H2,I2,.cons r1 r2,q2⟩
def GP (t:TA):TE:=λ σ H Q=>t σ H λ xs H1=>xs.length<=sizeLine/\∀p,H1 p=none->Q (.ref p) (upd H1 p (.tup xs))
def GQ (t:TA):TE:=λ σ H Q=>t σ H λ xs H1=>xs.length<=sizeLine/\∀p,H1 p=none->Q (.ref p) (upd H1 p (.lst xs))
theorem aE {x1} (h:PA X es t):PE X (.Tuple es x1 pos) (GP t):=by intro pins s σ H Q I hq;refine wpAny_Tuple_spliced (thn (h pos pins s σ H _ I hq) λ us s1 ⟨xs,H1,I1,r,z,q⟩=>⟨by rw [<- r.length]; exact z,?_⟩);have hf:H1 s1.heap.objs.size=none:=I1.hok.fresh (B6 _);refine ⟨.ref s1.heap.objs.size,upd H1 s1.heap.objs.size (.tup xs),I1.laid (t':=s1.toks) (λ b u e=>B0 _ e) (B6 _) ?_,Y,q _ hf⟩;exact ⟨z,us,r,⟨_,B1 _ rfl,Y,_,Y⟩⟩
theorem aO (h:PA X es t):PE X (.List es pos) (GQ t):=by intro pins s σ H Q I hq;refine wpAny_List_spliced (thn (h pos pins s σ H _ I hq) λ us s1 ⟨xs,H1,I1,r,z,q⟩=>⟨by rw [<- r.length]; exact z,?_⟩);have hf:H1 s1.heap.objs.size=none:=I1.hok.fresh (B6 _);refine ⟨.ref s1.heap.objs.size,upd H1 s1.heap.objs.size (.lst xs),I1.laid (t':=s1.toks) (λ b u e=>B0 _ e) (B6 _) ?_,Y,q _ hf⟩;exact ⟨z,us,0,r,B1 _ rfl⟩
end
abbrev Sp:=List V->Hp->VK->XK->Prop
abbrev CXT:=List Env->Hp->G7->XK->JU->G7->Prop
structure Env0 (P:Program) (w:World) (K:C8) (mg:Str->Option Value) (base:Heap) (A:Around) (outer:List Env) (s:Shared) (H:Hp):Prop where
 frames:A.frames=some outer
 mod:Mod K mg base
 bs:∀b o,base.get? b=some o->s.heap.get? b=some o/\H b=none
 bsz:base.objs.size<=s.heap.objs.size
 funs:s.heap.FunFrames base outer
 frf:∀b∈frs outer,H b=none
 hok:HOk P w H s.heap
 bare:AllBare s.gens
def CE (outer:List Env) (P:G8) (w:JT) (H:Hp) (s:G7) (Q:VK) (u:JU) (s':G7):Prop :=
 ∃v H',s'.os=s.os/\AllBare s'.gens/\Un (frs outer) [] H H' s.heap s'.heap/\HOk P w H' s'.heap/\RelV v u/\Q v H'
def CR (CX:CXT) (outer:List Env) (P:G8) (w:JT) (H:Hp) (s:G7) (Q:VK) (E:XK) (r:Result) (s':G7):Prop :=
 match r with
 | .ok (.ret u)=>CE outer P w H s Q u s'
 | .ok _=>False
 | .error e=>CX outer H s E e s'
structure FnOk (P:Program) (w:World) (K:C8) (mg:Str->Option Value) (base:Heap) (CX:CXT) (k:Nat) (f:Addr) (fd:FuncData) (ps:List Str) (sp:Sp):Prop where
 len:∀vs H Q E,sp vs H Q E->vs.length=ps.length
 run:∀ (A:Around) (outer:List Env) (s:G7) (H:Hp) (args:Args) (us:List JU) (vs:List V) (Q:VK) (E:XK),Room k A->Env0 P w K mg base A outer s H->BindsTo s fd args (ps.zip us)->Vals vs us->sp vs H Q E ->
  codeAny (model P w) A (.call (.ref f) args) (CR CX outer P w H s Q E) s
theorem Env0.make {P:G8} {w:JT} {K:C8} {mg:Str->Option JU} {base:Heap} {A:Around} {outer:List Env} {s:G7} {H:Hp} (e:Env0 P w K mg base A outer s H) (C:Addr) (us:List JU) (kw:List (Str×JU)) :
  Env0 P w K mg base (A.under (.builtin "type.__call__" ⟨.ref C :: us,kw⟩)) outer s H:=⟨by first | exact e.frames | (simpa [Around.under,Code.envs,Code.isFrame,pushEnvs] using e.frames),e.mod,e.bs,e.bsz,e.funs,e.frf,e.hok,e.bare⟩
section
variable {X:Cx} {pins:List (Addr×Obj)} {σ:St} {H:Hp} {s s':G7}
theorem Inv.env0 (I:Inv X pins σ H s):Env0 X.prog X.w X.K X.mg X.base X.A X.stack s H :=
 ⟨I.ok.frames,I.ok.mod,I.bs,C9 I.ok.bsz I.sz,I.stack,I.stkFree,I.hok,I.bare⟩
theorem Inv.after {Q:VK} {u:JU} (I:Inv X pins σ H s) (h:CE X.stack X.prog X.w H s Q u s'):EP X pins σ Q u s':=by obtain ⟨v,H',os,bare,un,hok,r,q⟩:=h;obtain ⟨hh,g,d,t,os'⟩:=s';obtain rfl:os'=s.os:=os;exact ⟨v,H',I.call (h':=hh) (g':=g) (d':=d) (t':=t) (ch:=[]) un hok bare (λ b z=>absurd z (by simp)),r,q⟩
end
def vS (sp:Sp) (dvs:List V) (E:XK) (t:TA):TE:=λ σ H Q=>t σ H λ vs H1=>sp (vs ++ dvs) H1 Q E
def mL (C:Addr) (m:Str) (sp:Sp) (dvs:List V) (E:XK) (ta:TE) (t:TA):TE:=λ σ H Q=>ta σ H λ x H1=>∃a dx fs,x=.ref a/\H1 a=some (.ins C dx fs)/\fs.lookup m=none /\
 t σ H1 λ vs H2=>sp (x :: (vs ++ dvs)) H2 Q E
def vT (C:Addr) (sp:Sp) (dvs:List V) (E:XK) (t:TA):TE:=λ σ H Q=>t σ H λ vs H1=>∀x dx,H1 x=none->H1 dx=none->dx≠x ->
 sp (.ref x :: (vs ++ dvs)) (upd (upd H1 dx (.own x)) x (.ins C dx [])) (λ v H2=>v=.non/\Q (.ref x) H2) E
def Binds (K:C8) (fd:I9) (ps:List Str) (ds:List JU):Prop :=
 ∀ (s:G7) (us:List JU),K.In s.heap->(us ++ ds).length=ps.length->BindsTo s fd ⟨us,[]⟩ (ps.zip (us ++ ds))
theorem Binds.all {K:C8} {fd:I9} {ps:List Str} (h:∀us:List JU,us.length=ps.length->bindArgs fd ⟨us,[]⟩=pure (ps.zip us)):Binds K fd ps []:=λ s us _ hl=>by rw [List.append_nil] at hl ⊢;exact .of_eq (h us hl)
def eJ (CX:CXT) (X:Cx) (E:XK):Prop:=∀ (pins:List (Addr×Obj)) (σ:St) (H:Hp) (s:G7) (e:JU) (s':G7),Inv X pins σ H s->CX X.stack H s E e s'->X.xe e s'
section
variable {X:Cx} {CX:CXT} {k:Nat} {f C:Addr} {fd:I9} {ps:List Str} {sp:Sp} {dvs:List V} {ds:List JU} {E:XK} {x m:Str} {p pos apos:Pos} {e o:Expr} {es:List Expr} {ta:TE} {t:TA}
theorem kH {pins:List (Addr×Obj)} {σ:St} {H:Hp} {s:G7} {Q:VK} {us:List JU} {vs:List V} (F:FnOk X.prog X.w X.K X.mg X.base CX k f fd ps sp) (hr:Room k X.A) (hb:Binds X.K fd ps ds) (hd:Vals dvs ds) (hx:eJ CX X E)
  (I:Inv X pins σ H s) (r:Vals vs us) (h:sp (vs ++ dvs) H Q E):wpAny (model X.prog X.w) X.A (call (.ref f) us) (EP X pins σ Q) X.xe s:=by
 have r2:Vals (vs ++ dvs) (us ++ ds):=r.append hd;have hl:(us ++ ds).length=ps.length:=by rw [<- r2.length]; exact F.len _ _ _ _ h
 refine wpAny_call (codeAny_mono (F.run X.A X.stack s H ⟨us,[]⟩ (us ++ ds) (vs ++ dvs) Q E hr I.env0 (hb s us I.kIn hl) r2 h) λ r s' hq=>?_);cases r with
 | error e=>exact hx pins σ H s e s' I hq
 | ok fl =>
  cases fl with
  | ret u=>exact I.after hq
  | next=>exact E9 hq
  | brk=>exact E9 hq
  | cont=>exact E9 hq
theorem sR (F:FnOk X.prog X.w X.K X.mg X.base CX k f fd ps sp) (hr:Room k X.A) (hg:Gl X x) (hm:X.mg x=↑f) (hk:PySem.W.keepIn X.K (.ref f)=true) (hb:Binds X.K fd ps ds) (hd:Vals dvs ds) (hx:eJ CX X E)
  (ha:PA X (e :: es) t) (hdb:(x == ("__debug__" : Str))=false:=by decide) (he:starEach (e :: es) X.env=(false,eval e X.env) :: starEach es X.env:=by rfl) (hpl:(backTo pos (starEach es X.env)).any (·.1)=false:=by rfl) :
  PE X (.Call (.Name x p) (e :: es) [] pos) (vS sp dvs E t):=by
 intro pins s σ H Q I h;refine wpAny_Call_Name_kw (dM I hg hm ?_ hdb);refine PySem.W.callWith_K (h₀:=X.base) I.ok.mod.kin hk (thn (ha pos pins s σ H _ I h) λ us s1 ⟨vs,H1,I1,r,q⟩=>⟨I1.kIn,?_⟩) he hpl;exact kH F hr hb hd hx I1 r q
theorem sS {pl:Sem Bool} (he:PE X o ta) (c:Cls X.K C) (hm:Meth X.K C m f) (F:FnOk X.prog X.w X.K X.mg X.base CX k f fd ps sp) (hr:Room k X.A) (hb:Binds X.K fd ps ds) (hd:Vals dvs ds) (hx:eJ CX X E) (ha:PA X (e :: es) t)
  (hst:starEach (e :: es) X.env=(false,eval e X.env) :: starEach es X.env:=by rfl) (hpl:(backTo pos (starEach es X.env)).any (·.1)=false:=by rfl)
  (ht:eval (.Call (.Attribute o m apos) (e :: es) [] pos) X.env=(do
   let ov<-eval o X.env
   standAt apos.atName
   let (f,first)<-holding [ov] (getMethod ov m pl)
   callWith pos f first (backTo pos (starEach (e :: es) X.env)) (backToKw pos (keywordEach [] X.env))):=by rfl) :
  PE X (.Call (.Attribute o m apos) (e :: es) [] pos) (mL C m sp dvs E ta t):=by
 intro pins s σ H Q I h;refine PySem.W.methodCall_KW (pl:=pl) (thn (he pins s σ H _ I h) λ u s1 ⟨x,H1,I1,rx,a,dx,fs,ex,ea,l,q⟩=>?_) ht;subst ex;obtain rfl:u=Value.ref a:=rx;refine eI I1 ea c hm l ?_;refine PySem.W.callWith_K (first:=[.ref a]) (h₀:=X.base) I.ok.mod.kin hm.kp (thn (ha pos pins s1 σ H1 _ I1 q) λ us s2 ⟨vs,H2,I2,r,q2⟩=>⟨I2.kIn,?_⟩) hst hpl;exact kH (us:=.ref a :: us) (vs:=.ref a :: vs) F hr hb hd hx I2 (.cons rfl r) q2
theorem qj {pl:Sem Bool} (he:PE X o ta) (c:Cls X.K C) (hm:Meth X.K C m f) (F:FnOk X.prog X.w X.K X.mg X.base CX k f fd ps sp) (hr:Room k X.A) (hb:Binds X.K fd ps ds) (hd:Vals dvs ds) (hx:eJ CX X E)
  (ht:eval (.Call (.Attribute o m apos) [] [] pos) X.env=(do
   let ov<-eval o X.env
   standAt apos.atName
   let (f,first)<-holding [ov] (getMethod ov m pl)
   callWith pos f first (backTo pos (starEach [] X.env)) (backToKw pos (keywordEach [] X.env))):=by rfl) :
  PE X (.Call (.Attribute o m apos) [] [] pos) (mL C m sp dvs E ta sQ):=by
 intro pins s σ H Q I h;refine PySem.W.methodCall_KW (pl:=pl) (thn (he pins s σ H _ I h) λ u s1 ⟨x,H1,I1,rx,a,dx,fs,ex,ea,l,q⟩=>?_) ht;subst ex;obtain rfl:u=Value.ref a:=rx;refine eI I1 ea c hm l ?_;exact PySem.W.callWith_K0 (first:=[.ref a]) I1.kIn hm.kp (kH (us:=[.ref a]) (vs:=[.ref a]) F hr hb hd hx I1 (.cons rfl .nil) q)
structure Mk (K:C8) (C f:Addr):Prop where
 makes:PySem.W.makesIn K C=true
 init:PySem.W.findIn K (.ref C) "__init__" = some (↑f)
 fn:PySem.W.isFn K (.ref f)=true
 kp:PySem.W.keepIn K (.ref C)=true
theorem qk {pins:List (Addr×Obj)} {σ:St} {H:Hp} {s:G7} {Q:VK} {us:List JU} {vs:List V} (M:Mk X.K C f) (F:FnOk X.prog X.w X.K X.mg X.base CX k f fd ps sp) (hr:Room (k + 1) X.A) (hb:Binds X.K fd ps ds) (hd:Vals dvs ds)
  (hx:eJ CX X E) (I:Inv X pins σ H s) (r:Vals vs us)
  (h:∀x dx,H x=none->H dx=none->dx≠x->sp (.ref x :: (vs ++ dvs)) (upd (upd H dx (.own x)) x (.ins C dx [])) (λ v H2=>v=.non/\Q (.ref x) H2) E) :
  wpAny (model X.prog X.w) X.A (call (.ref C) us) (EP X pins σ Q) X.xe s:=by
 have hq:=h (s.heap.objs.size + 1) s.heap.objs.size (I.hok.fresh (Nat.le_succ _)) (I.hok.fresh (B6 _)) (C2 (G1 _));have I2:=Inv.made (C:=C) I;have r2:Vals (V.ref (s.heap.objs.size + 1) :: (vs ++ dvs)) (Value.ref (s.heap.objs.size + 1) :: (us ++ ds)):=.cons rfl (r.append hd);have hl:(Value.ref (s.heap.objs.size + 1) :: us ++ ds).length=ps.length:=by have e:=r2.length;rw [F.len _ _ _ _ hq] at e;exact e.symm
 refine wpAny_call (jr (f:=f) I.kIn M.makes M.init (C7.mp M.fn) (codeAny_mono (F.run _ X.stack _ _ ⟨Value.ref (s.heap.objs.size + 1) :: us,[]⟩ (Value.ref (s.heap.objs.size + 1) :: (us ++ ds)) _ _ E (hr.make C us [])
  (I2.env0.make C us []) (hb _ (Value.ref (s.heap.objs.size + 1) :: us) I2.kIn hl) r2 hq) λ r s' hq'=>?_))
 cases r with
 | error e=>exact hx pins σ _ _ e s' I2 hq'
 | ok fl =>
  cases fl with
  | ret u =>
   obtain ⟨v,H',I3,rv,ev,q3⟩:=I2.after hq';subst ev;exact ⟨rv,⟨V.ref (s.heap.objs.size + 1),H',I3,Y,q3⟩⟩
  | next=>exact E9 hq'
  | brk=>exact E9 hq'
  | cont=>exact E9 hq'
theorem sT (M:Mk X.K C f) (F:FnOk X.prog X.w X.K X.mg X.base CX k f fd ps sp) (hr:Room (k + 1) X.A) (hg:Gl X x) (hm:X.mg x=↑C) (hb:Binds X.K fd ps ds) (hd:Vals dvs ds) (hx:eJ CX X E)
  (ha:PA X (e :: es) t) (hdb:(x == ("__debug__" : Str))=false:=by decide) (he:starEach (e :: es) X.env=(false,eval e X.env) :: starEach es X.env:=by rfl) (hpl:(backTo pos (starEach es X.env)).any (·.1)=false:=by rfl) :
  PE X (.Call (.Name x p) (e :: es) [] pos) (vT C sp dvs E t):=by
 intro pins s σ H Q I h;refine wpAny_Call_Name_kw (dM I hg hm ?_ hdb);refine PySem.W.callWith_K (h₀:=X.base) I.ok.mod.kin M.kp (thn (ha pos pins s σ H _ I h) λ us s1 ⟨vs,H1,I1,r,q⟩=>⟨I1.kIn,?_⟩) he hpl;exact qk M F hr hb hd hx I1 r q
end
section
variable {X:Cx} {CX:CXT} {k:Nat} {f C:Addr} {fd:I9} {ps ks:List Str} {sp:Sp} {E:XK} {x m:Str} {p pos apos kpos:Pos} {e o:Expr} {es:List Expr} {kws:List Keyword} {te ta:TE} {t tk:TA} {nm:Option Str}
structure KBinds (K:C8) (fd:FuncData) (ps ks:List Str) (g:List Value->List Value->List Value) (gV:List V->List V->List V):Prop where
 to:∀ (s:G7) (us ws:List JU),K.In s.heap->(g us ws).length=ps.length->BindsTo s fd ⟨us,ks.zip ws⟩ (ps.zip (g us ws))
 rel:∀ {vs:List V} {us:List JU} {zs:List V} {ws:List JU},Vals vs us->Vals zs ws->Vals (gV vs zs) (g us ws)
variable {g:List JU->List JU->List JU} {gV:List V->List V->List V}
end
structure FnScope (N P:List Str) (sc:Scope):Prop where
 kind:sc.kind=.function
 co:sc.isCoroutine=false
 gen:sc.isGenerator=false
 nd:N.Nodup
 pre:N.take P.length=P
 par:∀x∈P,sc.names.lookup x=some .local\/sc.names.lookup x=some .cell
 nofree:∀y∈sc.names,y.2≠.free
theorem ig {kindOf:Str->Option NameKind} {x:Str}:∀ {binds:List (Str×JU)} {m:Str->Option JU},(∀v,(x,v)∉binds)->bindL kindOf binds m x=m x
 | [],_,_=>rfl
 | (n,v) :: r,m,h=>by
  unfold bindL;rw [ig λ w hw=>h w (List.mem_cons_of_mem _ hw)]
  split
  ·have:x≠n:=by rintro rfl; exact h v C0
   simp [this]
  ·rfl
theorem ii {kindOf:Str->Option NameKind} {x:Str}:∀ {binds:List (Str×JU)} {m:Str->Option JU},(∀v,(x,v)∉binds)->bindC kindOf binds m x=m x
 | [],_,_=>rfl
 | (n,v) :: r,m,h=>by
  unfold bindC;rw [ii λ w hw=>h w (List.mem_cons_of_mem _ hw)]
  split
  ·rfl
  ·have:x≠n:=by rintro rfl; exact h v C0
   simp [this]
theorem ij {kindOf:Str->Option NameKind} {x:Str} {v:JU}:∀ {P:List Str} {vs:List JU} {i:Nat} {m:Str->Option JU},P.Nodup->P[i]? = some x->vs[i]? = some v->kindOf x=some .local ->
  bindL kindOf (P.zip vs) m x=some v
 | [],_,_,_,_,h,_,_=>by simp at h
 | _ :: _,[],_,_,_,_,h,_=>by simp at h
 | p :: P,w :: vs,0,m,nd,h1,h2,hk=>by simp at h1 h2; subst h1; subst h2;show bindL kindOf ((p,w) :: P.zip vs) m p=_;unfold bindL;rw [ig λ v hv=>(List.nodup_cons.mp nd).1 (List.of_mem_zip hv).1,if_pos hk];simp
 | p :: P,w :: vs,i + 1,m,nd,h1,h2,hk=>by show bindL kindOf ((p,w) :: P.zip vs) m x=_;unfold bindL;exact ij (i:=i) (List.nodup_cons.mp nd).2 (by simpa using h1) (by simpa using h2) hk
theorem ik {kindOf:Str->Option NameKind} {x:Str} {v:JU}:∀ {P:List Str} {vs:List JU} {i:Nat} {m:Str->Option JU},P.Nodup->P[i]? = some x->vs[i]? = some v->kindOf x≠some .local ->
  bindC kindOf (P.zip vs) m x=some v
 | [],_,_,_,_,h,_,_=>by simp at h
 | _ :: _,[],_,_,_,_,h,_=>by simp at h
 | p :: P,w :: vs,0,m,nd,h1,h2,hk=>by simp at h1 h2; subst h1; subst h2;show bindC kindOf ((p,w) :: P.zip vs) m p=_;unfold bindC;rw [ii λ v hv=>(List.nodup_cons.mp nd).1 (List.of_mem_zip hv).1,if_neg hk];simp
 | p :: P,w :: vs,i + 1,m,nd,h1,h2,hk=>by show bindC kindOf ((p,w) :: P.zip vs) m x=_;unfold bindC;exact ik (i:=i) (List.nodup_cons.mp nd).2 (by simpa using h1) (by simpa using h2) hk
def eQ (N:List Str) (vs:List V):St:=vs.map some ++ List.replicate (N.length - vs.length) none
def iP (CX:CXT) (P:G8) (w:JT) (K:C8) (mg:Str->Option JU) (base:Heap) (N:List Str) (qual:Str) (scope:Scope) (f:Addr) (cd:JU) (A:Around) (outer:List Env) (s:G7) (H:Hp) (E:XK):Cx where
 prog:=P
 w:=w
 K:=K
 mg:=mg
 base:=base
 A:=A.deeper (envOfC qual scope s.heap.objs.size f cd)
 N:=N
 s₀:=s
 H₀:=H
 env:=envOfC qual scope s.heap.objs.size f cd
 outer:=outer
 stack:=envOfC qual scope s.heap.objs.size f cd :: outer
 ex:=[]
 calm:=true
 fn:=λ _=>true
 pn:=[]
 xe:=λ e s'=>wpAny (model P w) (A.deeper (envOfC qual scope s.heap.objs.size f cd)) (leaving (envOfC qual scope s.heap.objs.size f cd) e) (λ _ s''=>CX outer H s E e s'') (λ e' s''=>CX outer H s E e' s'') s'
theorem jt {sc:Scope} {n:Nat} {x:Str} (h:sc.names.lookup x=some .cell):∃c,(cellsFrom n sc.names []).lookup x=some c:=by have q:=PySem.W.cellsFrom_some sc.names n [] (.inl h);exact Option.isSome_iff_exists.mp q
theorem om {CX:CXT} {P:G8} {w:JT} {K:C8} {mg:Str->Option JU} {base:Heap} {N ps:List Str} {qual:Str} {scope:Scope} {f:Addr} {cd:JU} {A:Around} {outer:List Env} {s s1:G7} {H:Hp} {E:XK} {us:List JU} {vs:List V}
  (S:FnScope N ps scope) (hd:A.handled=none) (e0:Env0 P w K mg base A outer s H) (hl:vs.length=ps.length) (r:Vals vs us)
  (x:InCallC s s.heap.objs.size (bindL (envOfC qual scope s.heap.objs.size f cd).kindOf (ps.zip us) λ _=>none) (cellsFrom (s.heap.objs.size + 1) scope.names []) (bindC (envOfC qual scope s.heap.objs.size f cd).kindOf (ps.zip us) λ _=>none) s1) :
  Inv (iP CX P w K mg base N qual scope f cd A outer s H E) [] (eQ N vs) H s1:=by
 have hpl:ps.length<=N.length:=by have:=congrArg List.length S.pre; rw [List.length_take] at this; lia
 obtain ⟨h1,tk,rfl,hk⟩:=x.done;have noA:∀b:Addr,b∉(iP CX P w K mg base N qual scope f cd A outer s H E).ex:=λ b z=>absurd (show b∈([]:List Addr) from z) (by simp);refine ⟨⟨e0.mod,S.kind,Y,Y,B6 _,λ y z c h1 h2=>?_,λ y hy=>?_,λ y c _ h=>?_,λ _=>hd,Around.frames_deeper e0.frames,.inr ⟨Y,Y⟩,λ b z=>absurd z (noA b),e0.bs,e0.bsz,λ b _ _=>noA b,λ b z=>absurd z (noA b),e0.funs,e0.frf⟩,
  rfl,e0.bare,Un.kept hk,⟨_,x.toInCall.ns,λ i y v h1 h2 h3=>?_⟩,λ y c h=>⟨_,x.cell y c h⟩,e0.hok.fresh (B6 _),λ y c h=>?_,λ p hp=>absurd (show p∈([]:List (Addr×Obj)) from hp) (by simp),e0.hok.kept hk,?_⟩
 ·exact name_of_addr x.apart (PySem.mem_of_lookup h1) (PySem.mem_of_lookup h2)
 ·have hy:scope.names.lookup y=some .cell\/scope.names.lookup y=some .free:=hy;rcases hy with hy | hy
  ·exact jt hy
  ·exact absurd rfl (S.nofree _ (PySem.mem_of_lookup hy))
 ·exact Nat.le_of_lt (x.above y c (PySem.mem_of_lookup h))
 ·have hi:i < vs.length:=by
   unfold eQ at h2
   by_cases hi:i < vs.length
   ·exact hi
   ·rw [List.getElem?_append_right (by simpa using hi)] at h2;rw [List.getElem?_replicate] at h2
    split at h2 <;> cases h2
  have ha:vs[i]? = some v:=by
   unfold eQ at h2;rw [List.getElem?_append_left (by simpa using hi),List.getElem?_map] at h2;cases e:vs[i]? with
   | none=>rw [e] at h2; cases h2
   | some a=>rw [e] at h2; cases h2; rfl
  obtain ⟨u,hu,rv⟩:=r.get ha;have hp:ps[i]? = some y:=by rw [<- S.pre,List.getElem?_take_of_lt ⋯]; exact h1
  have ndP:ps.Nodup:=by rw [<- S.pre]; exact S.nd.sublist (List.take_sublist _ _)
  refine ⟨u,rv,?_⟩;rcases S.par y (B8 hp) with k | k
  ·exact .inl ⟨k,ij ndP hp hu k⟩
  ·obtain ⟨c,e⟩:=jt (n:=s.heap.objs.size + 1) k;refine .inr ⟨.inl k,c,e,?_⟩;have q:=x.cell y c e;rw [ik ndP hp hu (by show scope.names.lookup y≠_; rw [k]; decide)] at q;exact q
 ·exact e0.hok.fresh (Nat.le_of_lt (x.above y c (PySem.mem_of_lookup h)))
 ·unfold eQ;show _=N.length;rw [List.length_append,List.length_map,List.length_replicate];lia
theorem vU {CX:CXT} {P:G8} {w:JT} {K:C8} {mg:Str->Option JU} {base:Heap} {k:Nat} {f:Addr} {name qual:Str} {params:Arguments} {body:List Stmt} {scope:Scope} {dV kV doc pm cdv ct oc:JU} {an od:Option Addr}
  {osl:Array (Option JU)} {N ps:List Str} {sp:Sp} (lk:K.lookup f=some ⟨oc,od,.func (E8 name qual params body scope dV kV doc pm an cdv ct),osl⟩) (hcd:PySem.W.codeIn K cdv qual=true) (S:FnScope N ps scope)
  (len:∀vs H Q E,sp vs H Q E->vs.length=ps.length)
  (hbody:∀ (A:Around) (outer:List Env) (s:G7) (H:Hp) (vs:List V) (Q:VK) (E:XK),Room k (A.deeper (envOfC qual scope s.heap.objs.size f cdv))->sp vs H Q E ->
   ∃t,PSs (iP CX P w K mg base N qual scope f cdv A outer s H E) body t/\t { nx:=λ _ H'=>Q .non H',rt:=Q } (eQ N vs) H) :
  FnOk P w K mg base CX (k + 1) f (E8 name qual params body scope dV kV doc pm an cdv ct) ps sp:=by
 refine ⟨len,λ A outer s H args us vs Q E hr e0 hb r hsp=>?_⟩;have hl:=len _ _ _ _ hsp;have KX:K.In s.heap:=e0.mod.kin.keeps λ b o e=>(e0.bs b o e).1;have lim:s.heap.NoLimit:=e0.mod.nolimit.keeps λ b o e=>(e0.bs b o e).1;have hkind:∀y∈ps.zip us,scope.names.lookup y.1=some .local\/(scope.names.lookup y.1=some .cell/\((cellsFrom (s.heap.objs.size + 1) scope.names []).lookup y.1).isSome=true):=λ ⟨n,v⟩ hy=>by
  rcases S.par n (List.of_mem_zip hy).1 with q | q
  ·exact .inl q
  ·exact .inr ⟨q,PySem.W.cellsFrom_some _ _ _ (.inl q)⟩
 refine codeAny_call_function hr.depth (KX _ _ lk) rfl S.co S.gen rfl (PySem.W.codeRec_of KX hcd) (hb _ _ _ _ ?_);refine wpAny_newFunctionEnv_cells S.kind hkind λ env he s1 x=>?_;subst he;refine ⟨lim.keeps x.toInCall.keep,codeAny_func ?_⟩;obtain ⟨t,ht,hq⟩:=hbody A outer s H vs Q E (hr.deeper _) hsp;have I:Inv (iP CX P w K mg base N qual scope f cdv A outer s H E) [] (eQ N vs) H s1:=om S hr.hd e0 hl r x;refine wpAny_mono (ht [] s1 (eQ N vs) H _ I hq) (λ fl s' hs=>?_) λ e s' hs=>hs;have fin:∀ {σ':St} {H':Hp} {v:V} {u:JU},Inv (iP CX P w K mg base N qual scope f cdv A outer s H E) [] σ' H' s'->RelV v u->Q v H'->CE outer P w H s Q u s' :=
  λ {σ' H' v u} J rv q=>⟨v,H',J.os,J.bare,J.base,J.hok,rv,q⟩
 cases fl with
 | ret u =>
  obtain ⟨v,σ',H',J,rv,q⟩:=hs;exact fin J rv q
 | next =>
  obtain ⟨σ',H',J,q⟩:=hs;exact fin (v:=V.non) (u:=Value.none) J rfl q
 | brk =>
  obtain ⟨_,_,_,q⟩:=hs;exact E9 q
 | cont =>
  obtain ⟨_,_,_,q⟩:=hs;exact E9 q
section
variable {X:Cx} {x:Str} {p pos:Pos} {e:Expr} {es:List Expr} {t:TA} {id T:String} {r:List V->Hp->VK->Prop}
def tCB (r:List V->Hp->VK->Prop) (t:TA):TE:=λ σ H Q=>t σ H λ vs H1=>r vs H1 Q
theorem aD (hc:cG X (.builtin id) r) (hg:Gl X x) (hm:X.mg x=none) (hv:bootBuiltins x=some (.builtin id)) (ha:PA X (e :: es) t) (hn:x ≠ "__name__" := by decide) (hdb:(x == ("__debug__" : Str))=false:=by decide)
  (he:starEach (e :: es) X.env=(false,eval e X.env) :: starEach es X.env:=by rfl) (hpl:(backTo pos (starEach es X.env)).any (·.1)=false:=by rfl):PE X (.Call (.Name x p) (e :: es) [] pos) (tCB r t):=by
 intro pins s σ H Q I h;refine wpAny_Call_Name_kw (dC I hg hm hv ?_ hn hdb);exact PyProof.Rows.callWith_builtin1 (thn (ha pos pins s σ H _ I h) λ us s1 ⟨vs,H1,I1,r1,q1⟩=>hc pins s1 σ H1 vs us Q I1 r1 q1) he hpl
theorem bq (hc:cG X (.type T) r) (hg:Gl X x) (hm:X.mg x=none) (hv:bootBuiltins x=some (.type T)) (ha:PA X (e :: es) t) (hn:x ≠ "__name__" := by decide) (hdb:(x == ("__debug__" : Str))=false:=by decide)
  (he:starEach (e :: es) X.env=(false,eval e X.env) :: starEach es X.env:=by rfl) (hpl:(backTo pos (starEach es X.env)).any (·.1)=false:=by rfl):PE X (.Call (.Name x p) (e :: es) [] pos) (tCB r t):=by
 intro pins s σ H Q I h;refine wpAny_Call_Name_kw (dC I hg hm hv ?_ hn hdb);exact PyProof.Rows.callWith_type1 (thn (ha pos pins s σ H _ I h) λ us s1 ⟨vs,H1,I1,r1,q1⟩=>hc pins s1 σ H1 vs us Q I1 r1 q1) he hpl
end
end L2
namespace HT
open PySem PyProof.Rows
section
variable {prog:G8} {w:JT} {A:Around} {E:JU->G7->Prop} {s:G7}
theorem cat_tup {t b:Addr} {vs ws:List JU} {Q:JU->G7->Prop} (ht:IsTup s.heap t vs.toArray) (hb:IsTup s.heap b ws.toArray) (hv:vs≠[])
  (h1:ws=[]->Q (.ref t) s) (h2:ws≠[]->Q (.ref s.heap.objs.size) { s with heap:=s.heap.push { cls:=.type "tuple",data:=.seq (vs ++ ws).toArray } })
  (hsz:vs.length + ws.length<=sizeLine):wpAny (model prog w) A (binaryOp .Add (.ref t) (.ref b)) Q E s:=by
 obtain ⟨⟨cls,dd,data,sl⟩,ho,hc,n,hd⟩:=id ht;obtain ⟨⟨cls2,dd2,data2,sl2⟩,ho2,hc2,n2,hd2⟩:=id hb;simp only at hc hd hc2 hd2;subst hc hd hc2 hd2;have e:vs.toArray ++ ws.toArray=(vs ++ ws).toArray:=by simp
 by_cases hw:ws=[]
 ·exact concat_meets ⟨_,ho,rfl⟩ ⟨_,ho2,rfl⟩ noFill_tuple_add seq_tuple_add PySem.F.slot_tuple_add PySem.F.entry_tuple_add (PySem.F.args_tuple_add_2 _ _)
   (tuple_addW1 t b vs.toArray ws.toArray n n2 dd dd2 sl sl2 (by simpa using hv) (by simp [hw])) ⟨ho,ho2,h1 hw⟩
 ·refine concat_meets ⟨_,ho,rfl⟩ ⟨_,ho2,rfl⟩ noFill_tuple_add seq_tuple_add PySem.F.slot_tuple_add PySem.F.entry_tuple_add (PySem.F.args_tuple_add_2 _ _)
   (tuple_addW2 t b vs.toArray ws.toArray n n2 dd dd2 sl sl2 (by simpa using hv) (by simpa using hw) (by rw [List.size_toArray,List.size_toArray]; exact hsz)) ⟨ho,ho2,?_⟩
  rw [e];exact h2 hw
def sIx (n d:Nat):Option Int->Nat
 | none=>d
 | some v=>if v < 0 then (v + (n:Int)).toNat else min v.toNat n
theorem wz (n d:Nat) (hd:d<=n) (o:Option Int):sIx n d o<=n:=by
 cases o with
 | none=>exact hd
 | some v =>
  show (if v < 0 then (v + (n:Int)).toNat else min v.toNat n)<=n
  by_cases hv:v < 0
  ·rw [if_pos hv]; lia
  ·rw [if_neg hv]; exact Nat.min_le_right _ _
theorem mM (v:Int) (n d:Nat):(if v < 0 then max (v + (n:Int)) 0 else min v (n:Int))=((sIx n d (some v):Nat):Int):=by
 show (if v < 0 then max (v + (n:Int)) 0 else min v (n:Int))=(((if v < 0 then (v + (n:Int)).toNat else min v.toNat n):Nat):Int)
 by_cases hv:v < 0
 ·simp only [if_pos hv]; lia
 ·simp only [if_neg hv]; lia
theorem kI (lo hi:Option Int) (n:Nat):Builtin.Slice.sliceAdjust lo hi 1 (n:Int)=(((sIx n 0 lo:Nat):Int),((sIx n n hi:Nat):Int)):=by
 have h1:¬ ((1:Int) < 0):=⋯
 unfold Builtin.Slice.sliceAdjust;simp only [h1,if_false];refine Prod.ext ?_ ?_
 ·cases lo with
  | none=>rfl
  | some v=>exact mM v n 0
 ·cases hi with
  | none=>rfl
  | some v=>exact mM v n n
theorem kJ (i j:Nat):Builtin.Slice.slicePlaces (i:Int) (j:Int) 1=j - i:=by
 unfold Builtin.Slice.slicePlaces;have h1:(1:Int) > 0:=⋯
 simp only [h1,if_true,Int.ediv_one]
 split <;> lia
theorem gE {v:JU} {o:Option Int} {Q:Option Int->G7->Prop} (p:IsPart v o) (h:Q o s):wpAny (model prog w) A (Builtin.Slice.slicePartIndex v) Q E s:=by
 cases p with
 | none=>exact slicePart_none h
 | int i t=>exact slicePart_int h
theorem fF {sl:Addr} {vl vu:JU} {lo hi:Option Int} {n:Nat} {Q:Int×Int×Nat->G7->Prop} (hs:s.heap.IsSliceOf sl vl vu .none) (pl:IsPart vl lo) (pu:IsPart vu hi)
  (h:Q (((sIx n 0 lo:Nat):Int),1,sIx n n hi - sIx n 0 lo) s):wpAny (model prog w) A (Builtin.Slice.sliceApplied (.ref sl) (pure (n:Int))) Q E s:=by
 obtain ⟨os,hos,hcs,hds⟩:=id hs;unfold Builtin.Slice.sliceApplied Builtin.Slice.sliceFields;refine A0 (A0 (wpAny_field hos hds (x:=vl) rfl (A0 (wpAny_field hos hds (x:=vu) rfl (A0 (wpAny_field hos hds (x:=.none) rfl (A3 ?_)))))));refine A0 (slicePart_none ?_);show wpAny _ _ (if ((1:Int) == 0)=true then _ else _) _ _ s;rw [if_neg ∅];refine A0 (gE pl (A0 (gE pu (A0 (A3 ?_)))));show wpAny _ _ (match Builtin.Slice.sliceAdjust lo hi 1 (n:Int) with | (lo,hi)=>pure (lo,(1:Int),Builtin.Slice.slicePlaces lo hi 1)) _ _ s;rw [kI lo hi n];show wpAny _ _ (pure (((sIx n 0 lo:Nat):Int),(1:Int),Builtin.Slice.slicePlaces ((sIx n 0 lo:Nat):Int) ((sIx n n hi:Nat):Int) 1)) _ _ s;rw [kJ];exact A3 h
theorem qm (xs:Array JU) (i k:Nat):((List.range k).filterMap λ (m:Nat)=>xs[((i:Int) + (m:Int) * 1).toNat]?).toArray=((xs.toList.drop i).take k).toArray:=by
 have e:(λ (m:Nat)=>xs[((i:Int) + (m:Int) * 1).toNat]?)=λ m=>xs[i + m]? := by
  funext m
  have:((i:Int) + (m:Int) * 1).toNat=i + m:=⋯
  rw [this]
 rw [e];have:=pick_run xs i k;rw [List.filterMap_map] at this;have e2:((λ x=>xs[x]?)∘λ x=>i + x)=λ m=>xs[i + m]? := rfl;rw [e2] at this;rw [this]
theorem getItem_tuple_cut {t sl:Addr} {items:Array JU} {vl vu:JU} {lo hi:Option Int} {Q:JU->G7->Prop} (ht:IsTup s.heap t items) (hs:s.heap.IsSliceOf sl vl vu .none) (pl:IsPart vl lo) (pu:IsPart vu hi)
  (hw:¬ (sIx items.size 0 lo=0/\sIx items.size items.size hi=items.size))
  (h:Q (.ref s.heap.objs.size) { s with heap:=s.heap.push { cls:=.type "tuple",data:=.seq ((items.toList.drop (sIx items.size 0 lo)).take (sIx items.size items.size hi - sIx items.size 0 lo)).toArray } })
  (hsz:items.size<=sizeLine):wpAny (model prog w) A (getItem (.ref t) (.ref sl)) Q E s:=by
 have htake:sizeOk (.seq ((items.toList.drop (sIx items.size 0 lo)).take (sIx items.size items.size hi - sIx items.size 0 lo)).toArray):=by show ((items.toList.drop (sIx items.size 0 lo)).take (sIx items.size items.size hi - sIx items.size 0 lo)).toArray.size<=sizeLine;rw [List.size_toArray,List.length_take,List.length_drop,Array.length_toList];lia
 have hj:sIx items.size items.size hi<=items.size:=wz _ _ (B6 _) hi;obtain ⟨os,hos,hcs,hds⟩:=id hs;have hTs:s.TypeIs (.ref sl) "slice" := ⟨os,hos,hcs⟩
 unfold getItem
 try with_reducible refine wpAny_holding ?_
 first | refine A0 (A3 ?_) | skip
 refine A0 (wpAny_sequenceKey ht.typeIs ∅ ?_);refine A0 (wpAny_callSpecial?_slot (name:=Str.ofString "__getitem__") ht.typeIs PyProof.Rows.slot_tuple_getitem
  (G4 PyProof.Rows.slot_tuple_getitem ht.typeIs entry_tuple_getitem ?_ (args_tuple_getitem _ _)))
 show wpAny _ _ (Builtin.Tuple.tupleItemsOf (.ref t) >>= _) _ _ s;refine A0 (tupleItemsOf_ ht ?_);refine A0 (wpAny_typeOf hTs ?_);rw [if_pos ∅];refine A0 (fF hs pl pu ?_);have hno:¬ ((((sIx items.size 0 lo:Nat):Int) == 0 && (1:Int) == 1 && (sIx items.size items.size hi - sIx items.size 0 lo) == items.size)=true):=by intro q;rw [Bool.and_eq_true,Bool.and_eq_true] at q;have q1:((sIx items.size 0 lo:Nat):Int)=0:=eq_of_beq q.1.1;have q2:sIx items.size items.size hi - sIx items.size 0 lo=items.size:=eq_of_beq q.2;exact hw ⟨⋯,⋯⟩
 show wpAny _ _ (if (((sIx items.size 0 lo:Nat):Int) == 0 && (1:Int) == 1 && (sIx items.size items.size hi - sIx items.size 0 lo) == items.size)=true then _ else _) _ _ s;rw [if_neg hno,qm]
 first
  | exact A0 (m:=Builtin.Tuple.tupleExact _) (G5 (A3 ⟨_,rfl,A3 h⟩) htake)
  | exact A0 (m:=Builtin.Tuple.tupleExact _) (G5 (A0 (A3 (A3 ⟨_,rfl,A3 h⟩))) htake)
  | exact A0 (A0 (m:=Builtin.Tuple.tupleExact _) (G5 (A3 (A3 ⟨_,rfl,A3 h⟩)) htake))
  | exact A0 (A0 (m:=Builtin.Tuple.tupleExact _) (G5 (A3 ⟨_,rfl,A3 h⟩) htake))
end
end HT
namespace L2
open PySem PySem.Spec PyProof.Rows
abbrev TO:=St->Hp->(Option Int->Hp->Prop)->Prop
def PO (X:Cx) (e:Option Expr) (t:TO):Prop :=
 ∀ (pins:List (Addr×Obj)) (s:G7) (σ:St) (H:Hp) (Q:Option Int->Hp->Prop),Inv X pins σ H s->t σ H Q ->
  wpAny (model X.prog X.w) X.A (evalPart e X.env) (λ u s'=>∃o H',Inv X pins σ H' s'/\IsPart u o/\Q o H') X.xe s
def sU:TO:=λ _ H Q=>Q none H
def Cz (t:TE):TO:=λ σ H Q=>t σ H λ x H1=>∃i,x=.int i/\Q (some i) H1
section
variable {X:Cx} {e:Expr} {te:TE} {lo hi:Option Expr} {tl th:TO} {pos p2:Pos}
theorem mO:PO X none sU:=by intro pins s σ H Q I h;rw [evalPart_none];exact A3 ⟨none,H,I,.none,h⟩
theorem mP (h:PE X e te):PO X (some e) (Cz te):=by intro pins s σ H Q I hw;rw [evalPart_some];refine thn (h pins s σ H _ I hw) λ u s1 ⟨x,H1,I1,r1,q1⟩=>?_;obtain ⟨i,rfl,q⟩:=q1;obtain ⟨t,rfl⟩:=r1;exact ⟨some i,H1,I1,.int i t,q⟩
def SlR (X:Cx) (r:V->Option Int->Option Int->Hp->VK->Prop):Prop :=
 ∀ (pins:List (Addr×Obj)) (s:G7) (σ:St) (H:Hp) (x:V) (v vl vu:JU) (lo hi:Option Int) (sl:Addr) (Q:VK),Inv X pins σ H s->RelV x v->s.heap.IsSliceOf sl vl vu .none->IsPart vl lo->IsPart vu hi->r x lo hi H Q ->
  ∃T id,typeLookup (.type T) "__getitem__" = pure (some (.builtin id))/\s.TypeIs v T/\wpAny (model X.prog X.w) X.A (getItem v (.ref sl)) (EP X pins σ Q) X.xe s
def tSl (r:V->Option Int->Option Int->Hp->VK->Prop) (te:TE) (tl th:TO):TE:=λ σ H Q=>te σ H λ x H1=>tl σ H1 λ l H2=>th σ H2 λ u H3=>r x l u H3 Q
theorem ju {r:V->Option Int->Option Int->Hp->VK->Prop} (hr:SlR X r) (he:PE X e te) (hl:PO X lo tl) (hu:PO X hi th):PE X (.Subscript e (.Slice lo hi none p2) pos) (tSl r te tl th):=by intro pins s σ H Q I h;refine Subscript_ (thn (he pins s σ H _ I h) λ v s1 ⟨x,H1,I1,r1,q1⟩=>?_);refine wpAny_Slice (thn (hl pins s1 σ H1 _ I1 q1) λ vl s2 ⟨l,H2,I2,pl,q2⟩=>thn (hu pins s2 σ H2 _ I2 q2) λ vu s3 ⟨u,H3,I3,pu,q3⟩=>?_);rw [evalPart_none];refine A3 ?_;have I4:Inv X pins σ H3 { s3 with heap:=s3.heap.push { cls:=.type "slice", data:=.fields #[vl, vu, .none] } }:=I3.kept (t':=s3.toks) λ b ob q=>B0 _ q;obtain ⟨T,id,hT,ht,hg⟩:=hr pins { s3 with heap:=s3.heap.push { cls:=.type "slice",data:=.fields #[vl,vu,.none] } } σ H3 x v vl vu l u s3.heap.objs.size Q I4 r1 (Heap.IsSliceOf.new ..) pl pu q3;show wpAny (model X.prog X.w) X.A (subscriptTail e (.Slice lo hi none p2) v (.ref s3.heap.objs.size)) (EP X pins σ Q) X.xe { s3 with heap:=s3.heap.push { cls:=.type "slice",data:=.fields #[vl,vu,.none] } };exact tail_any (ops:=[.ref s3.heap.objs.size,v]) ht hT hg (by with_unfolding_all rfl)
def iQ (xs:List V) (lo hi:Option Int):List V:=(xs.drop (HT.sIx xs.length 0 lo)).take (HT.sIx xs.length xs.length hi - HT.sIx xs.length 0 lo)
theorem fQ (xs:List V) (lo hi:Option Int):(iQ xs lo hi).length<=xs.length:=by unfold iQ;rw [List.length_take,List.length_drop];lia
def CA (K:C8):V->Option Int->Option Int->Hp->VK->Prop:=λ x lo hi H Q=>∃a xs,x=.ref a/\SqT K H a xs /\
 ¬ (HT.sIx xs.length 0 lo=0/\HT.sIx xs.length xs.length hi=xs.length)/\∀p,H p=none->Q (.ref p) (upd H p (.tup (iQ xs lo hi)))
theorem qo:SlR X (CA X.K):=by
 intro pins s σ H x v vl vu lo hi sl Q I rx hs pl pu h;obtain ⟨a,xs,rfl,hx,hw,q⟩:=h;cases rx;obtain ⟨its,r,ht,hz⟩:=I.tuple hx;have hlen:its.toArray.size=xs.length:=by rw [List.size_toArray]; exact r.length.symm
 refine ⟨"tuple",_,PyProof.Rows.slot_tuple_getitem.lookup,ht.typeIs,?_⟩;refine HT.getItem_tuple_cut ht hs pl pu (by rw [hlen]; exact hw) ?_ (by rw [hlen]; exact hz);rw [hlen];refine ⟨.ref s.heap.objs.size,_,I.laid (t':=s.toks) (o:=.tup (iQ xs lo hi)) (λ b ob q=>B0 _ q) (B6 _) ?_,Y,q _ (I.hok.fresh (B6 _))⟩;exact ⟨C9 (fQ xs lo hi) hz,_,(r.drop (HT.sIx xs.length 0 lo)).take (HT.sIx xs.length xs.length hi - HT.sIx xs.length 0 lo),IsTup.new _ _⟩
def CB (K:C8):R2:=λ x y H Q=>∃a b xs ys,x=.ref a/\y=.ref b/\SqT K H a xs/\SqT K H b ys/\xs≠[]/\xs.length + ys.length<=sizeLine /\
 (ys=[]->Q (.ref a) H)/\(ys≠[]->∀p,H p=none->Q (.ref p) (upd H p (.tup (xs ++ ys))))
theorem Vals.nil_iff {xs:List V} {us:List JU} (r:Vals xs us):us=[]↔xs=[]:=by
 cases r with
 | nil=>simp
 | cons _ _=>simp
theorem sV:OpR X (binaryOp .Add) (CB X.K):=by intro pins s σ H x y v u Q I rx ry h;obtain ⟨a,b,xs,ys,rfl,rfl,ha,hb,hx,hz,q1,q2⟩:=h;cases rx;cases ry;obtain ⟨its,r1,p1,_⟩:=I.tuple ha;obtain ⟨its2,r2,p2,_⟩:=I.tuple hb;refine HT.cat_tup p1 p2 (λ z=>hx (r1.nil_iff.mp z)) (λ z=>⟨.ref a,H,I,Y,q1 (r2.nil_iff.mp z)⟩) (λ z=>?_) (by rw [<- r1.length,<- r2.length]; exact hz);refine ⟨.ref s.heap.objs.size,_,I.laid (t':=s.toks) (o:=.tup (xs ++ ys)) (λ b ob q=>B0 _ q) (B6 _) ?_,Y,q2 (λ w=>z (r2.nil_iff.mpr w)) _ (I.hok.fresh (B6 _))⟩;exact ⟨by rw [List.length_append]; exact hz,_,r1.append r2,IsTup.new _ _⟩
end
def ixN (n:Nat) (i:Int):Option Nat:=if 0<=i then (if i < n then some i.toNat else none) else if -(n:Int)<=i then some (i + n).toNat else none
def atI {α:Type} (xs:List α) (i:Int):Option α:=(ixN xs.length i).bind λ j=>xs[j]?
theorem mQ {n:Nat} {i:Int} {j:Nat} (h:ixN n i=some j):seqIndex? i n=some j/\j < n/\-(n:Int)<=i/\i < n:=by
 unfold ixN at h
 by_cases h0:0<=i
 ·rw [if_pos h0] at h
  by_cases h1:i < n
  ·rw [if_pos h1] at h;have e:i.toNat=j:=C1 h;exact ⟨by rw [seqIndex_of h0 h1,e],⋯,⋯,h1⟩
  ·rw [if_neg h1] at h; cases h
 ·rw [if_neg h0] at h
  by_cases h1:-(n:Int)<=i
  ·rw [if_pos h1] at h;have e:(i + n).toNat=j:=C1 h;exact ⟨by rw [seqIndex_neg ⋯ h1,e],⋯,h1,⋯⟩
  ·rw [if_neg h1] at h; cases h
theorem gj {α:Type} {xs:List α} {i:Int} {v:α} (h:atI xs i=some v):∃j,seqIndex? i xs.length=some j/\xs[j]? = some v/\j < xs.length/\-(xs.length:Int)<=i/\i < xs.length:=by
 unfold atI at h;cases e:ixN xs.length i with
 | none=>rw [e] at h; cases h
 | some j =>
  rw [e] at h;obtain ⟨h1,h2,h3,h4⟩:=mQ e;exact ⟨j,h1,h,h2,h3,h4⟩
theorem sW {α:Type} {xs:List α} {j:Nat} {v:α} (h:xs[j]? = some v):atI xs (j:Int)=some v:=by
 have hj:j < xs.length:=(A9.mp h).1;have e:ixN xs.length (j:Int)=some j:=by unfold ixN;rw [if_pos ⋯,if_pos ⋯]; simp
 unfold atI; rw [e]; exact h
def sX (b:Expr):Prop:=∀o i,subscripted b false o i=operate [o,i] (getItem o i)
def IxR (X:Cx) (r:R2):Prop :=
 ∀ (value slice:Expr) (pins:List (Addr×Obj)) (s:G7) (σ:St) (H:Hp) (x y:V) (v u:JU) (Q:VK),Inv X pins σ H s->RelV x v->RelV y u->r x y H Q ->
  subscripted slice false v u=operate [v,u] (getItem v u)->wpAny (model X.prog X.w) X.A (subscriptTail value slice v u) (EP X pins σ Q) X.xe s
def MtR (X:Cx) (id:String) (r:V->List V->Hp->VK->Prop):Prop :=
 ∀ (pins:List (Addr×Obj)) (s:G7) (σ:St) (H:Hp) (x:V) (xs:List V) (v:JU) (us:List JU) (Q:VK),Inv X pins σ H s->RelV x v->Vals xs us->r x xs H Q ->
  wpAny (model X.prog X.w) X.A (call (.builtin id) (v :: us)) (EP X pins σ Q) X.xe s
section
variable {X:Cx} {a b:Expr} {ta tb:TE} {pos:Pos}
theorem IxR.or {r r':R2} (h:IxR X r) (h':IxR X r'):IxR X (λ x y H Q=>r x y H Q\/r' x y H Q):=by
 intro value slice pins s σ H x y v u Q I rx ry q hs;rcases q with q | q
 ·exact h value slice pins s σ H x y v u Q I rx ry q hs
 ·exact h' value slice pins s σ H x y v u Q I rx ry q hs
theorem ax {r:R2} (hr:IxR X r) (ha:PE X a ta) (hb:PE X b tb) (hs:sX b):PE X (.Subscript a b pos) (tOp r ta tb):=by intro pins s σ H Q I h;exact Subscript_ (wv ha hb I h λ v u s2 x y H2 I2 rx ry q=>hr a b pins s2 σ H2 x y v u Q I2 rx ry q (hs _ _))
inductive rIxL (K:C8) (x:V) (y:V) (H:Hp) (Q:VK):Prop
 | mk (p:Addr) (xs:List V) (i:Int) (v:V) (e_0:x=.ref p) (e_1:y=.int i) (e_2:SqL K H p xs) (e_3:atI xs i=some v) (e_4:Q v H):rIxL K x y H Q
inductive rIxT (K:C8) (x:V) (y:V) (H:Hp) (Q:VK):Prop
 | mk (p:Addr) (xs:List V) (i:Int) (v:V) (e_0:x=.ref p) (e_1:y=.int i) (e_2:SqT K H p xs) (e_3:atI xs i=some v) (e_4:Q v H):rIxT K x y H Q
def CC:R2:=λ x y H Q=>∃z i c,x=.str z/\y=.int i/\z.length<=sizeLine/\atI z.cps.toList i=some c/\Q (.str ⟨#[c]⟩) H
theorem ix_list:IxR X (rIxL X.K):=by
 intro value slice pins s σ H x y v u Q I rx ry h hs;obtain ⟨p,xs,i,z,rfl,rfl,hq,he,q⟩:=h;cases rx;obtain ⟨t,rfl⟩:=ry;obtain ⟨its,r,pl,hz⟩:=I.list hq;obtain ⟨j,h1,h2,h3,h4,h5⟩:=gj he;obtain ⟨w,ew,rw'⟩:=r.get h2;have hl:=r.length;have hn:=eH;have fin:EP X pins σ Q w s:=⟨z,H,I,rw',q⟩
 by_cases h0:0<=i
 ·have hj:i.toNat=j:=by rw [seqIndex_of h0 h5] at h1;exact C1 h1
  exact item_listR pl.isList h0 ⋯ (by rw [hj]; simpa using ew) fin hs
 ·have hj:(i + (its.toArray.size:Int)).toNat=j:=by rw [seqIndex_neg ⋯ h4] at h1;rw [List.size_toArray,<- hl];exact C1 h1
  exact subscriptTail_builtinR (x:=w) pl.isList.typeIs slot_list_getitem.lookup
   (wpAny_getItem_list_neg (Q:=λ r s'=>r=w/\EP X pins σ Q r s') pl.isList ⋯ (by rw [List.size_toArray] <;> lia) ⋯ (by rw [hj]; simpa using ew) ⟨rfl,fin⟩) hs
theorem ix_tup:IxR X (rIxT X.K):=by
 intro value slice pins s σ H x y v u Q I rx ry h hs;obtain ⟨p,xs,i,z,rfl,rfl,hq,he,q⟩:=h;cases rx;obtain ⟨t,rfl⟩:=ry;obtain ⟨its,r,pl,hz⟩:=I.tuple hq;obtain ⟨j,h1,h2,h3,h4,h5⟩:=gj he;obtain ⟨w,ew,rw'⟩:=r.get h2;have hl:=r.length;have hn:=eH;have fin:EP X pins σ Q w s:=⟨z,H,I,rw',q⟩
 exact subscriptTail_builtinR (x:=w) pl.typeIs slot_tuple_getitem.lookup
  (getItem_tuple (j:=j) (Q:=λ r s'=>r=w/\EP X pins σ Q r s') pl ⋯ ⋯ (by rw [List.size_toArray,<- hl]; exact h1) (by simpa using ew) ⟨rfl,fin⟩) hs
theorem wA:IxR X CC:=by
 intro value slice pins s σ H x y v u Q I rx ry h hs;obtain ⟨z,i,c,rfl,rfl,hz,he,q⟩:=h;obtain ⟨t,rfl⟩:=rx;obtain ⟨t',rfl⟩:=ry;obtain ⟨j,h1,h2,h3,h4,h5⟩:=gj he;have hl:z.cps.toList.length=z.length:=by simp [Str.length]
 rw [hl] at h1 h4 h5;have hn:=eH;exact tail_any (typeIs_str s z t) slot_str_getitem.lookup (getItem_str (c:=c) (by
  have e1:decide (i < -(2 ^ 63:Int))=false:=B4 ⋯;have e2:decide (i≥2 ^ 63)=false:=B4 ⋯;rw [e1,e2,Bool.or_false]) (by rw [h1]; simpa using h2) ⟨.str ⟨#[c]⟩,H,I.tok _,⟨_,rfl⟩,q⟩) hs
def rIx (K:C8):R2:=λ x y H Q=>rIxL K x y H Q\/rIxT K x y H Q\/CC x y H Q
theorem bV:IxR X (rIx X.K):=ix_list.or (ix_tup.or wA)
theorem kL (its:List JU) (n j:Nat) (u:JU):Obj.mapSeq (·.setIfInBounds j u) { cls:=.type "list",data:=.seq its.toArray n }={ cls:=.type "list",data:=.seq (its.set j u).toArray n }:=by simp [Obj.mapSeq]
theorem Inv.lst {pins:List (Addr×Obj)} {σ:St} {H:Hp} {s:G7} {p:Addr} {xs:List V} (I:Inv X pins σ H s) (h:H p=↥xs) :
  ∃ (its:List JU) (n:Nat),Vals xs its/\s.heap.get? p=some { cls:=.type "list",data:=.seq its.toArray n }/\xs.length<=sizeLine:=by
 obtain ⟨z,its,n,r,e⟩:=I.hok p _ h;exact ⟨its,n,r,e,z⟩
theorem Inv.lstUpd {pins:List (Addr×Obj)} {σ:St} {H:Hp} {s:G7} {p:Addr} {xs ys:List V} {its its':List JU} {n n':Nat} {f:Obj->Obj} (I:Inv X pins σ H s) (h:H p=↥xs)
  (ho:s.heap.get? p=some { cls:=.type "list", data:=.seq its.toArray n }) (hf:f { cls:=.type "list", data:=.seq its.toArray n }={ cls:=.type "list", data:=.seq its'.toArray n' }) (r:Vals ys its') (hz:ys.length<=sizeLine) (t:Nat) :
  Inv X pins σ (upd H p (.lst ys)) { s with heap:=s.heap.update p f,toks:=t }:=by
 have e:(s.heap.update p f).get? p=some { cls:=.type "list", data:=.seq its'.toArray n' }:=by rw [Heap.get?_update_self f ho (by rw [hf] <;> rfl),hf]
 refine I.write (x:=p) (e:=p) (by rw [h]; trivial) (.inl rfl) (λ b u hb q=>(Heap.get?_update_other _ _ (Ne.symm hb)).trans q) ⟨_,e⟩ ?_;exact ⟨hz,its',n',r,e⟩
inductive rSetL (o:V) (i:V) (v:V) (H:Hp) (Q:Hp->Prop):Prop
 | mk (p:Addr) (xs:List V) (k:Int) (j:Nat) (e_0:o=.ref p) (e_1:i=.int k) (e_2:H p=↥xs) (e_3:ixN xs.length k=some j) (e_4:Q (upd H p (.lst (xs.set j v)))):rSetL o i v H Q
theorem dF:wn X rSetL:=by
 intro pins s σ H o i v ov iv u Q I ro ri rv h;obtain ⟨p,xs,k,j,rfl,rfl,hp,hj,q⟩:=h;cases ro;obtain ⟨t,rfl⟩:=ri;obtain ⟨its,n,r,ho,hz⟩:=I.lst hp;obtain ⟨h1,h2,h3,h4⟩:=mQ hj;have hl:=r.length;have hn:=eH;have I':Inv X pins σ (upd H p (.lst (xs.set j v))) { s with heap:=s.heap.update p (Obj.mapSeq (·.setIfInBounds j u)) } :=
  I.lstUpd hp ho (kL its n j u) (r.set rv j) (by rw [List.length_set]; exact hz) s.toks
 by_cases h0:0<=k
 ·have hk:k.toNat=j:=by rw [seqIndex_of h0 h4] at h1;exact C1 h1
  exact PySem.W.ki_setAt ho h0 ⋯ (by rw [List.size_toArray,<- hl]; exact h4) (by rw [hk]; exact ⟨_,I',q⟩)
 ·have hk:(k + (its.toArray.size:Int)).toNat=j:=by rw [seqIndex_neg ⋯ h3] at h1;rw [List.size_toArray,<- hl];exact C1 h1
  exact PySem.W.ki_setBack ho ⋯ (by rw [List.size_toArray,<- hl]; exact h3) ⋯ (by rw [hk]; exact ⟨_,I',q⟩)
theorem iR (lo hi:Option Int) (n:Nat):(sliceBounds lo hi none n).1=((HT.sIx n 0 lo:Nat):Int)/\(sliceBounds lo hi none n).2.1=((HT.sIx n n hi:Nat):Int)/\(sliceBounds lo hi none n).2.2=1:=by
 refine ⟨?_,?_,Y⟩
 ·cases lo with
  | none=>simp [sliceBounds,HT.sIx]
  | some i =>
   simp only [sliceBounds,HT.sIx,Option.getD_none,show (1:Int) > 0 by decide,if_true]
   by_cases h:i < 0
   ·simp only [h,if_true] <;> lia
   ·simp only [h,if_false] <;> lia
 ·cases hi with
  | none=>simp [sliceBounds,HT.sIx]
  | some i =>
   simp only [sliceBounds,HT.sIx,Option.getD_none,show (1:Int) > 0 by decide,if_true]
   by_cases h:i < 0
   ·simp only [h,if_true] <;> lia
   ·simp only [h,if_false] <;> lia
theorem hX (its:List JU) (lo hi:Option Int):slicePick its.toArray lo hi none=((its.drop (HT.sIx its.length 0 lo)).take (HT.sIx its.length its.length hi - HT.sIx its.length 0 lo)).toArray:=by obtain ⟨h1,h2,h3⟩:=iR lo hi its.toArray.size;unfold slicePick;rw [h1,h2,h3];simp only [sliceRange_one,pick_run,List.size_toArray] <;> rfl
inductive rSlL (K:C8) (x:V) (lo:Option Int) (hi:Option Int) (H:Hp) (Q:VK):Prop
 | mk (a:Addr) (xs:List V) (e_0:x=.ref a) (e_1:SqL K H a xs) (e_2:∀p,H p=none->Q (.ref p) (upd H p (.lst (iQ xs lo hi)))):rSlL K x lo hi H Q
theorem Gz:SlR X (rSlL X.K):=by intro pins s σ H x v vl vu lo hi sl Q I rx hs pl pu h;obtain ⟨a,xs,rfl,hx,q⟩:=h;cases rx;obtain ⟨its,r,ht,hz⟩:=I.list hx;have hlen:=r.length;refine ⟨"list",_,slot_list_getitem.lookup,ht.isList.typeIs,?_⟩;refine wpAny_getItem_list_slice ht.isList hs pl pu .none (by simp) ?_ (by rw [List.size_toArray] <;> lia);rw [hX,<- hlen];refine ⟨.ref s.heap.objs.size,_,I.laid (t':=s.toks) (o:=.lst (iQ xs lo hi)) (λ b ob q=>B0 _ q) (B6 _) ?_,Y,q _ (I.hok.fresh (B6 _))⟩;exact ⟨C9 (fQ xs lo hi) hz,_,0,(r.drop (HT.sIx xs.length 0 lo)).take (HT.sIx xs.length xs.length hi - HT.sIx xs.length 0 lo),B1 _ rfl⟩
def eR:V->Bool
 | .non=>true
 | .bl _=>true
 | .int _=>true
 | .str _=>true
 | _=>false
def eqV:V->V->Bool
 | .non,.non=>true
 | .bl a,.bl b=>a == b
 | .bl a,.int b=>(if a then 1 else 0) == b
 | .int a,.bl b=>a == (if b then 1 else 0)
 | .int a,.int b=>a == b
 | .str a,.str b=>a == b
 | _,_=>false
theorem wB {A:Around} {s:G7} {y x:V} {u v:JU} (ry:RelV y u) (rx:RelV x v) (fy:eR y=true) (fx:eR x=true):SeqAt.EqAt A s u v (eqV y x):=by
 cases y with
 | non =>
  cases ry;cases x with
  | non=>cases rx; exact SeqAt.EqAt.same _
  | bl b=>cases rx; exact SeqAt.EqAt.none_bool b
  | int b=>obtain ⟨t,rfl⟩:=rx; exact SeqAt.EqAt.none_int b t
  | str b=>obtain ⟨t,rfl⟩:=rx; exact SeqAt.EqAt.none_str b t
  | _=>exact absurd (show false=true from fx) B5
 | bl a =>
  cases ry;cases x with
  | non=>cases rx; exact SeqAt.EqAt.bool_none a
  | bl b=>cases rx; exact SeqAt.EqAt.bool_bool a b
  | int b=>obtain ⟨t,rfl⟩:=rx; exact SeqAt.EqAt.bool_int a b t
  | str b=>obtain ⟨t,rfl⟩:=rx; exact SeqAt.EqAt.bool_str a b t
  | _=>exact absurd (show false=true from fx) B5
 | int a =>
  obtain ⟨t',rfl⟩:=ry;cases x with
  | non=>cases rx; exact SeqAt.EqAt.int_none a t'
  | bl b=>cases rx; exact SeqAt.EqAt.int_bool a t' b
  | int b=>obtain ⟨t,rfl⟩:=rx; exact SeqAt.EqAt.int_int a t' b t
  | str b=>obtain ⟨t,rfl⟩:=rx; exact SeqAt.EqAt.int_str a t' b t
  | _=>exact absurd (show false=true from fx) B5
 | str a =>
  obtain ⟨t',rfl⟩:=ry;cases x with
  | non=>cases rx; exact SeqAt.EqAt.str_none a t'
  | bl b=>cases rx; exact SeqAt.EqAt.str_bool a t' b
  | int b=>obtain ⟨t,rfl⟩:=rx; exact SeqAt.EqAt.str_int a t' b t
  | str b=>obtain ⟨t,rfl⟩:=rx; exact SeqAt.EqAt.str_str a t' b t
  | _=>exact absurd (show false=true from fx) B5
 | _=>exact absurd (show false=true from fy) B5
def eqU (x:V) (u:JU):Bool:=match u with
 | .none=>eqV .non x
 | .bool b=>eqV (.bl b) x
 | .int i _=>eqV (.int i) x
 | .str z _=>eqV (.str z) x
 | _=>false
theorem qp {x y:V} {u:JU} (r:RelV y u) (f:eR y=true):eqU x u=eqV y x:=by
 cases y with
 | non=>cases r; rfl
 | bl b=>cases r; rfl
 | int i=>obtain ⟨t,rfl⟩:=r; rfl
 | str z=>obtain ⟨t,rfl⟩:=r; rfl
 | _=>exact absurd (show false=true from f) B5
theorem iS {x:V}:∀ {xs:List V} {us:List JU},Vals xs us->xs.all eR=true->us.any (eqU x)=xs.any λ y=>eqV y x
 | _,_,.nil,_=>rfl
 | y :: xs,u :: us,.cons r t,f=>by rw [List.all_cons,Bool.and_eq_true] at f;rw [List.any_cons,List.any_cons,qp r f.1,iS t f.2]
theorem gF {A:Around} {s:G7} {x:V} {v:JU} (rx:RelV x v) (fx:eR x=true):∀ {xs:List V} {us:List JU},Vals xs us->xs.all eR=true->∀u∈us,SeqAt.EqAt A s u v (eqU x u)
 | _,_,.nil,_=>λ u hu=>by cases hu
 | y :: xs,u :: us,.cons r t,f=>λ u' hu=>by
  rw [List.all_cons,Bool.and_eq_true] at f;rcases List.mem_cons.mp hu with rfl | hu
  ·rw [qp r f.1]; exact wB r rx f.1 fx
  ·exact gF rx fx t f.2 u' hu
def inV (x:V) (xs:List V):Bool:=xs.any λ y=>eqV y x
def rIn (K:C8) (neg:Bool):R2:=λ x y H Q=>∃p xs,y=.ref p/\(SqL K H p xs\/SqT K H p xs)/\eR x=true/\xs.all eR=true/\Q (.bl (if neg then !inV x xs else inV x xs)) H
theorem im:OpR X (compareOp .In) (rIn X.K false):=by
 intro pins s σ H x y v u Q I rx ry h;obtain ⟨p,xs,rfl,hq,fx,fs,q⟩:=h;cases ry;rcases hq with hq | hq
 ·obtain ⟨its,r,pl,hz⟩:=I.list hq;refine SeqAt.in_listAt (eqU x) pl.isList (λ w hw=>gF rx fx r fs w (by simpa using hw)) ⟨.bl _,H,I,rfl,?_⟩;rw [show its.toArray.any (eqU x)=its.any (eqU x) by simp,iS r fs];exact q
 ·obtain ⟨its,r,pl,hz⟩:=I.tuple hq;refine SeqAt.in_tupleAt (eqU x) pl (λ w hw=>gF rx fx r fs w (by simpa using hw)) ⟨.bl _,H,I,rfl,?_⟩;rw [show its.toArray.any (eqU x)=its.any (eqU x) by simp,iS r fs];exact q
theorem aV:cG X (.builtin "len") (λ xs H Q=>∃p ys,xs=[.ref p]/\(SqL X.K H p ys\/SqT X.K H p ys)/\Q (.int ys.length) H):=by
 intro pins s σ H xs us Q I r h;obtain ⟨p,ys,rfl,hq,q⟩:=h;obtain ⟨u,rfl,rx⟩:=eC r;cases rx;have hn:=eH;rcases hq with hq | hq
 ·obtain ⟨its,r',pl,hz⟩:=I.list hq;have hlen:=r'.length;exact Calls.call_len_list pl.isList (by simp only [List.size_toArray] <;> lia) ⟨.int ys.length,H,I.tok _,⟨s.toks + 1,by rw [List.size_toArray,hlen]⟩,q⟩
 ·obtain ⟨its,r',pl,hz⟩:=I.tuple hq;have hlen:=r'.length;exact len_tuple pl (by simp only [List.size_toArray] <;> lia) ⟨.int ys.length,H,I.tok _,⟨s.toks + 1,by rw [List.size_toArray,hlen]⟩,q⟩
theorem cX:cG X (.type "list") (λ xs H Q=>∃p ys,xs=[.ref p]/\(SqL X.K H p ys\/SqT X.K H p ys)/\∀l,H l=none->Q (.ref l) (upd H l (.lst ys))):=by
 intro pins s σ H xs us Q I r h;obtain ⟨p,ys,rfl,hq,q⟩:=h;obtain ⟨u,rfl,rx⟩:=eC r;cases rx;have fin:∀ (its:List JU),Vals ys its->ys.length<=sizeLine->∀ (h':Heap) (c':Nat),(∀b o',s.heap.get? b=some o'->h'.get? b=some o') ->
   h'.get? s.heap.objs.size=some { cls:=.type "list", dict:=none, data:=.seq its.toArray c', slots:=#[] }->EP X pins σ Q (.ref s.heap.objs.size) { s with heap:=h' }:=λ its r' hz h' c' kp e =>
  ⟨.ref s.heap.objs.size,_,I.laid (t':=s.toks) kp (B6 _) (show ObjOk X.prog X.w _ h' _ (.lst ys) from ⟨hz,its,c',r',e⟩),rfl,q _ (I.hok.fresh (B6 _))⟩
 rcases hq with hq | hq
 ·obtain ⟨its,r',pl,hz⟩:=I.list hq;have hlen:=r'.length;obtain ⟨o,ho,hc,n,hd⟩:=pl.isList;exact call_list_seq p (.inl rfl) ho hc hd (λ h' c' kp e=>fin its r' hz h' c' kp e) (by simp only [List.size_toArray] <;> lia)
 ·obtain ⟨its,r',pl,hz⟩:=I.tuple hq;have hlen:=r'.length;obtain ⟨o,ho,hc,n,hd⟩:=pl;exact call_list_seq p (.inr rfl) ho hc hd (λ h' c' kp e=>fin its r' hz h' c' kp e) (by simp only [List.size_toArray] <;> lia)
theorem bO:cG X (.type "tuple") (λ xs H Q=>∃p ys,xs=[.ref p]/\((SqL X.K H p ys/\∀l,H l=none->Q (.ref l) (upd H l (.tup ys)))\/(SqT X.K H p ys/\Q (.ref p) H))):=by
 intro pins s σ H xs us Q I r h;obtain ⟨p,ys,rfl,h⟩:=h;obtain ⟨u,rfl,rx⟩:=eC r;cases rx;rcases h with ⟨hq,q⟩ | ⟨hq,q⟩
 ·obtain ⟨its,r',pl,hz⟩:=I.list hq;have hlen:=r'.length;refine call_tuple_list pl.isList (λ h' kp=>?_) (by simp only [List.size_toArray] <;> lia);have I1:Inv X pins σ H { s with heap:=h' }:=I.kept (t':=s.toks) kp;have I2:Inv X pins σ (upd H h'.objs.size (.tup ys)) { s with heap:=h'.push { cls:=.type "tuple", data:=.seq its.toArray } } :=
   I1.laid (t':=s.toks) (λ b o e=>B0 _ e) (B6 _) (show ObjOk X.prog X.w _ _ _ (.tup ys) from ⟨hz,its,r',IsTup.new _ _⟩)
  exact ⟨.ref h'.objs.size,_,I2,Y,q _ (I1.hok.fresh (B6 _))⟩
 ·obtain ⟨its,r',pl,hz⟩:=I.tuple hq;exact call_tuple_same pl ⟨.ref p,H,I,rfl,q⟩
def tyV (K:C8) (T:String) (x:V) (H:Hp):Prop:=match x with
 | .str _=>T = "str"
 | .int _=>T = "int"
 | .ref p=>(T = "list" /\ ∃xs,SqL K H p xs)\/(T = "tuple" /\ ∃o,K.lookup p=some o/\o.cls=.type "tuple" /\ o.dict=none) \/
   (T = "dict" /\ ((∃kvs,H p=some (.dK kvs))\/∃kvs,H p=some (.dT kvs)))\/(T = "set" /\ ∃S n,H p=some (.set S n))
 | _=>False
theorem qq {pins:List (Addr×Obj)} {σ:St} {H:Hp} {s:G7} {T:String} {x:V} {v:JU} (I:Inv X pins σ H s) (r:RelV x v) (ty:tyV X.K T x H) :
  s.TypeIs v T/\∀a,v=.ref a->∃ob,s.heap.get? a=some ob/\ob.dict=none:=by
 cases x with
 | str z =>
  obtain ⟨t,rfl⟩:=r;cases (show T = "str" from ty);exact ⟨typeIs_str s z t,λ _ e=>nomatch e⟩
 | int i =>
  obtain ⟨t,rfl⟩:=r;cases (show T = "int" from ty);exact ⟨typeIs_int s i t,λ _ e=>nomatch e⟩
 | ref p =>
  cases r;rcases ty with ⟨rfl,xs,hq⟩ | ⟨rfl,o,hk,hc,hd⟩ | ⟨rfl,hk⟩ | ⟨rfl,S,n,hk⟩
  ·obtain ⟨its,_,pl,_⟩:=I.list hq;refine ⟨pl.isList.typeIs,λ a e=>?_⟩;cases e;obtain ⟨o,n,e,c,hd,_⟩:=pl;exact ⟨o,e,hd⟩
  ·refine ⟨⟨o,I.kIn p o hk,hc⟩,λ a e=>?_⟩;cases e;exact ⟨o,I.kIn _ o hk,hd⟩
  ·have z:∃o,s.heap.get? p=some o/\o.ExactDict:=by
    rcases hk with ⟨kvs,hk⟩ | ⟨kvs,hk⟩
    ·obtain ⟨_,_,_,_,o,_,_,e,ex,_⟩:=I.hok p _ hk;exact ⟨o,e,ex⟩
    ·obtain ⟨_,_,_,_,o,_,_,e,ex,_⟩:=I.hok p _ hk;exact ⟨o,e,ex⟩
   obtain ⟨o,e,ex⟩:=z;refine ⟨⟨o,e,ex.1⟩,λ a e2=>?_⟩;cases e2;exact ⟨o,e,ex.2.1⟩
  ·obtain ⟨o,_,_,_,e,ex,_⟩:=I.hok p _ hk;refine ⟨⟨o,e,ex.1⟩,λ a e2=>?_⟩;cases e2;exact ⟨o,e,ex.2.1⟩
 | _=>exact E9 ty
def GR (K:C8) (T:String) (r:V->List V->Hp->VK->Prop) (to:TE):TE:=λ σ H Q=>to σ H λ x H1=>tyV K T x H1/\r x [] H1 Q
def tBM (K:C8) (T:String) (r:V->List V->Hp->VK->Prop) (to:TE) (t:TA):TE:=λ σ H Q=>to σ H λ x H1=>tyV K T x H1/\t σ H1 λ xs H2=>r x xs H2 Q
variable {o e:Expr} {es:List Expr} {to:TE} {t:TA} {name:Str} {apos cpos:Pos} {T id:String} {r:V->List V->Hp->VK->Prop}
theorem kM (pa:PlainAttrs T) (slot:Slot T name id) (hty:typeOf (.builtin id)=pure (.type "method_descriptor")) (hm:MtR X id r) (ho:PE X o to)
  (hbase:attributeBase o name X.env (eval o X.env)=eval o X.env:=by rfl) (hline:(apos.endLine == cpos.line)=true:=by rfl):PE X (.Call (.Attribute o name apos) [] [] cpos) (GR X.K T r to):=by
 intro pins s σ H Q I h;refine wpAny_Call_method0_late hbase hline (thn (ho pins s σ H _ I h) λ v s1 ⟨x,H1,I1,r1,ty,q1⟩=>?_);obtain ⟨h1,h2⟩:=qq I1 r1 ty;exact ⟨T,id,pa,slot,hty,h1,h2,Calls.callWith_builtin rfl (PySem.evalArgs_none (hm pins s1 σ H1 x [] v [] Q I1 r1 .nil q1))⟩
theorem dA (pa:PlainAttrs T) (slot:Slot T name id) (hty:typeOf (.builtin id)=pure (.type "method_descriptor")) (hm:MtR X id r) (ho:PE X o to) (ha:PA X (e :: es) t)
  (hbase:attributeBase o name X.env (eval o X.env)=eval o X.env:=by rfl)
  (hfew:((backTo cpos (starEach (e :: es) X.env)).all (λ x=>!x.1) && (backToKw cpos (keywordEach [] X.env)).all (λ x=>x.1.isSome)
   && decide ((e :: es).length + ([]:List Keyword).length + (if ([]:List Keyword).isEmpty then 0 else 1) < 30))=true:=by rfl)
  (hline:(apos.endLine == cpos.line)=true:=by rfl) (hs:starEach (e :: es) X.env=(false,eval e X.env) :: starEach es X.env:=by rfl) (hplain:(backTo cpos (starEach es X.env)).any (·.1)=false:=by rfl) :
  PE X (.Call (.Attribute o name apos) (e :: es) [] cpos) (tBM X.K T r to t):=by
 intro pins s σ H Q I h;refine wpAny_Call_method_late hbase hfew hline rfl (thn (ho pins s σ H _ I h) λ v s1 ⟨x,H1,I1,r1,ty,q1⟩=>?_);obtain ⟨h1,h2⟩:=qq I1 r1 ty;refine ⟨T,id,pa,slot,hty,h1,h2,?_⟩;have hA:=ha cpos pins s1 σ H1 _ I1 q1;rw [hs] at hA ⊢;refine Calls.callWith_builtin (by show (false || (backTo cpos (starEach es X.env)).any (·.1))=false; rw [hplain] <;> rfl) (Calls.evalArgs_plain ?_);exact thn hA λ us s2 ⟨vs,H2,I2,r2,q2⟩=>hm pins s2 σ H2 x vs v us Q I2 r1 r2 q2
/- xs.append(e),list.index on a module's tuple .. are MtR facts of 06m -/
end
def MtM (X:Cx) (id:String) (r:V->List V->Hp->VK->Prop):Prop :=
 ∀ (pins:List (Addr×Obj)) (s:G7) (σ:St) (H:Hp) (x:V) (xs:List V) (v:JU) (us:List JU) (Q:VK),Inv X pins σ H s->RelV x v->Vals xs us->r x xs H Q ->
  wpAny (model X.prog X.w) X.A (call (.builtin id) (v :: us)) (EP X pins σ Q) X.xe s
theorem Vals.one:∀ {x:V} {us:List JU},Vals [x] us->∃u,us=[u]/\RelV x u
 | _,_,.cons r .nil=>⟨_,Y,r⟩
theorem Vals.zero:∀ {us:List JU},Vals [] us->us=[]
 | _,.nil=>rfl
theorem Vals.dropLast {xs:List V} {us:List JU} (h:Vals xs us):Vals xs.dropLast us.dropLast:=by
 induction h with
 | nil=>exact .nil
 | cons r t ih =>
  cases t with
  | nil=>exact .nil
  | cons q t'=>exact .cons r ih
theorem kN {α:Type} (l:List α):l.eraseIdx (l.length - 1)=l.dropLast:=by
 induction l with
 | nil=>rfl
 | cons a r ih =>
  cases r with
  | nil=>rfl
  | cons b r =>
   have e:(a :: b :: r).length - 1=((b :: r).length - 1) + 1:=by have h1:(a :: b :: r).length=r.length + 2:=rfl;have h2:(b :: r).length=r.length + 1:=rfl;lia
   rw [e,List.eraseIdx_cons_succ,ih]
   all_goals rfl
section
variable {X:Cx} {pins:List (Addr×Obj)} {σ:St} {H:Hp} {s:G7} {l b:Addr} {xs ys zs:List V}
theorem Inv.lset {its its':List JU} {n:Nat} {f:Array JU->Array JU} {t':Nat} (I:Inv X pins σ H s) (hH:H l=↥xs)
  (e:s.heap.get? l=some { cls:=.type "list", data:=.seq its.toArray n }) (hf:f its.toArray=its'.toArray) (hv:Vals ys its') (hz:ys.length<=sizeLine) :
  Inv X pins σ (upd H l (.lst ys)) { s with heap:=s.heap.update l (Obj.mapSeq f),toks:=t' }:=by
 have q:=PySem.IsL.update e f;rw [hf] at q;refine I.write (x:=l) (e:=l) (by rw [hH]; exact trivial) (.inl rfl) (λ b' u hb hu=>(Heap.get?_update_other s.heap (Obj.mapSeq f) (Ne.symm hb)).trans hu) ⟨_,q⟩ ?_;exact ⟨hz,its',_,hv,q⟩
theorem Inv.lnew {its:List JU} {t':Nat} (I:Inv X pins σ H s) (hv:Vals ys its) (hz:ys.length<=sizeLine) :
  Inv X pins σ (upd H s.heap.objs.size (.lst ys)) { s with heap:=s.heap.push { cls:=.type "list", data:=.seq its.toArray }, toks:=t' } :=
 I.laid (λ _ _ q=>B0 _ q) (B6 _) ⟨hz,its,0,hv,B1 _ rfl⟩
theorem Inv.fresh (I:Inv X pins σ H s):H s.heap.objs.size=none:=I.hok.fresh (B6 _)
theorem Inv.lstM (I:Inv X pins σ H s) (hH:H l=↥xs):xs.length<=sizeLine/\∃ (its:List JU) (n:Nat),Vals xs its/\xs.length=its.length/\s.heap.get? l=some { cls:=.type "list",data:=.seq its.toArray n }:=by obtain ⟨z,its,n,r,e⟩:=I.hok l _ hH;exact ⟨z,its,n,r,r.length,e⟩
theorem qr {n:Nat} (h:n<=sizeLine):Builtin.List.listTooLong n=false:=by unfold Builtin.List.listTooLong;exact B4 ⋯
end
section
variable {X:Cx}
inductive rAppend (x:V) (vs:List V) (H:Hp) (Q:VK):Prop
 | mk (l:Addr) (xs:List V) (y:V) (e_0:x=.ref l) (e_1:vs=[y]) (e_2:H l=↥xs) (e_3:xs.length < sizeLine) (e_4:Q .non (upd H l (.lst (xs ++ [y])))):rAppend x vs H Q
theorem bE:MtM X "list.append" rAppend:=by intro pins s σ H x vs v us Q I rx rv h;obtain ⟨l,xs,y,rfl,rfl,hH,hz,q⟩:=h;cases rx;obtain ⟨u,rfl,ru⟩:=rv.one;obtain ⟨z,its,n,r,hl,e⟩:=I.lstM hH;refine call_meets F.slot_list_append ⟨_,e,Y⟩ F.entry_list_append (F.args_list_append_2 _ _) (PySem.list_append l its.toArray n u (by rw [List.size_toArray]; lia)) ⟨e,?_⟩;refine ⟨.non,_,I.lset (its':=its ++ [u]) hH e (by simp) (r.append (.cons ru .nil)) ?_,Y,q⟩;rw [List.length_append,List.length_singleton];lia
def sY:V->List V->Hp->VK->Prop:=λ x vs H Q=>∃l b xs zs,x=.ref l/\vs=[.ref b]/\H l=↥xs/\H b=↥zs/\xs.length + zs.length<=sizeLine/\Q .non (upd H l (.lst (xs ++ zs)))
theorem io:MtM X "list.extend" sY:=by
 intro pins s σ H x vs v us Q I rx rv h;obtain ⟨l,b,xs,zs,rfl,rfl,hH,hB,hz,q⟩:=h;cases rx;obtain ⟨u,rfl,ru⟩:=rv.one;cases ru;obtain ⟨z,its,n,r,hl,e⟩:=I.lstM hH;obtain ⟨z2,its2,n2,r2,hl2,e2⟩:=I.lstM hB;have hsz:its.toArray.size + its2.toArray.size<=sizeLine:=by rw [List.size_toArray,List.size_toArray]; lia
 have hlong:¬ (!its.toArray.isEmpty && Builtin.List.listTooLong (its.toArray.size + its2.toArray.size))=true:=by rw [qr hsz,Bool.and_false];exact B5
 refine call_meets F.slot_list_extend ⟨_,e,Y⟩ F.entry_list_extend (F.args_list_extend_2 _ _)
  (AutoSeq1.list_extend_list_list_0 l its.toArray n b its2.toArray n2 hlong (by rw [List.size_toArray]; lia) ⋯) ⟨e,e2,?_⟩
 refine ⟨.non,_,I.lset (its':=its ++ its2) hH e (by simp) (r.append r2) ?_,Y,q⟩;rw [List.length_append];lia
def GS:V->List V->Hp->VK->Prop:=λ x vs H Q=>∃l xs y,x=.ref l/\vs=[]/\H l=↥xs/\xs[xs.length - 1]? = some y/\Q y (upd H l (.lst xs.dropLast))
theorem kO:MtM X "list.pop" GS:=by
 intro pins s σ H x vs v us Q I rx rv h;obtain ⟨l,xs,y,rfl,rfl,hH,hy,q⟩:=h;cases rx;have hus:=rv.zero;subst hus;obtain ⟨z,its,n,r,hl,e⟩:=I.lstM hH;obtain ⟨u,hu,ru⟩:=r.get hy;have hy':its.toArray[its.toArray.size - 1]? = some u:=by show its.toArray[its.length - 1]? = some u;rw [<- Array.getElem?_toList,<- hl];exact hu
 refine call_meets F.slot_list_pop ⟨_,e,Y⟩ F.entry_list_pop (F.args_list_pop_1 _) (MeetsSeq.list_pop_last l its.toArray n u hy' (by rw [List.size_toArray]; lia)) ⟨e,?_⟩;refine ⟨y,_,I.lset (its':=its.dropLast) hH e ?_ r.dropLast ?_,ru,q⟩
 ·show its.toArray.eraseIdxIfInBounds (its.toArray.size - 1)=its.dropLast.toArray;rw [List.size_toArray,List.eraseIdxIfInBounds_toArray,kN]
 ·rw [List.length_dropLast];lia
inductive rCat (x:V) (y:V) (H:Hp) (Q:VK):Prop
 | mk (l:Addr) (b:Addr) (xs:List V) (zs:List V) (e_0:x=.ref l) (e_1:y=.ref b) (e_2:H l=↥xs) (e_3:H b=↥zs) (e_4:xs.length + zs.length<=sizeLine) (e_5:∀p,H p=none->Q (.ref p) (upd H p (.lst (xs ++ zs)))):rCat x y H Q
theorem wC:OpR X (binaryOp .Add) rCat:=by
 intro pins s σ H x y v u Q I rx ry h;obtain ⟨l,b,xs,zs,rfl,rfl,hH,hB,hz,q⟩:=h;cases rx;cases ry;obtain ⟨z,its,n,r,hl,e⟩:=I.lstM hH;obtain ⟨z2,its2,n2,r2,hl2,e2⟩:=I.lstM hB;refine PySem.P.add_list e e2 ?_ (by rw [List.size_toArray,List.size_toArray]; lia);have ea:its.toArray ++ its2.toArray=(its ++ its2).toArray:=by simp
 rw [ea];exact ⟨.ref _,_,I.lnew (t':=s.toks) (r.append r2) (by rw [List.length_append]; lia),Y,q _ I.fresh⟩
end
end L2
namespace Att
open PySem PySem.W PySem.Calls PyProof.Rows
theorem fX {P:Params} {h:Heap}:∀ (ns:List Int) (vs:List JU),WellAll P h vs (ns.map WData.int)->IntsAre vs ns:=by
 intro ns
 induction ns with
 | nil =>
  intro vs w;rw [List.map_nil] at w;cases w;exact .nil
 | cons n ns ih =>
  intro vs w;rw [List.map_cons] at w;cases w with
  | cons a b =>
   cases a;exact .cons _ _ (ih _ b)
theorem oq {l:OpenLaw} {n:Nat} (hn:l.most=some n) {P:Params} {h:Heap} {args:List WData} {vals:List JU}
  (hpre:l.row.toRowW.claim.pre args=true) (hwl:WellAll P h vals args) :
  ∃a vs ns,vals=[Value.ref a]/\args=[WData.list (ns.map WData.int)]/\h.get? a=some { cls:=.type "list",data:=.seq vs.toArray }/\IntsAre vs ns/\ns.length<=n:=by
 have hsh:WShape.hasAll [] args [.list .int]=true:=(pre_splitW hpre).1;have hc:l.pre.holds [] { args:=args }=true:=(pre_splitW hpre).2;obtain ⟨d,r,rfl,h1,h2⟩:=hasAllW_cons hsh;obtain rfl:=hasAllW_nil h2;obtain ⟨xs,rfl,h3⟩:=hasW_list h1;obtain ⟨ns,rfl⟩:=items_int h3;have hlen:ns.length<=n:=by
  unfold OpenLaw.pre at hc;have h4:(WTm.not (.lt (.lit (.int (n:Int))) (.len (.arg 0)))).holds [] { args:=[.list (ns.map .int)] }=true:=by have h4:=(holds_andW hc).1;rw [hn] at h4;exact h4
  have h5:=condW_of h4 (w_not (w_lt w_lit (w_len_list (w_arg rfl))));rw [List.length_map] at h5;refine Nat.le_of_not_lt λ q=>?_;have q':(n:Int) < ((ns.length:Nat):Int):=⋯
  first
   | (rw [decide_eq_true q'] at h5; exact absurd h5 ∅)
   | (simp at h5; lia)
 cases hwl with
 | cons w1 w2 =>
  cases w2;cases w1 with
  | list ho hall=>exact ⟨_,_,ns,Y,Y,ho,fX ns _ hall,hlen⟩
theorem ou (l:OpenLaw) (args:List WData):l.row.toRowW.claim.post args (.bool true) args=true :=
 postW_of (r:=l.row.toRowW) (X:=(true == true))
  (show WShape.has [] (.bool true) .bool=true by first | rfl | decide | simp [WShape.has,WShape.arms,WShape.armsAll])
  (show (WTm.eq .res (.lit (.bool true))).value [] { args:=args,res:=some (.bool true),after:=args }=some (.bool (true == true)) from w_eq_bool (w_res rfl) w_lit) rfl
theorem attach_call {l:OpenLaw} {n:Nat} {q:G8} {loose:List Str} {XP:(Str->Option JU)->Heap->Prop} {YP:JT->Heap->Prop} {d:DefRec}
  (hn:l.most=some n) (hdf:d.params.defaults=[])
  (call:∀ (w:JT) (s₀ s₁:G7) (mg mb:Str->Option JU) (fa:Addr) (o:Obj) (pm cd doc:JU) (a:Addr) (vs:List JU) (ns:List Int),
   Ground q loose [] XP w s₀ mg mb s₁.heap->YP w s₁.heap ->
   s₁.heap.get? fa=some o->o.data=.func (docDef d.name d.params d.body d.scope pm cd doc)->s₁.heap.CodeRec cd d.name->mg d.name=↑fa ->
   s₁.heap.get? a=some { cls:=.type "list",data:=.seq vs.toArray }->IntsAre vs ns->ns.length<=n->s₁.gens=#[] ->
   codeAny (model l.prog w) callerA (.call (.ref fa) ⟨[.ref a],[]⟩) (λ r s'=>r=.ok (.ret (.bool true))/\OldK s₁.heap s'.heap/\s'.os=s₁.os/\AllBare s'.gens) s₁) :
  WalkO q loose XP YP l.row.toRowW d [] (λ f vs=>PySem.call f vs):=by
 intro w s₀ s₁ mg mb G YY0 fa o pm cd doc dV kV ho hd hcd hD hmg hg args vals as hpre hlay hrd hwl hlo;obtain rfl:dV=.none:=Dflts.none hD hdf;obtain rfl:kV=.none:=Dflts.noKw hD;obtain ⟨a,vs,ns,rfl,rfl,hobj,hints,hlen⟩:=oq hn hpre hwl;refine enter_call (codeAny_mono (call w s₀ s₁ mg mb fa o pm cd doc a vs ns G YY0 ho (fd_plain hd) hcd hmg hobj hints hlen hg) λ r s' hq=>?_);obtain ⟨rfl,h2,h3,h4⟩:=hq;exact ⟨.inl ⟨.bool true,.bool true,[],Y,λ _=>rfl,.bool true,ou l _,λ _=>⟨List.Pairwise.nil,λ _ hm=>(nomatch hm)⟩⟩,h2,h3,h4⟩
section
variable {prog:G8} {w:JT} {A:Around} {E:JU->G7->Prop} {s:G7} {K:Frag}
def GT (h:Heap) (L d:Addr):List (Addr×Obj):=(List.range h.objs.size).filterMap λ a=>if a=L\/a=d then none else (h.get? a).map λ o=>(a,o)
end
end Att
namespace L2
open PySem PySem.Spec PyProof.Rows
theorem ip:∀ {vs:List JU} {ns:List Int},IntsAre vs ns->Vals (ns.map V.int) vs
 | _,_,.nil=>.nil
 | _,_,.cons n t h=>.cons ⟨t,Y⟩ (ip h)
def wD (H:Hp):Prop:=∀b,H b=none\/∃o xs,H b=some (.frz o (.lst xs))
theorem qt {P:G8} {w:JT} {K:C8} {mg mb:Str->Option JU} {CX:CXT} {k:Nat} {fa a:Addr} {fd:I9} {x:Str} {sp:Sp} {s₁:G7} {vs:List JU} {ns:List Int}
  (KX:K.In s₁.heap) (hns:s₁.heap.Ns mainGlobals mg) (hb:s₁.heap.Ns builtinsNs mb) (hbb:∀x:Str,x ≠ "__name__" -> mb x=bootBuiltins x) (hlim:s₁.heap.NoLimit) (hg:s₁.gens=#[])
  (ha:s₁.heap.get? a=some { cls:=.type "list",data:=.seq vs.toArray }) (hi:IntsAre vs ns) (hl:ns.length<=sizeLine) (hr:Room k callerA)
  (F:∀base:Heap,K.In base->base.Ns mainGlobals mg->FnOk P w K mg base CX k fa fd [x] sp) (hbind:∀ (s:G7) (u:JU),BindsTo s fd ⟨[u],[]⟩ [(x,u)])
  (hsp:∀H:Hp,wD H->SqL K H a (ns.map V.int)->sp [.ref a] H (λ v _=>v=.bl true) λ _ _ _=>False)
  (hCX:∀H e s',CX [] H s₁ (λ _ _ _=>False) e s'->False) :
  codeAny (model P w) callerA (.call (.ref fa) ⟨[.ref a],[]⟩) (λ r s'=>r=.ok (.ret (.bool true))/\OldK s₁.heap s'.heap/\s'.os=s₁.os/\AllBare s'.gens) s₁:=by
 have rv:=ip hi;have lenV:=hi.length;have core:∀H:Hp,wD H->SqL K H a (ns.map V.int)->HOk P w H s₁.heap->(∀b,H b≠none->b=a)->(H a≠none->K.lookup a=none) ->
   codeAny (model P w) callerA (.call (.ref fa) ⟨[.ref a],[]⟩) (λ r s'=>r=.ok (.ret (.bool true))/\OldK s₁.heap s'.heap/\s'.os=s₁.os/\AllBare s'.gens) s₁:=by
  intro H hO hS hok hA hK;have base_of:∀ {b:Addr} {o:Obj},s₁.heap.get? b=some o->H b=none->(iH s₁.heap H).get? b=some o:=λ e n=>pZ e n;have noA:∀ {b:Addr} {o:Obj} {es:Array DictEntry} {ep:Nat},s₁.heap.get? b=some o->o.data=.dict es ep->H b=none:=λ {b o es ep} e d=>by
   cases q:H b with
   | none=>rfl
   | some u =>
    have e':b=a:=hA b (by rw [q]; simp);subst e';rw [ha] at e; cases e;have d':Data.seq vs.toArray _=Data.dict es ep:=d;cases d'
  have nsK:∀ {b:Addr} {m:Str->Option JU},s₁.heap.Ns b m->(iH s₁.heap H).Ns b m:=λ {b m} ⟨o,es,ep,e,d,r⟩=>⟨o,es,ep,base_of e (noA e d),d,r⟩
  have hKb:K.In (iH s₁.heap H):=λ b o e=>base_of (KX b o e) (by
   cases q:H b with
   | none=>rfl
   | some u =>
    have e':b=a:=hA b (by rw [q]; simp);subst e';rw [hK (by rw [q]; simp)] at e; cases e)
  have hM:Mod K mg (iH s₁.heap H):=⟨hKb,nsK hns,⟨mb,nsK hb,hbb⟩,let ⟨mc,h1,h2⟩:=hlim; ⟨mc,nsK h1,h2⟩⟩
  have e0:Env0 P w K mg (iH s₁.heap H) callerA [] s₁ H:=⟨Y,hM,λ b o e=>sI e,Nat.le_of_eq (nY _ _),trivial,λ b hb=>absurd (show b∈([]:List Addr) from hb) (by simp),hok,.of_eq hg⟩
  refine codeAny_mono ((F _ hKb (nsK hns)).run callerA [] s₁ H ⟨[.ref a],[]⟩ [.ref a] [.ref a] _ _ hr e0 (hbind s₁ (.ref a)) (.cons rfl .nil) (hsp H hO hS)) λ r s' h=>?_;cases r with
  | error e=>exact (hCX H e s' h).elim
  | ok fl =>
   cases fl with
   | next=>exact E9 h
   | brk=>exact E9 h
   | cont=>exact E9 h
   | ret u =>
    obtain ⟨v,H',os,bare,un,hok',r',q⟩:=h;have q':v=.bl true:=q;subst q';obtain rfl:u=Value.bool true:=r';refine ⟨Y,OldK.of_keep λ b o e=>?_,os,bare⟩;cases q:H b with
    | none=>exact un.keep b o e q (by intro z; exact absurd (show b∈([]:List Addr) from z) (by simp)) (by simp)
    | some u =>
     rcases hO b with z | ⟨ob,xs,z⟩
     ·rw [q] at z; cases z
     ·have z2:=un.frzs b ob _ z;obtain ⟨e1,_⟩:=hok b _ z;obtain ⟨e2,_⟩:=hok' b _ z2;rw [e] at e1; cases e1;exact e2
 cases hk:K.lookup a with
 | some o =>
  have e:=KX a o hk;rw [ha] at e;cases e;refine core (λ _=>none) (λ _=>.inl rfl) (.inr ⟨_,vs.toArray,_,hk,Y,Y,Y,by rw [List.size_toArray,lenV]; exact hl,by simpa using rv⟩) (λ b u z=>by have z':(none:Option HO)=some u:=z; cases z') (λ b z=>absurd rfl z) λ z=>absurd rfl z
 | none =>
  refine core (λ b=>if b=a then some (.frz { cls:=.type "list",data:=.seq vs.toArray } (.lst (ns.map V.int))) else none) (λ b=>?_) (.inl (.inr ⟨{ cls:=.type "list",data:=.seq vs.toArray },if_pos rfl⟩)) (λ b u z=>?_) (λ b z=>?_) λ _=>hk
  ·by_cases hb:b=a
   ·exact .inr ⟨_,_,if_pos hb⟩
   ·exact .inl (if_neg hb)
  ·by_cases hb:b=a
   ·have z':=(if_pos hb).symm.trans z;cases z';subst hb;exact ⟨ha,by rw [List.length_map]; exact hl,vs,_,rv,ha⟩
   ·have z':=(if_neg hb).symm.trans z;cases z'
  ·by_cases hb:b=a
   ·exact hb
   ·exact absurd (if_neg hb) z
theorem walk_of {l:PySem.W.OpenLaw} {n k:Nat} {q:G8} {loose:List Str} {XP:(Str->Option JU)->Heap->Prop} {YP:JT->Heap->Prop} {d:DefRec} {K:Params->C8} {CX:JT->CXT} {sp:JT->Sp} {x:Str}
  (hn:l.most=some n) (hn2:n<=sizeLine) (hdf:d.params.defaults=[]) (hr:Room k callerA)
  (hY:∀ (w:JT) (h:Heap),YP w h->(K w.params).In h)
  (F:∀ (w:JT) (mg:Str->Option JU) (fa:Addr) (h:Heap),(K w.params).In h->h.Ns mainGlobals mg->mg d.name=↑fa ->
   ∃fd:I9,(∀ (s:G7) (u:JU),BindsTo s fd ⟨[u],[]⟩ [(x,u)]) /\
    ∀base:Heap,(K w.params).In base->base.Ns mainGlobals mg->FnOk l.prog w (K w.params) mg base (CX w) k fa fd [x] (sp w))
  (hsp:∀ (w:JT) (H:Hp) (a:Addr) (ns:List Int),ns.length<=n->wD H->SqL (K w.params) H a (ns.map V.int)->sp w [.ref a] H (λ v _=>v=.bl true) λ _ _ _=>False)
  (hCX:∀ (w:JT) (H:Hp) (s:G7) (e:JU) (s':G7),CX w [] H s (λ _ _ _=>False) e s'->False) :
  PySem.W.WalkO q loose XP YP l.row.toRowW d [] (λ f vs=>PySem.call f vs):=by
 refine Att.attach_call hn hdf λ w s₀ s₁ mg mb fa o pm cd doc a vs ns G YY0 ho hd hcd hmg hobj hints hlen hg=>?_;have KX:=hY w _ YY0;obtain ⟨fd,hb,hF⟩:=F w mg fa _ KX G.T.g hmg;exact qt KX G.T.g G.T.b G.T.builtins G.T.nolimit hg hobj hints (C9 hlen hn2) hr hF hb (λ H hO hS=>hsp w H a ns hlen hO hS) λ H e s'=>hCX w H s₁ e s'
def inClass (s:Stmt) (j:Nat):Stmt:=match s with
 | .ClassDef _ _ _ body _ _ _ _ _ _ _=>body.getD j (.Pass ⟨0,0,0,0⟩)
 | _=>.Pass ⟨0,0,0,0⟩
def defArgs (s:Stmt):Arguments:=match s with
 | .FunctionDef _ a _ _ _ _ _ _ _ _=>a
 | _=>{ posonlyargs:=[],args:=[],vararg:=none,kwonlyargs:=[],kw_defaults:=[],kwarg:=none,defaults:=[] }
def defBody (s:Stmt):List Stmt:=match s with
 | .FunctionDef _ _ b _ _ _ _ _ _ _=>b
 | _=>[]
def defScope (s:Stmt):Scope:=match s with
 | .FunctionDef _ _ _ _ _ _ sc _ _ _=>sc
 | _=>{ kind:=.function,names:=[],isGenerator:=false,isCoroutine:=false }
abbrev CX0:CXT:=λ _ _ _ _ _ _=>False
abbrev E0:XK:=λ _ _ _=>False
theorem mR {X:Cx}:eJ CX0 X E0:=λ _ _ _ _ _ _ _ h=>h.elim
structure Fun (K:C8) (x qual:Str) (st:Stmt) (f:Addr) (fd:FuncData):Prop where
 ex:∃ (oc:JU) (od:Option Addr) (kV doc pm:JU) (an:Option Addr) (cdv ct:JU) (osl:Array (Option JU)),
  fd=E8 x qual (defArgs st) (defBody st) (defScope st) .none kV doc pm an cdv ct/\K.lookup f=some ⟨oc,od,.func fd,osl⟩/\PySem.W.codeIn K cdv qual=true
 kp:PySem.W.keepIn K (.ref f)=true
section
variable {P:G8} {w:JT} {K:C8} {mg:Str->Option JU} {base:Heap}
theorem Fun.ok {x qual:Str} {st:Stmt} {f:Addr} {fd:I9} {N ps:List Str} {k:Nat} {sp:Sp} (F:Fun K x qual st f fd) (S:FnScope N ps (defScope st)) (len:∀vs H Q E,sp vs H Q E->vs.length=ps.length)
  (hbody:∀ (cdv:JU) (A:Around) (outer:List Env) (s:G7) (H:Hp) (vs:List V) (Q:VK) (E:XK),Room k (A.deeper (envOfC qual (defScope st) s.heap.objs.size f cdv))->sp vs H Q E ->
   ∃t,PSs (iP CX0 P w K mg base N qual (defScope st) f cdv A outer s H E).nox (defBody st) t/\t { nx:=λ _ H'=>Q .non H',rt:=Q } (eQ N vs) H):FnOk P w K mg base CX0 (k + 1) f fd ps sp:=by
 obtain ⟨oc,od,kV,doc,pm,an,cdv,ct,osl,rfl,lk,hcd⟩:=F.ex;refine vU lk hcd S len λ A outer s H vs Q E hr hsp=>?_;obtain ⟨t,h,q⟩:=hbody cdv A outer s H vs Q E hr hsp;exact ⟨t,h.nox,q⟩
theorem Fun.binds {x qual:Str} {st:Stmt} {f:Addr} {fd:I9} {ps:List Str} (F:Fun K x qual st f fd)
  (h:∀ (kV doc pm:JU) (an:Option Addr) (cdv ct:JU) (us:List JU),us.length=ps.length->bindArgs (E8 x qual (defArgs st) (defBody st) (defScope st) .none kV doc pm an cdv ct) ⟨us,[]⟩=pure (ps.zip us)):Binds K fd ps []:=by
 obtain ⟨oc,od,kV,doc,pm,an,cdv,ct,osl,rfl,lk,hcd⟩:=F.ex;exact .all (h kV doc pm an cdv ct)
theorem kP {x qual:Str} {st:Stmt} {f:Addr} {oc:JU} {od an:Option Addr} {osl:Array (Option JU)} {kV doc pm cdv ct:JU} (l:K.lookup f=some ⟨oc,od,.func (E8 x qual (defArgs st) (defBody st) (defScope st) .none kV doc pm an cdv ct),osl⟩)
  (c:PySem.W.codeIn K cdv qual=true) (k:PySem.W.keepIn K (.ref f)=true):Fun K x qual st f (E8 x qual (defArgs st) (defBody st) (defScope st) .none kV doc pm an cdv ct):=⟨⟨oc,od,kV,doc,pm,an,cdv,ct,osl,Y,l,c⟩,k⟩
end
section
variable {X:Cx}
theorem pv (i:Nat) {x:Str} {pos:Pos} (hN:X.N[i]? = some x:=by rfl) (hv:Vis X.env.scope x:=by first | exact Or.inl rfl | exact Or.inr (Or.inl rfl) | exact Or.inr (Or.inr rfl)) (hd:(x == ("__debug__" : Str))=false:=by decide)
  (hcd:(x == ("__classdict__" : Str))=false:=by decide):PE X (.Name x pos) (tVar i):=wk hN hv hd hcd
end
theorem aQ {A B:Prop} (h:B):if false=true then A else B:=by rw [if_neg Bool.false_ne_true];exact h
theorem aZ {A B:Prop} (h:A):if true=true then A else B:=by rw [if_pos rfl];exact h
theorem cP {c A B:Prop} [Decidable c] (h1:c->A) (h2:¬ c->B):if c then A else B:=by
 by_cases h:c
 ·rw [if_pos h];exact h1 h
 ·rw [if_neg h];exact h2 h
def Same (H H':Hp):Prop:=∀b o,H b=some o->H' b=some o
theorem Same.refl (H:Hp):Same H H:=λ _ _ h=>h
theorem Same.trans {H H1 H2:Hp} (a:Same H H1) (b:Same H1 H2):Same H H2:=λ c o h=>b c o (a c o h)
theorem Same.free {H H':Hp} (e:Same H H') {l:Addr} (h:H' l=Option.none):H l=Option.none:=by
 cases q:H l with
 | none=>rfl
 | some o =>
  rw [e l o q] at h;cases h
theorem Same.seq {K:C8} {H H':Hp} {a:Addr} {xs:List V} (e:Same H H') (h:SqL K H a xs):SqL K H' a xs:=by
 rcases h with (h | ⟨o,h⟩) | h
 ·exact .inl (.inl (e _ _ h))
 ·exact .inl (.inr ⟨o,e _ _ h⟩)
 ·exact .inr h
def bS (env:Env):List (Str×NameKind)->List (Str×Addr)->List (Str×Addr)
 | [],acc=>acc
 | (n,k) :: r,acc=>bS env r (if (k == NameKind.free)=true then (n,(env.cells.lookup n).getD 0) :: acc else acc)
theorem cY (env:Env):∀ (names:List (Str×NameKind)) (acc:List (Str×Addr)) (x:Str) (c:Addr),(∀y∈names,y.2=.free->∃c,env.cells.lookup y.1=some c) ->
  (∀x c,acc.lookup x=some c->env.cells.lookup x=some c)->(bS env names acc).lookup x=some c->env.cells.lookup x=some c
 | [],acc,x,c,_,h,e=>h x c e
 | (n,k) :: r,acc,x,c,hf,h,e=>by
  refine cY env r _ x c (λ y hy=>hf y (B7 _ hy)) (λ x c e'=>?_) e
  by_cases hk:(k == NameKind.free)=true
  ·rw [if_pos hk] at e';obtain ⟨c0,hc0⟩:=hf (n,k) C0 (by simpa using hk);have hc0':env.cells.lookup n=some c0:=hc0;rw [List.lookup_cons] at e';cases hx:x == n with
   | true =>
    rw [hx] at e';have:x=n:=by simpa using hx
    subst this;rw [hc0'] at e' ⊢;simpa using e'
   | false=>rw [hx] at e'; exact h x c e'
  ·rw [if_neg hk] at e'; exact h x c e'
theorem gG (env:Env):∀ (names:List (Str×NameKind)) (acc:List (Str×Addr)) (x:Str),(∃c,acc.lookup x=some c)->∃c,(bS env names acc).lookup x=some c
 | [],acc,x,h=>h
 | (n,k) :: r,acc,x,h=>by
  refine gG env r _ x ?_
  by_cases hk:(k == NameKind.free)=true
  ·rw [if_pos hk,List.lookup_cons];cases hx:x == n with
   | true=>exact ⟨_,Y⟩
   | false=>exact h
  ·rw [if_neg hk]; exact h
theorem fG (env:Env):∀ (names:List (Str×NameKind)) (acc:List (Str×Addr)) (x:Str),(x,NameKind.free)∈names->∃c,(bS env names acc).lookup x=some c
 | [],acc,x,h=>by simp at h
 | (n,k) :: r,acc,x,h=>by
  rcases List.mem_cons.mp h with e | e
  ·have e1:x=n:=congrArg Prod.fst e;have e2:NameKind.free=k:=congrArg Prod.snd e;subst e1;subst e2;refine gG env r _ x ?_;rw [if_pos (by simp),List.lookup_cons];simp
  ·exact fG env r _ x e
theorem gH {env:Env} {scope:Scope} (hf:∀y∈scope.names,y.2=.free->∃c,env.cells.lookup y.1=some c):closureFor scope env=pure (bS env scope.names []):=by
 have key:∀ (names:List (Str×NameKind)) (acc:List (Str×Addr)),(∀y∈names,y.2=.free->∃c,env.cells.lookup y.1=some c) ->
   (forIn names acc (λ (x:Str×NameKind) (r:List (Str×Addr))=>(if (x.2 == NameKind.free)=true then do
    let a<-cellOf env x.1
    pure (ForInStep.yield ((x.1,a) :: r)) else pure (ForInStep.yield r)) ):Sem (List (Str×Addr)))=pure (bS env names acc):=by
  intro names
  induction names with
  | nil=>intro acc _; rfl
  | cons y r ih =>
   intro acc h;obtain ⟨n,k⟩:=y;have ih':=λ acc=>ih acc λ z hz=>h z (B7 _ hz);rw [List.forIn_cons]
   by_cases hk:(k == NameKind.free)=true
   ·obtain ⟨c,hc⟩:=h (n,k) C0 (by simpa using hk);have hc':env.cells.lookup n=some c:=hc;have e1:cellOf env n=pure c:=by unfold cellOf; rw [hc']
    have e2:bS env ((n,k) :: r) acc=bS env r ((n,c) :: acc):=by show bS env r _=_;rw [if_pos hk,hc']; rfl
    rw [if_pos hk,e2,<- ih'];show ((cellOf env n >>= λ a=>pure (ForInStep.yield ((n,a) :: acc))) >>= _)=_;rw [e1]
    rfl
   ·have e2:bS env ((n,k) :: r) acc=bS env r acc:=by show bS env r _=_;rw [if_neg hk]
    rw [if_neg hk,e2,<- ih']
    rfl
 have:=key scope.names [] hf;simp only [closureFor];exact (congrArg (λ m=>m >>= λ r=>(pure r:Sem _)) this).trans rfl
theorem iU {env:Env} {scope:Scope} (hcell:∀y∈scope.names,y.2≠.cell) {x:Str}:((relabel scope env).names.lookup x=some .cell\/(relabel scope env).names.lookup x=some .free)->(x,NameKind.free)∈scope.names:=by
  have key:∀names:List (Str×NameKind),(∀y∈names,y.2≠.cell)->∀k,(names.map λ (n,k)=>if (k == NameKind.free && env.scope.kind == .function && env.kindOf n == some .cell) then (n,NameKind.cell) else (n,k)).lookup x=some k ->
      (k=.cell\/k=.free)->(x,NameKind.free)∈names:=by
    intro names
    induction names with
    | nil=>intro _ k h _; simp at h
    | cons y r ih =>
      obtain ⟨n,k'⟩:=y;intro hc k h hk;have nc:k'≠.cell:=hc (n,k') C0;rw [List.map_cons] at h
      by_cases hb:(k' == NameKind.free && env.scope.kind == .function && env.kindOf n == some .cell)=true
      . have hb':k'=.free:=by simp at hb; exact hb.1.1
        dsimp only at h;rw [if_pos hb,List.lookup_cons] at h;cases hx:x == n with
        | true => have : x = n := by simpa using hx
                  subst this; subst hb'; exact C0
        | false=>rw [hx] at h; exact B7 _ (ih (λ y hy=>hc y (B7 _ hy)) k h hk)
      . dsimp only at h
        rw [if_neg hb,List.lookup_cons] at h;cases hx:x == n with
        | true =>
          rw [hx] at h;have:x=n:=by simpa using hx
          subst this;have e:k'=k:=by simpa using h
          rcases hk with q | q
          . exact absurd (e.trans q) nc
          . rw [e,q]; exact C0
        | false=>rw [hx] at h; exact B7 _ (ih (λ y hy=>hc y (B7 _ hy)) k h hk)
  rintro (h | h)
  . exact key _ hcell _ h (.inl rfl)
  . exact key _ hcell _ h (.inr rfl)
def ce (X:Cx) (pins:List (Addr×Obj)) (s2:G7) (H2:Hp) (scope:Scope) (C:Addr) (N':List Str) (fp:List Addr):Cx where
 prog:=X.prog
 w:=X.w
 K:=X.K
 mg:=X.mg
 base:=X.base
 A:=X.A
 N:=N'
 s₀:=s2
 H₀:=H2
 env:=compEnvC scope (bS X.env scope.names []) C X.env
 outer:=X.stack
 stack:=X.stack
 ex:=fp
 fn:=λ _=>false
 calm:=X.calm
 pn:=X.pn ++ pins
 xe:=λ _ _=>False
def bW (σ:St) (cap:List Nat) (k:Nat):St:=List.replicate k none ++ cap.map λ j=>(σ[j]?).join
def leS (σ σ':St):Prop:=σ'.length=σ.length/\∀ (i:Nat) v,σ[i]? = some (some v)->σ'[i]? = some (some v)
theorem leS.set {σ:St} {i:Nat} {v:V} (h:σ[i]? = some none):leS σ (σ.set i (some v)):=by
 refine ⟨by simp,λ j w e=>?_⟩
 by_cases hj:j=i
 ·subst hj; rw [h] at e; cases e
 ·rw [List.getElem?_set_ne (Ne.symm hj)]; exact e
structure CompOk (X:Cx) (scope:Scope) (own:List Str) (cs:List Str) (cap:List Nat):Prop where
 kind:scope.kind=.function
 cell:∀y∈scope.names,y.2≠.cell
 names:∀y∈scope.names,y.2=.local->scope.names.lookup y.1=some .local
 free:∀y∈scope.names,y.2=.free->X.env.kindOf y.1=some .cell\/X.env.kindOf y.1=some .free
 caps:∀ (i:Nat) y,cs[i]? = some y->∃j,cap[i]? = some j/\X.N[j]? = some y/\(y,NameKind.free)∈scope.names
 ownl:∀y∈own,scope.names.lookup y=some .local
 len:cs.length=cap.length
 free2:∀y,(y,NameKind.free)∈scope.names->scope.names.lookup y=some .local->False
def qu (X:Cx) (ifs:List Expr) (tt:TT):Prop :=
 ∀ (pins:List (Addr×Obj)) (s:G7) (σ:St) (H:Hp) (Q:Bool->Hp->Prop),Inv X pins σ H s->tt σ H Q ->
  wpAny (model X.prog X.w) X.A (forIn ifs true λ c r=>if r=true then do let ok<-isTrue c X.env (eval c X.env); pure (ForInStep.yield ok) else pure (ForInStep.yield r)) (TP X pins σ Q) X.xe s
def CD:TT:=λ _ H Q=>Q true H
theorem bC {X:Cx}:qu X [] CD:=λ _ _ _ H _ I h=>wpAny_tests_nil ⟨H,I,h⟩
theorem dG {X:Cx} {c:Expr} {tt:TT} (h:PT X c tt):qu X [c] tt:=λ pins s σ H Q I q=>wpAny_tests_one (h pins s σ H Q I q)
def iq (σ:St) (cap:List Nat) (k:Nat) (J:It) (g:TG) (tt:TT) (te:TE) (Q:List V->Hp->Prop) (W:Nat->Nat->List V->Hp->Prop):Prop :=
 ∀i m ys H,W i m ys H->(J.stop i H/\ys.length<=sizeLine/\Q ys H) \/
  (J.go i H/\ys.length < sizeLine/\∀x H',J.yld i H x H'->g x (bW σ cap k) H' λ σ2 H2=>leS (bW σ cap k) σ2/\tt σ2 H2 λ ok H3 =>
   if ok=true then te σ2 H3 (λ v H4=>∃m',m' < m/\W (i + 1) m' (ys ++ [v]) H4) else ∃m',m' < m/\W (i + 1) m' ys H3)
theorem HOk.add {P:G8} {w:JT} {H:Hp} {h:Heap} {a:Addr} {o:HO} (x:HOk P w H h) (n:H a=none) (new:ObjOk P w (upd H a o) h a o):HOk P w (upd H a o) h:=λ b u e=>by
 by_cases hb:b=a
 ·subst hb; rw [af] at e; cases e; exact new
 ·rw [au hb] at e;exact (x b u e).stay (λ c v _ q=>q) (λ c q=>by rw [au (ar q n)]; exact q) λ c xs q=>by rw [au (ar q n)]; exact q
section
variable {X:Cx} {pins:List (Addr×Obj)} {σ:St} {H2:Hp} {s2:G7} {scope:Scope} {own cs:List Str} {cap:List Nat} {fp:List Addr}
theorem oz {h1:Heap} {C:Addr} {tk:Nat} (I:Inv X pins σ H2 s2) (ok:CompOk X scope own cs cap) (hf:∀b∈fp,fA X pins H2 b) (hfl:∀b∈fp,b < s2.heap.objs.size)
  (hC:s2.heap.objs.size<=C) (hns:h1.Ns C (λ _=>none)) (old:∀b o,s2.heap.get? b=some o->h1.get? b=some o) :
  Inv (ce X pins s2 H2 scope C (own ++ cs) fp) [] (bW σ cap own.length) H2 { s2 with heap:=h1,toks:=tk }:=by
 have hfr:∀y∈scope.names,y.2=.free->∃c,X.env.cells.lookup y.1=some c:=λ y hy e=>I.ok.has y.1 (ok.free y hy e);have sub:∀x c,(bS X.env scope.names []).lookup x=some c->X.env.cells.lookup x=some c:=λ x c e=>cY X.env scope.names [] x c hfr (λ _ _ z=>by simp at z) e;have clt:∀x c,(bS X.env scope.names []).lookup x=some c->c < s2.heap.objs.size:=λ x c e=>by obtain ⟨v,o,ho,_⟩:=I.cell x c (sub x c e);exact B2 ho
 refine ⟨⟨I.ok.mod,ok.kind,I.ok.glob,I.ok.blt,hC,λ y z c h1 h2=>I.ok.inj y z c (sub y c h1) (sub z c h2),λ y hy=>?_,λ y c z=>?_,I.ok.hd,I.ok.frames,.inl rfl,λ b hb=>?_,I.bs,C9 I.ok.bsz I.sz,λ b o e hb=>?_,λ b hb z=>?_,I.stack,I.stkFree⟩,
  rfl,I.bare,Un.kept old,⟨_,hns,λ i y v e1 e2 e3=>?_⟩,λ y c e=>?_,I.hok.fresh hC,λ y c e=>I.freeC y c (sub y c e),λ p hp=>?_,I.hok.kept old,?_⟩
 ·have hm:=iU ok.cell hy;exact fG X.env scope.names [] y hm
 ·exact absurd (show false=true from z) B5
 ·exact ⟨C2 (C5 (hfl b hb) hC),λ x c e=>(hf b hb).2.2.2.2.1 x c (sub x c e)⟩
 ·rcases (hf b hb).2.2.2.1 with z | z
  ·exact I.ok.noex b o e z
  ·exact absurd (C5 (B2 (I.ok.bs b o e).1) z) (E3 _)
 ·rcases List.mem_cons.mp (I.stkSub b z) with q | q
  ·exact (hf b hb).2.1 q
  ·exact (hf b hb).2.2.1 q
 ·have hi:own.length<=i:=by
   refine Nat.le_of_not_lt λ q=>?_;unfold bW at e2;rw [List.getElem?_append_left (by simpa using q),List.getElem?_replicate] at e2
   split at e2 <;> cases e2
  have e1':cs[i - own.length]? = some y:=by have e1:(own ++ cs)[i]? = some y:=e1;rwa [List.getElem?_append_right hi] at e1
  obtain ⟨j,hj,hN,hm⟩:=ok.caps _ y e1';have hk:=ok.free _ hm rfl;have e2':σ[j]? = some (some v):=by
   unfold bW at e2;rw [List.getElem?_append_right (by simpa using hi),List.length_replicate,List.getElem?_map,hj] at e2;have e2:(σ[j]?).join=some v:=by simpa using e2
   cases q:σ[j]? with
   | none=>rw [q] at e2; cases e2
   | some w=>rw [q] at e2; have:w=some v:=e2; rw [this]
  obtain ⟨m,hn,hl⟩:=I.loc;obtain ⟨u,ru,l⟩:=hl j y v hN e2' (by rcases hk with q | q; exact .inr (.inl q); exact .inr (.inr q));refine ⟨u,ru,.inr ?_⟩;obtain ⟨c,hc⟩:=fG X.env scope.names [] y hm;have hc':=sub y c hc;have cellu:h1.IsCell c (some u):=by
   rcases l with ⟨k,_⟩ | ⟨k,c',e,o,ho,hd⟩
   ·rcases hk with q | q <;> (have z:X.env.kindOf y=_:=q; rw [k] at z; cases z)
   ·rw [hc'] at e; cases e;exact ⟨o,old _ _ ho,hd⟩
  refine ⟨?_,c,hc,cellu⟩;rcases e3 with z | z | z
  ·exfalso;have key:∀names:List (Str×NameKind),True:=λ _=>trivial;have z:(relabel scope X.env).names.lookup y=some .local:=z;have zz:scope.names.lookup y=some .local:=by
    unfold relabel at z;dsimp only at z;revert z;generalize scope.names=names
    induction names with
    | nil=>intro z; simp at z
    | cons q r ih =>
     obtain ⟨n,k⟩:=q;intro z;rw [List.map_cons] at z
     by_cases hb:(k == NameKind.free && X.env.scope.kind == .function && X.env.kindOf n == some .cell)=true
     ·dsimp only at z;rw [if_pos hb,List.lookup_cons] at z;rw [List.lookup_cons];cases hx:y == n with
      | true=>rw [hx] at z; cases z
      | false=>rw [hx] at z; exact ih z
     ·dsimp only at z;rw [if_neg hb,List.lookup_cons] at z;rw [List.lookup_cons];cases hx:y == n with
      | true=>rw [hx] at z; exact z
      | false=>rw [hx] at z; exact ih z
   have:=ok.free2 y hm zz;exact this
  ·exact .inl z
  ·exact .inr z
 ·obtain ⟨v,o,ho,hd⟩:=I.cell y c (sub y c e);exact ⟨v,o,old _ _ ho,hd⟩
 ·have hp':p∈X.pn ++ pins:=by have:p∈(X.pn ++ pins) ++ []:=hp;simpa using this
  obtain ⟨e,n,ne,nf,d⟩:=I.pin p hp';refine ⟨old _ _ e,n,C2 (C5 (B2 e) hC),λ z=>?_,d⟩;rcases List.mem_cons.mp (I.stkSub p.1 z) with q | q
  ·exact ne q
  ·exact nf q
 ·show (bW σ cap own.length).length=(own ++ cs).length;unfold bW;rw [List.length_append,List.length_replicate,List.length_map,List.length_append,ok.len]
end
section
variable {X:Cx} {pins:List (Addr×Obj)} {σ:St} {H2:Hp} {s2:G7} {scope:Scope} {own cs:List Str} {cap:List Nat} {fp:List Addr} {it:Addr} {tn:Nat->Heap->Prop}
 {elt tg iter:Expr} {ifs:List Expr} {pos:Pos} {J:It} {g:TG} {tt:TT} {te:TE} {E:JU->G7->Prop} {W:Nat->Nat->List V->Hp->Prop} {Qf:List V->Hp->Prop}
structure BlkEnd (X:Cx) (pins:List (Addr×Obj)) (σ:St) (Qf:List V->Hp->Prop) (D C:Addr) (s':Shared):Prop where
 ex:∃ (ys:List V) (H':Hp),H' D=none/\Qf ys H'/\Inv X pins σ (upd H' D (.lst ys)) s'/\fA X pins (upd H' D (.lst ys)) C
 ns:∃m,s'.heap.Ns C m
theorem Inv.bareP {pins':List (Addr×Obj)} {H:Hp} {s:G7} (I:Inv X pins' σ H s):Inv X [] σ H s:=I.pins_of λ p hp=>absurd hp (by simp)
theorem jv {RR:JU->Addr->Result->G7->Prop} (I:Inv X pins σ H2 s2) (ok:CompOk X scope own cs cap) (hc:X.calm=true) (T:Turn X.prog X.w X.K tg J fp it tn) (st:tn 0 s2.heap) (hf:∀b∈fp,fA X pins H2 b)
  (hg:∀C,PG (ce X pins s2 H2 scope C (own ++ cs) fp) tg g) (hi:∀C,qu (ce X pins s2 H2 scope C (own ++ cs) fp) ifs tt) (he:∀C,PE (ce X pins s2 H2 scope C (own ++ cs) fp) elt te)
  (w0:∃m,W 0 m [] H2) (turn:iq σ cap own.length J g tt te Qf W)
  (hRR:∀D C s',BlkEnd X pins σ Qf D C s'->RR (.ref D) C (.ok .next) s') :
  wpAny (model X.prog X.w) X.A (newList []) (λ acc s₃=>wpAny (model X.prog X.w) X.A (newFunctionEnv scope X.env.globals (bS X.env scope.names []) [] X.env.qual none .none (some X.env)) (λ cenv s₄ =>
   codeAny (model X.prog X.w) X.A (.compStart (.ListComp elt [⟨tg,iter,ifs,0⟩] scope pos) 0 (.ref it) acc { cenv with scope:=relabel scope X.env }) (RR acc cenv.locals) s₄) E s₃) E s2:=by
 refine G5 (wpAny_newFunctionEnv ok.cell (by intro y hy; simp at hy) (λ h₁ hns₁ hsb₁=>?_) ok.kind);dsimp only at hns₁ hsb₁ ⊢;generalize hHH:s2.heap.push { cls:=.type "list",dict:=none,data:=.seq ([]:List JU).toArray }=HH at hns₁ hsb₁ ⊢;have hCs:HH.objs.size=s2.heap.objs.size + 1:=by rw [<- hHH,Heap.size_push]
 have hDC:s2.heap.objs.size≠HH.objs.size:=by rw [hCs]; exact C2 (G1 _)
 have hCle:s2.heap.objs.size<=HH.objs.size:=by rw [hCs]; exact Nat.le_succ _
 have hfl:∀b∈fp,b < s2.heap.objs.size:=λ b hb=>by obtain ⟨o,e,_⟩:=T.obj 0 _ st b hb;exact B2 e
 have old:∀b o,s2.heap.get? b=some o->h₁.get? b=some o:=λ b o e=>hsb₁.extBut b o (by rw [hCs]; exact C2 (Nat.lt_succ_of_lt (B2 e))) (B0 _ (hHH ▸ B0 _ e));have hacc:h₁.PlainList s2.heap.objs.size #[]:=⟨_,hsb₁.extBut _ _ hDC (B0 _ (hHH ▸ B1 _ rfl))⟩
 generalize hD:s2.heap.objs.size=D at *;generalize hCC:HH.objs.size=C at *;have hns₁':h₁.Ns C (λ _=>none):=hns₁;have I0:Inv (ce X pins s2 H2 scope C (own ++ cs) fp) [] (bW σ cap own.length) H2 { s2 with heap:=h₁,toks:=s2.toks + ([]:List (Str×JU)).length } :=
  oz I ok hf (λ b hb=>by rw [hD]; exact hfl b hb) (by rw [hD]; exact hCle) hns₁' old
 have Dfs:D∉frs X.stack:=λ hb=>by obtain ⟨_,o,ho,_⟩:=I.stack.mem hb;exact absurd (B2 ho) (by rw [hD]; exact E3 _)
 have Dfp:∀b∈fp,D≠b:=λ b hb z=>absurd (hfl b hb) (by rw [<- z]; exact E3 _);have clt:∀x c,(bS X.env scope.names []).lookup x=some c->c < D:=λ x c e=>by have e':=cY X.env scope.names [] x c (λ y hy e=>I.ok.has y.1 (ok.free y hy e)) (λ _ _ z=>by simp at z) e;obtain ⟨v,o,ho,_⟩:=I.cell x c e';have:=B2 ho;rw [hD] at this; exact this
 have plt:∀p∈X.pn ++ pins,p.1 < D:=λ p hp=>by have:=B2 (I.pin p hp).1;rw [hD] at this; exact this
 have stat:∀ {H':Hp} {ob:Obj},(∀b∈fp,H' b=none)->∀b∈fp,fA (ce X pins s2 H2 scope C (own ++ cs) fp) [(D,ob)] H' b:=λ {H' ob} hn b hb=>by
  have q:=I0.ok.exf b hb;refine ⟨hn b hb,q.1,I0.ok.exfs b hb,.inl hb,q.2,λ p hp=>?_⟩;rcases C6.mp hp with z | z
  ·exact (hf b hb).2.2.2.2.2 p z
  ·have:p=(D,ob):=by simpa using z
   subst this;exact Dfp b hb
 have loop:codeAny (model X.prog X.w) X.A (.compLoop (.ListComp elt [⟨tg,iter,ifs,0⟩] scope pos) 0 (.ref it) (.ref D) (compEnvC scope (bS X.env scope.names []) C X.env)) (RR (.ref D) C)
   { s2 with heap:=h₁,toks:=s2.toks + ([]:List (Str×JU)).length }:=by
  obtain ⟨m0,w0⟩:=w0;refine codeAny_loop rfl (λ n s'=>∃i H' its ys,Inv (ce X pins s2 H2 scope C (own ++ cs) fp) [] (bW σ cap own.length) H' s'/\tn i s'.heap/\(∀b∈fp,H' b=none)/\s'.heap.PlainList D its.toArray/\Vals ys its/\H' D=none/\W i n ys H') ?_ m0
   ⟨0,H2,[],[],I0,T.keep 0 _ _ st λ b _ o e=>old b o e,λ b hb=>(hf b hb).1,hacc,.nil,I.hok.fresh (by rw [hD]; exact B6 _),w0⟩
  rintro n s3 ⟨i,H3,its,ys,I3,st3,fr3,⟨nn,pl3⟩,rv3,hD3,w3⟩;show wpAny _ X.A ((compTurn (.ListComp elt [⟨tg,iter,ifs,0⟩] scope pos) 0 (.ref it) (.ref D) (compEnvC scope (bS X.env scope.names []) C X.env)).onRaise (λ x=>do noteFrame x (compEnvC scope (bS X.env scope.names []) C X.env); theTreesLotGoes x)) _ _ s3;refine wpAny_noted ?_;rw [compTurn_list];refine A0 (wpAny_standAt (A0 ?_));have I3':Inv (ce X pins s2 H2 scope C (own ++ cs) fp) [(D, { cls:=.type "list", data:=.seq its.toArray nn })] (bW σ cap own.length) H3 s3 :=
   I3.pins_of λ p hp=>by
    have:p=(D,{ cls:=.type "list",data:=.seq its.toArray nn }):=by simpa using hp
    subst this;exact ⟨pl3,hD3,hDC,Dfs,λ v z=>by cases z⟩
  rcases turn i n ys H3 w3 with ⟨stop,hz,qf⟩ | ⟨go,hz,step⟩
  ·refine thn (T.done (ce X pins s2 H2 scope C (own ++ cs) fp) rfl rfl rfl hc i _ s3 _ H3 _ I3' (stat fr3) st3 stop) λ r s4 ⟨hr,I4⟩=>?_;subst hr;refine A3 (hRR D C s4 ⟨⟨ys,H3,hD3,qf,?_,?_⟩,?_⟩)
   ·have pl4:=(I4.pin (D,_) (A8 _ (E4.mpr rfl))).1;have u4:=I4.base;have Ds2:s2.heap.get? D=none:=Heap.get?_none_of_le (by rw [hD]; exact B6 _);refine I.call' (s':=s4) (ch:=fp) I4.os ⟨u4.keep,u4.slot,λ b o e n hx=>?_,u4.there,λ b xs e=>?_,λ b o u e=>?_,λ b ps e=>?_⟩ ?_ I4.bare λ b hb=>⟨(hf b hb).2.2.2.1,(hf b hb).2.1,(hf b hb).2.2.2.2.1,(hf b hb).2.2.2.2.2⟩
    ·rw [au (λ z=>by rw [z,Ds2] at e; cases e)];exact u4.free b o e n hx
    ·have:=u4.tups b xs e;rw [au (ar this hD3)]; exact this
    ·have:=u4.frzs b o u e;rw [au (ar this hD3)]; exact this
    ·obtain ⟨more,e'⟩:=u4.tbls b ps e;exact ⟨more,by rw [au (ar e' hD3)]; exact e'⟩
    ·exact I4.hok.add hD3 ⟨hz,its,nn,rv3,pl4⟩
   ·have CH:(upd H3 D (.lst ys)) C=none:=by rw [au (Ne.symm hDC)]; exact I4.free
    exact I.fpOk (H':=upd H3 D (.lst ys)) (by rw [hD]; exact hCle) CH
   ·obtain ⟨m,hn,_⟩:=I4.loc;exact ⟨m,hn⟩
  ·refine thn (T.item (ce X pins s2 H2 scope C (own ++ cs) fp) rfl rfl rfl hc i _ s3 _ H3 _ I3' (stat fr3) st3 go) λ r s4 ⟨u,hr,h4⟩=>?_;subst hr;refine A0 (thn h4 λ _ s5 ⟨x,H5,I5,r5,y5,st5,fr5⟩=>?_);have I5':=I5.pinned (stat fr5) (T.obj _ _ st5);refine A0 (wpAny_mono (hg C _ s5 _ H5 x u _ I5' r5 (step x H5 y5)) (λ _ s6 ⟨σ6,H6,I6,le6,q6⟩=>?_) λ _ _ z=>E9 z);refine A0 (wpAny_mono (hi C _ s6 σ6 H6 _ I6 q6) (λ b s7 ⟨H7,I7,q7⟩=>?_) λ _ _ z=>E9 z);have back:∀ {pins':List (Addr×Obj)} {H8:Hp} {s8:G7},Inv (ce X pins s2 H2 scope C (own ++ cs) fp) pins' σ6 H8 s8->Inv (ce X pins s2 H2 scope C (own ++ cs) fp) [] (bW σ cap own.length) H8 s8:=λ I8 =>
    I8.bareP.weak le6.1.symm λ i v e=>le6.2 i v e
   cases b with
   | false =>
    rw [if_neg Bool.false_ne_true] at q7;obtain ⟨m',hm,w7⟩:=q7;refine A3 ⟨rfl,m',hm,i + 1,H7,its,ys,back I7,T.keep _ _ _ st5 λ b hb o e=>?_,λ b hb=>?_,⟨nn,?_⟩,rv3,?_,w7⟩
    ·exact (I7.pin (b,o) (A8 _ (A8 _ (cg hb e)))).1
    ·obtain ⟨o,e,d⟩:=T.obj _ _ st5 b hb;exact (I7.pin (b,o) (A8 _ (A8 _ (cg hb e)))).2.1
    ·exact (I7.pin (D,_) (A8 _ (B9 _ (E4.mpr rfl)))).1
    ·exact (I7.pin (D,_) (A8 _ (B9 _ (E4.mpr rfl)))).2.1
   | true =>
    rw [if_pos rfl] at q7;refine A0 (A0 (wpAny_mono (he C _ s7 σ6 H7 _ I7 q7) (λ y s8 ⟨v,H8,I8,r8,m',hm,w8⟩=>?_) λ _ _ z=>E9 z));have pD:=I8.pin (D,{ cls:=.type "list",data:=.seq its.toArray nn }) (A8 _ (B9 _ (E4.mpr rfl)));have hlen:=rv3.length;refine A0 (wpAny_list_append_plain (hsz:=by rw [List.size_toArray]; lia) ⟨nn,pD.1⟩ λ h9 pl9 sb9=>A3 (A3 ?_));have I8':=back I8;refine ⟨Y,m',hm,i + 1,H8,its ++ [y],ys ++ [v],?_,T.keep _ _ _ st5 λ b hb o e=>?_,λ b hb=>?_,?_,rv3.append (.cons r8 .nil),pD.2.1,w8⟩
    ·exact I8'.turned (t':=s8.toks) (λ b o hb e=>sb9.extBut b o hb e) pD.2.1 hDC (.inr (by show s2.heap.objs.size<=D; rw [hD]; exact B6 _)) (λ x c e=>C2 (clt x c e)) λ p hp=>by
      have hp':p∈X.pn ++ pins:=by have:p∈(X.pn ++ pins) ++ []:=hp;simpa using this
      exact C2 (plt p hp')
    ·exact sb9.extBut b o (Ne.symm (Dfp b hb)) (I8.pin (b,o) (A8 _ (A8 _ (cg hb e)))).1
    ·obtain ⟨o,e,d⟩:=T.obj _ _ st5 b hb;exact (I8.pin (b,o) (A8 _ (A8 _ (cg hb e)))).2.1
    ·have e:its.toArray.push y=(its ++ [y]).toArray:=by simp
     rw [<- e]; exact pl9
 exact codeAny_compStart_list loop (T.self _ 0 _ _ _ (T.keep 0 _ _ st λ b _ o e=>old b o e) loop)
def qv (wi:TI) (cap:List Nat) (k:Nat) (g:TG) (tt:TT) (te:TE):TE:=λ σ H Q=>wi σ H λ J H1 =>
 ∃W:Nat->Nat->List V->Hp->Prop,(∃m,W 0 m [] H1)/\iq σ cap k J g tt te (λ ys H'=>∀p,H' p=none->Q (.ref p) (upd H' p (.lst ys))) W
theorem bX {wi:TI} (hc:X.calm=true) (hit:PI X tg iter wi) (ok:CompOk X scope own cs cap)
  (hg:∀pins s2 H2 C fp,PG (ce X pins s2 H2 scope C (own ++ cs) fp) tg g) (hi:∀pins s2 H2 C fp,qu (ce X pins s2 H2 scope C (own ++ cs) fp) ifs tt) (he:∀pins s2 H2 C fp,PE (ce X pins s2 H2 scope C (own ++ cs) fp) elt te)
  (hs:∀x,foldedSetIterable iter X.env x=pure x:=by intro _; rfl):PE X (.ListComp elt [⟨tg,iter,ifs,0⟩] scope pos) (qv wi cap own.length g tt te):=by
 intro pins s σ H Q I h;rw [eval_ListComp];refine wpAny_comprehension_free (use:=none) rfl hs (gH λ y hy e=>I.ok.has y.1 (ok.free y hy e)) ok.kind ok.names (thn (hit pins s σ H _ I h) λ v s1 h1=>thn h1 λ itv s2 h2=>?_);obtain ⟨it,fp,tn,J,H2,e,I2,T,st2,f2,W,w0,turn⟩:=h2;subst e;refine jv (RR:=λ acc C=>compPost (model X.prog X.w) X.A X.xe none (EP X pins σ Q) acc C) I2 ok hc T st2 f2 (λ C=>hg _ _ _ _ _) (λ C=>hi _ _ _ _ _) (λ C=>he _ _ _ _ _) w0 turn λ D C s' B=>?_;obtain ⟨⟨ys,H',hD,q,I',fp'⟩,m,hn⟩:=B;obtain ⟨f0,f1,f2',f3,f4,f5⟩:=fp';exact ⟨m,hn,λ h' sb=>⟨.ref D,_,I'.turned (t':=s'.toks) (λ b o hb e=>sb.extBut b o hb e) f0 f1 f3 f4 f5,Y,q D hD⟩⟩
theorem dQ {wi:TI} {i:Nat} {y:Str} {py spos:Pos} (hc:X.calm=true) (hN:X.N.Nodup) (hiy:X.N[i]? = some y) (hy:X.env.scope.names.lookup y=some .local)
  (hsw:swapsWith (.ListComp elt [⟨tg,iter,ifs,0⟩] scope pos) (some (.Name y py)) spos.line X.env=pure true) (hit:PI X tg iter wi) (ok:CompOk X scope own cs cap)
  (hg:∀pins s2 H2 C fp,PG (ce X pins s2 H2 scope C (own ++ cs) fp) tg g) (hi:∀pins s2 H2 C fp,qu (ce X pins s2 H2 scope C (own ++ cs) fp) ifs tt) (he:∀pins s2 H2 C fp,PE (ce X pins s2 H2 scope C (own ++ cs) fp) elt te)
  (hs:∀x,foldedSetIterable iter X.env x=pure x:=by intro _; rfl):PS X (.Assign [.Name y py] (.ListComp elt [⟨tg,iter,ifs,0⟩] scope pos) spos) (wr (qv wi cap own.length g tt te) (bR i)):=by
 intro pins s σ H D0 I h;rw [exec_Assign_Name_used _ _ _ _ hsw];refine A0 (wpAny_standAt (A0 ?_));show wpAny _ X.A (do let _<-comprehension (.ListComp elt [⟨tg,iter,ifs,0⟩] scope pos) scope X.env _ (newList []) false (eval iter X.env) (some (assign (.Name y py) X.env))) _ _ s;refine A0 (wpAny_mono (wpAny_comprehension_free (use:=some (assign (.Name y py) X.env)) (Q:=λ _ s'=>SP X pins D0 .next s') rfl hs (gH λ y hy e=>I.ok.has y.1 (ok.free y hy e)) ok.kind ok.names
  (thn (hit pins s σ H _ I h) λ v s1 h1=>thn h1 λ itv s2 h2=>?_)) (λ _ s' hq=>A3 (A3 hq)) λ _ _ e=>e)
 obtain ⟨it,fp,tn,J,H2,e,I2,T,st2,f2,W,w0,turn⟩:=h2;subst e;refine jv (RR:=λ acc C=>compPost (model X.prog X.w) X.A X.xe (some (assign (.Name y py) X.env)) (λ _ s'=>SP X pins D0 .next s') acc C) I2 ok hc T st2 f2 (λ C=>hg _ _ _ _ _) (λ C=>hi _ _ _ _ _) (λ C=>he _ _ _ _ _) w0 turn λ D C s' B=>?_;obtain ⟨⟨ys,H',hD,q,I',fp'⟩,m,hn⟩:=B;obtain ⟨f0,f1,f2',f3,f4,f5⟩:=fp';show wpAny _ X.A (assign (.Name y py) X.env (.ref D)) _ _ _;refine wpAny_assign_Name (ib I' hN hiy (.inl hy) (v:=.ref D) rfl (λ s3 I3 ⟨a,sb,ha⟩=>?_) (.inr hy));have hCa:C≠a:=by
  rcases ha with z | z
  ·rw [z]; exact f1
  ·exact λ q=>f4 y a z q.symm
 refine ⟨m,hn.sameBut sb hCa,λ h' sb'=>⟨_,_,I3.turned (t':=s3.toks) (λ b o hb e=>sb'.extBut b o hb e) f0 f1 f3 f4 f5,q D hD⟩⟩
end
def CDivB (i j:Int):Prop:=0 < j/\j<=10 ^ 60
theorem CDivB.np {i j:Int} (h:CDivB i j):Builtin.divisionGoesByPylong i j=false:=by
 refine PyProof.noPylong_of_log2 ?_;have h1:j.natAbs < 2 ^ 200:=by obtain ⟨a,b⟩:=h;lia
 have h2:j.natAbs.log2 < 200:=(Nat.log2_lt (by have:=h.1; lia)).mpr h1;lia
section
variable {X:Cx}
theorem gI:OpR X (binaryOp .FloorDiv) (rI CDivB λ i j=>.int (i / j)):=opI λ i j _ _ _ _ _ hc q=>by refine floordiv_int (by have:=hc.1; lia) ?_ (.inl hc.np);rw [Int.fdiv_eq_ediv_of_nonneg _ (by have:=hc.1; lia)];exact q
theorem Inv.kitx {pins:List (Addr×Obj)} {σ:St} {H:Hp} {s:G7} {x:V} {u t:JU} (I:Inv X pins σ H s) (rx:RelV x u) (ty:TyOf X.K H x t) :
  ∃P:Heap->Prop,PySem.W.KitX X.K u t P/\P s.heap/\u≠.builtin "__main__.__loader__#opaque" := by
 cases ty with
 | non=>cases (show u=Value.none from rx); exact ⟨_,PySem.W.kitx_none,True.intro,λ z=>nomatch z⟩
 | bl y=>cases (show u=Value.bool y from rx); exact ⟨_,PySem.W.kitx_bool,True.intro,λ z=>nomatch z⟩
 | int i=>obtain ⟨t,q⟩:=(show ∃t,u=Value.int i t from rx); cases q; exact ⟨_,PySem.W.kitx_int,True.intro,λ z=>nomatch z⟩
 | str y=>obtain ⟨t,q⟩:=(show ∃t,u=Value.str y t from rx); cases q; exact ⟨_,PySem.W.kitx_str,True.intro,λ z=>nomatch z⟩
 | flt y=>obtain ⟨t,q⟩:=(show ∃t,u=Value.float y t from rx); cases q; exact ⟨_,PySem.W.kitx_float,True.intro,λ z=>nomatch z⟩
 | @lst a xs ea =>
  cases (show u=Value.ref a from rx);obtain ⟨_,_,n,_,h1⟩:=(show ObjOk X.prog X.w H s.heap a (.lst xs) from I.hok a _ ea)
  exact ⟨_,PySem.W.kitx_list,⟨_,h1,Y⟩,λ z=>nomatch z⟩
 | @frz a ob xs ea =>
  cases (show u=Value.ref a from rx);obtain ⟨_,_,_,n,_,h1⟩:=(show ObjOk X.prog X.w H s.heap a (.frz ob (.lst xs)) from I.hok a _ ea)
  exact ⟨_,PySem.W.kitx_list,⟨_,h1,Y⟩,λ z=>nomatch z⟩
 | @tup a xs ea =>
  cases (show u=Value.ref a from rx);obtain ⟨_,_,_,p⟩:=(show ObjOk X.prog X.w H s.heap a (.tup xs) from I.hok a _ ea)
  obtain ⟨o,h1,h2,_⟩:=p;exact ⟨_,PySem.W.kitx_tuple,⟨o,h1,h2⟩,λ z=>nomatch z⟩
 | @dK a kvs ea =>
  cases (show u=Value.ref a from rx);obtain ⟨_,_,vs,_,p⟩:=(show ObjOk X.prog X.w H s.heap a (.dK kvs) from I.hok a _ ea)
  obtain ⟨o,es,ep,h1,h2,_⟩:=p;exact ⟨_,PySem.W.kitx_dict,⟨o,h1,h2.1⟩,λ z=>nomatch z⟩
 | @dT a kvs ea =>
  cases (show u=Value.ref a from rx);obtain ⟨_,_,xs,_,o,es,ep,h1,h2,_⟩:=(show ObjOk X.prog X.w H s.heap a (.dT kvs) from I.hok a _ ea)
  exact ⟨_,PySem.W.kitx_dict,⟨o,h1,h2.1⟩,λ z=>nomatch z⟩
 | @ext a φ ea c =>
  cases (show u=Value.ref a from rx);obtain ⟨p,_,_⟩:=(show ObjOk X.prog X.w H s.heap a (.ext φ) from I.hok a _ ea)
  obtain ⟨o,h1,h2⟩:=c _ p;exact ⟨_,PySem.W.kitx_dict,⟨o,h1,h2⟩,λ z=>nomatch z⟩
 | @ins a C dx fs ea cl ha hn htk hm =>
  cases (show u=Value.ref a from rx);obtain ⟨mA,O,_⟩:=eP I.hok ea;obtain ⟨od,J,_⟩:=O.look;exact ⟨_,PySem.W.kitx_own (cl.get _) cl.hd ha hn htk hm,J,λ z=>nomatch z⟩
def clV:V->Option Value
 | .ty T=>some (.type T)
 | .ref C=>↑C
 | _=>none
theorem clV.rel {v:V} {u c:JU} (e:clV v=some c) (r:RelV v u):u=c:=by
 cases v with
 | ty T=>have e':Value.type T=c:=C1 e; rw [<- e']; exact r
 | ref C=>have e':Value.ref C=c:=C1 e; rw [<- e']; exact r
 | _=>cases e
def clVs:List V->Option (List JU)
 | []=>some []
 | v :: r=>match clV v,clVs r with
  | some c,some cs=>some (c :: cs)
  | _,_=>none
theorem clVs.rel:∀ {vs:List V} {us cs:List JU},clVs vs=some cs->Vals vs us->us=cs
 | [],_,_,e,.nil=>C1 e
 | v :: r,_,_,e,.cons r1 r2=>by
  unfold clVs at e
  split at e
  ·rename_i c cs' e1 e2
   cases e;rw [clV.rel e1 r1,clVs.rel e2 r2]
  ·cases e
theorem cK:cG X (.builtin "isinstance") (λ xs H Q=>∃x cv t c b,xs=[x,cv]/\TyOf X.K H x t/\clV cv=some c/\PySem.W.kitOne X.K t c=some b/\Q (.bl b) H):=by
 intro pins s σ H xs us Q I rv h;obtain ⟨x,cv,t,c,b,rfl,ty,e1,e2,q⟩:=h;cases rv with
 | cons r1 rr =>
  cases rr with
  | cons r2 rr =>
   cases rr;rw [clV.rel e1 r2];exact oj I r1 ty e2 λ tk=>⟨.bl b,H,I.tok tk,Y,q⟩
theorem iV:cG X (.builtin "isinstance") (λ xs H Q=>∃x p t cvs cs b,xs=[x,.ref p]/\TyOf X.K H x t/\H p= ~~~cvs/\clVs cvs=some cs/\PySem.W.kitAny X.K t cs=some b/\Q (.bl b) H):=by
 intro pins s σ H xs us Q I rv h;obtain ⟨x,p,t,cvs,cs,b,rfl,ty,hp,e1,e2,q⟩:=h;cases rv with
 | cons r1 rr =>
  cases rr with
  | cons r2 rr =>
   cases rr;cases r2;obtain ⟨_,its,rits,o,ho,hc,n,hd⟩:=I.hok p _ hp;obtain ⟨P,Z,p1,p2⟩:=I.kitx r1 ty;obtain ⟨oc,od,dt,osl⟩:=o
   replace hc:oc=.type "tuple" := hc
   replace hd:dt=.seq its.toArray n:=hd
   subst hc hd;have e3:=clVs.rel e1 rits;subst e3;exact PySem.W.kia_tup Z I.kIn p1 ho e2 p2 λ tk=>⟨.bl b,H,I.tok tk,Y,q⟩
end
mutual
inductive DatV (K:C8) (H:Hp):V->PyData->Prop
 | non:DatV K H .non .none
 | bl (b:Bool):DatV K H (.bl b) (.bool b)
 | int (i:Int):DatV K H (.int i) (.int i)
 | str (x:Str):DatV K H (.str x) (.str x)
 | lst {a:Addr} {xs:List V} {ds:List PyData}:SqL K H a xs->DatVs K H xs ds->DatV K H (.ref a) (.list ds)
 | tup {a:Addr} {xs:List V} {ds:List PyData}:SqT K H a xs->DatVs K H xs ds->DatV K H (.ref a) (.tuple ds)
inductive DatVs (K:C8) (H:Hp):List V->List PyData->Prop
 | nil:DatVs K H [] []
 | cons {x:V} {d:PyData} {xs:List V} {ds:List PyData}:DatV K H x d->DatVs K H xs ds->DatVs K H (x :: xs) (d :: ds)
end
section
variable {X:Cx} {pins:List (Addr×Obj)} {σ:St} {H:Hp} {s:G7}
mutual
theorem Inv.reads (I:Inv X pins σ H s):∀ {v:V} {d:PyData},DatV X.K H v d->∀ {u:JU},RelV v u->∃as,Reads s.heap u d as
 | _,_,.non,u,r=>by cases (show u=Value.none from r); exact ⟨_,.none⟩
 | _,_,.bl b,u,r=>by cases (show u=Value.bool b from r); exact ⟨_,.bool b⟩
 | _,_,.int i,u,r=>by obtain ⟨t,e⟩:=(show ∃t,u=Value.int i t from r); subst e; exact ⟨_,.int i t⟩
 | _,_,.str x,u,r=>by obtain ⟨t,e⟩:=(show ∃t,u=Value.str x t from r); subst e; exact ⟨_,.str x t⟩
 | _,_,.lst (a:=a) h hs,u,r=>by cases (show u=Value.ref a from r);obtain ⟨its,rv,⟨o,n,e,c,_,d⟩,_⟩:=I.list h;obtain ⟨as,ra⟩:=I.readsAll hs rv;exact ⟨_,.list e c d (by simpa using ra)⟩
 | _,_,.tup (a:=a) h hs,u,r=>by cases (show u=Value.ref a from r);obtain ⟨its,rv,⟨o,e,c,n,d⟩,_⟩:=I.tuple h;obtain ⟨as,ra⟩:=I.readsAll hs rv;exact ⟨_,.tuple e c d (by simpa using ra)⟩
theorem Inv.readsAll (I:Inv X pins σ H s):∀ {vs:List V} {ds:List PyData},DatVs X.K H vs ds->∀ {us:List JU},Vals vs us->∃as,ReadsAll s.heap us ds as
 | _,_,.nil,_,.nil=>⟨_,.nil⟩
 | _,_,.cons h hs,_,.cons r rs=>by obtain ⟨as,ra⟩:=I.reads h r;obtain ⟨bs,rb⟩:=I.readsAll hs rs;exact ⟨_,.cons ra rb⟩
end
end
section
variable {X:Cx}
theorem wE (hu:X.A.units + 64 < cLine):OpR X (compareOp .NotEq) (λ x y H Q=>∃da db,DatV X.K H x da/\DatV X.K H y db/\SeqAt.shaped da=true/\SeqAt.shaped db=true/\Q (.bl (!PyData.eqv da db)) H):=by intro pins s σ H x y v u Q I rx ry h;obtain ⟨da,db,hx,hy,s1,s2,q⟩:=h;obtain ⟨as,ra⟩:=I.reads hx rx;obtain ⟨bs,rb⟩:=I.reads hy ry;exact ne_dataH ra rb s1 s2 hu ⟨.bl _,H,I,rfl,q⟩
theorem kQ (hu:X.A.units + 64 < cLine):OpR X (compareOp .Eq) (λ x y H Q=>∃da db,DatV X.K H x da/\DatV X.K H y db/\SeqAt.shaped da=true/\SeqAt.shaped db=true/\Q (.bl (PyData.eqv da db)) H):=by intro pins s σ H x y v u Q I rx ry h;obtain ⟨da,db,hx,hy,s1,s2,q⟩:=h;obtain ⟨as,ra⟩:=I.reads hx rx;obtain ⟨bs,rb⟩:=I.reads hy ry;exact eq_dataH ra rb s1 s2 hu ⟨.bl _,H,I,rfl,q⟩
end
section
variable {prog:G8} {w:JT} {A:Around} {E:JU->G7->Prop}
theorem gJ {it l:Addr} {items:Array JU} (hne:l≠it):∀ (n i:Nat) (s:G7) (Q:List JU->G7->Prop),s.heap.IsListIter it l i->s.heap.IsList l items->i + n<=items.size ->
  (∀h',h'.IsListIter it l (i + n)->Heap.SameBut it s.heap h'->Q ((items.toList.drop i).take n) { s with heap:=h' })->wpAny (model prog w) A (draw (.ref it) n) Q E s
 | 0,i,s,Q,hit,_,_,hQ=>by show wpAny _ _ (pure []) Q E s;exact A3 (by simpa using hQ s.heap hit (Heap.SameBut.refl ..))
 | n + 1,i,s,Q,hit,ht,hle,hQ=>by
  have hlt:i < items.size:=⋯
  show wpAny _ _ (pyNext (.ref it) >>= _) Q E s;refine A0 (wpAny_pyNext_list_item hit ht (x:=items[i]) (by simp [hlt]) λ h₁ hit₁ hs₁=>?_);refine A0 (wpAny_holding (gJ hne n (i + 1) _ _ hit₁ (ht.extBut hs₁.extBut hne) ⋯ λ h₂ hit₂ hs₂=>A3 ?_));have hd:items.toList.drop i=items[i] :: items.toList.drop (i + 1):=by simp [List.drop_eq_getElem_cons,hlt]
  have q:=hQ h₂ (by rw [show i + (n + 1)=i + 1 + n by lia]; exact hit₂) (hs₁.trans hs₂);rw [hd,List.take_succ_cons] at q;exact q
theorem eS {s:G7} {l:Addr} {items:Array JU} {Q:List JU->G7->Prop} (hh:A.handled=none) (ht:s.heap.IsList l items)
  (hQ:∀h',Heap.ExtBut s.heap.objs.size s.heap h'->Q items.toList { s with heap:=h' }):wpAny (model prog w) A (unpackItems (.ref l) items.size none) Q E s:=by
 have hlt:l≠s.heap.objs.size:=by obtain ⟨o,ho,_⟩:=ht; exact C2 (B2 ho)
 have hp:(s.heap.push { cls:=.type "list_iterator",data:=.fields #[.ref l,.int 0 0] }).IsList l items:=by obtain ⟨o,ho,r⟩:=ht; exact ⟨o,B0 _ ho,r⟩
 unfold unpackItems;refine A0 ?_
 ·unfold notIterableAtAll;refine A0 (wpAny_specialOf ht.typeIs PySem.slot_list_iter.lookup ?_);refine A3 ?_;simp only [Bool.false_eq_true,if_false];refine A0 (wpAny_holding (wpAny_pyIter_list ht ?_));refine A0 (wpAny_holding (gJ hlt items.size 0 _ _ ⟨_,B1 _ rfl,rfl,rfl⟩ hp ⋯ λ h₁ hit₁ hs₁=>?_));have hall:List.take items.size (List.drop 0 items.toList)=items.toList:=by rw [List.drop_zero]; exact List.take_of_length_le (by simp)
  rw [hall];rw [if_neg (by simp)];have ht₁:h₁.IsList l items:=hp.extBut hs₁.extBut hlt;refine A0 (wpAny_holding (wpAny_pyNext_list_end hh hit₁ ht₁ (by simp) λ h₂ he₂=>?_));simp only [Option.isSome_none,Bool.false_eq_true,if_false];refine A3 (hQ h₂ λ b o hb e=>he₂ b o hb (hs₁.extBut b o hb (B0 _ e)))
theorem eK {s:G7} {env:Env} {elts:List Expr} {x1} {pos:Pos} {l:Addr} {items:Array JU} {Q:Unit->G7->Prop} (hh:A.handled=none) (ht:s.heap.IsList l items)
  (hn:(assignEach elts env).length=items.size) (hstar:(assignEach elts env).findIdx? (·.1)=none)
  (h:∀h',Heap.ExtBut s.heap.objs.size s.heap h'->wpAny (model prog w) A (assignInOrder ((assignEach elts env).map (·.2)) items.toList) Q E { s with heap:=h' }) :
  wpAny (model prog w) A (assign (.Tuple elts x1 pos) env (.ref l)) Q E s:=by
 rw [assign_Tuple];refine A0 (wpAny_standAt ?_);unfold unpack;rw [hn,hstar];exact A0 (wpAny_holding (eS hh ht h))
end
section
variable {X:Cx} {pos:Pos}
def GU (K:C8) (n:Nat) (t:TGs):TG:=λ v σ H Q=>∃a xs,v=.ref a/\(SqL K H a xs\/SqT K H a xs)/\xs.length=n/\t xs σ H Q
theorem kR {es:List Expr} {k:Nat} {t:TGs} {n:Nat} (hc:X.calm=true) (h:PGs X es t)
  (hn:(assignEach es X.env).length=n:=by rfl) (hst:(assignEach es X.env).findIdx? (·.1)=none:=by rfl):PG X (.Tuple es k pos) (GU X.K n t):=by
 intro pins s σ H v u Q I r hw;obtain ⟨a,xs,e1,hq,hl,hw⟩:=hw;rcases hq with hq | hq
 ·subst e1;cases r;obtain ⟨its,rv,ht,hz⟩:=I.list hq;refine eK (I.ok.hd hc) ht.isList (by simp [hn,<- hl,rv.length]) hst λ h' hx=>?_;have I1:Inv X pins σ H { s with heap:=h' }:=I.kept (t':=s.toks) λ b o e=>hx b o (C2 (B2 e)) e;exact h pins _ σ H xs _ Q I1 (by simpa using rv) hw
 ·exact aP hc h hn hst pins s σ H v u Q I r ⟨a,xs,e1,hq,hl,hw⟩
end
def Itz (l1 l2:Addr):It :=
  ⟨λ i H=>∃xs ys x y,H l1=↥xs/\H l2=↥ys/\xs[i]? = some x/\ys[i]? = some y,
   λ i H v H'=>∃p xs ys x y,H p=none/\v=.ref p/\H'=upd H p (.tup [x,y])/\H l1=↥xs/\H l2=↥ys/\xs[i]? = some x/\ys[i]? = some y,
   λ i H=>∃xs ys,H l1=↥xs/\H l2=↥ys/\(xs.length<=i\/ys.length<=i)⟩
section
variable {X:Cx}
theorem Inv.turnedN {pins:List (Addr×Obj)} {σ:St} {H:Hp} {s:G7} {h':Heap} {t':Nat} {ch:List Addr} (I:Inv X pins σ H s) (hf:∀b∈ch,fA X pins H b) (k:∀b o,b∉ch->s.heap.get? b=some o->h'.get? b=some o):Inv X pins σ H { s with heap:=h',toks:=t' }:=by
 have hLc:X.env.locals∉ch:=λ z=>(hf _ z).2.1 rfl;have nt:∀b u,H b=some u->b∉ch:=λ b u e z=>by rw [(hf b z).1] at e; cases e
 refine I.step (g':=s.gens) (d':=s.drawn) (ch:=ch) (λ b hb=>⟨(hf b hb).2.2.2.1,(hf b hb).2.1,(hf b hb).2.2.2.2.1,(hf b hb).2.2.2.2.2⟩) (λ b o _ _ hc e _=>k b o hc e) (λ b o _ _ hc e _=>⟨o.slots,k b o hc e⟩) (λ _ _ _ _ n=>n)
  (λ b o hc e=>⟨o,k b o hc e⟩) (λ _ _ e=>e) (λ _ _ _ e=>e) (λ b ps e=>⟨#[],by rw [e]; simp⟩) (λ m hm=>?_) (λ b u e=>?_) I.bare
 ·obtain ⟨o,es,ep,ho,r⟩:=hm;exact ⟨o,es,ep,k _ o hLc ho,r⟩
 ·refine (I.hok b u e).stay (λ c v hc q=>k c v ?_ q) (λ _ q=>q) λ _ _ q=>q;rcases hc with z | z
  ·rw [z]; exact nt b u e
  ·exact nt c _ z
theorem Inv.track {pins:List (Addr×Obj)} {σ:St} {H:Hp} {s:G7} {a:Addr} {o:HO} (I:Inv X pins σ H s) (hf:fA X pins H a) (fa:X.s₀.heap.objs.size<=a) (new:ObjOk X.prog X.w (upd H a o) s.heap a o):Inv X pins σ (upd H a o) s:=by
 obtain ⟨f0,f1,f2,f3,f4,f5⟩:=hf;have s0:∀b o,X.s₀.heap.get? b=some o->b≠a:=λ b o e=>C2 (C5 (B2 e) fa);refine ⟨I.ok,I.os,I.bare,⟨I.base.keep,I.base.slot,λ b o e n hx=>?_,I.base.there,λ b xs e=>?_,λ b o u e=>?_,λ b ps e=>?_⟩,I.loc,I.cell,?_,λ x c e=>?_,λ p hp=>?_,I.hok.add f0 new,I.len⟩
 ·rw [au (s0 b o e)]; exact I.base.free b o e n hx
 ·have q:=I.base.tups b xs e;rw [au (ar q f0)]; exact q
 ·have q:=I.base.frzs b o u e;rw [au (ar q f0)]; exact q
 ·obtain ⟨more,q⟩:=I.base.tbls b ps e;exact ⟨more,by rw [au (ar q f0)]; exact q⟩
 ·rw [au (Ne.symm f1)]; exact I.free
 ·rw [au (f4 x c e)]; exact I.freeC x c e
 ·obtain ⟨e,n,r⟩:=I.pin p hp;exact ⟨e,by rw [au (f5 p hp)]; exact n,r⟩
end
structure ZipAp (z TI TO i1 i2:Addr):Prop where
 nd:[z,TI,TO,i1,i2].Nodup
def GV (ta:TA):TI:=λ σ H R=>ta σ H λ vs H1=>∃l1 l2 xs ys,vs=[.ref l1,.ref l2]/\H1 l1=↥xs/\H1 l2=↥ys/\R (Itz l1 l2) H1
end L2
namespace L2
open PySem PySem.Spec PyProof.Rows
def Dn (P:G8) (w:JT) (K:C8) (mg:Str->Option JU) (base:Heap) (x:Str) (ps:List Str) (k:Nat) (sp:Sp):Prop :=
 ∃ (f:Addr) (fd:I9),FnOk P w K mg base CX0 k f fd ps sp/\Binds K fd ps []/\PySem.W.keepIn K (.ref f)=true/\mg x=↑f
theorem aw {X:Cx} {k:Nat} {ps:List Str} {sp:Sp} {x:Str} {p pos:Pos} {e:Expr} {es:List Expr} {t:TA} (D:Dn X.prog X.w X.K X.mg X.base x ps k sp) (hr:Room k X.A) (hg:Gl X x) (ha:PA X (e :: es) t)
  (hdb:(x == ("__debug__" : Str))=false:=by decide) (he:starEach (e :: es) X.env=(false,eval e X.env) :: starEach es X.env:=by rfl) (hpl:(backTo pos (starEach es X.env)).any (·.1)=false:=by rfl) :
  PE X (.Call (.Name x p) (e :: es) [] pos) (vS sp [] E0 t):=by
 obtain ⟨f,fd,F,hb,hk,hm⟩:=D;exact sR F hr hg hm hk hb .nil mR ha hdb he hpl
def mS (sc:Scope) (N:List Str) (scope:Scope) (own cs:List Str) (cap:List Nat):Bool :=
 decide (scope.kind=.function) && scope.names.all (λ y=>decide (y.2≠.cell)) && scope.names.all (λ y=>decide (y.2=.local->scope.names.lookup y.1=some .local)) &&
 scope.names.all (λ y=>decide (y.2=.free->sc.names.lookup y.1=some .cell\/sc.names.lookup y.1=some .free)) && own.all (λ y=>decide (scope.names.lookup y=some .local)) &&
 decide (cs.length=cap.length) && (cs.zip cap).all (λ y=>decide (N[y.2]? = some y.1) && decide ((y.1,NameKind.free)∈scope.names)) && scope.names.all (λ y=>decide (y.2=.free->scope.names.lookup y.1≠some .local))
theorem aS {X:Cx} {sc:Scope} {N:List Str} {scope:Scope} {own cs:List Str} {cap:List Nat} (h1:X.env.scope=sc) (h2:X.N=N) (h:mS sc N scope own cs cap=true):CompOk X scope own cs cap:=by
 subst h1 h2;unfold mS at h;simp only [Bool.and_eq_true,List.all_eq_true,decide_eq_true_eq] at h;obtain ⟨⟨⟨⟨⟨⟨⟨a1,a2⟩,a3⟩,a4⟩,a5⟩,a6⟩,a7⟩,a8⟩:=h;refine ⟨a1,a2,a3,a4,λ i y e=>?_,a5,a6,λ y hy e=>a8 _ hy rfl e⟩;have hi:i < cs.length:=(A9.mp e).1;have hj:i < cap.length:=by rw [<- a6]; exact hi
 refine ⟨cap[i],G2 hj,?_⟩;have hm:(y,cap[i])∈cs.zip cap:=by
  have:(cs.zip cap)[i]? = some (y,cap[i]):=by rw [List.getElem?_zip_eq_some];exact ⟨e,G2 hj⟩
  exact B8 this
 exact a7 _ hm
theorem bD {σ:St} {H:Hp} {A B:Hp->Prop} (h:A H):CD σ H (λ ok H3=>if ok=true then A H3 else B H3):=by show (if (true:Bool)=true then A H else B H);rw [if_pos rfl];exact h
section
variable {X:Cx} {tg:Expr}
def wF (K:C8) (tl:TE):TI:=λ σ H R=>vM K tl σ H R\/Cp K tl σ H R
theorem qw {l:Expr} {tl:TE} (hl:PE X l tl):PI X tg l (wF X.K tl):=by
 intro pins s σ H R I h;rcases h with h | h
 ·exact bv hl pins s σ H R I h
 ·exact fB hl pins s σ H R I h
end
def aM:List String:=["NoneType","bool","int","str","list","tuple","dict"]
theorem tj {K:C8}:∀T∈aM,PySem.W.kitOne K (.type T) (.type "int")=some (T == "int" || T == "bool"):=by intro T h;simp only [aM,List.mem_cons,List.not_mem_nil,or_false] at h;rcases h with rfl | rfl | rfl | rfl | rfl | rfl | rfl <;> kernel_rfl
theorem jw {K:C8}:∀T∈aM,PySem.W.kitOne K (.type T) (.type "bool")=some (T == "bool"):=by intro T h;simp only [aM,List.mem_cons,List.not_mem_nil,or_false] at h;rcases h with rfl | rfl | rfl | rfl | rfl | rfl | rfl <;> kernel_rfl
theorem qx {K:C8}:∀T∈aM,PySem.W.kitOne K (.type T) (.type "list")=some (T == "list"):=by intro T h;simp only [aM,List.mem_cons,List.not_mem_nil,or_false] at h;rcases h with rfl | rfl | rfl | rfl | rfl | rfl | rfl <;> kernel_rfl
theorem oA {K:C8}:∀T∈aM,PySem.W.kitOne K (.type T) (.type "tuple")=some (T == "tuple"):=by intro T h;simp only [aM,List.mem_cons,List.not_mem_nil,or_false] at h;rcases h with rfl | rfl | rfl | rfl | rfl | rfl | rfl <;> kernel_rfl
theorem cZ {K:C8}:∀T∈aM,PySem.W.kitOne K (.type T) (.type "str")=some (T == "str"):=by intro T h;simp only [aM,List.mem_cons,List.not_mem_nil,or_false] at h;rcases h with rfl | rfl | rfl | rfl | rfl | rfl | rfl <;> kernel_rfl
theorem tm {K:C8}:∀T∈aM,PySem.W.kitAny K (.type T) [.type "list",.type "tuple"]=some (T == "list" || T == "tuple"):=by
 intro T h;have h1:=qx (K:=K) T h;have h2:=oA (K:=K) T h;unfold PySem.W.kitAny;rw [h1];cases e:(T == "list") with
 | true=>rfl
 | false =>
  show PySem.W.kitAny K (.type T) [.type "tuple"]=_;unfold PySem.W.kitAny;rw [h2];cases e2:(T == "tuple") <;> rfl
def Ty (K:C8) (H:Hp) (x:V) (T:String):Prop:=T∈aM/\TyOf K H x (.type T)
theorem Ty.int {K:C8} {H:Hp} {i:Int}:Ty K H (.int i) "int" := ⟨by simp [aM],.int i⟩
theorem Ty.bl {K:C8} {H:Hp} {b:Bool}:Ty K H (.bl b) "bool" := ⟨by simp [aM],.bl b⟩
theorem Ty.non {K:C8} {H:Hp}:Ty K H .non "NoneType" := ⟨by simp [aM],.non⟩
theorem Ty.str {K:C8} {H:Hp} {x:Str}:Ty K H (.str x) "str" := ⟨by simp [aM],.str x⟩
theorem Ty.lst {K:C8} {H:Hp} {a:Addr} {xs:List V} (e:H a=↥xs):Ty K H (.ref a) "list" := ⟨by simp [aM],.lst e⟩
theorem Ty.tup {K:C8} {H:Hp} {a:Addr} {xs:List V} (e:H a= ~~~xs):Ty K H (.ref a) "tuple" := ⟨by simp [aM],.tup e⟩
theorem Ty.dK {K:C8} {H:Hp} {a:Addr} {xs:List (Key×V)} (e:H a=some (.dK xs)):Ty K H (.ref a) "dict" := ⟨by simp [aM],.dK e⟩
def aU:V->Int->Bool
 | .int i,l=>decide (l<=i)
 | _,_=>false
def oB:V->Bool
 | .bl _=>true
 | _=>false
theorem wG {K:C8} {H:Hp} {x:V} {T:String} (t:TyOf K H x (.type T)) (h:T∈aM):(T == "int")=true->∃i,x=.int i:=by
 intro e;have e':T = "int" := by simpa using e
 subst e';generalize hv:Value.type "int" = tv at t;cases t with
 | int i=>exact ⟨i,Y⟩
 | _=>exact absurd hv (by simp)
theorem mT {K:C8} {H:Hp} {x:V} {T:String} (t:TyOf K H x (.type T)):(T == "bool")=oB x:=by
 generalize hv:Value.type T=tv at t;cases t with
 | bl b=>cases hv; rfl
 | non=>cases hv; rfl
 | int i=>cases hv; rfl
 | str i=>cases hv; rfl
 | flt i=>cases hv; rfl
 | lst i=>cases hv; rfl
 | frz i=>cases hv; rfl
 | tup i=>cases hv; rfl
 | dK i=>cases hv; rfl
 | dT i=>cases hv; rfl
 | ext i _=>cases hv; rfl
 | ins=>cases hv
end L2
local macro_rules|`($a ^^^ $b)=>`(@L2.aa _ _ _ _ _ $a $b rfl)
local macro_rules|`($a<<<$b)=>`(@L2.ag _ _ _ _ _ $a $b)
local macro_rules|`($a>>>$b)=>`(@L2.ag _ _ _ _ _ $a (@L2.ap _ _ _ $b))
local macro_rules|`($a⁻¹)=>`(@L2.ap _ _ _ (@L2.ay _ _ _ _ $a))
local macro_rules|`($a∩$b)=>`(@L2.aw _ _ _ _ _ _ _ _ _ _ $a (($(Lean.mkIdent `hr)).mono ∅) rfl $b ∅ rfl rfl)
local macro_rules|`($a∪$b)=>`(@L2.aw _ _ _ _ _ _ _ _ _ _ $a $(Lean.mkIdent `hr) rfl $b ∅ rfl rfl)
local macro_rules|`($a∣$b)=>`(@L2.aB _ _ $a _ _ _ _ $(Lean.mkIdent `nd) rfl (Or.inl rfl) $b rfl (Or.inl rfl))
local macro_rules|`($a&&&$o&&&$b)=>`(@L2.ax _ _ _ _ _ _ _ $o $a $b (fun _ _=>rfl))
local macro_rules|`($a|||$o|||$b)=>`(@L2.aA _ _ _ _ _ _ _ _ $o $a $b)
local macro_rules|`($a•$b)=>`(L2.ai (L2.ao (i:=$a) $(Lean.mkIdent `nd) rfl (Or.inl rfl)) $b)
local macro_rules|`($a<*>$o<*>$b)=>`(@L2.aH _ _ _ _ _ _ _ _ $o $a $b (L2.aG _))
local macro_rules|`($a<|>$b<|>$c)=>`(@L2.aR _ _ _ _ _ _ _ _ $a $b $c)
namespace Pc
open PySem L2
structure Pot (a b:Int):Prop where
 a0:0<=a
 b0:0<=b
 b1:b < 2147483629
def But (p:Addr) (H H':Hp):Prop:=∀b o,b≠p->H b=some o->H' b=some o
theorem But.trans {p:Addr} {H H1 H2:Hp} (a:But p H H1) (b:But p H1 H2):But p H H2:=λ c o n e=>b c o n (a c o n e)
theorem But.upd {p:Addr} {H:Hp} {o:HO}:But p H (upd H p o):=λ b u n e=>by rw [au n]; exact e
theorem But.new {p q:Addr} {H:Hp} {o:HO} (h:H q=none):But p H (L2.upd H q o):=λ b u n e=>by rw [au (ar e h)]; exact e
structure Kd where
 w:Int
 h:Int
 wo:Int
 wa:Int
 tu:Bool
def kdV (k:Kd):List V:=[.int k.w,.int k.h,.int k.wo,.int k.wa,.bl k.tu]
structure Good (k:Kd):Prop where
 w:1<=k.w
 h:1<=k.h
 wo:0<=k.wo
 wa:0<=k.wa
 w':k.w < 10 ^ 60
 h':k.h < 10 ^ 60
 wo':k.wo < 10 ^ 60
 wa':k.wa < 10 ^ 60
def TupAt (H:Hp) (v:V) (k:Kd):Prop:=∃a,v=.ref a/\H a= ~~~(kdV k)
def CF (H:Hp) (v:V) (k:Kd):Prop:=∃a,v=.ref a/\H a=↥(kdV k)
def RowAt (H:Hp) (v:V) (k:Kd):Prop:=TupAt H v k\/CF H v k
abbrev Tups (H:Hp):List V->List Kd->Prop:=Paired (TupAt H)
theorem Tups.keep {H H':Hp} (k:∀b xs,H b= ~~~xs->H' b= ~~~xs):∀ {xs:List V} {ks:List Kd},Tups H xs ks->Tups H' xs ks:=λ r =>
 JY r λ v kd ⟨a,e,h⟩=>⟨a,e,k a _ h⟩
structure ToldAt (H:Hp) (t l:Addr) (bl:Int) (xs:List V) (ks:List Kd):Prop where
 t:H t= ~~~[.int bl,.ref l]
 l:H l=↥xs
 r:Tups H xs ks
 b0:0<=bl
 b1:bl < 10 ^ 60
 g:∀k∈ks,Good k
 n0:1<=xs.length
 n1:xs.length<=8
def bY (K:C8):Sp:=λ vs H Q _=>∃ (x:V) (T:String) (l:Int),vs=[x,.int l]/\Ty K H x T/\Q (.bl (aU x l)) H
def gm (K:C8):Sp:=λ vs H Q _=>∃ (x:V) (T:String),vs=[x]/\Ty K H x T/\Q (.bl (oB x)) H
def jx (K:C8):Sp:=λ vs H Q _=>∃ (x:V) (T:String), vs=[x]/\Ty K H x T/\∀H', Same H H'->Q (.bl (T == "list" || T == "tuple")) H'
def ir:List V->Bool
 | [w,h,wo,wa,tu]=>aU w 1 && aU h 1 && aU wo 0 && aU wa 0 && oB tu
 | _=>false
def eU (K:C8):Sp:=λ vs H Q _=>∃ (x:V) (T:String),vs=[x]/\Ty K H x T /\ 
 ((T ≠ "list" /\ T ≠ "tuple" /\ ∀H', Same H H'->Q (.bl false) H')\/∃ (a:Addr) (xs:List V), x=.ref a/\(H a=↥xs\/H a= ~~~xs)/\(∀y∈xs, ∃U, Ty K H y U)/\∀H', Same H H'->Q (.bl (ir xs)) H')
theorem gK {k:Kd} (g:Good k):ir (kdV k)=true:=by
 show (decide (1<=k.w) && decide (1<=k.h) && decide (0<=k.wo) && decide (0<=k.wa) && true)=true;rw [decide_eq_true g.w,decide_eq_true g.h,decide_eq_true g.wo,decide_eq_true g.wa]
 rfl
theorem Ty.same {K:C8} {H H':Hp} {x:V} {T:String} (s:Same H H') (t:Ty K H x T):Ty K H' x T:=by
 refine ⟨t.1,?_⟩;have t2:=t.2;generalize hv:Value.type T=tv at t2 ⊢;cases t2 with
 | non=>exact .non
 | bl b=>exact .bl b
 | int b=>exact .int b
 | str b=>exact .str b
 | flt b=>exact .flt b
 | lst e=>exact .lst (s _ _ e)
 | frz e=>exact .frz (s _ _ e)
 | tup e=>exact .tup (s _ _ e)
 | dK e=>exact .dK (s _ _ e)
 | dT e=>exact .dT (s _ _ e)
 | ext e c=>exact .ext (s _ _ e) c
 | ins=>cases hv
end Pc
namespace L2
open PySem PySem.Spec PyProof.Rows
def qy (K:C8):List V->Hp->VK->Prop:=λ xs H Q=>∃p ys,xs=[V.ref p]/\((SqL K H p ys/\∀l,H l=none->Q (.ref l) (upd H l (.tup ys)))\/(SqT K H p ys/\Q (.ref p) H))
theorem qz {K:C8} {j:Nat} {a:Addr} {xs:List V} {g:TG} {tb:TS} {D:Ends} {σ:St} {H:Hp} (hσ:σ[j]? = some (↑a)) (hs:H a=↥xs\/H a= ~~~xs) (Pv:Nat->St->Hp->Prop) (h0:Pv 0 σ H)
  (hk:∀i σ H',i<=xs.length->Pv i σ H'->∀o,H a=some o->H' a=some o)
  (ht:∀i x σ H,xs[i]? = some x->Pv i σ H->g x σ H λ σ2 H2=>tb { D with nx:=Pv (i + 1),ct:=Pv (i + 1),bk:=D.nx } σ2 H2) (hd:∀σ H,Pv xs.length σ H->D.nx σ H):Cs (wF K (tVar j)) g tb D σ H:=by
 rcases hs with z | z
 ·exact .inl ⟨_,hσ,a,Y,⟨xs,JX z⟩,dD (xs:=xs) Pv h0 (λ i σ H' hi p=>JX (hk i σ H' hi p _ z)) ht hd⟩
 ·exact .inr ⟨_,hσ,a,Y,⟨xs,JW z⟩,iM (xs:=xs) Pv h0 (λ i σ H' hi p=>JW (hk i σ H' hi p _ z)) ht hd⟩
def Nx (n:Nat) (Pv:Nat->List V->Hp->Prop) (i:Nat) (ys:List V) (H:Hp):Prop:=∃m',m' < n - i/\m'=n - (i + 1)/\i + 1<=n/\Pv (i + 1) ys H
theorem Nx.of {n:Nat} {Pv:Nat->List V->Hp->Prop} {i:Nat} {ys:List V} {H:Hp} (h:i < n) (p:Pv (i + 1) ys H):Nx n Pv i ys H:=⟨n - (i + 1),⋯,Y,h,p⟩
theorem bn {K:C8} {a:Addr} {xs:List V} {σ:St} {cap:List Nat} {k:Nat} {g:TG} {tt:TT} {te:TE} {Q:List V->Hp->Prop} {H:Hp} (hs:H a=↥xs\/H a= ~~~xs) (Pv:Nat->List V->Hp->Prop)
  (hk:∀i ys H',i<=xs.length->Pv i ys H'->∀o,H a=some o->H' a=some o) (h0:Pv 0 [] H)
  (ht:∀i x ys H',xs[i]? = some x->Pv i ys H'->ys.length < sizeLine/\g x (bW σ cap k) H' λ σ2 H2=>leS (bW σ cap k) σ2/\tt σ2 H2 λ ok H3=>if ok=true then te σ2 H3 (λ v H4=>Nx xs.length Pv i (ys ++ [v]) H4) else Nx xs.length Pv i ys H3)
  (hd:∀ys H',Pv xs.length ys H'->ys.length<=sizeLine/\Q ys H') :
  (H a=↥xs->∃W,(∃m,W 0 m [] H)/\iq σ cap k (Itl K a) g tt te Q W)/\(H a= ~~~xs->∃W,(∃m,W 0 m [] H)/\iq σ cap k (Itt K a) g tt te Q W):=by
 refine ⟨λ z=>⟨λ i m ys H'=>m=xs.length - i/\i<=xs.length/\Pv i ys H',⟨_,Y,G0 _,h0⟩,?_⟩,λ z=>⟨λ i m ys H'=>m=xs.length - i/\i<=xs.length/\Pv i ys H',⟨_,Y,G0 _,h0⟩,?_⟩⟩
 ·rintro i m ys H' ⟨rfl,hi,p⟩;have z':=hk i ys H' hi p _ z
  by_cases hin:i < xs.length
  ·obtain ⟨e,hg⟩:=ht i xs[i] ys H' (by simp [hin]) p;refine .inr ⟨⟨xs,xs[i],JX z',by simp [hin]⟩,e,λ x H2 yl=>?_⟩;obtain ⟨e1,e2⟩:=yl;have e3:=e2 xs (JX z');have e4:x=xs[i]:=by simpa [hin] using e3.symm
   subst e1 e4;exact hg
  ·have e:i=xs.length:=⋯
   subst e;obtain ⟨a1,a2⟩:=hd ys H' p;exact .inl ⟨⟨xs,JX z',B6 _⟩,a1,a2⟩
 ·rintro i m ys H' ⟨rfl,hi,p⟩;have z':=hk i ys H' hi p _ z
  by_cases hin:i < xs.length
  ·obtain ⟨e,hg⟩:=ht i xs[i] ys H' (by simp [hin]) p;refine .inr ⟨⟨xs,xs[i],JW z',by simp [hin]⟩,e,λ x H2 yl=>?_⟩;obtain ⟨e1,e2⟩:=yl;have e3:=e2 xs (JW z');have e4:x=xs[i]:=by simpa [hin] using e3.symm
   subst e1 e4;exact hg
  ·have e:i=xs.length:=⋯
   subst e;obtain ⟨a1,a2⟩:=hd ys H' p;exact .inl ⟨⟨xs,JW z',B6 _⟩,a1,a2⟩
theorem oC {K:C8} {j:Nat} {a:Addr} {xs:List V} {σ:St} {cap:List Nat} {k:Nat} {g:TG} {tt:TT} {te:TE} {Q:VK} {H:Hp} (hσ:σ[j]? = some (↑a)) (hs:H a=↥xs\/H a= ~~~xs) (Pv:Nat->List V->Hp->Prop)
  (hk:∀i ys H',i<=xs.length->Pv i ys H'->∀o,H a=some o->H' a=some o) (h0:Pv 0 [] H)
  (ht:∀i x ys H',xs[i]? = some x->Pv i ys H'->ys.length < sizeLine/\g x (bW σ cap k) H' λ σ2 H2=>leS (bW σ cap k) σ2/\tt σ2 H2 λ ok H3=>if ok=true then te σ2 H3 (λ v H4=>Nx xs.length Pv i (ys ++ [v]) H4) else Nx xs.length Pv i ys H3)
  (hd:∀ys H',Pv xs.length ys H'->ys.length<=sizeLine/\∀p,H' p=none->Q (.ref p) (upd H' p (.lst ys))):qv (wF K (tVar j)) cap k g tt te σ H Q:=by
 obtain ⟨c1,c2⟩:=bn (K:=K) (σ:=σ) (cap:=cap) (k:=k) (g:=g) (tt:=tt) (te:=te) hs Pv hk h0 ht hd;rcases hs with z | z
 ·exact .inl ⟨_,hσ,a,Y,⟨xs,JX z⟩,c1 z⟩
 ·exact .inr ⟨_,hσ,a,Y,⟨xs,JW z⟩,c2 z⟩
end L2
namespace Pc
open PySem L2
def kS (b:Int) (r:Addr):List (Str×V):=bp "kind_rows" (.ref r) (bp "blade_width" (.int b) [])
theorem kbw:¬ (("blade_width" : Str) = "kind_rows"):=∅
theorem gL (b:Int) (r:Addr):(kS b r).lookup ("blade_width" : Str)=⇑b:=by unfold kS;rw [aX,if_neg kbw,aX,if_pos rfl]
theorem dR (b:Int) (r:Addr):(kS b r).lookup ("kind_rows" : Str)=↑r:=by unfold kS;rw [aX,if_pos rfl]
theorem cj (b:Int) (r:Addr) {m:Str} (h1:¬ m = "kind_rows") (h2:¬ m = "blade_width"):(kS b r).lookup m=none:=by
 unfold kS;rw [aX,if_neg h1,aX,if_neg h2]
 all_goals rfl
def ShopAt (C:Addr) (H:Hp) (x:Addr) (b:Int) (ks:List Kd):Prop:=∃dx r rs,H x=some (.ins C dx (kS b r))/\H r= ~~~rs/\Tups H rs ks
theorem ShopAt.keep {C:Addr} {H H':Hp} {x:Addr} {b:Int} {ks:List Kd} (s:ShopAt C H x b ks) (k1:∀b xs,H b= ~~~xs->H' b= ~~~xs) (k2:∀b C dx fs,H b=some (.ins C dx fs)->H' b=some (.ins C dx fs)):ShopAt C H' x b ks:=by obtain ⟨dx,r,rs,h1,h2,h3⟩:=s;exact ⟨dx,r,rs,k2 _ _ _ _ h1,k1 _ _ h2,Tups.keep k1 h3⟩
def kT (C:Addr):Sp:=λ vs H Q _=>∃ (x dx ks:Addr) (b:Int) (rs:List V) (kds:List Kd),vs=[.ref x,.int b,.ref ks]/\H x=some (.ins C dx [])/\0<=b/\(H ks=↥rs\/H ks= ~~~rs)/\Paired (RowAt H) rs kds/\(∀k∈kds,Good k)/\1<=rs.length/\rs.length<=8 /\
 ∀H':Hp,ShopAt C H' x b kds->(∀c o,c≠x->H c=some o->H' c=some o)->Q .non H'
def gp (C:Addr):Sp:=λ vs H Q _=>∃ (x:Addr) (b:Int) (ks:List Kd),vs=[.ref x]/\ShopAt C H x b ks/\Q (.int b) H
def eV (C:Addr):Sp:=λ vs H Q _=>∃ (x:Addr) (b:Int) (ks:List Kd),vs=[.ref x]/\ShopAt C H x b ks/\∀ (l:Addr) (rs:List V),H l=none->Tups H rs ks->Q (.ref l) (upd H l (.lst rs))
theorem mU {K:C8} {H:Hp} {k:Kd}:∀y∈kdV k,∃U,Ty K H y U:=by
 intro y hy;simp only [kdV,List.mem_cons,List.not_mem_nil,or_false] at hy;rcases hy with rfl | rfl | rfl | rfl | rfl
 ·exact ⟨_,.int⟩
 ·exact ⟨_,.int⟩
 ·exact ⟨_,.int⟩
 ·exact ⟨_,.int⟩
 ·exact ⟨_,.bl⟩
theorem Paired.getR {α β:Type} {F:α->β->Prop}:∀ {l₁:List α} {l₂:List β} {i:Nat} {x:α},Paired F l₁ l₂->l₁[i]? = some x->∃y,l₂[i]? = some y/\F x y
 | _,_,_,_,.nil,e=>by simp at e
 | _,_,0,_,.cons h _,e=>by simp at e; subst e; exact ⟨_,Y,h⟩
 | _,_,i + 1,x,.cons _ t,e=>by obtain ⟨y,h1,h2⟩:=Paired.getR (i:=i) (x:=x) t (by simpa using e);exact ⟨y,by simpa using h1,h2⟩
abbrev JZ:=@Paired.getR
theorem RowAt.same {H H':Hp} {v:V} {k:Kd} (s:Same H H') (r:RowAt H v k):RowAt H' v k:=by
 rcases r with ⟨a,e,h⟩ | ⟨a,e,h⟩
 ·exact .inl ⟨a,e,s _ _ h⟩
 ·exact .inr ⟨a,e,s _ _ h⟩
theorem oE {K:C8} {H:Hp} {v:V} {k:Kd} {Q:VK} {E:XK} (r:RowAt H v k) (g:Good k) (q:∀H',Same H H'->Q (.bl true) H'):eU K [v] H Q E:=by
 rcases r with ⟨a,rfl,h⟩ | ⟨a,rfl,h⟩
 ·exact ⟨_,_,Y,.tup h,.inr ⟨a,_,Y,.inr h,mU,λ H' s=>by rw [gK g]; exact q H' s⟩⟩
 ·exact ⟨_,_,Y,.lst h,.inr ⟨a,_,Y,.inl h,mU,λ H' s=>by rw [gK g]; exact q H' s⟩⟩
structure ShopTxt (K:C8) (C:Addr):Prop where
 cl:Cls K C
 nB:NoAttr K C "blade_width"
 nK:NoAttr K C "kind_rows"
end Pc
namespace L2
open PySem PySem.Spec PyProof.Rows
def Mn (P:G8) (w:JT) (K:C8) (mg:Str->Option JU) (base:Heap) (C:Addr) (m:Str) (ps:List Str) (k:Nat) (sp:Sp):Prop :=
 ∃ (f:Addr) (fd:I9),FnOk P w K mg base CX0 k f fd ps sp/\Binds K fd ps []/\Meth K C m f
theorem bQ {X:Cx} {k:Nat} {C:Addr} {ps:List Str} {sp:Sp} {m:Str} {o:Expr} {ta:TE} {apos pos:Pos} {pl:Sem Bool} (he:PE X o ta) (c:Cls X.K C) (D:Mn X.prog X.w X.K X.mg X.base C m ps k sp) (hr:Room k X.A)
  (ht:eval (.Call (.Attribute o m apos) [] [] pos) X.env=(do
   let ov<-eval o X.env
   standAt apos.atName
   let (f,first)<-holding [ov] (getMethod ov m pl)
   callWith pos f first (backTo pos (starEach [] X.env)) (backToKw pos (keywordEach [] X.env))):=by rfl):PE X (.Call (.Attribute o m apos) [] [] pos) (mL C m sp [] E0 ta sQ):=by
 obtain ⟨f,fd,F,hb,hm⟩:=D;exact qj he c hm F hr hb .nil mR ht
def Kn (P:G8) (w:JT) (K:C8) (mg:Str->Option JU) (base:Heap) (x:Str) (C:Addr) (ps:List Str) (k:Nat) (sp:Sp):Prop :=
 ∃ (f:Addr) (fd:I9),Mk K C f/\FnOk P w K mg base CX0 k f fd ps sp/\Binds K fd ps []/\mg x=↑C
theorem qA {X:Cx} {k:Nat} {C:Addr} {ps:List Str} {sp:Sp} {x:Str} {p pos:Pos} {e:Expr} {es:List Expr} {t:TA} (D:Kn X.prog X.w X.K X.mg X.base x C ps k sp) (hr:Room (k + 1) X.A) (hg:Gl X x) (ha:PA X (e :: es) t)
  (hdb:(x == ("__debug__" : Str))=false:=by decide) (he:starEach (e :: es) X.env=(false,eval e X.env) :: starEach es X.env:=by rfl) (hpl:(backTo pos (starEach es X.env)).any (·.1)=false:=by rfl) :
  PE X (.Call (.Name x p) (e :: es) [] pos) (vT C sp [] E0 t):=by
 obtain ⟨f,fd,M,F,hb,hm⟩:=D;exact sT M F hr hg hm hb .nil mR ha hdb he hpl
theorem tw {l1 l2:Addr} {xs ys:List V} {g:TG} {tb:TS} {D:Ends} {σ:St} {H:Hp} (Pv:Nat->St->Hp->Prop) (hn:xs.length=ys.length) (h0:Pv 0 σ H) (hk:∀i σ H',Pv i σ H'->H' l1=↥xs/\H' l2=↥ys)
  (ht:∀i x y p σ H,xs[i]? = some x->ys[i]? = some y->H p=none->Pv i σ H->g (.ref p) σ (upd H p (.tup [x,y])) λ σ2 H2=>tb { D with nx:=Pv (i + 1),ct:=Pv (i + 1),bk:=D.nx } σ2 H2) (hd:∀σ H,Pv xs.length σ H->D.nx σ H) :
  ∃W:Nat->Nat->St->Hp->Prop,(∃m,W 0 m σ H)/\∀i m σ H,W i m σ H ->
   ((Itz l1 l2).stop i H/\D.nx σ H)\/((Itz l1 l2).go i H/\∃N:St->Hp->Prop,(∀σ' H',N σ' H'->∃m',m' < m/\W (i + 1) m' σ' H')/\∀x H',(Itz l1 l2).yld i H x H'->g x σ H' λ σ2 H2=>tb { D with nx:=N,ct:=N,bk:=D.nx } σ2 H2):=by
 refine ⟨λ i m σ H=>m=xs.length - i/\i<=xs.length/\Pv i σ H,⟨xs.length,by simp,G0 _,h0⟩,?_⟩;rintro i m σ H ⟨rfl,hi,p⟩;obtain ⟨e1,e2⟩:=hk i σ H p
 by_cases hlt:i < xs.length
 ·refine .inr ⟨⟨xs,ys,xs[i],ys[i]'⋯,e1,e2,by simp [hlt],by simp [show i < ys.length by lia]⟩,Pv (i + 1),λ σ' H' p'=>⟨xs.length - (i + 1),⋯,Y,hlt,p'⟩,λ v H' y=>?_⟩;obtain ⟨q,xs',ys',x,y,hq,rfl,rfl,e1',e2',ex,ey⟩:=y;rw [e1] at e1'; cases e1';rw [e2] at e2'; cases e2';exact ht i x y q σ H ex ey hq p
 ·have e:i=xs.length:=⋯
  subst e;exact .inl ⟨⟨xs,ys,e1,e2,.inl (B6 _)⟩,hd σ H p⟩
end L2
namespace Pc
open PySem L2
theorem Same.new {q:Addr} {H:Hp} {o:HO} (h:H q=none):Same H (upd H q o):=λ b u e=>by rw [au (ar e h)]; exact e
abbrev JV:=@Same.new
end Pc
namespace L2
open PySem PySem.Spec PyProof.Rows
def RI (M:Model) (Γ:PySem.Ctx) (p:Pos) (s:G7) (e:End) (s':G7):Sem Fin->Prop
 | .pure (.done f)=>e=.ret (.ok f)/\s=s'
 | .pure (.again c)=>Runs M (Γ.goto c) p (M.den c) [] s e s'
 | .raise x=>e=.ret (.error x)/\s=s'
 | .rule _ k=>Runs M Γ p (k ()) [] s e s'
 | .at p' k=>Runs M Γ p' (k ()) [] s e s'
 | .load a _ k=>∃o,s.heap.get? a=some o/\Runs M Γ p (k o) [] s e s'
 | .update a _ f k=>Runs M Γ p (k ()) [] { s with heap:=s.heap.update a f } e s'
 | .loadIfAlive a k=>Runs M Γ p (k (s.heap.get? a)) [] s e s'
 | .point _ k=>Runs M Γ p (k ()) [] s e s'
 | .alloc o k=>Runs M Γ p (k s.heap.objs.size) [] { s with heap:=s.heap.push o } e s'
 | .fresh k=>Runs M Γ p (k s.toks) [] { s with toks:=s.toks + 1 } e s'
 | .ask k=>Runs M Γ p (k ⟨M.prog,M.w.params⟩) [] s e s'
 | .choose src n k=>Runs M Γ p (k (M.w.draws src (s.drawn.get src) % n)) [] { s with drawn:=s.drawn.bump src } e s'
 | .os q _ k=>Runs M Γ p (k (Os.step s.os q).2) [] { s with os:=(Os.step s.os q).1 } e s'
 | .handled own k=>Runs M Γ p (k (if own then Γ.own else Γ.handled)) [] s e s'
 | .genState g k=>∃st,s.gens[g]? = some st/\Runs M Γ p (k st.seen) [] s e s'
 | .stack k=>Runs M Γ p (k ((Γ.code,p) :: Γ.below)) [] s e s'
 | .thread k=>Runs M Γ p (k 0) [] s e s'
 | .newGen c k=>Runs M Γ p (k s.gens.size) [] { s with gens:=s.gens.push (.fresh c) } e s'
 | .yield v g l k=>e=.susp v g l k Γ.code p []/\s=s'
 | .call c h g l k=>(∃r s₁,Runs M (Γ.enter c h p) p (M.den c) [] s (.ret r) s₁/\Runs M Γ p (k r) [] s₁ e s') \/
   (∃v g₀ l₀ k₀ c₀ p₀ fs,Runs M (Γ.enter c h p) p (M.den c) [] s (.susp v g₀ l₀ k₀ c₀ p₀ fs) s'/\e=.susp v g₀ l₀ k₀ c₀ p₀ (fs ++ [.ret k h g l Γ.code p []]))
 | .resume g r _ k=>(∃c e₁ s₁,r=.send .none/\s.gens[g]? = some (.fresh c)/\Runs M (Γ.wake c p) p (M.den c) [] (s.setGen g .running) e₁ s₁/\Runs M Γ p (k e₁.result) [] (s₁.setGen g e₁.genState) e s') \/
   (∃k₀ l₀ c₀ p₀ fs cl e₁ s₁,s.gens[g]? = some (.suspended k₀ l₀ c₀ p₀ fs cl)/\Runs M (Γ.wake c₀ p) p₀ (k₀ r) fs (s.setGen g .running) e₁ s₁/\Runs M Γ p (k e₁.result) [] (s₁.setGen g e₁.genState) e s') \/
   (∃c v,r=.send v/\v≠.none/\s.gens[g]? = some (.fresh c)/\Runs M Γ p (k .justStarted) [] s e s') \/
   (∃c x,r=.throw x/\s.gens[g]? = some (.fresh c)/\Runs M Γ p (k (.raised x)) [] (s.setGen g .finished) e s') \/
   (s.gens[g]? = some .running/\Runs M Γ p (k .running) [] s e s')\/(s.gens[g]? = some .finished/\Runs M Γ p (k .finished) [] s e s')
 | _=>True
def RJ (M:Model) (Γ:PySem.Ctx) (p:Pos) (t:Sem Fin) (s:G7) (e:End) (s':G7):List Frame->Prop
 | []=>RI M Γ p s e s' t
 | F :: fs=>(∃k h g l c₁ p₁ kp r s₁,F=.ret k h g l c₁ p₁ kp/\Runs M (Γ.over (F :: fs)) p t [] s (.ret r) s₁/\Runs M (Γ.goto c₁) p₁ (k r) fs s₁ e s') \/
   (∃g k l c₁ p₁ r s₁,F=.gen g k l c₁ p₁/\Runs M (Γ.over (F :: fs)) p t [] s (.ret r) s₁/\Runs M (Γ.goto c₁) p₁ (k (End.ret r).result) fs (s₁.setGen g .finished) e s') \/
   (∃v g₀ l₀ k₀ c₀ p₀ fs₀,splitAtGen (F :: fs)=none/\Runs M (Γ.over (F :: fs)) p t [] s (.susp v g₀ l₀ k₀ c₀ p₀ fs₀) s'/\e=.susp v g₀ l₀ k₀ c₀ p₀ (fs₀ ++ F :: fs)) \/
   (∃pre g k c₁ p₁ rest v g₀ l₀ k₀ c₀ p₀ fs₀ s₁,splitAtGen (F :: fs)=some (pre,(g,k,c₁,p₁),rest)/\Runs M (Γ.over (F :: fs)) p t [] s (.susp v g₀ l₀ k₀ c₀ p₀ fs₀) s₁/\Runs M (Γ.goto c₁) p₁ (k (.yielded v)) rest (s₁.setGen g (End.susp v g₀ l₀ k₀ c₀ p₀ (fs₀ ++ pre)).genState) e s')
theorem bH {M:Model} {Γ:PySem.Ctx} {p:Pos} {t:Sem Fin} {fs:List Frame} {s s':G7} {e:End} (h:Runs M Γ p t fs s e s'):RJ M Γ p t s e s' fs:=by
 cases h with
 | done=>exact ⟨Y,Y⟩
 | raise=>exact ⟨Y,Y⟩
 | again _ b=>exact b
 | rule b=>exact b
 | «at» b=>exact b
 | load a b=>exact ⟨_,a,b⟩
 | update _ b=>exact b
 | loadIfAlive b=>exact b
 | point b=>exact b
 | alloc b=>exact b
 | fresh b=>exact b
 | ask b=>exact b
 | choose _ b=>exact b
 | os b=>exact b
 | handled b=>exact b
 | genState a b=>exact ⟨_,a,b⟩
 | stack b=>exact b
 | thread b=>exact b
 | newGen b=>exact b
 | call a b=>exact .inl ⟨_,_,a,b⟩
 | callSusp a=>exact .inr ⟨_,_,_,_,_,_,_,a,Y⟩
 | yield=>exact ⟨Y,Y⟩
 | resumeFresh a b _ c=>exact .inl ⟨_,_,_,Y,a,b,c⟩
 | resumeSuspended a b _ c=>exact .inr (.inl ⟨_,_,_,_,_,_,_,_,a,b,c⟩)
 | resumeJustStarted a b c=>exact .inr (.inr (.inl ⟨_,_,Y,b,a,c⟩))
 | resumeThrowFresh a b=>exact .inr (.inr (.inr (.inl ⟨_,_,Y,a,b⟩)))
 | resumeRunning a b=>exact .inr (.inr (.inr (.inr (.inl ⟨a,b⟩))))
 | resumeFinished a b=>exact .inr (.inr (.inr (.inr (.inr ⟨a,b⟩))))
 | segRet a b=>exact .inl ⟨_,_,_,_,_,_,_,_,_,Y,a,b⟩
 | segGen a b=>exact .inr (.inl ⟨_,_,_,_,_,_,_,Y,a,b⟩)
 | segSuspOut a b=>exact .inr (.inr (.inl ⟨_,_,_,_,_,_,_,a,b,Y⟩))
 | segSuspGen a b _ c=>exact .inr (.inr (.inr ⟨_,_,_,_,_,_,_,_,_,_,_,_,_,_,a,b,c⟩))
theorem gM {M:Model} {Γ:PySem.Ctx} {p:Pos} {t:Sem Fin} {fs:List Frame} {s s':G7} {e:End} (h:Runs M Γ p t fs s e s'):∀ {e2:End} {s2:G7},Runs M Γ p t fs s e2 s2->e=e2/\s'=s2:=by
 induction h with
 | done=>exact λ h2=>⟨(bH h2).1.symm,(bH h2).2⟩
 | raise=>exact λ h2=>⟨(bH h2).1.symm,(bH h2).2⟩
 | again _ _ ih=>exact λ h2=>ih (bH h2)
 | rule _ ih=>exact λ h2=>ih (bH h2)
 | «at» _ ih=>exact λ h2=>ih (bH h2)
 | load he _ ih =>
  intro e2 s2 h2;obtain ⟨o,b1,b2⟩:=bH h2;rw [he] at b1; cases b1; exact ih b2
 | update _ _ ih=>exact λ h2=>ih (bH h2)
 | loadIfAlive _ ih=>exact λ h2=>ih (bH h2)
 | point _ ih=>exact λ h2=>ih (bH h2)
 | alloc _ ih=>exact λ h2=>ih (bH h2)
 | fresh _ ih=>exact λ h2=>ih (bH h2)
 | ask _ ih=>exact λ h2=>ih (bH h2)
 | choose _ _ ih=>exact λ h2=>ih (bH h2)
 | os _ ih=>exact λ h2=>ih (bH h2)
 | handled _ ih=>exact λ h2=>ih (bH h2)
 | genState he _ ih =>
  intro e2 s2 h2;obtain ⟨o,b1,b2⟩:=bH h2;rw [he] at b1; cases b1; exact ih b2
 | stack _ ih=>exact λ h2=>ih (bH h2)
 | thread _ ih=>exact λ h2=>ih (bH h2)
 | newGen _ ih=>exact λ h2=>ih (bH h2)
 | call _ _ ih1 ih2 =>
  intro e2 s2 h2;rcases bH h2 with ⟨r,s1,a,b⟩ | ⟨_,_,_,_,_,_,_,a,_⟩
  ·obtain ⟨q1,q2⟩:=ih1 a; cases q1; subst q2; exact ih2 b
  ·obtain ⟨q1,_⟩:=ih1 a; cases q1
 | callSusp _ ih1 =>
  intro e2 s2 h2;rcases bH h2 with ⟨r,s1,a,b⟩ | ⟨_,_,_,_,_,_,_,a,b⟩
  ·obtain ⟨q1,_⟩:=ih1 a; cases q1
  ·obtain ⟨q1,q2⟩:=ih1 a; cases q1; exact ⟨b.symm,q2⟩
 | yield=>exact λ h2=>⟨(bH h2).1.symm,(bH h2).2⟩
 | resumeFresh hg _ _ _ ih1 ih2 =>
  intro e2 s2 h2;rcases bH h2 with ⟨_,_,_,_,g,a,b⟩ | ⟨_,_,_,_,_,_,_,_,g,_⟩ | ⟨_,v,rv,n,_⟩ | ⟨_,_,rv,_⟩ | ⟨g,_⟩ | ⟨g,_⟩
  ·rw [hg] at g; cases g; obtain ⟨q1,q2⟩:=ih1 a; subst q1 q2; exact ih2 b
  ·rw [hg] at g; cases g
  ·cases rv; exact absurd rfl n
  ·cases rv
  ·rw [hg] at g; cases g
  ·rw [hg] at g; cases g
 | resumeSuspended hg _ _ _ ih1 ih2 =>
  intro e2 s2 h2;rcases bH h2 with ⟨_,_,_,_,g,a,b⟩ | ⟨_,_,_,_,_,_,_,_,g,a,b⟩ | ⟨_,v,rv,n,g,_⟩ | ⟨_,_,rv,g,_⟩ | ⟨g,_⟩ | ⟨g,_⟩
  ·rw [hg] at g; cases g
  ·rw [hg] at g; cases g; obtain ⟨q1,q2⟩:=ih1 a; subst q1 q2; exact ih2 b
  ·rw [hg] at g; cases g
  ·rw [hg] at g; cases g
  ·rw [hg] at g; cases g
  ·rw [hg] at g; cases g
 | resumeJustStarted hg n _ ih =>
  intro e2 s2 h2;rcases bH h2 with ⟨_,_,_,rv,_⟩ | ⟨_,_,_,_,_,_,_,_,g,a,b⟩ | ⟨_,v,rv,_,g,b⟩ | ⟨_,_,rv,g,_⟩ | ⟨g,_⟩ | ⟨g,_⟩
  ·cases rv; exact absurd rfl n
  ·rw [hg] at g; cases g
  ·exact ih b
  ·cases rv
  ·rw [hg] at g; cases g
  ·rw [hg] at g; cases g
 | resumeThrowFresh hg _ ih =>
  intro e2 s2 h2;rcases bH h2 with ⟨_,_,_,rv,_⟩ | ⟨_,_,_,_,_,_,_,_,g,a,b⟩ | ⟨_,v,rv,_,g,b⟩ | ⟨_,_,rv,g,b⟩ | ⟨g,_⟩ | ⟨g,_⟩
  ·cases rv
  ·rw [hg] at g; cases g
  ·cases rv
  ·cases rv; exact ih b
  ·rw [hg] at g; cases g
  ·rw [hg] at g; cases g
 | resumeRunning hg _ ih =>
  intro e2 s2 h2;rcases bH h2 with ⟨_,_,_,_,g,_⟩ | ⟨_,_,_,_,_,_,_,_,g,a,b⟩ | ⟨_,v,rv,_,g,b⟩ | ⟨_,_,rv,g,b⟩ | ⟨g,b⟩ | ⟨g,_⟩
  ·rw [hg] at g; cases g
  ·rw [hg] at g; cases g
  ·rw [hg] at g; cases g
  ·rw [hg] at g; cases g
  ·exact ih b
  ·rw [hg] at g; cases g
 | resumeFinished hg _ ih =>
  intro e2 s2 h2;rcases bH h2 with ⟨_,_,_,_,g,_⟩ | ⟨_,_,_,_,_,_,_,_,g,a,b⟩ | ⟨_,v,rv,_,g,b⟩ | ⟨_,_,rv,g,b⟩ | ⟨g,b⟩ | ⟨g,b⟩
  ·rw [hg] at g; cases g
  ·rw [hg] at g; cases g
  ·rw [hg] at g; cases g
  ·rw [hg] at g; cases g
  ·rw [hg] at g; cases g
  ·exact ih b
 | segRet _ _ ih1 ih2 =>
  intro e2 s2 h2;rcases bH h2 with ⟨_,_,_,_,_,_,_,_,_,z,a,b⟩ | ⟨_,_,_,_,_,_,_,z,_⟩ | ⟨_,_,_,_,_,_,_,_,a,_⟩ | ⟨_,_,_,_,_,_,_,_,_,_,_,_,_,_,_,a,_⟩
  ·cases z; obtain ⟨q1,q2⟩:=ih1 a; cases q1; subst q2; exact ih2 b
  ·cases z
  ·obtain ⟨q1,_⟩:=ih1 a; cases q1
  ·obtain ⟨q1,_⟩:=ih1 a; cases q1
 | segGen _ _ ih1 ih2 =>
  intro e2 s2 h2;rcases bH h2 with ⟨_,_,_,_,_,_,_,_,_,z,a,b⟩ | ⟨_,_,_,_,_,_,_,z,a,b⟩ | ⟨_,_,_,_,_,_,_,_,a,_⟩ | ⟨_,_,_,_,_,_,_,_,_,_,_,_,_,_,_,a,_⟩
  ·cases z
  ·cases z; obtain ⟨q1,q2⟩:=ih1 a; cases q1; subst q2; exact ih2 b
  ·obtain ⟨q1,_⟩:=ih1 a; cases q1
  ·obtain ⟨q1,_⟩:=ih1 a; cases q1
 | segSuspOut hn _ ih1 =>
  intro e2 s2 h2;rcases bH h2 with ⟨_,_,_,_,_,_,_,_,_,z,a,b⟩ | ⟨_,_,_,_,_,_,_,z,a,b⟩ | ⟨_,_,_,_,_,_,_,_,a,z⟩ | ⟨_,_,_,_,_,_,_,_,_,_,_,_,_,_,hs,a,_⟩
  ·obtain ⟨q1,_⟩:=ih1 a; cases q1
  ·obtain ⟨q1,_⟩:=ih1 a; cases q1
  ·obtain ⟨q1,q2⟩:=ih1 a; cases q1; exact ⟨z.symm,q2⟩
  ·rw [hn] at hs; cases hs
 | segSuspGen hs _ _ _ ih1 ih2 =>
  intro e2 s2 h2;rcases bH h2 with ⟨_,_,_,_,_,_,_,_,_,z,a,b⟩ | ⟨_,_,_,_,_,_,_,z,a,b⟩ | ⟨_,_,_,_,_,_,_,hn,a,z⟩ | ⟨_,_,_,_,_,_,_,_,_,_,_,_,_,_,hs',a,b⟩
  ·obtain ⟨q1,_⟩:=ih1 a; cases q1
  ·obtain ⟨q1,_⟩:=ih1 a; cases q1
  ·rw [hn] at hs; cases hs
  ·rw [hs] at hs'; cases hs'; obtain ⟨q1,q2⟩:=ih1 a; cases q1; subst q2; exact ih2 b
theorem tD {α:Type} (M:Model) (Γ:PySem.Ctx) (t:Sem α):∀ (Q Q':α->Pos->G7->Prop) (E E':JU->Pos->G7->Prop) (p:Pos) (s:G7),Sem.wp M Γ t Q E p s->Sem.wp M Γ t Q' E' p s ->
  Sem.wp M Γ t (λ a p' s'=>Q a p' s'/\Q' a p' s') (λ e p' s'=>E e p' s'/\E' e p' s') p s:=by
 have det:∀ {Δ:PySem.Ctx} {p:Pos} {s:G7} {r r':Result} {s1 s2:G7},Returns M Δ p s r s1->Returns M Δ p s r' s2->r=r'/\s1=s2:=by intro Δ p s r r' s1 s2 h1 h2;obtain ⟨q1,q2⟩:=gM h1 h2;cases q1;exact ⟨Y,q2⟩
 have detW:∀ {Δ:PySem.Ctx} {p:Pos} {g:Nat} {r:Resume} {s:G7} {x x':GenResult} {s1 s2:G7},Wakes M Δ p g r s x s1->Wakes M Δ p g r s x' s2->x=x'/\s1=s2:=by
  intro Δ p g r s x x' s1 s2 h1 h2;unfold Wakes at h1 h2
  split at h1
  ·exact h1.elim
  ·split at h1
   ·obtain ⟨e1,t1,a1,_,rfl,rfl⟩:=h1
    rename_i hg _ _
    simp only [hg] at h2;obtain ⟨e2,t2,a2,_,rfl,rfl⟩:=h2;obtain ⟨q1,q2⟩:=gM a1 a2;subst q1 q2;exact ⟨Y,Y⟩
   ·rename_i hg _ _ hn
    simp only [hg] at h2;obtain ⟨rfl,rfl⟩:=h1;obtain ⟨rfl,rfl⟩:=h2;exact ⟨Y,Y⟩
   ·rename_i hg _ _
    simp only [hg] at h2;obtain ⟨rfl,rfl⟩:=h1;obtain ⟨rfl,rfl⟩:=h2;exact ⟨Y,Y⟩
  ·rename_i hg
   simp only [hg] at h2;obtain ⟨e1,t1,a1,_,rfl,rfl⟩:=h1;obtain ⟨e2,t2,a2,_,rfl,rfl⟩:=h2;obtain ⟨q1,q2⟩:=gM a1 a2;subst q1 q2;exact ⟨Y,Y⟩
  ·rename_i hg
   simp only [hg] at h2;obtain ⟨rfl,rfl⟩:=h1;obtain ⟨rfl,rfl⟩:=h2;exact ⟨Y,Y⟩
  ·rename_i hg
   simp only [hg] at h2;obtain ⟨rfl,rfl⟩:=h1;obtain ⟨rfl,rfl⟩:=h2;exact ⟨Y,Y⟩
 induction t with
 | pure a=>intro Q Q' E E' p s h h'; exact ⟨h,h'⟩
 | raise e=>intro Q Q' E E' p s h h'; exact ⟨h,h'⟩
 | unsupported _=>intro Q Q' E E' p s h _; exact h
 | finish _=>intro Q Q' E E' p s h _; exact h
 | rule _ k ih=>intro Q Q' E E' p s h h'; exact ih () _ _ _ _ p s h h'
 | «at» p' k ih=>intro Q Q' E E' p s h h'; exact ih () _ _ _ _ p' s h h'
 | load a _ k ih =>
  intro Q Q' E E' p s h h'; obtain ⟨o,ho,h⟩:=h; obtain ⟨o',ho',h'⟩:=h';rw [ho] at ho'; cases ho'; exact ⟨o,ho,ih o _ _ _ _ p s h h'⟩
 | update a _ f k ih=>intro Q Q' E E' p s h h'; exact ⟨h.1,ih () _ _ _ _ p _ h.2 h'.2⟩
 | loadIfAlive a k ih=>intro Q Q' E E' p s h h'; exact ih _ _ _ _ _ p s h h'
 | point _ k ih=>intro Q Q' E E' p s h h'; exact ih () _ _ _ _ p s h h'
 | register _ _=>intro Q Q' E E' p s h _; exact h
 | alloc o k ih=>intro Q Q' E E' p s h h'; exact ih _ _ _ _ _ p _ h h'
 | fresh k ih=>intro Q Q' E E' p s h h'; exact ih _ _ _ _ _ p _ h h'
 | ask k ih=>intro Q Q' E E' p s h h'; exact ih _ _ _ _ _ p s h h'
 | choose src m k ih=>intro Q Q' E E' p s h h'; exact ⟨h.1,ih _ _ _ _ _ p _ h.2 h'.2⟩
 | os q _ k ih=>intro Q Q' E E' p s h h'; exact ih _ _ _ _ _ p _ h h'
 | call c hd _ _ k ih =>
  intro Q Q' E E' p s h h'; obtain ⟨r,s',hr,h⟩:=h; obtain ⟨r',s'',hr',h'⟩:=h';obtain ⟨rfl,rfl⟩:=det hr hr';exact ⟨r,s',hr,ih r _ _ _ _ p s' h h'⟩
 | handled own k ih=>intro Q Q' E E' p s h h'; exact ih _ _ _ _ _ p s h h'
 | genState g k ih =>
  intro Q Q' E E' p s h h'; obtain ⟨st,hs,h⟩:=h; obtain ⟨st',hs',h'⟩:=h';rw [hs] at hs'; cases hs'; exact ⟨st,hs,ih _ _ _ _ _ p s h h'⟩
 | newGen c k ih=>intro Q Q' E E' p s h h'; exact ih _ _ _ _ _ p _ h h'
 | resume g r _ k ih =>
  intro Q Q' E E' p s h h'; obtain ⟨x,s',hw,h⟩:=h; obtain ⟨x',s'',hw',h'⟩:=h';obtain ⟨rfl,rfl⟩:=detW hw hw';exact ⟨x,s',hw,ih x _ _ _ _ p s' h h'⟩
 | yield _ _ _ _=>intro Q Q' E E' p s h _; exact h
 | stack k ih=>intro Q Q' E E' p s h h'; exact ih _ _ _ _ _ p s h h'
 | fork _ _=>intro Q Q' E E' p s h _; exact h
 | thread k ih=>intro Q Q' E E' p s h h'; exact ih _ _ _ _ _ p s h h'
 | await _ _ _ _ _=>intro Q Q' E E' p s h _; exact h
theorem de {α:Type} {M:Model} {A:Around} {t:Sem α} {Q Q':α->G7->Prop} {E E':JU->G7->Prop} {s:G7} (h:wpAny M A t Q E s) (h':wpAny M A t Q' E' s) :
  wpAny M A t (λ a s'=>Q a s'/\Q' a s') (λ e s'=>E e s'/\E' e s') s:=λ Γ p hΓ=>tD M Γ t _ _ _ _ p s (h Γ p hΓ) (h' Γ p hΓ)
def Q2 (e:Addr) (h:Heap):Prop:=∃oe vs,h.get? e=some oe/\oe.data=.fields vs/\vs[2]? = some .none
section
variable {M:Model} {A:Around} {E:JU->G7->Prop} {s:G7} {base:Heap} {env:Env} {outer l:List Env} {L e:Addr} {cls a0 fl:JU} {Q:Unit->G7->Prop}
theorem Q2.set {e c:Addr} {h:Heap} {i:Nat} {v:JU} (hi:i≠2) (q:Q2 e h):Q2 e (h.update c (Obj.mapFields (·.setIfInBounds i v))):=by
 obtain ⟨oe,vs,he,hd,h2⟩:=q
 by_cases z:c=e
 ·subst z;have hd':=Obj.data_mapFields hd (·.setIfInBounds i v);exact ⟨_,_,Heap.get?_update_self _ he (Obj.isFreed_of_fields hd'),hd',by rw [Array.getElem?_setIfInBounds_ne hi]; exact h2⟩
 ·exact ⟨oe,vs,(Heap.get?_update_other _ _ z).trans he,hd,h2⟩
theorem Q2.push {e:Addr} {h:Heap} {o:Obj} (q:Q2 e h):Q2 e (h.push o):=let ⟨oe,vs,he,r⟩:=q; ⟨oe,vs,B0 _ he,r⟩
theorem qB {head:JU} {nx:Bool} (hfr:A.frames=some (env :: outer)) (hl:s.heap.FunFrames base (env :: outer)) (hf:env.frame=some L) (q:Q2 e s.heap)
  (h:∀h₁ o ts,Q2 e h₁->o.data=.fields ts->3 < ts.size->Q () { s with heap:=(h₁.push o).update e (Obj.mapFields (·.setIfInBounds 1 (Value.ref h₁.objs.size))) }) :
  wpAny M A (do let a<-frameOf env; let pl<-entryPlaceOf L nx; let b<-EntryCells.newEntry head a .none (rawInt L) .none pl; setField (.ref e) 1 b) Q E s:=by
 obtain ⟨oe,vs,he,hd,h2⟩:=q;have hene:e∉(env :: outer).filterMap (·.frame):=λ hm=>by obtain ⟨_,o,ho,hnf⟩:=hl.mem hm;rw [he] at ho; injection ho with ho; subst ho; exact hnf vs hd
 refine A0 (wpAny_frameOf_fun hfr hl hf λ h₁ hs₁=>?_);refine A0 (wpAny_entryPlaceOf λ pl hpl=>?_);unfold EntryCells.newEntry newFields;refine A0 (G5 ?_ (hpl.sizeOk5 _ _ _ _ _));have he₁:h₁.get? e=some oe:=(hs₁.2.1 e hene).trans he;have h2s:2 < vs.size:=(Array.getElem?_eq_some_iff.mp h2).1;exact wpAny_setField (B0 _ he₁) hd ⋯ (h h₁ _ _ ⟨oe,vs,he₁,hd,h2⟩ rfl (by simp only [List.size_toArray,List.length_append,List.length_cons,List.length_nil]; lia))
theorem mV (tr:s.heap.TracedAtW base e cls a0 fl) (q:Q2 e s.heap):wpAny M A (setFlight (.ref e) none) (λ _ s'=>Q2 e s'.heap) E s:=by obtain ⟨oe,vs,T,oT,ts,he,hcls,hd,h1,hnT,hTe,hT,hdT,h3⟩:=tr;unfold setFlight;refine A0 (wpAny_field he hd h1 ?_);rw [if_pos (show (Value.ref T != Value.none)=true from by simp)];exact wpAny_setField hT hdT (Array.getElem?_eq_some_iff.mp h3).1 (q.set ∅)
theorem CG (hfr:A.frames=some (env :: outer)) (hf:env.frame=some L) (f:Heap.FlyingW base (env :: outer) e cls a0 s.heap) (q:Q2 e s.heap):wpAny M A (noteFrame (.ref e) env) (λ _ s'=>Q2 e s'.heap) E s:=by obtain ⟨hkb,hen,hl,oe,vs,T,oT,ts,he,hcls,hd,h1,hnT,hTe,hT,hdT,h3⟩:=f;unfold noteFrame;simp only [hf];refine A0 (wpAny_field he hd h1 ?_);rw [if_pos (show (Value.ref T != Value.none)=true from by simp)];refine A0 (wpAny_field hT hdT h3 ?_);rw [if_neg (show ¬ ((Value.none == rawInt L)=true) from by simp [rawInt])];refine A0 (wpAny_setField hT hdT (Array.getElem?_eq_some_iff.mp h3).1 ?_);refine qB (s:={ s with heap:=s.heap.update T (Obj.mapFields (·.setIfInBounds 3 Value.none)) }) hfr (hl.of_keeps λ b o hb hnf=>⟨o,(Heap.get?_update_other _ _ (λ z=>?_)).trans hb,Y⟩) hf (q.set ∅) λ h₁ o _ q1 _ _=>q1.push.set ∅;rw [<- z,hT] at hb; injection hb with hb; subst hb; exact hnf ts hdT
theorem wH {h:Heap} {args:List JU} (hfr:A.frames=some (env :: outer)) (hf:env.frame=some L) (hl:h.FunFrames base (env :: outer)) (hx:Heap.MadeExcOf h s.heap e cls args):wpAny M A (leaving env (.ref e)) (λ _ s'=>Q2 e s'.heap) E s:=by
 obtain ⟨t,he,htn,ht⟩:=hx.there;have q:Q2 e s.heap:=⟨_,_,he,Y,Y⟩
 unfold leaving noteFrame;simp only [hf];refine A0 (A0 (wpAny_field he rfl (x:=.none) rfl ?_));rw [if_neg ∅];refine qB (base:=base) hfr (hl.of_keeps λ b o hb _=>⟨o,hx.keeps b o hb,Y⟩) hf q λ h₁ o ts q1 ho h3=>?_;obtain ⟨oe1,vs1,he1,hd1,h21⟩:=q1;have hTe:h₁.objs.size≠e:=Nat.ne_of_gt (B2 he1);have hd3:=Obj.data_mapFields hd1 (·.setIfInBounds 1 (Value.ref h₁.objs.size));have he3:=Heap.get?_update_self (Obj.mapFields (·.setIfInBounds 1 (Value.ref h₁.objs.size))) (B0 o he1) (Obj.isFreed_of_fields hd3);have h2s:2 < vs1.size:=(Array.getElem?_eq_some_iff.mp h21).1;have hT:=(Heap.get?_update_other (h₁.push o) (Obj.mapFields (·.setIfInBounds 1 (Value.ref h₁.objs.size))) (Ne.symm hTe)).trans (B1 h₁ (Obj.isFreed_of_fields ho));unfold setFlight;refine A0 (wpAny_field he3 hd3 (x:=.ref h₁.objs.size) (by rw [Array.getElem?_setIfInBounds_self_of_lt ⋯]) ?_);rw [if_pos (show (Value.ref h₁.objs.size != Value.none)=true from by simp)];exact wpAny_setField hT ho h3 ((Q2.push (o:=o) ⟨oe1,vs1,he1,hd1,h21⟩).set (i:=1) ∅ |>.set ∅)
end
section
variable {M:Model} {A:Around} {E:JU->G7->Prop} {s:G7} {base:Heap} {env:Env} {outer l:List Env} {L e:Addr} {cls a0 fl:JU} {Q:Unit->G7->Prop}
theorem iW {h:Heap} {args:List JU} (hfr:A.frames=some (env :: outer)) (hf:env.frame=some L) (hkb:base.StaysIn h) (hl:h.FunFrames base (env :: outer)) (hx:Heap.MadeExcOf h s.heap e cls args)
  (hQ:∀h' t,Heap.FlyingW base outer e cls (.ref t) h'->h'.TupAt t args->base.get? t=none->s.heap.UpToSlots h'->Q2 e h'->Q () { s with heap:=h' }):wpAny M A (leaving env (.ref e)) Q E s :=
 wpAny_mono (de (wH (E:=E) hfr hf hl hx) (wpAny_leaves_madeW (Q:=λ _ s'=>Q2 e s'.heap->Q () s') (E:=E) hfr hf hkb hl hx λ h' t a b c d q=>hQ h' t a b c d q)) (λ _ _ z=>z.2 z.1) λ _ _ z=>z.1
theorem oF (hfr:A.frames=some (env :: outer)) (hf:env.frame=some L) (f:Heap.FlyingW base (env :: outer) e cls a0 s.heap) (q:Q2 e s.heap)
  (hQ:∀h',Heap.HeldW base (env :: outer) e cls a0 L h'->s.heap.UpToSlots h'->Q2 e h'->Q () { s with heap:=h' }):wpAny M A (noteFrame (.ref e) env) Q E s :=
 wpAny_mono (de (CG (E:=E) hfr hf f q) (wpAny_looks_onW (Q:=λ _ s'=>Q2 e s'.heap->Q () s') (E:=E) hfr hf f λ h' a b q=>hQ h' a b q)) (λ _ _ z=>z.2 z.1) λ _ _ z=>z.1
theorem wI (hh:Heap.HeldW base l e cls a0 L s.heap) (q:Q2 e s.heap) (hQ:∀h',Heap.FlyingW base l e cls a0 h'->s.heap.UpToSlots h'->Q2 e h'->Q () { s with heap:=h' }):wpAny M A (setFlight (.ref e) none) Q E s :=
 wpAny_mono (de (mV (E:=E) hh.2.2.2 q) (wpAny_landsW (Q:=λ _ s'=>Q2 e s'.heap->Q () s') (E:=E) hh λ h' a b q=>hQ h' a b q)) (λ _ _ z=>z.2 z.1) λ _ _ z=>z.1
theorem iX (hh:Heap.FlyingW base l e cls a0 s.heap) (q:Q2 e s.heap) (hQ:∀h',Heap.FlyingW base l e cls a0 h'->s.heap.UpToSlots h'->Q2 e h'->Q () { s with heap:=h' }):wpAny M A (setFlight (.ref e) none) Q E s :=
 wpAny_mono (de (mV (E:=E) hh.2.2.2.at q) (lands_againW (Q:=λ _ s'=>Q2 e s'.heap->Q () s') (E:=E) hh λ h' a b q=>hQ h' a b q)) (λ _ _ z=>z.2 z.1) λ _ _ z=>z.1
end
theorem ObjOk.ex {P:G8} {w:JT} {H:Hp} {h:Heap} {a:Addr} {o:HO} (x:ObjOk P w H h a o):∃ob,h.get? a=some ob:=by
 cases o with
 | lst xs=>obtain ⟨_,_,_,_,e⟩:=x; exact ⟨_,e⟩
 | tup xs=>obtain ⟨_,_,_,o,e,_⟩:=x; exact ⟨_,e⟩
 | dK kvs=>obtain ⟨_,_,_,_,o,_,_,e,_⟩:=x; exact ⟨_,e⟩
 | dT kvs=>obtain ⟨_,_,_,_,o,_,_,e,_⟩:=x; exact ⟨_,e⟩
 | set S n=>obtain ⟨o,_,_,_,e,_⟩:=x; exact ⟨_,e⟩
 | ins C dx fs=>obtain ⟨_,_,_,e,_⟩:=x; exact ⟨_,e⟩
 | own y=>exact x
 | xd fs=>obtain ⟨_,⟨_,_,_,e,_⟩,_⟩:=x; exact ⟨_,e⟩
 | rng lo hi=>obtain ⟨_,_,_,e⟩:=x; exact ⟨_,e⟩
 | frz ob u=>exact ⟨_,x.1⟩
 | tbl ps=>exact ⟨_,(show h.get? a=some _ from x)⟩
 | met f y=>exact ⟨_,(show h.get? a=some _ from x)⟩
 | ext φ=>exact x.2.1
structure Flew (P:Program) (w:World) (outer:List Env) (H:Hp) (s:Shared) (ea:Addr) (C:Value) (H':Hp) (B:Heap) (s':Shared):Prop where
 os:s'.os=s.os
 bare:AllBare s'.gens
 un:Un (frs outer) [] H H' s.heap s'.heap
 hok:HOk P w H' s'.heap
 fly:∃a0,Heap.FlyingW B outer ea C a0 s'.heap
 ctx:Q2 ea s'.heap
 cov:∀b o,b∉frs outer->(H' b≠none\/∃o',s.heap.get? b=some o')->s'.heap.get? b=some o->B.get? b=some o
 new:s.heap.get? ea=none/\H' ea=none
def CXx (P:G8) (w:JT):CXT:=λ outer H s E e s'=>∃ea C H' B,e=Value.ref ea/\Flew P w outer H s ea C H' B s'/\E C none H'
section
variable {X:Cx} {pins:List (Addr×Obj)} {σ:St} {H:Hp} {s:G7}
theorem Inv.raised {h2:Heap} {ea:Addr} {C:JU} {vs:List JU} {M:Model} {E:JU->G7->Prop} {Q:Unit->G7->Prop} (I:Inv X pins σ H s) (hst:X.stack=X.env :: X.outer) (hfr:X.env.frame=some X.env.locals) (hex:X.ex=[])
  (hx:Heap.MadeExcOf s.heap h2 ea C vs) (hQ:∀B h',Flew X.prog X.w X.outer X.H₀ X.s₀ ea C H B { s with heap:=h' }->Q () { s with heap:=h' }) :
  wpAny M X.A (leaving X.env (.ref ea)) Q E { s with heap:=h2 }:=by
 have fS:frs X.stack=X.env.locals :: X.fs:=by rw [hst]; unfold frs; rw [List.filterMap_cons,hfr]; rfl
 have st:s.heap.FunFrames X.base (X.env :: X.outer):=by rw [<- hst]; exact I.stack
 have hin:∀env∈(X.env :: X.outer),∀b,env.frame=some b->b∈frs X.stack:=λ env he b hb=>by rw [hst]; exact List.mem_filterMap.mpr ⟨env,he,hb⟩
 have s0L:∀b o,X.s₀.heap.get? b=some o->b≠X.env.locals:=λ b o e=>C2 (C5 (B2 e) I.ok.above);have Ubase:Un X.fs [] X.H₀ H X.s₀.heap s.heap:=by have:=I.base; rw [hex] at this; exact this
 have trk:∀b u,H b=some u->b∉frs X.stack:=λ b u e hb=>by rw [I.stkFree b hb] at e; cases e
 have ofd:∀b,b∈X.fs->∃o,s.heap.get? b=some o/\∀vs,o.data≠.fields vs:=λ b hb=>by obtain ⟨_,o,ho,hd⟩:=I.funs.mem hb;exact ⟨o,ho,hd⟩
 refine iW (base:=PySem.W.hideAll s.heap (frs X.stack)) (h:=s.heap) (by rw [<- hst]; exact I.ok.frames) hfr (λ b o q=>PySem.W.of_hideAll _ q) (PySem.W.funFrames_hide st hin) hx λ h' t fl tup hbt sm q2=>hQ (PySem.W.hideAll s.heap (frs X.stack)) h' ?_;have toB:∀b o,b∉frs X.stack->s.heap.get? b=some o->h'.get? b=some o:=λ b o nb e=>fl.1 _ _ (PySem.W.hideAll_get _ e nb);have nfs:∀b o,X.s₀.heap.get? b=some o->b∉X.fs->b∉frs X.stack:=λ b o e nb z=>by
  rw [fS] at z;rcases List.mem_cons.mp z with q | q
  ·exact s0L b o e q
  ·exact nb q
 have slot1:∀b o,b∈X.fs->s.heap.get? b=some o->∃sl,h'.get? b=some { o with slots:=sl }:=λ b o hb e=>by obtain ⟨o',e',hd⟩:=ofd b hb;rw [e] at e'; cases e';exact sm b o (hx.keeps _ _ e) hd
 refine ⟨I.os,I.bare,⟨λ b o e n hb _=>?_,λ b o e n hb _=>?_,λ b o e n _=>Ubase.free b o e n (by simp),λ b o e _=>?_,Ubase.tups,Ubase.frzs,Ubase.tbls⟩,λ b u e=>?_,⟨_,fl⟩,q2,λ b o nb hh e=>?_,?_,?_⟩
 ·exact toB b o (nfs b o e hb) (Ubase.keep b o e n hb (by simp))
 ·obtain ⟨sl,e1⟩:=Ubase.slot b o e n hb (by simp);obtain ⟨sl',e2⟩:=slot1 b _ hb e1;exact ⟨sl',e2⟩
 ·obtain ⟨o',e1⟩:=Ubase.there b o e (by simp)
  by_cases hb:b∈X.fs
  ·obtain ⟨sl,e2⟩:=slot1 b _ hb e1;exact ⟨_,e2⟩
  ·exact ⟨o',toB b o' (nfs b o e hb) e1⟩
 ·refine (I.hok b u e).stay (λ c v hc q=>toB c v ?_ q) (λ _ q=>q) λ _ _ q=>q;rcases hc with z | z
  ·rw [z]; exact trk b u e
  ·exact trk c _ z
 ·rcases hh with z | ⟨o',z⟩
  ·cases q:H b with
   | none=>exact absurd q z
   | some u =>
    obtain ⟨ob,eb⟩:=(I.hok b u q).ex;have eB:=PySem.W.hideAll_get _ eb (trk b u q);have:=fl.1 _ _ eB;rw [e] at this; cases this;exact eB
  ·obtain ⟨o'',e1⟩:=Ubase.there b o' z (by simp);have eB:=PySem.W.hideAll_get _ e1 (nfs b o' z nb);have:=fl.1 _ _ eB;rw [e] at this; cases this;exact eB
 ·cases q:X.s₀.heap.get? ea with
  | none=>rfl
  | some o =>
   obtain ⟨o',e1⟩:=Ubase.there ea o q (by simp);rw [hx.new] at e1; cases e1
 ·cases q:H ea with
  | none=>rfl
  | some u =>
   obtain ⟨ob,eb⟩:=(I.hok ea u q).ex;rw [hx.new] at eb; cases eb
theorem Flew.inv {ea:Addr} {C:JU} {H':Hp} {B h6:Heap} {s':G7} {t:Nat} (I:Inv X pins σ H s) (f:Flew X.prog X.w X.stack H s ea C H' B s') (hB:B.StaysIn h6) (sm:s'.heap.UpToSlots h6):Inv X pins σ H' { s' with heap:=h6,toks:=t }:=by
 have trk:∀b u,H' b=some u->b∉frs X.stack:=λ b u e hb=>by
  obtain ⟨o,ho⟩:∃o,s.heap.get? b=some o:=let ⟨_,o,ho,_⟩:=I.stack.mem hb; ⟨o,ho⟩
  have:=f.un.free b o ho (I.stkFree b hb) (by simp);rw [this] at e; cases e
 have slot1:∀b o,b∈frs X.stack->s'.heap.get? b=some o->∃sl,h6.get? b=some { o with slots:=sl }:=λ b o hb e=>by obtain ⟨a0,fl⟩:=f.fly;obtain ⟨_,o',e',hd⟩:=fl.2.2.1.mem hb;rw [e] at e'; cases e';exact sm b o e hd
 refine I.call' (ch:=[]) f.os ⟨λ b o e n hb _=>?_,λ b o e n hb _=>?_,λ b o e n _=>f.un.free b o e n (by simp),λ b o e _=>?_,f.un.tups,f.un.frzs,f.un.tbls⟩ (λ b u e=>?_) f.bare (λ b z=>absurd z (by simp))
 ·exact hB _ _ (f.cov b o hb (.inr ⟨o,e⟩) (f.un.keep b o e n hb (by simp)))
 ·obtain ⟨sl,e1⟩:=f.un.slot b o e n hb (by simp);obtain ⟨sl',e2⟩:=slot1 b _ hb e1;exact ⟨sl',e2⟩
 ·obtain ⟨o',e1⟩:=f.un.there b o e (by simp)
  by_cases hb:b∈frs X.stack
  ·obtain ⟨sl,e2⟩:=slot1 b _ hb e1;exact ⟨_,e2⟩
  ·exact ⟨o',hB _ _ (f.cov b o' hb (.inr ⟨o,e⟩) e1)⟩
 ·refine (f.hok b u e).stay (λ c v hc q=>?_) (λ _ q=>q) λ _ _ q=>q;have hc':H' c≠none:=by
   rcases hc with z | z
   ·rw [z,e]; exact λ z=>nomatch z
   ·rw [z]; exact λ z=>nomatch z
  have nc:c∉frs X.stack:=by
   cases q':H' c with
   | none=>exact absurd q' hc'
   | some u'=>exact trk c u' q'
  exact hB _ _ (f.cov c v nc (.inl hc') q)
end
@[inline]def bmVE:List JU:=[.type "ValueError",.type "Exception",.type "BaseException",.type "object"]
def ExcC (K:C8) (C:Addr):Prop:=PySem.W.excIn K C bmVE "ValueError.__new__" = true
theorem ExcC.obj {K:C8} {C:Addr} {h:Heap} (X:K.In h) (q:ExcC K C):∃bm N nm qn bs hdct sn sub ab col dd k0 k1 k2 k3 k5 mN,
  h.get? C=some (excClassObj nm qn C N bs bm hdct sn sub ab col dd k0 k1 k2 k3 k5 "ValueError.__new__")/\h.Ns N mN/\mN "__init__" = none/\OwnTail h bmVE bm:=by
 unfold ExcC PySem.W.excIn at q
 split at q
 ·rename_i dd cd sl ho
  split at q
  ·rename_i C' bm k0 k1 k2 k3 n k5 hm hs
   simp only [Bool.and_eq_true,beq_iff_eq,Bool.not_eq_true'] at q;obtain ⟨⟨⟨⟨⟨e1,e2⟩,e3⟩,e4⟩,e5⟩,e6⟩:=q;obtain ⟨nm,bs,mro,ns,qn,hd,sn,sub,ab,col,del⟩:=cd;dsimp only at hm e3 e5 e6;subst e1 e2 hm e3;obtain ⟨l⟩:=sl;simp only at hs;subst hs;exact ⟨bm,ns,nm,qn,bs,hd,sn,sub,ab,col,dd,k0,k1,k2,k3,k5,_,X _ _ ho,.of_isNs (PySem.W.isNs_of_in X e5),PySem.W.nsMap_none_of_in X e5 e6,PySem.W.tail_of_in X e4⟩
  ·cases q
 ·cases q
section
variable {X:Cx} {x:Str} {C:Addr} {e0:Expr} {np cpos pos:Pos} {t:TA}
def wJ (R:JU->Hp->Prop) (C:Addr) (t:TA):TS:=λ _ σ H=>t σ H λ vs H1=>vs.length<=sizeLine/\R (.ref C) H1
theorem qD {R:JU->Hp->Prop} (hc:X.calm=true) (hg:Gl X x) (hm:X.mg x=↑C) (ec:ExcC X.K C) (ha:PA X [e0] t)
  (hR:∀pins σ H s h2 ea vs,Inv X pins σ H s->Heap.MadeExcOf s.heap h2 ea (.ref C) vs->R (.ref C) H->X.xe (.ref ea) { s with heap:=h2 })
  (he:starEach [e0] X.env=[(false,eval e0 X.env)]:=by rfl) (hd:(x == ("__debug__" : Str))=false:=by decide) :
  PS X (.Raise (some (.Call (.Name x np) [e0] [] cpos)) none pos) (wJ R C t):=by
 intro pins s σ H D I h;obtain ⟨bm,N,nm,qn,bs,hdct,sn,sub,ab,col,dd,k0,k1,k2,k3,k5,mN,hC,hN,hni,T⟩:=ec.obj I.ok.mod.kin;refine wpAny_Raise_call_subT (C:=C) (nm:=nm) (q:=qn) (N:=N) (bs:=bs) (bm:=bm) (hdct:=hdct) (sn:=sn) (sub:=sub) (ab:=ab) (col:=col) (dd:=dd) (k0:=k0) (k1:=k1) (k2:=k2) (k3:=k3) (k5:=k5)
  PySem.F.excBase_ValueError (mN:=mN) (T.hasType PySem.F.excBase_ValueError.hasBase) (I.ok.hd hc) (by rw [he]; rfl) hni (dM I hg hm ⟨rfl,?_⟩ hd)
 have h2:=ha cpos pins s σ H _ I h;rw [he] at h2 ⊢;refine Calls.evalArgs_plain (thn h2 λ us s2 ⟨vs,H1,I1,rv,hl,q⟩=>⟨Y,by rw [<- rv.length]; exact hl,I1.bk _ _ hC,hN.keeps I1.bk,T.keeps I1.bk,λ h' ea hx=>?_⟩);exact hR pins σ H1 s2 h' ea us I1 hx q
end
section
variable {P:G8} {w:JT} {K:C8} {mg:Str->Option JU} {base:Heap}
theorem kU {N:List Str} {qual:Str} {scope:Scope} {f:Addr} {cd:JU} {A:Around} {outer:List Env} {s₀:G7} {H₀:Hp} {E:XK} {C:Addr} :
  ∀pins σ H s h2 ea vs,Inv (iP (CXx P w) P w K mg base N qual scope f cd A outer s₀ H₀ E) pins σ H s->Heap.MadeExcOf s.heap h2 ea (.ref C) vs->(λ c H=>E c none H) (Value.ref C) H ->
   (iP (CXx P w) P w K mg base N qual scope f cd A outer s₀ H₀ E).xe (.ref ea) { s with heap:=h2 }:=λ pins σ H s h2 ea vs I hx q =>
 I.raised (E:=λ e' s''=>CXx P w outer H₀ s₀ E e' s'') rfl rfl rfl hx λ B h' f=>⟨ea,_,H,B,Y,f,q⟩
theorem Fun.okX {x qual:Str} {st:Stmt} {f:Addr} {fd:I9} {N ps:List Str} {k:Nat} {sp:Sp} (F:Fun K x qual st f fd) (S:FnScope N ps (defScope st)) (len:∀vs H Q E,sp vs H Q E->vs.length=ps.length)
  (hbody:∀ (cdv:JU) (A:Around) (outer:List Env) (s:G7) (H:Hp) (vs:List V) (Q:VK) (E:XK),Room k (A.deeper (envOfC qual (defScope st) s.heap.objs.size f cdv))->sp vs H Q E ->
   ∃t,PSs (iP (CXx P w) P w K mg base N qual (defScope st) f cdv A outer s H E) (defBody st) t/\t { nx:=λ _ H'=>Q .non H',rt:=Q } (eQ N vs) H):FnOk P w K mg base (CXx P w) (k + 1) f fd ps sp:=by
 obtain ⟨oc,od,kV,doc,pm,an,cdv,ct,osl,rfl,lk,hcd⟩:=F.ex;exact vU lk hcd S len λ A outer s H vs Q E hr hsp=>hbody cdv A outer s H vs Q E hr hsp
end
def XP (X:Cx) (pins:List (Addr×Obj)) (σ:St) (E:XK) (v:JU) (s':G7):Prop:=∃ea C H H' B s0,v=Value.ref ea/\Inv X pins σ H s0/\Flew X.prog X.w X.stack H s0 ea C H' B s'/\E C none H'
abbrev TX:=St->Hp->VK->XK->Prop
def PEx (X:Cx) (e:Expr) (t:TX):Prop :=
 ∀ (pins:List (Addr×Obj)) (s:G7) (σ:St) (H:Hp) (Q:VK) (E:XK),Inv X pins σ H s->t σ H Q E->wpAny (model X.prog X.w) X.A (eval e X.env) (EP X pins σ Q) (XP X pins σ E) s
def Cx.marked (X:Cx) (ea:Addr):Cx:={ X with A:=X.A.mark (↑ea),calm:=false,xe:=λ _ _=>False }
section
variable {X:Cx} {pins:List (Addr×Obj)} {σ:St} {H:Hp} {s:G7}
theorem Inv.mark (I:Inv X pins σ H s) (ea:Addr):Inv (X.marked ea) pins σ H s :=
 ⟨⟨I.ok.mod,I.ok.kind,I.ok.glob,I.ok.blt,I.ok.above,I.ok.inj,I.ok.has,I.ok.cab,λ z=>absurd (show false=true from z) B5,I.ok.frames,I.ok.stk,I.ok.exf,I.ok.bs,I.ok.bsz,I.ok.noex,I.ok.exfs,I.ok.funs,I.ok.frf⟩,
  I.os,I.bare,I.base,I.loc,I.cell,I.free,I.freeC,I.pin,I.hok,I.len⟩
theorem Inv.unmark {ea:Addr} (ok:X.Ok) (I:Inv (X.marked ea) pins σ H s):Inv X pins σ H s :=
 ⟨ok,I.os,I.bare,I.base,I.loc,I.cell,I.free,I.freeC,I.pin,I.hok,I.len⟩
end
structure RoomH (k:Nat) (A:Around):Prop where
 dp:A.depth + 3 * k + 5 < recursionLimit
 un:A.units + 16 * k + 200 < cLine
structure FnH (P:Program) (w:World) (K:C8) (mg:Str->Option Value) (base:Heap) (k:Nat) (f:Addr) (fd:FuncData) (ps:List Str) (sp:Sp):Prop where
 len:∀vs H Q E,sp vs H Q E->vs.length=ps.length
 run:∀ (A:Around) (outer:List Env) (s:G7) (H:Hp) (args:Args) (us:List JU) (vs:List V) (Q:VK) (E:XK),RoomH k A->Env0 P w K mg base A outer s H->BindsTo s fd args (ps.zip us)->Vals vs us->sp vs H Q E ->
  codeAny (model P w) A (.call (.ref f) args) (CR CX0 outer P w H s Q E) s
end L2
namespace PySem
open Sem (wp)
open AutoSeq1 (wpAny_loadPart')
section
variable {prog:G8} {w:JT} {A:Around} {E:JU->G7->Prop} {s:G7}
theorem dB {it t:Addr} {i:Nat} {items} {x:JU} {Q:JU->G7->Prop} (hit:s.heap.IsTupleIter it t i)
  (ht:s.heap.IsTuple t items) (hx:items[i]? = some x)
  (hQ:∀h',h'.IsTupleIter it t (i + 1)->Heap.SameBut it s.heap h'->Q x { s with heap:=h' }) :
  wpAny (model prog w) A (Builtin.SmallTypes.nextOf (.ref it)) Q E s:=by
 obtain ⟨o,ho,hc,hd⟩:=id hit;obtain ⟨ol,hol,_,nl,hdl⟩:=ht;unfold Builtin.SmallTypes.nextOf;refine A0 (wpAny_callSpecial?_slot (name:=Str.ofString "__next__") hit.typeIs F.slot_tuple_iterator_next
  (G4 F.slot_tuple_iterator_next hit.typeIs F.entry_tuple_iterator_next ?_ (F.args_tuple_iterator_next_1 _)))
 show wpAny _ _ (field (.ref it) 0 >>= _) _ _ s;refine A0 (wpAny_field ho hd (x:=.ref t) rfl ?_);show wpAny _ _ (if (Value.ref t == Value.none)=true then _ else _) _ _ s;rw [if_neg (show ¬ ((Value.ref t == Value.none)=true) from Bool.false_ne_true)];show wpAny _ _ (field (.ref it) 1 >>= _) _ _ s;refine A0 (wpAny_field ho hd (x:=.int i 0) rfl ?_);show wpAny _ _ (seqItems? (.ref t) >>= _) _ _ s;refine A0 (wpAny_seqItems hol hdl ?_);simp only [Int.toNat_natCast,hx];refine A0 (wpAny_setField ho hd (by simp) (A3 ⟨x,rfl,A3 (hQ _ ?_ (Heap.SameBut.update ..))⟩));exact ⟨_,Heap.get?_update_self _ ho (Obj.isFreed_of_fields (Obj.data_mapFields hd _)),(Obj.cls_mapFields ..).trans hc,by
  rw [Obj.data_mapFields hd]; simp [rawInt]⟩
theorem cH {it t:Addr} {i:Nat} {items} {Q:JU->G7->Prop} (hh:A.handled=none)
  (hit:s.heap.IsTupleIter it t i) (ht:s.heap.IsTuple t items) (hx:items[i]? = none)
  (hE:∀h' e, Heap.ExtBut it s.heap h'->(∃o, h'.get? e=some o/\o.cls=.type "StopIteration")->E (.ref e) { s with heap:=h' }) :
  wpAny (model prog w) A (Builtin.SmallTypes.nextOf (.ref it)) Q E s:=by
 obtain ⟨o,ho,hc,hd⟩:=id hit;obtain ⟨ol,hol,_,nl,hdl⟩:=ht;unfold Builtin.SmallTypes.nextOf;refine A0 (wpAny_callSpecial?_slot (name:=Str.ofString "__next__") hit.typeIs F.slot_tuple_iterator_next
  (G4 F.slot_tuple_iterator_next hit.typeIs F.entry_tuple_iterator_next ?_ (F.args_tuple_iterator_next_1 _)))
 show wpAny _ _ (field (.ref it) 0 >>= _) _ _ s;refine A0 (wpAny_field ho hd (x:=.ref t) rfl ?_);show wpAny _ _ (if (Value.ref t == Value.none)=true then _ else _) _ _ s;rw [if_neg (show ¬ ((Value.ref t == Value.none)=true) from Bool.false_ne_true)];show wpAny _ _ (field (.ref it) 1 >>= _) _ _ s;refine A0 (wpAny_field ho hd (x:=.int i 0) rfl ?_);show wpAny _ _ (seqItems? (.ref t) >>= _) _ _ s;refine A0 (wpAny_seqItems hol hdl ?_);simp only [Int.toNat_natCast,hx];refine A0 (wpAny_rule (A0 (wpAny_setField ho hd (by simp) ?_)));show wpAny _ _ (newExc (.type "StopIteration") [] >>= _) _ _ _;refine A0 ?_;simp only [newExc,newTuple];refine A0 (G5 ?_ (by size_fits));refine A0 (m:=firstArgMember _ _) (wpAny_of_eq (a:=Value.none) (by first | rfl | (simp only [firstArgMember]; rfl)) ?_);refine G5 ?_ (by size_fits);simp only [raiseNew];refine A0 (wpAny_handled ?_)
 first | rw [show A.in1.handled=none from hh] | rw [hh]
 refine A0 (A3 (wpAny_throw ?_));exact hE _ _ (((Heap.SameBut.update ..).extBut.push _).push _) ⟨_,B1 _ rfl,rfl⟩
end
theorem qE {prog:G8} {w:JT} {A:Around} (hh:A.handled=none) (it l:Addr) (hne:l≠it) (items:Array JU) :
  Draws prog w A it [it,l] items.size (λ i v=>items[i]? = some v) (λ i h=>h.IsTupleIter it l i/\h.IsTuple l items) where
 live:=λ _ _ st=>let ⟨o,ho,_⟩:=st.1; ⟨o,ho⟩
 frame:=λ _ _ _ st hk=>⟨st.1.at λ o e=>hk it (by simp) o e,let ⟨o,ho,r⟩:=st.2; ⟨o,hk l (by simp) o ho,r⟩⟩
 item:=λ i s Q E hi st hQ=>by refine dB st.1 st.2 (x:=items[i]) (by simp [hi]) λ h' hit' hs'=>?_;exact hQ _ h' s.toks (by simp [hi]) ⟨hit',st.2.extBut hs'.extBut hne⟩ hs'
 done:=λ s Q E st hE=>cH hh st.1 st.2 (by simp) hE
theorem gN (l:Addr) (items:Array JU) (n:Nat) (dct:Option Addr) (sl:Array (Option JU)) :
  Meets (Builtin.«enumerate.__new__» ⟨[.type "enumerate",.ref l],[]⟩) (λ _ R s=>s.heap.get? l=some { cls:=.type "tuple",dict:=dct,data:=.seq items n,slots:=sl } /\
   R (.ok (.ret (.ref (s.heap.push { cls:=.type "tuple_iterator",data:=.fields #[.ref l,.int 0 0] }).objs.size)))
    { s with heap:=(s.heap.push { cls:=.type "tuple_iterator",data:=.fields #[.ref l,.int 0 0] }).push { cls:=.type "enumerate",data:=.fields #[.none,.bool false,.ref s.heap.objs.size,rawInt 0,.none,.none] } }) :=
 .of_wp λ prog w A R s h=>by
  obtain ⟨hp,g,d,tk,os⟩:=s; obtain ⟨hl,h⟩:=h;have hsub:=sub_enumerate;have hL:Heap.IsTuple (Shared.heap ⟨hp,g,d,tk,os⟩) l items:=⟨_,hl,Y,n,Y⟩
  wp_walk using wpAny_loadPart' hl
  refine wpAny_stack_any λ st=>A3 ?_
  split
  ·rename_i c _ _ _ _ _
   cases (c == Value.type "enumerate")
   ·wp_walk using wpAny_loadPart' hl,wpAny_pyIter_tuple hL
    exact ⟨_,Y,h⟩
   ·wp_walk using wpAny_loadPart' hl,wpAny_pyIter_tuple hL
    exact ⟨_,Y,h⟩
  ·wp_walk using wpAny_loadPart' hl,wpAny_pyIter_tuple hL
   exact ⟨_,Y,h⟩
section
variable {prog:G8} {w:JT} {A:Around} {E:JU->G7->Prop} {s:G7}
theorem eL {l:Addr} {items:Array JU} {Q:JU->G7->Prop} (hL:s.heap.IsTuple l items)
  (h:∀h',IsEnum h' (s.heap.objs.size + 1) s.heap.objs.size 0 .none->h'.IsTupleIter s.heap.objs.size l 0->h'.objs.size=s.heap.objs.size + 2 ->
   (∀b o,s.heap.get? b=some o->h'.get? b=some o)->Q (.ref (s.heap.objs.size + 1)) { s with heap:=h' }) :
  wpAny (model prog w) A (call (.type "enumerate") [.ref l]) Q E s:=by
 obtain ⟨⟨c,dct,dt,sl⟩,hl,hc,n,hd⟩:=hL
 replace hc:c=.type "tuple" := hc
 replace hd:dt=.seq items n:=hd
 subst hc hd;refine callType_new F.called_enumerate ∅ (F.typeCall_enumerate_1 _) (F.newCall_enumerate_1 _) (λ obj=>F.args_object_init_2 obj _) F.entry_enumerate_new
  (gN l items n dct sl) ⟨hl,?_⟩
 have hz:(s.heap.push { cls:=.type "tuple_iterator",data:=.fields #[.ref l,.int 0 0] }).objs.size=s.heap.objs.size + 1:=Heap.size_push ..;show _/\_;rw [hz];have he:IsEnum ((s.heap.push { cls:=.type "tuple_iterator",data:=.fields #[.ref l,.int 0 0] }).push
   { cls:=.type "enumerate",data:=.fields #[.none,.bool false,.ref s.heap.objs.size,rawInt 0,.none,.none] }) (s.heap.objs.size + 1) s.heap.objs.size 0 .none:=by
  have:=B1 (s.heap.push { cls:=.type "tuple_iterator",data:=.fields #[.ref l,.int 0 0] })
   (o:={ cls:=.type "enumerate",data:=.fields #[.none,.bool false,.ref s.heap.objs.size,rawInt 0,.none,.none] }) rfl
  rw [hz] at this; exact this
 refine ⟨⟨_,he,Y⟩,h _ he ⟨_,B0 _ (B1 _ rfl),Y,Y⟩ (by rw [Heap.size_push,hz]) λ b o x=>B0 _ (B0 _ x)⟩
end
end PySem
namespace L2
open PySem PySem.Spec PyProof.Rows
def Ite (f:List V->HO) (l:Addr):It :=
  ⟨λ i H=>∃xs x,H l=some (f xs)/\xs[i]? = some x,
   λ i H v H'=>∃p xs x,H p=none/\v=.ref p/\H'=upd H p (.tup [.int i,x])/\H l=some (f xs)/\xs[i]? = some x,
   λ i H=>∃xs,H l=some (f xs)/\xs.length<=i⟩
section
variable {X:Cx} {pins:List (Addr×Obj)} {σ:St} {H:Hp} {s:G7}
theorem iu {f:List V->HO} {tn:Nat->Heap->Prop} {es:List Expr} {kk:Nat} {tp:Pos} {e it l:Addr} {i:Nat} {xs:List V} {x:V} {u:JU} {tk:Nat} {h':Heap} {E:JU->G7->Prop} (hne:e≠it) (I:Inv X pins σ H s) (hf:∀b∈[e,it],fA X pins H b) (hl:H l=some (f xs)) (hx:xs[i]? = some x)
  (ho:∀b∈[e, it], b < s.heap.objs.size) (r:RelV x u) (b1:IsEnumOut h' e it ((i:Int) + 1) u s.heap.objs.size) (b3:h'.get? s.heap.objs.size=some { cls:=.type "tuple", data:=.seq #[.int i tk, u] })
  (bk:∀b o,b≠e->b≠it->s.heap.get? b=some o->h'.get? b=some o) (hn:∀h'',IsEnum h'' e it ((i + 1:Nat):Int) u->Heap.SameBut e h' h''->tn (i + 1) h'') :
  wpAny (model X.prog X.w) X.A (letOwnedTupleGo (.Tuple es kk tp) (.ref e) (.ref s.heap.objs.size)) (λ _ s2=>∃x H',Inv X pins σ H' s2/\RelV x (.ref s.heap.objs.size)/\(Ite f l).yld i H x H'/\tn (i + 1) s2.heap/\∀b∈[e,it],H' b=none) E { s with heap:=h',toks:=tk + 1 }:=by
 refine wpAny_letOwnedTupleGo_enum b1 λ h'' c1 cs=>?_;have es':e < s.heap.objs.size:=ho e (by simp);have k2:∀b o,b∉[e,it]->s.heap.get? b=some o->h''.get? b=some o:=λ b o hb q=>by simp only [List.mem_cons,List.not_mem_nil,or_false,not_or] at hb;exact cs.extBut b o hb.1 (bk b o hb.1 hb.2 q)
 have I1:Inv X pins σ H { s with heap:=h'',toks:=tk + 1 }:=I.turnedN (t':=tk + 1) hf k2;have hp:h''.get? s.heap.objs.size=some { cls:=.type "tuple", data:=.seq #[.int i tk, u] }:=cs.extBut _ _ (Nat.ne_of_gt es') b3;have hn0:H s.heap.objs.size=none:=I.hok.fresh (B6 _);have fpk:=I.fpOk (H':=H) (B6 _) hn0;have I2:Inv X pins σ (upd H s.heap.objs.size (.tup [.int i,x])) { s with heap:=h'',toks:=tk + 1 }:=I1.track fpk I.sz ⟨by show 2<=sizeLine; decide,[.int i tk,u],.cons ⟨tk,Y⟩ (.cons r .nil),_,hp,Y,_,Y⟩;refine ⟨.ref s.heap.objs.size,_,I2,Y,⟨_,xs,x,hn0,Y,Y,hl,hx⟩,hn h'' c1 cs,λ b hb=>?_⟩;rw [au (Nat.ne_of_lt (ho b hb))];exact (hf b hb).1
end
theorem kW {P:G8} {w:JT} {K:C8} {es:List Expr} {kk:Nat} {tp:Pos} (l e it:Addr) (hne:e≠it) :
  Turn P w K (.Tuple es kk tp) (Ite .lst l) [e,it] e (λ i h=>(∃old,IsEnum h e it i old)/\h.IsListIter it l i) where
 mem:=by simp
 obj:=λ i h st b hb=>by
  obtain ⟨⟨old,a1⟩,⟨o2,a2,_,d2⟩⟩:=st;simp only [List.mem_cons,List.not_mem_nil,or_false] at hb;rcases hb with rfl | rfl
  ·exact ⟨_,a1,λ v q=>by cases q⟩
  ·exact ⟨_,a2,λ v q=>by rw [d2] at q; cases q⟩
 keep:=λ i h h' st k=>by obtain ⟨⟨old,a1⟩,a2⟩:=st;exact ⟨⟨old,k e (by simp) _ a1⟩,a2.at λ o q=>k it (by simp) o q⟩
 item:=by
  intro X hP hw hK hc i pins s σ H E I hf st hg;subst hP hw hK;obtain ⟨⟨old,a1⟩,a2⟩:=st;obtain ⟨xs,x,e1,ex⟩:=hg;obtain ⟨its,rv,p1,_⟩:=I.list (JX e1);obtain ⟨u,hu,r⟩:=rv.get ex;have ho:∀b∈[e,it],b < s.heap.objs.size:=λ b hb=>by
   obtain ⟨o2,a2',_⟩:=a2;simp only [List.mem_cons,List.not_mem_nil,or_false] at hb;rcases hb with rfl | rfl
   ·exact B2 a1
   ·exact B2 a2'
  refine wpAny_pyNext_enum_item a1 a2 p1.isList (x:=u) (by simpa using hu) hne λ h' b1 b2 b3 b4 bk=>⟨_,Y,?_⟩
  exact iu (tn:=λ i h=>(∃old,IsEnum h e it i old)/\h.IsListIter it l i) hne I hf e1 ex ho r b1 b3 bk λ h'' c1 cs=>⟨⟨u,c1⟩,b2.extBut cs.extBut (Ne.symm hne)⟩
 done:=by
  intro X hP hw hK hc i pins s σ H E I hf st hg;subst hP hw hK;obtain ⟨⟨old,a1⟩,a2⟩:=st;obtain ⟨xs,e1,ex⟩:=hg;obtain ⟨its,rv,p1,_⟩:=I.list (JX e1);have lv:=rv.length;refine wpAny_pyNext_enum_end (I.ok.hd hc) a1 a2 p1.isList (by simp; lia) λ h' bk=>⟨Y,?_⟩
  exact I.turnedN (t':=s.toks) hf λ b o hb q=>by simp only [List.mem_cons,List.not_mem_nil,or_false,not_or] at hb;exact bk b o hb.2 q
 self:=λ _ _ _ _ _ st h=>by obtain ⟨⟨old,a1⟩,_⟩:=st; exact wpAny_pyIter_enum a1 h
theorem kX {P:G8} {w:JT} {K:C8} {es:List Expr} {kk:Nat} {tp:Pos} (l e it:Addr) (hne:e≠it) :
  Turn P w K (.Tuple es kk tp) (Ite .tup l) [e,it] e (λ i h=>(∃old,IsEnum h e it i old)/\h.IsTupleIter it l i) where
 mem:=by simp
 obj:=λ i h st b hb=>by
  obtain ⟨⟨old,a1⟩,⟨o2,a2,_,d2⟩⟩:=st;simp only [List.mem_cons,List.not_mem_nil,or_false] at hb;rcases hb with rfl | rfl
  ·exact ⟨_,a1,λ v q=>by cases q⟩
  ·exact ⟨_,a2,λ v q=>by rw [d2] at q; cases q⟩
 keep:=λ i h h' st k=>by obtain ⟨⟨old,a1⟩,a2⟩:=st;exact ⟨⟨old,k e (by simp) _ a1⟩,a2.at λ o q=>k it (by simp) o q⟩
 item:=by
  intro X hP hw hK hc i pins s σ H E I hf st hg;subst hP hw hK;obtain ⟨⟨old,a1⟩,a2⟩:=st;obtain ⟨xs,x,e1,ex⟩:=hg;obtain ⟨its,rv,p1,_⟩:=I.tuple (JW e1);obtain ⟨u,hu,r⟩:=rv.get ex;have lt:i < its.toArray.size:=by simp; exact (A9.mp hu).1
  have ho:∀b∈[e,it],b < s.heap.objs.size:=λ b hb=>by
   obtain ⟨o2,a2',_⟩:=a2;simp only [List.mem_cons,List.not_mem_nil,or_false] at hb;rcases hb with rfl | rfl
   ·exact B2 a1
   ·exact B2 a2'
  have nl:∀b∈[e,it],l≠b:=λ b hb q=>by rw [q,(hf b hb).1] at e1; cases e1
  have p1':s.heap.IsTuple l its.toArray:=p1;have DD:Draws X.prog X.w X.A.in1 it [it,l] its.toArray.size (λ i v=>its.toArray[i]? = some v) (λ i h=>h.IsTupleIter it l i/\h.IsTuple l its.toArray):=qE (show X.A.in1.handled=none from I.ok.hd hc) it l (nl it (by simp)) its.toArray;refine wpAny_pyNext_enum_itemD DD a1 ⟨a2,p1'⟩ lt hne (by simp only [List.mem_cons,List.not_mem_nil,or_false,not_or]; exact ⟨hne,Ne.symm (nl e (by simp))⟩) λ x' h' tk px b1 b2 b3 b4 bk=>⟨_,Y,?_⟩
  have hu':its.toArray[i]? = some u:=by simpa using hu
  have eu:u=x':=C1 (hu'.symm.trans px);subst eu;exact iu (tn:=λ i h=>(∃old,IsEnum h e it i old)/\h.IsTupleIter it l i) hne I hf e1 ex ho r b1 b3 bk λ h'' c1 cs=>⟨⟨u,c1⟩,b2.1.extBut cs.extBut (Ne.symm hne)⟩
 done:=by
  intro X hP hw hK hc i pins s σ H E I hf st hg;subst hP hw hK;obtain ⟨⟨old,a1⟩,a2⟩:=st;obtain ⟨xs,e1,ex⟩:=hg;obtain ⟨its,rv,p1,_⟩:=I.tuple (JW e1);have lv:=rv.length;have p1':s.heap.IsTuple l its.toArray:=p1;have hT:s.TypeIs (.ref e) "enumerate" := ⟨_,a1,Y⟩
  unfold pyNext;refine A0 (wpAny_attempt (wpAny_callSpecial?_slot (name:=Str.ofString "__next__") hT F.slot_enumerate_next
   (G4 F.slot_enumerate_next hT F.entry_enumerate_next ?_ (F.args_enumerate_next_1 _))))
  show wpAny _ _ (field (.ref e) 2 >>= _) _ _ _;refine A0 (wpAny_field a1 rfl (x:=.ref it) rfl ?_);refine A0 (cH (I.ok.hd hc) a2 p1' (by simp; lia) λ h' x he' hx'=>?_);obtain ⟨o,ho,hc⟩:=hx';refine A0 (wpAny_isInstance (T := "StopIteration") (b:=true) ⟨o,ho,hc⟩ isSubtype_stop ?_);refine A3 ⟨rfl,?_⟩;exact I.turnedN (t':=s.toks) hf λ b o hb q=>by simp only [List.mem_cons,List.not_mem_nil,or_false,not_or] at hb;exact he' b o hb.2 q
 self:=λ _ _ _ _ _ st h=>by obtain ⟨⟨old,a1⟩,_⟩:=st; exact wpAny_pyIter_enum a1 h
def CI (ta:TA):TI:=λ σ H R=>ta σ H λ vs H1=>∃l xs,vs=[.ref l]/\((H1 l=↥xs/\R (Ite .lst l) H1)\/(H1 l= ~~~xs/\R (Ite .tup l) H1))
theorem mX {X:Cx} {a:Expr} {ta:TA} {p pos tp:Pos} {es:List Expr} {kk:Nat} (hg:Gl X "enumerate") (hm:X.mg "enumerate" = none) (ha:PA X [a] ta)
  (hs:starEach [a] X.env=[(false,eval a X.env)]:=by rfl) :
  PI X (.Tuple es kk tp) (.Call (.Name "enumerate" p) [a] [] pos) (CI ta):=by
 intro pins s σ H R I h;refine Call_ (dC I hg hm PyProof.Rows.boot_enumerate (PyProof.Rows.callWith_type1 (thn (ha pos pins s σ H _ I h) λ us s1 ⟨vs,H1,I1,r1,q1⟩=>?_) (by rw [hs]; rfl) (by rfl)));obtain ⟨l,xs,rfl,q⟩:=q1;cases r1 with
 | cons r rr =>
  cases rr;cases r;rcases q with ⟨e1,q⟩ | ⟨e1,q⟩
  ·obtain ⟨its1,rv1,p1,_⟩:=I1.list (JX e1);refine call_enumerate_list p1.isList λ h' z1 z2 sz keep=>?_;have I2:Inv X pins σ H1 { s1 with heap:=h' }:=I1.kept (t':=s1.toks) keep;refine wpAny_pyIter_enum z1 ⟨s1.heap.objs.size + 1,[s1.heap.objs.size + 1,s1.heap.objs.size],_,_,H1,rfl,I2,kW l _ _ (Nat.succ_ne_self _),⟨⟨_,z1⟩,z2⟩,λ b hb=>?_,q⟩;have hb':s1.heap.objs.size<=b:=by simp only [List.mem_cons,List.not_mem_nil,or_false] at hb;rcases hb with rfl | rfl <;> lia
   exact I1.fpOk hb' (I1.hok.fresh hb')
  ·obtain ⟨its1,rv1,p1,_⟩:=I1.tuple (JW e1);have p1':s1.heap.IsTuple l its1.toArray:=p1;refine eL p1' λ h' z1 z2 sz keep=>?_;have I2:Inv X pins σ H1 { s1 with heap:=h' }:=I1.kept (t':=s1.toks) keep;refine wpAny_pyIter_enum z1 ⟨s1.heap.objs.size + 1,[s1.heap.objs.size + 1,s1.heap.objs.size],_,_,H1,rfl,I2,kX l _ _ (Nat.succ_ne_self _),⟨⟨_,z1⟩,z2⟩,λ b hb=>?_,q⟩;have hb':s1.heap.objs.size<=b:=by simp only [List.mem_cons,List.not_mem_nil,or_false] at hb;rcases hb with rfl | rfl <;> lia
   exact I1.fpOk hb' (I1.hok.fresh hb')
theorem qF {f:List V->HO} (hf:∀xs ys,f xs=f ys->xs=ys) {l:Addr} {xs:List V} {g:TG} {tb:TS} {D:Ends} {σ:St} {H:Hp} (Pv:Nat->St->Hp->Prop) (h0:Pv 0 σ H) (hk:∀i σ H',Pv i σ H'->H' l=some (f xs))
  (ht:∀i x p σ H,xs[i]? = some x->H p=none->Pv i σ H->g (.ref p) σ (upd H p (.tup [.int i,x])) λ σ2 H2=>tb { D with nx:=Pv (i + 1),ct:=Pv (i + 1),bk:=D.nx } σ2 H2) (hd:∀σ H,Pv xs.length σ H->D.nx σ H) :
  ∃W:Nat->Nat->St->Hp->Prop,(∃m,W 0 m σ H)/\∀i m σ H,W i m σ H ->
   ((Ite f l).stop i H/\D.nx σ H)\/((Ite f l).go i H/\∃N:St->Hp->Prop,(∀σ' H',N σ' H'->∃m',m' < m/\W (i + 1) m' σ' H')/\∀x H',(Ite f l).yld i H x H'->g x σ H' λ σ2 H2=>tb { D with nx:=N,ct:=N,bk:=D.nx } σ2 H2):=by
 refine ⟨λ i m σ H=>m=xs.length - i/\i<=xs.length/\Pv i σ H,⟨xs.length,by simp,G0 _,h0⟩,?_⟩;rintro i m σ H ⟨rfl,hi,p⟩;have e1:=hk i σ H p
 by_cases hlt:i < xs.length
 ·refine .inr ⟨⟨xs,xs[i],e1,by simp [hlt]⟩,Pv (i + 1),λ σ' H' p'=>⟨xs.length - (i + 1),⋯,Y,hlt,p'⟩,λ v H' y=>?_⟩;obtain ⟨q,xs',x,hq,rfl,rfl,e1',ex⟩:=y;rw [e1] at e1';cases hf _ _ (C1 e1');exact ht i x q σ H ex hq p
 ·have e:i=xs.length:=⋯
  subst e;exact .inl ⟨⟨xs,e1,B6 _⟩,hd σ H p⟩
end L2
namespace Pc
open PySem L2
def bo (k:Kd):Bool:=k.tu && !decide (k.w=k.h)
def lyT (i:Nat) (k:Kd):List (Nat×Bool):=(i,false) :: if bo k=true then [(i,true)] else []
def lyK:List Kd->Nat->List (Nat×Bool)
 | [],_=>[]
 | k :: r,i=>lyT i k ++ lyK r (i + 1)
theorem jy (k:Kd):∀ (ks:List Kd) (i:Nat),lyK (ks ++ [k]) i=lyK ks i ++ lyT (i + ks.length) k
 | [],i=>by simp [lyK]
 | c :: r,i=>by show lyT i c ++ lyK (r ++ [k]) (i + 1)=(lyT i c ++ lyK r (i + 1)) ++ _;rw [jy k r (i + 1),List.append_assoc];congr 2;simp only [List.length_cons];congr 1;lia
theorem tE (i:Nat) (k:Kd):(lyT i k).length<=2:=by unfold lyT; split <;> simp
theorem iY:∀ (ks:List Kd) (i:Nat),(lyK ks i).length<=2 * ks.length
 | [],i=>by simp [lyK]
 | c :: r,i=>by have:=iY r (i + 1);have:=tE i c;simp only [lyK,List.length_append,List.length_cons];lia
def gO (K:C8):Sp:=λ vs H Q _=>∃ (a:Addr) (k:Kd),vs=[.ref a]/\H a= ~~~(kdV k)/\Q (.bl (bo k)) H
def ej (ks:List Kd) (x t:V):Bool:=match x,t with
 | .int i,.bl b=>decide (0<=i) && match ks[i.toNat]? with
  | some k=>!b || bo k
  | none=>false
 | _,_=>false
def dS (K:C8) (C:Addr):Sp:=λ vs H Q _=>∃ (s:Addr) (b:Int) (ks:List Kd) (x t:V) (T U:String),vs=[.ref s,x,t]/\ShopAt C H s b ks/\Ty K H x T/\Ty K H t U/\Q (.bl (ej ks x t)) H
end Pc
namespace L2
open PySem PySem.Spec PyProof.Rows
section
variable {X:Cx}
theorem eD {k:Nat} {C:Addr} {ps:List Str} {sp:Sp} {m:Str} {o:Expr} {e:Expr} {es:List Expr} {ta:TE} {t:TA} {apos pos:Pos} {pl:Sem Bool} (he:PE X o ta) (c:Cls X.K C) (D:Mn X.prog X.w X.K X.mg X.base C m ps k sp) (hr:Room k X.A) (ha:PA X (e :: es) t)
  (hst:starEach (e :: es) X.env=(false,eval e X.env) :: starEach es X.env:=by rfl) (hpl:(backTo pos (starEach es X.env)).any (·.1)=false:=by rfl)
  (ht:eval (.Call (.Attribute o m apos) (e :: es) [] pos) X.env=(do
   let ov<-eval o X.env
   standAt apos.atName
   let (f,first)<-holding [ov] (getMethod ov m pl)
   callWith pos f first (backTo pos (starEach (e :: es) X.env)) (backToKw pos (keywordEach [] X.env))):=by rfl):PE X (.Call (.Attribute o m apos) (e :: es) [] pos) (mL C m sp [] E0 ta t):=by
 obtain ⟨f,fd,F,hb,hm⟩:=D;exact sS he c hm F hr hb .nil mR ha hst hpl ht
end
section
variable {X:Cx}
theorem kY {pos:Pos}:PE X (.Dict [] [] pos) (λ _ H Q=>∀p,H p=none->Q (.ref p) (upd H p (.dK []))):=by intro pins s σ H Q I h;have hb:sysModules < s.heap.objs.size:=Nat.lt_trans (show sysModules < mainGlobals by decide) (I.mod.glob.keeps I.bk).lt;refine wpAny_Dict_empty ⟨.ref s.heap.objs.size,_,?_,rfl,h _ (I.hok.fresh (B6 _))⟩;refine I.laid (a:=s.heap.objs.size) (o:=.dK []) (t':=s.toks) (λ _ _ q=>B0 _ q) (B6 _) ?_;exact ⟨G0 _,beq_eq_false_iff_ne.mpr (Nat.ne_of_gt hb),[],.nil,Heap.DictOf.new _⟩
end
section
variable {K:C8} {C X:Addr}
theorem tF (h:ExcC K C):(PySem.W.clsIn K C).isSome=true/\PySem.W.typeIn K (.ref C)=some (.type "type"):=by
 unfold ExcC PySem.W.excIn at h
 split at h
 ·rename_i e
  refine ⟨?_,?_⟩
  ·unfold PySem.W.clsIn;rw [e]
   rfl
  ·show Option.map (λ x=>x.cls) (List.lookup C K)=_;rw [e]
   rfl
 ·cases h
theorem oG {t:JU} {b:Bool} (hx:ExcC K X) (s:PySem.W.subIn K t (.ref X)=some b):PySem.W.kitCls K t (.ref X)=some b:=by
 obtain ⟨h1,h2⟩:=tF hx;unfold PySem.W.kitCls;simp only [h1,h2,s]
 rfl
theorem wK (hx:ExcC K X) (b:PySem.W.subIn K (.ref X) (.type "BaseException")=some true) (s:PySem.W.subIn K (.ref C) (.ref X)=some true):PySem.W.exmOne K (.ref C) (.ref X)=some true:=by unfold PySem.W.exmOne;rw [b,if_pos (show ((some true == some true)=true) from rfl)];exact oG hx s
end
section
variable {X:Cx} {k:Nat} {f C:Addr} {fd:I9} {ps:List Str} {sp:Sp} {x:Str} {p pos:Pos} {e:Expr} {es:List Expr} {t:TA}
theorem oH {pins:List (Addr×Obj)} {σ:St} {H:Hp} {s:G7} {Q:VK} {E:XK} {us:List JU} {vs:List V} (M:Mk X.K C f) (F:FnOk X.prog X.w X.K X.mg X.base (CXx X.prog X.w) k f fd ps sp) (hr:Room (k + 1) X.A) (hb:Binds X.K fd ps [])
  (I:Inv X pins σ H s) (r:Vals vs us)
  (h:∀x dx,H x=none->H dx=none->dx≠x->sp (.ref x :: vs) (upd (upd H dx (.own x)) x (.ins C dx [])) (λ v H2=>v=.non/\Q (.ref x) H2) E) :
  wpAny (model X.prog X.w) X.A (call (.ref C) us) (EP X pins σ Q) (XP X pins σ E) s:=by
 have hq:=h (s.heap.objs.size + 1) s.heap.objs.size (I.hok.fresh (Nat.le_succ _)) (I.hok.fresh (B6 _)) (C2 (G1 _));have I2:=Inv.made (C:=C) I;have r2:Vals (V.ref (s.heap.objs.size + 1) :: vs) (Value.ref (s.heap.objs.size + 1) :: us):=.cons rfl r;have hl:(Value.ref (s.heap.objs.size + 1) :: us ++ []).length=ps.length:=by have e:=r2.length;rw [F.len _ _ _ _ hq] at e;rw [List.append_nil];exact e.symm
 have hb2:=hb _ (Value.ref (s.heap.objs.size + 1) :: us) I2.kIn hl;rw [List.append_nil] at hb2;refine wpAny_call (jr (f:=f) I.kIn M.makes M.init (C7.mp M.fn) (codeAny_mono (F.run _ X.stack _ _ ⟨Value.ref (s.heap.objs.size + 1) :: us,[]⟩ (Value.ref (s.heap.objs.size + 1) :: us) _ _ E (hr.make C us [])
  (I2.env0.make C us []) hb2 r2 hq) λ r s' hq'=>?_))
 cases r with
 | error e =>
  obtain ⟨ea,C',H',B,e1,fl,q⟩:=hq';exact ⟨ea,C',_,H',B,_,e1,I2,fl,q⟩
 | ok fl =>
  cases fl with
  | ret u =>
   obtain ⟨v,H',I3,rv,ev,q3⟩:=I2.after hq';subst ev;exact ⟨rv,⟨V.ref (s.heap.objs.size + 1),H',I3,Y,q3⟩⟩
  | next=>exact E9 hq'
  | brk=>exact E9 hq'
  | cont=>exact E9 hq'
def qG (C:Addr) (sp:Sp) (t:TA):TX:=λ σ H Q E=>t σ H λ vs H1=>∀x dx,H1 x=none->H1 dx=none->dx≠x->sp (.ref x :: vs) (upd (upd H1 dx (.own x)) x (.ins C dx [])) (λ v H2=>v=.non/\Q (.ref x) H2) E
theorem qH (M:Mk X.K C f) (F:FnOk X.prog X.w X.K X.mg X.base (CXx X.prog X.w) k f fd ps sp) (hr:Room (k + 1) X.A) (hg:Gl X x) (hm:X.mg x=↑C) (hb:Binds X.K fd ps [])
  (ha:PA X.nox (e :: es) t) (hdb:(x == ("__debug__" : Str))=false:=by decide) (he:starEach (e :: es) X.env=(false,eval e X.env) :: starEach es X.env:=by rfl) (hpl:(backTo pos (starEach es X.env)).any (·.1)=false:=by rfl) :
  PEx X (.Call (.Name x p) (e :: es) [] pos) (qG C sp t):=by
 intro pins s σ H Q E I h;refine wpAny_Call_Name_kw (dM I hg hm ?_ hdb);refine PySem.W.callWith_K (h₀:=X.base) I.ok.mod.kin M.kp (wpAny_mono (ha pos pins s σ H _ (I.wish _) h) (λ us s1 ⟨vs,H1,I1,r,q⟩=>⟨I1.kIn,?_⟩) λ _ _ z=>E9 z) he hpl;exact oH M F hr hb I1.unwish r q
def KnX (P:G8) (w:JT) (K:C8) (mg:Str->Option JU) (base:Heap) (x:Str) (C:Addr) (ps:List Str) (k:Nat) (sp:Sp):Prop :=
 ∃ (f:Addr) (fd:I9),Mk K C f/\FnOk P w K mg base (CXx P w) k f fd ps sp/\Binds K fd ps []/\mg x=↑C
theorem wL (D:KnX X.prog X.w X.K X.mg X.base x C ps k sp) (hr:Room (k + 1) X.A) (hg:Gl X x) (ha:PA X.nox (e :: es) t)
  (hdb:(x == ("__debug__" : Str))=false:=by decide) (he:starEach (e :: es) X.env=(false,eval e X.env) :: starEach es X.env:=by rfl) (hpl:(backTo pos (starEach es X.env)).any (·.1)=false:=by rfl) :
  PEx X (.Call (.Name x p) (e :: es) [] pos) (qG C sp t):=by
 obtain ⟨f,fd,M,F,hb,hm⟩:=D;exact qH M F hr hg hm hb ha hdb he hpl
end
section
variable {X:Cx}
theorem qI:OpR X (binaryOp .Add) (λ x y H Q=>∃a b ys,x=.ref a/\y=.ref b/\SqT X.K H a []/\SqT X.K H b ys/\Q (.ref b) H):=by
 intro pins s σ H x y v u Q I rx ry h;obtain ⟨a,b,ys,rfl,rfl,ha,hb,q⟩:=h;cases rx;cases ry;obtain ⟨its,r1,p1,_⟩:=I.tuple ha;obtain ⟨its2,r2,p2,_⟩:=I.tuple hb;cases r1;obtain ⟨⟨cls,dd,data,sl⟩,ho,hc,n,hd⟩:=p1;obtain ⟨⟨cls2,dd2,data2,sl2⟩,ho2,hc2,n2,hd2⟩:=p2;simp only at hc hd hc2 hd2;subst hc hd hc2 hd2;exact concat_meets ⟨_,ho,rfl⟩ ⟨_,ho2,rfl⟩ noFill_tuple_add seq_tuple_add PySem.F.slot_tuple_add PySem.F.entry_tuple_add (PySem.F.args_tuple_add_2 _ _)
   (tuple_addW0 a b _ _ n n2 dd dd2 sl sl2 rfl) ⟨ho,ho2,⟨.ref b,H,I,rfl,q⟩⟩
end
section
variable {X:Cx}
def CJ:R2:=λ x y H Q=>∃a b xs ys,x=.ref a/\y=.ref b/\H a= ~~~xs/\H b= ~~~ys/\xs.length + ys.length<=sizeLine /\
 ∀m H',(H'=H/\(m=a\/m=b))\/(H m=none/\H'=upd H m (.tup (xs ++ ys)))->H' m= ~~~(xs ++ ys)->Q (.ref m) H'
theorem tG:OpR X (binaryOp .Add) CJ:=by
 intro pins s σ H x y v u Q I rx ry h;obtain ⟨a,b,xs,ys,rfl,rfl,ha,hb,hz,q⟩:=h
 by_cases hx:xs=[]
 ·subst hx;exact qI pins s σ H _ _ v u Q I rx ry ⟨a,b,ys,rfl,rfl,JW ha,JW hb,q b H (.inl ⟨rfl,.inr rfl⟩) hb⟩
 ·refine sV pins s σ H _ _ v u Q I rx ry ⟨a,b,xs,ys,rfl,rfl,JW ha,JW hb,hx,hz,λ e=>?_,λ e p hp=>q p _ (.inr ⟨hp,rfl⟩) af⟩;subst e;exact q a H (.inl ⟨Y,.inl rfl⟩) (by rw [List.append_nil]; exact ha)
end
theorem mY:∀ {ns:List Int} {its:List JU},Vals (ns.map V.int) its->IntsAre its ns
 | [],_,r=>by cases r; exact .nil
 | n :: ns,_,r=>by
  cases r with
  | cons r1 r2 =>
   obtain ⟨t,e⟩:=r1;subst e;exact .cons n t (mY r2)
section
variable {X:Cx}
theorem fH (hc:X.calm=true):cG X (.builtin "sum") (λ xs H Q=>∃ (p:Addr) (ns:List Int),xs=[.ref p]/\SqL X.K H p (ns.map V.int)/\Q (.int ns.sum) H):=by
 intro pins s σ H xs us Q I r h;obtain ⟨p,ns,rfl,hs,q⟩:=h;obtain ⟨u,rfl,rfl⟩:=eC r;obtain ⟨its,rv,pl,_⟩:=I.list hs;have hi:=mY rv;obtain ⟨xs,e⟩:=hi.allInts.items;have pl':=pl.isList;rw [e] at pl';refine sum_intListG (I.ok.hd hc) pl' λ h' tk t' hk=>?_;have e2:preSum (numAt xs) xs.size=ns.sum:=by rw [preSum_eq,List.take_of_length_le (by simp),<- nums_intItems,<- e,show its.toArray.toList=its from rfl,hi.numsOf]
 rw [e2];exact ⟨.int ns.sum,H,I.kept hk,⟨_,Y⟩,q⟩
theorem jz:∀ {bs:List Bool} {its:List JU},Vals (bs.map V.bl) its->its=bs.map Value.bool
 | [],_,r=>by cases r; rfl
 | b :: bs,_,r=>by
  cases r with
  | cons r1 r2 =>
   have e:_=Value.bool b:=r1;subst e;rw [List.map_cons,jz r2]
theorem oI (bs:List Bool):(List.range bs.length).all (λ i=>bs.getD i false)=bs.all id:=by
 rw [Bool.eq_iff_iff,List.all_eq_true,List.all_eq_true];constructor
 ·intro h b hb;obtain ⟨i,hi,e⟩:=List.getElem_of_mem hb;have:=h i (List.mem_range.mpr hi);rw [List.getD_eq_getElem?_getD,List.getElem?_eq_getElem hi] at this;simpa [e] using this
 ·intro h i hi;have hi':=List.mem_range.mp hi;rw [List.getD_eq_getElem?_getD,List.getElem?_eq_getElem hi'];exact h _ (List.getElem_mem hi')
theorem iw (hc:X.calm=true):cG X (.builtin "all") (λ xs H Q=>∃ (p:Addr) (bs:List Bool),xs=[.ref p]/\SqL X.K H p (bs.map V.bl)/\Q (.bl (bs.all id)) H):=by
 intro pins s σ H xs us Q I r h;obtain ⟨p,bs,rfl,hs,q⟩:=h;obtain ⟨u,rfl,rfl⟩:=eC r;obtain ⟨its,rv,pl,_⟩:=I.list hs;have e:=jz rv;subst e;have hlt:p < s.heap.objs.size:=by obtain ⟨_,_,e,_⟩:=pl; exact B2 e
 refine call_all_walk (wpAny_pyIter_list pl.isList ?_);refine ⟨_,_,_,_,_,_,λ i=>bs.getD i false,Y,Walks.list (A:=X.A.in1) (I.ok.hd hc) _ p (C2 hlt) _,⟨⟨_,B1 _ rfl,Y,Y⟩,pl.isList.push _⟩,λ i v s' Q' E' hP hQ'=>?_,λ h' tk hk=>?_⟩
 ·have hP':(bs.map Value.bool)[i]? = some v:=by simpa using hP
  rw [List.getElem?_map] at hP';cases hb:bs[i]? with
  | none=>rw [hb] at hP'; cases hP'
  | some b =>
   rw [hb] at hP';cases hP';have hQ2:Q' (bs.getD i false) s':=hQ';rw [List.getD_eq_getElem?_getD,hb] at hQ2;exact G3 hQ2
 ·have e2:((bs.map Value.bool).toArray.size)=bs.length:=by simp
  rw [e2,oI];refine ⟨.bl (bs.all id),H,I.kept (h':=h') (t':=tk) (λ b o e=>hk b o ?_ (B0 _ e)),Y,q⟩;intro z;rw [List.mem_singleton.mp z] at e;exact absurd (B2 e) (E3 _)
end
section
variable {X:Cx}
def CMulB (i j:Int):Prop:=i.natAbs < 2 ^ 4096/\j.natAbs < 2 ^ 4096
theorem mZ {k:Int} (h:k.natAbs < 2 ^ 4096):Builtin.Int.intBits k<=2 ^ 20:=by
 have e:(2:Nat) ^ 20=1048576:=∅
 unfold Builtin.Int.intBits
 split
 ·exact G0 _
 ·have:k.natAbs.log2 < 4096:=by
   rcases Nat.eq_zero_or_pos k.natAbs with h0 | hp
   ·rw [h0]; decide
   ·exact (Nat.log2_lt (Nat.ne_of_gt hp)).mpr h
  lia
theorem CMulB.ok {i j:Int} (h:CMulB i j):IntMulOk i j:=.of_bits (mZ h.1) (mZ h.2)
theorem ck:OpR X (binaryOp .Mult) (rI CMulB λ i j=>.int (i * j)):=opI λ _ _ _ _ _ _ _ hc q=>mul_int q hc.ok
end
theorem aK {α:Type} {xs:List α} {i:Int} {v:α} (h0:0<=i) (h:xs[i.toNat]? = some v):atI xs i=some v:=by
 have e:i=((i.toNat:Nat):Int):=⋯
 have z:atI xs ((i.toNat:Nat):Int)=some v:=sW h;rw [<- e] at z; exact z
end L2
namespace Pc
open PySem L2
def kZ (K:C8):Sp:=λ vs H Q _=>∃ (a:Addr) (ns:List Int) (n:Int),vs=[.ref a,.int n]/\SqL K H a (ns.map V.int)/\0<=n/\∀c:Int,Q (.int c) H
end Pc
namespace L2
open PySem PySem.Spec PyProof.Rows
theorem qJ {X:Cx} (K:C8) {x y:Str} {px py pos:Pos} {k:Nat} (hK:X.K=K) (hc:X.calm=true) (hN:X.N.Nodup) (h0:X.N[0]? = some x) (h1:X.N[1]? = some y) (l0:X.env.scope.names.lookup x=some .local) (l1:X.env.scope.names.lookup y=some .local) :
  PG X (.Tuple [.Name x px,.Name y py] k pos) (gTup K 2 (gCons (bR 0) (gCons (bR 1) ko))) :=
 hK ▸ aP hc (ai (ao hN h0 (.inl l0) (.inr l0)) (ai (ao hN h1 (.inl l1) (.inr l1)) aI))
theorem qK {X:Cx} (K:C8) {x y z:Str} {px py pz pos:Pos} {k:Nat} (hK:X.K=K) (hc:X.calm=true) (hN:X.N.Nodup) (h0:X.N[0]? = some x) (h1:X.N[1]? = some y) (h2:X.N[2]? = some z) (l0:X.env.scope.names.lookup x=some .local) (l1:X.env.scope.names.lookup y=some .local) (l2:X.env.scope.names.lookup z=some .local) :
  PG X (.Tuple [.Name x px,.Name y py,.Name z pz] k pos) (gTup K 3 (gCons (bR 0) (gCons (bR 1) (gCons (bR 2) ko)))) :=
 hK ▸ aP hc (ai (ao hN h0 (.inl l0) (.inr l0)) (ai (ao hN h1 (.inl l1) (.inr l1)) (ai (ao hN h2 (.inl l2) (.inr l2)) aI)))
end L2
namespace PySem
def SqA:Bool->Heap->Addr->Array JU->Prop
 | true,h,l,xs=>h.IsTuple l xs
 | false,h,l,xs=>h.IsList l xs
def ItA:Bool->Heap->Addr->Addr->Nat->Prop
 | true,h,a,l,k=>h.IsTupleIter a l k
 | false,h,a,l,k=>h.IsListIter a l k
abbrev jA (h:Heap) (T:Addr) (vs:List JU):Prop:=h.get? T=some { cls:=.type "tuple",data:=.seq vs.toArray }
theorem SqA.at {b:Bool} {h h':Heap} {l:Addr} {xs:Array JU} (x:SqA b h l xs) (e:∀o,h.get? l=some o->h'.get? l=some o):SqA b h' l xs:=by cases b <;> (obtain ⟨o,ho,r⟩:=x; exact ⟨o,e _ ho,r⟩)
theorem ItA.at {b:Bool} {h h':Heap} {a l:Addr} {k:Nat} (x:ItA b h a l k) (e:∀o,h.get? a=some o->h'.get? a=some o):ItA b h' a l k:=by cases b <;> (obtain ⟨o,ho,r⟩:=x; exact ⟨o,e _ ho,r⟩)
theorem ItA.obj {b:Bool} {h:Heap} {a l:Addr} {k:Nat} (x:ItA b h a l k):∃o,h.get? a=some o/\∀v,o.data≠.cell v:=by cases b <;> (obtain ⟨o,ho,_,d⟩:=x; exact ⟨o,ho,λ v q=>by rw [d] at q; cases q⟩)
abbrev fpZ (z TI TO:Addr) (its:List (Bool×Addr×Addr)):List Addr:=z :: TI :: TO :: its.map (·.2.1)
def StZ (f:JU) (z TI TO:Addr) (its:List (Bool×Addr×Addr)) (i:Nat) (h:Heap):Prop :=
 IsZip h z TI TO f/\jA h TI (its.map λ p=>.ref p.2.1)/\(∃os,os.length=its.length/\jA h TO os)/\∀p∈its,ItA p.1 h p.2.1 p.2.2 i
section
variable {prog:G8} {w:JT} {A:Around} {E:JU->G7->Prop} {s:G7}
theorem qL {α:Type} {vs os:List α} {n:Nat} {y:α} (hy:vs[n]? = some y) (ho:n < os.length):(vs.take n ++ os.drop n).set n y=vs.take (n + 1) ++ os.drop (n + 1):=by
 have h:=(A9.mp hy).1;have hl:(vs.take n).length=n:=by simp; lia
 rw [List.drop_eq_getElem_cons ho,List.set_append_right _ _ ⋯,hl,Nat.sub_self,List.set_cons_zero,List.take_succ,hy];simp
theorem oJ {b:Bool} {it l:Addr} {i:Nat} {items} {Q:JU->G7->Prop} (hh:A.handled=none) (hit:ItA b s.heap it l i) (hl:SqA b s.heap l items)
  (hQ:∀x, items[i]? = some x->∀h', ItA b h' it l (i + 1)->Heap.SameBut it s.heap h'->Q x { s with heap:=h' }) (hE:items[i]? = none->∀h' e, Heap.ExtBut it s.heap h'->(∃o, h'.get? e=some o/\o.cls=.type "StopIteration")->E (.ref e) { s with heap:=h' }) :
  wpAny (model prog w) A (Builtin.SmallTypes.nextOf (.ref it)) Q E s:=by
 cases hx:items[i]? with
 | none=>cases b; exact wpAny_nextOf_list_end hh hit hl hx (hE hx); exact cH hh hit hl hx (hE hx)
 | some x=>cases b; exact wpAny_nextOf_list_item hit hl hx (hQ x hx); exact dB hit hl hx (hQ x hx)
theorem fR {z TI TO:Addr} {its:List (Bool×Addr×Addr)} {k:Nat} {vs:List JU} {Q:Option JU->G7->Prop} (hh:A.handled=none) (nd:(fpZ z TI TO its).Nodup) (n0:its≠[]) (hl:its.length<=9) (st:StZ .none z TI TO its k s.heap) (ha:∀p∈its,p.2.2∉fpZ z TI TO its) (hvl:vs.length<=its.length)
  (hv:∀ (j:Nat) p,its[j]? = some p->∃xs,SqA p.1 s.heap p.2.2 xs/\(j<=vs.length->xs[k]? = vs[j]?))
  (hQ:vs.length=its.length->∀h',StZ (rawInt s.heap.objs.size) z TI TO its (k + 1) h'->jA h' s.heap.objs.size vs->(∀c o,c∉fpZ z TI TO its->s.heap.get? c=some o->h'.get? c=some o)->Q (↑s.heap.objs.size) { s with heap:=h' })
  (hE:vs.length < its.length->∀h',(∀c o,c∉fpZ z TI TO its->s.heap.get? c=some o->h'.get? c=some o)->Q none { s with heap:=h' }):wpAny (model prog w) A (pyNext (.ref z)) Q E s:=by
 obtain ⟨hz,hTI,⟨os,ho,hTO⟩,hi⟩:=st;have hT:s.TypeIs (.ref z) "zip" := ⟨_,hz,Y⟩
 unfold pyNext;refine A0 (wpAny_attempt (wpAny_callSpecial?_slot (name:=Str.ofString "__next__") hT F.slot_zip_next
  (G4 F.slot_zip_next hT F.entry_zip_next ?_ (F.args_zip_next_1 _))))
 show wpAny _ _ (field (.ref z) 2 >>= _) _ _ _;refine A0 (wpAny_field hz rfl (x:=.bool false) rfl ?_);show wpAny _ _ (field (.ref z) 3 >>= _) _ _ _;refine A0 (wpAny_field hz rfl (x:=.ref TI) rfl ?_);refine A0 (wpAny_seqItems hTI rfl ?_);have em:(its.map λ p=>Value.ref p.2.1).toArray.isEmpty=false:=by cases its with | nil=>exact absurd rfl n0 | cons a t=>simp
 dsimp only;rw [em];show wpAny _ _ (Builtin.SmallTypes.ownedTupleIsFree (.ref z) >>= _) _ _ _;refine A0 ?_;unfold Builtin.SmallTypes.ownedTupleIsFree;refine A0 (wpAny_field hz rfl (x:=.none) rfl (A3 ?_));simp only [if_true];refine A0 (wpAny_rule ?_);refine A0 (wpAny_field hz rfl (x:=.ref TO) rfl ?_);refine A0 (wpAny_setField_rec hz (by simp) λ h₁ hz₁ hs₁=>?_)
 replace hz₁:IsZip h₁ z TI TO .ellipsis:=hz₁
 simp only [List.nodup_cons,List.mem_cons,not_or] at nd;obtain ⟨⟨n1,n2,n3⟩,⟨n4,n5⟩,n6,n7⟩:=nd;refine A0 (wpAny_forIn_list _ (λ rest b s'=>b.1=none/\∃n h',rest=((its.map λ p=>Value.ref p.2.1).zipIdx).drop n/\n<=vs.length/\s'={ s with heap:=h' }/\IsZip h' z TI TO .ellipsis/\jA h' TO (vs.take n ++ os.drop n)/\(∀ (j:Nat) p,its[j]? = some p->ItA p.1 h' p.2.1 p.2.2 (if j < n then k + 1 else k))/\h'.objs.size=s.heap.objs.size/\∀c o,c≠z->c≠TO->c∉its.map (·.2.1)->s.heap.get? c=some o->h'.get? c=some o) _ ?_ ?_ _ _ ?_)
 ·rintro x rest b s' ⟨hb,n,h',hr,hn,rfl,hz',hTO',hi',hsz,hk⟩;obtain ⟨b1,b2⟩:=b;cases (show b1=none from hb);have hnl:n < its.length:=by
   rcases Nat.lt_or_ge n its.length with h | h
   ·exact h
   ·rw [List.drop_of_length_le (by simpa using h)] at hr; cases hr
  have hp:its[n]? = some its[n]:=by simp [hnl]
  generalize its[n]=p at hp;have hm:p∈its:=B8 hp;have hx:x=(Value.ref p.2.1,n)/\rest=((its.map λ p=>Value.ref p.2.1).zipIdx).drop (n + 1):=by
   have e:((its.map λ p=>Value.ref p.2.1).zipIdx)[n]? = some (Value.ref p.2.1,n):=by simp [hp]
   rw [List.drop_eq_getElem_cons (by simpa using hnl)] at hr;cases hr;exact ⟨by simpa [List.getElem?_eq_getElem (show n < ((its.map λ p=>Value.ref p.2.1).zipIdx).length by simpa using hnl)] using e,Y⟩
  obtain ⟨rfl,rfl⟩:=hx;obtain ⟨xs,sq,ex⟩:=hv n p hp;have A1:=ha p hm;simp only [List.mem_cons,not_or] at A1;have sq':SqA p.1 h' p.2.2 xs:=sq.at λ o e=>hk _ o A1.1 A1.2.2.1 A1.2.2.2 e;have it':=hi' n p hp;rw [if_neg (Nat.lt_irrefl n)] at it';have mi:p.2.1∈its.map (·.2.1):=List.mem_map_of_mem hm;have iz:p.2.1≠z:=λ e=>n3 (e ▸ mi);have iT:p.2.1≠TO:=λ e=>n6 (e ▸ mi);have ne:∀ (j:Nat) q,its[j]? = some q->j≠n->q.2.1≠p.2.1:=λ j q hj h e=>h ((List.getElem?_inj (by have:=(A9.mp hj).1; simpa using this) n7).mp (by simp [hj,hp,e]));dsimp only;refine A0 (wpAny_onRaise ?_);show wpAny _ _ (Builtin.SmallTypes.nextOf (.ref p.2.1) >>= _) _ _ _;refine A0 (oJ hh it' sq' (λ y hy h₂ i₂ hs₂=>A3 ?_) λ hy h₂ e hs₂ he=>?_)
  ·have hnv:n < vs.length:=by
    rcases Nat.lt_or_ge n vs.length with h | h
    ·exact h
    ·rw [ex hn,List.getElem?_eq_none h] at hy; cases hy
   rw [ex hn] at hy;have hTO₂:=hs₂.extBut _ _ (Ne.symm iT) hTO';refine A0 (wpAny_seqItems hTO₂ rfl ?_);refine A0 (wpAny_updateSeq hTO₂ rfl ?_ ?_ ?_)
   ·refine A0 (wpAny_letGo (A3 ?_));have hs₃:=Heap.SameBut.update h₂ TO (Obj.mapSeq λ x=>x.setIfInBounds n y);refine ⟨Y,n + 1,_,Y,hnv,Y,hs₃.extBut _ _ n2 (hs₂.extBut _ _ (Ne.symm iz) hz'),?_,λ j q hj=>?_,by rw [hs₃.1,hs₂.1,hsz],λ c o c1 c2 c3 e=>hs₃.extBut _ _ c2 (hs₂.extBut _ _ (λ e'=>c3 (e' ▸ mi)) (hk c o c1 c2 c3 e))⟩
    ·show Heap.get? _ _=_;rw [Heap.get?_update_self _ hTO₂ rfl,<- qL hy ⋯];simp [Obj.mapSeq]
    ·have qT:q.2.1≠TO:=λ e=>n6 (e ▸ List.mem_map_of_mem (B8 hj));rcases Nat.lt_trichotomy j n with h | h | h
     ·have:=hi' j q hj;rw [if_pos h] at this;rw [if_pos ⋯];exact this.at λ o e=>hs₃.extBut _ _ qT (hs₂.extBut _ _ (ne j q hj ⋯) e)
     ·subst h;rw [hp] at hj; cases hj;rw [if_pos (Nat.lt_succ_self _)];exact i₂.at λ o e=>hs₃.extBut _ _ qT e
     ·have:=hi' j q hj;rw [if_neg ⋯] at this;rw [if_neg ⋯];exact this.at λ o e=>hs₃.extBut _ _ qT (hs₂.extBut _ _ (ne j q hj ⋯) e)
   ·exact C9 (by simp; lia) (show 9<=sizeLine by decide)
   ·exact C9 (by simp; lia) (show 9<=sizeLine + 1 by decide)
  ·have hnv:vs.length<=n:=by rw [ex hn] at hy;exact List.getElem?_eq_none_iff.mp hy
   obtain ⟨oe,hoe,hce⟩:=he;have hz₂:=hs₂ _ _ (Ne.symm iz) hz';have hez:e≠z:=λ x=>by subst x; rw [hz₂] at hoe; cases hoe; simp at hce
   refine wpAny_setField_rec hz₂ (by simp) λ h₃ _ hs₃=>A0 (wpAny_isInstance (T := "StopIteration") (b:=true) ⟨oe,hs₃.extBut _ _ hez hoe,hce⟩ isSubtype_stop (A3 (hE ⋯ h₃ λ c o hc q=>?_)));simp only [List.mem_cons,not_or] at hc;exact hs₃.extBut _ _ hc.1 (hs₂ _ _ (λ e'=>hc.2.2.2 (e' ▸ mi)) (hk c o hc.1 hc.2.2.1 hc.2.2.2 q))
 ·rintro ⟨b1,b2⟩ s' ⟨hb,n,h',hr,hn,rfl,hz',hTO',hi',hsz,hk⟩;cases (show b1=none from hb);have hnl:its.length<=n:=by
   rcases Nat.lt_or_ge n its.length with h | h
   ·have:=congrArg List.length hr;simp at this; lia
   ·exact h
  have e1:vs.take n ++ os.drop n=vs:=by rw [List.drop_of_length_le ⋯,List.take_of_length_le ⋯,List.append_nil]
  rw [e1] at hTO';refine A0 (wpAny_seqItems hTO' rfl ?_);refine A0 (wpAny_newTuple ?_ (C9 (by simp; lia) (show 9<=sizeLine by decide)));have hzl:z < h'.objs.size:=B2 hz';show wpAny _ _ (Builtin.SmallTypes.ownedTupleHandOut (.ref z) (.ref h'.objs.size) >>= _) _ _ _;refine A0 ?_;unfold Builtin.SmallTypes.ownedTupleHandOut;refine A0 (wpAny_setField_rec (B0 _ hz') (by simp) λ h₇ hz₇ hs₇=>?_);refine wpAny_setField_rec hz₇ (by simp) λ h₈ hz₈ hs₈=>?_
  replace hz₈:IsZip h₈ z TI TO (rawInt h'.objs.size):=hz₈
  have up:∀c o,c≠z->h'.get? c=some o->h₈.get? c=some o:=λ c o c1 e=>hs₈.extBut _ _ c1 (hs₇.extBut _ _ c1 (B0 _ e));have hT₈:jA h₈ h'.objs.size vs:=hs₈.extBut _ _ (Nat.ne_of_gt hzl) (hs₇.extBut _ _ (Nat.ne_of_gt hzl) (B1 _ rfl));refine A3 ⟨_,rfl,?_⟩;refine A3 ?_;rw [hsz] at hz₈ hT₈ ⊢;refine hQ ⋯ h₈ ⟨hz₈,up _ _ (Ne.symm n1) (hk _ _ (Ne.symm n1) n4 n5 hTI),⟨vs,⋯,up _ _ (Ne.symm n2) hTO'⟩,λ p hp=>?_⟩ hT₈ λ c o hc e=>?_
  ·obtain ⟨j,hj⟩:=List.getElem?_of_mem hp;have:=hi' j p hj;rw [if_pos (by have:=(List.getElem?_eq_some_iff.mp hj).1; lia)] at this;exact this.at λ o e=>up _ o (λ e'=>n3 (e' ▸ List.mem_map_of_mem hp)) e
  ·simp only [List.mem_cons,not_or] at hc;exact up c o hc.1 (hk c o hc.1 hc.2.2.1 hc.2.2.2 e)
 ·exact ⟨Y,0,h₁,Y,G0 _,Y,hz₁,hs₁.extBut _ _ (Ne.symm n2) hTO,λ j p e=>by rw [if_neg (Nat.not_lt_zero _)]; exact (hi p (B8 e)).at λ o q=>hs₁.extBut _ _ (λ e'=>n3 (e' ▸ List.mem_map_of_mem (B8 e))) q,hs₁.1,λ c o c1 _ _ e=>hs₁.extBut _ _ c1 e⟩
structure ZIts (h h':Heap) (its:List (Bool×Addr×Addr)):Prop where
 nd:(its.map (·.2.1)).Nodup
 it:∀p∈its,h.objs.size<=p.2.1/\p.2.1 < h'.objs.size/\ItA p.1 h' p.2.1 p.2.2 0
 keep:∀c o,h.get? c=some o->h'.get? c=some o
 le:h.objs.size<=h'.objs.size
theorem ZIts.push {h h':Heap} {its:List (Bool×Addr×Addr)} (Z:ZIts h h' its) (o:Obj):ZIts h (h'.push o) its :=
 ⟨Z.nd,λ p hp=>let ⟨a1,a2,a3⟩:=Z.it p hp; ⟨a1,by rw [Heap.size_push]; exact Nat.lt_succ_of_lt a2,a3.at λ o e=>B0 _ e⟩,λ c o e=>B0 _ (Z.keep c o e),by rw [Heap.size_push]; have:=Z.le; lia⟩
theorem ZIts.add {h h':Heap} {its:List (Bool×Addr×Addr)} (Z:ZIts h h' its) {o:Obj} {b:Bool} {l:Addr} (i:ItA b (h'.push o) h'.objs.size l 0):ZIts h (h'.push o) (its ++ [(b,h'.objs.size,l)]):=by
 have P:=Z.push o;refine ⟨?_,λ p hp=>?_,P.keep,P.le⟩
 ·rw [List.map_append,List.nodup_append];refine ⟨P.nd,by simp,λ a ha c hc e=>?_⟩;obtain ⟨p,hp,rfl⟩:=List.mem_map.mp ha;simp at hc;exact C2 (Z.it p hp).2.1 (e.trans hc)
 ·rcases C6.mp hp with hp | hp
  ·exact P.it p hp
  ·cases E4.mp hp;exact ⟨Z.le,by rw [Heap.size_push]; exact G1 _,i⟩
theorem la {ls:List (Bool×Addr)} {Q:List JU->G7->Prop} (hs:∀p∈ls,∃xs,SqA p.1 s.heap p.2 xs)
  (hQ:∀ (h':Heap) (its:List (Bool×Addr×Addr)),its.map (λ p=>(p.1,p.2.2))=ls->ZIts s.heap h' its->Q (its.map λ p=>.ref p.2.1) { s with heap:=h' }) :
  wpAny (model prog w) A (Builtin.SmallTypes.iterAll (ls.map λ p=>.ref p.2)) Q E s:=by
 unfold Builtin.SmallTypes.iterAll;refine A0 (wpAny_forIn_list _ (λ rest b s'=>∃ (its:List (Bool×Addr×Addr)) (ls':List (Bool×Addr)) (h':Heap),b=(its.map λ p=>Value.ref p.2.1).toArray/\rest=(ls'.map λ p=>Value.ref p.2)/\its.map (λ p=>(p.1,p.2.2)) ++ ls'=ls/\s'={ s with heap:=h' }/\ZIts s.heap h' its) _ ?_ ?_ _ _ ⟨[],ls,s.heap,rfl,rfl,rfl,rfl,.nil,by simp,λ _ _ e=>e,B6 _⟩)
 ·rintro x rest b s' ⟨its,ls',h',rfl,hr,he,rfl,Z⟩;cases ls' with
  | nil=>cases hr
  | cons p t =>
   obtain ⟨b,l⟩:=p;cases hr;obtain ⟨xs,sq⟩:=hs (b,l) (by rw [<- he]; simp);have sq':SqA b h' l xs:=sq.at λ o e=>Z.keep _ o e;refine A0 (wpAny_holding ?_);cases b
   ·exact wpAny_pyIter_list sq' (A3 ⟨its ++ [(false,h'.objs.size,l)],t,_,by simp,rfl,by rw [<- he]; simp,rfl,Z.add ⟨_,B1 _ rfl,rfl,rfl⟩⟩)
   ·exact wpAny_pyIter_tuple sq' (A3 ⟨its ++ [(true,h'.objs.size,l)],t,_,by simp,rfl,by rw [<- he]; simp,rfl,Z.add ⟨_,B1 _ rfl,rfl,rfl⟩⟩)
 ·rintro b s' ⟨its,ls',h',rfl,hr,he,rfl,Z⟩;cases ls' with
  | cons p t=>cases hr
  | nil=>exact A3 (by simpa using hQ h' its (by simpa using he) Z)
structure ZipNew (h h':Heap) (ls:List (Bool×Addr)) (z TI TO:Addr) (its:List (Bool×Addr×Addr)):Prop where
 src:its.map (λ p=>(p.1,p.2.2))=ls
 nd:(fpZ z TI TO its).Nodup
 old:∀a∈fpZ z TI TO its,h.objs.size<=a
 st:StZ .none z TI TO its 0 h'
 keep:∀c o,h.get? c=some o->h'.get? c=some o
theorem qM (ls:List (Bool×Addr)) (hl:ls.length<=9) :
  Meets (Builtin.«zip.__new__» ⟨.type "zip" :: ls.map λ p=>.ref p.2,[]⟩) (λ _ R s=>(∀p∈ls,∃xs,SqA p.1 s.heap p.2 xs) /\
   ∀h' z TI TO its,ZipNew s.heap h' ls z TI TO its->R (.ok (.ret (.ref z))) { s with heap:=h' }) :=
 .of_wp λ prog w A R s h=>by
  obtain ⟨hs,h⟩:=h;have nine:9<=sizeLine:=∅
  unfold Builtin.«zip.__new__» Builtin.SmallTypes.newClass;simp only [isType,sub_zip,pure_bind];show wpAny _ _ (Builtin.SmallTypes.iterAll (ls.map λ p=>.ref p.2) >>= _) _ _ _;refine A0 (la hs λ h' its e Z=>?_);have len:its.length<=sizeLine:=by rw [<- e,List.length_map] at hl; lia
  refine A0 (wpAny_newTuple ?_ (by simpa using len));refine A0 (wpAny_newTuple ?_ (by simpa using len));generalize h1:h'.push _=g;have e1:g.objs.size=h'.objs.size + 1:=by rw [<- h1,Heap.size_push]
  generalize h2:g.push _=g2;have e2:g2.objs.size=h'.objs.size + 2:=by rw [<- h2,Heap.size_push,e1]
  show wpAny _ _ (newObj (.type "zip") (.fields #[.none, .bool false, .bool false, .ref h'.objs.size, .ref g.objs.size]) >>= _) _ _ _;refine A0 (G5 ?_);have Z2:ZIts s.heap g2 its:=h2 ▸ (h1 ▸ Z.push _:ZIts s.heap g its).push _;have g1:jA g h'.objs.size (its.map λ p=>.ref p.2.1):=h1 ▸ B1 _ rfl;have gi:jA g2 h'.objs.size (its.map λ p=>.ref p.2.1):=h2 ▸ B0 _ g1;have go:jA g2 g.objs.size ((its.map λ p=>Value.ref p.2.1).map λ _=>.none):=h2 ▸ B1 _ rfl;rw [List.map_map] at go;have Z3:=Z2.push { cls:=.type "zip", data:=.fields #[.none, .bool false, .bool false, .ref h'.objs.size, .ref g.objs.size] };have lt:∀a∈its.map (·.2.1),s.heap.objs.size<=a/\a < h'.objs.size:=λ a ha=>by obtain ⟨p,hp,rfl⟩:=List.mem_map.mp ha;exact ⟨(Z.it p hp).1,(Z.it p hp).2.1⟩
  refine A3 ⟨_,rfl,h _ g2.objs.size h'.objs.size g.objs.size its ⟨e,?_,λ a ha=>?_,⟨B1 _ rfl,B0 _ gi,⟨_,by simp,B0 _ go⟩,λ p hp=>(Z3.it p hp).2.2⟩,Z3.keep⟩⟩
  ·simp only [List.nodup_cons,List.mem_cons,not_or];exact ⟨⟨Nat.ne_of_gt ⋯,Nat.ne_of_gt ⋯,λ x=>by have:=(lt _ x).2; lia⟩,⟨C2 ⋯,λ x=>by have:=(lt _ x).2; lia⟩,λ x=>by have:=(lt _ x).2; lia,Z.nd⟩
  ·have le:=Z.le;simp only [List.mem_cons] at ha;rcases ha with rfl | rfl | rfl | ha
   ·lia
   ·lia
   ·lia
   ·exact (lt _ ha).1
theorem oK {ls:List (Bool×Addr)} {Q:JU->G7->Prop} (hl:ls.length<=9) (hct:checkTypeCall "zip" ⟨ls.map λ p=>.ref p.2,[]⟩=pure ()) (hcn:checkBuiltinCall "zip.__new__" ⟨.type "zip" :: ls.map λ p=>.ref p.2,[]⟩=pure ())
  (hok:∀obj, argsOk "object.__init__" ⟨obj :: ls.map λ p=>.ref p.2, []⟩) (hs:∀p∈ls, ∃xs, SqA p.1 s.heap p.2 xs) (h:∀h' z TI TO its, ZipNew s.heap h' ls z TI TO its->Q (.ref z) { s with heap:=h' }) :
  wpAny (model prog w) A (call (.type "zip") (ls.map λ p=>.ref p.2)) Q E s :=
 callType_new F.called_zip ∅ hct hcn hok F.entry_zip_new (qM ls hl) ⟨hs,λ h' z TI TO its Z=>show _/\_ from ⟨⟨_,Z.st.1,rfl⟩,h h' z TI TO its Z⟩⟩
end
end PySem
namespace L2
open PySem PySem.Spec PyProof.Rows
def sqO:Bool->List V->HO
 | true,xs=>.tup xs
 | false,xs=>.lst xs
theorem Inv.sq {X:Cx} {pins:List (Addr×Obj)} {σ:St} {H:Hp} {s:G7} (I:Inv X pins σ H s) {b:Bool} {l:Addr} {xs:List V} (e:H l=some (sqO b xs)):∃its:List JU,Vals xs its/\SqA b s.heap l its.toArray:=by
 cases b
 ·obtain ⟨its,r,p,_⟩:=I.list (JX e);exact ⟨its,r,p.isList⟩
 ·obtain ⟨its,r,p,_⟩:=I.tuple (JW e);exact ⟨its,r,p⟩
def RowN (H:Hp) (i:Nat):List (Bool×Addr)->List V->Prop
 | [],vs=>vs=[]
 | p :: ls,[]=>(∃xs,H p.2=some (sqO p.1 xs)/\xs.length<=i)/\∀q∈ls,∃xs,H q.2=some (sqO q.1 xs)
 | p :: ls,v :: vs=>(∃xs,H p.2=some (sqO p.1 xs)/\xs[i]? = some v)/\RowN H i ls vs
def tH (ls:List (Bool×Addr)):It :=
 ⟨λ i H=>∃vs,RowN H i ls vs/\vs.length=ls.length,λ i H v H'=>∃p vs,H p=none/\v=.ref p/\H'=upd H p (.tup vs)/\RowN H i ls vs/\vs.length=ls.length,λ i H=>∃vs,RowN H i ls vs/\vs.length < ls.length⟩
section
variable {X:Cx} {pins:List (Addr×Obj)} {σ:St} {H:Hp} {s:G7}
theorem RowN.src {i:Nat}:∀ {ls:List (Bool×Addr)} {vs:List V},RowN H i ls vs->∀p∈ls,∃xs,H p.2=some (sqO p.1 xs)
 | [],_,_,p,hp=>by cases hp
 | q :: ls,[],h,p,hp=>by
  rcases List.mem_cons.mp hp with rfl | hp
  ·obtain ⟨xs,e,_⟩:=h.1; exact ⟨xs,e⟩
  ·exact h.2 p hp
 | q :: ls,v :: vs,h,p,hp=>by
  rcases List.mem_cons.mp hp with rfl | hp
  ·obtain ⟨xs,e,_⟩:=h.1; exact ⟨xs,e⟩
  ·exact RowN.src h.2 p hp
theorem RowN.vals (I:Inv X pins σ H s) {i:Nat}:∀ {ls:List (Bool×Addr)} {vs:List V},RowN H i ls vs->∃us,Vals vs us/\∀ (j:Nat) p,ls[j]? = some p->∃xs,SqA p.1 s.heap p.2 xs/\(j<=us.length->xs[i]? = us[j]?)
 | [],vs,h=>by cases h; exact ⟨[],.nil,λ j p e=>by simp at e⟩
 | q :: ls,[],h=>by
  refine ⟨[],.nil,λ j p e=>?_⟩;cases j with
  | zero =>
   cases e;obtain ⟨xs,e,l⟩:=h.1;obtain ⟨its,rv,p⟩:=I.sq e;exact ⟨_,p,λ _=>by simpa using by rw [<- rv.length]; exact l⟩
  | succ j =>
   obtain ⟨xs,e⟩:=h.2 p (B8 (by simpa using e));obtain ⟨its,rv,p⟩:=I.sq e;exact ⟨_,p,λ h=>absurd h (by simp)⟩
 | q :: ls,v :: vs,h=>by
  obtain ⟨xs,e,ev⟩:=h.1;obtain ⟨us,r1,r3⟩:=RowN.vals I h.2;obtain ⟨its,rv,p⟩:=I.sq e;obtain ⟨u,hu,ru⟩:=rv.get ev;refine ⟨u :: us,.cons ru r1,λ j p' e'=>?_⟩;cases j with
  | zero=>cases e'; exact ⟨_,p,λ _=>by simpa using hu⟩
  | succ j =>
   obtain ⟨ys,y1,y2⟩:=r3 j p' (by simpa using e');exact ⟨ys,y1,λ h=>by simpa using y2 (by simpa using h)⟩
end
theorem oM {P:G8} {w:JT} {K:C8} {es:List Expr} {kk:Nat} {tp:Pos} {ls:List (Bool×Addr)} {z TI TO:Addr} {its:List (Bool×Addr×Addr)} (src:its.map (λ p=>(p.1,p.2.2))=ls) (nd:(fpZ z TI TO its).Nodup) (n0:its≠[]) (hl:its.length<=9) :
  Turn P w K (.Tuple es kk tp) (tH ls) (fpZ z TI TO its) z (StZ .none z TI TO its) where
 mem:=by simp
 obj:=λ i h st b hb=>by
  obtain ⟨a1,a2,⟨os,_,a3⟩,a4⟩:=st;simp only [List.mem_cons] at hb;rcases hb with rfl | rfl | rfl | hb
  ·exact ⟨_,a1,λ v q=>by cases q⟩
  ·exact ⟨_,a2,λ v q=>by cases q⟩
  ·exact ⟨_,a3,λ v q=>by cases q⟩
  ·obtain ⟨p,hp,rfl⟩:=List.mem_map.mp hb;exact (a4 p hp).obj
 keep:=λ i h h' st k=>by obtain ⟨a1,a2,⟨os,l,a3⟩,a4⟩:=st;exact ⟨k z (by simp) _ a1,k TI (by simp) _ a2,⟨os,l,k TO (by simp) _ a3⟩,λ p hp=>(a4 p hp).at λ o e=>k _ (by simp only [List.mem_cons]; exact .inr (.inr (.inr (List.mem_map_of_mem hp)))) o e⟩
 item:=by
  intro X hP hw hK hc i pins s σ H E I hf st ⟨vs,row,hvl⟩;subst hP hw hK src;obtain ⟨a1,a2,⟨os,ol,a3⟩,a4⟩:=id st;obtain ⟨us,rv,hu⟩:=row.vals I;have ul:=rv.length;rw [List.length_map] at hvl;refine fR (I.ok.hd hc) nd n0 hl st (λ p hp hb=>?_) (vs:=us) ⋯ (λ j p e=>hu j (p.1,p.2.2) (by simp [e])) (λ _ h' ⟨b1,b2,⟨ot,ol',b3⟩,b4⟩ b5 bk=>⟨_,Y,?_⟩) λ h=>⋯
  ·obtain ⟨xs,e⟩:=row.src (p.1,p.2.2) (List.mem_map_of_mem (f:=λ p=>(p.1,p.2.2)) hp);rw [(hf _ hb).1] at e; cases e
  ·refine wpAny_letOwnedTupleGo_zip b1 λ h'' c1 cs=>?_;have zs:z < s.heap.objs.size:=B2 a1;have ne:∀b∈TI :: TO :: its.map (·.2.1),b≠z:=λ b hb e=>(List.nodup_cons.mp nd).1 (e ▸ hb);have I1:Inv X pins σ H { s with heap:=h'' }:=I.turnedN (t':=s.toks) hf λ b o hb e=>cs.extBut b o (λ e'=>hb (by simp [e'])) (bk b o hb e);have hn:H s.heap.objs.size=none:=I.hok.fresh (B6 _);have I2:Inv X pins σ (upd H s.heap.objs.size (.tup vs)) { s with heap:=h'' }:=I1.track (I.fpOk (H':=H) (B6 _) hn) I.sz ⟨C9 ⋯ (show 9<=sizeLine by decide),us,rv,_,cs.extBut _ _ (Nat.ne_of_gt zs) b5,Y,_,Y⟩;have tn:StZ .none z TI TO its (i + 1) h'':=⟨c1,cs.extBut _ _ (ne TI (by simp)) b2,⟨ot,ol',cs.extBut _ _ (ne TO (by simp)) b3⟩,λ p hp=>(b4 p hp).at λ o e=>cs.extBut _ _ (ne _ (by simp only [List.mem_cons]; exact .inr (.inr (List.mem_map_of_mem hp)))) e⟩
   refine ⟨.ref s.heap.objs.size,_,I2,Y,⟨_,vs,hn,Y,Y,row,by simpa using hvl⟩,tn,λ b hb=>?_⟩;have hbl:b < s.heap.objs.size:=by
    simp only [List.mem_cons] at hb;rcases hb with rfl | rfl | rfl | hb
    ·exact zs
    ·exact B2 a2
    ·exact B2 a3
    ·obtain ⟨p,hp,rfl⟩:=List.mem_map.mp hb;obtain ⟨o,ho,_⟩:=(a4 p hp).obj;exact B2 ho
   rw [au (Nat.ne_of_lt hbl)];exact (hf b hb).1
 done:=by
  intro X hP hw hK hc i pins s σ H E I hf st ⟨vs,row,hvl⟩;subst hP hw hK src;obtain ⟨us,rv,hu⟩:=row.vals I;have ul:=rv.length;rw [List.length_map] at hvl;refine fR (I.ok.hd hc) nd n0 hl st (λ p hp hb=>?_) (vs:=us) ⋯ (λ j p e=>hu j (p.1,p.2.2) (by simp [e])) (λ h=>⋯) λ _ h' bk=>⟨Y,I.turnedN (t':=s.toks) hf bk⟩
  obtain ⟨xs,e⟩:=row.src (p.1,p.2.2) (List.mem_map_of_mem (f:=λ p=>(p.1,p.2.2)) hp);rw [(hf _ hb).1] at e; cases e
 self:=λ _ _ _ _ _ st h=>wpAny_pyIter_zip st.1 h
theorem Turn.conv {P:G8} {w:JT} {K:C8} {tg:Expr} {J J':It} {fp:List Addr} {it:Addr} {tn:Nat->Heap->Prop} (T:Turn P w K tg J fp it tn) (h1:∀i H,J'.go i H->J.go i H) (h2:∀i H v H',J.yld i H v H'->J'.yld i H v H') (h3:∀i H,J'.stop i H->J.stop i H):Turn P w K tg J' fp it tn :=
 ⟨T.mem,T.obj,T.keep,λ X a b c d i pins s σ H E I hf t g=>wpAny_mono (T.item X a b c d i pins s σ H E I hf t (h1 _ _ g)) (λ r s1 ⟨u,e,z⟩=>⟨u,e,wpAny_mono z (λ _ s2 ⟨x,H',q1,q2,q3,q4⟩=>⟨x,H',q1,q2,h2 _ _ _ _ q3,q4⟩) λ _ _ z=>z⟩) λ _ _ z=>z,λ X a b c d i pins s σ H E I hf t g=>T.done X a b c d i pins s σ H E I hf t (h3 _ _ g),T.self⟩
theorem na:∀ {ls:List (Bool×Addr)} {us:List JU},Vals (ls.map λ p=>V.ref p.2) us->us=ls.map λ p=>Value.ref p.2
 | [],_,.nil=>rfl
 | _ :: _,_,.cons r rr=>by cases r; exact congrArg _ (na rr)
theorem ng {X:Cx} {a:Expr} {as:List Expr} {ta:TA} {p pos tp:Pos} {es:List Expr} {kk:Nat} {C:List V->Hp->(It->Hp->Prop)->Prop} (hg:Gl X "zip") (hm:X.mg "zip" = none) (ha:PA X (a :: as) ta)
  (hs:starEach (a :: as) X.env=(false,eval a X.env) :: starEach as X.env) (hp:(backTo pos (starEach as X.env)).any (·.1)=false) (n:Nat) (hn:n < 9) (hct:∀vs:List JU,vs.length=n + 1->checkTypeCall "zip" ⟨vs,[]⟩=pure ()/\checkBuiltinCall "zip.__new__" ⟨.type "zip" :: vs,[]⟩=pure ()/\∀obj,argsOk "object.__init__" ⟨obj :: vs,[]⟩)
  (hw:∀vs H1 R,C vs H1 R->∃ (ls:List (Bool×Addr)) (J:It),ls.length=n + 1/\vs=ls.map (λ p=>.ref p.2)/\(∀p∈ls,∃xs,H1 p.2=some (sqO p.1 xs))/\R J H1/\(∀i H,J.go i H->(tH ls).go i H)/\(∀i H v H',(tH ls).yld i H v H'->J.yld i H v H')/\∀i H,J.stop i H->(tH ls).stop i H) :
  PI X (.Tuple es kk tp) (.Call (.Name "zip" p) (a :: as) [] pos) (λ σ H R=>ta σ H λ vs H1=>C vs H1 R):=by
 intro pins s σ H R I h;refine Call_ (dC I hg hm PyProof.Rows.boot_zip (PyProof.Rows.callWith_type1 (thn (ha pos pins s σ H _ I h) λ us s1 ⟨vs,H1,I1,r1,q1⟩=>?_) hs hp));obtain ⟨ls,J,ln,rfl,sq,q,c1,c2,c3⟩:=hw _ _ _ q1;have e:=na r1;subst e;obtain ⟨d1,d2,d3⟩:=hct (ls.map λ p=>Value.ref p.2) (by simpa using ln);refine oK ⋯ d1 d2 d3 (λ p hp=>?_) λ h' z TI TO its Z=>?_
 ·obtain ⟨xs,e⟩:=sq p hp;obtain ⟨_,_,q⟩:=I1.sq e;exact ⟨_,q⟩
 ·have il:its.length=n + 1:=by rw [<- ln,<- Z.src,List.length_map]
  exact wpAny_pyIter_zip Z.st.1 ⟨z,_,_,J,H1,Y,I1.kept (t':=s1.toks) Z.keep,(oM Z.src Z.nd (λ e=>by rw [e] at il; cases il) ⋯).conv c1 c2 c3,Z.st,λ b hb=>I1.fpOk (Z.old b hb) (I1.hok.fresh (Z.old b hb)),q⟩
theorem eM (a b c d:JU):argsOk "object.__init__" ⟨[a,b,c,d],[]⟩:=by unfold argsOk; rw [signature?_of (id := "object.__init__") (n:=['_', '_', 't', 'i', 'n', 'i', '_', '_']) (o:=['t', 'c', 'e', 'j', 'b', 'o']) (by kernel_rfl) F.owner_object]; kernel_rfl
def sqE (b c:Bool) (l1 l2:Addr):It :=
  ⟨λ i H=>∃xs ys x y,H l1=some (sqO b xs)/\H l2=some (sqO c ys)/\xs[i]? = some x/\ys[i]? = some y,
   λ i H v H'=>∃p xs ys x y,H p=none/\v=.ref p/\H'=upd H p (.tup [x,y])/\H l1=some (sqO b xs)/\H l2=some (sqO c ys)/\xs[i]? = some x/\ys[i]? = some y,
   λ i H=>∃xs ys,H l1=some (sqO b xs)/\H l2=some (sqO c ys)/\(xs.length<=i\/ys.length<=i)⟩
theorem nh {X:Cx} (bb cc:Bool) {a b:Expr} {ta:TA} {p pos tp:Pos} {es:List Expr} {kk:Nat} (hg:Gl X "zip") (hm:X.mg "zip" = none) (ha:PA X [a,b] ta)
  (hs:starEach [a,b] X.env=[(false,eval a X.env),(false,eval b X.env)]:=by rfl) (hs2:starEach [b] X.env=[(false,eval b X.env)]:=by rfl) :
  PI X (.Tuple es kk tp) (.Call (.Name "zip" p) [a,b] [] pos) (λ σ H R=>ta σ H λ vs H1=>∃l1 l2 xs ys,vs=[.ref l1,.ref l2]/\H1 l1=some (sqO bb xs)/\H1 l2=some (sqO cc ys)/\R (sqE bb cc l1 l2) H1):=by
 refine ng hg hm ha (by rw [hs,hs2]) (by rw [hs2]; rfl) 1 ⋯ (λ vs hv=>?_) λ vs H1 R ⟨l1,l2,xs,ys,e,e1,e2,q⟩=>⟨[(bb,l1),(cc,l2)],_,Y,e,?_,q,?_,?_,?_⟩
 ·match vs,hv with
  | [x,y],_=>exact ⟨F.typeCall_zip_2 _ _,F.newCall_zip_2 _ _,λ obj=>F.args_object_init_3 obj _ _⟩
 ·simp only [List.mem_cons,List.not_mem_nil,or_false];rintro p (rfl | rfl)
  ·exact ⟨_,e1⟩
  ·exact ⟨_,e2⟩
 ·rintro i H ⟨xs,ys,x,y,a1,a2,a3,a4⟩;exact ⟨[x,y],⟨⟨_,a1,a3⟩,⟨_,a2,a4⟩,Y⟩,Y⟩
 ·rintro i H v H' ⟨p,vs,a0,rfl,rfl,r,hl⟩
  match vs,r,hl with
  | [x,y],⟨⟨xs,a1,a3⟩,⟨ys,a2,a4⟩,_⟩,_=>exact ⟨p,xs,ys,x,y,a0,Y,Y,a1,a2,a3,a4⟩
 ·rintro i H ⟨xs,ys,a1,a2,a3⟩
  by_cases h:xs.length<=i
  ·refine ⟨[],⟨⟨_,a1,h⟩,?_⟩,by simp⟩;rintro q hq;cases E4.mp hq;exact ⟨_,a2⟩
  ·exact ⟨[xs[i]'⋯],⟨⟨_,a1,by simp⟩,⟨_,a2,by rcases a3 with a | a; lia; exact a⟩,by simp⟩,by simp⟩
theorem tI {X:Cx} {a b:Expr} {ta:TA} {p pos tp:Pos} {es:List Expr} {kk:Nat} (hg:Gl X "zip") (hm:X.mg "zip" = none) (ha:PA X [a,b] ta)
  (hs:starEach [a,b] X.env=[(false,eval a X.env),(false,eval b X.env)]:=by rfl) (hs2:starEach [b] X.env=[(false,eval b X.env)]:=by rfl) :
  PI X (.Tuple es kk tp) (.Call (.Name "zip" p) [a,b] [] pos) (GV ta):=nh false false hg hm ha hs hs2
def CK (l1 l2:Addr):It :=
  ⟨λ i H=>∃xs ys x y,H l1= ~~~xs/\H l2=↥ys/\xs[i]? = some x/\ys[i]? = some y,
   λ i H v H'=>∃p xs ys x y,H p=none/\v=.ref p/\H'=upd H p (.tup [x,y])/\H l1= ~~~xs/\H l2=↥ys/\xs[i]? = some x/\ys[i]? = some y,
   λ i H=>∃xs ys,H l1= ~~~xs/\H l2=↥ys/\(xs.length<=i\/ys.length<=i)⟩
def CL (ta:TA):TI:=λ σ H R=>ta σ H λ vs H1=>∃l1 l2 xs ys,vs=[.ref l1,.ref l2]/\H1 l1= ~~~xs/\H1 l2=↥ys/\R (CK l1 l2) H1
theorem ni {X:Cx} {a b:Expr} {ta:TA} {p pos tp:Pos} {es:List Expr} {kk:Nat} (hg:Gl X "zip") (hm:X.mg "zip" = none) (ha:PA X [a,b] ta)
  (hs:starEach [a,b] X.env=[(false,eval a X.env),(false,eval b X.env)]:=by rfl) (hs2:starEach [b] X.env=[(false,eval b X.env)]:=by rfl) :
  PI X (.Tuple es kk tp) (.Call (.Name "zip" p) [a,b] [] pos) (CL ta):=nh true false hg hm ha hs hs2
abbrev TXS:=St->Hp->(Hp->Prop)->XK->Prop
def PSx (X:Cx) (b:List Stmt) (t:TXS):Prop :=
 ∀ (pins:List (Addr×Obj)) (s:G7) (σ:St) (H:Hp) (N:Hp->Prop) (E:XK),Inv X pins σ H s->t σ H N E->wpAny (model X.prog X.w) X.A (execs b X.env) (λ fl s'=>fl=Flow.next/\∃H',Inv X pins σ H' s'/\N H') (XP X pins σ E) s
section
variable {X:Cx} {e c:Expr} {a b:List Stmt} {tx:TX} {ta tb:TXS} {tt:TT} {pos:Pos}
theorem qN (he:PEx X e tx) (hs:swapsWith e none pos.line X.env=pure false:=by rfl):PSx X [.Expr e pos] (λ σ H N E=>tx σ H (λ _ H1=>N H1) E):=by intro pins s σ H N E I h;exact wpAny_execs_cons (wpAny_Expr_any (wpAny_mono (he pins s σ H _ _ I h) (λ v s1 ⟨x,H1,I1,r1,q1⟩=>wpAny_execs_nil ⟨rfl,H1,I1,q1⟩) λ v s1 hx=>hx) I.quiet hs)
end
def tJ (l1 l2 l3:Addr):It :=
  ⟨λ i H=>∃xs ys zs x y w,H l1=↥xs/\H l2=↥ys/\H l3=↥zs/\xs[i]? = some x/\ys[i]? = some y/\zs[i]? = some w,
   λ i H v H'=>∃p xs ys zs x y w,H p=none/\v=.ref p/\H'=upd H p (.tup [x,y,w])/\H l1=↥xs/\H l2=↥ys/\H l3=↥zs/\xs[i]? = some x/\ys[i]? = some y/\zs[i]? = some w,
   λ i H=>∃xs ys zs,H l1=↥xs/\H l2=↥ys/\H l3=↥zs/\xs.length<=i⟩
def CM (ta:TA):TI:=λ σ H R=>ta σ H λ vs H1=>∃l1 l2 l3 xs ys zs,vs=[.ref l1,.ref l2,.ref l3]/\H1 l1=↥xs/\H1 l2=↥ys/\H1 l3=↥zs/\R (tJ l1 l2 l3) H1
theorem tK {X:Cx} {a b c:Expr} {ta:TA} {p pos tp:Pos} {es:List Expr} {kk:Nat} (hg:Gl X "zip") (hm:X.mg "zip" = none) (ha:PA X [a,b,c] ta)
  (hs:starEach [a,b,c] X.env=[(false,eval a X.env),(false,eval b X.env),(false,eval c X.env)]:=by rfl) (hs2:starEach [b,c] X.env=[(false,eval b X.env),(false,eval c X.env)]:=by rfl) :
  PI X (.Tuple es kk tp) (.Call (.Name "zip" p) [a,b,c] [] pos) (CM ta):=by
 refine ng hg hm ha (by rw [hs,hs2]) (by rw [hs2]; rfl) 2 ⋯ (λ vs hv=>?_) λ vs H1 R ⟨l1,l2,l3,xs,ys,zs,e,e1,e2,e3,q⟩=>⟨[(false,l1),(false,l2),(false,l3)],_,Y,e,?_,q,?_,?_,?_⟩
 ·match vs,hv with
  | [x,y,z],_=>exact ⟨by kernel_rfl,by kernel_rfl,λ obj=>eM obj _ _ _⟩
 ·simp only [List.mem_cons,List.not_mem_nil,or_false];rintro p (rfl | rfl | rfl)
  ·exact ⟨_,e1⟩
  ·exact ⟨_,e2⟩
  ·exact ⟨_,e3⟩
 ·rintro i H ⟨xs,ys,zs,x,y,z,a1,a2,a3,b1,b2,b3⟩;exact ⟨[x,y,z],⟨⟨_,a1,b1⟩,⟨_,a2,b2⟩,⟨_,a3,b3⟩,Y⟩,Y⟩
 ·rintro i H v H' ⟨p,vs,a0,rfl,rfl,r,hl⟩
  match vs,r,hl with
  | [x,y,z],⟨⟨xs,a1,b1⟩,⟨ys,a2,b2⟩,⟨zs,a3,b3⟩,_⟩,_=>exact ⟨p,xs,ys,zs,x,y,z,a0,Y,Y,a1,a2,a3,b1,b2,b3⟩
 ·rintro i H ⟨xs,ys,zs,a1,a2,a3,h⟩;refine ⟨[],⟨⟨_,a1,h⟩,?_⟩,by simp⟩;simp only [List.mem_cons,List.not_mem_nil,or_false];rintro q (rfl | rfl)
  ·exact ⟨_,a2⟩
  ·exact ⟨_,a3⟩
theorem qO {l1 l2 l3:Addr} {xs ys zs:List V} {g:TG} {tb:TS} {D:Ends} {σ:St} {H:Hp} (Pv:Nat->St->Hp->Prop) (hn:xs.length=ys.length) (hn':xs.length=zs.length) (h0:Pv 0 σ H) (hk:∀i σ H',Pv i σ H'->H' l1=↥xs/\H' l2=↥ys/\H' l3=↥zs)
  (ht:∀i x y w p σ H,xs[i]? = some x->ys[i]? = some y->zs[i]? = some w->H p=none->Pv i σ H->g (.ref p) σ (upd H p (.tup [x,y,w])) λ σ2 H2=>tb { D with nx:=Pv (i + 1),ct:=Pv (i + 1),bk:=D.nx } σ2 H2) (hd:∀σ H,Pv xs.length σ H->D.nx σ H) :
  ∃W:Nat->Nat->St->Hp->Prop,(∃m,W 0 m σ H)/\∀i m σ H,W i m σ H ->
   ((tJ l1 l2 l3).stop i H/\D.nx σ H)\/((tJ l1 l2 l3).go i H/\∃N:St->Hp->Prop,(∀σ' H',N σ' H'->∃m',m' < m/\W (i + 1) m' σ' H')/\∀x H',(tJ l1 l2 l3).yld i H x H'->g x σ H' λ σ2 H2=>tb { D with nx:=N,ct:=N,bk:=D.nx } σ2 H2):=by
 refine ⟨λ i m σ H=>m=xs.length - i/\i<=xs.length/\Pv i σ H,⟨xs.length,by simp,G0 _,h0⟩,?_⟩;rintro i m σ H ⟨rfl,hi,p⟩;obtain ⟨e1,e2,e3⟩:=hk i σ H p
 by_cases hlt:i < xs.length
 ·refine .inr ⟨⟨xs,ys,zs,xs[i],ys[i]'⋯,zs[i]'⋯,e1,e2,e3,by simp [hlt],by simp [show i < ys.length by lia],by simp [show i < zs.length by lia]⟩,Pv (i + 1),λ σ' H' p'=>⟨xs.length - (i + 1),⋯,Y,hlt,p'⟩,λ v H' y=>?_⟩;obtain ⟨q,xs',ys',zs',x,y,w,hq,rfl,rfl,e1',e2',e3',ex,ey,ew⟩:=y;rw [e1] at e1'; cases e1';rw [e2] at e2'; cases e2';rw [e3] at e3'; cases e3';exact ht i x y w q σ H ex ey ew hq p
 ·have e:i=xs.length:=⋯
  subst e;exact .inl ⟨⟨xs,ys,zs,e1,e2,e3,B6 _⟩,hd σ H p⟩
end L2
namespace PyProof.Rows
set_option autoImplicit false
open PySem
structure SBaseT (κ0:SortKind) (a₀:Array Keyed) (st:SortSt):Prop where
 perm:(arrOf st).Perm a₀
 kind:kindOf st=κ0
 failed:failedOf st=none
 pend:pendingOf st=#[]
theorem SBaseT.size {κ0:SortKind} {a₀:Array Keyed} {st:SortSt} (h:SBaseT κ0 a₀ st):(arrOf st).size=a₀.size:=h.perm.size_eq
theorem SBaseT.setArr {κ0:SortKind} {a₀:Array Keyed} {st:SortSt} (h:SBaseT κ0 a₀ st) {xs:Array Keyed} (hp:xs.Perm (arrOf st)):SBaseT κ0 a₀ (setArr st xs) :=
 ⟨hp.trans h.perm,h.kind,h.failed,h.pend⟩
theorem SBaseT.atK {κ:KeyKind} {κ0:SortKind} {a₀:Array Keyed} {st:SortSt} (h:SBaseT κ0 a₀ st) (h0:KeysOf κ a₀) {i:Nat} (hi:i < a₀.size) :
  ∃x p a,(arrOf st)[i]? = some (x,p)/\κ.keyOf x=some a/\KK κ (arrOf st) i=a:=by
 have hi':i < (arrOf st).size:=by rw [h.size]; exact hi
 have hm:(arrOf st)[i]∈a₀.toList:=(Array.perm_iff_toList_perm.mp h.perm).mem_iff.mp (by simp);obtain ⟨a,ha⟩:=h0 _ hm;have e:(arrOf st)[i]? = some (arrOf st)[i]:=getElem?_pos _ i hi';refine ⟨(arrOf st)[i].1,(arrOf st)[i].2,a,by rw [e],ha,?_⟩;unfold KK; rw [e]; simp [ha]
def cw (prog:G8) (w:JT) (A:Around) (s:G7) (κ0:SortKind) (κ:KeyKind):Prop :=
 ∀ (E:JU->G7->Prop) (x y:JU) (a b:κ.α) (Q:Bool->G7->Prop),κ.keyOf x=some a->κ.keyOf y=some b->Q (κ.blt a b) s->wpAny (model prog w) A (keyLt' κ0 x y) Q E s
section
variable {prog:G8} {w:JT} {A:Around} {E:JU->G7->Prop} {s:G7} {a₀:Array Keyed} {κ:KeyKind} {κ0:SortKind}
theorem lb (hO:cw prog w A s κ0 κ) {st:SortSt} {i j:Nat} {x y:JU} {a b:κ.α} {p q:JU} {Q:Option Bool->SortSt->Prop} (hk:kindOf st=κ0)
  (hi:(arrOf st)[i]? = some (x,p)) (hj:(arrOf st)[j]? = some (y,q)) (ha:κ.keyOf x=some a) (hb:κ.keyOf y=some b) (h:Q (some (κ.blt a b)) st) :
  wpS (model prog w) A E s (ltAt' i j) Q st:=by
 rw [ltAt'_eq];refine A4 (wpS_get ?_);show wpS _ _ _ _ (do let x<-elem' (arrOf st) i; let y<-elem' (arrOf st) j; lt' x y) Q st;rw [elem'_eq,elem'_eq,hi,hj];refine A4 (A7 (A4 (A7 ?_)));rw [lt'_eq];refine A4 (wpS_get ?_);rw [hk];refine A4 (wpS_lift (wpAny_attempt (hO _ x y a b _ ha hb ⟨rfl,?_⟩)));exact A7 h
theorem cS {st:SortSt} {i j:Nat} {Q:Option Bool->SortSt->Prop} (hO:cw prog w A s κ0 κ) (hB:SBaseT κ0 a₀ st) (h0:KeysOf κ a₀) (hi:i < a₀.size) (hj:j < a₀.size)
  (h:Q (some (κ.blt (KK κ (arrOf st) i) (KK κ (arrOf st) j))) st):wpS (model prog w) A E s (ltAt' i j) Q st:=by
 obtain ⟨x,p,a,e1,ha,ka⟩:=hB.atK h0 hi;obtain ⟨y,q,b,e2,hb,kb⟩:=hB.atK h0 hj;rw [ka,kb] at h;exact lb hO hB.kind e1 e2 ha hb h
theorem fI {st:SortSt} {n ok:Nat} {Q:Bool->SortSt->Prop} (hO:cw prog w A s κ0 κ) (h0:KeysOf κ a₀) (hn:n<=a₀.size) (hok:ok<=n) (hB:SBaseT κ0 a₀ st) (hs:SortedToK κ (arrOf st) ok)
  (h:∀st',SBaseT κ0 a₀ st'->SortedToK κ (arrOf st') n->Q true st'):wpS (model prog w) A E s (binarySort' 0 n ok) Q st:=by
 rw [binarySort'_eq];simp only [Nat.zero_add];refine A4 (wpS_mono (wpS_forRange (I:=λ k c st'=>c=(none,())/\SBaseT κ0 a₀ st'/\SortedToK κ (arrOf st') (min k n))
  (Q:=λ c st'=>c=(none,())/\SBaseT κ0 a₀ st'/\SortedToK κ (arrOf st') n) ?step ?fin ?init) ?post)
 case post =>
  rintro c st' ⟨rfl,hB',hs'⟩;exact A7 (h st' hB' hs')
 case init =>
  refine ⟨Y,hB,λ i j hij hj=>?_⟩
  by_cases h1:ok=0
  ·have:i=j:=⋯
   subst this; exact KeyOrd.kle_refl _
  ·exact hs i j hij ⋯
 case fin =>
  rintro c st' ⟨hc,hB',hs'⟩;refine ⟨hc,hB',?_⟩;rwa [show min (max (max ok 1) n) n=n by lia] at hs'
 case step =>
  rintro k c st' hak hkn ⟨rfl,hB',hs'⟩;rw [show min k n=k by lia] at hs';have hk:k < a₀.size:=⋯
  refine A4 (wpS_mono (wpS_forRange (I:=λ x c st''=>st''=st'/\∃l r,c=(none,l,r)/\l<=r/\r<=k/\r - l<=k - x /\
    (∀i,i < l->κ.kle (KK κ (arrOf st') i) (KK κ (arrOf st') k))/\(∀i,r<=i->i < k->κ.klt (KK κ (arrOf st') k) (KK κ (arrOf st') i)))
   (Q:=λ c st''=>st''=st'/\∃l r,c=(none,l,r)/\l<=k /\
    (∀i,i < l->κ.kle (KK κ (arrOf st') i) (KK κ (arrOf st') k))/\(∀i,l<=i->i < k->κ.klt (KK κ (arrOf st') k) (KK κ (arrOf st') i))) ?istep ?ifin ?iinit) ?ipost)
  case iinit=>exact ⟨Y,0,k,Y,⋯,⋯,⋯,λ i hi=>⋯,λ i h1 h2=>⋯⟩
  case ifin =>
   rintro c st'' ⟨rfl,l,r,rfl,hlr,hrk,hm,hlo,hhi⟩;have:l=r:=⋯
   subst this;exact ⟨Y,l,l,Y,hrk,hlo,hhi⟩
  case istep =>
   rintro x c st'' _ hxk ⟨rfl,l,r,rfl,hlr,hrk,hm,hlo,hhi⟩;dsimp only
   by_cases hge:l≥r
   ·rw [if_pos hge];have:l=r:=⋯
    subst this;exact A7 ⟨rfl,l,l,rfl,hrk,hlo,hhi⟩
   ·rw [if_neg hge];refine A4 (cS hO hB' h0 hk ⋯ ?_);cases hless:κ.blt (KK κ (arrOf st'') k) (KK κ (arrOf st'') ((l + r) / 2))
    case true =>
     simp only [if_true];refine A7 ⟨rfl,l,(l + r) / 2,rfl,⋯,⋯,⋯,hlo,λ i h1 h2=>?_⟩;exact KeyOrd.klt_of_klt_of_kle hless (hs' _ _ h1 h2)
    case false =>
     simp only [Bool.false_eq_true,if_false];refine A7 ⟨rfl,(l + r) / 2 + 1,r,rfl,⋯,⋯,⋯,λ i h1=>?_,hhi⟩;exact KeyOrd.kle_trans (hs' i ((l + r) / 2) ⋯ ⋯) (show κ.kle _ _ from hless)
  case ipost =>
   rintro c st'' ⟨rfl,l,r,rfl,hlk,hlo,hhi⟩;show wpS _ _ _ _ (do moveDown' k l; pure (ForInStep.yield (none,()))) _ _;rw [moveDown'_eq];refine A4 (wpS_modify (A7 ⟨rfl,hB'.setArr (bubble_perm _ _ _),?_⟩));rw [show min (k + 1) n=k + 1 by lia];have hks:k < (arrOf st'').size:=by rw [hB'.size]; exact hk
   intro i j hij hj;show κ.kle (KK κ (bubble (arrOf st'') k (k - l)) i) (KK κ (bubble (arrOf st'') k (k - l)) j);rw [KK_bubble hks ⋯,KK_bubble hks ⋯,show k - (k - l)=l by lia]
   repeat' split
   all_goals first
    | (exfalso; lia)
    | exact KeyOrd.kle_refl _
    | exact hlo _ ⋯
    | exact KeyOrd.kle_of_klt (hhi _ ⋯ ⋯)
    | exact hs' _ _ ⋯ ⋯
theorem eE {st:SortSt} {a nrem:Nat} {Q:AscSt->SortSt->Prop} (hO:cw prog w A s κ0 κ) (h0:KeysOf κ a₀) (hn:nrem<=a₀.size) (ha:1<=a) (han:a<=nrem) (hB:SBaseT κ0 a₀ st)
  (hs:SortedToK κ (arrOf st) a)
  (h:∀n,a<=n->n<=nrem->SortedToK κ (arrOf st) n->(n=nrem\/κ.klt (KK κ (arrOf st) n) (KK κ (arrOf st) (n - 1)))->Q (none,n) st) :
  wpS (model prog w) A E s (ascLoop a nrem) Q st:=by
 unfold ascLoop;refine wpS_forRange (I:=λ x c st'=>st'=st/\c=(none,x)/\SortedToK κ (arrOf st) x) ?step ?fin ⟨rfl,rfl,hs⟩
 case fin =>
  rintro c st' ⟨rfl,rfl,hs'⟩;rw [show max a nrem=nrem by lia] at hs' ⊢;exact h nrem han (B6 _) hs' (.inl rfl)
 case step =>
  rintro x c st' hax hxn ⟨rfl,rfl,hs'⟩;dsimp only;refine A4 (cS hO hB h0 ⋯ ⋯ ?_);cases hless:κ.blt (KK κ (arrOf st') x) (KK κ (arrOf st') (x - 1))
  case true =>
   simp only [if_true];exact A7 (h x hax ⋯ hs' (.inr hless))
  case false =>
   simp only [Bool.false_eq_true,if_false];refine A7 ⟨rfl,rfl,λ i j hij hj=>?_⟩
   by_cases hjx:j < x
   ·exact hs' i j hij hjx
   ·have hj':j=x:=⋯
    subst hj'
    by_cases hi':i=j
    ·subst hi'; exact KeyOrd.kle_refl _
    ·exact KeyOrd.kle_trans (hs' i (j - 1) ⋯ ⋯) hless
theorem fT {st:SortSt} {n nrem:Nat} {Q:Option Nat->SortSt->Prop} (hO:cw prog w A s κ0 κ) (h0:KeysOf κ a₀) (hn:nrem<=a₀.size) (h1:1<=n) (hnn:n<=nrem) (hB:SBaseT κ0 a₀ st)
  (hs:NonIncK κ (arrOf st) n) (h:∀m st',SBaseT κ0 a₀ st'->1<=m->m<=nrem->SortedToK κ (arrOf st') m->Q (some m) st') :
  wpS (model prog w) A E s (tail3 n nrem) Q st:=by
 unfold tail3;have hsz:n<=(arrOf st).size:=by rw [hB.size]; lia
 refine A4 (wpS_reverse ?_);have hB':SBaseT κ0 a₀ (setArr st (mirror (arrOf st) 0 n ((n - 0) / 2))):=hB.setArr (mirror_perm _ _ _ _);refine A4 (eE hO h0 hn h1 hnn hB' ?_ λ m hm1 hm2 hsm _=>A7 (h m _ hB' ⋯ hm2 hsm));intro i j hij hj;show κ.kle (KK κ (mirror (arrOf st) 0 n ((n - 0) / 2)) i) (KK κ (mirror (arrOf st) 0 n ((n - 0) / 2)) j);rw [KK_mirror hsz,KK_mirror hsz,if_pos ⋯,if_pos ⋯];exact hs _ _ ⋯ ⋯
theorem gP {st:SortSt} {n nrem:Nat} {Q:DescSt->SortSt->Prop} (hO:cw prog w A s κ0 κ) (h0:KeysOf κ a₀) (hn:nrem<=a₀.size) (h1:1<=n) (hnn:n<=nrem) (hB:SBaseT κ0 a₀ st)
  (hs:NonIncK κ (arrOf st) n)
  (h:∀m neq st',SBaseT κ0 a₀ st'->n<=m->m<=nrem->NonIncK κ (arrOf st') m->neq + 1<=m->(∀i,m - (neq + 1)<=i->i < m->KK κ (arrOf st') i=KK κ (arrOf st') (m - 1))->Q (none,m,neq) st') :
  wpS (model prog w) A E s (descLoop n nrem) Q st:=by
 unfold descLoop;refine wpS_forRange (I:=λ x c st'=>∃neq,c=(none,x,neq)/\SBaseT κ0 a₀ st'/\NonIncK κ (arrOf st') x/\neq + 1<=x /\
   (∀i,x - (neq + 1)<=i->i < x->KK κ (arrOf st') i=KK κ (arrOf st') (x - 1))) ?step ?fin ⟨0,rfl,hB,hs,⋯,λ i h1 h2=>by congr 1; lia⟩
 case fin =>
  rintro c st' ⟨neq,rfl,hB',hs',hq,he⟩;rw [show max n nrem=nrem by lia] at hs' hq he ⊢;exact h nrem neq st' hB' hnn (B6 _) hs' hq he
 case step =>
  rintro x c st' hax hxn ⟨neq,rfl,hB',hs',hq,he⟩;dsimp only;have hsz:x<=(arrOf st').size:=by rw [hB'.size]; lia
  refine A4 (cS hO hB' h0 ⋯ ⋯ ?_);cases hless:κ.blt (KK κ (arrOf st') x) (KK κ (arrOf st') (x - 1))
  case true =>
   simp only [if_true];have step1:∀xs:Array Keyed,(∀k,KK κ xs k=KK κ (arrOf st') k)->NonIncK κ xs (x + 1):=by
    intro xs hk i j hij hj;rw [hk,hk]
    by_cases hjx:j < x
    ·exact hs' i j hij hjx
    ·have hj':j=x:=⋯
     subst hj'
     by_cases hi':i=j
     ·subst hi'; exact KeyOrd.kle_refl _
     ·exact KeyOrd.kle_trans (KeyOrd.kle_of_klt hless) (hs' i (j - 1) ⋯ ⋯)
   by_cases hneq:neq > 0
   ·rw [if_pos hneq];refine A4 (wpS_reverse (A7 ⟨0,rfl,hB'.setArr (mirror_perm _ _ _ _),step1 _ (KK_mirror_equal hsz he),⋯,λ i h1 h2=>by congr 1; lia⟩))
   ·rw [if_neg hneq];exact A7 ⟨0,rfl,hB',step1 _ (λ _=>rfl),⋯,λ i h1 h2=>by congr 1; lia⟩
  case false =>
   simp only [Bool.false_eq_true,if_false];refine A4 (cS hO hB' h0 ⋯ ⋯ ?_);cases hlarger:κ.blt (KK κ (arrOf st') (x - 1)) (KK κ (arrOf st') x)
   case true =>
    simp only [if_true];exact A7 (h x neq st' hB' hax ⋯ hs' hq he)
   case false =>
    simp only [Bool.false_eq_true,if_false];have heqx:KK κ (arrOf st') x=KK κ (arrOf st') (x - 1):=KeyOrd.kle_antisymm hlarger hless;refine A7 ⟨neq + 1,rfl,hB',λ i j hij hj=>?_,⋯,λ i h1 h2=>?_⟩
    ·by_cases hjx:j < x
     ·exact hs' i j hij hjx
     ·have hj':j=x:=⋯
      subst hj'
      by_cases hi':i=j
      ·subst hi'; exact KeyOrd.kle_refl _
      ·rw [heqx]; exact hs' i (j - 1) ⋯ ⋯
    ·rw [show x + 1 - 1=x by lia]
     by_cases hix:i=x
     ·subst hix; rfl
     ·rw [heqx]; exact he i ⋯ ⋯
theorem dH {st:SortSt} {n nrem:Nat} {Q:Option Nat->SortSt->Prop} (hO:cw prog w A s κ0 κ) (h0:KeysOf κ a₀) (hn:nrem<=a₀.size) (hnn:n + 1<=nrem) (hB:SBaseT κ0 a₀ st)
  (hs:NonIncK κ (arrOf st) (n + 1)) (h:∀m st',SBaseT κ0 a₀ st'->1<=m->m<=nrem->SortedToK κ (arrOf st') m->Q (some m) st') :
  wpS (model prog w) A E s (descPart n nrem) Q st:=by
 unfold descPart;refine A4 (wpS_lift (wpAny_rule ⟨rfl,?_⟩));refine A4 (gP hO h0 hn ⋯ hnn hB hs λ m neq st' hB' hm1 hm2 hs' hq he=>?_);dsimp only;have hsz:m<=(arrOf st').size:=by rw [hB'.size]; lia
 by_cases hneq:neq > 0
 ·rw [if_pos hneq];refine A4 (wpS_reverse (fT hO h0 hn ⋯ hm2 (hB'.setArr (mirror_perm _ _ _ _)) ?_ h));intro i j hij hj;show κ.kle (KK κ (mirror (arrOf st') _ _ _) j) (KK κ (mirror (arrOf st') _ _ _) i);rw [KK_mirror_equal hsz he,KK_mirror_equal hsz he];exact hs' i j hij hj
 ·rw [if_neg hneq];exact fT hO h0 hn ⋯ hm2 hB' hs' h
theorem gQ {st:SortSt} {nrem:Nat} {Q:Option Nat->SortSt->Prop} (hO:cw prog w A s κ0 κ) (h0:KeysOf κ a₀) (hn:nrem<=a₀.size) (h1:1<=nrem) (hB:SBaseT κ0 a₀ st)
  (h:∀m st',SBaseT κ0 a₀ st'->1<=m->m<=nrem->SortedToK κ (arrOf st') m->Q (some m) st') :
  wpS (model prog w) A E s (countRun' 0 nrem) Q st:=by
 rw [countRun0_eq];refine A4 (eE hO h0 hn (B6 1) h1 hB (λ i j hij hj=>by have:i=j:=⋯; subst this; exact KeyOrd.kle_refl _) λ n hn1 hn2 hsn hor=>?_);dsimp only
 by_cases hnn:n=nrem
 ·rw [if_pos (by simpa using hnn)];exact A7 (h n st hB hn1 hn2 hsn)
 ·rw [if_neg (by simpa using hnn)];have hlt:κ.klt (KK κ (arrOf st) n) (KK κ (arrOf st) (n - 1)):=hor.resolve_left hnn
  by_cases hgt:n > 1
  ·rw [if_pos hgt];refine A4 (cS hO hB h0 ⋯ ⋯ ?_);cases hrose:κ.blt (KK κ (arrOf st) 0) (KK κ (arrOf st) (n - 1))
   case true =>
    simp only [if_true];exact A7 (h n st hB hn1 hn2 hsn)
   case false =>
    simp only [Bool.false_eq_true,if_false];have hsz:n<=(arrOf st).size:=by rw [hB.size]; lia
    have hall:∀k,0<=k->k < n->KK κ (arrOf st) k=KK κ (arrOf st) (n - 1):=by intro k _ hk;have a1:=hsn 0 k ⋯ hk;have a2:=hsn k (n - 1) ⋯ ⋯;exact KeyOrd.kle_antisymm a2 (KeyOrd.kle_trans hrose a1)
    refine A4 (wpS_reverse (dH hO h0 hn ⋯ (hB.setArr (mirror_perm _ _ _ _)) ?_ h));intro i j hij hj;show κ.kle (KK κ (mirror (arrOf st) _ _ _) j) (KK κ (mirror (arrOf st) _ _ _) i);rw [KK_mirror_equal hsz hall,KK_mirror_equal hsz hall]
    by_cases hjn:j < n
    ·rw [hall i ⋯ ⋯,hall j ⋯ hjn]; exact KeyOrd.kle_refl _
    ·have hj':j=n:=⋯
     subst hj'
     by_cases hi':i=j
     ·subst hi'; exact KeyOrd.kle_refl _
     ·rw [hall i ⋯ ⋯]; exact KeyOrd.kle_of_klt hlt
  ·rw [if_neg hgt];have hn1':n=1:=⋯
   subst hn1';refine dH hO h0 hn ⋯ hB ?_ h;intro i j hij hj
   by_cases hi':i=j
   ·subst hi'; exact KeyOrd.kle_refl _
   ·have hi0:i=0:=⋯
    have hj1:j=1:=⋯
    subst hi0; subst hj1;exact KeyOrd.kle_of_klt hlt
theorem SBaseT.doneK {st:SortSt} (hB:SBaseT κ0 a₀ st) (hs:SortedToK κ (arrOf st) a₀.size):SDoneK κ a₀ (setPending st ((pendingOf st).push (0,a₀.size,0))) :=
 ⟨hB.perm,hB.failed,by show (pendingOf st).push _=_; rw [hB.pend]; rfl,hs⟩
theorem gR {st:SortSt} {Q:Unit->SortSt->Prop} (hO:cw prog w A s κ0 κ) (h0:KeysOf κ a₀) (hB:SBaseT κ0 a₀ st) (h2:2<=a₀.size) (h64:a₀.size < 64)
  (h:∀st',(arrOf st').Perm a₀->failedOf st'=none->SortedToK κ (arrOf st') a₀.size->Q () st'):wpS (model prog w) A E s sortRuns' Q st:=by
 rw [sortRuns'_eq];refine A4 (wpS_get ?_);dsimp only;have hmr:minRun' a₀.size a₀.size 0=a₀.size:=by
  obtain ⟨f,hf⟩:∃f,a₀.size=f + 1:=⟨a₀.size - 1,⋯⟩
  have:minRun' (f + 1) a₀.size 0=a₀.size:=by rw [minRun'_succ,if_pos h64]; rfl
  rwa [<- hf] at this
 simp only [hB.size,hmr];refine A4 (wpS_mono (wpS_forRange
  (I:=λ x c st'=>(x=0/\c=(none,0)/\SBaseT κ0 a₀ st')\/(1<=x/\c=(none,a₀.size)/\SDoneK κ a₀ st'))
  (Q:=λ c st'=>c=(none,a₀.size)/\SDoneK κ a₀ st') ?step ?fin (.inl ⟨Y,Y,hB⟩)) ?post)
 case fin =>
  rintro c st' (⟨hx,_,_⟩ | ⟨_,hc,hD⟩)
  ·lia
  ·exact ⟨hc,hD⟩
 case step =>
  rintro x c st' _ hx (⟨rfl,rfl,hB'⟩ | ⟨hx1,rfl,hD⟩)
  ·dsimp only;rw [if_neg ⋯];simp only [Nat.sub_zero,Nat.min_self,Nat.zero_add];refine A4 (gQ hO h0 (B6 _) ⋯ hB' λ m st2 hB2 hm1 hm2 hs2=>?_);dsimp only
   by_cases hlt:m < a₀.size
   ·rw [if_pos hlt];refine A4 (wpS_lift (wpAny_rule ⟨rfl,?_⟩));refine A4 (fI hO h0 (B6 _) hm2 hB2 hs2 λ st3 hB3 hs3=>?_);simp only [Bool.not_true,Bool.false_eq_true,if_false];refine A4 (wpS_get ?_);have hb:(pendingOf st3).back? = none:=by rw [hB3.pend]; rfl
    rw [hb];dsimp only;exact A4 (wpS_modify (A7 (.inr ⟨⋯,Y,hB3.doneK hs3⟩)))
   ·rw [if_neg hlt];have hm:m=a₀.size:=⋯
    subst hm;refine A4 (wpS_get ?_);have hb:(pendingOf st2).back? = none:=by rw [hB2.pend]; rfl
    rw [hb];dsimp only;exact A4 (wpS_modify (A7 (.inr ⟨⋯,Y,hB2.doneK hs2⟩)))
  ·dsimp only;rw [if_pos (Nat.le_refl _)];exact A7 ⟨rfl,hD⟩
 case post =>
  rintro c st' ⟨rfl,hD⟩;dsimp only;refine A4 (wpS_mono (wpS_forRange (I:=λ _ c st''=>st''=st'/\c=(none,())) (Q:=λ c st''=>st''=st'/\c=(none,())) ?_ (λ _ _ hh=>hh) ⟨rfl,rfl⟩) ?_)
  ·rintro x c st'' _ _ ⟨rfl,rfl⟩;refine A4 (wpS_get ?_);rw [if_pos (by rw [hD.2.2.1]; exact Nat.le_refl 1)];exact A7 ⟨rfl,rfl⟩
  ·rintro c st'' ⟨rfl,rfl⟩;exact A7 (h _ hD.1 hD.2.1 hD.2.2.2)
end
section
variable {prog:G8} {w:JT} {A:Around} {E:JU->G7->Prop} {s:G7}
theorem fY {κ:KeyKind} {κ0:SortKind} {a:Addr} {vs:List JU} {n:Nat} {P:Fin->G7->Prop} (ho:s.heap.get? a=some (seqObj "list" vs.toArray n))
  (h0:KeysOf κ (pairsOf vs)) (hkk:∀s':G7,(∀b o,b≠a->s.heap.get? b=some o->s'.heap.get? b=some o)->cw prog w A s' κ0 κ/\∀v₁ v₂ rest,vs=v₁ :: v₂ :: rest->∀ (Q:SortKind->G7->Prop),Q κ0 s'->wpAny (model prog w) A (keyKind' (v₁ :: v₂ :: rest).toArray) Q E s') (h64:vs.length < 64)
  (h:∀st':SortSt,(arrOf st').Perm (pairsOf vs)->SortedToK κ (arrOf st') (pairsOf vs).size->P (.done (.ret .none)) { s with heap:=sortedHeap s.heap a vs ((arrOf st').map (·.2)) }) :
  wpAny (model prog w) A (Builtin.«list.sort» ⟨[.ref a],[]⟩) P E s:=by
 rw [list_sort_plain];have ha:a < s.heap.objs.size:=B2 ho;refine A0 (listItems_at ho rfl ?_);refine A0 (listUpdate_at ho rfl ?_);obtain ⟨e1,ho1⟩:∃e1,(s.heap.update a (Obj.mapSeq λ _=>#[])).get? a=some (seqObj "list" #[] e1):=⟨_,get?_update_seq ho (λ _=>#[])⟩
 refine A0 (seqEpoch_at ho1 rfl ?_);refine A0 (wpAny_newTuple ?_);refine A0 (wpAny_newList ?_);refine wpAny_holding ?_;have ho6:(((s.heap.update a (Obj.mapSeq λ _=>#[])).push (seqObj "tuple" vs.toArray 0)).push (seqObj "list" #[] 0)).get? a=some (seqObj "list" #[] e1):=by rw [Heap.get?_push_ne _ _ _ (by rw [size_push',Heap.size_update]; exact Nat.ne_of_lt (Nat.lt_succ_of_lt ha)),Heap.get?_push_ne _ _ _ (by rw [Heap.size_update]; exact Nat.ne_of_lt ha)];exact ho1
 show wpAny (model prog w) A _ P E { s with heap:=((s.heap.update a (Obj.mapSeq λ _=>#[])).push (seqObj "tuple" vs.toArray 0)).push (seqObj "list" #[] 0) };dsimp only;have hsz:vs.toArray.size=vs.length:=by simp
 have fin:=h
 by_cases h2:vs.toArray.size < 2
 ·rw [if_pos h2,if_pos h2];refine A0 (A3 ?_);rw [StateT.run_pure];refine A0 (A3 ?_);dsimp only;refine A0 (seqEpoch_at ho6 rfl ?_);refine A0 (listUpdate_at ho6 rfl ?_ (hsz2:=by rw [Array.size_map]; show (pairsOf vs).size<=_; rw [pairsOf_size,sizeLine_eq]; lia));simp only [bne_self_eq_false,Bool.false_eq_true,if_false];refine A3 (fin (SortSt.mk' general' (vs.toArray.zip vs.toArray) #[] 7 none) (Array.Perm.refl _) ?_);intro i j hij hj;have:i=j:=by rw [pairsOf_size] at hj; lia
  subst this; exact KeyOrd.kle_refl _
 ·rw [if_neg h2,if_neg h2];obtain ⟨v₁,v₂,rest,rfl⟩:∃v₁ v₂ rest,vs=v₁ :: v₂ :: rest:=by
   match vs,hsz,h2 with
   | [],_,h2=>simp at h2
   | [_],_,h2=>simp at h2
   | v₁ :: v₂ :: rest,_,_=>exact ⟨v₁,v₂,rest,Y⟩
  have kp:∀b o,b≠a->s.heap.get? b=some o->(((s.heap.update a (Obj.mapSeq λ _=>#[])).push (seqObj "tuple" (v₁ :: v₂ :: rest).toArray 0)).push (seqObj "list" #[] 0)).get? b=some o:=λ b o nb e =>
   B0 _ (B0 _ (by rw [Heap.get?_update_ne _ _ _ _ nb]; exact e))
  obtain ⟨hO,hK⟩:=hkk { s with heap:=((s.heap.update a (Obj.mapSeq λ _=>#[])).push (seqObj "tuple" (v₁ :: v₂ :: rest).toArray 0)).push (seqObj "list" #[] 0) } kp;refine A0 (hK _ _ _ rfl _ ?_);refine A0 (wpAny_mono (gR (κ:=κ) (κ0:=κ0) hO (a₀:=pairsOf (v₁ :: v₂ :: rest)) (st:=SortSt.mk' κ0 ((v₁ :: v₂ :: rest).toArray.zip (v₁ :: v₂ :: rest).toArray) #[] 7 none)
   (Q:=λ _ st'=>(arrOf st').Perm (pairsOf (v₁ :: v₂ :: rest))/\failedOf st'=none/\SortedToK κ (arrOf st') (pairsOf (v₁ :: v₂ :: rest)).size)
   h0 ⟨Array.Perm.refl _,rfl,rfl,rfl⟩ (by rw [pairsOf_size]; simp) (by rw [pairsOf_size]; exact h64) λ st' a1 a2 a3=>⟨a1,a2,a3⟩) ?_ λ _ _ e=>e)
  rintro ⟨⟨⟩,st'⟩ s' ⟨rfl,hp,hf,hs⟩;dsimp only;refine A0 (seqEpoch_at ho6 rfl ?_);refine A0 (listUpdate_at ho6 rfl ?_ (hsz2:=by refine C9 (Nat.le_of_eq ((Array.size_map ..).trans (hp.size_eq.trans (pairsOf_size _)))) ?_; rw [sizeLine_eq]; lia));rw [hf];simp only [bne_self_eq_false,Bool.false_eq_true,if_false];exact A3 (fin st' hp hs)
theorem tL {κ:KeyKind} {κ0:SortKind} {l:Addr} {vs:List JU} {Q:JU->G7->Prop} (hl:s.heap.IsList l vs.toArray) (h0:KeysOf κ (pairsOf vs)) (hkk:∀ (A':Around) (s':G7),(∀b o,s.heap.get? b=some o->s'.heap.get? b=some o)->cw prog w A' s' κ0 κ/\∀v₁ v₂ rest,vs=v₁ :: v₂ :: rest->∀ (Q:SortKind->G7->Prop) (E':JU->G7->Prop),Q κ0 s'->wpAny (model prog w) A' (keyKind' (v₁ :: v₂ :: rest).toArray) Q E' s') (h64:vs.length < 64)
  (h:∀st':SortSt,(arrOf st').Perm (pairsOf vs)->SortedToK κ (arrOf st') (pairsOf vs).size->Q (.ref (s.heap.objs.size + 1)) { s with heap:=sortedAll s.heap vs ((arrOf st').map (·.2)) }) :
  wpAny (model prog w) A (call (.builtin "sorted") [.ref l]) Q E s:=by
 refine Calls.call_function_entry kind_sorted plain_sorted entry_sorted (args_sorted1 _) ?_;unfold Builtin.«sorted»;refine A0 (m:=checkCount "sorted" 1 1 _) (A3 ?_);refine A0 (collect_list hl ?_);refine A0 (wpAny_newList ?_);have hsz:((s.heap.push (seqObj "list" #[] 0)).update s.heap.objs.size (Obj.mapSeq (· ++ vs.toArray))).objs.size=s.heap.objs.size + 1:=by rw [Heap.size_update,size_push']
 have hoL:(((s.heap.push (seqObj "list" #[] 0)).update s.heap.objs.size (Obj.mapSeq (· ++ vs.toArray))).push (seqObj "list" vs.toArray 0)).get? (s.heap.objs.size + 1)=some (seqObj "list" vs.toArray 0):=by rw [<- hsz]; exact B1 _ rfl
 show wpAny _ _ _ _ _ { s with heap:=((s.heap.push (seqObj "list" #[] 0)).update s.heap.objs.size (Obj.mapSeq (· ++ vs.toArray))).push (seqObj "list" vs.toArray 0) };rw [hsz];refine A0 (wpAny_holding (G4 slot_list_sort ⟨_,hoL,rfl⟩ entry_list_sort (fY hoL h0 (λ s' k=>by obtain ⟨a1,a2⟩:=hkk _ s' (λ b o e=>k b o (C2 (Nat.lt_succ_of_lt (B2 e))) (B0 _ (by rw [Heap.get?_update_ne _ _ _ _ (Nat.ne_of_lt (Heap.lt_size e))]; exact B0 _ e))); exact ⟨a1,λ v1 v2 r e Q q=>a2 v1 v2 r e Q _ q⟩) h64 λ st' a1 a2=>⟨_,Y,?_⟩) (args_list_sort _)));exact A3 ⟨_,rfl,h st' a1 a2⟩
end
end PyProof.Rows
namespace L2
open PySem PySem.Spec PyProof.Rows
def bZ:List Bool->List JU->Option (List Int)
 | [],[]=>some []
 | false :: r,.int i _ :: vs=>(bZ r vs).map (i :: ·)
 | true :: r,.bool b :: vs=>(bZ r vs).map ((if b=true then 1 else 0) :: ·)
 | _,_=>none
def jB:List Bool->List V->Option (List Int)
 | [],[]=>some []
 | false :: r,.int i :: vs=>(jB r vs).map (i :: ·)
 | true :: r,.bl b :: vs=>(jB r vs).map ((if b=true then 1 else 0) :: ·)
 | _,_=>none
theorem lg:∀ {sh:List Bool} {vs:List V} {us:List JU} {k:List Int},Vals vs us->jB sh vs=some k->bZ sh us=some k
 | [],[],_,_,r,h=>by cases r; exact h
 | [],_ :: _,_,_,_,h=>by cases h
 | false :: r,v :: vs,us,k,rv,h=>by
  cases rv with
  | cons r1 r2 =>
   cases v with
   | int i =>
    obtain ⟨t,rfl⟩:=r1;have h:(jB r vs).map (i :: ·)=some k:=h;show (bZ r _).map (i :: ·)=some k;cases e:jB r vs with
    | none=>rw [e] at h; cases h
    | some k'=>rw [e] at h; rw [lg r2 e]; exact h
   | _=>cases h
 | true :: r,v :: vs,us,k,rv,h=>by
  cases rv with
  | cons r1 r2 =>
   cases v with
   | bl b =>
    cases (show _=Value.bool b from r1);have h:(jB r vs).map ((if b=true then 1 else 0) :: ·)=some k:=h;show (bZ r _).map ((if b=true then 1 else 0) :: ·)=some k;cases e:jB r vs with
    | none=>rw [e] at h; cases h
    | some k'=>rw [e] at h; rw [lg r2 e]; exact h
   | _=>cases h
 | false :: _,[],_,_,_,h=>by cases h
 | true :: _,[],_,_,_,h=>by cases h
def cb:List Int->List Int->Bool
 | [],[]=>false
 | [],_ :: _=>true
 | _ :: _,[]=>false
 | a :: r,b :: t=>if a=b then cb r t else decide (a < b)
theorem gS:∀a,cb a a=false
 | []=>rfl
 | a :: r=>by rw [cb,if_pos rfl]; exact gS r
theorem ix:∀a b c,cb a b=true->cb b c=true->cb a c=true
 | [],[],_,h,_=>by cases h
 | [],_ :: _,[],_,h=>by cases h
 | [],_ :: _,_ :: _,_,_=>rfl
 | _ :: _,[],_,h,_=>by cases h
 | _ :: _,_ :: _,[],_,h=>by cases h
 | a :: r,b :: t,c :: u,h1,h2=>by
  rw [cb] at h1 h2 ⊢
  by_cases e1:a=b
  ·rw [if_pos e1] at h1
   by_cases e2:b=c
   ·rw [if_pos e2] at h2;rw [if_pos (e1.trans e2)];exact ix r t u h1 h2
   ·rw [if_neg e2] at h2;rw [if_neg (by rw [e1]; exact e2),e1]; exact h2
  ·rw [if_neg e1] at h1;have h1:=C3 h1
   by_cases e2:b=c
   ·rw [if_neg ⋯]; exact B3 ⋯
   ·rw [if_neg e2] at h2;have h2:=C3 h2;rw [if_neg ⋯]; exact B3 ⋯
theorem nr:∀a b c,cb a c=true->cb a b=true\/cb b c=true
 | [],[],_,h=>.inr h
 | [],_ :: _,_,_=>.inl rfl
 | _ :: _,_,[],h=>by cases h
 | _ :: _,[],_ :: _,_=>.inr rfl
 | a :: r,b :: t,c :: u,h=>by
  rw [cb] at h;rw [cb,cb]
  by_cases e1:a=b
  ·rw [if_pos e1]
   by_cases e2:b=c
   ·rw [if_pos (e1.trans e2)] at h;rw [if_pos e2];exact nr r t u h
   ·rw [if_neg (by rw [e1]; exact e2)] at h;rw [if_neg e2];exact .inr (by rw [<- e1]; exact h)
  ·rw [if_neg e1]
   by_cases e3:a=c
   ·rw [if_neg ⋯]
    by_cases z:a < b
    ·exact .inl (B3 z)
    ·exact .inr (B3 ⋯)
   ·rw [if_neg e3] at h;have h:=C3 h
    by_cases z:a < b
    ·exact .inl (B3 z)
    ·rw [if_neg ⋯]; exact .inr (B3 ⋯)
theorem fJ:∀a b,cb a b=false->cb b a=false->a=b
 | [],[],_,_=>rfl
 | [],_ :: _,h,_=>by cases h
 | _ :: _,[],_,h=>by cases h
 | a :: r,b :: t,h1,h2=>by
  rw [cb] at h1 h2
  by_cases e:a=b
  ·rw [if_pos e] at h1;rw [if_pos e.symm] at h2;rw [e,fJ r t h1 h2]
  ·rw [if_neg e] at h1;rw [if_neg (Ne.symm e)] at h2;have:=of_decide_eq_false h1;have:=of_decide_eq_false h2;exact absurd (show a=b by lia) e
def oN (h:Heap) (sh:List Bool):KeyKind where
 α:=List Int
 blt:=cb
 irrefl:=gS
 trans:=ix
 negTrans:=nr
 total:=fJ
 keyOf:=λ v=>match v with
  | .ref a=>match h.get? a with
   | some o=>match o.data with
    | .seq xs _=>bZ sh xs.toList
    | _=>none
   | none=>none
  | _=>none
 dflt:=[]
theorem nv {h:Heap} {sh:List Bool} {v:JU} {k:List Int} (e:(oN h sh).keyOf v=some k):∃a o xs n,v=.ref a/\h.get? a=some o/\o.data=.seq xs n/\bZ sh xs.toList=some k:=by
 cases v with
 | ref a =>
  have e:(match h.get? a with
   | some o=>match o.data with
    | .seq xs _=>bZ sh xs.toList
    | _=>none
   | none=>none)=some k:=e
  cases h1:h.get? a with
  | none=>rw [h1] at e; cases e
  | some o =>
   rw [h1] at e;cases h2:o.data with
   | seq xs n =>
    have e:(match o.data with
     | .seq xs _=>bZ sh xs.toList
     | _=>none)=some k:=e
    rw [h2] at e;exact ⟨a,o,xs,n,Y,h1,h2,e⟩
   | _ =>
    have e:(match o.data with
     | .seq xs _=>bZ sh xs.toList
     | _=>none)=some k:=e
    rw [h2] at e; cases e
 | _=>cases e
theorem eX:∀ {sh:List Bool} {us:List JU} {k:List Int},bZ sh us=some k->us.length=sh.length
 | [],[],_,_=>rfl
 | [],_ :: _,_,h=>by cases h
 | false :: r,[],_,h=>by cases h
 | true :: r,[],_,h=>by cases h
 | false :: r,v :: vs,k,h=>by
  cases v with
  | int i t =>
   have h:(bZ r vs).map (i :: ·)=some k:=h;cases e:bZ r vs with
   | none=>rw [e] at h; cases h
   | some k'=>rw [List.length_cons,List.length_cons,eX e]
  | _=>cases h
 | true :: r,v :: vs,k,h=>by
  cases v with
  | bool b =>
   have h:(bZ r vs).map ((if b=true then 1 else 0) :: ·)=some k:=h;cases e:bZ r vs with
   | none=>rw [e] at h; cases h
   | some k'=>rw [List.length_cons,List.length_cons,eX e]
  | _=>cases h
section
variable {prog:G8} {w:JT} {A:Around} {E:JU->G7->Prop} {s:G7}
theorem jC {a b:Bool} {Q:Bool->G7->Prop} (h:Q (a == b) s):wpAny (model prog w) A (eqBool (.bool a) (.bool b)) Q E s:=by
 unfold eqBool;show wpAny _ _ (if (Value.bool a == Value.bool b)=true then _ else _) Q E s
 by_cases hab:(Value.bool a == Value.bool b)=true
 ·rw [if_pos hab];have e:a=b:=by have:=eq_of_beq hab; injection this
  subst e;exact A0 (wpAny_rule (A3 (by simpa using h)))
 ·rw [if_neg hab];exact A0 (eq_bool (G3 h))
theorem iZ {bb:Bool} {Q:Bool->G7->Prop}:∀ (sh:List Bool) (xs ys:List JU) (a c:List Int) (i:Nat),bZ sh xs=some a->bZ sh ys=some c->((bb && i == 0)=true->sh.head? = some false\/sh=[])->Q (cb a c) s->PySem.W.KatLex prog w A bb false Q (xs.zip ys) i s
 | [],[],[],a,c,i,h1,h2,_,q=>by cases h1; cases h2; exact PySem.W.kat_nil q
 | [],_ :: _,_,_,_,_,h,_,_,_=>by cases h
 | [],[],_ :: _,_,_,_,_,h,_,_=>by cases h
 | false :: r,[],_,_,_,_,h,_,_,_=>by cases h
 | true :: r,[],_,_,_,_,h,_,_,_=>by cases h
 | false :: r,_ :: _,[],_,_,_,_,h,_,_=>by cases h
 | true :: r,_ :: _,[],_,_,_,_,h,_,_=>by cases h
 | false :: r,v :: vs,u :: us,a,c,i,h1,h2,hb,q=>by
  cases v with
  | int p t=>cases u with
   | int p' t' =>
    have h1:(bZ r vs).map (p :: ·)=some a:=h1;have h2:(bZ r us).map (p' :: ·)=some c:=h2;cases e1:bZ r vs with
    | none=>rw [e1] at h1; cases h1
    | some a' =>
     cases e2:bZ r us with
     | none=>rw [e2] at h2; cases h2
     | some c' =>
      rw [e1] at h1; rw [e2] at h2;cases h1; cases h2;rw [cb] at q;refine PySem.W.kat_cons (wpAny_eqBool_int (PySem.W.kat_go (λ e=>PySem.W.kat_yes ?_) (λ e=>PySem.W.kat_no ?_)))
      ·rw [if_pos (by simpa using e)] at q;exact iZ r vs us a' c' (i + 1) e1 e2 (λ z=>by simp at z) q
      ·rw [if_neg (by simpa using e)] at q;cases z:(bb && i == 0) with
       | true=>exact oneLt_int q
       | false=>exact PySem.W.kat_one _ _ (PyProof.Rows.lt_int q)
   | _=>cases h2
  | _=>cases h1
 | true :: r,v :: vs,u :: us,a,c,i,h1,h2,hb,q=>by
  cases v with
  | bool p=>cases u with
   | bool p' =>
    have h1:(bZ r vs).map ((if p=true then 1 else 0) :: ·)=some a:=h1;have h2:(bZ r us).map ((if p'=true then 1 else 0) :: ·)=some c:=h2;cases e1:bZ r vs with
    | none=>rw [e1] at h1; cases h1
    | some a' =>
     cases e2:bZ r us with
     | none=>rw [e2] at h2; cases h2
     | some c' =>
      rw [e1] at h1; rw [e2] at h2;cases h1; cases h2;rw [cb] at q;refine PySem.W.kat_cons (jC (PySem.W.kat_go (λ e=>PySem.W.kat_yes ?_) (λ e=>PySem.W.kat_no ?_)))
      ·have e:p=p':=by simpa using e
       rw [if_pos (by rw [e])] at q;exact iZ r vs us a' c' (i + 1) e1 e2 (λ z=>by simp at z) q
      ·have e:p≠p':=by simpa using e
       rw [if_neg (by cases p <;> cases p' <;> simp_all)] at q;cases z:(bb && i == 0) with
       | true=>rcases hb z with z | z <;> cases z
       | false =>
        refine PySem.W.kat_one _ _ (PyProof.Rows.lt_bool ?_);show Q (decide (b2i p < b2i p')) s;rw [show decide (b2i p < b2i p')=decide ((if p=true then (1:Int) else 0) < (if p'=true then 1 else 0)) by cases p <;> cases p' <;> rfl];exact q
   | _=>cases h2
  | _=>cases h1
theorem oO {h:Heap} {sh:List Bool} (h0:sh.head? = some false) (k:∀b o,h.get? b=some o->s.heap.get? b=some o):cw prog w A s (tuples' true) (oN h sh):=by intro E x y a b Q ha hb q;obtain ⟨x',ox,xs,n,rfl,hx,dx,fx⟩:=nv ha;obtain ⟨y',oy,ys,m,rfl,hy,dy,fy⟩:=nv hb;have l1:=eX fx;have l2:=eX fy;refine PySem.W.kat_lt (k _ _ hx) dx (k _ _ hy) dy ?_;rw [show decide (xs.size < ys.size)=false from decide_eq_false (by rw [<- Array.length_toList,<- Array.length_toList]; lia)];exact iZ sh _ _ a b 0 fx fy (λ _=>.inl h0) q
end
theorem iy:∀ {as:List Addr} {its:List JU},Vals (as.map V.ref) its->its=as.map Value.ref
 | [],_,r=>by cases r; rfl
 | a :: as,_,r=>by
  cases r with
  | cons r1 r2 =>
   have e:_=Value.ref a:=r1;subst e;rw [List.map_cons,iy r2]
theorem iA:∀as:List Addr,Vals (as.map V.ref) (as.map Value.ref)
 | []=>.nil
 | a :: as=>.cons rfl (iA as)
theorem qQ {α β:Type} {f:α->β} (g:β->Option α) (hg:∀a,g (f a)=some a) {l:List β} {as:List α} (h:l.Perm (as.map f)):∃as':List α,l=as'.map f/\as'.Perm as:=by
 refine ⟨l.filterMap g,?_,?_⟩
 ·have all:∀x∈l,∃a,f a=x:=λ x hx=>by obtain ⟨a,_,e⟩:=List.mem_map.mp (h.mem_iff.mp hx);exact ⟨a,e⟩
  clear h
  induction l with
  | nil=>rfl
  | cons x r ih =>
   obtain ⟨a,rfl⟩:=all x C0;rw [List.filterMap_cons,hg a,List.map_cons,<- ih λ y hy=>all y (List.mem_cons_of_mem _ hy)]
 ·have:=h.filterMap g;rw [List.filterMap_map,show (g∘f)=some from funext hg,List.filterMap_some] at this;exact this
theorem fU {h:Heap} {sh:List Bool} {key:Addr->List Int} (h0:sh.head? = some false):∀ (as:List Addr),(∀a∈as,∃o us n,h.get? a=some o/\o.cls=.type "tuple" /\ o.data=.seq (List.toArray us) n/\bZ sh us=some (key a))->∃fs,PySem.W.KatTups h (as.map Value.ref) fs/\fs.length=as.length/\∀v∈fs,∃i t,v=Value.int i t
 | [],_=>⟨[],trivial,Y,λ v hv=>by cases hv⟩
 | a :: as,H=>by
  obtain ⟨fs,h1,h2,h3⟩:=fU h0 as λ b hb=>H b (B7 _ hb);obtain ⟨o,us,n,e,c,d,f⟩:=H a C0;obtain ⟨r,hr⟩:∃r,sh=false :: r:=by
   cases sh with
   | nil=>cases h0
   | cons x r=>cases h0; exact ⟨r,Y⟩
  subst hr;cases us with
  | nil=>cases f
  | cons u us =>
   cases u with
   | int i t=>exact ⟨.int i t :: fs,PySem.W.KatTups.cons e c d (by simp) h1,by rw [List.length_cons,List.length_cons,h2],λ v hv=>(List.mem_cons.mp hv).elim (λ z=>⟨i,t,z⟩) (h3 v)⟩
   | _=>cases f
section
variable {X:Cx}
def wM (K:C8) (xs:List V) (H:Hp) (Q:VK):Prop:=∃ (p:Addr) (as:List Addr) (sh:List Bool) (key:Addr->List Int),xs=[.ref p]/\SqL K H p (as.map V.ref)/\as.length < 64/\sh.head? = some false/\(∀a∈as,∃vs,SqT K H a vs/\jB sh vs=some (key a)) /\
 ∀ (l:Addr) (as':List Addr),H l=none->as'.Perm as->(as'.map key).Pairwise (λ x y=>cb y x=false)->Q (.ref l) (upd H l (.lst (as'.map V.ref)))
theorem eY:cG X (.builtin "sorted") (wM X.K):=by
 intro pins s σ H xs us Q I r h;obtain ⟨p,as,sh,key,rfl,hs,h64,h0,hk,q⟩:=h;obtain ⟨u,rfl,rfl⟩:=eC r;obtain ⟨its,rv,pl,_⟩:=I.list hs;have ei:=iy rv;subst ei;have tu:∀a∈as,∃o us n,s.heap.get? a=some o/\o.cls=.type "tuple" /\ o.data=.seq (List.toArray us) n/\bZ sh us=some (key a):=λ a ha=>by obtain ⟨vs,hv,hf⟩:=hk a ha;obtain ⟨us,r,⟨o,e,c,n,d⟩,_⟩:=I.tuple hv;exact ⟨o,us,n,e,c,d,lg r hf⟩
 have kof:∀a∈as,(oN s.heap sh).keyOf (.ref a)=some (key a):=λ a ha=>by
  obtain ⟨o,us,n,e,c,d,f⟩:=tu a ha;show (match s.heap.get? a with
   | some o=>match o.data with
    | .seq xs _=>bZ sh xs.toList
    | _=>none
   | none=>none)=some (key a)
  rw [e];show (match o.data with
    | .seq xs _=>bZ sh xs.toList
    | _=>none)=some (key a)
  rw [d];exact f
 refine tL (κ:=oN s.heap sh) (κ0:=tuples' true) pl.isList ?keys ?kk (by rw [List.length_map]; exact h64) λ st' hp hs'=>?_
 case keys =>
  intro pr hpr;rw [pairsOf_toList] at hpr;obtain ⟨a,ha,e⟩:=List.mem_map.mp (List.of_mem_zip (show (pr.1,pr.2)∈_ from hpr)).1;exact ⟨key a,by rw [<- e]; exact kof a ha⟩
 case kk =>
  intro A' s' k;refine ⟨oO h0 k,λ v1 v2 rest e Q E' q=>?_⟩;obtain ⟨fs,f1,f2,f3⟩:=fU (h:=s'.heap) (key:=key) h0 as λ a ha=>by obtain ⟨o,us,n,e,c,d,f⟩:=tu a ha;exact ⟨o,us,n,k _ _ e,c,d,f⟩
  rw [e] at f1;have:(as.map Value.ref).length=rest.length + 2:=by rw [e]; rfl
  rw [List.length_map] at this;refine PySem.W.kat_kind (T:=.type "int") f1 ⋯ (λ v hv=>?_) rfl q;obtain ⟨i,t,rfl⟩:=f3 v hv;exact PySem.W.Looks.of_pure rfl
 have pz:∀l:List Addr,(l.map Value.ref).zip (l.map Value.ref)=l.map λ a=>(Value.ref a,Value.ref a):=λ l=>by
  induction l with
  | nil=>rfl
  | cons a l ih=>rw [List.map_cons,List.zip_cons_cons,ih,List.map_cons]
 have hp':=Array.perm_iff_toList_perm.mp hp;rw [pairsOf_toList,pz] at hp';obtain ⟨as',ea,pa⟩:=qQ (f:=λ a=>(Value.ref a,Value.ref a)) (λ pr=>match pr.1 with
  | .ref a=>some a
  | _=>none) (λ a=>rfl) hp'
 have eo:((arrOf st').map (·.2)).toList=as'.map Value.ref:=by rw [Array.toList_map,ea,List.map_map]; rfl
 obtain ⟨e,he⟩:=sortedAll_at s.heap (as.map Value.ref) ((arrOf st').map (·.2));have hn:H (s.heap.objs.size + 1)=none:=I.hok.fresh (Nat.le_succ _);refine ⟨.ref (s.heap.objs.size + 1),upd H (s.heap.objs.size + 1) (.lst (as'.map V.ref)),I.laid (o:=.lst (as'.map V.ref)) (t':=s.toks) (λ _ _=>sortedAll_old) (Nat.le_succ _) (show ObjOk _ _ _ _ _ (.lst _) from ⟨?_,((arrOf st').map (·.2)).toList,e,?_,?_⟩),Y,q _ as' hn pa ?_⟩
 ·rw [List.length_map,pa.length_eq];have:(64:Nat)<=sizeLine:=∅
  lia
 ·rw [eo]; exact iA as'
 ·rw [he]
 ·rw [List.pairwise_iff_getElem];intro i j hi hj hij;rw [List.length_map] at hi hj;have sz:(pairsOf (as.map Value.ref)).size=as.length:=by rw [pairsOf_size,List.length_map]
  have kk:∀i (hi:i < as'.length),KK (oN s.heap sh) (arrOf st') i=key as'[i]:=λ i hi=>by
   have e:(arrOf st')[i]? = some (Value.ref as'[i],Value.ref as'[i]):=by rw [<- Array.getElem?_toList,ea,List.getElem?_map,List.getElem?_eq_getElem hi]; rfl
   unfold KK;rw [e];show ((oN s.heap sh).keyOf (.ref as'[i])).getD _=_;rw [kof _ (pa.mem_iff.mp (List.getElem_mem hi))]; rfl
  have:=hs' i j ⋯ (by rw [sz,<- pa.length_eq]; exact hj);rw [kk i hi,kk j hj] at this;rw [List.getElem_map,List.getElem_map];exact this
end
theorem tM {X:Cx} {i j k:Nat} {x y z:Str} {e:Expr} {te:TE} {p1 p2 p3 pos:Pos} (hN:X.N.Nodup) (hi:X.N[i]? = some x) (hj:X.N[j]? = some y) (hk:X.N[k]? = some z) (lx:X.env.scope.names.lookup x=some .local) (ly:X.env.scope.names.lookup y=some .local) (lz:X.env.scope.names.lookup z=some .local) (he:PE X e te)
  (hs:swapsWithSole [.Name x p1,.Name y p2,.Name z p3] e pos.line X.env=pure false:=by rfl) (hw:swappedStores [.Name x p1,.Name y p2,.Name z p3] e X.env=pure none:=by rfl) :
  PS X (.Assign [.Name x p1,.Name y p2,.Name z p3] e pos) (λ D σ H=>te σ H λ v H1=>D.nx (((σ.set i (some v)).set j (some v)).set k (some v)) H1):=by
 intro pins s σ H D I h;refine wpAny_Assign_stores (thn (he pins s σ H _ I h) λ v s1 ⟨u,H1,I1,r1,q1⟩=>?_) hs hw;show wpAny _ _ (do holding [v] (assign (.Name x p1) X.env v); holding [v] (assign (.Name y p2) X.env v); assign (.Name z p3) X.env v) _ _ _;refine A0 (wpAny_holding (wpAny_assign_Name (cQ I1 hN hi (.inl lx) r1 (λ s2 I2=>?_) (.inr lx))));refine A0 (wpAny_holding (wpAny_assign_Name (cQ I2 hN hj (.inl ly) r1 (λ s3 I3=>?_) (.inr ly))));exact wpAny_assign_Name (cQ I3 hN hk (.inl lz) r1 (λ s4 I4=>⟨_,H1,I4,q1⟩) (.inr lz))
theorem b60 {a:Int} (h0:0<=a) (h:a<=10 ^ 60):a.natAbs < 2 ^ 4096:=by
 have e:(10:Int) ^ 60 < 2 ^ 200:=∅
 have e2:(2:Nat) ^ 200<=2 ^ 4096:=Nat.pow_le_pow_right ∅ ∅;have e3:((2:Nat) ^ 200:Int)=2 ^ 200:=∅
 refine C5 ?_ e2;have:(a.natAbs:Int) < ((2 ^ 200:Nat):Int):=by rw [Int.natAbs_of_nonneg h0]; lia
 exact Int.ofNat_lt.mp this
end L2
namespace PySem
theorem Paired.getL {α β:Type} {F:α->β->Prop}:∀ {l₁:List α} {l₂:List β} {i:Nat} {y:β},Paired F l₁ l₂->l₂[i]? = some y->∃x,l₁[i]? = some x/\F x y
 | _,_,_,_,.nil,e=>by simp at e
 | _,_,0,_,.cons h _,e=>by simp at e; subst e; exact ⟨_,Y,h⟩
 | _,_,i + 1,y,.cons _ t,e=>by obtain ⟨x,h1,h2⟩:=Paired.getL (i:=i) t (by simpa using e);exact ⟨x,by simpa using h1,h2⟩
end PySem
namespace L2
open PySem PySem.Spec PyProof.Rows
def Itq (lo:Int) (n:Nat):It:=⟨λ i _=>i < n,λ i H x H'=>H'=H/\x=.int (lo - i),λ i _=>n<=i⟩
theorem jD {P:G8} {w:JT} {K:C8} {tg:Expr} (it:Addr) (lo:Int) (n:Nat):Turn P w K tg (Itq lo n) [it] it (λ i h=>IsRangeIter h it (lo + (i:Nat) * (-1)) ((n:Int) - (i:Nat)) (-1)) where
 mem:=by simp
 obj:=λ i h st b hb=>by
  have e:b=it:=by simpa using hb
  subst e;exact ⟨_,st,λ v z=>by
   have z':Data.fields _=Data.cell v:=z;cases z'⟩
 keep:=λ i h h' st k=>k it (by simp) _ st
 item:=by intro X hP hw hK hc i pins s σ H E I hf st hg;subst hP hw hK;obtain ⟨f0,f1,f2,f3,f4,f5⟩:=hf it (by simp);have W:=Walks.range (prog:=X.prog) (w:=X.w) (I.ok.hd hc) it lo (-1) n;refine W.item i s _ _ hg st λ v h' tk hv st' kk=>?_;obtain ⟨t,rfl⟩:=hv;have I1:Inv X pins σ H { s with heap:=h',toks:=tk }:=I.turned (λ b o hb e=>kk b o (by simpa using hb) e) f0 f1 f3 f4 f5;refine ⟨_, Y, mH (s:={ s with heap:=h', toks:=tk }) (n := "range_iterator") st' rfl rfl ∅ ⟨.int (lo - i), H, I1, ⟨t, ?_⟩, ⟨Y, Y⟩, st', λ b hb=>(hf b hb).1⟩⟩;rw [show lo + (i:Int) * (-1)=lo - i by lia]
 done:=by intro X hP hw hK hc i pins s σ H E I hf st hg;subst hP hw hK;obtain ⟨f0,f1,f2,f3,f4,f5⟩:=hf it (by simp);exact wpAny_pyNext_range_end (I.ok.hd hc) st (by have:n<=i:=hg; lia) λ h' eb=>⟨Y,I.turned (t':=s.toks) (λ b o hb e=>eb b o hb e) f0 f1 f3 f4 f5⟩
 self:=λ _ _ _ _ _ st h=>wpAny_pyIter_rangeiter st h
theorem lh {a b:Int} (h1:0<=a) (h2:a < 2 ^ 62) (h3:-(2 ^ 62)<=b) (h4:b<=a):Builtin.Range.small a b (-1)=true:=by
 unfold Builtin.Range.small;have e:Builtin.Range.rangeSize a b (-1)=a - b:=by
  unfold Builtin.Range.rangeSize;rw [if_neg ∅]
  split
  ·rw [show (a - b - 1) / (-(-1))=a - b - 1 by simp]; lia
  ·lia
 rw [e];simp only [Builtin.Range.rangeFitsLong,Bool.and_eq_true,Bool.or_eq_true,decide_eq_true_eq,beq_iff_eq,show ¬ ((-1:Int) > 0) by decide,if_false];lia
section
variable {X:Cx} {tg:Expr}
def CN (ta:TA):TI:=λ σ H R=>ta σ H λ vs H1=>∃i j:Int,vs=[.int i,.int j,.int (-1)]/\(0<=i/\i < 2 ^ 29/\-1<=j/\j<=i)/\R (Itq i (i - j).toNat) H1
theorem oP {a b c:Expr} {ta:TA} {p pos:Pos} (hg:Gl X "range") (hm:X.mg "range" = none) (ha:PA X [a,b,c] ta) (hs:starEach [a,b,c] X.env=(false,eval a X.env) :: starEach [b,c] X.env:=by rfl) (hs2:(backTo pos (starEach [b,c] X.env)).any (·.1)=false:=by rfl) :
  PI X tg (.Call (.Name "range" p) [a,b,c] [] pos) (CN ta):=by
 intro pins s σ H R I h;refine Call_ (dC I hg hm boot_range (PyProof.Rows.callWith_type1 (thn (ha pos pins s σ H _ I h) λ us s1 ⟨vs,H1,I1,r1,q1⟩=>?_) hs hs2));obtain ⟨i,j,e,⟨q1,q2,q3,q4⟩,q⟩:=q1;subst e;cases r1 with
 | cons r rr =>
  cases rr with
  | cons r' rr =>
   cases rr with
   | cons r'' rr =>
    cases rr;obtain ⟨t,rfl⟩:=r;obtain ⟨t',rfl⟩:=r';obtain ⟨t'',rfl⟩:=r'';refine call_range_3 ∅ ?_ (.inl (PyProof.noPylong_small ⋯));refine wpAny_pyIter_range (IsRange.new ..) (lh q1 ⋯ ⋯ q4) ?_;have I2:Inv X pins σ H1 { s1 with heap:=s1.heap.push { cls:=.type "range", data:=.fields #[.int i t, .int j t', .int (-1) t''] }, toks:=s1.toks }:=I1.kept λ b o e=>B0 _ e;refine ⟨(s1.heap.push { cls:=.type "range", data:=.fields #[.int i t, .int j t', .int (-1) t''] }).objs.size, [(s1.heap.push { cls:=.type "range", data:=.fields #[.int i t, .int j t', .int (-1) t''] }).objs.size], _, _, H1, Y, I2.kept (t':=s1.toks) λ b o e=>B0 _ e, jD _ i (i - j).toNat, ?_, λ b hb=>?_, q⟩
    ·have e1:i + ((0:Nat):Int) * (-1)=i:=by simp
     have e2:(((i - j).toNat:Nat):Int) - ((0:Nat):Int)=Builtin.Range.rangeSize i j (-1):=by
      unfold Builtin.Range.rangeSize;rw [if_neg ∅]
      split
      ·rw [show (i - j - 1) / (-(-1))=i - j - 1 by simp]; lia
      ·lia
     show IsRangeIter _ _ (i + ((0:Nat):Int) * (-1)) ((((i - j).toNat:Nat):Int) - ((0:Nat):Int)) (-1);rw [e1,e2];exact B1 _ rfl
    ·have e:b=(s1.heap.push { cls:=.type "range", data:=.fields #[.int i t, .int j t', .int (-1) t''] }).objs.size:=by simpa using hb
     subst e;exact I2.fpOk (B6 _) (I2.hok.fresh (B6 _))
end
theorem lj {lo:Int} {n:Nat} {g:TG} {tb:TS} {D:Ends} {σ:St} {H:Hp} (Pv:Nat->St->Hp->Prop) (h0:Pv 0 σ H)
  (hs:∀i σ H,i < n->Pv i σ H->g (.int (lo - i)) σ H λ σ2 H2=>tb { D with nx:=Pv (i + 1),ct:=Pv (i + 1),bk:=D.nx } σ2 H2) (hd:∀σ H,Pv n σ H->D.nx σ H) :
  ∃W:Nat->Nat->St->Hp->Prop,(∃m,W 0 m σ H)/\∀i m σ H,W i m σ H ->
   ((Itq lo n).stop i H/\D.nx σ H)\/((Itq lo n).go i H/\∃N:St->Hp->Prop,(∀σ' H',N σ' H'->∃m',m' < m/\W (i + 1) m' σ' H')/\∀x H',(Itq lo n).yld i H x H'->g x σ H' λ σ2 H2=>tb { D with nx:=N,ct:=N,bk:=D.nx } σ2 H2):=by
 refine ⟨λ i m σ H=>m=n - i/\i<=n/\Pv i σ H,⟨n,by simp,G0 _,h0⟩,?_⟩;rintro i m σ H ⟨rfl,hi,p⟩
 by_cases hlt:i < n
 ·refine .inr ⟨hlt,Pv (i + 1),λ σ' H' p'=>⟨n - (i + 1),⋯,Y,hlt,p'⟩,λ x H' y=>?_⟩;obtain ⟨e,y⟩:=y;subst e y;exact hs i σ _ hlt p
 ·have e:i=n:=⋯
  subst e;exact .inl ⟨B6 _,hd σ H p⟩
theorem qR {X:Cx}:OpR X (compareOp .IsNot) (λ x y H Q=>y=.bl true/\∃b,x=.bl b/\Q (.bl (!b)) H):=by
 intro pins s σ H x y v u Q I rx ry h;obtain ⟨rfl,b,rfl,q⟩:=h;cases ry;cases rx;unfold compareOp isSame;cases b
 ·exact A0 (A3 (A3 (aL I q rfl)))
 ·exact A0 (A3 (A3 (aL I q rfl)))
theorem oQ {f:List V->HO} (hf:∀xs ys,f xs=f ys->xs=ys) {l:Addr} {xs:List V} {σ:St} {cap:List Nat} {k:Nat} {g:TG} {tt:TT} {te:TE} {Q:List V->Hp->Prop} {H:Hp} (Pv:Nat->List V->Hp->Prop)
  (hk:∀i zs H',Pv i zs H'->H' l=some (f xs)) (h0:Pv 0 [] H)
  (hz:∀i zs H',i < xs.length->Pv i zs H'->zs.length < sizeLine)
  (ht:∀i x p zs H',xs[i]? = some x->H' p=none->Pv i zs H'->g (.ref p) (bW σ cap k) (upd H' p (.tup [.int i,x])) λ σ2 H2=>leS (bW σ cap k) σ2/\tt σ2 H2 λ ok H3=>if ok=true then te σ2 H3 (λ v H4=>Nx xs.length Pv i (zs ++ [v]) H4) else Nx xs.length Pv i zs H3)
  (hd:∀zs H',Pv xs.length zs H'->zs.length<=sizeLine/\Q zs H'):∃W,(∃m,W 0 m [] H)/\iq σ cap k (Ite f l) g tt te Q W:=by
 refine ⟨λ i m zs H'=>m=xs.length - i/\i<=xs.length/\Pv i zs H',⟨_,Y,G0 _,h0⟩,?_⟩;rintro i m zs H' ⟨rfl,hi,p⟩;have e1:=hk i zs H' p
 by_cases hlt:i < xs.length
 ·have hx:xs[i]? = some xs[i]:=by simp [hlt]
  refine .inr ⟨⟨xs,_,e1,hx⟩,hz i zs H' hlt p,λ v H2 yl=>?_⟩
  ·obtain ⟨q,xs',x,hq,rfl,rfl,e1',ex⟩:=yl;rw [e1] at e1';have e2:=hf _ _ (C1 e1');subst e2;exact ht i x q zs H' ex hq p
 ·have e:i=xs.length:=⋯
  subst e;obtain ⟨a1,a2⟩:=hd zs H' p;exact .inl ⟨⟨xs,e1,B6 _⟩,a1,a2⟩
section
variable {X:Cx}
theorem df (hg:X.A.guards=some []) (hu:X.A.units + 220 < cLine):cG X (.builtin "repr") (λ xs H Q=>∃a d,xs=[.ref a]/\DatV X.K H (.ref a) d/\d.showable=true/\d.hasDict=false/\d.depth<=200/\d.shown.length<=sizeLine/\Q (.str d.shown) H):=by intro pins s σ H xs us Q I r h;obtain ⟨a,d,rfl,hd,h1,h2,h3,h4,q⟩:=h;obtain ⟨u,rfl,rfl⟩:=eC r;obtain ⟨as,ra⟩:=I.reads hd (u:=.ref a) rfl;exact repr_of_reads' ra h1 (λ z=>by rw [h2] at z; cases z) hg ⋯ (λ _ _ e=>e) (λ h' u tk hk=>⟨.str d.shown,H,I.kept hk,⟨_,Y⟩,q⟩) h4
end
theorem iB {l1 l2:Addr} {xs ys:List V} {σ:St} {cap:List Nat} {k:Nat} {g:TG} {tt:TT} {te:TE} {Q:List V->Hp->Prop} {H:Hp} (Pv:Nat->List V->Hp->Prop) (hn:xs.length=ys.length)
  (hk:∀i zs H',Pv i zs H'->H' l1= ~~~xs/\H' l2=↥ys) (h0:Pv 0 [] H)
  (hz:∀i zs H',i < xs.length->Pv i zs H'->zs.length < sizeLine)
  (ht:∀i x y p zs H',xs[i]? = some x->ys[i]? = some y->H' p=none->Pv i zs H'->g (.ref p) (bW σ cap k) (upd H' p (.tup [x,y])) λ σ2 H2=>leS (bW σ cap k) σ2/\tt σ2 H2 λ ok H3=>if ok=true then te σ2 H3 (λ v H4=>Nx xs.length Pv i (zs ++ [v]) H4) else Nx xs.length Pv i zs H3)
  (hd:∀zs H',Pv xs.length zs H'->zs.length<=sizeLine/\Q zs H'):∃W,(∃m,W 0 m [] H)/\iq σ cap k (CK l1 l2) g tt te Q W:=by
 refine ⟨λ i m zs H'=>m=xs.length - i/\i<=xs.length/\Pv i zs H',⟨_,Y,G0 _,h0⟩,?_⟩;rintro i m zs H' ⟨rfl,hi,p⟩;obtain ⟨e1,e2⟩:=hk i zs H' p
 by_cases hlt:i < xs.length
 ·have hx:xs[i]? = some xs[i]:=by simp [hlt]
  have hy:ys[i]? = some (ys[i]'⋯):=by simp [show i < ys.length by lia]
  refine .inr ⟨⟨xs,ys,_,_,e1,e2,hx,hy⟩,hz i zs H' hlt p,λ v H2 yl=>?_⟩
  ·obtain ⟨q,xs',ys',x,y,hq,rfl,rfl,e1',e2',ex,ey⟩:=yl;rw [e1] at e1'; cases e1';rw [e2] at e2'; cases e2';exact ht i x y q zs H' ex ey hq p
 ·have e:i=xs.length:=⋯
  subst e;obtain ⟨a1,a2⟩:=hd zs H' p;exact .inl ⟨⟨xs,ys,e1,e2,.inl (B6 _)⟩,a1,a2⟩
theorem oR {X:Cx} (K:C8) {x y z:Str} {px py pz pos pos2:Pos} {k k2:Nat} (hK:X.K=K) (hc:X.calm=true) (hN:X.N.Nodup) (h0:X.N[0]? = some x) (h1:X.N[1]? = some y) (h2:X.N[2]? = some z) (l0:X.env.scope.names.lookup x=some .local) (l1:X.env.scope.names.lookup y=some .local) (l2:X.env.scope.names.lookup z=some .local) :
  PG X (.Tuple [.Name x px,.Tuple [.Name y py,.Name z pz] k2 pos2] k pos) (gTup K 2 (gCons (bR 0) (gCons (gTup K 2 (gCons (bR 1) (gCons (bR 2) ko))) ko))) :=
 hK ▸ aP hc (ai (ao hN h0 (.inl l0) (.inr l0)) (ai (aP hc (ai (ao hN h1 (.inl l1) (.inr l1)) (ai (ao hN h2 (.inl l2) (.inr l2)) aI))) aI))
def CO (K:C8) (CE:Addr) (tx:TXS) (ts:Addr->TS):TS:=λ D σ H=>tx σ H (λ H1=>D.nx σ H1) (λ c _ H1=>PySem.W.exmOne K c (.ref CE)=some true/\∀ea,H1 ea=none->ts ea D σ H1)
section
variable {X:Cx} {body:List Stmt} {tx:TXS} {ts:Addr->TS} {y:Str} {CE:Addr} {b₀:Stmt} {suite:List Stmt} {np hpos epos pos:Pos}
theorem tN (hst:X.stack=X.env :: X.outer) (hfr:X.env.frame=some X.env.locals) (hex:X.ex=[]) (he:PSx X body tx) (hg:Gl X y) (hm:X.mg y=↑CE)
  (hsu:∀ea,PSs (X.marked ea) (b₀ :: suite) (ts ea)) (hd:(y == ("__debug__" : Str))=false:=by decide) :
  PS X (.Try body [.ExceptHandler (some (.Name y np)) none (b₀ :: suite) hpos] [] [] pos) (CO X.K CE tx ts):=by
 intro pins s σ H D I h;refine wpAny_Try_except (wpAny_mono (he pins s σ H _ _ I h) (λ fl s1 ⟨e1,H1,I1,q1⟩=>?_) λ v s1 hx=>?_)
 ·subst e1;exact wpAny_execs_nil ⟨σ,H1,I1,q1⟩
 obtain ⟨ea,c,H0,H',B,s0,rfl,I0,f,hm1,q⟩:=hx;obtain ⟨a0,fl⟩:=f.fly;rw [hst] at fl;refine oF (by rw [<- hst]; exact I.ok.frames) hfr fl f.ctx λ h4 held4 sm4 q4=>?_;refine wI held4 q4 λ h5 fl5 sm5 q5=>?_;have I5:Inv X pins σ H' { s1 with heap:=h5 }:=f.inv (t:=s1.toks) I0 fl5.1 (sm4.trans sm5);obtain ⟨ob,hob,hobc⟩:=fl5.there;refine wpAny_handleBy_cons (codeAny_handlers_test (dM (X:=X.marked ea) (I5.mark ea) hg hm ?_ hd)) (by intro q; cases q);have LT:PySem.W.Looks (model X.prog X.w) h5 (typeOf (.ref ea)) c:=hobc ▸ (PySem.W.Looks.ld hob).andThen .now;refine (PySem.W.exm_one (M:=model X.prog X.w) I5.kIn LT hm1).here ?_;show codeAny _ _ _ _ _;refine codeAny_handlers_suite ?_;refine iX fl5 q5 λ h6 fl6 sm6 q6=>?_;have I6:Inv X pins σ H' { s1 with heap:=h6 }:=f.inv (t:=s1.toks) I0 fl6.1 ((sm4.trans sm5).trans sm6);refine wpAny_mono (hsu ea pins _ _ _ _ (I6.mark ea) (q ea f.new.2)) (λ fl s8 hq=>?_) λ _ _ z=>E9 z;cases fl with
 | next =>
  obtain ⟨σ',H'',J,q'⟩:=hq;exact ⟨_,_,J.unmark I.ok,q'⟩
 | brk =>
  obtain ⟨σ',H'',J,q'⟩:=hq;exact ⟨_,_,J.unmark I.ok,q'⟩
 | cont =>
  obtain ⟨σ',H'',J,q'⟩:=hq;exact ⟨_,_,J.unmark I.ok,q'⟩
 | ret u =>
  obtain ⟨v,σ',H'',J,r,q'⟩:=hq;exact ⟨_,_,_,J.unmark I.ok,r,q'⟩
end
theorem wN {X:Cx}:OpR X (compareOp .Is) (λ x y H Q=>y=.bl false/\∃b,x=.bl b/\Q (.bl (!b)) H):=by
 intro pins s σ H x y v u Q I rx ry h;obtain ⟨rfl,b,rfl,q⟩:=h;cases ry;cases rx;unfold compareOp isSame;cases b
 ·exact A0 (A3 (A3 (aL I q rfl)))
 ·exact A0 (A3 (A3 (aL I q rfl)))
end L2
namespace Pc
open PySem L2
def top (i:Nat):Stmt:=PySem.Challenge.pw_platecuts_k86_whole_stores_undone.main.body.getD i (.Pass ⟨0,0,0,0⟩)
abbrev CP:Stmt:=top 0
abbrev ja:Stmt:=top 11
abbrev jb:Stmt:=top 12
abbrev tO:Stmt:=top 13
abbrev cL:Stmt:=top 14
abbrev gq:Stmt:=top 19
abbrev dU:Stmt:=top 20
abbrev cM:Stmt:=top 27
abbrev jc:Stmt:=top 28
abbrev gr:Stmt:=top 29
abbrev cx:Stmt:=top 30
abbrev gt:Stmt:=top 31
abbrev dg:Stmt:=top 32
abbrev dW:Stmt:=top 33
abbrev dX:Stmt:=top 35
abbrev dI:Stmt:=top 36
abbrev cT:Stmt:=top 37
abbrev eZ:Stmt:=top 38
abbrev gu:Stmt:=top 44
abbrev gv:Stmt:=top 45
abbrev cU:Stmt:=inClass (top 46) 0
abbrev dh:Stmt:=inClass (top 46) 1
abbrev di:Stmt:=inClass (top 46) 2
abbrev jE:Stmt:=inClass (top 46) 3
abbrev jF:Stmt:=inClass (top 46) 4
abbrev cy:Stmt:=inClass (top 46) 5
abbrev dk:Stmt:=inClass (top 46) 6
abbrev ny:Stmt:=top 48
abbrev tP:Stmt:=top 49
abbrev nA:Stmt:=top 50
abbrev nC:Stmt:=top 51
abbrev nD:Stmt:=top 52
abbrev jd:Stmt:=top 53
abbrev nG:Stmt:=top 54
abbrev je:Stmt:=top 55
abbrev gw:Stmt:=top 56
abbrev gx:Stmt:=top 57
abbrev nH:Stmt:=top 58
abbrev iC:Stmt:=top 59
abbrev jf:Stmt:=top 60
abbrev nI:Stmt:=top 61
abbrev nJ:Stmt:=top 62
abbrev fK:Stmt:=top 63
abbrev dY:Stmt:=top 64
abbrev fb:Stmt:=top 65
abbrev jG:Stmt:=top 66
abbrev cN:Stmt:=top 67
abbrev gT:Stmt:=top 68
section
variable {P:G8} {w:JT} {K:C8} {mg:Str->Option JU} {base:Heap}
structure Blt (mg:Str->Option Value):Prop where
 isi:mg "isinstance" = none
 int:mg "int" = none
 bool:mg "bool" = none
 list:mg "list" = none
 tuple:mg "tuple" = none
 len:mg "len" = none
 range:mg "range" = none
 max:mg "max" = none
 min:mg "min" = none
 abs:mg "abs" = none
 divmod:mg "divmod" = none
 sum:mg "sum" = none
 sorted:mg "sorted" = none
 all:mg "all" = none
 repr:mg "repr" = none
 zip:mg "zip" = none
 enumerate:mg "enumerate" = none
 mostk:∃t,mg "MOST_KINDS" = some (.int 8 t)
 fivek:∃t,mg "THINGS_OF_A_KIND" = some (.int 5 t)
end
theorem CQ {H H':Hp} {p:Addr} (s:Same H H'):But p H H':=λ c o _ e=>s c o e
theorem ff {t u:TS} {D:Ends} {σ:St} {H:Hp} (C:(St->Hp->Prop)->Prop) (h1:∀R:St->Hp->Prop,C R->t { D with nx:=R } σ H) (h2:C (u D)):sK t u D σ H:=h1 _ h2
theorem av {t u:TS} {D:Ends} {σ:St} {H:Hp} (C:(St->Hp->Prop)->Prop) (h1:∀D':Ends,C D'.nx->t D' σ H) (h2:C (u D)):sK t u D σ H:=h1 _ h2
theorem fZ {P:Prop} (h:∀G:Prop,(P->G)->G):P:=h P id
theorem aW {t u:TS} {D:Ends} {σ:St} {H:Hp} (J:St->Hp->Prop) (h1:∀R:St->Hp->Prop,(∀σ' H',J σ' H'->R σ' H')->t { D with nx:=R } σ H) (h2:∀σ' H',J σ' H'->u D σ' H'):sK t u D σ H:=h1 _ h2
section
variable {P:G8} {w:JT} {K:C8} {mg:Str->Option JU} {base:Heap}
theorem tQ:FnScope ["thing","least"] ["thing","least"] (defScope ja):=⟨Y,Y,Y,∅,Y,∅,∅⟩
theorem qS {f:Addr} {fd:I9} (F:Fun K "is_whole" "is_whole" ja f fd) (B:Blt mg):FnOk P w K mg base CX0 1 f fd ["thing","least"] (bY K):=by
 refine F.ok tQ (λ vs H Q E h=>?_) (λ cdv A outer s H vs Q E hr h=>?_)
 ·obtain ⟨x,T,l,rfl,_⟩:=h
  rfl
 obtain ⟨x,T,l,rfl,⟨tn,ty⟩,q⟩:=h;refine ⟨_,ap (ay (cO (aD cK rfl B.isi PyProof.Rows.boot_isinstance (aa (pv 0) (aa (dN (v:=.ty "int") rfl B.int PyProof.Rows.boot_int rfl) ae)))
  (cO (qa (aD cK rfl B.isi PyProof.Rows.boot_isinstance (aa (pv 0) (aa (dN (v:=.ty "bool") rfl B.bool PyProof.Rows.boot_bool rfl) ae))))
  (cW (bI qg (pv 0) (pv 1) (aG _)))))),?_⟩
 refine ⟨_,Y,x,_,_,_,_,Y,ty,Y,tj T tn,_,Y,?_⟩;have tb:=mT ty;refine cP (λ c=>?_) (λ c=>?_)
 ·refine ⟨_,Y,x,_,_,_,_,Y,ty,Y,jw T tn,_,Y,_,Y,?_⟩;refine cP (λ c2=>?_) (λ c2=>?_)
  ·have hT:(T == "int")=true:=by
    have:(T == "bool")=false:=by simpa using c2
    rw [this,Bool.or_false] at c; exact c
   obtain ⟨i,rfl⟩:=wG ty tn hT;exact ⟨_,Y,_,Y,_,_,Y,Y,q⟩
  ·have hT:oB x=true:=by
    rw [<- tb];cases e:(T == "bool") with
    | true=>rfl
    | false=>rw [e] at c2; exact absurd rfl c2
   cases x <;> first | exact q | (exact absurd hT B5)
 ·have hx:aU x l=false:=by
   cases x with
   | int i =>
    exfalso;have ty':=ty;generalize hv:Value.type T=tv at ty';cases ty' with
    | int=>cases hv; exact c rfl
   | _=>rfl
  rw [hx] at q;exact q
theorem tR:FnScope ["thing"] ["thing"] (defScope jb):=⟨Y,Y,Y,∅,Y,∅,∅⟩
theorem qU {f:Addr} {fd:I9} (F:Fun K "is_truth" "is_truth" jb f fd) (B:Blt mg):FnOk P w K mg base CX0 1 f fd ["thing"] (gm K):=by
 refine F.ok tR (λ vs H Q E h=>?_) (λ cdv A outer s H vs Q E hr h=>?_)
 ·obtain ⟨x,T,rfl,_⟩:=h
  rfl
 obtain ⟨x,T,rfl,⟨tn,ty⟩,q⟩:=h;refine ⟨_,ap (ay (aD cK rfl B.isi PyProof.Rows.boot_isinstance (aa (pv 0) (aa (dN (v:=.ty "bool") rfl B.bool PyProof.Rows.boot_bool rfl) ae)))),?_⟩;refine ⟨_,Y,x,_,_,_,_,Y,ty,Y,jw T tn,?_⟩;rw [mT ty];exact q
theorem CT:FnScope ["thing"] ["thing"] (defScope tO):=⟨Y,Y,Y,∅,Y,∅,∅⟩
theorem wO {f:Addr} {fd:I9} (F:Fun K "is_row" "is_row" tO f fd) (B:Blt mg):FnOk P w K mg base CX0 1 f fd ["thing"] (jx K):=by
 refine F.ok CT (λ vs H Q E h=>?_) (λ cdv A outer s H vs Q E hr h=>?_)
 ·obtain ⟨x,T,rfl,_⟩:=h
  rfl
 obtain ⟨x,T,rfl,ty,q⟩:=h;refine ⟨_,ap (ay (aD iV rfl B.isi PyProof.Rows.boot_isinstance (aa (pv 0) (aa (aE (aa (dN (v:=.ty "list") rfl B.list PyProof.Rows.boot_list rfl) (aa (dN (v:=.ty "tuple") rfl B.tuple PyProof.Rows.boot_tuple rfl) ae))) ae)))),?_⟩;refine ⟨_,Y,zS2,λ p hp=>?_⟩;have s1:Same H (upd H p (.tup [.ty "list",.ty "tuple"])):=λ b o e=>by rw [au (ar e hp)]; exact e
 have t2:=Ty.same s1 ty;exact ⟨x,p,_,_,_,_,Y,t2.2,af,Y,tm T ty.1,q _ s1⟩
theorem scIsKind:FnScope ["thing","wide","high","worth","wanted","turns"] ["thing"] (defScope gu):=⟨Y,Y,Y,∅,Y,∅,∅⟩
theorem oS {f:Addr} {fd:I9} (F:Fun K "is_kind" "is_kind" gu f fd) (B:Blt mg) (DW:Dn P w K mg base "is_whole" ["thing","least"] 1 (bY K)) (DT:Dn P w K mg base "is_truth" ["thing"] 1 (gm K)) (DR:Dn P w K mg base "is_row" ["thing"] 1 (jx K)) :
  FnOk P w K mg base CX0 2 f fd ["thing"] (eU K):=by
 refine F.ok scIsKind (λ vs H Q E h=>?_) (λ cdv A outer s H vs Q E hr h=>?_)
 ·obtain ⟨x,T,rfl,_⟩:=h
  rfl
 obtain ⟨x,T,rfl,ty,q⟩:=h;obtain ⟨tk,htk⟩:=B.fivek;have nd:=scIsKind.nd;refine ⟨_,ag (aR (PW.pt (cF (bf (aY (aw DR hr rfl (aa (pv 0) ae)))) (cD (aH gB (aD aV rfl B.len PySem.boot_len (aa (pv 0) ae)) (br (v:=.int 5) rfl htk ⟨tk,Y⟩) (aG _))))) (ap (ay bF)) aF)
  (ag (bg (pv 0) (kR rfl (ai (ao (i:=1) nd rfl (Or.inl rfl)) (ai (ao (i:=2) nd rfl (Or.inl rfl)) (ai (ao (i:=3) nd rfl (Or.inl rfl)) (ai (ao (i:=4) nd rfl (Or.inl rfl)) (ai (ao (i:=5) nd rfl (Or.inl rfl)) aI)))))))
  (ag (aR (PW.pt (cF (bf (aY (aw DW hr rfl (aa (pv 1) (aa ah ae))))) (cD (bf (aY (aw DW hr rfl (aa (pv 2) (aa ah ae)))))))) (ap (ay bF)) aF)
  (ap (ay (cO (aw DW hr rfl (aa (pv 3) (aa ah ae))) (cO (aw DW hr rfl (aa (pv 4) (aa ah ae))) (cW (aw DT hr rfl (aa (pv 5) ae))))))))),?_⟩
 refine ⟨_,Y,x,T,Y,ty,λ H1 s1=>⟨_,Y,?_⟩⟩;rcases q with ⟨n1,n2,q⟩ | ⟨a,xs,rfl,hx,its,q⟩
 ·have e:(T == "list" || T == "tuple")=false:=by simp [n1,n2]
  rw [e];refine aZ (aZ ?_);exact q H1 s1
 ·have e:(T == "list" || T == "tuple")=true:=by
   have t2:=ty.2;generalize hv:Value.type T=tv at t2;generalize hr:V.ref a=rv at t2;cases t2 with
   | lst _=>cases hv; rfl
   | frz _=>cases hv; rfl
   | tup _=>cases hv; rfl
   | dK e=>cases hr; rcases hx with z | z <;> (rw [z] at e; cases e)
   | dT e=>cases hr; rcases hx with z | z <;> (rw [z] at e; cases e)
   | ext e _=>cases hr; rcases hx with z | z <;> (rw [z] at e; cases e)
   | ins=>cases hv
   | _=>cases hr
  rw [e];have sq:SqL K H1 a xs\/SqT K H1 a xs:=by
   rcases hx with z | z
   ·exact .inl (JX (s1 _ _ z))
   ·exact .inr (JW (s1 _ _ z))
  refine aQ ⟨_,rfl,a,xs,rfl,sq,rfl,_,rfl,?_⟩;refine cP (λ c=>?_) (λ c=>?_)
  ·have hl:xs.length≠5:=λ z=>by rw [z] at c; exact absurd c ∅
   have:ir xs=false:=by
    unfold ir
    split
    ·exact absurd rfl hl
    ·rfl
   rw [this] at q;exact q H1 s1
  ·have hl:xs.length=5:=by
    by_cases z:xs.length=5
    ·exact z
    ·exfalso;apply c;have:¬ (V.int (xs.length:Int)=V.int 5):=λ h=>z (by have:=V.int.inj h; lia);rw [decide_eq_false this]; rfl
   obtain ⟨x1,x2,x3,x4,x5,rfl⟩:∃x1 x2 x3 x4 x5,xs=[x1,x2,x3,x4,x5]:=by
    match xs,hl with
    | [a,b,c,d,e],_=>exact ⟨a,b,c,d,e,Y⟩
   obtain ⟨T1,t1⟩:=its x1 (by simp);obtain ⟨T2,t2⟩:=its x2 (by simp);obtain ⟨T3,t3⟩:=its x3 (by simp);obtain ⟨T4,t4⟩:=its x4 (by simp);obtain ⟨T5,t5⟩:=its x5 (by simp);refine ⟨_,Y,a,_,Y,sq,Y,x1,_,Y,x2,_,Y,x3,_,Y,x4,_,Y,x5,_,Y,Y,?_⟩;refine ⟨_,Y,x1,T1,1,Y,Ty.same s1 t1,_,Y,?_⟩;have q':∀b,ir [x1,x2,x3,x4,x5]=b->Q (.bl b) H1:=λ b e=>by rw [<- e]; exact q H1 s1
   have k5:ir [x1,x2,x3,x4,x5]=(aU x1 1 && aU x2 1 && aU x3 0 && aU x4 0 && oB x5):=rfl;cases w1:aU x1 1 with
   | false =>
    refine aZ (aZ ?_);exact q' false (by rw [k5,w1]; rfl)
   | true =>
    refine aQ ⟨_,rfl,x2,T2,1,rfl,Ty.same s1 t2,_,rfl,?_⟩;cases w2:aU x2 1 with
    | false =>
     refine aZ ?_;exact q' false (by rw [k5,w1,w2]; rfl)
    | true =>
     refine aQ ⟨_,rfl,x3,T3,0,rfl,Ty.same s1 t3,_,rfl,?_⟩;cases w3:aU x3 0 with
     | false =>
      refine aQ ?_;exact q' false (by rw [k5,w1,w2,w3]; rfl)
     | true =>
      refine aZ ⟨_,rfl,x4,T4,0,rfl,Ty.same s1 t4,_,rfl,?_⟩;cases w4:aU x4 0 with
      | false =>
       refine aQ ?_;exact q' false (by rw [k5,w1,w2,w3,w4]; rfl)
      | true =>
       refine aZ ⟨_,rfl,x5,T5,rfl,Ty.same s1 t5,?_⟩;exact q' _ (by rw [k5,w1,w2,w3,w4]; rfl)
end
section
variable {P:G8} {w:JT} {K:C8} {mg:Str->Option JU} {base:Heap}
theorem scInit:FnScope ["self","blade","kinds","kind"] ["self","blade","kinds"] (defScope cU):=⟨Y,Y,Y,∅,Y,∅,∅⟩
theorem tS {f C:Addr} {fd:I9} (F:Fun K "__init__" "Shop.__init__" cU f fd) (B:Blt mg) (T:ShopTxt K C) (DW:Dn P w K mg base "is_whole" ["thing","least"] 1 (bY K)) (DR:Dn P w K mg base "is_row" ["thing"] 1 (jx K))
  (DK:Dn P w K mg base "is_kind" ["thing"] 2 (eU K)):FnOk P w K mg base CX0 3 f fd ["self","blade","kinds"] (kT C):=by
 refine F.ok scInit (λ vs H Q E h=>?_) (λ cdv A outer s H vs Q E hr h=>?_)
 ·obtain ⟨x,dx,ks,b,rs,kds,rfl,_⟩:=h
  rfl
 obtain ⟨x,dx,ks,b,rs,kds,rfl,hx,b0,hks,hrs,hgd,n1,n8,q⟩:=h;have hr1:=hr.mono (show 1<=2 by decide);obtain ⟨tk,htk⟩:=B.mostk;have nd:=scInit.nd;have n8':(8:Nat) < sizeLine:=∅
 refine ⟨_,ag (aR (bf (aY (aw DW hr1 rfl (aa (pv 1) (aa ah ae))))) fv aF)
  (ag (aR (PW.pt (cF (bf (aY (aw DR hr1 rfl (aa (pv 2) ae)))) (cD (bf (qh ic ic ah (aD aV rfl B.len PySem.boot_len (aa (pv 2) ae)) (br (v:=.int 8) rfl htk ⟨tk,rfl⟩)))))) fv aF)
  (ag (bM E6 rfl (qw (pv 2)) (ao (i:=3) nd rfl (Or.inl rfl)) (ap (aR (bf (aY (aw DK hr rfl (aa (pv 3) ae)))) fv aF)))
  (ag (dE (pv 0) (pv 1) rfl)
  (ap (dE (pv 0) (bq bO rfl B.tuple PyProof.Rows.boot_tuple (aa (bX (own:=["kind"]) (cs:=[]) (cap:=[]) rfl (qw (pv 2))
   (aS (sc:=defScope cU) (N:=["self","blade","kinds","kind"]) rfl rfl ∅)
   (λ _ _ _ _ _=>ao (i:=0) (by show List.Nodup (["kind"]:List Str); decide +kernel) rfl (Or.inl rfl) (Or.inr rfl)) (λ _ _ _ _ _=>bC)
   (λ _ _ _ _ _=>bq (r:=qy K) bO rfl B.tuple PyProof.Rows.boot_tuple (aa (pv 0) ae))) ae)) rfl))))),?_⟩
 refine ⟨_,Y,.int b,_,0,Y,.int,_,Y,?_⟩;have wb:aU (.int b) 0=true:=B3 b0;rw [wb];refine aQ ?_;have tyk:∃T,Ty K H (.ref ks) T/\(T == "list" || T == "tuple")=true:=by
  rcases hks with e | e
  ·exact ⟨_,.lst e,Y⟩
  ·exact ⟨_,.tup e,Y⟩
 obtain ⟨T0,ty0,te0⟩:=tyk;refine ⟨_,Y,.ref ks,T0,Y,ty0,λ H1 s1=>⟨_,Y,?_⟩⟩;rw [te0];have sq:∀ {H2:Hp},Same H H2->SqL K H2 ks rs\/SqT K H2 ks rs:=λ s2=>by
  rcases hks with z | z
  ·exact .inl (JX (s2 _ _ z))
  ·exact .inr (JW (s2 _ _ z))
 refine aQ ⟨_,rfl,ks,rs,rfl,sq s1,_,_,rfl,rfl,_,rfl,?_⟩;rw [decide_eq_true (show (1:Int)<=(rs.length:Int) by lia)];refine aZ ⟨_,_,rfl,rfl,_,rfl,?_⟩;rw [decide_eq_true (show (rs.length:Int)<=8 by lia)];refine aQ ?_;have xa:=E5 hrs;refine qz (j:=2) (a:=ks) (xs:=rs) rfl (hks.imp (λ z=>s1 _ _ z) λ z=>s1 _ _ z) (λ i σ H2=>∃v,σ=[↑x,⇑b,↑ks,v]/\Same H1 H2) ⟨none,rfl,Same.refl _⟩ (λ i σ H2 _ ⟨_,_,s2⟩ o e=>s2 _ _ e) ?_ ?_
 ·rintro i y σ H2 hi ⟨v,rfl,s2⟩;obtain ⟨k,hk,rk⟩:=JZ hrs hi;refine ⟨_,Y,?_⟩;simp only [sQ,List.append_nil];refine oE ((rk.same s1).same s2) (hgd k (B8 hk)) λ H3 s3=>⟨_,Y,aQ ?_⟩
  exact ⟨_,Y,s2.trans s3⟩
 rintro σ H2 ⟨v,rfl,s12⟩;have s2:Same H H2:=s1.trans s12;refine ⟨_,Y,_,Y,x,C,dx,[],Y,s2 _ _ hx,T.cl,T.nB,(by show 0 < 1000; decide),?_⟩;have k3:∀c o,c≠x->H c=some o->(upd H2 x (.ins C dx (bp "blade_width" (.int b) []))) c=some o:=λ c o n e=>by rw [au n]; exact s2 c o e
 have x3:(upd H2 x (.ins C dx (bp "blade_width" (.int b) []))) x=some (.ins C dx (bp "blade_width" (.int b) [])):=af;generalize upd H2 x (.ins C dx (bp "blade_width" (.int b) []))=H3 at k3 x3 ⊢;have rx:∀c xs,H c=↥xs\/H c= ~~~xs->c≠x:=λ c xs e z=>by subst z;rcases e with e | e <;> (rw [hx] at e; cases e)
 dsimp only [Cy,tCB,vR];refine oC (j:=2) (a:=ks) (xs:=rs) rfl (hks.imp (λ z=>k3 _ _ (rx _ _ (.inl z)) z) λ z=>k3 _ _ (rx _ _ (.inr z)) z) (λ i ys H4=>ys.length=i/\Same H3 H4/\Tups H4 ys (kds.take i)) (λ i ys H4 _ ⟨_,s4,_⟩ o e=>s4 _ _ e) ⟨rfl,Same.refl _,.nil⟩ ?_ ?_
 ·rintro i y ys H4 hi ⟨hy,s4,ty4⟩;have hin:i < rs.length:=(A9.mp hi).1;obtain ⟨k,hk,rk⟩:=JZ hrs hi;have tk1:kds.take (i + 1)=kds.take i ++ [k]:=by rw [List.take_add_one,hk]; rfl
  refine ⟨⋯,leS.set rfl,bD ?_⟩;rcases rk with ⟨a,rfl,h⟩ | ⟨a,rfl,h⟩
  ·have h4:=s4 _ _ (k3 _ _ (rx _ _ (.inr h)) h);exact ⟨_,Y,a,_,Y,.inr ⟨JW h4,Nx.of hin ⟨by rw [List.length_append,hy]; rfl,s4,by rw [tk1]; exact Paired.snoc ty4 ⟨a,Y,h4⟩⟩⟩⟩
  ·have h4:=s4 _ _ (k3 _ _ (rx _ _ (.inl h)) h);refine ⟨_,Y,a,_,Y,.inl ⟨JX h4,λ l hl=>Nx.of hin ⟨by rw [List.length_append,hy]; rfl,λ c o e=>?_,?_⟩⟩⟩
   ·have e4:=s4 c o e;rw [au (ar e4 hl)]; exact e4
   ·rw [tk1];exact Paired.snoc (Tups.keep (λ c xs e=>by rw [au (ar e hl)]; exact e) ty4) ⟨l,rfl,af⟩
 rintro ys H4 ⟨hy,s4,ty4⟩;refine ⟨⋯,λ p hp=>?_⟩;refine ⟨p,ys,Y,.inl ⟨JX af,λ r hr'=>?_⟩⟩;have hpr:r≠p:=λ z=>by rw [z,af] at hr'; cases hr'
 have hr4:H4 r=none:=by rw [au hpr] at hr'; exact hr'
 have x4:=s4 _ _ x3;have xp:x≠p:=ar x4 hp;have xr:x≠r:=ar x4 hr4;refine ⟨_,Y,x,C,dx,_,Y,(by rw [au xr,au xp]; exact x4),T.cl,T.nK,(E1 (bG _ _ _) ∅),?_⟩;rw [xa,List.take_length] at ty4;refine q _ ⟨dx,r,ys,af,by rw [au (Ne.symm xr),af],?_⟩ λ c o n e=>?_
 ·refine Tups.keep (λ c xs e=>?_) ty4;rw [au (λ z=>by rw [z,x4] at e; cases e),au (ar e hr4),au (ar e hp)];exact e
 ·have e4:=s4 _ _ (k3 c o n e);rw [au n,au (ar e4 hr4),au (ar e4 hp)];exact e4
theorem tT:FnScope ["self"] ["self"] (defScope dh):=⟨Y,Y,Y,∅,Y,∅,∅⟩
theorem qV {f C:Addr} {fd:I9} (F:Fun K "blade" "Shop.blade" dh f fd) (T:ShopTxt K C):FnOk P w K mg base CX0 1 f fd ["self"] (gp C):=by
 refine F.ok tT (λ vs H Q E h=>?_) (λ cdv A outer s H vs Q E hr h=>?_)
 ·obtain ⟨x,b,ks,rfl,_⟩:=h
  rfl
 obtain ⟨x,b,ks,rfl,⟨dx,r,rs,h1,h2,h3⟩,q⟩:=h;exact ⟨_,ap (ay (bz (pv 0) rfl)),_,Y,x,C,dx,_,_,Y,h1,T.cl,T.nB,gL _ _,q⟩
theorem tU:FnScope ["self"] ["self"] (defScope di):=⟨Y,Y,Y,∅,Y,∅,∅⟩
theorem qW {f C:Addr} {fd:I9} (F:Fun K "kinds" "Shop.kinds" di f fd) (T:ShopTxt K C) (ml:mg "list" = none):FnOk P w K mg base CX0 1 f fd ["self"] (eV C):=by
 refine F.ok tU (λ vs H Q E h=>?_) (λ cdv A outer s H vs Q E hr h=>?_)
 ·obtain ⟨x,b,ks,rfl,_⟩:=h
  rfl
 obtain ⟨x,b,ks,rfl,⟨dx,r,rs,h1,h2,h3⟩,q⟩:=h;refine ⟨_,ap (ay (bq cX rfl ml PyProof.Rows.boot_list (aa (bz (pv 0) rfl) ae))),?_⟩;exact ⟨_,Y,x,C,dx,_,_,Y,h1,T.cl,T.nK,dR _ _,r,rs,Y,.inr (JW h2),λ l hl=>q l rs hl h3⟩
end
section
variable {P:G8} {w:JT} {K:C8} {mg:Str->Option JU} {base:Heap}
theorem qX:FnScope ["kind"] ["kind"] (defScope gv):=⟨Y,Y,Y,∅,Y,∅,∅⟩
theorem oU {f:Addr} {fd:I9} (F:Fun K "can_lie_turned" "can_lie_turned" gv f fd):FnOk P w K mg base CX0 1 f fd ["kind"] (gO K):=by
 refine F.ok qX (λ vs H Q E h=>?_) (λ cdv A outer s H vs Q E hr h=>?_)
 ·obtain ⟨a,k,rfl,_⟩:=h
  rfl
 obtain ⟨a,k,rfl,ha,q⟩:=h;refine ⟨_,ap (ay (cO (ax ix_tup (pv 0) ah (λ _ _=>rfl)) (cW (bI gB (ax ix_tup (pv 0) ah (λ _ _=>rfl)) (ax ix_tup (pv 0) ah (λ _ _=>rfl)) (aG _))))),?_⟩;refine ⟨_,Y,a,_,4,_,Y,Y,JW ha,Y,_,Y,?_⟩;unfold bo at q;refine cP (λ c=>?_) (λ c=>?_)
 ·rw [c,Bool.true_and] at q;refine ⟨_,Y,a,_,0,_,Y,Y,JW ha,Y,_,Y,a,_,1,_,Y,Y,JW ha,Y,Y,?_⟩;rw [iO];rw [show (decide (k.w=k.h))=(k.w == k.h) from rfl] at q;exact q
 ·have c':k.tu=false:=by simpa using c
  rw [c',Bool.false_and] at q;exact q
theorem oV:FnScope ["self","kind","turned"] ["self","kind","turned"] (defScope cy):=⟨Y,Y,Y,∅,Y,∅,∅⟩
theorem lm {f C:Addr} {fd:I9} (F:Fun K "is_lying" "Shop.is_lying" cy f fd) (B:Blt mg) (T:ShopTxt K C) (DW:Dn P w K mg base "is_whole" ["thing","least"] 1 (bY K)) (DU:Dn P w K mg base "is_truth" ["thing"] 1 (gm K)) (DT:Dn P w K mg base "can_lie_turned" ["kind"] 1 (gO K)) :
  FnOk P w K mg base CX0 2 f fd ["self","kind","turned"] (dS K C):=by
 refine F.ok oV (λ vs H Q E h=>?_) (λ cdv A outer s H vs Q E hr h=>?_)
 ·obtain ⟨s,b,ks,x,t,T0,U,rfl,_⟩:=h
  rfl
 obtain ⟨s,b,ks,x,t,T0,U,rfl,⟨dx,r,rs,h1,h2,h3⟩,tx,tt,q⟩:=h;have xc:=E5 h3;refine ⟨_,ag (aR (PW.pt (cF (bf (aY (aw DW hr rfl (aa (pv 1) (aa ah ae))))) (cF (aH qg (pv 1) (aD aV rfl B.len PySem.boot_len (aa (bz (pv 0) rfl) ae)) (aG _))
   (cD (bf (aY (aw DU hr rfl (aa (pv 2) ae)))))))) (ap (ay bF)) aF)
  (ap (ay (Ck (qa (pv 2)) (cW (aw DT hr rfl (aa (ax ix_tup (bz (pv 0) rfl) (pv 1) (λ _ _=>rfl)) ae)))))),?_⟩
 refine ⟨_,Y,x,_,0,Y,tx,_,Y,?_⟩;cases hw:aU x 0 with
 | false =>
  have e:ej ks x t=false:=by
   cases x with
   | int i =>
    have h0:decide (0<=i)=false:=hw;cases t <;> first | rfl | (show (decide (0<=i) && _)=false; rw [h0,Bool.false_and])
   | _=>rfl
  rw [e] at q;exact aZ (aZ q)
 | true =>
  have ex:∃i,x=.int i/\0<=i:=by
   cases x with
   | int i=>exact ⟨i,Y,C3 hw⟩
   | _=>cases hw
  obtain ⟨i,rfl,i0⟩:=ex;refine aQ ⟨_,rfl,_,rfl,s,C,dx,_,_,rfl,h1,T.cl,T.nK,dR _ _,r,rs,rfl,.inr (JW h2),i,_,rfl,rfl,_,rfl,?_⟩
  by_cases hi:(rs.length:Int)<=i
  ·rw [decide_eq_true hi];have e:ej ks (.int i) t=false:=by have hn:ks[i.toNat]? = none:=E2 ⋯;cases t <;> first | rfl | (show (decide (0<=i) && match ks[i.toNat]? with | some k=>_ | none=>false)=false; rw [hn,Bool.and_false])
   rw [e] at q;exact aZ (aZ q)
  ·rw [decide_eq_false hi];refine aQ ⟨_,rfl,t,_,rfl,tt,_,rfl,?_⟩;have hlt:i.toNat < ks.length:=⋯
   cases hb:oB t with
   | false =>
    have e:ej ks (.int i) t=false:=by cases t <;> first | rfl | cases hb
    rw [e] at q;exact aZ q
   | true =>
    have ex:∃c,t=.bl c:=by cases t <;> first | exact ⟨_,Y⟩ | cases hb
    obtain ⟨c,rfl⟩:=ex;obtain ⟨y,hy⟩:∃y,rs[i.toNat]? = some y:=⟨rs[i.toNat]'⋯,by simp [show i.toNat < rs.length by lia]⟩
    obtain ⟨k,hk,a,rfl,ha⟩:=JZ h3 hy;have e:ej ks (.int i) (.bl c)=(!c || bo k):=by show (decide (0<=i) && match ks[i.toNat]? with | some k=>(!c || bo k) | none=>false)=_;rw [hk,decide_eq_true i0,Bool.true_and]
    rw [e] at q;refine aQ ⟨_,rfl,c,rfl,_,rfl,?_⟩;refine cP (λ d=>?_) (λ d=>?_)
    ·rw [d,Bool.true_or] at q;exact q
    ·have d':(!c)=false:=by simpa using d
     rw [d',Bool.false_or] at q;have at':atI rs i=↑a:=by
      have en:ixN rs.length i=some i.toNat:=by unfold ixN;rw [if_pos i0,if_pos ⋯]
      unfold atI;rw [en];exact hy
     exact ⟨_,Y,s,C,dx,_,_,Y,h1,T.cl,T.nK,dR _ _,_,Y,r,rs,i,_,Y,Y,JW h2,at',a,k,Y,ha,q⟩
end
def qY (k:Kd) (c:Bool):List V:=if c=true then [.int k.h,.int k.w] else [.int k.w,.int k.h]
inductive spSides (K:C8) (C:Addr) (vs:List V) (H:Hp) (Q:VK) (E_:XK):Prop
 | mk (s:Addr) (b:Int) (ks:List Kd) (x t:V) (T U:String) (e_1:vs=[.ref s,x,t]) (e_2:ShopAt C H s b ks) (e_3:Ty K H x T) (e_4:Ty K H t U) (e_5:ej ks x t=true) (e_6:∀ (i:Int) (c:Bool) (k:Kd) (p:Addr),x=.int i->t=.bl c->ks[i.toNat]? = some k->ej ks x t=true->H p=none->Q (.ref p) (upd H p (.tup (qY k c)))):spSides K C vs H Q E_
theorem iD {ks:List Kd} {x t:V} (h:ej ks x t=true):∃ (i:Int) (c:Bool) (k:Kd),x=.int i/\t=.bl c/\0<=i/\ks[i.toNat]? = some k:=by
 unfold ej at h
 split at h
 ·rename_i i c
  rw [Bool.and_eq_true] at h;obtain ⟨h1,h2⟩:=h
  split at h2
  ·rename_i k hk
   exact ⟨i,c,k,Y,Y,C3 h1,hk⟩
  ·cases h2
 ·cases h
theorem wP {rs:List V} {i:Int} {v:V} (i0:0<=i) (h:rs[i.toNat]? = some v):atI rs i=some v:=by
 have en:ixN rs.length i=some i.toNat:=by unfold ixN;have:=(A9.mp h).1;rw [if_pos i0,if_pos ⋯]
 unfold atI;rw [en];exact h
section
variable {P:G8} {w:JT} {K:C8} {mg:Str->Option JU} {base:Heap}
theorem scSides:FnScope ["self","kind","turned","row"] ["self","kind","turned"] (defScope dk):=⟨Y,Y,Y,∅,Y,∅,∅⟩
theorem qZ {f C:Addr} {fd:I9} (F:Fun K "sides" "Shop.sides" dk f fd) (T:ShopTxt K C) (ML:Mn P w K mg base C "is_lying" ["self","kind","turned"] 2 (dS K C)) :
  FnOk P w K mg base CX0 3 f fd ["self","kind","turned"] (spSides K C):=by
 refine F.ok scSides (λ vs H Q E h=>?_) (λ cdv A outer s H vs Q E hr h=>?_)
 ·obtain ⟨s,b,ks,x,t,T0,U,rfl,_⟩:=h
  rfl
 obtain ⟨s,b,ks,x,t,T0,U,rfl,S,tx,tt,he,hq⟩:=h;have nd:=scSides.nd;refine ⟨_,ag (aR (bf (aY (eD (pv 0) T.cl ML hr (aa (pv 1) (aa (pv 2) ae))))) (ap bU) aF)
  (ag (aB (i:=3) nd rfl (Or.inl rfl) (ax ix_tup (bz (pv 0) rfl) (pv 1) (λ _ _=>rfl)))
  (ag (aR (aY (pv 2)) (ap (ay (aE (aa (ax ix_tup (pv 3) ah (λ _ _=>rfl)) (aa (ax ix_tup (pv 3) ah (λ _ _=>rfl)) ae))))) aF)
  (ap (ay (aE (aa (ax ix_tup (pv 3) ah (λ _ _=>rfl)) (aa (ax ix_tup (pv 3) ah (λ _ _=>rfl)) ae))))))),?_⟩
 obtain ⟨dx,r,rs,h1,h2,h3⟩:=id S;refine ⟨_,Y,s,dx,_,Y,h1,cj _ _ ∅ ∅,_,Y,_,Y,s,b,ks,x,t,T0,U,Y,S,tx,tt,_,Y,?_⟩;cases hl:ej ks x t with
 | false=>rw [hl] at he; cases he
 | true =>
  obtain ⟨i,c,k,rfl,rfl,i0,hk⟩:=iD hl;have xc:=E5 h3;have hik:=(A9.mp hk).1;obtain ⟨y,hy⟩:∃y,rs[i.toNat]? = some y:=⟨rs[i.toNat]'⋯,by simp [show i.toNat < rs.length by lia]⟩
  obtain ⟨k',hk',a,rfl,ha⟩:=JZ h3 hy;rw [hk] at hk';obtain rfl:=C1 hk';refine aQ ?_;refine ⟨_,Y,s,C,dx,_,_,Y,h1,T.cl,T.nK,dR _ _,_,Y,r,rs,i,_,Y,Y,JW h2,wP i0 hy,?_⟩;refine ⟨_,Y,_,Y,?_⟩;cases c with
  | true =>
   refine aZ ?_;refine ⟨_,Y,a,_,1,_,Y,Y,JW ha,Y,_,Y,a,_,0,_,Y,Y,JW ha,Y,zS2,λ p hp=>?_⟩;exact hq i true k p rfl rfl hk hl hp
  | false =>
   refine aQ ?_;refine ⟨_,Y,a,_,0,_,Y,Y,JW ha,Y,_,Y,a,_,1,_,Y,Y,JW ha,Y,zS2,λ p hp=>?_⟩;exact hq i false k p rfl rfl hk hl hp
end
mutual
inductive Dt (p:Addr) (H:Hp):V->PyData->Prop
 | non:Dt p H .non .none
 | bl (b:Bool):Dt p H (.bl b) (.bool b)
 | int (i:Int):Dt p H (.int i) (.int i)
 | str (z:Str):Dt p H (.str z) (.str z)
 | lst {a:Addr} {xs:List V} {ds:List PyData}:a≠p->H a=↥xs->Dts p H xs ds->Dt p H (.ref a) (.list ds)
 | tup {a:Addr} {xs:List V} {ds:List PyData}:H a= ~~~xs->Dts p H xs ds->Dt p H (.ref a) (.tuple ds)
 | emp {a:Addr}:H a=some (.dK [])->Dt p H (.ref a) (.dict [])
inductive Dts (p:Addr) (H:Hp):List V->List PyData->Prop
 | nil:Dts p H [] []
 | cons {x:V} {d:PyData} {xs:List V} {ds:List PyData}:Dt p H x d->Dts p H xs ds->Dts p H (x :: xs) (d :: ds)
end
mutual
theorem Dt.same {p:Addr} {H H':Hp} (s:Same H H'):∀ {v:V} {d:PyData},Dt p H v d->Dt p H' v d
 | _,_,.non=>.non
 | _,_,.bl b=>.bl b
 | _,_,.int i=>.int i
 | _,_,.str z=>.str z
 | _,_,.lst n h r=>.lst n (s _ _ h) (r.same s)
 | _,_,.tup h r=>.tup (s _ _ h) (r.same s)
 | _,_,.emp h=>.emp (s _ _ h)
theorem Dts.same {p:Addr} {H H':Hp} (s:Same H H'):∀ {vs:List V} {ds:List PyData},Dts p H vs ds->Dts p H' vs ds
 | _,_,.nil=>.nil
 | _,_,.cons a r=>.cons (a.same s) (r.same s)
end
theorem Dts.length {p:Addr} {H:Hp}:∀ {vs:List V} {ds:List PyData},Dts p H vs ds->vs.length=ds.length
 | _,_,.nil=>rfl
 | _,_,.cons _ r=>by rw [List.length_cons,List.length_cons,r.length]
theorem Dt.ty {K:C8} {p:Addr} {H:Hp} {v:V} {d:PyData} (h:Dt p H v d):∃T,Ty K H v T:=by
 cases h with
 | non=>exact ⟨_,Ty.non⟩
 | bl b=>exact ⟨_,Ty.bl⟩
 | int i=>exact ⟨_,Ty.int⟩
 | str z=>exact ⟨_,Ty.str⟩
 | lst _ h _=>exact ⟨_,Ty.lst h⟩
 | tup h _=>exact ⟨_,Ty.tup h⟩
 | emp h=>exact ⟨_,Ty.dK h⟩
mutual
theorem Dt.but {p:Addr} {H H':Hp} (hp:∃xs,H p=↥xs) (b:But p H H'):∀ {v:V} {d:PyData},Dt p H v d->Dt p H' v d
 | _,_,.non=>.non
 | _,_,.bl b=>.bl b
 | _,_,.int i=>.int i
 | _,_,.str z=>.str z
 | _,_,.lst n h r=>.lst n (b _ _ n h) (r.but hp b)
 | _,_,.tup h r=>.tup (b _ _ (λ z=>by obtain ⟨_,e⟩:=hp; rw [z,e] at h; cases h) h) (r.but hp b)
 | _,_,.emp h=>.emp (b _ _ (λ z=>by obtain ⟨_,e⟩:=hp; rw [z,e] at h; cases h) h)
theorem Dts.but {p:Addr} {H H':Hp} (hp:∃xs,H p=↥xs) (b:But p H H'):∀ {vs:List V} {ds:List PyData},Dts p H vs ds->Dts p H' vs ds
 | _,_,.nil=>.nil
 | _,_,.cons a r=>.cons (a.but hp b) (r.but hp b)
end
mutual
def wt:PyData->Nat
 | .str z=>z.length + 1
 | .list ds=>wts ds + 1
 | .tuple ds=>wts ds + 1
 | _=>1
def wts:List PyData->Nat
 | []=>0
 | d :: r=>wt d + wts r
end
theorem vV (d:PyData):1<=wt d:=by cases d <;> simp only [wt] <;> lia
def be:PyData->Option (List PyData)
 | .list ds=>some ds
 | .tuple ds=>some ds
 | _=>none
theorem rc {d x:PyData} {ds:List PyData} (h:be d=some ds) (hx:x∈ds):sizeOf x < sizeOf d:=by
 have:=List.sizeOf_lt_of_mem hx;cases d <;> simp only [be,Option.some.injEq,reduceCtorEq] at h
 ·subst h; simp; lia
 ·subst h; simp; lia
theorem Dt.row {K:C8} {p:Addr} {H:Hp} {v:V} {d:PyData} (h:Dt p H v d):(be d=none/\∃T,Ty K H v T/\(T == "list" || T == "tuple")=false)\/∃a xs ds T,be d=some ds/\v=.ref a/\(H a=↥xs\/H a= ~~~xs)/\Dts p H xs ds/\Ty K H v T/\(T == "list" || T == "tuple")=true:=by
 cases h with
 | non=>exact .inl ⟨Y,_,Ty.non,Y⟩
 | bl b=>exact .inl ⟨Y,_,Ty.bl,Y⟩
 | int i=>exact .inl ⟨Y,_,Ty.int,Y⟩
 | str z=>exact .inl ⟨Y,_,Ty.str,Y⟩
 | lst _ h r=>exact .inr ⟨_,_,_,_,Y,Y,.inl h,r,Ty.lst h,Y⟩
 | tup h r=>exact .inr ⟨_,_,_,_,Y,Y,.inr h,r,Ty.tup h,Y⟩
 | emp h=>exact .inl ⟨Y,_,Ty.dK h,Y⟩
def bw (d:PyData) (z:Str) (n:Nat):Bool:=match be d with
 | some (.str y :: r)=>decide (r.length + 1=n) && decide (y=z)
 | _=>false
section
variable {P:G8} {w:JT} {K:C8} {mg:Str->Option JU} {base:Heap}
inductive spBegins (vs:List V) (H:Hp) (Q:VK) (E_:XK):Prop
 | mk (pp:Addr) (v:V) (d:PyData) (z:Str) (n:Nat) (e_1:vs=[v,.str z,.int n]) (e_2:1<=n) (e_3:Dt pp H v d) (e_4:∀H',Same H H'->Q (.bl (bw d z n)) H'):spBegins vs H Q E_
theorem scbegins:FnScope ["thing","word","many"] ["thing","word","many"] (defScope cM):=⟨Y,Y,Y,∅,Y,∅,∅⟩
theorem oW {f:Addr} {fd:I9} (F:Fun K "begins_with" "begins_with" cM f fd) (B:Blt mg) (bs:mg "str" = none) (DR:Dn P w K mg base "is_row" ["thing"] 1 (jx K)):FnOk P w K mg base CX0 2 f fd ["thing","word","many"] (spBegins):=by
 refine F.ok scbegins (λ vs H Q E h=>?_) (λ cdv A outer s H vs Q E hr h=>?_)
 ·obtain ⟨pp,v,d,z,n,rfl,_⟩:=h
  rfl
 obtain ⟨pp,v,d,z,n,rfl,n1,hd,q⟩:=h;have nd:=scbegins.nd;refine ⟨_,(((PW.pt (cF (@bf _ _ _ _ (@aY _ _ _ (DR∪((pv 0)^^^ae)) (by intro _; rfl))) (cD ((@aD _ _ _ _ _ _ _ _ _ aV Y B.len PySem.boot_len ((pv 0)^^^ae) ∅ ∅ Y Y)<*>gB<*>(pv 2)))))<|>(bF⁻¹)<|>aF)<<<((cO (@aD _ _ _ _ _ _ _ _ _ cK Y B.isi PyProof.Rows.boot_isinstance (((pv 0)&&&bV&&&ah)^^^((dN (v:=.ty "str") Y bs PyProof.Rows.boot_str Y)^^^ae)) ∅ ∅ Y Y) (cW (@bI _ _ _ _ _ _ _ _ bL ((pv 0)&&&bV&&&ah) (pv 1) (aG _))))⁻¹)),?_⟩;rcases hd.row (K:=K) with ⟨e,T,ty,hT⟩ | ⟨a,xs,ds,T,e,rfl,hx,dx,ty,hT⟩
 ·refine ⟨_,Y,v,T,Y,ty,λ H1 s1=>⟨_,Y,?_⟩⟩;rw [hT];have q1:=q H1 s1;unfold bw at q1;rw [e] at q1;exact aZ (aZ q1)
 refine ⟨_,Y,_,T,Y,ty,λ H1 s1=>⟨_,Y,?_⟩⟩;rw [hT];have sq:SqL K H1 a xs\/SqT K H1 a xs:=hx.imp (λ z=>JX (s1 _ _ z)) λ z=>JW (s1 _ _ z);refine aQ ⟨_,rfl,a,_,rfl,sq,_,rfl,rfl,_,rfl,?_⟩;have q1:=q H1 s1;have len:=dx.length;cases dx with
 | nil =>
  rw [show decide (V.int (([]:List V).length:Int)=V.int (n:Int))=false from decide_eq_false (λ z=>by have:=V.int.inj z; simp at this; lia)];unfold bw at q1;rw [e] at q1;exact aZ q1
 | @cons x d1 xs ds hd1 dr =>
  have a0:atI (x :: xs) 0=some x:=aK (E7 _) rfl;have ixs:∀Q':VK,Q' x H1->rIx K (.ref a) (.int 0) H1 Q':=λ Q' h=>sq.elim (λ z=>.inl ⟨a,_,0,x,Y,Y,z,a0,h⟩) (λ z=>.inr (.inl ⟨a,_,0,x,Y,Y,z,a0,h⟩));rw [List.length_cons,List.length_cons] at len
  by_cases hn:ds.length + 1=n
  ·rw [show decide (V.int ((x :: xs).length:Int)=V.int (n:Int))=true from decide_eq_true (by rw [List.length_cons,len,hn])];refine aQ ⟨_,rfl,ixs _ ?_⟩;cases hd1 with
   | str y =>
    refine ⟨_,_,_,_,_,Y,(Ty.str (K:=K)).2,Y,cZ "str" (by simp [aM]),_,Y,aZ ?_⟩;refine ⟨_,Y,ixs _ ⟨_,Y,Y,?_⟩⟩;unfold bw at q1;rw [e] at q1;simp only [hn,decide_true,Bool.true_and] at q1;rw [show decide (V.str y=V.str z)=decide (y=z) from decide_eq_decide.mpr ⟨V.str.inj,congrArg _⟩];exact q1
   | non=>exact ⟨_,_,_,_,_,Y,(Ty.non (K:=K)).2,Y,cZ "NoneType" (by simp [aM]),_,Y,aQ (by unfold bw at q1; rw [e] at q1; exact q1)⟩
   | bl b=>exact ⟨_,_,_,_,_,Y,(Ty.bl (K:=K)).2,Y,cZ "bool" (by simp [aM]),_,Y,aQ (by unfold bw at q1; rw [e] at q1; exact q1)⟩
   | int i=>exact ⟨_,_,_,_,_,Y,(Ty.int (K:=K)).2,Y,cZ "int" (by simp [aM]),_,Y,aQ (by unfold bw at q1; rw [e] at q1; exact q1)⟩
   | lst _ h r=>exact ⟨_,_,_,_,_,Y,(Ty.lst (s1 _ _ h) (K:=K)).2,Y,cZ "list" (by simp [aM]),_,Y,aQ (by unfold bw at q1; rw [e] at q1; exact q1)⟩
   | tup h r=>exact ⟨_,_,_,_,_,Y,(Ty.tup (s1 _ _ h) (K:=K)).2,Y,cZ "tuple" (by simp [aM]),_,Y,aQ (by unfold bw at q1; rw [e] at q1; exact q1)⟩
   | emp h=>exact ⟨_,_,_,_,_,Y,(Ty.dK (s1 _ _ h) (K:=K)).2,Y,cZ "dict" (by simp [aM]),_,Y,aQ (by unfold bw at q1; rw [e] at q1; exact q1)⟩
  ·rw [show decide (V.int ((x :: xs).length:Int)=V.int (n:Int))=false from decide_eq_false (λ z=>hn (by have:=V.int.inj z; rw [List.length_cons,len] at this; lia))];refine aZ ?_;have z:bw d z n=false:=by unfold bw;rw [e];cases d1 <;> simp [hn]
   rw [z] at q1;exact q1
def sd1 (k:Kd) (c:Bool):Int:=if c=true then k.h else k.w
def sd2 (k:Kd) (c:Bool):Int:=if c=true then k.w else k.h
theorem jH (k:Kd) (c:Bool):qY k c=[.int (sd1 k c),.int (sd2 k c)]:=by cases c <;> rfl
def fM (ks:List Kd) (w h:Int) (kv tv xv yv:V):Bool:=ej ks kv tv && aU xv 0 && aU yv 0 && (match kv,tv,xv,yv with
 | .int i,.bl c,.int x,.int y=>(match ks[i.toNat]? with
  | some k=>decide (x + sd1 k c<=w) && decide (y + sd2 k c<=h)
  | none=>false)
 | _,_,_,_=>false)
inductive spLiesG (K:C8) (C:Addr) (vs:List V) (H:Hp) (Q:VK) (E_:XK):Prop
 | mk (s:Addr) (b:Int) (ks:List Kd) (w h:Int) (kv tv xv yv:V) (T1 T2 T3 T4:String) (e_1:vs=[.ref s,.int w,.int h,kv,tv,xv,yv]) (e_2:ShopAt C H s b ks) (e_3:Ty K H kv T1) (e_4:Ty K H tv T2) (e_5:Ty K H xv T3) (e_6:Ty K H yv T4) (e_7:∀H',Same H H'->Q (.bl (fM ks w h kv tv xv yv)) H'):spLiesG K C vs H Q E_
theorem scliesG:FnScope ["shop","wide","high","kind","turned","x","y","piece_wide","piece_high"] ["shop","wide","high","kind","turned","x","y"] (defScope gq):=⟨Y,Y,Y,∅,Y,∅,∅⟩
theorem rd {f C:Addr} {fd:I9} (F:Fun K "lies_in" "lies_in" gq f fd) (T:ShopTxt K C) (DW:Dn P w K mg base "is_whole" ["thing","least"] 1 (bY K)) (MI:Mn P w K mg base C "is_lying" ["self","kind","turned"] 2 (dS K C)) (MS:Mn P w K mg base C "sides" ["self","kind","turned"] 3 (spSides K C)):FnOk P w K mg base CX0 4 f fd ["shop","wide","high","kind","turned","x","y"] (spLiesG K C):=by
 refine F.ok scliesG (λ vs H Q E h=>?_) (λ cdv A outer s H vs Q E hr h=>?_)
 ·obtain ⟨s,b,ks,w1,h1,kv,tv,xv,yv,T1,T2,T3,T4,rfl,_⟩:=h
  rfl
 obtain ⟨s,b,ks,w1,h1',kv,tv,xv,yv,T1,T2,T3,T4,rfl,S,t1,t2,t3,t4,q⟩:=h;have nd:=scliesG.nd;have hr1:=hr.mono (show 1<=3 by decide);have hr2:=hr.mono (show 2<=3 by decide);refine ⟨_,(((PW.pt (cF (@bf _ _ _ _ (@aY _ _ _ (eD (pv 0) T.cl MI hr2 ((pv 3)^^^((pv 4)^^^ae))) (by intro _; rfl))) (cF (@bf _ _ _ _ (@aY _ _ _ (@aw _ _ _ _ _ _ _ _ _ _ DW hr1 Y ((pv 5)^^^(ah^^^ae)) ∅ Y Y) (by intro _; rfl))) (cD (@bf _ _ _ _ (@aY _ _ _ (@aw _ _ _ _ _ _ _ _ _ _ DW hr1 Y ((pv 6)^^^(ah^^^ae)) ∅ Y Y) (by intro _; rfl)))))))<|>(bF⁻¹)<|>aF)<<<((@bg _ _ _ _ _ _ (eD (pv 0) T.cl MS hr ((pv 3)^^^((pv 4)^^^ae))) (aP Y (7•(8•aI))) Y Y Y)<<<((cO (@bI _ _ _ _ _ _ _ _ ic ((pv 5)|||aN|||(pv 7)) (pv 1) (aG _)) (cW (@bI _ _ _ _ _ _ _ _ ic ((pv 6)|||aN|||(pv 8)) (pv 2) (aG _))))⁻¹))),?_⟩;obtain ⟨dx,r,rs,h1,h2,h3⟩:=id S;refine ⟨_,Y,s,dx,_,Y,h1,(cj _ _ ∅ ∅),_,Y,_,Y,s,b,ks,kv,tv,T1,T2,Y,S,t1,t2,_,Y,?_⟩;cases ly:ej ks kv tv with
 | false =>
  have q1:=q H (Same.refl _);unfold fM at q1;rw [ly] at q1;exact aZ (aZ q1)
 | true =>
 refine aQ ⟨_,rfl,xv,T3,0,rfl,t3,_,rfl,?_⟩;cases hx:aU xv 0 with
 | false =>
  have q1:=q H (Same.refl _);unfold fM at q1;rw [ly,hx] at q1;exact aZ (aZ q1)
 | true =>
 refine aQ ⟨_,rfl,yv,T4,0,rfl,t4,_,rfl,?_⟩;cases hy:aU yv 0 with
 | false =>
  have q1:=q H (Same.refl _);unfold fM at q1;rw [ly,hx,hy] at q1;exact aZ q1
 | true =>
 refine aQ ?_;obtain ⟨i,c,k,rfl,rfl,i0,hk⟩:=iD ly;obtain ⟨x1,rfl⟩:∃i,xv=.int i:=by cases xv <;> first | exact ⟨_,Y⟩ | cases hx
 obtain ⟨y1,rfl⟩:∃i,yv=.int i:=by cases yv <;> first | exact ⟨_,Y⟩ | cases hy
 refine ⟨_,Y,s,dx,_,Y,h1,(cj _ _ ∅ ∅),_,Y,_,Y,s,b,ks,.int i,.bl c,T1,T2,Y,S,t1,t2,ly,λ i' c' k' p e1 e2 hk' _ hp=>?_⟩;cases e1;cases e2;rw [hk] at hk';cases hk';rw [jH];have q1:=q _ (JV hp (o:=.tup [.int (sd1 k c),.int (sd2 k c)]));refine ⟨p,_,Y,JW af,Y,_,_,Y,_,_,Y,Y,?_⟩;refine ⟨_,Y,_,Y,_,_,Y,Y,_,Y,_,_,Y,Y,_,Y,?_⟩;unfold fM at q1;rw [ly,hx,hy] at q1;simp only [hk,Bool.true_and] at q1;refine cP (λ cc=>?_) (λ cc=>?_)
 ·refine ⟨_,Y,_,Y,_,_,Y,Y,_,Y,_,_,Y,Y,?_⟩;rw [cc,Bool.true_and] at q1;exact q1
 ·rw [show decide (x1 + sd1 k c<=w1)=false by simpa using cc,Bool.false_and] at q1;exact q1
end
theorem Dts.one {p:Addr} {H:Hp} {xs:List V} {ds:List PyData} {n:Nat} (h:Dts p H xs ds) (hl:ds.length=n + 1):∃x d xs' ds',xs=x :: xs'/\ds=d :: ds'/\Dt p H x d/\Dts p H xs' ds'/\ds'.length=n:=by
 cases h with
 | nil=>cases hl
 | cons a r=>exact ⟨_,_,_,_,Y,Y,a,r,Nat.succ.inj hl⟩
theorem Dts.zero {p:Addr} {H:Hp} {xs:List V} {ds:List PyData} (h:Dts p H xs ds) (hl:ds.length=0):xs=[]/\ds=[]:=by
 cases h with
 | nil=>exact ⟨Y,Y⟩
 | cons a r=>cases hl
theorem Dts.three {p:Addr} {H:Hp} {xs:List V} {ds:List PyData} (h:Dts p H xs ds) (hl:ds.length=3):∃x1 x2 x3 d1 d2 d3,xs=[x1,x2,x3]/\ds=[d1,d2,d3]/\Dt p H x1 d1/\Dt p H x2 d2/\Dt p H x3 d3:=by obtain ⟨x1,d1,xs,ds,rfl,rfl,h1,h,hl⟩:=h.one hl;obtain ⟨x2,d2,xs,ds,rfl,rfl,h2,h,hl⟩:=h.one hl;obtain ⟨x3,d3,xs,ds,rfl,rfl,h3,h,hl⟩:=h.one hl;obtain ⟨rfl,rfl⟩:=h.zero hl;exact ⟨_,_,_,_,_,_,Y,Y,h1,h2,h3⟩
theorem Dts.four {p:Addr} {H:Hp} {xs:List V} {ds:List PyData} (h:Dts p H xs ds) (hl:ds.length=4):∃x1 x2 x3 x4 d1 d2 d3 d4,xs=[x1,x2,x3,x4]/\ds=[d1,d2,d3,d4]/\Dt p H x1 d1/\Dt p H x2 d2/\Dt p H x3 d3/\Dt p H x4 d4:=by obtain ⟨x1,d1,xs,ds,rfl,rfl,h1,h,hl⟩:=h.one hl;obtain ⟨x2,x3,x4,d2,d3,d4,rfl,rfl,h2,h3,h4⟩:=h.three hl;exact ⟨_,_,_,_,_,_,_,_,Y,Y,h1,h2,h3,h4⟩
section
variable {P:G8} {w:JT} {K:C8} {mg:Str->Option JU} {base:Heap}
structure TrC (K:C8) (mg:Str->Option Value) (wa:Addr):Prop where
 dn:∃t,mg "DOWN" = some (.str "down" t)
 rs:∃t,mg "REST" = some (.str "rest" t)
 pc:∃t,mg "PIECE" = some (.str "piece" t)
 n1:∃t,mg "THINGS_OF_A_REST" = some (.int 1 t)
 n5:∃t,mg "THINGS_OF_A_PIECE" = some (.int 5 t)
 n4:∃t,mg "THINGS_OF_A_CUT" = some (.int 4 t)
 wy:mg "WAYS" = ↑wa
 wq:∀H,SqT K H wa [.str "down",.str "across"]
def tV (b side:Int):PyData->Bool
 | .int p=>decide (1<=p) && decide (p + b < side)
 | _=>false
def eF (b side:Int) (d:PyData):Bool:=match be d with
 | some [_,p,_,_]=>tV b side p
 | _=>false
def isC (b w h:Int) (d:PyData):Bool:=if bw d "down" 4=true then eF b w d else if bw d "across" 4=true then eF b h d else false
def jI (ks:List Kd) (w h:Int):PyData->PyData->PyData->PyData->Bool
 | .int i,.bool c,.int x,.int y=>fM ks w h (.int i) (.bl c) (.int x) (.int y)
 | _,_,_,_=>false
def isL (ks:List Kd) (w h:Int) (d:PyData):Bool:=if bw d "piece" 5=true then (match be d with
 | some [_,k,t,x,y]=>jI ks w h k t x y
 | _=>false) else bw d "rest" 1
inductive spParts2 (vs:List V) (H:Hp) (Q:VK) (E_:XK):Prop
 | mk (b w h p:Int) (t:Addr) (dn:Bool) (e_1:vs=[.int b, .ref t, .str (if dn=true then "down" else "across"), .int p]) (e_2:H t= ~~~[.int w, .int h]) (e_3:∀ (u t1 t2:Addr) (H':Hp), H' u= ~~~[.ref t1, .ref t2]->H' t1= ~~~(if dn=true then [.int p, .int h] else [.int w, .int p])->H' t2= ~~~(if dn=true then [.int (w - p - b), .int h] else [.int w, .int (h - p - b)])->Same H H'->Q (.ref u) H'):spParts2 vs H Q E_
inductive spCut (vs:List V) (H:Hp) (Q:VK) (E_:XK):Prop
 | mk (pp:Addr) (b x y w h:Int) (sp:Addr) (v:V) (d:PyData) (e_1:vs=[.int b,.ref sp]) (e_2:H sp= ~~~[.int x,.int y,.int w,.int h,v]) (e_3:Dt pp H v d) (e_4:∀H',Same H H'->Q (.bl (isC b w h d)) H'):spCut vs H Q E_
inductive spLeaf (C:Addr) (vs:List V) (H:Hp) (Q:VK) (E_:XK):Prop
 | mk (pp:Addr) (b' x y w h:Int) (s sp:Addr) (ks:List Kd) (v:V) (d:PyData) (e_1:vs=[.ref s,.ref sp]) (e_2:ShopAt C H s b' ks) (e_3:H sp= ~~~[.int x,.int y,.int w,.int h,v]) (e_4:Dt pp H v d) (e_5:∀H',Same H H'->Q (.bl (isL ks w h d)) H'):spLeaf C vs H Q E_
inductive spBehind (vs:List V) (H:Hp) (Q:VK) (E_:XK):Prop
 | mk (b x y w h p:Int) (sp a:Addr) (dn:Bool) (l r:V) (e_1:vs=[.int b, .ref sp]) (e_2:H sp= ~~~[.int x, .int y, .int w, .int h, .ref a]) (e_3:(H a=some (.lst [.str (if dn=true then "down" else "across"), .int p, l, r])\/H a=some (.tup [.str (if dn=true then "down" else "across"), .int p, l, r]))) (e_4:∀ (u t1 t2:Addr) (H':Hp), H u=none->H' u=↥[.ref t1, .ref t2]->H' t1= ~~~(if dn=true then [.int x, .int y, .int p, .int h, l] else [.int x, .int y, .int w, .int p, l])->H' t2= ~~~(if dn=true then [.int (x + (p + b)), .int y, .int (w - p - b), .int h, r] else [.int x, .int (y + (p + b)), .int w, .int (h - p - b), r])->Same H H'->Q (.ref u) H'):spBehind vs H Q E_
theorem scparts2:FnScope ["blade","part","way","p","wide","high"] ["blade","part","way","p"] (defScope dU):=⟨Y,Y,Y,∅,Y,∅,∅⟩
theorem oX {f wa:Addr} {fd:I9} (F:Fun K "cut_parts" "cut_parts" dU f fd) (Z:TrC K mg wa):FnOk P w K mg base CX0 1 f fd ["blade","part","way","p"] (spParts2):=by
 refine F.ok scparts2 (λ vs H Q E h=>?_) (λ cdv A outer s H vs Q E hr h=>?_)
 ·obtain ⟨b,w1,h1,p1,t,dn,rfl,_⟩:=h
  rfl
 obtain ⟨b,w1,h1,p1,t,dn,rfl,ht,q⟩:=h;have nd:=scparts2.nd;obtain ⟨tdn,hdn⟩:=Z.dn;obtain ⟨trs,hrs⟩:=Z.rs;obtain ⟨tpc,hpc⟩:=Z.pc;obtain ⟨tn1,hn1⟩:=Z.n1;obtain ⟨tn5,hn5⟩:=Z.n5;obtain ⟨tn4,hn4⟩:=Z.n4;refine ⟨_,((@bg _ _ _ _ _ _ (pv 1) (aP Y (4•(5•aI))) Y Y Y)<<<((((pv 2)<*>bL<*>(br (v:=.str "down") Y hdn ⟨tdn,Y⟩))<|>((@aE _ _ _ _ _ ((@aE _ _ _ _ _ ((pv 3)^^^((pv 5)^^^ae)))^^^((@aE _ _ _ _ _ ((((pv 4)|||bd|||(pv 3))|||bd|||(pv 0))^^^((pv 5)^^^ae)))^^^ae)))⁻¹)<|>aF)<<<((@aE _ _ _ _ _ ((@aE _ _ _ _ _ ((pv 4)^^^((pv 3)^^^ae)))^^^((@aE _ _ _ _ _ ((pv 4)^^^((((pv 5)|||bd|||(pv 3))|||bd|||(pv 0))^^^ae)))^^^ae)))⁻¹))),?_⟩;refine ⟨_,Y,t,_,Y,JW ht,Y,_,_,Y,_,_,Y,Y,?_⟩;cases dn with
 | true =>
  refine ⟨_,Y,Y,_,Y,aZ ?_⟩;refine ⟨_,Y,_,Y,zS2,λ t1 h1'=>?_⟩;have sa:Same H (upd H t1 (.tup [.int p1,.int h1])):=JV h1';have ka:(upd H t1 (.tup [.int p1,.int h1])) t1= ~~~[.int p1,.int h1]:=af;generalize upd H t1 (.tup [.int p1,.int h1])=Ha at sa ka ⊢;refine ⟨_,Y,_,Y,_,_,Y,Y,_,Y,_,_,Y,Y,_,Y,zS2,λ t2 h2'=>?_⟩;have sb:Same Ha (upd Ha t2 (.tup [.int (w1 - p1 - b),.int h1])):=JV h2';have kb:(upd Ha t2 (.tup [.int (w1 - p1 - b),.int h1])) t2= ~~~[.int (w1 - p1 - b),.int h1]:=af;generalize upd Ha t2 (.tup [.int (w1 - p1 - b),.int h1])=Hb at sb kb ⊢;refine ⟨zS2,λ u hu=>?_⟩;have sc:Same Hb (upd Hb u (.tup [.ref t1,.ref t2])):=JV hu;have kc:(upd Hb u (.tup [.ref t1,.ref t2])) u= ~~~[.ref t1,.ref t2]:=af;generalize upd Hb u (.tup [.ref t1,.ref t2])=Hc at sc kc ⊢;exact q u t1 t2 Hc kc (sc _ _ (sb _ _ ka)) (sc _ _ kb) ((sa.trans sb).trans sc)
 | false =>
  refine ⟨_,Y,Y,_,Y,aQ ?_⟩;refine ⟨_,Y,_,Y,zS2,λ t1 h1'=>?_⟩;have sa:Same H (upd H t1 (.tup [.int w1,.int p1])):=JV h1';have ka:(upd H t1 (.tup [.int w1,.int p1])) t1= ~~~[.int w1,.int p1]:=af;generalize upd H t1 (.tup [.int w1,.int p1])=Ha at sa ka ⊢;refine ⟨_,Y,_,Y,_,Y,_,_,Y,Y,_,Y,_,_,Y,Y,zS2,λ t2 h2'=>?_⟩;have sb:Same Ha (upd Ha t2 (.tup [.int w1,.int (h1 - p1 - b)])):=JV h2';have kb:(upd Ha t2 (.tup [.int w1,.int (h1 - p1 - b)])) t2= ~~~[.int w1,.int (h1 - p1 - b)]:=af;generalize upd Ha t2 (.tup [.int w1,.int (h1 - p1 - b)])=Hb at sb kb ⊢;refine ⟨zS2,λ u hu=>?_⟩;have sc:Same Hb (upd Hb u (.tup [.ref t1,.ref t2])):=JV hu;have kc:(upd Hb u (.tup [.ref t1,.ref t2])) u= ~~~[.ref t1,.ref t2]:=af;generalize upd Hb u (.tup [.ref t1,.ref t2])=Hc at sc kc ⊢;exact q u t1 t2 Hc kc (sc _ _ (sb _ _ ka)) (sc _ _ kb) ((sa.trans sb).trans sc)
theorem gU {d:PyData} {z:Str} {n:Nat} (h:bw d z n=true):∃r,be d=some (.str z :: r)/\r.length + 1=n:=by
 unfold bw at h
 split at h
 ·rename_i y r e
  rw [Bool.and_eq_true] at h;have:=C3 h.2;subst this;exact ⟨r,e,C3 h.1⟩
 ·cases h
theorem Dt.ref_row {p:Addr} {H:Hp} {v:V} {d:PyData} {ds:List PyData} (h:Dt p H v d) (e:be d=some ds):∃a xs,v=.ref a/\(H a=↥xs\/H a= ~~~xs)/\Dts p H xs ds:=by
 cases h <;> simp only [be,Option.some.injEq,reduceCtorEq] at e
 ·subst e; exact ⟨_,_,Y,.inl ‹_›,‹_›⟩
 ·subst e; exact ⟨_,_,Y,.inr ‹_›,‹_›⟩
theorem ixR {H H1:Hp} {a:Addr} {xs:List V} (s1:Same H H1) (hx:H a=↥xs\/H a= ~~~xs) {i:Int} {x:V} (e:atI xs i=some x) {Q':VK} (h:Q' x H1):rIx K (.ref a) (.int i) H1 Q' :=
 hx.elim (λ z=>.inl ⟨a,_,i,x,Y,Y,JX (s1 _ _ z),e,h⟩) (λ z=>.inr (.inl ⟨a,_,i,x,Y,Y,JW (s1 _ _ z),e,h⟩))
theorem sccut:FnScope ["blade","spot","tree","way","side"] ["blade","spot"] (defScope jc):=⟨Y,Y,Y,∅,Y,∅,∅⟩
theorem wQ {f wa:Addr} {fd:I9} (F:Fun K "is_cut" "is_cut" jc f fd) (Z:TrC K mg wa) (DB:Dn P w K mg base "begins_with" ["thing","word","many"] 2 spBegins) (DW:Dn P w K mg base "is_whole" ["thing","least"] 1 (bY K)):FnOk P w K mg base CX0 3 f fd ["blade","spot"] (spCut):=by
 refine F.ok sccut (λ vs H Q E h=>?_) (λ cdv A outer s H vs Q E hr h=>?_)
 ·obtain ⟨pp,b,x1,y1,w1,h1,sp,v,d,rfl,_⟩:=h
  rfl
 refine fZ λ G9 k9=>?_;obtain ⟨pp,b,x0',y0',w1,h1,sp,v,d,rfl,hsp,hd,q⟩:=h;refine k9 ?_;have nd:=sccut.nd;obtain ⟨tdn,hdn⟩:=Z.dn;obtain ⟨trs,hrs⟩:=Z.rs;obtain ⟨tpc,hpc⟩:=Z.pc;obtain ⟨tn1,hn1⟩:=Z.n1;obtain ⟨tn5,hn5⟩:=Z.n5;obtain ⟨tn4,hn4⟩:=Z.n4;have hr1:=hr.mono (show 1<=2 by decide);refine ⟨_,((2∣((pv 1)&&&ix_tup&&&ah))<<<((@bM _ _ _ _ _ _ _ _ E6 Y (fB (br (v:=.ref wa) Y Z.wy Y)) (ao (i:=3) nd Y (Or.inl Y)) (@ap _ _ _ ((@aY _ _ _ (DB∪((pv 2)^^^((pv 3)^^^((br (v:=.int 4) Y hn4 ⟨tn4,Y⟩)^^^ae)))) (by intro _; rfl))<|>((4∣(jn ((pv 3)<*>bL<*>(br (v:=.str "down") Y hdn ⟨tdn,Y⟩)) ((pv 1)&&&ix_tup&&&ah) ((pv 1)&&&ix_tup&&&ah)))<<<((cO (@aw _ _ _ _ _ _ _ _ _ _ DW hr1 Y (((pv 2)&&&bV&&&ah)^^^(ah^^^ae)) ∅ Y Y) (cW (@bI _ _ _ _ _ _ _ _ qe (((pv 2)&&&bV&&&ah)|||aN|||(pv 0)) (pv 4) (aG _))))⁻¹))<|>aF)) (by intro _; rfl))<<<(bF⁻¹))),?_⟩;refine ⟨_,Y,sp,_,4,_,Y,Y,JW hsp,Y,?_⟩;refine ⟨wa, Y, ⟨_, Z.wq H⟩, iM (xs:=[.str "down", .str "across"]) (λ i σ H'=>(∃v3 v4, σ=[⇑b, ↑sp, some v, v3, v4])/\Same H H'/\(1<=i->bw d "down" 4=false)/\(2<=i->bw d "across" 4=false)) ⟨⟨_, _, Y⟩, Same.refl _, λ z=>absurd z ∅, λ z=>absurd z ∅⟩ (λ i σ H' _ _=>Z.wq H') ?_ ?_⟩
 ·rintro i y σ H1 hi ⟨⟨v3,v4,rfl⟩,s1,g1,g2⟩
  match i,hi with
  | 0,hi =>
   cases hi;refine ⟨_,Y,_,Y,pp,v,d,"down",4,Y,∅,hd.same s1,λ H2 s12=>⟨_,Y,?_⟩⟩;have s2:=s1.trans s12;refine cP (λ hb=>?_) (λ hb=>⟨⟨_,_,Y⟩,s2,λ _=>by simpa using hb,λ z=>absurd z ∅⟩);obtain ⟨r0,er,rl⟩:=gU hb;obtain ⟨a,xs,rfl,hx,dx⟩:=hd.ref_row er;cases dx with
   | @cons x0 _ xs0 _ hd0 dx =>
   obtain ⟨x1,x2,x3,d1,d2,d3,rfl,rfl,hd1,hd2,hd3⟩:=dx.three (by simpa using rl);have sp2:=s2 _ _ hsp;have co:eF b w1 d=tV b w1 d1:=by unfold eF;rw [er]
   refine ⟨_,Y,Y,_,Y,aZ ⟨_,Y,sp,_,2,_,Y,Y,JW sp2,Y,?_⟩⟩;have at1:atI [x0,x1,x2,x3] 1=some x1:=aK ∅ rfl;obtain ⟨T1,t1⟩:=(hd1.same s2).ty (K:=K);refine ⟨_,Y,ixR s2 hx at1 ⟨x1,T1,1,Y,t1,_,Y,?_⟩⟩;have q1:=q H2 s2;unfold isC at q1;rw [if_pos hb,co] at q1;cases hd1 with
   | int p =>
    have q1:Q (.bl (decide (1<=p) && decide (p + b < w1))) H2:=q1;refine cP (λ cc=>?_) (λ cc=>?_)
    ·have cc:decide (1<=p)=true:=cc;refine ⟨_,Y,ixR s2 hx at1 ⟨_,Y,_,_,Y,Y,_,Y,_,_,Y,Y,?_⟩⟩;rw [cc,Bool.true_and] at q1;exact q1
    ·have cc:¬ decide (1<=p)=true:=cc;rw [show decide (1<=p)=false by simpa using cc,Bool.false_and] at q1;exact q1
   | _=>exact aQ q1
  | 1,hi =>
   cases hi;have hb0:=g1 ∅;refine ⟨_,Y,_,Y,pp,v,d,"across",4,Y,∅,hd.same s1,λ H2 s12=>⟨_,Y,?_⟩⟩;have s2:=s1.trans s12;refine cP (λ hb=>?_) (λ hb=>⟨⟨_,_,Y⟩,s2,λ _=>hb0,λ _=>by simpa using hb⟩);obtain ⟨r0,er,rl⟩:=gU hb;obtain ⟨a,xs,rfl,hx,dx⟩:=hd.ref_row er;cases dx with
   | @cons x0 _ xs0 _ hd0 dx =>
   obtain ⟨x1,x2,x3,d1,d2,d3,rfl,rfl,hd1,hd2,hd3⟩:=dx.three (by simpa using rl);have sp2:=s2 _ _ hsp;have co:eF b h1 d=tV b h1 d1:=by unfold eF;rw [er]
   refine ⟨_,Y,Y,_,Y,aQ ⟨_,Y,sp,_,3,_,Y,Y,JW sp2,Y,?_⟩⟩;have at1:atI [x0,x1,x2,x3] 1=some x1:=aK ∅ rfl;obtain ⟨T1,t1⟩:=(hd1.same s2).ty (K:=K);refine ⟨_,Y,ixR s2 hx at1 ⟨x1,T1,1,Y,t1,_,Y,?_⟩⟩;have q1:=q H2 s2;unfold isC at q1;rw [if_neg (by rw [hb0]; decide),if_pos hb,co] at q1;cases hd1 with
   | int p =>
    have q1:Q (.bl (decide (1<=p) && decide (p + b < h1))) H2:=q1;refine cP (λ cc=>?_) (λ cc=>?_)
    ·have cc:decide (1<=p)=true:=cc;refine ⟨_,Y,ixR s2 hx at1 ⟨_,Y,_,_,Y,Y,_,Y,_,_,Y,Y,?_⟩⟩;rw [cc,Bool.true_and] at q1;exact q1
    ·have cc:¬ decide (1<=p)=true:=cc;rw [show decide (1<=p)=false by simpa using cc,Bool.false_and] at q1;exact q1
   | _=>exact aQ q1
 ·rintro σ H1 ⟨⟨v3,v4,rfl⟩,s1,g1,g2⟩;have q1:=q H1 s1;unfold isC at q1;rw [if_neg (by rw [g1 ∅]; decide),if_neg (by rw [g2 ∅]; decide)] at q1;exact q1
theorem dJ {C:Addr} {H H':Hp} {s:Addr} {b:Int} {ks:List Kd} (k:Same H H') (S:ShopAt C H s b ks):ShopAt C H' s b ks:=S.keep (λ c o e=>k _ _ e) (λ c C' d fs e=>k _ _ e)
theorem scleaf:FnScope ["shop","spot","x","y","wide","high","tree"] ["shop","spot"] (defScope gr):=⟨Y,Y,Y,∅,Y,∅,∅⟩
theorem tW {f wa C:Addr} {fd:I9} (F:Fun K "is_leaf" "is_leaf" gr f fd) (Z:TrC K mg wa) (DB:Dn P w K mg base "begins_with" ["thing","word","many"] 2 spBegins) (DL:Dn P w K mg base "lies_in" ["shop","wide","high","kind","turned","x","y"] 4 (spLiesG K C)):FnOk P w K mg base CX0 5 f fd ["shop","spot"] (spLeaf C):=by
 refine F.ok scleaf (λ vs H Q E h=>?_) (λ cdv A outer s H vs Q E hr h=>?_)
 ·refine fZ λ G9 k9=>?_;obtain ⟨pp,b',x1,y1,w1,h1,s,sp,ks,v,d,rfl,_⟩:=h;refine k9 ?_
  rfl
 refine fZ λ G9 k9=>?_;obtain ⟨pp,b',x0',y0',w1,h1,s,sp,ks,v,d,rfl,S,hsp,hd,q⟩:=h;refine k9 ?_;have nd:=scleaf.nd;obtain ⟨tdn,hdn⟩:=Z.dn;obtain ⟨trs,hrs⟩:=Z.rs;obtain ⟨tpc,hpc⟩:=Z.pc;obtain ⟨tn1,hn1⟩:=Z.n1;obtain ⟨tn5,hn5⟩:=Z.n5;obtain ⟨tn4,hn4⟩:=Z.n4;have hr2:=hr.mono (show 2<=4 by decide);refine ⟨_,((@bg _ _ _ _ _ _ (pv 1) (aP Y (2•(3•(4•(5•(6•aI)))))) Y Y Y)<<<(((@aY _ _ _ (@aw _ _ _ _ _ _ _ _ _ _ DB hr2 Y ((pv 6)^^^((br (v:=.str "piece") Y hpc ⟨tpc,Y⟩)^^^((br (v:=.int 5) Y hn5 ⟨tn5,Y⟩)^^^ae))) ∅ Y Y) (by intro _; rfl))<|>((DL∪((pv 0)^^^((pv 4)^^^((pv 5)^^^(((pv 6)&&&bV&&&ah)^^^(((pv 6)&&&bV&&&ah)^^^(((pv 6)&&&bV&&&ah)^^^(((pv 6)&&&bV&&&ah)^^^ae))))))))⁻¹)<|>aF)<<<((@aw _ _ _ _ _ _ _ _ _ _ DB hr2 Y ((pv 6)^^^((br (v:=.str "rest") Y hrs ⟨trs,Y⟩)^^^((br (v:=.int 1) Y hn1 ⟨tn1,Y⟩)^^^ae))) ∅ Y Y)⁻¹))),?_⟩;refine ⟨_,Y,sp,_,Y,JW hsp,Y,_,_,Y,_,_,Y,_,_,Y,_,_,Y,_,_,Y,Y,?_⟩;refine ⟨_,Y,pp,v,d,"piece",5,Y,∅,hd,λ H1 s1=>⟨_,Y,?_⟩⟩;refine cP (λ hb=>?_) (λ hb=>?_)
 ·obtain ⟨r0,er,rl⟩:=gU hb;obtain ⟨a,xs,rfl,hx,dx⟩:=hd.ref_row er;cases dx with
  | @cons x0 _ xs0 _ hd0 dx =>
  refine fZ λ G9 k9=>?_;obtain ⟨x1,x2,x3,x4,d1,d2,d3,d4,rfl,rfl,hd1,hd2,hd3,hd4⟩:=dx.four (by simpa using rl);refine k9 ?_;have a1:atI [x0,x1,x2,x3,x4] 1=some x1:=aK ∅ rfl;have a2:atI [x0,x1,x2,x3,x4] 2=some x2:=aK ∅ rfl;have a3:atI [x0,x1,x2,x3,x4] 3=some x3:=aK ∅ rfl;have a4:atI [x0,x1,x2,x3,x4] 4=some x4:=aK ∅ rfl;obtain ⟨T1,t1⟩:=(hd1.same s1).ty (K:=K);obtain ⟨T2,t2⟩:=(hd2.same s1).ty (K:=K);obtain ⟨T3,t3⟩:=(hd3.same s1).ty (K:=K);obtain ⟨T4,t4⟩:=(hd4.same s1).ty (K:=K);refine ⟨_,Y,_,Y,_,Y,_,Y,ixR s1 hx a1 ⟨_,Y,ixR s1 hx a2 ⟨_,Y,ixR s1 hx a3 ⟨_,Y,ixR s1 hx a4 ?_⟩⟩⟩⟩;refine ⟨s,b',ks,w1,h1,x1,x2,x3,x4,T1,T2,T3,T4,Y,dJ s1 S,t1,t2,t3,t4,λ H2 s2=>?_⟩;have q1:=q H2 (s1.trans s2);unfold isL at q1;rw [if_pos hb,er] at q1;have e:jI ks w1 h1 d1 d2 d3 d4=fM ks w1 h1 x1 x2 x3 x4:=by
   cases hd1 with
   | int i=>cases hd2 with
    | bl c=>cases hd3 with
     | int x=>cases hd4 with
      | int y=>rfl
      | _=>simp [jI,fM,aU]
     | _=>simp [jI,fM,aU]
    | _=>simp [jI,fM,ej]
   | _=>simp [jI,fM,ej]
  have q1:Q (.bl (jI ks w1 h1 d1 d2 d3 d4)) H2:=q1;rw [e] at q1;exact q1
 ·refine ⟨_,Y,pp,v,d,"rest",1,Y,∅,hd.same s1,λ H2 s2=>?_⟩;have q1:=q H2 (s1.trans s2);unfold isL at q1;rw [if_neg hb] at q1;exact q1
theorem scbehind:FnScope ["blade","spot","x","y","wide","high","tree","way","p","first","second","wide_ahead","high_ahead","wide_behind","high_behind","step","far_x","far_y"] ["blade","spot"] (defScope cx):=⟨Y,Y,Y,∅,Y,∅,∅⟩
theorem oY {f wa:Addr} {fd:I9} (F:Fun K "spots_behind" "spots_behind" cx f fd) (Z:TrC K mg wa) (DP:Dn P w K mg base "cut_parts" ["blade","part","way","p"] 1 spParts2):FnOk P w K mg base CX0 2 f fd ["blade","spot"] (spBehind):=by
 refine F.ok scbehind (λ vs H Q E h=>?_) (λ cdv A outer s H vs Q E hr h=>?_)
 ·refine fZ λ G9 k9=>?_;obtain ⟨b,x1,y1,w1,h1,p1,sp,a,dn,l,r,rfl,_⟩:=h;refine k9 ?_
  rfl
 refine fZ λ G9 k9=>?_;obtain ⟨b,x1,y1,w1,h1,p1,sp,a,dn,l,r,rfl,hsp,ha,q⟩:=h;refine k9 ?_;have nd:=scbehind.nd;obtain ⟨tdn,hdn⟩:=Z.dn;obtain ⟨trs,hrs⟩:=Z.rs;obtain ⟨tpc,hpc⟩:=Z.pc;obtain ⟨tn1,hn1⟩:=Z.n1;obtain ⟨tn5,hn5⟩:=Z.n5;obtain ⟨tn4,hn4⟩:=Z.n4;refine ⟨_,((@bg _ _ _ _ _ _ (pv 1) (aP Y (2•(3•(4•(5•(6•aI)))))) Y Y Y)<<<((@bg _ _ _ _ _ _ (pv 6) (kR Y (7•(8•(9•(10•aI))))) Y Y Y)<<<((@bg _ _ _ _ _ _ (DP∪((pv 0)^^^((@aE _ _ _ _ _ ((pv 4)^^^((pv 5)^^^ae)))^^^((pv 7)^^^((pv 8)^^^ae))))) (aP Y (ai (aP Y (11•(12•aI))) (ai (aP Y (13•(14•aI))) aI))) Y Y Y)<<<((15∣((pv 8)|||aN|||(pv 0)))<<<((@bg _ _ _ _ _ _ (jn ((pv 7)<*>bL<*>(br (v:=.str "down") Y hdn ⟨tdn,Y⟩)) (@aE _ _ _ _ _ (((pv 2)|||aN|||(pv 15))^^^((pv 3)^^^ae))) (@aE _ _ _ _ _ ((pv 2)^^^(((pv 3)|||aN|||(pv 15))^^^ae)))) (aP Y (16•(17•aI))) Y Y Y)<<<((@aO _ _ _ _ ((@aE _ _ _ _ _ ((pv 2)^^^((pv 3)^^^((pv 11)^^^((pv 12)^^^((pv 9)^^^ae))))))^^^((@aE _ _ _ _ _ ((pv 16)^^^((pv 17)^^^((pv 13)^^^((pv 14)^^^((pv 10)^^^ae))))))^^^ae)))⁻¹)))))),?_⟩;refine ⟨_,Y,sp,_,Y,JW hsp,Y,_,_,Y,_,_,Y,_,_,Y,_,_,Y,_,_,Y,Y,?_⟩;have sq:SqL K H a [.str (if dn=true then "down" else "across"),.int p1,l,r]\/SqT K H a [.str (if dn=true then "down" else "across"),.int p1,l,r]:=ha.imp (λ z=>JX z) λ z=>JW z;refine ⟨_,Y,a,_,Y,sq,Y,_,_,Y,_,_,Y,_,_,Y,_,_,Y,Y,?_⟩;clear sq;cases dn with
 | true =>
  refine ⟨_,Y,_,Y,_,Y,zS2,λ tp htp=>?_⟩;have sa:Same H (upd H tp (.tup [.int w1,.int h1])):=JV htp;have ka:(upd H tp (.tup [.int w1,.int h1])) tp= ~~~[.int w1,.int h1]:=af;generalize upd H tp (.tup [.int w1,.int h1])=Ha at sa ka ⊢;refine ⟨_,Y,_,Y,b,w1,h1,p1,tp,true,Y,ka,λ u t1 t2 Hb ku k1 k2 sb=>?_⟩;refine ⟨u,_,Y,JW ku,Y,_,_,Y,t1,_,Y,JW k1,Y,_,_,Y,_,_,Y,Y,_,_,Y,t2,_,Y,JW k2,Y,_,_,Y,_,_,Y,Y,Y,?_⟩;refine aW (λ σ' H'=>σ'=[⇑b, ↑sp, ⇑x1, ⇑y1, ⇑w1, ⇑h1, ↑a, some (.str "down"), ⇑p1, some l, some r, ⇑p1, ⇑h1, ⇑(w1 - p1 - b), ⇑h1, none, none, none]/\Hb=H') (λ R hR=>hR _ _ ⟨rfl, rfl⟩) ?_;rintro _ _ ⟨rfl,rfl⟩;refine ⟨_,Y,_,Y,_,_,Y,Y,?_⟩;refine ⟨_,Y,Y,_,Y,aZ ⟨_,Y,_,Y,_,_,Y,Y,_,Y,zS2,λ tf hf=>?_⟩⟩;have sd:Same Hb (upd Hb tf (.tup [.int (x1 + (p1 + b)),.int y1])):=JV hf;have kd:(upd Hb tf (.tup [.int (x1 + (p1 + b)),.int y1])) tf= ~~~[.int (x1 + (p1 + b)),.int y1]:=af;generalize upd Hb tf (.tup [.int (x1 + (p1 + b)),.int y1])=Hd at sd kd ⊢;refine ⟨tf,_,Y,JW kd,Y,_,_,Y,_,_,Y,Y,?_⟩;refine ⟨_,Y,_,Y,_,Y,_,Y,_,Y,zS5,λ g1 hg1=>?_⟩;have se:Same Hd (upd Hd g1 (.tup [.int x1,.int y1,.int p1,.int h1,l])):=JV hg1;have ke:(upd Hd g1 (.tup [.int x1,.int y1,.int p1,.int h1,l])) g1= ~~~[.int x1,.int y1,.int p1,.int h1,l]:=af;generalize upd Hd g1 (.tup [.int x1,.int y1,.int p1,.int h1,l])=He at se ke ⊢;refine ⟨_,Y,_,Y,_,Y,_,Y,_,Y,zS5,λ g2 hg2=>?_⟩;have sf:Same He (upd He g2 (.tup [.int (x1 + (p1 + b)),.int y1,.int (w1 - p1 - b),.int h1,r])):=JV hg2;have kf:(upd He g2 (.tup [.int (x1 + (p1 + b)),.int y1,.int (w1 - p1 - b),.int h1,r])) g2= ~~~[.int (x1 + (p1 + b)),.int y1,.int (w1 - p1 - b),.int h1,r]:=af;generalize upd He g2 (.tup [.int (x1 + (p1 + b)),.int y1,.int (w1 - p1 - b),.int h1,r])=Hf at sf kf ⊢;refine ⟨zS2,λ lu hlu=>?_⟩;have sg:Same Hf (upd Hf lu (.lst [.ref g1,.ref g2])):=JV hlu;have kg:(upd Hf lu (.lst [.ref g1,.ref g2])) lu=↥[.ref g1,.ref g2]:=af;generalize upd Hf lu (.lst [.ref g1,.ref g2])=Hg at sg kg ⊢;have sA:=((((sa.trans sb).trans sd).trans se).trans sf)
  exact q lu g1 g2 Hg (sA.free hlu) kg (sg _ _ (sf _ _ ke)) (sg _ _ kf) (sA.trans sg)
 | false =>
  refine ⟨_,Y,_,Y,_,Y,zS2,λ tp htp=>?_⟩;have sa:Same H (upd H tp (.tup [.int w1,.int h1])):=JV htp;have ka:(upd H tp (.tup [.int w1,.int h1])) tp= ~~~[.int w1,.int h1]:=af;generalize upd H tp (.tup [.int w1,.int h1])=Ha at sa ka ⊢;refine ⟨_,Y,_,Y,b,w1,h1,p1,tp,false,Y,ka,λ u t1 t2 Hb ku k1 k2 sb=>?_⟩;refine ⟨u,_,Y,JW ku,Y,_,_,Y,t1,_,Y,JW k1,Y,_,_,Y,_,_,Y,Y,_,_,Y,t2,_,Y,JW k2,Y,_,_,Y,_,_,Y,Y,Y,?_⟩;refine aW (λ σ' H'=>σ'=[⇑b, ↑sp, ⇑x1, ⇑y1, ⇑w1, ⇑h1, ↑a, some (.str "across"), ⇑p1, some l, some r, ⇑w1, ⇑p1, ⇑w1, ⇑(h1 - p1 - b), none, none, none]/\Hb=H') (λ R hR=>hR _ _ ⟨rfl, rfl⟩) ?_;rintro _ _ ⟨rfl,rfl⟩;refine ⟨_,Y,_,Y,_,_,Y,Y,?_⟩;refine ⟨_,Y,Y,_,Y,aQ ⟨_,Y,_,Y,_,Y,_,_,Y,Y,zS2,λ tf hf=>?_⟩⟩;have sd:Same Hb (upd Hb tf (.tup [.int x1,.int (y1 + (p1 + b))])):=JV hf;have kd:(upd Hb tf (.tup [.int x1,.int (y1 + (p1 + b))])) tf= ~~~[.int x1,.int (y1 + (p1 + b))]:=af;generalize upd Hb tf (.tup [.int x1,.int (y1 + (p1 + b))])=Hd at sd kd ⊢;refine ⟨tf,_,Y,JW kd,Y,_,_,Y,_,_,Y,Y,?_⟩;refine ⟨_,Y,_,Y,_,Y,_,Y,_,Y,zS5,λ g1 hg1=>?_⟩;have se:Same Hd (upd Hd g1 (.tup [.int x1,.int y1,.int w1,.int p1,l])):=JV hg1;have ke:(upd Hd g1 (.tup [.int x1,.int y1,.int w1,.int p1,l])) g1= ~~~[.int x1,.int y1,.int w1,.int p1,l]:=af;generalize upd Hd g1 (.tup [.int x1,.int y1,.int w1,.int p1,l])=He at se ke ⊢;refine ⟨_,Y,_,Y,_,Y,_,Y,_,Y,zS5,λ g2 hg2=>?_⟩;have sf:Same He (upd He g2 (.tup [.int x1,.int (y1 + (p1 + b)),.int w1,.int (h1 - p1 - b),r])):=JV hg2;have kf:(upd He g2 (.tup [.int x1,.int (y1 + (p1 + b)),.int w1,.int (h1 - p1 - b),r])) g2= ~~~[.int x1,.int (y1 + (p1 + b)),.int w1,.int (h1 - p1 - b),r]:=af;generalize upd He g2 (.tup [.int x1,.int (y1 + (p1 + b)),.int w1,.int (h1 - p1 - b),r])=Hf at sf kf ⊢;refine ⟨zS2,λ lu hlu=>?_⟩;have sg:Same Hf (upd Hf lu (.lst [.ref g1,.ref g2])):=JV hlu;have kg:(upd Hf lu (.lst [.ref g1,.ref g2])) lu=↥[.ref g1,.ref g2]:=af;generalize upd Hf lu (.lst [.ref g1,.ref g2])=Hg at sg kg ⊢;have sA:=((((sa.trans sb).trans sd).trans se).trans sf)
  exact q lu g1 g2 Hg (sA.free hlu) kg (sg _ _ (sf _ _ ke)) (sg _ _ kf) (sA.trans sg)
end
def isT (b:Int) (ks:List Kd) (w h:Int) (d:PyData):Bool :=
 if isC b w h d=true then
  match e:be d with
  | some [_,.int p,l,r]=>if bw d "down" 4=true then isT b ks p h l && isT b ks (w - p - b) h r else isT b ks w p l && isT b ks w (h - p - b) r
  | _=>false
 else isL ks w h d
termination_by sizeOf d
decreasing_by all_goals (apply rc e; simp)
theorem gW {b:Int} {ks:List Kd} {w h:Int} {d:PyData} (hc:isC b w h d=false):isT b ks w h d=isL ks w h d:=by rw [isT,if_neg (by rw [hc]; decide)]
theorem nL {b:Int} {ks:List Kd} {w h:Int} {d:PyData} (hc:isC b w h d=true):∃ (dn:Bool) (p:Int) (l r:PyData),be d=some [.str (if dn=true then "down" else "across"),.int p,l,r]/\1<=p/\(dn=true->p + b < w)/\(dn=false->p + b < h) /\
  isT b ks w h d=(if dn=true then isT b ks p h l && isT b ks (w - p - b) h r else isT b ks w p l && isT b ks w (h - p - b) r):=by
 have key:∀side,eF b side d=true->∃x p l r,be d=some [x,.int p,l,r]/\1<=p/\p + b < side:=λ side h=>by
  unfold eF at h
  split at h
  ·rename_i x p l r e
   unfold tV at h
   split at h
   ·rename_i p'
    rw [Bool.and_eq_true] at h;exact ⟨x,p',l,r,e,C3 h.1,C3 h.2⟩
   ·cases h
  ·cases h
 have hc':=hc;unfold isC at hc
 by_cases hb:bw d "down" 4=true
 ·rw [if_pos hb] at hc;obtain ⟨x,p,l,r,e,p1,p2⟩:=key _ hc;obtain ⟨r',e',_⟩:=gU hb;rw [e] at e';cases e';refine ⟨true,p,l,r,e,p1,λ _=>p2,λ z=>(by cases z),?_⟩;rw [isT,if_pos hc']
  split
  ·rename_i y p' l' r' e2
   rw [e] at e2;cases e2;rw [if_pos hb]; rfl
  ·rename_i z
   exact absurd e (z _ _ _ _)
 ·rw [if_neg hb] at hc
  by_cases hb2:bw d "across" 4=true
  ·rw [if_pos hb2] at hc;obtain ⟨x,p,l,r,e,p1,p2⟩:=key _ hc;obtain ⟨r',e',_⟩:=gU hb2;rw [e] at e';cases e';refine ⟨false,p,l,r,e,p1,λ z=>(by cases z),λ _=>p2,?_⟩;rw [isT,if_pos hc']
   split
   ·rename_i y p' l' r' e2
    rw [e] at e2;cases e2;rw [if_neg hb]; rfl
   ·rename_i z
    exact absurd e (z _ _ _ _)
  ·rw [if_neg hb2] at hc;cases hc
structure Spot where
 x:Int
 y:Int
 w:Int
 h:Int
 d:PyData
def SpAt (p:Addr) (H0 H:Hp) (v:V) (t:Spot):Prop:=∃a u,v=.ref a/\H a= ~~~[.int t.x,.int t.y,.int t.w,.int t.h,u]/\Dt p H0 u t.d
theorem SpAt.keep {p:Addr} {H0 H H':Hp} (k:∀a xs,H a= ~~~xs->H' a= ~~~xs) {v:V} {t:Spot} (h:SpAt p H0 H v t):SpAt p H0 H' v t:=by obtain ⟨a,u,e,h1,h2⟩:=h;exact ⟨a,u,e,k _ _ h1,h2⟩
def fN (ts:List Spot):Nat:=(ts.map λ t=>wt t.d).sum
theorem dL (a b:List Spot):fN (a ++ b)=fN a + fN b:=by unfold fN; rw [List.map_append,List.sum_append]
theorem jJ:∀ts:List Spot,ts.length<=fN ts
 | []=>B6 _
 | t :: r=>by have:=jJ r;have:=vV t.d;show r.length + 1<=wt t.d + fN r;lia
theorem oZ {d x y l r:PyData} (h:be d=some [x,y,l,r]):wt l + wt r < wt d:=by
 cases d <;> simp only [be,Option.some.injEq,reduceCtorEq] at h
 ·subst h; simp only [wt,wts]; lia
 ·subst h; simp only [wt,wts]; lia
theorem nM {α β:Type} {R:α->β->Prop} {x:α}:∀ {xs:List α} {zs:List β},Paired R (xs ++ [x]) zs->∃ys y,zs=ys ++ [y]/\Paired R xs ys/\R x y
 | [],zs,h=>by
  cases h with
  | cons a t=>cases t; exact ⟨[],_,Y,.nil,a⟩
 | z :: xs,zs,h=>by
  cases h with
  | cons a t =>
   obtain ⟨ys,y,rfl,p,r⟩:=nM t;exact ⟨_ :: ys,y,Y,.cons a p,r⟩
theorem fg {α β:Type} {R:α->β->Prop}:∀ {xs:List α} {ys:List β} {xs':List α} {ys':List β},Paired R xs ys->Paired R xs' ys'->Paired R (xs ++ xs') (ys ++ ys')
 | _,_,_,_,.nil,h=>h
 | _,_,_,_,.cons a t,h=>.cons a (fg t h)
section
variable {P:G8} {w:JT} {K:C8} {mg:Str->Option JU} {base:Heap}
inductive spCP (vs:List V) (H:Hp) (Q:VK) (E_:XK):Prop
 | mk (w h:Int) (e_1:vs=[.int w,.int h]) (e_2:1<=w) (e_3:1<=h) (e_4:Q .non H):spCP vs H Q E_
inductive spIsTree (C:Addr) (vs:List V) (H:Hp) (Q:VK) (E_:XK):Prop
 | mk (pp s:Addr) (b w h:Int) (ks:List Kd) (v:V) (d:PyData) (e_1:vs=[.ref s,.int w,.int h,v]) (e_2:ShopAt C H s b ks) (e_3:1<=w) (e_4:1<=h) (e_5:Dt pp H v d) (e_6:wt d<=30000) (e_7:∀H',Same H H'->Q (.bl (isT b ks w h d)) H'):spIsTree C vs H Q E_
theorem sccplate:FnScope ["wide","high"] ["wide","high"] (defScope cL):=⟨Y,Y,Y,∅,Y,∅,∅⟩
theorem pf {f:Addr} {fd:I9} (F:Fun K "check_plate" "check_plate" cL f fd) (DW:Dn P w K mg base "is_whole" ["thing","least"] 1 (bY K)):FnOk P w K mg base CX0 2 f fd ["wide","high"] (spCP):=by
 refine F.ok sccplate (λ vs H Q E h=>?_) (λ cdv A outer s H vs Q E hr h=>?_)
 ·obtain ⟨w1,h1,rfl,_⟩:=h
  rfl
 obtain ⟨w1,h1,rfl,w0,h0,q⟩:=h;have nd:=sccplate.nd;refine ⟨_,(@ap _ _ _ ((PW.pt (cF (@bf _ _ _ _ (@aY _ _ _ (DW∪((pv 0)^^^(ah^^^ae))) (by intro _; rfl))) (cD (@bf _ _ _ _ (@aY _ _ _ (DW∪((pv 1)^^^(ah^^^ae))) (by intro _; rfl))))))<|>(@ap _ _ _ bU)<|>aF)),?_⟩;refine ⟨_,Y,.int w1,"int",1,Y,Ty.int,_,Y,?_⟩;rw [show aU (.int w1) 1=true from decide_eq_true w0];refine aQ ⟨_,rfl,.int h1,"int",1,rfl,Ty.int,_,rfl,?_⟩;rw [show aU (.int h1) 1=true from decide_eq_true h0];exact aQ q
theorem scistree:FnScope ["shop","wide","high","thing","blade","waiting","spot"] ["shop","wide","high","thing"] (defScope gt):=⟨Y,Y,Y,∅,Y,∅,∅⟩
theorem pi {f C:Addr} {fd:I9} (F:Fun K "is_tree" "is_tree" gt f fd) (T:ShopTxt K C) (MB:Mn P w K mg base C "blade" ["self"] 1 (gp C)) (DCP:Dn P w K mg base "check_plate" ["wide","high"] 2 (spCP)) (DC:Dn P w K mg base "is_cut" ["blade","spot"] 3 (spCut)) (DF:Dn P w K mg base "is_leaf" ["shop","spot"] 5 (spLeaf C)) (DS:Dn P w K mg base "spots_behind" ["blade","spot"] 2 (spBehind)):FnOk P w K mg base CX0 6 f fd ["shop","wide","high","thing"] (spIsTree C):=by
 refine F.ok scistree (λ vs H Q E h=>?_) (λ cdv A outer s H vs Q E hr h=>?_)
 ·obtain ⟨pp,s,b,w1,h1,ks,v,d,rfl,_⟩:=h
  rfl
 obtain ⟨pp,s,b,w1,h1,ks,v,d,rfl,S,w0,h0,hd,dz,q⟩:=h;have nd:=scistree.nd;have hr1:=hr.mono (show 1<=5 by decide);have hr2:=hr.mono (show 2<=5 by decide);have hr3:=hr.mono (show 3<=5 by decide);refine ⟨_,((@bc _ _ _ _ (@aw _ _ _ _ _ _ _ _ _ _ DCP hr2 Y ((pv 1)^^^((pv 2)^^^ae)) ∅ Y Y) Y)<<<((4∣(bQ (pv 0) T.cl MB hr1))<<<((5∣(@aO _ _ _ _ ((@aE _ _ _ _ _ (ah^^^(ah^^^((pv 1)^^^((pv 2)^^^((pv 3)^^^ae))))))^^^ae)))<<<((jo E6 (gD (pv 5) (λ _=>Y)) ((6∣(kM G6 PySem.F.slot_list_pop PySem.F.type_list_pop kO (pv 5)))>>>((@aY _ _ _ (@aw _ _ _ _ _ _ _ _ _ _ DC hr3 Y ((pv 4)^^^((pv 6)^^^ae)) ∅ Y Y) (by intro _; rfl))<|>(@ap _ _ _ (@bc _ _ _ _ (@dA _ _ _ _ _ _ _ _ _ _ _ _ G6 PySem.F.slot_list_extend PySem.F.type_list_extend io (pv 5) ((@aw _ _ _ _ _ _ _ _ _ _ DS hr2 Y ((pv 4)^^^((pv 6)^^^ae)) ∅ Y Y)^^^ae) Y Y Y Y Y) Y))<|>(@ap _ _ _ ((@bf _ _ _ _ (@aY _ _ _ (DF∪((pv 0)^^^((pv 6)^^^ae))) (by intro _; rfl)))<|>(bF⁻¹)<|>aF)))))<<<(bF⁻¹))))),?_⟩;have sz:(40000:Nat)<=sizeLine:=∅
 refine ⟨_,Y,_,Y,w1,h1,Y,w0,h0,?_⟩;obtain ⟨dx,r,rs,S1,S2,S3⟩:=id S;refine ⟨_,Y,s,dx,_,Y,S1,(cj _ _ ∅ ∅),s,b,ks,Y,S,?_⟩;refine ⟨_,Y,_,Y,_,Y,zS5,λ t ht=>?_⟩;have sa:Same H (upd H t (.tup [.int 0,.int 0,.int w1,.int h1,v])):=JV ht;have ka:(upd H t (.tup [.int 0,.int 0,.int w1,.int h1,v])) t= ~~~[.int 0,.int 0,.int w1,.int h1,v]:=af;generalize upd H t (.tup [.int 0,.int 0,.int w1,.int h1,v])=Ha at sa ka ⊢;refine ⟨zS1,λ wl hwl=>?_⟩;have sb:Same Ha (upd Ha wl (.lst [.ref t])):=JV hwl;have kb:(upd Ha wl (.lst [.ref t])) wl=↥[.ref t]:=af;generalize upd Ha wl (.lst [.ref t])=Hb at sb kb ⊢;have fw:H wl=none:=sa.free hwl;have sab:=sa.trans sb;refine ⟨λ m σ H'=>∃ (vs:List V) (ts:List Spot) (v6:Option V),σ=[↑s,⇑w1,⇑h1,some v,⇑b,↑wl,v6]/\m=fN ts/\H' wl=↥vs/\Paired (SpAt pp H H') vs ts/\fN ts<=30000/\isT b ks w1 h1 d=ts.all (λ t=>isT b ks t.w t.h t.d)/\Same H H',⟨_,[.ref t],[⟨0,0,w1,h1,d⟩],none,Y,Y,kb,.cons ⟨t,v,Y,sb _ _ ka,hd⟩ .nil,by show wt d + 0<=30000; lia,by rw [List.all_cons,List.all_nil,Bool.and_true],sab⟩,?_⟩;rintro m σ H1 ⟨vs,ts,v6,rfl,rfl,hw,pr,sz1,al,s1⟩;refine ⟨_,Y,_,.inl ⟨vs,JX hw,Y⟩,?_⟩;rcases List.eq_nil_or_concat vs with rfl | ⟨vs',v0,rfl⟩
 ·have ets:ts=[]:=by
   have:=E5 pr;cases ts with
   | nil=>rfl
   | cons _ _=>simp at this
  subst ets;have q1:=q H1 s1;rw [al] at q1;exact aQ q1
 rw [List.concat_eq_append] at pr hw ⊢;obtain ⟨ts',t0,rfl,prp,⟨sp,u,rfl,hsp,hdu⟩⟩:=nM pr;rw [show (!(vs' ++ [V.ref sp]).isEmpty)=true by cases vs' <;> rfl];have ssz:fN (ts' ++ [t0])=fN ts' + wt t0.d:=by rw [dL]; show _ + (wt t0.d + 0)=_; lia
 rw [ssz] at sz1 ⊢;refine aZ ⟨λ σ' H'=>∃ (vs:List V) (ts:List Spot) (v6:Option V),σ'=[↑s,⇑w1,⇑h1,some v,⇑b,↑wl,v6]/\fN ts < fN ts' + wt t0.d/\H' wl=↥vs/\Paired (SpAt pp H H') vs ts/\fN ts<=30000/\isT b ks w1 h1 d=ts.all (λ t=>isT b ks t.w t.h t.d)/\Same H H',λ σ' H' ⟨vs,ts,v6,e,l,r⟩=>⟨_,l,vs,ts,v6,e,rfl,r⟩,?_⟩;rw [List.all_append,List.all_cons,List.all_nil,Bool.and_true] at al;have ml:(vs' ++ [V.ref sp]).length=vs'.length + 1:=by rw [List.length_append]; rfl
 have keep:∀ {Hx:Hp} {o:HO},Same H Hx->Same H (upd Hx wl o):=λ {Hx o} sx c oo e=>by rw [au (λ z=>by rw [z,fw] at e; cases e)];exact sx _ _ e
 refine av (λ R=>∀ (H':Hp),H' wl=↥vs'->Paired (SpAt pp H H') vs' ts'->H' sp= ~~~[.int t0.x,.int t0.y,.int t0.w,.int t0.h,u]->Same H H'->R [↑s,⇑w1,⇑h1,some v,⇑b,↑wl,↑sp] H') (λ Dd hR=>?_) ?_
 ·refine ⟨_,Y,.inl ⟨Y,_,JX hw⟩,wl,_,.ref sp,Y,Y,hw,(by rw [ml]; simp),?_⟩;rw [List.dropLast_concat];have kt:∀ {c:Addr} {xs:List V},H1 c= ~~~xs->(upd H1 wl (.lst vs')) c= ~~~xs:=λ {c xs} e=>by rw [au (λ z=>by rw [z,hw] at e; cases e)]; exact e
  exact hR _ af (JY prp λ v t h=>h.keep λ a xs e=>kt e) (kt hsp) (keep s1)
 rintro H2 hw2 pr2 hsp2 s2;refine ⟨_,Y,_,Y,pp,b,t0.x,t0.y,t0.w,t0.h,sp,u,t0.d,Y,hsp2,hdu.same s2,λ H3 s3=>⟨_,Y,?_⟩⟩;have s03:=s2.trans s3;refine cP (λ hc=>?_) (λ hc=>?_)
 ·obtain ⟨dn,p,l,r,er,p1,pw,ph,eT⟩:=nL (ks:=ks) hc;obtain ⟨a,xs,rfl,hx,dxs⟩:=hdu.ref_row er;cases dxs with
  | @cons x0 _ xs0 _ hd0 dxs =>
  cases dxs with
  | @cons x1 _ xs1 _ hd1 dxs =>
  cases dxs with
  | @cons lv _ xs2 _ hdl dxs =>
  cases dxs with
  | @cons rv _ xs3 _ hdr dxs =>
  cases dxs;cases hd0;cases hd1;refine ⟨_,Y,.inl ⟨Y,_,JX (s3 _ _ hw2)⟩,_,Y,_,Y,?_⟩;refine ⟨b,t0.x,t0.y,t0.w,t0.h,p,sp,a,dn,lv,rv,Y,s3 _ _ hsp2,hx.imp (s03 _ _) (s03 _ _),λ lu t1 t2 H4 hlu ku k1 k2 s4=>?_⟩;have hw4:=s4 _ _ (s3 _ _ hw2);have pl:=E5 pr2;have sl:=jJ ts';have two:=oZ er;refine ⟨wl,lu,_,_,Y,Y,hw4,ku,by show _ + 2<=_; lia,?_⟩;have kt:∀ {c:Addr} {xs:List V},H4 c= ~~~xs->(upd H4 wl (.lst (vs' ++ [.ref t1,.ref t2]))) c= ~~~xs:=λ {c xs} e=>by rw [au (λ z=>by rw [z,hw4] at e; cases e)]; exact e
  have pr4:Paired (SpAt pp H (upd H4 wl (.lst (vs' ++ [.ref t1,.ref t2])))) vs' ts':=JY pr2 λ v t h=>h.keep λ a xs e=>kt (s4 _ _ (s3 _ _ e));cases dn with
  | true =>
   have k1:H4 t1= ~~~[.int t0.x,.int t0.y,.int p,.int t0.h,lv]:=k1;have k2:H4 t2= ~~~[.int (t0.x + (p + b)),.int t0.y,.int (t0.w - p - b),.int t0.h,rv]:=k2;refine ⟨vs' ++ [.ref t1,.ref t2],ts' ++ [⟨t0.x,t0.y,p,t0.h,l⟩,⟨t0.x + (p + b),t0.y,t0.w - p - b,t0.h,r⟩],_,Y,?_,af,fg pr4 (.cons ⟨t1,lv,Y,kt k1,hdl⟩ (.cons ⟨t2,rv,Y,kt k2,hdr⟩ .nil)),?_,?_,keep (s03.trans s4)⟩
   ·rw [dL]; show _ + (wt l + (wt r + 0)) < _; lia
   ·rw [dL]; show _ + (wt l + (wt r + 0))<=_; lia
   ·rw [al,eT,List.all_append];simp only [if_true,List.all_cons,List.all_nil,Bool.and_true]
  | false =>
   have k1:H4 t1= ~~~[.int t0.x,.int t0.y,.int t0.w,.int p,lv]:=k1;have k2:H4 t2= ~~~[.int t0.x,.int (t0.y + (p + b)),.int t0.w,.int (t0.h - p - b),rv]:=k2;refine ⟨vs' ++ [.ref t1,.ref t2],ts' ++ [⟨t0.x,t0.y,t0.w,p,l⟩,⟨t0.x,t0.y + (p + b),t0.w,t0.h - p - b,r⟩],_,Y,?_,af,fg pr4 (.cons ⟨t1,lv,Y,kt k1,hdl⟩ (.cons ⟨t2,rv,Y,kt k2,hdr⟩ .nil)),?_,?_,keep (s03.trans s4)⟩
   ·rw [dL]; show _ + (wt l + (wt r + 0)) < _; lia
   ·rw [dL]; show _ + (wt l + (wt r + 0))<=_; lia
   ·rw [al,eT,List.all_append];simp only [Bool.false_eq_true,if_false,List.all_cons,List.all_nil,Bool.and_true]
 ·have hc:isC b t0.w t0.h t0.d=false:=by simpa using hc
  have lf:=gW (ks:=ks) hc;refine ⟨_,Y,_,Y,pp,b,t0.x,t0.y,t0.w,t0.h,s,sp,ks,u,t0.d,Y,dJ s03 S,s3 _ _ hsp2,hdu.same s03,λ H4 s4=>⟨_,Y,?_⟩⟩;have s04:=s03.trans s4;have sp0:=vV t0.d;cases hl:isL ks t0.w t0.h t0.d with
  | true =>
   rw [lf,hl,Bool.and_true] at al;exact aQ ⟨vs',ts',_,rfl,⋯,s4 _ _ (s3 _ _ hw2),JY pr2 λ v t h=>h.keep λ a xs e=>s4 _ _ (s3 _ _ e),⋯,al,s04⟩
  | false =>
   rw [lf,hl,Bool.and_false] at al;have q1:=q H4 s04;rw [al] at q1;exact aZ q1
end
def nN (k:Kd):List Bool:=if bo k=true then [false,true] else [false]
inductive Tr where
 | rest
 | piece (i:Nat) (c:Bool) (x y:Int)
 | cut (dn:Bool) (p:Int) (l r:Tr)
def toD:Tr->PyData
 | .rest=>.tuple [.str "rest"]
 | .piece i c x y=>.tuple [.str "piece",.int i,.bool c,.int x,.int y]
 | .cut dn p l r=>.tuple [.str (if dn=true then "down" else "across"),.int p,toD l,toD r]
def lvN:Tr->Nat
 | .cut _ _ l r=>lvN l + lvN r
 | _=>1
theorem GA:∀t:Tr,1<=(toD t).depth
 | .rest=>∅
 | .piece .. => by show 1<=PyData.depthAll _ + 1; lia
 | .cut .. => by show 1<=PyData.depthAll _ + 1; lia
def TrV (H:Hp):Tr->V->Prop
 | .rest,v=>∃a,v=.ref a/\H a=some (.tup [.str "rest"])
 | .piece i c x y,v=>∃a,v=.ref a/\H a=some (.tup [.str "piece",.int i,.bl c,.int x,.int y])
 | .cut dn p l r,v=>∃a x y,v=.ref a/\H a=some (.tup [.str (if dn=true then "down" else "across"),.int p,x,y])/\TrV H l x/\TrV H r y
theorem TrV.keep {H H':Hp} (k:∀a xs,H a= ~~~xs->H' a= ~~~xs):∀ (t:Tr) {v:V},TrV H t v->TrV H' t v
 | .rest,_,⟨a,e,h⟩=>⟨a,e,k _ _ h⟩
 | .piece ..,_,⟨a,e,h⟩=>⟨a,e,k _ _ h⟩
 | .cut _ _ l r,_,⟨a,x,y,e,h,h1,h2⟩=>⟨a,x,y,e,k _ _ h,TrV.keep k l h1,TrV.keep k r h2⟩
theorem TrV.dt {p:Addr} {H:Hp}:∀ (t:Tr) {v:V},TrV H t v->Dt p H v (toD t)
 | .rest,_,⟨a,e,h⟩=>by subst e; exact .tup h (.cons (.str _) .nil)
 | .piece ..,_,⟨a,e,h⟩=>by subst e; exact .tup h (.cons (.str _) (.cons (.int _) (.cons (.bl _) (.cons (.int _) (.cons (.int _) .nil)))))
 | .cut _ _ l r,_,⟨a,x,y,e,h,h1,h2⟩=>by subst e; exact .tup h (.cons (.str _) (.cons (.int _) (.cons (TrV.dt l h1) (.cons (TrV.dt r h2) .nil))))
def okT (b:Int) (ks:List Kd):Int->Int->Tr->Prop
 | _,_,.rest=>True
 | w,h,.piece i c x y=>∃k,ks[i]? = some k/\c∈nN k/\0<=x/\0<=y/\x + sd1 k c<=w/\y + sd2 k c<=h
 | w,h,.cut dn p l r=>1<=p/\(if dn=true then p + b < w/\okT b ks p h l/\okT b ks (w - p - b) h r else p + b < h/\okT b ks w p l/\okT b ks w (h - p - b) r)
theorem nO {ks:List Kd} {i:Nat} {c:Bool} {k:Kd} (hk:ks[i]? = some k) (hc:c∈nN k):ej ks (.int i) (.bl c)=true:=by
 unfold ej;simp only [Int.toNat_natCast,hk];rw [decide_eq_true (show (0:Int)<=i by lia),Bool.true_and];cases c with
 | false=>rfl
 | true =>
  unfold nN at hc;cases t:bo k with
  | true=>rfl
  | false=>rw [t] at hc; simp at hc
def But2 (p q:Addr) (H H':Hp):Prop:=∀c o,c≠p->c≠q->H c=some o->H' c=some o
theorem But2.trans {p q:Addr} {H H' H'':Hp} (a:But2 p q H H') (b:But2 p q H' H''):But2 p q H H'':=λ c o n1 n2 e=>b c o n1 n2 (a c o n1 n2 e)
theorem But2.but {p q:Addr} {H H':Hp} (a:But p H H'):But2 p q H H':=λ c o n1 _ e=>a c o n1 e
theorem fV {d:PyData} {y:Str} {r:List PyData} (e:be d=some (.str y :: r)) (z:Str) (n:Nat):bw d z n=(decide (r.length + 1=n) && decide (y=z)):=by unfold bw;rw [e]
def pcD (ks:List Kd) (w h:Int):List PyData->Bool
 | [k,t,x,y]=>jI ks w h k t x y
 | _=>false
theorem iE {b:Int} {ks:List Kd} {w h:Int} {d:PyData} {y:Str} {r:List PyData} (e:be d=some (.str y :: r)) (h1:(decide (y = "down"))=false) (h2:(decide (y = "across"))=false):isT b ks w h d=(if decide (y = "rest")=true then decide (r.length + 1=1) else if decide (y = "piece")=true then pcD ks w h r else false):=by
 have hc:isC b w h d=false:=by
  unfold isC;rw [fV e,fV e,h1,h2];simp only [Bool.and_false]
  rfl
 rw [gW hc];unfold isL;rw [fV e,fV e,e]
 by_cases hr:y = "rest"
 ·subst hr;rw [show decide ((Str.ofString "rest")=(Str.ofString "piece"))=false by decide +kernel,Bool.and_false,if_neg Bool.false_ne_true,decide_eq_true (rfl:(Str.ofString "rest")=Str.ofString "rest"),if_pos rfl,Bool.and_true]
 ·rw [decide_eq_false hr,if_neg Bool.false_ne_true]
  by_cases hp:y = "piece"
  ·subst hp;rw [decide_eq_true (rfl:(Str.ofString "piece")=Str.ofString "piece"),Bool.and_true,if_pos (rfl:true=true),Bool.and_false]
   match r with
   | []=>rfl
   | [_]=>rfl
   | [_,_]=>rfl
   | [_,_,_]=>rfl
   | [_,_,_,_]=>rfl
   | _ :: _ :: _ :: _ :: _ :: r=>simp [pcD]
  ·rw [decide_eq_false hp,Bool.and_false,Bool.and_false,if_neg Bool.false_ne_true,if_neg Bool.false_ne_true]
theorem nP {b:Int} {ks:List Kd} {w h:Int} {d:PyData} {dn:Bool} {r:List PyData} (e:be d=some (.str (if dn=true then "down" else "across") :: r)):isT b ks w h d=(match r with
  | [.int p,l,r']=>decide (1<=p) && (if dn=true then decide (p + b < w) && (isT b ks p h l && isT b ks (w - p - b) h r') else decide (p + b < h) && (isT b ks w p l && isT b ks w (h - p - b) r'))
  | _=>false):=by
 have leafF:isC b w h d=false->isT b ks w h d=false:=λ hc=>by
  rw [gW hc];unfold isL;rw [fV e,fV e];cases dn
  ·rw [show decide ((if false=true then (Str.ofString "down") else Str.ofString "across")=Str.ofString "piece")=false by decide +kernel,show decide ((if false=true then (Str.ofString "down") else Str.ofString "across")=Str.ofString "rest")=false by decide +kernel,Bool.and_false,Bool.and_false,if_neg Bool.false_ne_true]
  ·rw [show decide ((if true=true then (Str.ofString "down") else Str.ofString "across")=Str.ofString "piece")=false by decide +kernel,show decide ((if true=true then (Str.ofString "down") else Str.ofString "across")=Str.ofString "rest")=false by decide +kernel,Bool.and_false,Bool.and_false,if_neg Bool.false_ne_true]
 cases hc:isC b w h d with
 | false =>
  rw [leafF hc]
  split
  ·rename_i p l r' e
   unfold isC at hc;rw [fV e,fV e] at hc;cases dn
   ·rw [show decide ((if false=true then (Str.ofString "down") else Str.ofString "across")=Str.ofString "down")=false by decide +kernel,show decide ((if false=true then (Str.ofString "down") else Str.ofString "across")=Str.ofString "across")=true by decide +kernel] at hc;unfold eF at hc;rw [e] at hc;have hc:(decide (1<=p) && decide (p + b < h))=false:=hc;rw [if_neg Bool.false_ne_true,<- Bool.and_assoc,hc,Bool.false_and]
   ·rw [show decide ((if true=true then (Str.ofString "down") else Str.ofString "across")=Str.ofString "down")=true by decide +kernel] at hc;unfold eF at hc;rw [e] at hc;have hc:(decide (1<=p) && decide (p + b < w))=false:=hc;rw [if_pos rfl,<- Bool.and_assoc,hc,Bool.false_and]
  ·rfl
 | true =>
  obtain ⟨dn',p,l,r',e',p1,pw,ph,eT⟩:=nL (ks:=ks) hc;rw [e] at e';have hdn:dn=dn':=by have:=PyData.str.inj (List.cons.inj (C1 e')).1;cases dn <;> cases dn' <;> first | rfl | exact absurd this ∅
  subst hdn;cases e';rw [eT];cases dn
  ·simp only [Bool.false_eq_true,if_false];rw [decide_eq_true p1,decide_eq_true (ph rfl)]; rfl
  ·simp only [if_true];rw [decide_eq_true p1,decide_eq_true (pw rfl)]; rfl
def TrD:Tr->PyData->Prop
 | .rest,d=>be d=some [.str "rest"]
 | .piece i c x y,d=>be d=some [.str "piece",.int i,.bool c,.int x,.int y]
 | .cut dn p l r,d=>∃dl dr,be d=some [.str (if dn=true then "down" else "across"),.int p,dl,dr]/\TrD l dl/\TrD r dr
theorem TrD.to:∀t:Tr,TrD t (toD t)
 | .rest=>rfl
 | .piece .. => rfl
 | .cut _ _ l r=>⟨toD l,toD r,Y,TrD.to l,TrD.to r⟩
theorem TrD.good {b:Int} {ks:List Kd}:∀ (t:Tr) (d:PyData) (w h:Int),TrD t d->okT b ks w h t->isT b ks w h d=true
 | .rest,d,w,h,e,_=>by have e:be d=some (.str "rest" :: []):=e;rw [iE e ∅ ∅,if_pos ∅]; rfl
 | .piece i c x y,d,w,h,e,⟨k,hk,hc,x0,y0,hx,hy⟩=>by
  have e:be d=some (.str "piece" :: [.int i,.bool c,.int x,.int y]):=e;rw [iE e ∅ ∅,if_neg ∅,if_pos ∅];show fM ks w h (.int i) (.bl c) (.int x) (.int y)=true;unfold fM;rw [nO hk hc];simp only [Int.toNat_natCast,hk];rw [show aU (.int x) 0=true from decide_eq_true x0,show aU (.int y) 0=true from decide_eq_true y0,decide_eq_true hx,decide_eq_true hy]
  rfl
 | .cut true p l r,d,w,h,⟨dl,dr,e,tl,tr⟩,⟨p1,hp,hl,hr⟩=>by have eT:isT b ks w h d=(decide (1<=p) && (decide (p + b < w) && (isT b ks p h dl && isT b ks (w - p - b) h dr))):=nP (dn:=true) (r:=[.int p,dl,dr]) e;rw [eT,decide_eq_true p1,decide_eq_true hp,TrD.good l dl p h tl hl,TrD.good r dr _ h tr hr]; rfl
 | .cut false p l r,d,w,h,⟨dl,dr,e,tl,tr⟩,⟨p1,hp,hl,hr⟩=>by have eT:isT b ks w h d=(decide (1<=p) && (decide (p + b < h) && (isT b ks w p dl && isT b ks w (h - p - b) dr))):=nP (dn:=false) (r:=[.int p,dl,dr]) e;rw [eT,decide_eq_true p1,decide_eq_true hp,TrD.good l dl w p tl hl,TrD.good r dr w _ tr hr]; rfl
def dT:Tr->Nat
 | .cut _ _ l r=>max (dT l) (dT r) + 1
 | _=>0
def szT:Tr->Nat
 | .cut _ _ l r=>szT l + szT r + 1
 | _=>1
theorem CU (t:Tr):1<=szT t:=by cases t <;> simp only [szT] <;> lia
theorem fh {d:PyData} {ds:List PyData} (h:be d=some ds):wt d=wts ds + 1:=by
 cases d <;> simp only [be,Option.some.injEq,reduceCtorEq] at h
 ·subst h; rw [wt]
 ·subst h; rw [wt]
theorem dZ {C x dx:Addr} {H:Hp} (hx:H x=none) (hd:H dx=none):Same H (upd (upd H dx (.own x)) x (.ins C dx [])):=λ c o e=>by rw [au (ar e hx),au (ar e hd)]; exact e
def dpT:Tr->Nat
 | .cut _ _ l r=>max (dpT l) (dpT r) + 1
 | _=>0
mutual
theorem Dt.fresh {p q:Addr} {H:Hp} (hq:H q=none):∀ {v:V} {d:PyData},Dt p H v d->Dt q H v d
 | _,_,.non=>.non
 | _,_,.bl b=>.bl b
 | _,_,.int i=>.int i
 | _,_,.str z=>.str z
 | _,_,.lst n h r=>.lst (ar h hq) h (r.fresh hq)
 | _,_,.tup h r=>.tup h (r.fresh hq)
 | _,_,.emp h=>.emp h
theorem Dts.fresh {p q:Addr} {H:Hp} (hq:H q=none):∀ {vs:List V} {ds:List PyData},Dts p H vs ds->Dts q H vs ds
 | _,_,.nil=>.nil
 | _,_,.cons a r=>.cons (a.fresh hq) (r.fresh hq)
end
def okU (b:Int) (ks:List Kd):Int->Int->Tr->Prop
 | _,_,.rest=>True
 | w,h,.piece i c x y=>∃k,ks[i]? = some k/\(i,c)∈lyK ks 0/\0<=x/\0<=y/\x + sd1 k c<=w/\y + sd2 k c<=h
 | w,h,.cut dn p l r=>1<=p/\(if dn=true then p + b < w/\okU b ks p h l/\okU b ks (w - p - b) h r else p + b < h/\okU b ks w p l/\okU b ks w (h - p - b) r)
theorem lq:∀ {ks:List Kd} {i:Nat} {q:Nat×Bool},q∈lyK ks i->i<=q.1/\∃k,ks[q.1 - i]? = some k/\(q.2=false\/bo k=true)
 | [],_,_,h=>by simp [lyK] at h
 | x :: ks,i,q,h=>by
  rcases C6.mp (show q∈lyT i x ++ lyK ks (i + 1) from h) with h | h
  ·unfold lyT at h;rcases List.mem_cons.mp h with rfl | h
   ·exact ⟨B6 _,x,by simp,.inl rfl⟩
   ·split at h
    ·rename_i ht
     rw [List.mem_singleton.mp h];exact ⟨B6 _,x,by simp,.inr ht⟩
    ·simp at h
  ·obtain ⟨h1,k,h2,h3⟩:=lq h;exact ⟨⋯,k,by rw [show q.1 - i=(q.1 - (i + 1)) + 1 by lia,List.getElem?_cons_succ]; exact h2,h3⟩
theorem rf {ds:List PyData} (d3:PyData.canLayAll0 ds=true) (d4:PyData.depthAll ds<=1):SeqAt.shaped (.list ds)=true/\(ds=[]->PyData.eqv (.list ds) (.list [])=true)/\(ds≠[]->PyData.eqv (.list ds) (.list [])=false):=by
 refine ⟨?_,λ e=>by subst e; exact PySem.SeqAt.eqv_refl _ rfl,λ e=>?_⟩
 ·unfold SeqAt.shaped;rw [PyData.canLay0,d3,PyData.depth,decide_eq_true (show PyData.depthAll ds + 1<=64 by lia)]; rfl
 ·cases ds with
  | nil=>exact absurd rfl e
  | cons d r=>rfl
def PotC (H:Hp) (p:Addr):Prop:=∃a b:Int,0<=a/\0<=b/\b < 4294967296/\H p=↥[.int a,.int b]
theorem PotC.same {H H':Hp} {p:Addr} (x:PotC H p) (s:Same H H'):PotC H' p:=by obtain ⟨a,b,h1,h2,h3,e⟩:=x;exact ⟨a,b,h1,h2,h3,s _ _ e⟩
theorem PotC.new {H:Hp} {p q:Addr} {o:HO} (x:PotC H p) (h:H q=none):PotC (upd H q o) p:=x.same (JV h)
theorem PotC.some {H:Hp} {p:Addr} (x:PotC H p):H p≠none:=by obtain ⟨a,b,h1,h2,h3,e⟩:=x;rw [e]; exact λ z=>by cases z
theorem PotC.ne {H:Hp} {p q:Addr} (x:PotC H p) (h:H q=none):p≠q:=λ z=>x.some (z ▸ h)
theorem fi {H:Hp} {p:Addr} (h:PotC H p):∃xs,H p=↥xs:=by obtain ⟨_,_,_,_,_,e⟩:=h;exact ⟨_,e⟩
theorem PotC.put {H:Hp} {p l:Addr} {o:HO} (x:PotC H p) (n:p≠l):PotC (upd H l o) p:=by obtain ⟨a,b,h1,h2,h3,e⟩:=x;exact ⟨a,b,h1,h2,h3,by rw [au n]; exact e⟩
theorem But.freeC {p q:Addr} {H H':Hp} (b:But p H H') (x:PotC H' p) (h:H' q=none):q≠p/\H q=none:=by
 have n:q≠p:=λ z=>x.some (z ▸ h);refine ⟨n,?_⟩;cases e:H q with
 | none=>rfl
 | some o=>rw [b q o n e] at h; cases h
theorem gc {p c:Addr} {H0 H:Hp} {o:HO} (b:But p H0 H) (pt:PotC H p) (h:H c=none):∃H',upd H c o=H'/\H' c=some o/\c≠p/\Same H H'/\But p H0 H'/\PotC H' p :=
 ⟨_,rfl,af,Ne.symm (pt.ne h),JV h,b.trans (But.new h),pt.new h⟩
theorem lr {p:Addr} {H H':Hp} (b:But p H H') (pt:PotC H p) {c:Addr} {xs:List V} (e:H c= ~~~xs):H' c= ~~~xs:=by obtain ⟨_,hp⟩:=fi pt;exact b _ _ (λ z=>by rw [z,hp] at e; cases e) e
theorem vW {p:Addr} {rs:List V} {ks:List Kd} {H H':Hp} (b:But p H H') (pt:PotC H p) (h:Tups H rs ks):Tups H' rs ks:=Tups.keep (λ x xs e=>lr b pt e) h
theorem But.refl' {p:Addr} {H:Hp}:But p H H:=λ _ _ _ e=>e
section
variable {P:G8} {w:JT} {K:C8} {mg:Str->Option JU} {base:Heap}
inductive spPotC (vs:List V) (H:Hp) (Q:VK) (E_:XK):Prop
 | mk (c k:Int) (e_1:vs=[.int c,.int k]) (e_2:0<=k) (e_3:k<=63) (e_4:∀ (p:Addr) (H':Hp),H p=none->PotC H' p->Same H H'->Q (.ref p) H'):spPotC vs H Q E_
inductive spTake (vs:List V) (H:Hp) (Q:VK) (E_:XK):Prop
 | mk (p:Addr) (m:Int) (e_1:vs=[.ref p,.int m]) (e_2:PotC H p) (e_3:0 < m) (e_4:m<=10 ^ 60) (e_5:∀ (r:Int) (H':Hp),0<=r->r < m->PotC H' p->But p H H'->Q (.int r) H'):spTake vs H Q E_
inductive spUnit (vs:List V) (H:Hp) (Q:VK) (E_:XK):Prop
 | mk (p:Addr) (e_1:vs=[.ref p]) (e_2:PotC H p) (e_3:∀ (r:Int) (H':Hp),1<=r->r < 2 * 10 ^ 56->PotC H' p->But p H H'->Q (.int r) H'):spUnit vs H Q E_
inductive spSideC (vs:List V) (H:Hp) (Q:VK) (E_:XK):Prop
 | mk (p:Addr) (u m:Int) (e_1:vs=[.ref p,.int u,.int m]) (e_2:PotC H p) (e_3:1<=u) (e_4:u < 2 * 10 ^ 56) (e_5:1<=m) (e_6:m<=40) (e_7:∀ (r:Int) (H':Hp),1<=r->r < 10 ^ 58->PotC H' p->But p H H'->Q (.int r) H'):spSideC vs H Q E_
inductive spWorthC (vs:List V) (H:Hp) (Q:VK) (E_:XK):Prop
 | mk (p:Addr) (e_1:vs=[.ref p]) (e_2:PotC H p) (e_3:∀ (r:Int) (H':Hp),0<=r->r < 10 ^ 60->PotC H' p->But p H H'->Q (.int r) H'):spWorthC vs H Q E_
theorem sccell:FnScope ["_law_script","_law_k"] ["_law_script","_law_k"] (defScope ny):=⟨Y,Y,Y,∅,Y,∅,∅⟩
theorem tX {f:Addr} {fd:I9} (F:Fun K "_law_cell" "_law_cell" ny f fd) (B:Blt mg):FnOk P w K mg base CX0 1 f fd ["_law_script","_law_k"] (kZ K):=by
 refine F.ok sccell (λ vs H Q E h=>?_) (λ cdv A outer s H vs Q E hr h=>?_)
 ·obtain ⟨a,ns,n,rfl,_⟩:=h
  rfl
 obtain ⟨a,ns,n,rfl,hS,n0,q⟩:=h;have nd:=sccell.nd;refine ⟨_,((((pv 1)<*>qe<*>(@aD _ _ _ _ _ _ _ _ _ aV Y B.len PySem.boot_len ((pv 0)^^^ae) ∅ ∅ Y Y))<|>(((pv 0)&&&ix_list&&&(pv 1))⁻¹)<|>aF)<<<(ah⁻¹)),?_⟩;have hl:(ns.map V.int).length=ns.length:=List.length_map _;refine ⟨_,Y,_,Y,a,_,Y,.inl hS,_,_,Y,Y,_,Y,?_⟩;refine cP (λ c=>?_) (λ c=>?_)
 ·have c':n < ((ns.map V.int).length:Int):=C3 c;rw [hl] at c';have hk:n.toNat < ns.length:=⋯
  have hv:atI (ns.map V.int) n=some (.int ns[n.toNat]):=aK n0 (by rw [List.getElem?_map,List.getElem?_eq_getElem hk]; rfl);exact ⟨_,Y,_,Y,a,_,_,_,Y,Y,hS,hv,q _⟩
 ·exact q _
theorem scpotc:FnScope ["_law_cell_here","_law_k"] ["_law_cell_here","_law_k"] (defScope tP):=⟨Y,Y,Y,∅,Y,∅,∅⟩
theorem tY {f:Addr} {fd:I9} (F:Fun K "_law_pot" "_law_pot" tP f fd) (B:Blt mg):FnOk P w K mg base CX0 1 f fd ["_law_cell_here","_law_k"] (spPotC):=by
 refine F.ok scpotc (λ vs H Q E h=>?_) (λ cdv A outer s H vs Q E hr h=>?_)
 ·obtain ⟨c,k,rfl,_⟩:=h
  rfl
 obtain ⟨c,k,rfl,k0,k1,q⟩:=h;have nd:=scpotc.nd;refine ⟨_,((@aO _ _ _ _ ((@aD _ _ _ _ _ _ _ _ _ (ie Y) Y B.max PyProof.Rows.boot_max (ah^^^(((@aD _ _ _ _ _ _ _ _ _ jq Y B.abs PyProof.Rows.boot_abs ((pv 0)^^^ae) ∅ ∅ Y Y)|||bd|||(ah|||eG|||ah))^^^ae)) ∅ ∅ Y Y)^^^(((((@aD _ _ _ _ _ _ _ _ _ jq Y B.abs PyProof.Rows.boot_abs ((pv 0)^^^ae) ∅ ∅ Y Y)|||gA|||ah)|||aN|||(ah|||fC|||(pv 1)))|||aN|||ah)^^^ae)))⁻¹),?_⟩;refine ⟨_,Y,_,Y,_,_,Y,Y,⟨∅,∅,∅⟩,_,_,Y,Y,_,_,Y,_,Y,_,Y,_,_,Y,Y,(by show (0:Int) < 2147483563; decide),_,Y,_,_,Y,Y,.inl ⟨∅,∅⟩,_,_,Y,Y,_,_,Y,Y,zS2,λ p hp=>?_⟩;have e1:=Int.emod_nonneg (if c < 0 then -c else c) (show (2147483563:Int)≠0 by decide);have e2:=Int.emod_lt_of_pos (if c < 0 then -c else c) (show (0:Int) < 2147483563 by decide);refine q p _ hp ⟨_,_,?_,?_,?_,af⟩ (JV hp)
 ·split <;> lia
 ·lia
 ·lia
theorem sctake:FnScope ["_law_pot_here","_law_many","_law_digit"] ["_law_pot_here","_law_many"] (defScope nA):=⟨Y,Y,Y,∅,Y,∅,∅⟩
theorem tZ {f:Addr} {fd:I9} (F:Fun K "_law_take" "_law_take" nA f fd) (B:Blt mg):FnOk P w K mg base CX0 1 f fd ["_law_pot_here","_law_many"] (spTake):=by
 refine F.ok sctake (λ vs H Q E h=>?_) (λ cdv A outer s H vs Q E hr h=>?_)
 ·obtain ⟨p,m,rfl,_⟩:=h
  rfl
 obtain ⟨p,m,rfl,⟨a,b,a0,b0,b1,hp⟩,m0,m1,q⟩:=h;have nd:=sctake.nd;refine ⟨_,(((((pv 0)&&&ix_list&&&ah)<*>vN<*>ah)<|>((2∣(((pv 0)&&&ix_list&&&ah)|||gA|||(pv 1)))<<<((@bg _ _ _ _ _ _ (((pv 0)&&&ix_list&&&ah)|||gI|||(pv 1)) (iJ (pv 0) ah dF) Y Y Y)<<<((pv 2)⁻¹)))<|>aF)<<<((@bg _ _ _ _ _ _ (((((pv 0)&&&ix_list&&&ah)|||fC|||ah)|||aN|||ah)|||gA|||ah) (iJ (pv 0) ah dF) Y Y Y)<<<(((((((pv 0)&&&ix_list&&&ah)|||fC|||((pv 0)&&&ix_list&&&ah))|||gA|||ah)|||gI|||ah)|||gA|||(pv 1))⁻¹))),?_⟩;have at0:atI [V.int a,V.int b] 0=⇑a:=rfl;have at1:atI [V.int a,V.int b] 1=⇑b:=rfl;refine ⟨_,Y,p,_,_,_,Y,Y,JX hp,at0,_,_,Y,Y,_,Y,?_⟩;refine cP (λ c=>?_) (λ c=>?_)
 ·have c':0 < a:=C3 c;refine ⟨_,Y,p,_,_,_,Y,Y,JX hp,at0,_,Y,_,_,Y,Y,m0,?_⟩;refine ⟨_,Y,p,_,_,_,Y,Y,JX hp,at0,_,Y,_,_,Y,Y,⟨m0,m1⟩,_,Y,p,_,_,_,Y,Y,hp,Y,?_⟩;refine ⟨_,Y,q _ _ (Int.emod_nonneg _ ⋯) (Int.emod_lt_of_pos _ m0) ⟨a / m,b,Int.ediv_nonneg a0 ⋯,b0,b1,af⟩ But.upd⟩
 ·refine ⟨_,Y,p,_,_,_,Y,Y,JX hp,at1,_,_,Y,Y,.inr ⟨∅,∅⟩,_,_,Y,Y,_,_,Y,Y,(by show (0:Int) < 2147483629; decide),_,Y,p,_,_,_,Y,Y,hp,Y,?_⟩;have n0:0<=(b * 39373 + 7919) % 2147483629:=Int.emod_nonneg _ ∅;have n1:(b * 39373 + 7919) % 2147483629 < 2147483629:=Int.emod_lt_of_pos _ ∅;refine ⟨_,Y,p,_,_,_,Y,Y,JX af,Y,_,Y,p,_,_,_,Y,Y,JX af,Y,_,_,Y,Y,.inl ⟨⋯,⋯⟩,_,_,Y,Y,(by show (0:Int) < 2147483563; decide),_,_,Y,Y,⟨∅,∅⟩,_,Y,_,_,Y,Y,m0,?_⟩;exact q _ _ (Int.emod_nonneg _ ⋯) (Int.emod_lt_of_pos _ m0) ⟨a,_,a0,n0,⋯,af⟩ But.upd
theorem scunit:FnScope ["_law_pot_here","_law_some"] ["_law_pot_here"] (defScope nC):=⟨Y,Y,Y,∅,Y,∅,∅⟩
theorem uh {f:Addr} {fd:I9} (F:Fun K "_law_unit" "_law_unit" nC f fd) (B:Blt mg) (DD:Dn P w K mg base "_law_take" ["_law_pot_here","_law_many"] 1 (spTake)):FnOk P w K mg base CX0 2 f fd ["_law_pot_here"] (spUnit):=by
 refine F.ok scunit (λ vs H Q E h=>?_) (λ cdv A outer s H vs Q E hr h=>?_)
 ·obtain ⟨p,rfl,_⟩:=h
  rfl
 obtain ⟨p,rfl,pt,q⟩:=h;have nd:=scunit.nd;refine ⟨_,((1∣(@aO _ _ _ _ (ah^^^(ah^^^((ah|||aN|||(DD∪((pv 0)^^^((ah|||eG|||ah)^^^ae))))^^^(((ah|||eG|||ah)|||aN|||(DD∪((pv 0)^^^((ah|||eG|||ah)^^^ae))))^^^ae))))))<<<(((pv 1)&&&ix_list&&&(DD∪((pv 0)^^^(ah^^^ae))))⁻¹)),?_⟩;have e56:(10:Int) ^ (56:Int).toNat=10 ^ 56:=rfl;have e66:(10:Int) ^ 6 < 10 ^ 56:=∅
 refine av (λ R=>∀ (l:Addr) (c d:Int) (H':Hp),l≠p->H' l=↥[.int 1,.int 1,.int c,.int d]->1<=c->c < 2 * 10 ^ 56->1<=d->d < 2 * 10 ^ 56->PotC H' p->But p H H'->R [↑p,↑l] H') (λ Dd hR=>?_) ?_
 ·refine ⟨_,Y,_,_,Y,Y,⟨∅,∅,∅⟩,p,_,Y,pt,(by show (0:Int) < 10 ^ (6:Int).toNat; decide),(by show (10:Int) ^ (6:Int).toNat<=10 ^ 60; decide),λ r H1 r0 r1 pt1 b1=>⟨_,_,Y,Y,_,_,Y,Y,⟨∅,∅,∅⟩,_,Y,_,_,Y,Y,⟨∅,∅,∅⟩,p,_,Y,pt1,(by show (0:Int) < 10 ^ (56:Int).toNat; decide),(by show (10:Int) ^ (56:Int).toNat<=10 ^ 60; decide),λ r2 H2 r20 r21 pt2 b2=>⟨_,_,Y,Y,zS4,λ l hl=>?_⟩⟩⟩;have r1:r < 10 ^ 6:=r1;rw [e56] at r21;obtain ⟨H3,e3,k3,n3,s3,b3,pt3⟩:=gc (o:=.lst [.int 1,.int 1,.int (1 + r),.int (10 ^ (56:Int).toNat + r2)]) (b1.trans b2) pt2 hl;rw [show upd H2 l _=H3 from e3];exact hR l _ _ _ n3 k3 ⋯ ⋯ (by rw [e56]; lia) (by rw [e56]; lia) pt3 b3
 rintro l c d H1 nlp hl1 c0 c1 d0 d1 pt1 b1;refine ⟨_,Y,_,Y,p,4,Y,pt1,∅,∅,λ r H2 r0 r1 pt2 b2=>?_⟩;have hl2:=b2 _ _ nlp hl1;have one:(1:Int) < 2 * 10 ^ 56:=∅
 obtain ⟨x,hx,x0,x1⟩:∃x:Int,atI [V.int 1,V.int 1,V.int c,V.int d] r=⇑x/\1<=x/\x < 2 * 10 ^ 56:=by
  have:r=0\/r=1\/r=2\/r=3:=⋯
  rcases this with rfl | rfl | rfl | rfl
  ·exact ⟨1,Y,∅,one⟩
  ·exact ⟨1,Y,∅,one⟩
  ·exact ⟨c,Y,c0,c1⟩
  ·exact ⟨d,Y,d0,d1⟩
 exact ⟨l,_,_,_,Y,Y,JX hl2,hx,q x H2 x0 x1 pt2 (b1.trans b2)⟩
theorem scsidecc:FnScope ["_law_pot_here","_law_unit_here","_law_most"] ["_law_pot_here","_law_unit_here","_law_most"] (defScope nD):=⟨Y,Y,Y,∅,Y,∅,∅⟩
theorem pq {f:Addr} {fd:I9} (F:Fun K "_law_side" "_law_side" nD f fd) (B:Blt mg) (DD:Dn P w K mg base "_law_take" ["_law_pot_here","_law_many"] 1 (spTake)):FnOk P w K mg base CX0 2 f fd ["_law_pot_here","_law_unit_here","_law_most"] (spSideC):=by
 refine F.ok scsidecc (λ vs H Q E h=>?_) (λ cdv A outer s H vs Q E hr h=>?_)
 ·obtain ⟨p,u,m,rfl,_⟩:=h
  rfl
 obtain ⟨p,u,m,rfl,pt,u0,u1,m1,m40,q⟩:=h;have nd:=scsidecc.nd;refine ⟨_,((((DD∪((pv 0)^^^(ah^^^ae)))<*>bL<*>ah)<|>(((pv 1)|||fC|||(ah|||aN|||(DD∪((pv 0)^^^((pv 2)^^^ae)))))⁻¹)<|>aF)<<<((ah|||aN|||(DD∪((pv 0)^^^(((pv 2)|||fC|||(pv 1))^^^ae))))⁻¹)),?_⟩;have e58:40 * (2 * 10 ^ 56) < (10:Int) ^ 58:=∅
 have e60:40 * (2 * 10 ^ 56) < (10:Int) ^ 60:=∅
 have mu:m * u<=40 * (2 * 10 ^ 56):=Int.mul_le_mul m40 (Int.le_of_lt u1) ⋯ ∅;have mu1:1<=m * u:=by have:=Int.mul_le_mul m1 u0 ∅ ⋯; lia
 refine ff (λ R=>∀ (H':Hp),PotC H' p->But p H H'->R [↑p,⇑u,⇑m] H') (λ R hR=>?_) ?_
 ·refine ⟨_,Y,p,2,Y,pt,∅,∅,λ z H1 z0 z1 pt1 b1=>⟨Y,_,Y,?_⟩⟩;refine cP (λ cc=>?_) (λ cc=>hR _ pt1 b1);refine ⟨_,Y,_,Y,_,Y,p,m,Y,pt1,⋯,⋯,λ r H2 r0 r1 pt2 b2=>⟨_,_,Y,Y,_,_,Y,Y,.inr ⟨⋯,⋯⟩,q _ H2 ?_ ?_ pt2 (b1.trans b2)⟩⟩
  ·have:=Int.mul_le_mul u0 (show (1:Int)<=1 + r by lia) ∅ ⋯;lia
  ·have:u * (1 + r)<=u * m:=Int.mul_le_mul_of_nonneg_left ⋯ ⋯;rw [Int.mul_comm u m] at this;lia
 rintro H1 pt1 b1;exact ⟨_,Y,_,Y,_,Y,_,_,Y,Y,.inl ⟨⋯,⋯⟩,p,m * u,Y,pt1,⋯,⋯,λ r H2 r0 r1 pt2 b2=>⟨_,_,Y,Y,q _ H2 ⋯ ⋯ pt2 (b1.trans b2)⟩⟩
theorem scworthc:FnScope ["_law_pot_here","_law_some"] ["_law_pot_here"] (defScope jd):=⟨Y,Y,Y,∅,Y,∅,∅⟩
theorem pC {f:Addr} {fd:I9} (F:Fun K "_law_worth" "_law_worth" jd f fd) (B:Blt mg) (DD:Dn P w K mg base "_law_take" ["_law_pot_here","_law_many"] 1 (spTake)):FnOk P w K mg base CX0 2 f fd ["_law_pot_here"] (spWorthC):=by
 refine F.ok scworthc (λ vs H Q E h=>?_) (λ cdv A outer s H vs Q E hr h=>?_)
 ·obtain ⟨p,rfl,_⟩:=h
  rfl
 obtain ⟨p,rfl,pt,q⟩:=h;have nd:=scworthc.nd;refine ⟨_,((1∣(@aO _ _ _ _ ((DD∪((pv 0)^^^(ah^^^ae)))^^^((DD∪((pv 0)^^^((ah|||eG|||ah)^^^ae)))^^^((((ah|||eG|||ah)|||bd|||ah)|||bd|||(DD∪((pv 0)^^^(ah^^^ae))))^^^ae)))))<<<(((pv 1)&&&ix_list&&&(DD∪((pv 0)^^^(ah^^^ae))))⁻¹)),?_⟩;have e60:(10:Int) ^ (60:Int).toNat=10 ^ 60:=rfl;have e100:(100:Int) < 10 ^ 60:=∅
 refine av (λ R=>∀ (l:Addr) (c d e:Int) (H':Hp),l≠p->H' l=↥[.int c,.int d,.int e]->0<=c->c < 10 ^ 60->0<=d->d < 10 ^ 60->0<=e->e < 10 ^ 60->PotC H' p->But p H H'->R [↑p,↑l] H') (λ Dd hR=>?_) ?_
 ·refine ⟨_,Y,p,10,Y,pt,∅,∅,λ r H1 r0 r1 pt1 b1=>⟨_,Y,_,_,Y,Y,⟨∅,∅,∅⟩,p,_,Y,pt1,(by show (0:Int) < 10 ^ (60:Int).toNat; decide),(by show (10:Int) ^ (60:Int).toNat<=10 ^ 60; decide),λ r2 H2 r20 r21 pt2 b2=>⟨_,_,Y,Y,⟨∅,∅,∅⟩,_,_,Y,Y,_,Y,p,10,Y,pt2,∅,∅,λ r3 H3 r30 r31 pt3 b3=>⟨_,_,Y,Y,zS3,λ l hl=>?_⟩⟩⟩⟩;rw [e60] at r21;obtain ⟨H4,e4,k4,n4,s4,b4,pt4⟩:=gc (o:=.lst [.int r,.int r2,.int (10 ^ (60:Int).toNat - 1 - r3)]) (b1.trans (b2.trans b3)) pt3 hl;rw [show upd H3 l _=H4 from e4];exact hR l _ _ _ _ n4 k4 r0 ⋯ r20 r21 (by rw [e60]; lia) (by rw [e60]; lia) pt4 b4
 rintro l c d e H1 nlp hl1 c0 c1 d0 d1 e0 e1 pt1 b1;refine ⟨_,Y,_,Y,p,3,Y,pt1,∅,∅,λ r H2 r0 r1 pt2 b2=>?_⟩;have hl2:=b2 _ _ nlp hl1;obtain ⟨x,hx,x0,x1⟩:∃x:Int,atI [V.int c,V.int d,V.int e] r=⇑x/\0<=x/\x < 10 ^ 60:=by
  have:r=0\/r=1\/r=2:=⋯
  rcases this with rfl | rfl | rfl
  ·exact ⟨c,Y,c0,c1⟩
  ·exact ⟨d,Y,d0,d1⟩
  ·exact ⟨e,Y,e0,e1⟩
 exact ⟨l,_,_,_,Y,Y,JX hl2,hx,q x H2 x0 x1 pt2 (b1.trans b2)⟩
end
def LS (H:Hp) (t:Addr) (b:Int) (ks:List Kd) (kl:Addr):Prop:=∃rs,H t= ~~~[.int b,.ref kl]/\H kl=↥rs/\Tups H rs ks
theorem LS.same {H H':Hp} {t kl:Addr} {b:Int} {ks:List Kd} (x:LS H t b ks kl) (s:Same H H'):LS H' t b ks kl:=by obtain ⟨rs,h1,h2,h3⟩:=x;exact ⟨rs,s _ _ h1,s _ _ h2,Tups.keep (λ c xs e=>s _ _ e) h3⟩
theorem LS.but {p:Addr} {H H':Hp} {t kl:Addr} {b:Int} {ks:List Kd} (x:LS H t b ks kl) (n:kl≠p) (pt:PotC H p) (bt:But p H H'):LS H' t b ks kl:=by obtain ⟨rs,h1,h2,h3⟩:=x;exact ⟨rs,lr bt pt h1,bt _ _ n h2,vW bt pt h3⟩
def LyC (H:Hp) (v:V) (q:Nat×Bool):Prop:=∃a,v=.ref a/\H a= ~~~[.int q.1,.bl q.2]
theorem LyC.keep {H H':Hp} (k:∀a xs,H a= ~~~xs->H' a= ~~~xs) {v:V} {q:Nat×Bool} (h:LyC H v q):LyC H' v q:=by obtain ⟨a,e,h⟩:=h;exact ⟨a,e,k _ _ h⟩
structure Pq where
 k:Nat
 c:Bool
 x:Int
 y:Int
def pqV (p:Pq):List V:=[.int p.k,.bl p.c,.int p.x,.int p.y]
structure Bx where
 a:Int
 b:Int
 c:Int
 d:Int
def bxV (x:Bx):List V:=[.int x.a,.int x.b,.int x.c,.int x.d]
def GW (k:Kd) (p:Pq):Bx:=⟨p.x,p.y,p.x + sd1 k p.c,p.y + sd2 k p.c⟩
def apB (o r:Bx):Bool:=decide (o.c<=r.a) || decide (r.c<=o.a) || decide (o.d<=r.b) || decide (r.d<=o.b)
def Sq (H:Hp) (a:Addr) (xs:List V):Prop:=H a=↥xs\/H a= ~~~xs
def fj (k:Kd):Prop:=Good k/\k.w < 10 ^ 58/\k.h < 10 ^ 58
section
variable {P:G8} {w:JT} {K:C8} {mg:Str->Option JU} {base:Heap}
inductive spShopC (vs:List V) (H:Hp) (Q:VK) (E_:XK):Prop
 | mk (p:Addr) (u:Int) (e_1:vs=[.ref p,.int u]) (e_2:PotC H p) (e_3:1<=u) (e_4:u < 2 * 10 ^ 56) (e_5:∀ (t kl:Addr) (b:Int) (ks:List Kd) (H':Hp),LS H' t b ks kl->kl≠p->H kl=none->(∀k∈ks,fj k)->1<=ks.length->ks.length<=8->0<=b->b < 10 ^ 58->PotC H' p->But p H H'->Q (.ref t) H'):spShopC vs H Q E_
inductive spSidesC (vs:List V) (H:Hp) (Q:VK) (E_:XK):Prop
 | mk (t kl:Addr) (b:Int) (ks:List Kd) (i:Nat) (c:Bool) (k:Kd) (e_1:vs=[.ref t,.int i,.bl c]) (e_2:LS H t b ks kl) (e_3:ks[i]? = some k) (e_4:∀ (r:Addr) (H':Hp),H' r= ~~~[.int (sd1 k c),.int (sd2 k c)]->Same H H'->Q (.ref r) H'):spSidesC vs H Q E_
inductive spLyingsC (vs:List V) (H:Hp) (Q:VK) (E_:XK):Prop
 | mk (t kl:Addr) (b:Int) (ks:List Kd) (e_1:vs=[.ref t]) (e_2:LS H t b ks kl) (e_3:ks.length<=8) (e_4:∀ (l:Addr) (ys:List V) (H':Hp),H' l=↥ys->H l=none->Paired (LyC H') ys (lyK ks 0)->Same H H'->Q (.ref l) H'):spLyingsC vs H Q E_
inductive spBox (vs:List V) (H:Hp) (Q:VK) (E_:XK):Prop
 | mk (t kl a:Addr) (b:Int) (ks:List Kd) (p:Pq) (k:Kd) (e_1:vs=[.ref t,.ref a]) (e_2:LS H t b ks kl) (e_3:Sq H a (pqV p)) (e_4:ks[p.k]? = some k) (e_5:∀ (r:Addr) (H':Hp),H' r= ~~~(bxV (GW k p))->Same H H'->Q (.ref r) H'):spBox vs H Q E_
inductive spApart (vs:List V) (H:Hp) (Q:VK) (E_:XK):Prop
 | mk (a1 a2:Addr) (o r:Bx) (e_1:vs=[.ref a1,.ref a2]) (e_2:H a1= ~~~(bxV o)) (e_3:H a2= ~~~(bxV r)) (e_4:Q (.bl (apB o r)) H):spApart vs H Q E_
theorem scshopc:FnScope ["_law_pot_here","_law_unit_here","_law_blade","_law_kinds","_law_k","_law_wide","_law_high"] ["_law_pot_here","_law_unit_here"] (defScope nG):=⟨Y,Y,Y,∅,Y,∅,∅⟩
theorem rg {f:Addr} {fd:I9} (F:Fun K "_law_shop" "_law_shop" nG f fd) (B:Blt mg) (DD:Dn P w K mg base "_law_take" ["_law_pot_here","_law_many"] 1 (spTake)) (DSi:Dn P w K mg base "_law_side" ["_law_pot_here","_law_unit_here","_law_most"] 2 (spSideC)) (DWo:Dn P w K mg base "_law_worth" ["_law_pot_here"] 2 (spWorthC)):FnOk P w K mg base CX0 3 f fd ["_law_pot_here","_law_unit_here"] (spShopC):=by
 refine F.ok scshopc (λ vs H Q E h=>?_) (λ cdv A outer s H vs Q E hr h=>?_)
 ·obtain ⟨p,u,rfl,_⟩:=h
  rfl
 obtain ⟨p,u,rfl,pt,u0,u1,q⟩:=h;have nd:=scshopc.nd;refine ⟨_,((2∣((@aO _ _ _ _ (ah^^^((pv 1)^^^((DD∩((pv 0)^^^(ah^^^ae)))^^^((DD∩((pv 0)^^^(((ah|||fC|||(pv 1))|||aN|||ah)^^^ae)))^^^ae)))))&&&ix_list&&&(DD∩((pv 0)^^^(ah^^^ae)))))<<<((3∣(@aO _ _ _ _ ae))<<<((@bM _ _ _ _ _ _ _ _ E6 Y (dO Y B.range ((ah|||aN|||(DD∩((pv 0)^^^(ah^^^ae))))^^^ae)) (ao (i:=4) nd Y (Or.inl Y)) ((5∣(DSi∪((pv 0)^^^((pv 1)^^^(ah^^^ae)))))<<<((6∣((@aO _ _ _ _ ((pv 5)^^^((DSi∪((pv 0)^^^((pv 1)^^^(ah^^^ae))))^^^ae)))&&&ix_list&&&(@bq _ _ _ _ _ _ _ _ _ fD Y B.int PyProof.Rows.boot_int ((@bI _ _ _ _ _ _ _ _ vN (DD∩((pv 0)^^^(ah^^^ae))) ah (aG _))^^^ae) ∅ ∅ Y Y)))>>>(@bc _ _ _ _ (@dA _ _ _ _ _ _ _ _ _ _ _ _ G6 PySem.F.slot_list_append PySem.F.type_list_append bE (pv 3) ((@aE _ _ _ _ _ ((pv 5)^^^((pv 6)^^^((DWo∪((pv 0)^^^ae))^^^((DWo∪((pv 0)^^^ae))^^^((@bI _ _ _ _ _ _ _ _ bL (DD∩((pv 0)^^^(ah^^^ae))) ah (aG _))^^^ae))))))^^^ae) Y Y Y Y Y) Y))) (by intro _; rfl))<<<((@aE _ _ _ _ _ ((pv 2)^^^((pv 3)^^^ae)))⁻¹)))),?_⟩;have e60:(100:Int) < 10 ^ 60:=∅
 have e58:(10:Int) ^ 58 < 10 ^ 60:=∅
 have e59:2 * (2 * 10 ^ 56) + 100 < (10:Int) ^ 58:=∅
 have e57:2 * (2 * 10 ^ 56) + 1 < (10:Int) ^ 60:=∅
 have sz:(100:Nat) < sizeLine:=∅
 refine av (λ R=>∀ (b:Int) (H':Hp),0<=b->b < 10 ^ 58->PotC H' p->But p H H'->R [↑p,⇑u,⇑b,none,none,none,none] H') (λ Dd hR=>?_) ?_
 ·refine ⟨_,Y,_,Y,p,3,Y,pt,∅,∅,λ r1 H1 r10 r11 pt1 b1=>⟨_,Y,_,Y,_,_,Y,Y,.inl ⟨∅,∅⟩,_,_,Y,Y,p,_,Y,pt1,⋯,⋯,λ r2 H2 r20 r21 pt2 b2=>⟨zS4,λ l hl=>?_⟩⟩⟩;obtain ⟨H3,e3,k3,n3,s3,b3,pt3⟩:=gc (o:=.lst [.int 0,.int u,.int r1,.int r2]) (b1.trans b2) pt2 hl;rw [show upd H2 l _=H3 from e3];refine ⟨_,Y,p,4,Y,pt3,∅,∅,λ r H4 r0 r1' pt4 b4=>?_⟩;have hl4:=b4 _ _ n3 k3;obtain ⟨x,hx,x0,x1⟩:∃x:Int,atI [V.int 0,V.int u,V.int r1,V.int r2] r=⇑x/\0<=x/\x < 10 ^ 58:=by
   have:r=0\/r=1\/r=2\/r=3:=⋯
   rcases this with rfl | rfl | rfl | rfl
   ·exact ⟨0,Y,∅,⋯⟩
   ·exact ⟨u,Y,⋯,⋯⟩
   ·exact ⟨r1,Y,r10,⋯⟩
   ·exact ⟨r2,Y,r20,⋯⟩
  exact ⟨l,_,_,_,Y,Y,JX hl4,hx,hR x _ x0 x1 pt4 (b3.trans b4)⟩
 rintro b H1 b0 b1' pt1 b1;refine av (λ R=>∀ (l:Addr) (H':Hp),l≠p->H1 l=none->H' l=↥[]->PotC H' p->But p H H'->R [↑p,⇑u,⇑b,↑l,none,none,none] H') (λ Dd hR=>?_) ?_
 ·refine ⟨∅,λ l hl=>?_⟩;obtain ⟨H2,e2,k2,n2,s2,b2,pt2⟩:=gc (o:=.lst []) b1 pt1 hl;rw [show upd H1 l _=H2 from e2];exact hR l _ n2 hl k2 pt2 b2
 rintro l H2 nlp hl1 hl2 pt2 b2;have hl0:H l=none:=(b1.freeC pt1 hl1).2;refine aW (λ σ' H'=>(∃ (v4 v5 v6:Option V) (rs:List V) (ks:List Kd),σ'=[↑p,⇑u,⇑b,↑l,v4,v5,v6]/\H' l=↥rs/\Tups H' rs ks/\(∀k∈ks,fj k)/\(1<=rs.length/\rs.length<=8)/\PotC H' p/\But p H H')) (λ R hR=>?_) ?_
 ·refine ⟨_,Y,p,8,Y,pt2,∅,∅,λ m H3 m0 m1 pt3 b3=>⟨_,_,Y,Y,_,Y,⋯,⋯,?_⟩⟩;refine cR (n:=(1 + m).toNat) (λ i σ' H'=>(∃ (v4 v5 v6:Option V) (rs:List V) (ks:List Kd),σ'=[↑p,⇑u,⇑b,↑l,v4,v5,v6]/\H' l=↥rs/\Tups H' rs ks/\(∀k∈ks,fj k)/\rs.length=i/\PotC H' p/\But p H H')) ⟨_,_,_,[],[],rfl,b3 _ _ nlp hl2,.nil,λ k hk=>by simp at hk,rfl,pt3,b2.trans b3⟩ ?_ ?_
  ·intro i _ H4 hi hI9;refine fZ λ G9 k9=>?_;obtain ⟨v4,v5,v6,rs,ks,rfl,hl4,tp4,gk4,rl4,pt4,bt4⟩:=hI9;refine k9 ?_;refine ⟨_,Y,_,Y,p,u,6,Y,pt4,u0,u1,∅,∅,λ w1 H5 w0 w1' pt5 b5=>?_⟩;refine ⟨_,Y,_,Y,_,Y,p,u,6,Y,pt5,u0,u1,∅,∅,λ h1 H6 h0 h1' pt6 b6=>⟨zS2,λ l2 hl2'=>?_⟩⟩;obtain ⟨H7,e7,k7,n7,s7,b7,pt7⟩:=gc (o:=.lst [.int w1,.int h1]) (b5.trans b6) pt6 hl2';rw [show upd H6 l2 _=H7 from e7];refine ⟨_,Y,p,5,Y,pt7,∅,∅,λ z H8 z0 z1 pt8 b8=>⟨_,_,Y,Y,.inr ⟨_,Y,?_⟩⟩⟩;have l28:=b8 _ _ n7 k7;obtain ⟨nn,hnn,nn0,nn1⟩:∃nn:Int,atI [V.int w1,V.int h1] (if decide (0 < z)=true then (1:Int) else 0)=⇑nn/\1<=nn/\nn < 10 ^ 58:=by
    by_cases c:(0:Int) < z
    ·exact ⟨h1,by rw [decide_eq_true c]; rfl,h0,h1'⟩
    ·exact ⟨w1,by rw [decide_eq_false c]; rfl,w0,w1'⟩
   refine ⟨l2,_,_,_,Y,Y,JX l28,hnn,?_⟩;have b48:=b7.trans b8;have hl8:=b48 _ _ nlp hl4;refine ⟨_,Y,.inl ⟨Y,_,JX hl8⟩,_,Y,_,Y,_,Y,p,Y,pt8,λ wo H9 wo0 wo1 pt9 b9=>?_⟩;refine ⟨_,Y,p,Y,pt9,λ wa Ha wa0 wa1 pta ba=>?_⟩;refine ⟨_,Y,p,2,Y,pta,∅,∅,λ tu Hb tu0 tu1 ptb bb=>⟨Y,zS5,λ t ht=>?_⟩⟩;have b4b:=b48.trans (b9.trans (ba.trans bb));obtain ⟨H12,e12,k12,n12,s12,b12,pt12⟩:=gc (o:=.tup [.int w1,.int nn,.int wo,.int wa,.bl (decide (V.int tu=V.int 0))]) (bt4.trans b4b) ptb ht;rw [show upd Hb t _=H12 from e12];have k12:H12 t= ~~~(kdV ⟨w1,nn,wo,wa,decide (V.int tu=V.int 0)⟩):=k12;have hlc:=s12 _ _ (b4b _ _ nlp hl4);refine ⟨l,_,_,Y,Y,hlc,(by have:i < (1 + m).toNat:=hi; lia),?_⟩;have kt:∀ {c:Addr} {xs:List V},H12 c= ~~~xs->(upd H12 l (.lst (rs ++ [.ref t]))) c= ~~~xs:=λ {c xs} e=>by rw [au (λ z=>by rw [z,hlc] at e; cases e)]; exact e
   refine ⟨_,_,_,rs ++ [.ref t],ks ++ [⟨w1,nn,wo,wa,decide (V.int tu=V.int 0)⟩],Y,af,?_,λ k hk=>?_,by rw [List.length_append,rl4]; rfl,pt12.put (Ne.symm nlp),λ c o n e=>?_⟩
   ·exact fg (Tups.keep (λ c xs e=>kt (s12 _ _ e)) (vW b4b pt4 tp4)) (.cons ⟨t,Y,kt k12⟩ .nil)
   ·rcases C6.mp hk with hk | hk
    ·exact gk4 k hk
    ·rw [List.mem_singleton.mp hk];exact ⟨⟨by show (1:Int)<=w1; lia,by show (1:Int)<=nn; lia,wo0,wa0,by show w1 < _; lia,by show nn < _; lia,wo1,wa1⟩,w1',nn1⟩
   ·rw [au (λ z=>by rw [z,hl0] at e; cases e)];exact b12 _ _ n e
  ·intro _ H4 hI9;refine fZ λ G9 k9=>?_;obtain ⟨v4,v5,v6,rs,ks,rfl,hl4,tp4,gk4,rl4,pt4,bt4⟩:=hI9;refine k9 ?_;exact hR _ _ ⟨_,_,_,rs,ks,rfl,hl4,tp4,gk4,⟨⋯,⋯⟩,pt4,bt4⟩
 intro _ H3 hI9;refine fZ λ G9 k9=>?_;obtain ⟨v4,v5,v6,rs,ks,rfl,hl3,tp3,gk3,⟨r1,r8⟩,pt3,bt3⟩:=hI9;refine k9 ?_;refine ⟨_,Y,_,Y,zS2,λ t ht=>?_⟩;obtain ⟨H6,e6,k6,n6,s6,b6,pt6⟩:=gc (o:=.tup [.int b,.ref l]) bt3 pt3 ht;rw [show upd H3 t _=H6 from e6];have rl:=E5 tp3;exact q t l b ks H6 ⟨rs,k6,s6 _ _ hl3,Tups.keep (λ c xs e=>s6 _ _ e) tp3⟩ nlp hl0 gk3 ⋯ ⋯ b0 b1' pt6 b6
theorem scsidesc:FnScope ["_law_shop_here","_law_kind","_law_turned","_law_wide","_law_high"] ["_law_shop_here","_law_kind","_law_turned"] (defScope je):=⟨Y,Y,Y,∅,Y,∅,∅⟩
theorem pE {f:Addr} {fd:I9} (F:Fun K "_law_sides" "_law_sides" je f fd) (B:Blt mg):FnOk P w K mg base CX0 1 f fd ["_law_shop_here","_law_kind","_law_turned"] (spSidesC):=by
 refine F.ok scsidesc (λ vs H Q E h=>?_) (λ cdv A outer s H vs Q E hr h=>?_)
 ·obtain ⟨t,kl,b,ks,i,c,k,rfl,_⟩:=h
  rfl
 obtain ⟨t,kl,b,ks,i,c,k,rfl,sh,hi,q⟩:=h;have nd:=scsidesc.nd;refine ⟨_,((@bg _ _ _ _ _ _ (@ju _ _ _ _ _ _ _ _ _ _ qo (((pv 0)&&&ix_tup&&&ah)&&&ix_list&&&(pv 1)) mO (mP ah)) (aP Y (3•(4•aI))) Y Y Y)<<<(((@aO _ _ _ _ ((@aE _ _ _ _ _ ((pv 3)^^^((pv 4)^^^ae)))^^^((@aE _ _ _ _ _ ((pv 4)^^^((pv 3)^^^ae)))^^^ae)))&&&ix_list&&&(@bq _ _ _ _ _ _ _ _ _ fD Y B.int PyProof.Rows.boot_int ((pv 2)^^^ae) ∅ ∅ Y Y))⁻¹)),?_⟩;have sz:(100:Nat) < sizeLine:=∅
 obtain ⟨rs,h1,h2,h3⟩:=id sh;obtain ⟨vv,hvv,ak,rfl,hak⟩:=Paired.getL h3 hi;have hak:H ak= ~~~[.int k.w,.int k.h,.int k.wo,.int k.wa,.bl k.tu]:=hak;have hat:atI rs (i:Int)=↑ak:=aK ⋯ (by rw [Int.toNat_natCast]; exact hvv);refine av (λ R=>∀ (H':Hp),Same H H'->R [↑t,⇑i,some (.bl c),⇑k.w,⇑k.h] H') (λ Dd hR=>?_) ?_
 ·refine ⟨_,Y,t,_,1,_,Y,Y,JW h1,Y,_,Y,kl,_,_,_,Y,Y,JX h2,hat,_,Y,ak,_,Y,JW hak,(λ z=>absurd z.2 (show ¬ HT.sIx 5 5 (some 2)=5 by decide)),λ a ha=>?_⟩;obtain ⟨H1,e1,k1,s1⟩:∃H',upd H a (.tup (iQ [.int k.w,.int k.h,.int k.wo,.int k.wa,.bl k.tu] none (some 2)))=H'/\H' a= ~~~(iQ [.int k.w,.int k.h,.int k.wo,.int k.wa,.bl k.tu] none (some 2))/\Same H H':=⟨_,Y,af,JV ha⟩
  rw [show upd H a _=H1 from e1];exact ⟨a,_,Y,JW (show H1 a= ~~~[.int k.w,.int k.h] from k1),Y,_,_,Y,_,_,Y,Y,hR _ s1⟩
 rintro H1 s1;refine ⟨_,Y,_,Y,zS2,λ a ha=>?_⟩;obtain ⟨H2,e2,k2,s2⟩:∃H',upd H1 a (.tup [.int k.w,.int k.h])=H'/\H' a= ~~~[.int k.w,.int k.h]/\Same H1 H':=⟨_,Y,af,JV ha⟩
 rw [show upd H1 a _=H2 from e2];refine ⟨_,Y,_,Y,zS2,λ a2 ha2=>?_⟩;obtain ⟨H3,e3,k3,s3⟩:∃H',upd H2 a2 (.tup [.int k.h,.int k.w])=H'/\H' a2= ~~~[.int k.h,.int k.w]/\Same H2 H':=⟨_,Y,af,JV ha2⟩
 rw [show upd H2 a2 _=H3 from e3];refine ⟨zS2,λ l hl=>?_⟩;obtain ⟨H4,e4,k4,s4⟩:∃H',upd H3 l (.lst [.ref a,.ref a2])=H'/\H' l=↥[.ref a,.ref a2]/\Same H3 H':=⟨_,Y,af,JV hl⟩
 rw [show upd H3 l _=H4 from e4];refine ⟨_,Y,.inr ⟨_,Y,?_⟩⟩;cases c with
 | true=>exact ⟨l,_,_,_,Y,Y,JX k4,Y,q a2 H4 (s4 _ _ k3) (s1.trans (s2.trans (s3.trans s4)))⟩
 | false=>exact ⟨l,_,_,_,Y,Y,JX k4,Y,q a H4 (s4 _ _ (s3 _ _ k2)) (s1.trans (s2.trans (s3.trans s4)))⟩
theorem sclyingsc:FnScope ["_law_shop_here","_law_found","_law_k","_law_kind"] ["_law_shop_here"] (defScope gw):=⟨Y,Y,Y,∅,Y,∅,∅⟩
theorem lw {f:Addr} {fd:I9} (F:Fun K "_law_lyings" "_law_lyings" gw f fd) (B:Blt mg):FnOk P w K mg base CX0 1 f fd ["_law_shop_here"] (spLyingsC):=by
 refine F.ok sclyingsc (λ vs H Q E h=>?_) (λ cdv A outer s H vs Q E hr h=>?_)
 ·obtain ⟨t,kl,b,ks,rfl,_⟩:=h
  rfl
 obtain ⟨t,kl,b,ks,rfl,sh,k8,q⟩:=h;have nd:=sclyingsc.nd;refine ⟨_,((1∣(@aO _ _ _ _ ae))<<<((@bM _ _ _ _ _ _ _ _ E6 Y (mX Y B.enumerate (((pv 0)&&&ix_tup&&&ah)^^^ae)) (aP Y (2•(3•aI))) ((@bc _ _ _ _ (@dA _ _ _ _ _ _ _ _ _ _ _ _ G6 PySem.F.slot_list_append PySem.F.type_list_append bE (pv 1) ((@aE _ _ _ _ _ ((pv 2)^^^(bF^^^ae)))^^^ae) Y Y Y Y Y) Y)>>>((PW.pt (kn (@aY _ _ _ ((pv 3)&&&ix_tup&&&ah) (by intro _; rfl)) (iI (((pv 3)&&&ix_tup&&&ah)<*>gB<*>((pv 3)&&&ix_tup&&&ah)))))<|>(@ap _ _ _ (@bc _ _ _ _ (@dA _ _ _ _ _ _ _ _ _ _ _ _ G6 PySem.F.slot_list_append PySem.F.type_list_append bE (pv 1) ((@aE _ _ _ _ _ ((pv 2)^^^(bF^^^ae)))^^^ae) Y Y Y Y Y) Y))<|>aF)) (by intro _; rfl))<<<((pv 1)⁻¹))),?_⟩;have sz:(100:Nat) < sizeLine:=∅
 obtain ⟨rs,h1,h2,h3⟩:=id sh;have rl:=E5 h3;refine av (λ R=>∀ (l:Addr) (H':Hp),H l=none->H' l=↥[]->Same H H'->R [↑t,↑l,none,none] H') (λ Dd hR=>?_) ?_
 ·refine ⟨∅,λ l hl=>?_⟩;obtain ⟨H1,e1,k1,s1⟩:∃H',upd H l (.lst [])=H'/\H' l=↥[]/\Same H H':=⟨_,Y,af,JV hl⟩
  rw [show upd H l _=H1 from e1];exact hR l _ hl k1 s1
 rintro l H1 hl hl1 s1;have nkl:kl≠l:=ar h2 hl;refine aW (λ σ' H'=>(∃v2 v3:Option V,σ'=[↑t,↑l,v2,v3])/\(∃ys,H' l=↥ys/\Paired (LyC H') ys (lyK ks 0))/\But l H1 H') (λ R hR=>?_) ?_
 ·refine ⟨_,Y,t,_,1,_,Y,Y,JW (s1 _ _ h1),Y,kl,rs,Y,.inl ⟨s1 _ _ h2,qF (f:=.lst) (λ _ _ e=>by cases e; rfl) (l:=kl) (xs:=rs) (λ i σ' H'=>(∃ (v2 v3:Option V) (ys:List V),σ'=[↑t,↑l,v2,v3]/\H' l=↥ys/\Paired (LyC H') ys (lyK (ks.take i) 0)/\But l H1 H')) ⟨_,_,[],Y,hl1,.nil,λ _ _ _ e=>e⟩ (λ i σ Hx ⟨v2,v3,ys,_,_,_,b⟩=>b _ _ nkl (s1 _ _ h2)) ?_ (λ σ Hx ⟨v2,v3,ys,e,hy,py,b⟩=>hR _ _ ⟨⟨v2,v3,e⟩,⟨ys,hy,by rw [rl,List.take_length] at py; exact py⟩,b⟩)⟩⟩;intro i x pp σ H2 hx hp hI9;refine fZ λ G9 k9=>?_;obtain ⟨v2,v3,ys,rfl,l2,py,b2⟩:=hI9;refine k9 ?_;obtain ⟨k,hk',ka,rfl,hka⟩:=JZ h3 hx;have hin:i < rs.length:=(A9.mp hx).1;obtain ⟨H3,e3,k3,s3⟩:∃H',upd H2 pp (.tup [.int i,.ref ka])=H'/\H' pp= ~~~[.int i,.ref ka]/\Same H2 H':=⟨_,Y,af,JV hp⟩
  rw [show upd H2 pp _=H3 from e3];have nka:ka≠l:=ar hka hl;have ka3:H3 ka= ~~~[.int k.w,.int k.h,.int k.wo,.int k.wa,.bl k.tu]:=s3 _ _ (b2 _ _ nka (s1 _ _ hka));have yl:=E5 py;have yl2:=iY (ks.take i) 0;rw [List.length_take] at yl2;have lt:lyK (ks.take (i + 1)) 0=lyK (ks.take i) 0 ++ lyT i k:=by rw [List.take_add_one,hk'];show lyK (ks.take i ++ [k]) 0=_;rw [jy,List.length_take,Nat.zero_add,Nat.min_eq_left ⋯]
  refine ⟨pp,_,Y,JW k3,Y,_,_,Y,_,_,Y,Y,?_⟩;have app:∀ (Hx:Hp) (a:Addr) (zs:List V) (q:Nat×Bool) (L:List (Nat×Bool)),Hx l=↥zs->Paired (LyC Hx) zs L->Hx a= ~~~[.int q.1,.bl q.2]->But l H1 Hx->Paired (LyC (upd Hx l (.lst (zs ++ [.ref a])))) (zs ++ [.ref a]) (L ++ [q])/\But l H1 (upd Hx l (.lst (zs ++ [.ref a]))):=λ Hx a zs q L hx pz ha bx=>by
   have kt:∀c xs,Hx c= ~~~xs->(upd Hx l (.lst (zs ++ [.ref a]))) c= ~~~xs:=λ c xs e=>by rw [au (λ z=>by rw [z,hx] at e; cases e)]; exact e
   exact ⟨fg (JY pz λ v q h=>h.keep kt) (.cons ⟨a,Y,kt _ _ ha⟩ .nil),λ c o n e=>by rw [au n]; exact bx _ _ n e⟩
  refine av (λ R=>∀ (H':Hp),(∃ys,H' l=↥ys/\ys.length<=2 * i + 1/\Paired (LyC H') ys (lyK (ks.take i) 0 ++ [(i,false)]))->But l H1 H'->R [↑t,↑l,⇑i,↑ka] H') (λ Dd hR=>?_) ?_
  ·refine ⟨_,Y,.inl ⟨Y,_,JX (s3 _ _ l2)⟩,_,Y,zS2,λ a ha=>?_⟩;obtain ⟨H4,e4,k4,s4⟩:∃H',upd H3 a (.tup [.int i,.bl false])=H'/\H' a= ~~~[.int i,.bl false]/\Same H3 H':=⟨_,Y,af,JV ha⟩
   rw [show upd H3 a _=H4 from e4];have l4:=s4 _ _ (s3 _ _ l2);obtain ⟨a1,a2⟩:=app H4 a ys (i,false) _ l4 (JY py λ v q h=>h.keep λ c xs e=>s4 _ _ (s3 _ _ e)) k4 (λ c o n e=>s4 _ _ (s3 _ _ (b2 _ _ n e)));exact ⟨l,_,_,Y,Y,l4,⋯,hR _ ⟨_,af,by rw [List.length_append]; show ys.length + 1<=_; lia,a1⟩ a2⟩
  rintro H4 ⟨zs,l4,zl,py4⟩ b4;have ka4:H4 ka= ~~~[.int k.w,.int k.h,.int k.wo,.int k.wa,.bl k.tu]:=b4 _ _ nka (s1 _ _ hka);have no:bo k=false->(∃ (v2 v3:Option V) (ys:List V),([↑t,↑l,⇑i,↑ka]:St)=[↑t,↑l,v2,v3]/\H4 l=↥ys/\Paired (LyC H4) ys (lyK (ks.take (i + 1)) 0)/\But l H1 H4):=λ ht=>⟨_,_,zs,Y,l4,by rw [lt]; unfold lyT; rw [ht]; exact py4,b4⟩
  refine ⟨_,Y,ka,_,4,_,Y,Y,JW ka4,Y,_,Y,?_⟩;cases htu:k.tu with
  | false=>exact aQ (no (by unfold bo; rw [htu]; rfl))
  | true =>
   refine aZ ⟨_,rfl,ka,_,0,_,rfl,rfl,JW ka4,rfl,_,rfl,ka,_,1,_,rfl,rfl,JW ka4,rfl,rfl,_,rfl,?_⟩
   by_cases hwh:k.w=k.h
   ·rw [show (!decide (V.int k.w=V.int k.h))=false by rw [decide_eq_true (by rw [hwh])]; rfl];exact aQ (no (by unfold bo; rw [decide_eq_true hwh]; simp))
   ·rw [show (!decide (V.int k.w=V.int k.h))=true by rw [decide_eq_false (λ z=>hwh (V.int.inj z))]; rfl];have ht:bo k=true:=by unfold bo; rw [htu,decide_eq_false hwh]; rfl
    refine aZ ⟨_,rfl,.inl ⟨rfl,_,JX l4⟩,_,rfl,zS2,λ a ha=>?_⟩;obtain ⟨H5,e5,k5,s5⟩:∃H',upd H4 a (.tup [.int i,.bl true])=H'/\H' a= ~~~[.int i,.bl true]/\Same H4 H':=⟨_,Y,af,JV ha⟩
    rw [show upd H4 a _=H5 from e5];have l5:=s5 _ _ l4;obtain ⟨a1,a2⟩:=app H5 a zs (i,true) _ l5 (JY py4 λ v q h=>h.keep λ c xs e=>s5 _ _ e) k5 (λ c o n e=>s5 _ _ (b4 _ _ n e));exact ⟨l,_,_,Y,Y,l5,⋯,_,_,_,Y,af,by rw [lt]; unfold lyT; rw [if_pos ht]; rw [List.append_assoc] at a1; exact a1,a2⟩
 rintro _ H2 ⟨⟨v2,v3,rfl⟩,⟨ys,hy,py⟩,b2⟩;exact ⟨_,Y,q l ys H2 hy hl py (λ c o e=>b2 _ _ (ar e hl) (s1 _ _ e))⟩
end
def wyS (dn:Bool):Str:=if dn=true then "down" else "across"
theorem CV {K:C8} {H:Hp}:∀ {ys:List V} {qs:List (Nat×Bool)},Paired (LyC H) ys qs->∃ds,DatVs K H ys ds/\ds.length=ys.length/\PyData.canLayAll0 ds=true/\PyData.depthAll ds<=1
 | _,_,.nil=>⟨[],.nil,Y,Y,G0 _⟩
 | _,_,.cons ⟨a,e,ha⟩ r=>by
  subst e;obtain ⟨ds,d1,d2,d3,d4⟩:=CV (K:=K) r;refine ⟨_ :: ds,.cons (.tup (JW ha) (.cons (.int _) (.cons (.bl _) .nil))) d1,by rw [List.length_cons,List.length_cons,d2],?_,?_⟩
  ·simp [PyData.canLayAll0,PyData.canLay0,d3]
  ·simp only [PyData.depthAll,PyData.depth]; lia
theorem LS.keep2 {H H':Hp} {t kl p rm:Addr} {b:Int} {ks:List Kd} {xs ys:List V} (x:LS H t b ks kl) (hp:H p=↥xs) (hr:H rm=↥ys) (n1:kl≠p) (n2:kl≠rm) (bt:But2 p rm H H'):LS H' t b ks kl:=by obtain ⟨rs,h1,h2,h3⟩:=x;have k:∀a zs,H a= ~~~zs->H' a= ~~~zs:=λ a zs e=>bt _ _ (λ z=>by rw [z,hp] at e; cases e) (λ z=>by rw [z,hr] at e; cases e) e;exact ⟨rs,k _ _ h1,bt _ _ n1 n2 h2,Tups.keep k h3⟩
def FtL (ks:List Kd) (W h:Int) (q:Nat×Bool):Prop:=q∈lyK ks 0/\∃k,ks[q.1]? = some k/\sd1 k q.2<=W/\sd2 k q.2<=h
theorem vX {c:Bool} {a b:Prop} (h:c=true) (x:a):if c=true then a else b:=by rw [if_pos h]; exact x
theorem vY {c:Bool} {a b:Prop} (h:c=false) (x:b):if c=true then a else b:=by rw [if_neg (by rw [h]; exact Bool.false_ne_true)]; exact x
section
variable {P:G8} {w:JT} {K:C8} {mg:Str->Option JU} {base:Heap}
inductive spBeh (vs:List V) (H:Hp) (Q:VK) (E_:XK):Prop
 | mk (t kl:Addr) (b W h p:Int) (ks:List Kd) (dn:Bool) (e_1:vs=[.ref t,.int W,.int h,.str (wyS dn),.int p]) (e_2:LS H t b ks kl) (e_3:∀ (r r1 r2:Addr) (H':Hp),H' r= ~~~[.ref r1,.ref r2]->H' r1= ~~~[.int (if dn=true then p else W),.int (if dn=true then h else p)]->H' r2= ~~~[.int (if dn=true then W - p - b else W),.int (if dn=true then h else h - p - b)]->Same H H'->Q (.ref r) H'):spBeh vs H Q E_
inductive spLeafC (vs:List V) (H:Hp) (Q:VK) (E_:XK):Prop
 | mk (p t kl:Addr) (b W h:Int) (ks:List Kd) (e_1:vs=[.ref p,.ref t,.int W,.int h]) (e_2:PotC H p) (e_3:LS H t b ks kl) (e_4:kl≠p) (e_5:ks.length<=8) (e_6:(∀k∈ks,Good k)) (e_7:W < (9 * 10 ^ 59)) (e_8:h < (9 * 10 ^ 59)) (e_9:∀ (v:V) (T:Tr) (H':Hp),TrV H' T v->(∀b,okU b ks W h T)->lvN T=1->dT T=0->PotC H' p->But p H H'->Q v H'):spLeafC vs H Q E_
inductive spTreeC (n:Nat) (vs:List V) (H:Hp) (Q:VK) (E_:XK):Prop
 | mk (p t kl rm:Addr) (b W h r:Int) (ks:List Kd) (deep:Nat) (e_1:vs=[.ref p,.ref t,.int W,.int h,.int deep,.ref rm]) (e_2:PotC H p) (e_3:LS H t b ks kl) (e_4:kl≠p) (e_5:kl≠rm) (e_6:rm≠p) (e_7:ks.length<=8) (e_8:(∀k∈ks,Good k)) (e_9:0<=b) (e_10:W < (9 * 10 ^ 59)) (e_11:h < (9 * 10 ^ 59)) (e_12:H rm=↥[.int r]) (e_13:0<=r) (e_14:deep < n) (e_15:∀ (v:V) (T:Tr) (r':Int) (H':Hp),TrV H' T v->okU b ks W h T->0<=r'->(lvN T:Int)<=r - r' + 1->dT T<=deep->H' rm=↥[.int r']->PotC H' p->But2 p rm H H'->Q v H'):spTreeC n vs H Q E_
theorem scbeh:FnScope ["_law_shop_here","_law_wide","_law_high","_law_way","_law_p"] ["_law_shop_here","_law_wide","_law_high","_law_way","_law_p"] (defScope gx):=⟨Y,Y,Y,∅,Y,∅,∅⟩
theorem wR {f:Addr} {fd:I9} (F:Fun K "_law_behind" "_law_behind" gx f fd) (B:Blt mg):FnOk P w K mg base CX0 1 f fd ["_law_shop_here","_law_wide","_law_high","_law_way","_law_p"] (spBeh):=by
 refine F.ok scbeh (λ vs H Q E h=>?_) (λ cdv A outer s H vs Q E hr h=>?_)
 ·obtain ⟨t,kl,b,W,h1,p,ks,dn,rfl,_⟩:=h
  rfl
 obtain ⟨t,kl,b,W,h1,p,ks,dn,rfl,sh,q⟩:=h;have nd:=scbeh.nd;refine ⟨_,((((pv 3)<*>bL<*>cf)<|>((@aE _ _ _ _ _ ((@aE _ _ _ _ _ ((pv 4)^^^((pv 2)^^^ae)))^^^((@aE _ _ _ _ _ ((((pv 1)|||bd|||(pv 4))|||bd|||((pv 0)&&&ix_tup&&&ah))^^^((pv 2)^^^ae)))^^^ae)))⁻¹)<|>aF)<<<((@aE _ _ _ _ _ ((@aE _ _ _ _ _ ((pv 1)^^^((pv 4)^^^ae)))^^^((@aE _ _ _ _ _ ((pv 1)^^^((((pv 2)|||bd|||(pv 4))|||bd|||((pv 0)&&&ix_tup&&&ah))^^^ae)))^^^ae)))⁻¹)),?_⟩;obtain ⟨kr,ht,_⟩:=id sh;refine ff (λ R=>dn=false->R [↑t,⇑W,⇑h1,some (.str (wyS dn)),⇑p] H) (λ R hR=>?_) ?_
 ·refine ⟨_,Y,Y,_,Y,?_⟩;cases dn with
  | false=>exact vY ∅ (hR rfl)
  | true =>
   refine vX ∅ ?_;refine ⟨_,Y,_,Y,zS2,λ r1 hr1=>?_⟩;obtain ⟨H1,e1,k1,s1⟩:∃H',upd H r1 (.tup [.int p,.int h1])=H'/\H' r1= ~~~[.int p,.int h1]/\Same H H':=⟨_,Y,af,JV hr1⟩
   rw [show upd H r1 _=H1 from e1];refine ⟨_,Y,_,Y,_,_,Y,Y,_,Y,t,_,0,_,Y,Y,JW (s1 _ _ ht),Y,_,_,Y,Y,_,Y,zS2,λ r2 hr2=>?_⟩;obtain ⟨H2,e2,k2,s2⟩:∃H',upd H1 r2 (.tup [.int (W - p - b),.int h1])=H'/\H' r2= ~~~[.int (W - p - b),.int h1]/\Same H1 H':=⟨_,Y,af,JV hr2⟩
   rw [show upd H1 r2 _=H2 from e2];refine ⟨zS2,λ r hr=>?_⟩;obtain ⟨H3,e3,k3,s3⟩:∃H',upd H2 r (.tup [.ref r1,.ref r2])=H'/\H' r= ~~~[.ref r1,.ref r2]/\Same H2 H':=⟨_,Y,af,JV hr⟩
   rw [show upd H2 r _=H3 from e3];exact q r r1 r2 H3 k3 (s3 _ _ (s2 _ _ k1)) (s3 _ _ k2) (s1.trans (s2.trans s3))
 rintro rfl;refine ⟨_,Y,_,Y,zS2,λ r1 hr1=>?_⟩;obtain ⟨H1,e1,k1,s1⟩:∃H',upd H r1 (.tup [.int W,.int p])=H'/\H' r1= ~~~[.int W,.int p]/\Same H H':=⟨_,Y,af,JV hr1⟩
 rw [show upd H r1 _=H1 from e1];refine ⟨_,Y,_,Y,_,Y,_,_,Y,Y,_,Y,t,_,0,_,Y,Y,JW (s1 _ _ ht),Y,_,_,Y,Y,zS2,λ r2 hr2=>?_⟩;obtain ⟨H2,e2,k2,s2⟩:∃H',upd H1 r2 (.tup [.int W,.int (h1 - p - b)])=H'/\H' r2= ~~~[.int W,.int (h1 - p - b)]/\Same H1 H':=⟨_,Y,af,JV hr2⟩
 rw [show upd H1 r2 _=H2 from e2];refine ⟨zS2,λ r hr=>?_⟩;obtain ⟨H3,e3,k3,s3⟩:∃H',upd H2 r (.tup [.ref r1,.ref r2])=H'/\H' r= ~~~[.ref r1,.ref r2]/\Same H2 H':=⟨_,Y,af,JV hr⟩
 rw [show upd H2 r _=H3 from e3];exact q r r1 r2 H3 k3 (s3 _ _ (s2 _ _ k1)) (s3 _ _ k2) (s1.trans (s2.trans s3))
theorem scleafc:FnScope ["_law_pot_here","_law_shop_here","_law_wide","_law_high","_law_some","_law_kind","_law_turned","_law_own"] ["_law_pot_here","_law_shop_here","_law_wide","_law_high"] (defScope nH):=⟨Y,Y,Y,∅,Y,∅,∅⟩
theorem rh {f:Addr} {fd:I9} (F:Fun K "_law_leaf" "_law_leaf" nH f fd) (B:Blt mg) (DD:Dn P w K mg base "_law_take" ["_law_pot_here","_law_many"] 1 (spTake)) (DSd:Dn P w K mg base "_law_sides" ["_law_shop_here","_law_kind","_law_turned"] 1 (spSidesC)) (DLy:Dn P w K mg base "_law_lyings" ["_law_shop_here"] 1 (spLyingsC)):FnOk P w K mg base CX0 2 f fd ["_law_pot_here","_law_shop_here","_law_wide","_law_high"] (spLeafC):=by
 refine F.ok scleafc (λ vs H Q E h=>?_) (λ cdv A outer s H vs Q E hr h=>?_)
 ·obtain ⟨p,t,kl,b,W,h1,ks,rfl,_⟩:=h
  rfl
 refine fZ λ G9 k9=>?_;obtain ⟨p,t,kl,b,W,h1,ks,rfl,pt,sh,nk,k8,gk,w58,h58,q⟩:=h;refine k9 ?_;have nd:=scleafc.nd;have hu:=hr.units;refine ⟨_,((4∣(@aO _ _ _ _ ae))<<<((@bM _ _ _ _ _ _ _ _ E6 Y (bv (DLy∩((pv 1)^^^ae))) (aP Y (5•(6•aI))) ((7∣(DSd∩((pv 1)^^^((pv 5)^^^((pv 6)^^^ae)))))>>>((PW.pt (kn (((pv 7)&&&ix_tup&&&ah)<*>ic<*>(pv 2)) (iI (((pv 7)&&&ix_tup&&&ah)<*>ic<*>(pv 3)))))<|>(@ap _ _ _ (@bc _ _ _ _ (@dA _ _ _ _ _ _ _ _ _ _ _ _ G6 PySem.F.slot_list_append PySem.F.type_list_append bE (pv 4) ((@aE _ _ _ _ _ ((pv 5)^^^((pv 6)^^^ae)))^^^ae) Y Y Y Y Y) Y))<|>aF)) (by intro _; rfl))<<<(((PW.pt (cF ((pv 4)<*>(kQ hu)<*>(@aO _ _ _ _ ae)) (cD ((DD∩((pv 0)^^^(ah^^^ae)))<*>bL<*>ah))))<|>((@aE _ _ _ _ _ (cf^^^ae))⁻¹)<|>aF)<<<((@bg _ _ _ _ _ _ ((pv 4)&&&ix_list&&&(DD∩((pv 0)^^^((@aD _ _ _ _ _ _ _ _ _ aV Y B.len PySem.boot_len ((pv 4)^^^ae) ∅ ∅ Y Y)^^^ae)))) (aP Y (5•(6•aI))) Y Y Y)<<<((7∣(DSd∩((pv 1)^^^((pv 5)^^^((pv 6)^^^ae)))))<<<((@aE _ _ _ _ _ (cf^^^((pv 5)^^^((pv 6)^^^((DD∩((pv 0)^^^((((pv 2)|||bd|||((pv 7)&&&ix_tup&&&ah))|||aN|||ah)^^^ae)))^^^((DD∩((pv 0)^^^((((pv 3)|||bd|||((pv 7)&&&ix_tup&&&ah))|||aN|||ah)^^^ae)))^^^ae))))))⁻¹)))))),?_⟩;have sz:(1000:Nat) < sizeLine:=∅
 have e58:(10:Int) ^ 58 + 10 < 10 ^ 60:=∅
 have e60:(100:Int) < 10 ^ 60:=∅
 have ly8:=iY ks 0;refine av (λ R=>∀ (so:Addr) (H':Hp),H so=none->H' so=↥[]->Same H H'->R [↑p,↑t,⇑W,⇑h1,↑so,none,none,none] H') (λ Dd hR=>?_) ?_
 ·refine ⟨∅,λ so hso=>?_⟩;obtain ⟨H1,e1,k1,s1⟩:∃H',upd H so (.lst [])=H'/\H' so=↥[]/\Same H H':=⟨_,Y,af,JV hso⟩
  rw [show upd H so _=H1 from e1];exact hR so _ hso k1 s1
 rintro so H1 hso0 hso1 s1;have sh1:=sh.same s1;have pt1:=pt.same s1;have nsp:so≠p:=Ne.symm (pt.ne hso0);obtain ⟨kr,lst1,lst2,lst3⟩:=id sh;have nks:kl≠so:=ar lst2 hso0;have shk:∀ {Hx:Hp},But so H1 Hx->LS Hx t b ks kl:=λ bx=>by have k:∀a zs,H a= ~~~zs->_:=λ a zs e=>bx _ _ (ar e hso0) (s1 _ _ e);exact ⟨kr,k _ _ lst1,bx _ _ nks (s1 _ _ lst2),Tups.keep k lst3⟩
 have tks:∀ {Hx Hy:Hp} {us:List V},Hx so=↥us->But so Hx Hy->∀a zs,Hx a= ~~~zs->Hy a= ~~~zs:=λ h bx a zs e=>bx _ _ (λ z=>by rw [z,h] at e; cases e) e;refine aW (λ σ' H'=>∃ (v5 v6 v7:Option V) (us:List V) (qs:List (Nat×Bool)),σ'=[↑p,↑t,⇑W,⇑h1,↑so,v5,v6,v7]/\H' so=↥us/\Paired (LyC H') us qs/\(∀q∈qs,FtL ks W h1 q)/\us.length<=16/\But so H1 H') (λ R hR=>?_) ?_
 ·refine ⟨_,Y,t,kl,b,ks,Y,sh1,k8,λ l ys H2 hl hl0 pl s2=>?_⟩;have yl:=E5 pl;have nls:l≠so:=λ z=>by rw [z,hso1] at hl0; cases hl0
  refine ⟨l,Y,⟨_,JX hl⟩,dD (xs:=ys) (λ i σ' H'=>(∃ (v5 v6 v7:Option V) (us:List V) (qs:List (Nat×Bool)),σ'=[↑p,↑t,⇑W,⇑h1,↑so,v5,v6,v7]/\H' so=↥us/\Paired (LyC H') us qs/\(∀q∈qs,FtL ks W h1 q)/\us.length<=i/\But so H1 H')/\But so H2 H') ⟨⟨_,_,_,[],[],Y,s2 _ _ hso1,.nil,(λ q hq=>by simp at hq),B6 _,CQ s2⟩,But.refl'⟩ (λ i σ H' _ h=>JX (h.2 _ _ nls hl)) ?_ (λ σ H' h=>hR _ _ (by obtain ⟨v5,v6,v7,us,qs,h1,h2,h3,h4,h5,h6⟩:=h.1; exact ⟨v5,v6,v7,us,qs,h1,h2,h3,h4,⋯,h6⟩))⟩;rintro i x _ H3 hi ⟨⟨v5,v6,v7,us,qs,rfl,hu3,pu3,ft3,ul3,b13⟩,b23⟩;obtain ⟨q0,hq0,aq,rfl,haq⟩:=JZ pl hi;have hin:i < ys.length:=(A9.mp hi).1;have hly:=B8 hq0;obtain ⟨_,kk,hkk,_⟩:=lq hly;have hkk:ks[q0.1]? = some kk:=by simpa using hkk
  have haq3:=tks (s2 _ _ hso1) b23 _ _ haq;refine ⟨aq,_,Y,JW haq3,Y,_,_,Y,_,_,Y,Y,?_⟩;refine av (λ R=>∀ (ow:Addr) (H':Hp),H' ow= ~~~[.int (sd1 kk q0.2),.int (sd2 kk q0.2)]->Same H3 H'->R [↑p,↑t,⇑W,⇑h1,↑so,⇑q0.1,some (.bl q0.2),↑ow] H') (λ Dd hR=>?_) ?_
  ·exact ⟨_,Y,_,Y,_,Y,t,kl,b,ks,q0.1,q0.2,kk,Y,shk b13,hkk,λ r H4 hr s4=>hR r _ hr s4⟩
  rintro ow H4 how s34;have hu4:=s34 _ _ hu3;have pu4:Paired (LyC H4) us qs:=JY pu3 λ v q h=>h.keep λ a xs e=>s34 _ _ e;have b14:But so H1 H4:=λ c o n e=>s34 _ _ (b13 _ _ n e);have b24:But so H2 H4:=λ c o n e=>s34 _ _ (b23 _ _ n e);have skip:(∃ (v5 v6 v7:Option V) (us':List V) (qs':List (Nat×Bool)),[↑p,↑t,⇑W,⇑h1,↑so,⇑q0.1,some (.bl q0.2),↑ow]=[↑p,↑t,⇑W,⇑h1,↑so,v5,v6,v7]/\H4 so=↥us'/\Paired (LyC H4) us' qs'/\(∀q∈qs',FtL ks W h1 q)/\us'.length<=i + 1/\But so H1 H4)/\But so H2 H4:=⟨⟨_,_,_,us,qs,Y,hu4,pu4,ft3,⋯,b14⟩,b24⟩
  refine ⟨_,Y,ow,_,0,_,Y,Y,JW how,Y,_,Y,_,_,Y,Y,_,Y,?_⟩;refine cP (λ c1=>?_) (λ c1=>skip);refine ⟨_,Y,ow,_,1,_,Y,Y,JW how,Y,_,Y,_,_,Y,Y,_,Y,?_⟩;refine cP (λ c2=>?_) (λ c2=>skip);refine ⟨_,Y,.inl ⟨Y,_,JX hu4⟩,_,Y,_,Y,zS2,λ tp htp=>?_⟩;obtain ⟨H5,e5,k5,s5⟩:∃H',upd H4 tp (.tup [.int q0.1,.bl q0.2])=H'/\H' tp= ~~~[.int q0.1,.bl q0.2]/\Same H4 H':=⟨_,Y,af,JV htp⟩
  rw [show upd H4 tp _=H5 from e5];have hu5:=s5 _ _ hu4;have bu:But so H5 (upd H5 so (.lst (us ++ [.ref tp]))):=λ c o n e=>by rw [au n]; exact e
  refine ⟨so,_,_,Y,Y,hu5,⋯,⟨_,_,_,us ++ [.ref tp],qs ++ [q0],Y,af,?_,λ q hq=>?_,by rw [List.length_append]; show us.length + 1<=_; lia,λ c o n e=>bu _ _ n (s5 _ _ (b14 _ _ n e))⟩,λ c o n e=>bu _ _ n (s5 _ _ (b24 _ _ n e))⟩
  ·exact fg (JY pu4 λ v q h=>h.keep λ a xs e=>tks hu5 bu _ _ (s5 _ _ e)) (.cons ⟨tp,Y,tks hu5 bu _ _ k5⟩ .nil)
  ·rcases C6.mp hq with hq | hq
   ·exact ft3 q hq
   ·rw [List.mem_singleton.mp hq];exact ⟨hly,kk,hkk,C3 c1,C3 c2⟩
 intro _ H2 hI9;refine fZ λ G9 k9=>?_;obtain ⟨v5,v6,v7,us,qs,rfl,hu2,pu2,ft,ul,b12⟩:=hI9;refine k9 ?_;have pt2:PotC H2 p:=by obtain ⟨a,b,h1,h2,h3,e⟩:=pt1;exact ⟨a,b,h1,h2,h3,b12 _ _ (Ne.symm nsp) e⟩
 have b02:But p H H2:=λ c o n e=>b12 _ _ (ar e hso0) (s1 _ _ e);have sh2:=shk b12;have rest:∀Hx,But p H Hx->PotC Hx p->∀r,Hx r=none->Q (.ref r) (upd Hx r (.tup [.str "rest"])):=λ Hx bx px r hr=>by obtain ⟨H9,e9,k9,n9,s9,b9,pt9⟩:=gc (o:=.tup [.str "rest"]) bx px hr;rw [show upd Hx r _=H9 from e9];exact q _ .rest H9 ⟨r,rfl,k9⟩ (λ _=>trivial) rfl rfl pt9 b9
 refine ff (λ R=>∀ (H':Hp),us≠[]->H' so=↥us->Paired (LyC H') us qs->LS H' t b ks kl->PotC H' p->But p H H'->R [↑p,↑t,⇑W,⇑h1,↑so,v5,v6,v7] H') (λ R hR=>?_) ?_
 ·refine ⟨_,Y,∅,λ e he=>?_⟩;obtain ⟨H3,e3,k3,n3,s3,b3,pt3⟩:=gc (o:=.lst []) b02 pt2 he;rw [show upd H2 e _=H3 from e3];obtain ⟨ds,d1,d2,d3,d4⟩:=CV (K:=K) (JY pu2 λ v q h=>h.keep λ a xs e=>s3 _ _ e);obtain ⟨sh1,sh2',sh3⟩:=rf d3 d4;refine ⟨.list ds,.list [],.lst (JX (s3 _ _ hu2)) d1,.lst (JX k3) .nil,sh1,∅,_,Y,?_⟩
  by_cases hz0:us=[]
  ·rw [sh2' (by rw [hz0] at d2; exact List.eq_nil_of_length_eq_zero d2)];exact aZ (aZ ⟨zS1,λ r hr=>rest _ b3 pt3 r hr⟩)
  rw [sh3 (λ z=>hz0 (by rw [z] at d2; exact List.eq_nil_of_length_eq_zero d2.symm))];refine aQ ⟨_,rfl,p,5,rfl,pt3,∅,∅,λ z H4 z0 z1 pt4 b4=>⟨rfl,_,rfl,?_⟩⟩;refine cP (λ cc=>⟨zS1,λ r hr=>rest _ (b3.trans b4) pt4 r hr⟩) (λ cc=>?_);exact hR _ hz0 (b4 _ _ nsp (s3 _ _ hu2)) (JY pu2 (λ v q h=>h.keep λ a xs e=>lr b4 pt3 (s3 _ _ e))) ((sh2.same s3).but nk pt3 b4) pt4 (b3.trans b4)
 rintro H3 une hu3 pu3 sh3 pt3 b03;have u1:1<=us.length:=Nat.pos_of_ne_zero λ z=>une (List.eq_nil_of_length_eq_zero z);refine av (λ R=>∀ (i:Nat) (c:Bool) (k:Kd) (H':Hp),(i,c)∈lyK ks 0->ks[i]? = some k->sd1 k c<=W->sd2 k c<=h1->LS H' t b ks kl->PotC H' p->But p H H'->R [↑p,↑t,⇑W,⇑h1,↑so,⇑i,some (.bl c),v7] H') (λ Dd hR=>?_) ?_
 ·refine ⟨_,Y,_,Y,_,Y,so,_,Y,.inl (JX hu3),p,_,Y,pt3,⋯,⋯,λ r H4 r0 r1 pt4 b4=>?_⟩;obtain ⟨v,hv⟩:∃v,us[r.toNat]? = some v:=⟨_,G2 (show r.toNat < us.length by lia)⟩
  obtain ⟨q0,hq0,aq,rfl,haq⟩:=JZ pu3 hv;obtain ⟨f1,k,hk,f2,f3⟩:=ft q0 (B8 hq0);exact ⟨so,_,_,_,Y,Y,JX (b4 _ _ nsp hu3),aK r0 hv,aq,_,Y,JW (lr b4 pt3 haq),Y,_,_,Y,_,_,Y,Y,hR q0.1 q0.2 k _ f1 hk f2 f3 (sh3.but nk pt3 b4) pt4 (b03.trans b4)⟩
 rintro i c k H4 hly hk f2 f3 sh4 pt4 b04;refine av (λ R=>∀ (ow:Addr) (H':Hp),H' ow= ~~~[.int (sd1 k c),.int (sd2 k c)]->PotC H' p->But p H H'->R [↑p,↑t,⇑W,⇑h1,↑so,⇑i,some (.bl c),↑ow] H') (λ Dd hR=>?_) ?_
 ·exact ⟨_,Y,_,Y,_,Y,t,kl,b,ks,i,c,k,Y,sh4,hk,λ r H5 hr s5=>hR r _ hr (pt4.same s5) (λ c o n e=>s5 _ _ (b04 _ _ n e))⟩
 rintro ow H5 how pt5 b05;have g:=gk k (B8 hk);have sp:1<=sd1 k c/\1<=sd2 k c:=by have:=g.w; have:=g.h; cases c <;> exact ⟨by assumption,by assumption⟩
 refine ⟨_,Y,_,Y,_,Y,_,Y,_,Y,ow,_,0,_,Y,Y,JW how,Y,_,_,Y,Y,_,_,Y,Y,p,W - sd1 k c + 1,Y,pt5,⋯,⋯,λ x H6 x0 x1 pt6 b6=>?_⟩;have how6:=lr b6 pt5 how;refine ⟨_,Y,_,Y,_,Y,ow,_,1,_,Y,Y,JW how6,Y,_,_,Y,Y,_,_,Y,Y,p,h1 - sd2 k c + 1,Y,pt6,⋯,⋯,λ y H7 y0 y1 pt7 b7=>?_⟩;refine ⟨zS5,λ r hr=>?_⟩;obtain ⟨H8,e8,k8,n8,s8,b8,pt8⟩:=gc (o:=.tup [.str "piece",.int i,.bl c,.int x,.int y]) ((b05.trans b6).trans b7) pt7 hr;rw [show upd H7 r _=H8 from e8];exact q _ (.piece i c x y) H8 ⟨r,rfl,k8⟩ (λ _=>⟨k,hk,hly,x0,y0,⋯,⋯⟩) rfl rfl pt8 b8
end
section
variable {P:G8} {w:JT} {K:C8} {mg:Str->Option JU} {base:Heap}
theorem sctreec:FnScope ["_law_pot_here","_law_shop_here","_law_wide","_law_high","_law_deep","_law_room","_law_way","_law_side_here","_law_p","_law_one","_law_other","_law_first"] ["_law_pot_here","_law_shop_here","_law_wide","_law_high","_law_deep","_law_room"] (defScope iC):=⟨Y,Y,Y,∅,Y,∅,∅⟩
theorem rj {f:Addr} {fd:I9} (F:Fun K "_law_tree" "_law_tree" iC f fd) (B:Blt mg) (n:Nat) (DD:Dn P w K mg base "_law_take" ["_law_pot_here","_law_many"] 1 (spTake)) (DBh:Dn P w K mg base "_law_behind" ["_law_shop_here","_law_wide","_law_high","_law_way","_law_p"] 1 (spBeh)) (DLf:Dn P w K mg base "_law_leaf" ["_law_pot_here","_law_shop_here","_law_wide","_law_high"] 2 (spLeafC)) (DT:Dn P w K mg base "_law_tree" ["_law_pot_here","_law_shop_here","_law_wide","_law_high","_law_deep","_law_room"] (3 + n) (spTreeC n)):FnOk P w K mg base CX0 (3 + (n + 1)) f fd ["_law_pot_here","_law_shop_here","_law_wide","_law_high","_law_deep","_law_room"] (spTreeC (n + 1)):=by
 refine F.ok sctreec (λ vs H Q E h=>?_) (λ cdv A outer s H vs Q E hr h=>?_)
 ·obtain ⟨p,t,kl,rm,b,W,h1,r,ks,deep,rfl,_⟩:=h
  rfl
 obtain ⟨p,t,kl,rm,b,W,h1,r,ks,deep,rfl,pt,sh,nk,nkr,nrp,k8,gk,b0,w58,h58,hrm,r0,dn0,q⟩:=h;have nd:=sctreec.nd;refine ⟨_,((6∣((@aO _ _ _ _ (cf^^^(cf^^^ae)))&&&ix_list&&&(@aw _ _ _ _ _ _ _ _ _ _ DD (hr.mono (show 1<=3 + n by lia)) Y ((pv 0)^^^(ah^^^ae)) ∅ Y Y)))<<<((7∣((((@aO _ _ _ _ ((pv 2)^^^((pv 3)^^^ae)))&&&ix_list&&&(@bq _ _ _ _ _ _ _ _ _ fD Y B.int PyProof.Rows.boot_int ((@bI _ _ _ _ _ _ _ _ bL (pv 6) cf (aG _))^^^ae) ∅ ∅ Y Y))|||bd|||((pv 1)&&&ix_tup&&&ah))|||bd|||ah))<<<(((PW.pt (cF ((pv 4)<*>bL<*>ah) (cF (((pv 5)&&&ix_list&&&ah)<*>bL<*>ah) (cF ((pv 7)<*>qe<*>ah) (cD ((@aw _ _ _ _ _ _ _ _ _ _ DD (hr.mono (show 1<=3 + n by lia)) Y ((pv 0)^^^(ah^^^ae)) ∅ Y Y)<*>bL<*>ah))))))<|>((@aw _ _ _ _ _ _ _ _ _ _ DLf (hr.mono (show 2<=3 + n by lia)) Y ((pv 0)^^^((pv 1)^^^((pv 2)^^^((pv 3)^^^ae)))) ∅ Y Y)⁻¹)<|>aF)<<<((@bg _ _ _ _ _ _ (((pv 5)&&&ix_list&&&ah)|||bd|||ah) (iJ (pv 5) ah dF) Y Y Y)<<<((8∣(ah|||aN|||((@aO _ _ _ _ ((@aw _ _ _ _ _ _ _ _ _ _ DD (hr.mono (show 1<=3 + n by lia)) Y ((pv 0)^^^((pv 7)^^^ae)) ∅ Y Y)^^^(((pv 7)|||gI|||ah)^^^((@aw _ _ _ _ _ _ _ _ _ _ DD (hr.mono (show 1<=3 + n by lia)) Y ((pv 0)^^^((@aD _ _ _ _ _ _ _ _ _ (dP Y) Y B.min PyProof.Rows.boot_min ((pv 7)^^^(ah^^^ae)) ∅ ∅ Y Y)^^^ae)) ∅ Y Y)^^^ae))))&&&ix_list&&&(@aw _ _ _ _ _ _ _ _ _ _ DD (hr.mono (show 1<=3 + n by lia)) Y ((pv 0)^^^(ah^^^ae)) ∅ Y Y))))<<<((8∣(@aD _ _ _ _ _ _ _ _ _ (dP Y) Y B.min PyProof.Rows.boot_min ((pv 8)^^^((pv 7)^^^ae)) ∅ ∅ Y Y))<<<((@bg _ _ _ _ _ _ (@aw _ _ _ _ _ _ _ _ _ _ DBh (hr.mono (show 1<=3 + n by lia)) Y ((pv 1)^^^((pv 2)^^^((pv 3)^^^((pv 6)^^^((pv 8)^^^ae))))) ∅ Y Y) (aP Y (9•(10•aI))) Y Y Y)<<<((11∣(DT∪((pv 0)^^^((pv 1)^^^(((pv 9)&&&ix_tup&&&ah)^^^(((pv 9)&&&ix_tup&&&ah)^^^(((pv 4)|||bd|||ah)^^^((pv 5)^^^ae))))))))<<<((@aE _ _ _ _ _ ((pv 6)^^^((pv 8)^^^((pv 11)^^^((DT∪((pv 0)^^^((pv 1)^^^(((pv 10)&&&ix_tup&&&ah)^^^(((pv 10)&&&ix_tup&&&ah)^^^(((pv 4)|||bd|||ah)^^^((pv 5)^^^ae)))))))^^^ae)))))⁻¹))))))))),?_⟩;have e58:(10:Int) ^ 58 + 10 < 10 ^ 60:=∅
 have e60:(100:Int) < 10 ^ 60:=∅
 have sz:(1000:Nat) < sizeLine:=∅
 obtain ⟨_,hp0⟩:=fi pt;refine av (λ R=>∀ (dn:Bool) (H':Hp),PotC H' p->But p H H'->R [↑p,↑t,⇑W,⇑h1,⇑deep,↑rm,some (.str (wyS dn)),none,none,none,none,none] H') (λ Dd hR=>?_) ?_
 ·refine ⟨zS2,λ l hl=>?_⟩;obtain ⟨H1, e1, k1, n1, s1, b1, pt1⟩:=gc (o:=.lst [.str "down", .str "across"]) But.refl' pt hl;rw [show upd H l _=H1 from e1];refine ⟨_,Y,p,2,Y,pt1,∅,∅,λ z H2 z0 z1 pt2 b2=>?_⟩;have:z=0\/z=1:=⋯
  rcases this with rfl | rfl
  ·exact ⟨l,_,_,_,Y,Y,JX (b2 _ _ n1 k1),Y,hR true _ pt2 (b1.trans b2)⟩
  ·exact ⟨l,_,_,_,Y,Y,JX (b2 _ _ n1 k1),Y,hR false _ pt2 (b1.trans b2)⟩
 rintro dn H1 pt1 b1;have sh1:=sh.but nk pt b1;have hrm1:=b1 _ _ nrp hrm;refine av (λ R=>∀ (sd:Int) (H':Hp),sd=(if dn=true then W else h1) - b - 1->Same H1 H'->R [↑p,↑t,⇑W,⇑h1,⇑deep,↑rm,some (.str (wyS dn)),⇑sd,none,none,none,none] H') (λ Dd hR=>?_) ?_
 ·refine ⟨_,Y,_,Y,zS2,λ rl hrl=>?_⟩;obtain ⟨H2,e2,k2,s2⟩:∃H',upd H1 rl (.lst [.int W,.int h1])=H'/\H' rl=↥[.int W,.int h1]/\Same H1 H':=⟨_,Y,af,JV hrl⟩
  rw [show upd H1 rl _=H2 from e2];obtain ⟨kr,ht,_⟩:=id (sh1.same s2);refine ⟨_,Y,Y,.inr ⟨_,Y,rl,_,_,.int (if dn=true then W else h1),Y,Y,JX k2,?_,_,Y,t,_,0,_,Y,Y,JW ht,Y,_,_,Y,Y,_,_,Y,Y,hR _ _ rfl s2⟩⟩;cases dn with
  | true =>
   rw [show decide (V.str (wyS true)=V.str "across")=false by decide +kernel]
   rfl
  | false =>
   rw [show decide (V.str (wyS false)=V.str "across")=true by decide +kernel]
   rfl
 rintro sd H2 esd s12;have pt2:=pt1.same s12;have sh2:=sh1.same s12;have hrm2:=s12 _ _ hrm1;have b2:But p H H2:=λ c o n e=>s12 _ _ (b1 _ _ n e);have leaf:∀Hx,But p H Hx->PotC Hx p->spLeafC [.ref p,.ref t,.int W,.int h1] Hx Q E0:=λ Hx bx px =>
  ⟨p,t,kl,b,W,h1,ks,rfl,px,sh.but nk pt bx,nk,k8,gk,w58,h58,λ v T H' tv ok ln d0 pt' b'=>q v T r H' tv (ok b) r0 ⋯ ⋯ (b' _ _ nrp (bx _ _ nrp hrm)) pt' (But2.but (bx.trans b'))⟩
 refine ff (λ R=>∀ (H':Hp),1<=r->1<=deep->1<=sd->PotC H' p->But p H H'->R [↑p,↑t,⇑W,⇑h1,⇑deep,↑rm,some (.str (wyS dn)),⇑sd,none,none,none,none] H') (λ R hR=>?_) ?_
 ·refine ⟨_,Y,Y,_,Y,?_⟩
  by_cases c1:deep=0
  ·rw [show decide (V.int (deep:Int)=V.int 0)=true from decide_eq_true (by rw [c1]; rfl)];exact aZ (aZ ⟨_,rfl,_,rfl,_,rfl,_,rfl,leaf _ b2 pt2⟩)
  rw [show decide (V.int (deep:Int)=V.int 0)=false from decide_eq_false (λ z=>c1 (by have:=V.int.inj z; lia))];refine aQ ⟨_,rfl,rm,_,0,_,rfl,rfl,JX hrm2,rfl,rfl,_,rfl,?_⟩
  by_cases c2:r=0
  ·rw [show decide (V.int r=V.int 0)=true from decide_eq_true (by rw [c2])];exact aZ (aZ ⟨_,rfl,_,rfl,_,rfl,_,rfl,leaf _ b2 pt2⟩)
  rw [show decide (V.int r=V.int 0)=false from decide_eq_false (λ z=>c2 (V.int.inj z))];refine aQ ⟨_,rfl,_,_,rfl,rfl,_,rfl,?_⟩
  by_cases c3:sd < 1
  ·rw [decide_eq_true c3];exact aZ (aZ ⟨_,rfl,_,rfl,_,rfl,_,rfl,leaf _ b2 pt2⟩)
  rw [decide_eq_false c3];refine aQ ⟨_,rfl,p,4,rfl,pt2,∅,∅,λ z H3 z0 z1 pt3 b3=>⟨rfl,_,rfl,?_⟩⟩;refine cP (λ cc=>⟨_,Y,_,Y,_,Y,_,Y,leaf _ (b2.trans b3) pt3⟩) (λ cc=>hR _ ⋯ ⋯ ⋯ pt3 (b2.trans b3))
 clear leaf sh2 pt2 b2 hrm2 s12 sh1 hrm1 b1 pt1;clear H2 H1;rintro H3 r1 deep1 sd1' pt3 b3;have hrm3:=b3 _ _ nrp hrm;obtain ⟨d',hd'⟩:∃d',deep=d' + 1:=⟨deep - 1,⋯⟩
 have ed:((deep:Int) - 1)=(d':Int):=⋯
 refine av (λ R=>∀ (H':Hp),H' rm=↥[.int (r - 1)]->PotC H' p->But2 p rm H H'->R [↑p,↑t,⇑W,⇑h1,⇑deep,↑rm,some (.str (wyS dn)),⇑sd,none,none,none,none] H') (λ Dd hR=>?_) ?_
 ·exact ⟨_,Y,rm,_,0,_,Y,Y,JX hrm3,Y,_,_,Y,Y,_,Y,rm,_,0,0,Y,Y,hrm3,Y,hR _ af (pt3.put (Ne.symm nrp)) (λ c o n1 n2 e=>by rw [au n2]; exact b3 _ _ n1 e)⟩
 rintro H4 hrm4 pt4 b4;have sdm:sd < (9 * 10 ^ 59):=by rw [esd]; cases dn <;> simp only [if_true,Bool.false_eq_true,if_false] <;> lia
 refine av (λ R=>∀ (pl:Int) (H':Hp),1<=pl->PotC H' p->But p H4 H'->R [↑p,↑t,⇑W,⇑h1,⇑deep,↑rm,some (.str (wyS dn)),⇑sd,⇑pl,none,none,none] H') (λ Dd hR=>?_) ?_
 ·refine ⟨_,Y,_,Y,p,sd,Y,pt4,⋯,⋯,λ z1 H5 z10 z11 pt5 b5=>⟨_,Y,_,_,Y,Y,⟨∅,∅⟩,_,Y,_,Y,_,_,Y,p,_,Y,pt5,?_,?_,λ z2 H6 z20 z21 pt6 b6=>⟨zS3,λ l hl=>?_⟩⟩⟩
  ·show 0 < (if (9:Int) < sd then 9 else sd)
   split <;> lia
  ·show (if (9:Int) < sd then 9 else sd)<=_
   split <;> lia
  obtain ⟨H7,e7,k7,n7,s7,b7,pt7⟩:=gc (o:=.lst [.int z1,.int (sd / 2),.int z2]) (b5.trans b6) pt6 hl;rw [show upd H6 l _=H7 from e7];refine ⟨_,Y,p,3,Y,pt7,∅,∅,λ z H8 z0 z1' pt8 b8=>?_⟩;have d0:0<=sd / 2:=Int.ediv_nonneg ⋯ ∅;obtain ⟨xx,hxx,xx0⟩:∃xx:Int,atI [V.int z1,V.int (sd / 2),V.int z2] z=⇑xx/\0<=xx:=by
   have:z=0\/z=1\/z=2:=⋯
   rcases this with rfl | rfl | rfl
   ·exact ⟨_,Y,z10⟩
   ·exact ⟨_,Y,d0⟩
   ·exact ⟨_,Y,z20⟩
  exact ⟨l,_,_,_,Y,Y,JX (b8 _ _ n7 k7),hxx,_,_,Y,Y,hR (1 + xx) _ ⋯ pt8 (b7.trans b8)⟩
 rintro pl0 H5 pl01 pt5 b45;refine av (λ R=>∀ (pl:Int),1<=pl->pl<=sd->R [↑p,↑t,⇑W,⇑h1,⇑deep,↑rm,some (.str (wyS dn)),⇑sd,⇑pl,none,none,none] H5) (λ Dd hR=>?_) ?_
 ·refine ⟨_,Y,_,Y,_,_,Y,hR _ ?_ ?_⟩
  ·split <;> lia
  ·split <;> lia
 rintro pl pl1 pls;have b05:But2 p rm H H5:=b4.trans (But2.but b45);have hrm5:=b45 _ _ nrp hrm4;have sh5:LS H5 t b ks kl:=sh.keep2 hp0 hrm nk nkr b05;refine av (λ R=>∀ (o1 o2:Addr) (H':Hp),H' o1= ~~~[.int (if dn=true then pl else W),.int (if dn=true then h1 else pl)]->H' o2= ~~~[.int (if dn=true then W - pl - b else W),.int (if dn=true then h1 else h1 - pl - b)]->Same H5 H'->R [↑p,↑t,⇑W,⇑h1,⇑deep,↑rm,some (.str (wyS dn)),⇑sd,⇑pl,↑o1,↑o2,none] H') (λ Dd hR=>?_) ?_
 ·exact ⟨_,Y,_,Y,_,Y,_,Y,_,Y,t,kl,b,W,h1,pl,ks,dn,Y,sh5,λ rr r1 r2 H6 e1 e2 e3 s6=>⟨rr,_,Y,JW e1,Y,_,_,Y,_,_,Y,Y,hR r1 r2 _ e2 e3 s6⟩⟩
 rintro o1 o2 H6 ho1 ho2 s56;have pt6:=pt5.same s56;have hrm6:=s56 _ _ hrm5;have sh6:=sh5.same s56;obtain ⟨_,hp6⟩:=fi pt6;have a1:(if dn=true then pl else W) < (9 * 10 ^ 59):=by split <;> lia
 have a2:(if dn=true then h1 else pl) < (9 * 10 ^ 59):=by cases dn <;> simp only [if_true,Bool.false_eq_true,if_false] at * <;> lia
 have a3:(if dn=true then W - pl - b else W) < (9 * 10 ^ 59):=by split <;> lia
 have a4:(if dn=true then h1 else h1 - pl - b) < (9 * 10 ^ 59):=by split <;> lia
 refine av (λ R=>∀ (v1:V) (T1:Tr) (r1:Int) (H':Hp),TrV H' T1 v1->okU b ks (if dn=true then pl else W) (if dn=true then h1 else pl) T1->0<=r1->(lvN T1:Int)<=r - 1 - r1 + 1->dT T1<=d'->H' rm=↥[.int r1]->PotC H' p->But2 p rm H6 H'->R [↑p,↑t,⇑W,⇑h1,⇑deep,↑rm,some (.str (wyS dn)),⇑sd,⇑pl,↑o1,↑o2,some v1] H') (λ Dd hR=>?_) ?_
 ·exact ⟨_,Y,_,Y,_,Y,o1,_,0,_,Y,Y,JW ho1,Y,_,Y,o1,_,1,_,Y,Y,JW ho1,Y,_,Y,_,_,Y,Y,_,Y,p,t,kl,rm,b,_,_,r - 1,ks,d',(by rw [<- ed]; rfl),pt6,sh6,nk,nkr,nrp,k8,gk,b0,a1,a2,hrm6,⋯,⋯,λ v T r' H7 tv ok r0' ln dp hrm7 pt7 b7=>hR v T r' _ tv ok r0' ln dp hrm7 pt7 b7⟩
 rintro v1 T1 q1 H7 tv1 ok1 q10 ln1 dp1 hrm7 pt7 b67;have sh7:=sh6.keep2 hp6 hrm6 nk nkr b67;have kt:∀ {Ha Hb:Hp} {xs ys:List V},Ha p=↥xs->Ha rm=↥ys->But2 p rm Ha Hb->∀a zs,Ha a= ~~~zs->Hb a= ~~~zs:=λ e1 e2 bb a zs e=>bb _ _ (λ z=>by rw [z,e1] at e; cases e) (λ z=>by rw [z,e2] at e; cases e) e;have ho2':=kt hp6 hrm6 b67 _ _ ho2;refine ⟨_,Y,_,Y,_,Y,_,Y,_,Y,_,Y,o2,_,0,_,Y,Y,JW ho2',Y,_,Y,o2,_,1,_,Y,Y,JW ho2',Y,_,Y,_,_,Y,Y,_,Y,p,t,kl,rm,b,_,_,q1,ks,d',(by rw [<- ed]; rfl),pt7,sh7,nk,nkr,nrp,k8,gk,b0,a3,a4,hrm7,q10,⋯,λ v2 T2 q2 H8 tv2 ok2 q20 ln2 dp2 hrm8 pt8 b78=>?_⟩;obtain ⟨_,hp7⟩:=fi pt7;refine ⟨zS4,λ tt htt=>?_⟩;obtain ⟨H9,e9,k9,s9⟩:∃H',upd H8 tt (.tup [.str (wyS dn),.int pl,v1,v2])=H'/\H' tt= ~~~[.str (wyS dn),.int pl,v1,v2]/\Same H8 H':=⟨_,Y,af,JV htt⟩
 rw [show upd H8 tt _=H9 from e9];refine q _ (.cut dn pl T1 T2) q2 H9 ⟨tt,v1,v2,rfl,k9,TrV.keep (λ a xs e=>s9 _ _ (kt hp7 hrm7 b78 _ _ e)) T1 tv1,TrV.keep (λ a xs e=>s9 _ _ e) T2 tv2⟩ ⟨pl1,?_⟩ q20 (by show ((lvN T1 + lvN T2:Nat):Int)<=_; lia) (by show max (dT T1) (dT T2) + 1<=_; lia) (s9 _ _ hrm8) (pt8.same s9) (λ c o n1 n2 e=>s9 _ _ (b78 _ _ n1 n2 (b67 _ _ n1 n2 (s56 _ _ (b05 _ _ n1 n2 e)))));cases dn with
 | true =>
  have esd:sd=W - b - 1:=esd;exact ⟨⋯,ok1,ok2⟩
 | false =>
  have esd:sd=h1 - b - 1:=esd;exact ⟨⋯,ok1,ok2⟩
theorem pF {f:Addr} {fd:I9} (F:Fun K "_law_tree" "_law_tree" iC f fd):FnOk P w K mg base CX0 3 f fd ["_law_pot_here","_law_shop_here","_law_wide","_law_high","_law_deep","_law_room"] (spTreeC 0):=by
 refine F.ok sctreec (λ vs H Q E h=>?_) (λ cdv A outer s H vs Q E hr h=>?_)
 ·obtain ⟨p,t,kl,rm,b,W,h1,r,ks,deep,rfl,_⟩:=h
  rfl
 ·obtain ⟨p,t,kl,rm,b,W,h1,r,ks,deep,_,_,_,_,_,_,_,_,_,_,_,_,_,z,_⟩:=h;exact absurd z (Nat.not_lt_zero _)
theorem iF {f:Addr} {fd:I9} (F:Fun K "_law_tree" "_law_tree" iC f fd) (B:Blt mg) (DD:Dn P w K mg base "_law_take" ["_law_pot_here","_law_many"] 1 (spTake)) (DBh:Dn P w K mg base "_law_behind" ["_law_shop_here","_law_wide","_law_high","_law_way","_law_p"] 1 (spBeh)) (DLf:Dn P w K mg base "_law_leaf" ["_law_pot_here","_law_shop_here","_law_wide","_law_high"] 2 (spLeafC)) (mk:∀n,FnOk P w K mg base CX0 (3 + n) f fd ["_law_pot_here","_law_shop_here","_law_wide","_law_high","_law_deep","_law_room"] (spTreeC n)->Dn P w K mg base "_law_tree" ["_law_pot_here","_law_shop_here","_law_wide","_law_high","_law_deep","_law_room"] (3 + n) (spTreeC n)):∀n,FnOk P w K mg base CX0 (3 + n) f fd ["_law_pot_here","_law_shop_here","_law_wide","_law_high","_law_deep","_law_room"] (spTreeC n)
 | 0=>pF F
 | n + 1=>rj F B n DD DBh DLf (mk n (iF F B DD DBh DLf mk n))
end
structure Lf where
 x:Int
 y:Int
 w:Int
 h:Int
 t:Tr
def lvs (b:Int):Tr->Int->Int->Int->Int->List Lf
 | .cut true p l r,x,y,w,h=>lvs b r (x + (p + b)) y (w - p - b) h ++ lvs b l x y p h
 | .cut false p l r,x,y,w,h=>lvs b r x (y + (p + b)) w (h - p - b) ++ lvs b l x y w p
 | .rest,x,y,w,h=>[⟨x,y,w,h,.rest⟩]
 | .piece i c u v,x,y,w,h=>[⟨x,y,w,h,.piece i c u v⟩]
def LfAt (p:Addr) (H0 H:Hp) (v:V) (t:Lf):Prop:=∃a u d,v=.ref a/\H a= ~~~[.int t.x,.int t.y,.int t.w,.int t.h,u]/\Dt p H0 u d/\TrD t.t d
theorem LfAt.keep {p:Addr} {H0 H H':Hp} (k:∀a xs,H a= ~~~xs->H' a= ~~~xs) {v:V} {t:Lf} (h:LfAt p H0 H v t):LfAt p H0 H' v t:=by obtain ⟨a,u,d,e,h1,h2,h3⟩:=h;exact ⟨a,u,d,e,k _ _ h1,h2,h3⟩
def lsz (ts:List Lf):Nat:=(ts.map λ t=>szT t.t).sum
theorem cz (a b:List Lf):lsz (a ++ b)=lsz a + lsz b:=by unfold lsz; rw [List.map_append,List.sum_append]
theorem gy:∀ts:List Lf,ts.length<=lsz ts
 | []=>B6 _
 | t :: r=>by have:=gy r;have:=CU t.t;show r.length + 1<=szT t.t + lsz r;lia
def pG (b:Int) (ts:List Lf):List Lf:=ts.reverse.flatMap λ t=>lvs b t.t t.x t.y t.w t.h
theorem cV (b:Int) (ts:List Lf) (t:Lf):pG b (ts ++ [t])=lvs b t.t t.x t.y t.w t.h ++ pG b ts:=by
 unfold pG;rw [List.reverse_append]
 rfl
section
variable {P:G8} {w:JT} {K:C8} {mg:Str->Option JU} {base:Heap}
inductive spLeaves (C:Addr) (vs:List V) (H:Hp) (Q:VK) (E_:XK):Prop
 | mk (pp s:Addr) (b w h:Int) (ks:List Kd) (v:V) (d:PyData) (t:Tr) (e_1:vs=[.ref s,.int w,.int h,v]) (e_2:ShopAt C H s b ks) (e_3:Dt pp H v d) (e_4:TrD t d) (e_5:szT t<=10000) (e_6:∀ (l:Addr) (us:List V) (H':Hp),H l=none->H' l=↥us->Paired (LfAt pp H H') us (lvs b t 0 0 w h)->Same H H'->Q (.ref l) H'):spLeaves C vs H Q E_
inductive spCheckT (C:Addr) (vs:List V) (H:Hp) (Q:VK) (E_:XK):Prop
 | mk (pp s:Addr) (b w h:Int) (ks:List Kd) (v:V) (d:PyData) (e_1:vs=[.ref s,.int w,.int h,v]) (e_2:ShopAt C H s b ks) (e_3:1<=w) (e_4:1<=h) (e_5:Dt pp H v d) (e_6:wt d<=30000) (e_7:isT b ks w h d=true) (e_8:∀H',Same H H'->Q .non H'):spCheckT C vs H Q E_
theorem scleaves:FnScope ["shop","wide","high","tree","leaves","waiting","spot"] ["shop","wide","high","tree"] (defScope dW):=⟨Y,Y,Y,∅,Y,∅,∅⟩
theorem pH {f C wa:Addr} {fd:I9} (F:Fun K "leaves_of" "leaves_of" dW f fd) (T:ShopTxt K C) (Z:TrC K mg wa) (MB:Mn P w K mg base C "blade" ["self"] 1 (gp C)) (DS:Dn P w K mg base "spots_behind" ["blade","spot"] 2 (spBehind)):FnOk P w K mg base CX0 3 f fd ["shop","wide","high","tree"] (spLeaves C):=by
 refine F.ok scleaves (λ vs H Q E h=>?_) (λ cdv A outer s H vs Q E hr h=>?_)
 ·obtain ⟨pp,s,b,w1,h1,ks,v,d,t,rfl,_⟩:=h
  rfl
 obtain ⟨pp,s,b,w1,h1,ks,v,d,t,rfl,SH,hd,td,tz,q⟩:=h;have nd:=scleaves.nd;refine ⟨_,((4∣(@aO _ _ _ _ ae))<<<((5∣(@aO _ _ _ _ ((@aE _ _ _ _ _ (ah^^^(ah^^^((pv 1)^^^((pv 2)^^^((pv 3)^^^ae))))))^^^ae)))<<<((jo E6 (gD (pv 5) (λ _=>Y)) ((6∣(kM G6 PySem.F.slot_list_pop PySem.F.type_list_pop kO (pv 5)))>>>((@aH _ _ _ _ _ _ _ _ im (((pv 6)&&&ix_tup&&&ah)&&&bV&&&ah) (br (v:=.ref wa) Y Z.wy Y) Y)<|>(@ap _ _ _ (@bc _ _ _ _ (@dA _ _ _ _ _ _ _ _ _ _ _ _ G6 PySem.F.slot_list_extend PySem.F.type_list_extend io (pv 5) ((DS∪((bQ (pv 0) T.cl MB (hr.mono ∅))^^^((pv 6)^^^ae)))^^^ae) Y Y Y Y Y) Y))<|>(@ap _ _ _ (@bc _ _ _ _ (@dA _ _ _ _ _ _ _ _ _ _ _ _ G6 PySem.F.slot_list_append PySem.F.type_list_append bE (pv 4) ((pv 6)^^^ae) Y Y Y Y Y) Y)))))<<<((pv 4)⁻¹)))),?_⟩;have sz:(40000:Nat)<=sizeLine:=∅
 obtain ⟨dx,r,rs,S1,S2,S3⟩:=id SH;refine ⟨∅,λ ll hll=>?_⟩;have s0:Same H (upd H ll (.lst [])):=JV hll;have k0:(upd H ll (.lst [])) ll=↥[]:=af;generalize upd H ll (.lst [])=H0 at s0 k0 ⊢;refine ⟨_,Y,_,Y,_,Y,zS5,λ t' ht=>?_⟩;have sa:Same H0 (upd H0 t' (.tup [.int 0,.int 0,.int w1,.int h1,v])):=JV ht;have ka:(upd H0 t' (.tup [.int 0,.int 0,.int w1,.int h1,v])) t'= ~~~[.int 0,.int 0,.int w1,.int h1,v]:=af;generalize upd H0 t' (.tup [.int 0,.int 0,.int w1,.int h1,v])=Ha at sa ka ⊢;refine ⟨zS1,λ wl hwl=>?_⟩;have sb:Same Ha (upd Ha wl (.lst [.ref t'])):=JV hwl;have kb:(upd Ha wl (.lst [.ref t'])) wl=↥[.ref t']:=af;generalize upd Ha wl (.lst [.ref t'])=Hb at sb kb ⊢;have fw:H wl=none:=(s0.trans sa).free hwl;have nlw:ll≠wl:=λ z=>by rw [<- z,sa _ _ k0] at hwl; cases hwl
 have sab:=(s0.trans sa).trans sb;refine ⟨λ m σ H'=>∃ (vs us:List V) (ts L:List Lf) (v6:Option V),σ=[↑s,⇑w1,⇑h1,some v,↑ll,↑wl,v6]/\m=lsz ts/\H' wl=↥vs/\H' ll=↥us/\Paired (LfAt pp H H') vs ts/\Paired (LfAt pp H H') us L/\lsz ts + L.length<=10000/\L ++ pG b ts=lvs b t 0 0 w1 h1/\Same H H',⟨_,[.ref t'],[],[⟨0,0,w1,h1,t⟩],[],none,Y,Y,kb,sb _ _ (sa _ _ k0),.cons ⟨t',v,d,Y,sb _ _ ka,hd,td⟩ .nil,.nil,(by show szT t + 0 + 0<=10000; lia),(by show [] ++ (lvs b t 0 0 w1 h1 ++ [])=_; rw [List.append_nil]; rfl),sab⟩,?_⟩;rintro m σ H1 ⟨vs,us,ts,L,v6,rfl,rfl,hw,hl,pr,pu,sz1,al,s1⟩;refine ⟨_,Y,_,.inl ⟨vs,JX hw,Y⟩,?_⟩;rcases List.eq_nil_or_concat vs with rfl | ⟨vs',v0,rfl⟩
 ·have ets:ts=[]:=by
   have:=E5 pr;cases ts with
   | nil=>rfl
   | cons _ _=>simp at this
  subst ets;rw [show pG b []=[] from rfl,List.append_nil] at al;rw [al] at pu;exact aQ ⟨_,rfl,q ll us H1 hll hl pu s1⟩
 rw [List.concat_eq_append] at pr hw ⊢;obtain ⟨ts',t0,rfl,prp,⟨sp,u,du,rfl,hsp,hdu,tdu⟩⟩:=nM pr;rw [show (!(vs' ++ [V.ref sp]).isEmpty)=true by cases vs' <;> rfl];have ssz:lsz (ts' ++ [t0])=lsz ts' + szT t0.t:=by rw [cz]; show _ + (szT t0.t + 0)=_; lia
 rw [ssz] at sz1 ⊢;refine aZ ⟨λ σ' H'=>∃ (vs us:List V) (ts L:List Lf) (v6:Option V),σ'=[↑s,⇑w1,⇑h1,some v,↑ll,↑wl,v6]/\lsz ts < lsz ts' + szT t0.t/\H' wl=↥vs/\H' ll=↥us/\Paired (LfAt pp H H') vs ts/\Paired (LfAt pp H H') us L/\lsz ts + L.length<=10000/\L ++ pG b ts=lvs b t 0 0 w1 h1/\Same H H',λ σ' H' ⟨vs,us,ts,L,v6,e,l,r⟩=>⟨_,l,vs,us,ts,L,v6,e,rfl,r⟩,?_⟩;rw [cV] at al;have ml:(vs' ++ [V.ref sp]).length=vs'.length + 1:=by rw [List.length_append]; rfl
 have keep:∀ {Hx:Hp} {o:HO},Same H Hx->Same H (upd Hx wl o):=λ {Hx o} sx c oo e=>by rw [au (λ z=>by rw [z,fw] at e; cases e)];exact sx _ _ e
 have keepL:∀ {Hx:Hp} {o:HO},Same H Hx->Same H (upd Hx ll o):=λ {Hx o} sx c oo e=>by rw [au (λ z=>by rw [z,hll] at e; cases e)];exact sx _ _ e
 refine av (λ R=>∀ (H':Hp),H' wl=↥vs'->H' ll=↥us->Paired (LfAt pp H H') vs' ts'->Paired (LfAt pp H H') us L->H' sp= ~~~[.int t0.x,.int t0.y,.int t0.w,.int t0.h,u]->Same H H'->R [↑s,⇑w1,⇑h1,some v,↑ll,↑wl,↑sp] H') (λ Dd hR=>?_) ?_
 ·refine ⟨_,Y,.inl ⟨Y,_,JX hw⟩,wl,_,.ref sp,Y,Y,hw,(by rw [ml]; simp),?_⟩;rw [List.dropLast_concat];have kt:∀ {c:Addr} {xs:List V},H1 c= ~~~xs->(upd H1 wl (.lst vs')) c= ~~~xs:=λ {c xs} e=>by rw [au (λ z=>by rw [z,hw] at e; cases e)]; exact e
  exact hR _ af (by rw [au nlw]; exact hl) (JY prp λ v t h=>h.keep λ a xs e=>kt e) (JY pu λ v t h=>h.keep λ a xs e=>kt e) (kt hsp) (keep s1)
 rintro H2 hw2 hl2 pr2 pu2 hsp2 s02;have a4:atI [.int t0.x,.int t0.y,.int t0.w,.int t0.h,u] 4=some u:=aK ∅ rfl;have inT:∀z:Str,(z = "down" \/ z = "across")->inV (V.str z) [V.str "down",V.str "across"]=true:=λ z hz=>by rcases hz with e | e <;> subst e <;> decide +kernel
 have go:∀ (y:Str) (ys:List PyData),be du=some (.str y :: ys)->∃a xs,u=.ref a/\(H a=↥(.str y :: xs)\/H a= ~~~(.str y :: xs))/\Dts pp H xs ys:=λ y ys er=>by
  obtain ⟨a,xs,e,hx,dxs⟩:=hdu.ref_row er;cases dxs with
  | cons hd0 dxs =>
   cases hd0;exact ⟨a,_,e,hx,dxs⟩
 refine ⟨_,Y,sp,_,4,_,Y,Y,JW hsp2,a4,?_⟩;obtain ⟨tt,et⟩:∃tt,t0.t=tt:=⟨_,Y⟩
 cases tt with
 | cut dn p l r =>
  rw [et] at tdu;obtain ⟨dl,dr,er,tl,tr⟩:=tdu;obtain ⟨a,xs,eu,hx,dxs⟩:=go _ _ er;have hx0:=hx;cases dxs with
  | @cons x1 _ xs1 _ hd1 dxs =>
  cases dxs with
  | @cons lv _ xs2 _ hdl dxs =>
  cases dxs with
  | @cons rv _ xs3 _ hdr dxs =>
  cases dxs;cases hd1;subst eu;show rIx K (.ref a) (.int 0) H2 _;refine ixR s02 hx (aK (E7 _) rfl) ?_;refine ⟨wa,_,Y,.inr (Z.wq _),Y,Y,_,Y,?_⟩;show (if (inV (V.str (if dn=true then "down" else "across")) [V.str "down",V.str "across"])=true then _ else _);rw [inT _ (by cases dn <;> first | exact .inl rfl | exact .inr rfl)];have SH2:=dJ s02 SH;obtain ⟨dx',r',rs',S1',S2',S3'⟩:=id SH2;refine aZ ⟨_,rfl,.inl ⟨rfl,_,JX hw2⟩,_,rfl,s,dx',_,rfl,S1',(cj _ _ ∅ ∅),s,b,ks,rfl,SH2,_,rfl,?_⟩;refine ⟨b,t0.x,t0.y,t0.w,t0.h,p,sp,a,dn,lv,rv,Y,hsp2,hx.imp (s02 _ _) (s02 _ _),λ lu t1 t2 H4 hlu ku k1 k2 s4=>?_⟩;have hw4:=s4 _ _ hw2;have pl:=E5 pr2;have sl:=gy ts';have sz0:szT t0.t=szT l + szT r + 1:=by rw [et]; rfl
  refine ⟨wl,lu,_,_,Y,Y,hw4,ku,by show _ + 2<=_; lia,?_⟩;have kt:∀ {c:Addr} {xs:List V},H4 c= ~~~xs->(upd H4 wl (.lst (vs' ++ [.ref t1,.ref t2]))) c= ~~~xs:=λ {c xs} e=>by rw [au (λ z=>by rw [z,hw4] at e; cases e)]; exact e
  have kl4:(upd H4 wl (.lst (vs' ++ [.ref t1,.ref t2]))) ll=↥us:=by rw [au nlw]; exact s4 _ _ hl2
  have pr4:Paired (LfAt pp H (upd H4 wl (.lst (vs' ++ [.ref t1,.ref t2])))) vs' ts':=JY pr2 λ v t h=>h.keep λ a xs e=>kt (s4 _ _ e);have pu4:Paired (LfAt pp H (upd H4 wl (.lst (vs' ++ [.ref t1,.ref t2])))) us L:=JY pu2 λ v t h=>h.keep λ a xs e=>kt (s4 _ _ e);cases dn with
  | true =>
   have k1:H4 t1= ~~~[.int t0.x,.int t0.y,.int p,.int t0.h,lv]:=k1;have k2:H4 t2= ~~~[.int (t0.x + (p + b)),.int t0.y,.int (t0.w - p - b),.int t0.h,rv]:=k2;refine ⟨vs' ++ [.ref t1,.ref t2],us,ts' ++ [⟨t0.x,t0.y,p,t0.h,l⟩] ++ [⟨t0.x + (p + b),t0.y,t0.w - p - b,t0.h,r⟩],L,_,Y,?_,af,kl4,?_,pu4,?_,?_,keep (s02.trans s4)⟩
   ·rw [cz,cz]; show _ + (szT l + 0) + (szT r + 0) < _; rw [sz0]; lia
   ·rw [List.append_assoc]; exact fg pr4 (.cons ⟨t1,lv,dl,Y,kt k1,hdl,tl⟩ (.cons ⟨t2,rv,dr,Y,kt k2,hdr,tr⟩ .nil))
   ·rw [cz,cz]; show _ + (szT l + 0) + (szT r + 0) + _<=_; rw [sz0] at sz1; lia
   ·rw [cV,cV,<- al,et,lvs,List.append_assoc]
  | false =>
   have k1:H4 t1= ~~~[.int t0.x,.int t0.y,.int t0.w,.int p,lv]:=k1;have k2:H4 t2= ~~~[.int t0.x,.int (t0.y + (p + b)),.int t0.w,.int (t0.h - p - b),rv]:=k2;refine ⟨vs' ++ [.ref t1,.ref t2],us,ts' ++ [⟨t0.x,t0.y,t0.w,p,l⟩] ++ [⟨t0.x,t0.y + (p + b),t0.w,t0.h - p - b,r⟩],L,_,Y,?_,af,kl4,?_,pu4,?_,?_,keep (s02.trans s4)⟩
   ·rw [cz,cz]; show _ + (szT l + 0) + (szT r + 0) < _; rw [sz0]; lia
   ·rw [List.append_assoc]; exact fg pr4 (.cons ⟨t1,lv,dl,Y,kt k1,hdl,tl⟩ (.cons ⟨t2,rv,dr,Y,kt k2,hdr,tr⟩ .nil))
   ·rw [cz,cz]; show _ + (szT l + 0) + (szT r + 0) + _<=_; rw [sz0] at sz1; lia
   ·rw [cV,cV,<- al,et,lvs,List.append_assoc]
 | rest =>
  rw [et] at tdu;obtain ⟨a,xs,eu,hx,dxs⟩:=go _ _ tdu;subst eu;show rIx K (.ref a) (.int 0) H2 _;refine ixR s02 hx (aK (E7 _) rfl) ?_;refine ⟨wa,_,Y,.inr (Z.wq _),Y,Y,_,Y,?_⟩;show (if (inV (V.str "rest") [V.str "down",V.str "across"])=true then _ else _);rw [show inV (V.str "rest") [V.str "down",V.str "across"]=false by decide +kernel];have sl:=gy ts';have ul:=E5 pu2;have SZ:szT t0.t=1:=by rw [et]; rfl
  refine aQ ⟨_,rfl,.inl ⟨rfl,_,JX hl2⟩,_,rfl,ll,us,_,rfl,rfl,hl2,⋯,?_⟩;have kt:∀ {c:Addr} {xs:List V},H2 c= ~~~xs->(upd H2 ll (.lst (us ++ [.ref sp]))) c= ~~~xs:=λ {c xs} e=>by rw [au (λ z=>by rw [z,hl2] at e; cases e)]; exact e
  refine ⟨vs',us ++ [.ref sp],ts',L ++ [t0],_,Y,⋯,by rw [au (Ne.symm nlw)]; exact hw2,af,JY pr2 λ v t h=>h.keep λ a xs e=>kt e,fg (JY pu2 λ v t h=>h.keep λ a xs e=>kt e) (.cons ⟨sp,.ref a,du,Y,kt hsp2,hdu,by rw [et]; exact tdu⟩ .nil),?_,?_,keepL s02⟩
  ·rw [List.length_append]; show _ + (_ + 1)<=_; lia
  ·rw [<- al,List.append_assoc];congr 2;rw [et];cases t0;cases et
   rfl
 | piece i c x y =>
  rw [et] at tdu;obtain ⟨a,xs,eu,hx,dxs⟩:=go _ _ tdu;subst eu;show rIx K (.ref a) (.int 0) H2 _;refine ixR s02 hx (aK (E7 _) rfl) ?_;refine ⟨wa,_,Y,.inr (Z.wq _),Y,Y,_,Y,?_⟩;show (if (inV (V.str "piece") [V.str "down",V.str "across"])=true then _ else _);rw [show inV (V.str "piece") [V.str "down",V.str "across"]=false by decide +kernel];have sl:=gy ts';have ul:=E5 pu2;have SZ:szT t0.t=1:=by rw [et]; rfl
  refine aQ ⟨_,rfl,.inl ⟨rfl,_,JX hl2⟩,_,rfl,ll,us,_,rfl,rfl,hl2,⋯,?_⟩;have kt:∀ {c:Addr} {xs:List V},H2 c= ~~~xs->(upd H2 ll (.lst (us ++ [.ref sp]))) c= ~~~xs:=λ {c xs} e=>by rw [au (λ z=>by rw [z,hl2] at e; cases e)]; exact e
  refine ⟨vs',us ++ [.ref sp],ts',L ++ [t0],_,Y,⋯,by rw [au (Ne.symm nlw)]; exact hw2,af,JY pr2 λ v t h=>h.keep λ a xs e=>kt e,fg (JY pu2 λ v t h=>h.keep λ a xs e=>kt e) (.cons ⟨sp,.ref a,du,Y,kt hsp2,hdu,by rw [et]; exact tdu⟩ .nil),?_,?_,keepL s02⟩
  ·rw [List.length_append]; show _ + (_ + 1)<=_; lia
  ·rw [<- al,List.append_assoc];congr 2;rw [et];cases t0;cases et
   rfl
theorem sccheckt:FnScope ["shop","wide","high","thing"] ["shop","wide","high","thing"] (defScope dg):=⟨Y,Y,Y,∅,Y,∅,∅⟩
theorem pI {f C:Addr} {fd:I9} (F:Fun K "check_tree" "check_tree" dg f fd) (DI:Dn P w K mg base "is_tree" ["shop","wide","high","thing"] 6 (spIsTree C)):FnOk P w K mg base CX0 7 f fd ["shop","wide","high","thing"] (spCheckT C):=by
 refine F.ok sccheckt (λ vs H Q E h=>?_) (λ cdv A outer s H vs Q E hr h=>?_)
 ·obtain ⟨pp,s,b,w1,h1,ks,v,d,rfl,_⟩:=h
  rfl
 obtain ⟨pp,s,b,w1,h1,ks,v,d,rfl,SH,w0,h0,hd,dz,ht,q⟩:=h;have nd:=sccheckt.nd;refine ⟨_,(@ap _ _ _ ((@bf _ _ _ _ (@aY _ _ _ (DI∪((pv 0)^^^((pv 1)^^^((pv 2)^^^((pv 3)^^^ae))))) (by intro _; rfl)))<|>(@ap _ _ _ bU)<|>aF)),?_⟩;refine ⟨_,Y,_,Y,_,Y,_,Y,pp,s,b,w1,h1,ks,v,d,Y,SH,w0,h0,hd,dz,λ H1 s1=>⟨_,Y,?_⟩⟩;rw [ht];exact aQ (q _ s1)
end
theorem TrD.many {b:Int}:∀ (t:Tr) (d:PyData) (x y w h:Int),TrD t d->(lvs b t x y w h).length=lvN t/\szT t<=wt d
 | .rest,d,_,_,_,_,e=>by
  have:=fh (show be d=some [.str "rest"] from e);have w1:wts [.str "rest"]=5:=∅
  refine ⟨Y,?_⟩;show 1<=wt d;lia
 | .piece i c u v,d,_,_,_,_,e=>by
  have:=fh (show be d=some [.str "piece",.int i,.bool c,.int u,.int v] from e);have w1:wts [.str "piece",.int i,.bool c,.int u,.int v]=10:=by
   show wt (.str "piece") + (1 + (1 + (1 + (1 + 0))))=10
   decide +kernel
  refine ⟨Y,?_⟩;show 1<=wt d;lia
 | .cut true p l r,d,x,y,w,h,⟨dl,dr,e,tl,tr⟩=>by
  have h0:=fh e;have w1:wts [.str (if true=true then "down" else "across"),.int p,dl,dr]=5 + (1 + (wt dl + (wt dr + 0))):=by show wt (.str "down") + (1 + (wt dl + (wt dr + 0)))=_;rw [show wt (.str "down")=5 by decide +kernel]
  have h1:=TrD.many (b:=b) r dr (x + (p + b)) y (w - p - b) h tr;have h2:=TrD.many (b:=b) l dl x y p h tl;rw [lvs,List.length_append,szT,lvN];lia
 | .cut false p l r,d,x,y,w,h,⟨dl,dr,e,tl,tr⟩=>by
  have h0:=fh e;have w1:wts [.str (if false=true then "down" else "across"),.int p,dl,dr]=7 + (1 + (wt dl + (wt dr + 0))):=by show wt (.str "across") + (1 + (wt dl + (wt dr + 0)))=_;rw [show wt (.str "across")=7 by decide +kernel]
  have h1:=TrD.many (b:=b) r dr x (y + (p + b)) w (h - p - b) tr;have h2:=TrD.many (b:=b) l dl x y w p tl;rw [lvs,List.length_append,szT,lvN];lia
theorem cu (b:Int):∀ (t:Tr) (x y w h:Int),∀f∈lvs b t x y w h,f.t=.rest\/∃i c u v,f.t=.piece i c u v
 | .rest,_,_,_,_,f,hf=>by cases E4.mp hf; exact .inl rfl
 | .piece i c u v,_,_,_,_,f,hf=>by cases E4.mp hf; exact .inr ⟨i,c,u,v,Y⟩
 | .cut true p l r,x,y,w,h,f,hf=>by rw [lvs] at hf;exact (C6.mp hf).elim (cu b r _ _ _ _ f) (cu b l _ _ _ _ f)
 | .cut false p l r,x,y,w,h,f,hf=>by rw [lvs] at hf;exact (C6.mp hf).elim (cu b r _ _ _ _ f) (cu b l _ _ _ _ f)
structure TrH (C pp s:Addr) (b w h:Int) (ks:List Kd) (v:V) (d:PyData) (t:Tr) (H:Hp):Prop where
 sh:ShopAt C H s b ks
 w1:1<=w
 h1:1<=h
 dt:Dt pp H v d
 td:TrD t d
 ok:okT b ks w h t
 wd:wt d<=2000
 ln:lvN t<=63
theorem TrH.same {C pp s:Addr} {b w h:Int} {ks:List Kd} {v:V} {d:PyData} {t:Tr} {H H':Hp} (x:TrH C pp s b w h ks v d t H) (k:Same H H'):TrH C pp s b w h ks v d t H':=⟨dJ k x.sh,x.w1,x.h1,x.dt.same k,x.td,x.ok,x.wd,x.ln⟩
structure Pce where
 k:Nat
 c:Bool
 x:Int
 y:Int
def GX (p:Pce):List V:=[.int p.k,.bl p.c,.int p.x,.int p.y]
def CW (p:Pce):List Int:=[(p.k:Int),if p.c=true then 1 else 0,p.x,p.y]
def lfP (f:Lf):Option Pce:=match f.t with
 | .piece i c u v=>some ⟨i,c,f.x + u,f.y + v⟩
 | _=>none
def pcs (b:Int) (t:Tr) (w h:Int):List Pce:=(lvs b t 0 0 w h).filterMap lfP
def PA (H:Hp) (a:Addr) (p:Pce):Prop:=H a= ~~~(GX p)
def fW (H:Hp) (a:Addr):Pce:=match H a with
 | some (.tup [.int k,.bl c,.int x,.int y])=>⟨k.toNat,c,x,y⟩
 | _=>⟨0,false,0,0⟩
theorem PA.of {H:Hp} {a:Addr} {p:Pce} (h:PA H a p):fW H a=p:=by unfold fW;rw [show H a= ~~~[.int p.k,.bl p.c,.int p.x,.int p.y] from h];show (⟨(p.k:Int).toNat,p.c,p.x,p.y⟩:Pce)=p;rw [Int.toNat_natCast]
theorem PA.map {H:Hp}:∀ {as:List Addr} {ps:List Pce},Paired (PA H) as ps->as.map (fW H)=ps
 | _,_,.nil=>rfl
 | _,_,.cons h r=>by rw [List.map_cons,h.of,PA.map r]
theorem PA.mem {H:Hp}:∀ {as:List Addr} {ps:List Pce},Paired (PA H) as ps->∀a∈as,PA H a (fW H a)
 | _,_,.nil,a,h=>by cases h
 | _,_,.cons h r,a,hm=>by
  rcases List.mem_cons.mp hm with e | e
  ·subst e; rw [h.of]; exact h
  ·exact PA.mem r a e
theorem PA.back {H:Hp}:∀ {as:List Addr},(∀a∈as,PA H a (fW H a))->Paired (PA H) as (as.map (fW H))
 | [],_=>.nil
 | a :: as,h=>.cons (h a C0) (PA.back λ b hb=>h b (B7 _ hb))
theorem PA.keep {H H':Hp} (k:∀a xs,H a= ~~~xs->H' a= ~~~xs) {as:List Addr} {ps:List Pce} (h:Paired (PA H) as ps):Paired (PA H') as ps:=JY h λ a p e=>k _ _ e
section
variable {P:G8} {w:JT} {K:C8} {mg:Str->Option JU} {base:Heap}
inductive spPieces (C:Addr) (vs:List V) (H:Hp) (Q:VK) (E_:XK):Prop
 | mk (pp s:Addr) (b w h:Int) (ks:List Kd) (v:V) (d:PyData) (t:Tr) (e_1:vs=[.ref s,.int w,.int h,v]) (e_2:TrH C pp s b w h ks v d t H) (e_3:∀ (l:Addr) (as:List Addr) (ps:List Pce) (H':Hp),H l=none->H' l=↥(as.map V.ref)->Paired (PA H') as ps->ps.Perm (pcs b t w h)->(ps.map CW).Pairwise (λ x y=>cb y x=false)->Same H H'->Q (.ref l) H'):spPieces C vs H Q E_
theorem scpieces:FnScope ["shop","wide","high","tree","pieces","x","y","part_wide","part_high","leaf","word","kind","turned","piece_x","piece_y"] ["shop","wide","high","tree"] (defScope dX):=⟨Y,Y,Y,∅,Y,∅,∅⟩
theorem pJ {f C wa:Addr} {fd:I9} (F:Fun K "pieces_of" "pieces_of" dX f fd) (B:Blt mg) (Z:TrC K mg wa) (DC:Dn P w K mg base "check_tree" ["shop","wide","high","thing"] 7 (spCheckT C)) (DL:Dn P w K mg base "leaves_of" ["shop","wide","high","tree"] 3 (spLeaves C)):FnOk P w K mg base CX0 8 f fd ["shop","wide","high","tree"] (spPieces C):=by
 refine F.ok scpieces (λ vs H Q E h=>?_) (λ cdv A outer s H vs Q E hr h=>?_)
 ·obtain ⟨pp,s,b,w1,h1,ks,v,d,t,rfl,_⟩:=h
  rfl
 obtain ⟨pp,s,b,w1,h1,ks,v,d,t,rfl,th,q⟩:=h;have nd:=scpieces.nd;obtain ⟨trs,hrs⟩:=Z.rs;refine ⟨_,((@bc _ _ _ _ (DC∪((pv 0)^^^((pv 1)^^^((pv 2)^^^((pv 3)^^^ae))))) Y)<<<((4∣(@aO _ _ _ _ ae))<<<((@bM _ _ _ _ _ _ _ _ E6 Y (bv (DL∩((pv 0)^^^((pv 1)^^^((pv 2)^^^((pv 3)^^^ae)))))) (aP Y (5•(6•(7•(8•(9•aI)))))) (@ap _ _ _ ((((pv 9)&&&bV&&&ah)<*>gB<*>(br (v:=.str "rest") Y hrs ⟨trs,Y⟩))<|>((@bg _ _ _ _ _ _ (pv 9) (kR Y (10•(11•(12•(13•(14•aI)))))) Y Y Y)>>>(@bc _ _ _ _ (@dA _ _ _ _ _ _ _ _ _ _ _ _ G6 PySem.F.slot_list_append PySem.F.type_list_append bE (pv 4) ((@aE _ _ _ _ _ ((pv 11)^^^((pv 12)^^^(((pv 5)|||aN|||(pv 13))^^^(((pv 6)|||aN|||(pv 14))^^^ae)))))^^^ae) Y Y Y Y Y) Y))<|>aF)) (by intro _; rfl))<<<((@aD _ _ _ _ _ _ _ _ _ eY Y B.sorted PyProof.Rows.boot_sorted ((pv 4)^^^ae) ∅ ∅ Y Y)⁻¹)))),?_⟩;have sz:(40000:Nat)<=sizeLine:=∅
 obtain ⟨m1,m2⟩:=TrD.many (b:=b) t d 0 0 w1 h1 th.td;have wd:=th.wd;have ln:=th.ln;refine ⟨_,Y,_,Y,_,Y,_,Y,pp,s,b,w1,h1,ks,v,d,Y,th.sh,th.w1,th.h1,th.dt,⋯,TrD.good t d w1 h1 th.td th.ok,λ H1 s1=>?_⟩;refine ⟨∅,λ pl hpl=>?_⟩;have s2:Same H1 (upd H1 pl (.lst [])):=JV hpl;have k2:(upd H1 pl (.lst [])) pl=↥[]:=af;generalize upd H1 pl (.lst [])=H2 at s2 k2 ⊢;have s02:=s1.trans s2;have th2:=th.same s02;have fp:H pl=none:=s1.free hpl;have dp:Dt pl H2 v d:=(th.dt.fresh fp).same s02;refine aW (λ σ' H'=>σ'=[↑s,⇑w1,⇑h1,some v,↑pl,none,none,none,none,none,none,none,none,none,none]/\H2=H') (λ R hR=>hR _ _ ⟨rfl,rfl⟩) ?_;rintro _ _ ⟨rfl,rfl⟩;refine av (λ R=>∀v5 v6 v7 v8 v9 v10 v11 v12 v13 v14 (H':Hp),(∃as,H' pl=↥(as.map V.ref)/\Paired (PA H') as (pcs b t w1 h1)/\as.length<=63)->Same H H'->R [↑s,⇑w1,⇑h1,some v,↑pl,v5,v6,v7,v8,v9,v10,v11,v12,v13,v14] H') (λ Dd hR=>?_) ?_
 ·refine ⟨_,Y,_,Y,_,Y,_,Y,pl,s,b,w1,h1,ks,v,d,t,Y,th2.sh,dp,th2.td,⋯,λ ll us H3 hll l3 pu s23=>?_⟩;have s03:=s02.trans s23;have ul:=E5 pu;have npl:ll≠pl:=λ z=>by rw [z,k2] at hll; cases hll
  refine ⟨ll,Y,⟨_,JX l3⟩,dD (xs:=us) (λ i σ' H'=>(∃v5 v6 v7 v8 v9 v10 v11 v12 v13 v14,σ'=[↑s,⇑w1,⇑h1,some v,↑pl,v5,v6,v7,v8,v9,v10,v11,v12,v13,v14])/\(∃as,H' pl=↥(as.map V.ref)/\Paired (PA H') as (((lvs b t 0 0 w1 h1).take i).filterMap lfP))/\H' ll=↥us/\Paired (LfAt pl H2 H') us (lvs b t 0 0 w1 h1)/\But pl H2 H'/\Same H H') ⟨⟨_,_,_,_,_,_,_,_,_,_,Y⟩,⟨[],s23 _ _ k2,.nil⟩,l3,pu,CQ s23,s03⟩ (λ i σ H' _ h=>JX h.2.2.1) ?_ ?_⟩
  ·rintro i x σ H4 hi ⟨⟨v5,v6,v7,v8,v9,v10,v11,v12,v13,v14,rfl⟩,⟨as,hp4,pa4⟩,l4,pu4,b4,s4⟩;have hin:i < us.length:=(A9.mp hi).1;obtain ⟨f,hf,a,u,du,rfl,ha,hdu,tdu⟩:=JZ pu4 hi;have pal:=E5 pa4;have fml:(((lvs b t 0 0 w1 h1).take i).filterMap lfP).length<=i:=C9 (List.length_filterMap_le _ _) (by rw [List.length_take]; lia);have tk:(lvs b t 0 0 w1 h1).take (i + 1)=(lvs b t 0 0 w1 h1).take i ++ [f]:=by rw [List.take_add_one,hf]; rfl
   refine ⟨a,_,Y,JW ha,Y,_,_,Y,_,_,Y,_,_,Y,_,_,Y,_,_,Y,Y,?_⟩;have hdu4:Dt pl H4 u du:=hdu.but ⟨_,k2⟩ b4;rcases cu b t 0 0 w1 h1 f (B8 hf) with et | ⟨ki,c,px,py,et⟩
   ·rw [et] at tdu;obtain ⟨a', xs, rfl, hx, dxs⟩:=hdu4.ref_row (show be du=some [.str "rest"] from tdu);cases dxs with
    | cons hd0 dxs =>
    cases hd0;cases dxs;refine ⟨_,Y,ixR (Same.refl _) hx (aK (E7 _) rfl) ⟨Y,_,Y,?_⟩⟩;refine aQ ⟨⟨_,_,_,_,_,_,_,_,_,_,rfl⟩,⟨as,hp4,?_⟩,l4,pu4,b4,s4⟩;rw [tk,List.filterMap_append,show [f].filterMap lfP=[] by rw [List.filterMap_cons,show lfP f=none by unfold lfP; rw [et]]; rfl,List.append_nil];exact pa4
   ·rw [et] at tdu;obtain ⟨a', xs, rfl, hx, dxs⟩:=hdu4.ref_row (show be du=some [.str "piece", .int ki, .bool c, .int px, .int py] from tdu);cases dxs with
    | cons hd0 dxs =>
    cases dxs with
    | cons hd1 dxs =>
    cases dxs with
    | cons hd2 dxs =>
    cases dxs with
    | cons hd3 dxs =>
    cases dxs with
    | cons hd4 dxs =>
    cases dxs;cases hd0; cases hd1; cases hd2; cases hd3; cases hd4;refine ⟨_,Y,ixR (Same.refl _) hx (aK (E7 _) rfl) ⟨Y,_,Y,?_⟩⟩;refine aZ ?_;refine ⟨_,Y,a',_,Y,hx.imp (λ z=>JX z) (λ z=>JW z),Y,_,_,Y,_,_,Y,_,_,Y,_,_,Y,_,_,Y,Y,?_⟩;refine ⟨_,Y,.inl ⟨Y,_,JX hp4⟩,_,Y,_,Y,_,Y,_,Y,_,_,Y,Y,_,Y,_,Y,_,_,Y,Y,zS4,λ tp htp=>?_⟩;have s5:=JV htp (o:=.tup [.int ki,.bl c,.int (f.x + px),.int (f.y + py)]);have k5:(upd H4 tp (.tup [.int ki,.bl c,.int (f.x + px),.int (f.y + py)])) tp= ~~~[.int ki,.bl c,.int (f.x + px),.int (f.y + py)]:=af;rw [show upd H4 tp _=upd H4 tp (.tup [.int ki,.bl c,.int (f.x + px),.int (f.y + py)]) from rfl];generalize upd H4 tp (.tup [.int ki,.bl c,.int (f.x + px),.int (f.y + py)])=H5 at s5 k5 ⊢;have hp5:=s5 _ _ hp4;refine ⟨pl,_,_,Y,Y,hp5,(by rw [List.length_map]; lia),?_⟩;have kt:∀ (a:Addr) (xs:List V),H4 a= ~~~xs->(upd H5 pl (.lst (as.map V.ref ++ [.ref tp]))) a= ~~~xs:=λ a xs e=>by rw [au (λ z=>by rw [z,hp4] at e; cases e)]; exact s5 _ _ e
    refine ⟨⟨_,_,_,_,_,_,_,_,_,_,Y⟩,⟨as ++ [tp],by rw [af,List.map_append]; rfl,?_⟩,by rw [au npl]; exact s5 _ _ l4,JY pu4 λ v f h=>h.keep kt,b4.trans (λ cc o n e=>by rw [au n]; exact s5 _ _ e),λ cc o e=>by rw [au (λ z=>by rw [z,fp] at e; cases e)]; exact s5 _ _ (s4 _ _ e)⟩;rw [tk,List.filterMap_append,show [f].filterMap lfP=[⟨ki,c,f.x + px,f.y + py⟩] by rw [List.filterMap_cons,show lfP f=some ⟨ki,c,f.x + px,f.y + py⟩ by unfold lfP; rw [et]]; rfl];exact fg (PA.keep kt pa4) (.cons (show _=_ by rw [au (λ z=>by rw [z,hp5] at k5; cases k5)]; exact k5) .nil)
  ·rintro σ H4 ⟨⟨v5,v6,v7,v8,v9,v10,v11,v12,v13,v14,rfl⟩,⟨as,hp4,pa4⟩,l4,pu4,b4,s4⟩;rw [ul,List.take_length] at pa4;have:=E5 pa4;have fml:((lvs b t 0 0 w1 h1).filterMap lfP).length<=(lvs b t 0 0 w1 h1).length:=List.length_filterMap_le _ _;exact hR _ _ _ _ _ _ _ _ _ _ _ ⟨as,hp4,pa4,⋯⟩ s4
 rintro v5 v6 v7 v8 v9 v10 v11 v12 v13 v14 H3 ⟨as,hp3,pa3,al⟩ s3;have mem:=PA.mem pa3;have mp:=PA.map pa3;refine ⟨_,Y,pl,as,[false,true,false,false],λ a=>CW (fW H3 a),Y,JX hp3,⋯,Y,λ a ha=>⟨_,JW (mem a ha),Y⟩,λ l as' hl pa so=>?_⟩;have s4:=JV hl (o:=.lst (as'.map V.ref));refine q l as' (as'.map (fW H3)) _ (s3.free hl) af (PA.keep (λ a xs e=>s4 _ _ e) (PA.back λ a ha=>mem a (pa.mem_iff.mp ha))) ?_ ?_ (s3.trans s4)
 ·rw [<- mp]; exact pa.map _
 ·rw [List.map_map]; exact so
end
theorem rn {X:Cx}:Co X (λ o i H Q=>∃p xs k x,o=.ref p/\i=.int k/\0<=k/\H p=↥xs/\atI xs k=some x/\Q x H):=by
 intro pins s σ H o i ov iv Q I ro ri h;obtain ⟨p,xs,k,x,rfl,rfl,k0,hp,hx,q⟩:=h;cases ro;obtain ⟨t,rfl⟩:=ri;obtain ⟨its,r,pl,hz⟩:=I.list (JX hp);obtain ⟨j,h1,h2,h3,h4,h5⟩:=gj hx;obtain ⟨w,ew,rw'⟩:=r.get h2;have hl:=r.length;have hn:=eH;have hj:k.toNat=j:=by rw [seqIndex_of k0 h5] at h1;exact C1 h1
 exact wpAny_getItem_list pl.isList k0 ⋯ (by rw [hj]; simpa using ew) ⟨x,H,I,rw',q⟩
def bP (ps:List Pce) (n:Nat):List Int:=(List.range n).map λ k=>((ps.filter λ p=>p.k == k).length:Int)
theorem cI (ps:List Pce) (n:Nat):(bP ps n).length=n:=by unfold bP; rw [List.length_map,List.length_range]
theorem gz {ps:List Pce} {n k:Nat} (h:k < n):(bP ps n)[k]? = some ((ps.filter λ p=>p.k == k).length:Int):=by unfold bP;rw [List.getElem?_map,List.getElem?_range h]; rfl
theorem pK {ps qs:List Pce} (h:ps.Perm qs) (n:Nat):bP ps n=bP qs n:=by unfold bP;apply List.map_congr_left;intro k _;rw [(h.filter _).length_eq]
theorem rq {ps:List Pce} {p:Pce} {n:Nat} (h:p.k < n):((bP ps n).map V.int).set p.k (.int (((ps.filter λ q=>q.k == p.k).length:Int) + 1))=(bP (ps ++ [p]) n).map V.int:=by
 apply List.ext_getElem?;intro j;rw [List.getElem?_set]
 by_cases hj:j < n
 ·rw [List.getElem?_map,List.getElem?_map,gz hj,gz hj,List.length_map,cI]
  by_cases e:p.k=j
  ·subst e;rw [if_pos rfl,if_pos h,List.filter_append,List.length_append];simp
  ·rw [if_neg e,List.filter_append,List.length_append];have:([p].filter λ q=>q.k == j)=[]:=by simp [e]
   rw [this]; rfl
 ·have h1:((bP ps n).map V.int)[j]? = none:=E2 (by rw [List.length_map,cI]; lia);have h2:((bP (ps ++ [p]) n).map V.int)[j]? = none:=E2 (by rw [List.length_map,cI]; lia);rw [h1,h2,if_neg ⋯]
theorem gX {b:Int} {ks:List Kd}:∀ (t:Tr) (x y w h:Int),okT b ks w h t->∀f∈lvs b t x y w h,∀i c u v,f.t=.piece i c u v->i < ks.length
 | .rest,_,_,_,_,_,f,hf,i,c,u,v,e=>by cases E4.mp hf; cases e
 | .piece ..,_,_,_,_,⟨k,hk,_⟩,f,hf,i,c,u,v,e=>by cases E4.mp hf;cases e;exact (A9.mp hk).1
 | .cut true p l r,x,y,w,h,⟨_,_,hl,hr⟩,f,hf,i,c,u,v,e=>by rw [lvs] at hf;exact (C6.mp hf).elim (λ z=>gX r _ _ _ _ hr f z i c u v e) (λ z=>gX l _ _ _ _ hl f z i c u v e)
 | .cut false p l r,x,y,w,h,⟨_,_,hl,hr⟩,f,hf,i,c,u,v,e=>by rw [lvs] at hf;exact (C6.mp hf).elim (λ z=>gX r _ _ _ _ hr f z i c u v e) (λ z=>gX l _ _ _ _ hl f z i c u v e)
theorem rz {b:Int} {ks:List Kd} {t:Tr} {w h:Int} (ok:okT b ks w h t) {p:Pce} (hp:p∈pcs b t w h):p.k < ks.length:=by
 obtain ⟨f,hf,e⟩:=List.mem_filterMap.mp hp;rcases cu b t 0 0 w h f hf with et | ⟨i,c,u,v,et⟩
 ·unfold lfP at e; rw [et] at e; cases e
 ·have:=gX t 0 0 w h ok f hf i c u v et;unfold lfP at e; rw [et] at e; cases e; exact this
section
variable {P:G8} {w:JT} {K:C8} {mg:Str->Option JU} {base:Heap}
inductive spCountsO (C:Addr) (vs:List V) (H:Hp) (Q:VK) (E_:XK):Prop
 | mk (pp s:Addr) (b w h:Int) (ks:List Kd) (v:V) (d:PyData) (t:Tr) (e_1:vs=[.ref s,.int w,.int h,v]) (e_2:TrH C pp s b w h ks v d t H) (e_3:ks.length<=8) (e_4:∀ (l:Addr) (H':Hp),H l=none->H' l=↥((bP (pcs b t w h) ks.length).map V.int)->Same H H'->Q (.ref l) H'):spCountsO C vs H Q E_
inductive spWorthO (C:Addr) (vs:List V) (H:Hp) (Q:VK) (E_:XK):Prop
 | mk (pp s:Addr) (b w h:Int) (ks:List Kd) (v:V) (d:PyData) (t:Tr) (e_1:vs=[.ref s,.int w,.int h,v]) (e_2:TrH C pp s b w h ks v d t H) (e_3:ks.length<=8) (e_4:(∀k∈ks,Good k)) (e_5:∀ (H':Hp),Same H H'->Q (.int (((bP (pcs b t w h) ks.length).zip ks).map λ z=>z.1 * z.2.wo).sum) H'):spWorthO C vs H Q E_
theorem sccountso:FnScope ["shop","wide","high","tree","pieces","counts","kind","turned","x","y"] ["shop","wide","high","tree"] (defScope cT):=⟨Y,Y,Y,∅,Y,∅,∅⟩
theorem lA {f C:Addr} {fd:I9} (F:Fun K "counts_of" "counts_of" cT f fd) (B:Blt mg) (T:ShopTxt K C) (MK:Mn P w K mg base C "kinds" ["self"] 1 (eV C)) (DP:Dn P w K mg base "pieces_of" ["shop","wide","high","tree"] 8 (spPieces C)):FnOk P w K mg base CX0 9 f fd ["shop","wide","high","tree"] (spCountsO C):=by
 refine F.ok sccountso (λ vs H Q E h=>?_) (λ cdv A outer s H vs Q E hr h=>?_)
 ·obtain ⟨pp,s,b,w1,h1,ks,v,d,t,rfl,_⟩:=h
  rfl
 obtain ⟨pp,s,b,w1,h1,ks,v,d,t,rfl,th,k8,q⟩:=h;have nd:=sccountso.nd;refine ⟨_,((4∣(DP∪((pv 0)^^^((pv 1)^^^((pv 2)^^^((pv 3)^^^ae))))))<<<((dQ (i:=5) (own:=["kind"]) (cs:=[]) (cap:=[]) Y nd Y Y Y (bv (bQ (pv 0) T.cl MK (hr.mono ∅))) (aS (sc:=defScope cT) (N:=["shop","wide","high","tree","pieces","counts","kind","turned","x","y"]) Y Y ∅) (λ _ _ _ _ _=>ao (i:=0) (by show List.Nodup (["kind"]:List Str) ; decide +kernel) Y (Or.inl Y) (Or.inr Y)) (λ _ _ _ _ _=>bC) (λ _ _ _ _ _=>ah))<<<((@bM _ _ _ _ _ _ _ _ E6 Y (bv (pv 4)) (aP Y (6•(7•(8•(9•aI))))) (@ap _ _ _ (sL (pv 5) (pv 6) rn ah iK dF)) (by intro _; rfl))<<<((pv 5)⁻¹)))),?_⟩;have sz:(40000:Nat)<=sizeLine:=∅
 refine av (λ R=>∀pl as ps (H':Hp),H' pl=↥(as.map V.ref)->Paired (PA H') as ps->ps.Perm (pcs b t w1 h1)->Same H H'->R [↑s,⇑w1,⇑h1,some v,↑pl,none,none,none,none,none] H') (λ Dd hR=>?_) ?_
 ·exact ⟨_,Y,_,Y,_,Y,_,Y,pp,s,b,w1,h1,ks,v,d,t,Y,th,λ l as ps H1 hl l1 pa pe so s1=>hR l as ps _ l1 pa pe s1⟩
 rintro pl as ps H1 hp1 pa1 pe s1;have th1:=th.same s1;refine av (λ R=>∀cl (H':Hp),H1 cl=none->H' cl=↥((bP [] ks.length).map V.int)->Same H1 H'->R [↑s,⇑w1,⇑h1,some v,↑pl,↑cl,none,none,none,none] H') (λ Dd hR=>?_) ?_
 ·obtain ⟨dx,r,rs,S1,S2,S3⟩:=id th1.sh;refine ⟨_,Y,s,dx,_,Y,S1,(cj _ _ ∅ ∅),s,b,ks,Y,th1.sh,λ l rs' hl tp=>?_⟩;have s2:=JV hl (o:=.lst rs');have k2:(upd H1 l (.lst rs')) l=↥rs':=af;generalize upd H1 l (.lst rs')=H2 at s2 k2 ⊢;have tl:=E5 tp;refine ⟨l,Y,⟨_,JX k2⟩,(bn (K:=K) (.inl k2) (λ i ys Hx=>Same H2 Hx/\ys=List.replicate i (.int 0)) (λ i ys Hx _ ⟨sx,_⟩ o e=>sx _ _ e) ⟨Same.refl _,Y⟩ ?_ ?_).1 k2⟩
  ·rintro i x ys Hx hi ⟨sx,rfl⟩;have hin:i < rs'.length:=(A9.mp hi).1;refine ⟨by rw [List.length_replicate]; lia,leS.set rfl,bD ?_⟩;show Nx rs'.length (λ i ys Hx=>Same H2 Hx/\ys=List.replicate i (V.int 0)) i (List.replicate i (V.int 0) ++ [.int 0]) Hx;refine Nx.of hin ?_;exact ⟨sx,(List.replicate_succ' ..).symm⟩
  ·rintro ys Hx ⟨sx,rfl⟩;refine ⟨by rw [List.length_replicate]; lia,λ cl hcl=>hR cl _ ((s2.trans sx).free hcl) ?_ ((s2.trans sx).trans (JV hcl))⟩;rw [af];congr 2;rw [tl];unfold bP;apply List.ext_getElem
   ·simp
   ·intro j h1 h2;simp
 rintro cl H2 hcl hc2 s2;have fc:H cl=none:=s1.free hcl;have npc:pl≠cl:=λ z=>by rw [<- z,hp1] at hcl; cases hcl
 have pal:=E5 pa1;have pa2:Paired (PA H2) as ps:=PA.keep (λ a xs e=>s2 _ _ e) pa1;have hp2:=s2 _ _ hp1;refine av (λ R=>∀v6 v7 v8 v9 (H':Hp),H' cl=↥((bP ps ks.length).map V.int)->Same H H'->R [↑s,⇑w1,⇑h1,some v,↑pl,↑cl,v6,v7,v8,v9] H') (λ Dd hR=>?_) ?_
 ·refine ⟨_,Y,pl,Y,⟨_,JX hp2⟩,dD (xs:=as.map V.ref) (λ i σ' H'=>(∃v6 v7 v8 v9,σ'=[↑s,⇑w1,⇑h1,some v,↑pl,↑cl,v6,v7,v8,v9])/\H' cl=↥((bP (ps.take i) ks.length).map V.int)/\H' pl=↥(as.map V.ref)/\Paired (PA H') as ps/\Same H H') ⟨⟨_,_,_,_,Y⟩,hc2,hp2,pa2,s1.trans s2⟩ (λ i σ H' _ h=>JX h.2.2.1) ?_ ?_⟩
  ·rintro i x σ H3 hi ⟨⟨v6,v7,v8,v9,rfl⟩,hc3,hp3,pa3,s3⟩;rw [List.getElem?_map] at hi;obtain ⟨a,ha,rfl⟩:=Option.map_eq_some_iff.mp hi;obtain ⟨p,hpi,pA⟩:=JZ pa3 ha;have hk:=rz th.ok (pe.mem_iff.mp (B8 hpi));have pA:H3 a= ~~~[.int p.k,.bl p.c,.int p.x,.int p.y]:=pA;refine ⟨a,_,Y,JW pA,Y,_,_,Y,_,_,Y,_,_,Y,_,_,Y,Y,?_⟩;have hat:atI ((bP (ps.take i) ks.length).map V.int) (p.k:Int)=⇑(((ps.take i).filter λ q=>q.k == p.k).length:Int):=aK ⋯ (by rw [Int.toNat_natCast,List.getElem?_map,gz hk]; rfl);have hix:ixN ((bP (ps.take i) ks.length).map V.int).length (p.k:Int)=some p.k:=by unfold ixN;rw [if_pos ⋯,List.length_map,cI,if_pos ⋯,Int.toNat_natCast]
   refine ⟨_,Y,_,Y,cl,_,_,_,Y,Y,⋯,hc3,hat,_,_,Y,Y,cl,_,_,p.k,Y,Y,hc3,hix,?_⟩;have kt:∀ (o:HO) (a:Addr) (xs:List V),H3 a= ~~~xs->(upd H3 cl o) a= ~~~xs:=λ o a xs e=>by rw [au (λ z=>by rw [z,hc3] at e; cases e)]; exact e
   refine ⟨⟨_,_,_,_,Y⟩,?_,by rw [au npc]; exact hp3,PA.keep (kt _) pa3,λ c o e=>by rw [au (λ z=>by rw [z,fc] at e; cases e)]; exact s3 _ _ e⟩;rw [af,rq hk,List.take_add_one,hpi]; rfl
  ·rintro σ H3 ⟨⟨v6,v7,v8,v9,rfl⟩,hc3,hp3,pa3,s3⟩;rw [List.length_map,pal,List.take_length] at hc3;exact hR _ _ _ _ _ hc3 s3
 rintro v6 v7 v8 v9 H3 hc3 s3;rw [pK pe] at hc3;exact ⟨_,Y,q cl H3 fc hc3 s3⟩
end
theorem fO {a b c:St} (h1:leS a b) (h2:leS b c):leS a c:=⟨h2.1.trans h1.1,λ i v e=>h2.2 i v (h1.2 i v e)⟩
theorem ui {X:Cx} (K:C8) {x y z u t:Str} {px py pz pu pt pos:Pos} {k:Nat} (hK:X.K=K) (hc:X.calm=true) (hN:X.N.Nodup) (h0:X.N[0]? = some x) (h1:X.N[1]? = some y) (h2:X.N[2]? = some z) (h3:X.N[3]? = some u) (h4:X.N[4]? = some t) (l0:X.env.scope.names.lookup x=some .local) (l1:X.env.scope.names.lookup y=some .local) (l2:X.env.scope.names.lookup z=some .local) (l3:X.env.scope.names.lookup u=some .local) (l4:X.env.scope.names.lookup t=some .local) :
  PG X (.Tuple [.Name x px,.Name y py,.Name z pz,.Name u pu,.Name t pt] k pos) (gTup K 5 (gCons (bR 0) (gCons (bR 1) (gCons (bR 2) (gCons (bR 3) (gCons (bR 4) ko)))))) :=
 hK ▸ aP hc (ai (ao hN h0 (.inl l0) (.inr l0)) (ai (ao hN h1 (.inl l1) (.inr l1)) (ai (ao hN h2 (.inl l2) (.inr l2)) (ai (ao hN h3 (.inl l3) (.inr l3)) (ai (ao hN h4 (.inl l4) (.inr l4)) aI)))))
structure Rst where
 x:Int
 y:Int
 w:Int
 h:Int
def GY (p:Rst):List V:=[.int p.x,.int p.y,.int p.w,.int p.h]
def ge (p:Rst):List Int:=[p.x,p.y,p.w,p.h]
def lfR (f:Lf):Option Rst:=match f.t with
 | .rest=>some ⟨f.x,f.y,f.w,f.h⟩
 | _=>none
def pL (b:Int) (t:Tr) (w h:Int):List Rst:=(lvs b t 0 0 w h).filterMap lfR
def RA (H:Hp) (a:Addr) (p:Rst):Prop:=H a= ~~~(GY p)
def fk (H:Hp) (a:Addr):Rst:=match H a with
 | some (.tup [.int k,.int c,.int x,.int y])=>⟨k,c,x,y⟩
 | _=>⟨0,0,0,0⟩
theorem RA.of {H:Hp} {a:Addr} {p:Rst} (h:RA H a p):fk H a=p:=by unfold fk;rw [show H a= ~~~[.int p.x,.int p.y,.int p.w,.int p.h] from h]
theorem RA.map {H:Hp}:∀ {as:List Addr} {ps:List Rst},Paired (RA H) as ps->as.map (fk H)=ps
 | _,_,.nil=>rfl
 | _,_,.cons h r=>by rw [List.map_cons,h.of,RA.map r]
theorem RA.mem {H:Hp}:∀ {as:List Addr} {ps:List Rst},Paired (RA H) as ps->∀a∈as,RA H a (fk H a)
 | _,_,.nil,a,h=>by cases h
 | _,_,.cons h r,a,hm=>by
  rcases List.mem_cons.mp hm with e | e
  ·subst e; rw [h.of]; exact h
  ·exact RA.mem r a e
theorem RA.back {H:Hp}:∀ {as:List Addr},(∀a∈as,RA H a (fk H a))->Paired (RA H) as (as.map (fk H))
 | [],_=>.nil
 | a :: as,h=>.cons (h a C0) (RA.back λ b hb=>h b (B7 _ hb))
theorem RA.keep {H H':Hp} (k:∀a xs,H a= ~~~xs->H' a= ~~~xs) {as:List Addr} {ps:List Rst} (h:Paired (RA H) as ps):Paired (RA H') as ps:=JY h λ a p e=>k _ _ e
section
variable {P:G8} {w:JT} {K:C8} {mg:Str->Option JU} {base:Heap}
inductive spRests (C:Addr) (vs:List V) (H:Hp) (Q:VK) (E_:XK):Prop
 | mk (pp s:Addr) (b w h:Int) (ks:List Kd) (v:V) (d:PyData) (t:Tr) (e_1:vs=[.ref s,.int w,.int h,v]) (e_2:TrH C pp s b w h ks v d t H) (e_3:∀ (l:Addr) (as:List Addr) (ps:List Rst) (H':Hp),H l=none->H' l=↥(as.map V.ref)->Paired (RA H') as ps->ps.Perm (pL b t w h)->(ps.map ge).Pairwise (λ x y=>cb y x=false)->Same H H'->Q (.ref l) H'):spRests C vs H Q E_
theorem scrests:FnScope ["shop","wide","high","tree","leaves"] ["shop","wide","high","tree"] (defScope dI):=⟨Y,Y,Y,∅,Y,∅,∅⟩
theorem rA {f C wa:Addr} {fd:I9} (F:Fun K "rests_of" "rests_of" dI f fd) (B:Blt mg) (Z:TrC K mg wa) (DC:Dn P w K mg base "check_tree" ["shop","wide","high","thing"] 7 (spCheckT C)) (DL:Dn P w K mg base "leaves_of" ["shop","wide","high","tree"] 3 (spLeaves C)):FnOk P w K mg base CX0 8 f fd ["shop","wide","high","tree"] (spRests C):=by
 refine F.ok scrests (λ vs H Q E h=>?_) (λ cdv A outer s H vs Q E hr h=>?_)
 ·obtain ⟨pp,s,b,w1,h1,ks,v,d,t,rfl,_⟩:=h
  rfl
 obtain ⟨pp,s,b,w1,h1,ks,v,d,t,rfl,th,q⟩:=h;have nd:=scrests.nd;obtain ⟨trs,hrs⟩:=Z.rs;refine ⟨_,((@bc _ _ _ _ (DC∪((pv 0)^^^((pv 1)^^^((pv 2)^^^((pv 3)^^^ae))))) Y)<<<((4∣(DL∩((pv 0)^^^((pv 1)^^^((pv 2)^^^((pv 3)^^^ae))))))<<<((@aD _ _ _ _ _ _ _ _ _ eY Y B.sorted PyProof.Rows.boot_sorted ((bX (own:=["x","y","part_wide","part_high","leaf"]) (cs:=[]) (cap:=[]) Y (bv (pv 4)) (aS (sc:=defScope dI) (N:=["shop","wide","high","tree","leaves"]) Y Y ∅) (λ _ _ _ _ _=>ui K Y Y (by show List.Nodup (["x","y","part_wide","part_high","leaf"]:List Str) ; decide +kernel) Y Y Y Y Y Y Y Y Y Y) (λ _ _ _ _ _=>(dG ((ax (r:=rIx K) bV (pv 4) ah (λ _ _=>Y))<*>bL<*>(br (v:=.str "rest") Y hrs ⟨trs,Y⟩)))) (λ _ _ _ _ _=>(@aE _ _ _ _ _ ((pv 0)^^^((pv 1)^^^((pv 2)^^^((pv 3)^^^ae)))))))^^^ae) ∅ ∅ Y Y)⁻¹))),?_⟩;have sz:(40000:Nat)<=sizeLine:=∅
 obtain ⟨m1,m2⟩:=TrD.many (b:=b) t d 0 0 w1 h1 th.td;have wd:=th.wd;have ln:=th.ln;refine ⟨_,Y,_,Y,_,Y,_,Y,pp,s,b,w1,h1,ks,v,d,Y,th.sh,th.w1,th.h1,th.dt,⋯,TrD.good t d w1 h1 th.td th.ok,λ H1 s1=>?_⟩;have th1:=th.same s1;refine aW (λ σ' H'=>σ'=[↑s,⇑w1,⇑h1,some v,none]/\H1=H') (λ R hR=>hR _ _ ⟨rfl,rfl⟩) ?_;rintro _ _ ⟨rfl,rfl⟩;refine av (λ R=>∀ll us (H':Hp),H' ll=↥us->Paired (LfAt pp H1 H') us (lvs b t 0 0 w1 h1)->Same H1 H'->R [↑s,⇑w1,⇑h1,some v,↑ll] H') (λ Dd hR=>?_) ?_
 ·exact ⟨_,Y,_,Y,_,Y,_,Y,pp,s,b,w1,h1,ks,v,d,t,Y,th1.sh,th1.dt,th1.td,⋯,λ ll us H3 hll l3 pu s23=>hR ll us _ l3 pu s23⟩
 rintro ll us H2 l2 pu s2;have ul:=E5 pu;have s02:=s1.trans s2;refine ⟨_,Y,ll,Y,⟨_,JX l2⟩,(bn (K:=K) (.inl l2) (λ i ys Hx=>Same H2 Hx/\∃as,ys=as.map V.ref/\Paired (RA Hx) as (((lvs b t 0 0 w1 h1).take i).filterMap lfR)) (λ i ys Hx _ ⟨sx,_⟩ o e=>sx _ _ e) ⟨Same.refl _,[],Y,.nil⟩ ?_ ?_).1 l2⟩
 ·rintro i x ys Hx hi ⟨sx,as,rfl,px⟩;have hin:i < us.length:=(A9.mp hi).1;obtain ⟨f,hf,a,u,du,rfl,ha,hdu,tdu⟩:=JZ pu hi;have yl:=E5 px;have fml:(((lvs b t 0 0 w1 h1).take i).filterMap lfR).length<=i:=C9 (List.length_filterMap_le _ _) (by rw [List.length_take]; lia);have tk:(lvs b t 0 0 w1 h1).take (i + 1)=(lvs b t 0 0 w1 h1).take i ++ [f]:=by rw [List.take_add_one,hf]; rfl
  have hdx:Dt pp Hx u du:=hdu.same (s2.trans sx);refine ⟨by rw [List.length_map]; lia,a,_,Y,JW (sx _ _ ha),Y,_,_,Y,_,_,Y,_,_,Y,_,_,Y,_,_,Y,Y,fO (fO (fO (fO (leS.set rfl) (leS.set rfl)) (leS.set rfl)) (leS.set rfl)) (leS.set rfl),?_⟩;rcases cu b t 0 0 w1 h1 f (B8 hf) with et | ⟨ki,c,px',py',et⟩
  ·rw [et] at tdu;obtain ⟨a', xs, rfl, hx, dxs⟩:=hdx.ref_row (show be du=some [.str "rest"] from tdu);cases dxs with
   | cons hd0 dxs =>
   cases hd0;cases dxs;refine ⟨_,Y,ixR (Same.refl _) hx (aK (E7 _) rfl) ⟨Y,_,Y,?_⟩⟩;refine aZ ⟨_,rfl,_,rfl,_,rfl,_,rfl,zS4,λ tp htp=>Nx.of hin ⟨sx.trans (JV htp),as ++ [tp],by rw [List.map_append]; rfl,?_⟩⟩;rw [tk,List.filterMap_append,show [f].filterMap lfR=[⟨f.x,f.y,f.w,f.h⟩] by rw [List.filterMap_cons,show lfR f=some ⟨f.x,f.y,f.w,f.h⟩ by unfold lfR; rw [et]]; rfl];exact fg (RA.keep (λ a xs e=>JV htp _ _ e) px) (.cons af .nil)
  ·rw [et] at tdu;obtain ⟨a', xs, rfl, hx, dxs⟩:=hdx.ref_row (show be du=some [.str "piece", .int ki, .bool c, .int px', .int py'] from tdu);cases dxs with
   | cons hd0 dxs =>
   cases hd0;refine ⟨_,Y,ixR (Same.refl _) hx (aK (E7 _) rfl) ⟨Y,_,Y,?_⟩⟩;refine aQ (Nx.of hin ⟨sx,as,rfl,?_⟩);rw [tk,List.filterMap_append,show [f].filterMap lfR=[] by rw [List.filterMap_cons,show lfR f=none by unfold lfR; rw [et]]; rfl,List.append_nil];exact px
 ·rintro ys Hx ⟨sx,as,rfl,px⟩;have yl:=E5 px;rw [ul,List.take_length] at px yl;have fml:((lvs b t 0 0 w1 h1).filterMap lfR).length<=(lvs b t 0 0 w1 h1).length:=List.length_filterMap_le _ _;refine ⟨by rw [List.length_map]; lia,λ cl hcl=>?_⟩;have s4:=JV hcl (o:=.lst (as.map V.ref));have k4:(upd Hx cl (.lst (as.map V.ref))) cl=↥(as.map V.ref):=af;generalize upd Hx cl (.lst (as.map V.ref))=H4 at s4 k4 ⊢;have pa4:Paired (RA H4) as ((lvs b t 0 0 w1 h1).filterMap lfR):=RA.keep (λ a xs e=>s4 _ _ e) px;have mem:=RA.mem pa4;have mp:=RA.map pa4;refine ⟨cl,as,[false,false,false,false],λ a=>ge (fk H4 a),Y,JX k4,⋯,Y,λ a ha=>⟨_,JW (mem a ha),Y⟩,λ l as' hl pa so=>?_⟩;have s5:=JV hl (o:=.lst (as'.map V.ref));have s05:=(s02.trans sx).trans s4;refine q l as' (as'.map (fk H4)) _ (s05.free hl) af (RA.keep (λ a xs e=>s5 _ _ e) (RA.back λ a ha=>mem a (pa.mem_iff.mp ha))) ?_ ?_ (s05.trans s5)
  ·rw [show pL b t w1 h1=as.map (fk H4) from mp.symm]; exact pa.map _
  ·rw [List.map_map]; exact so
end
def pcA (ks:List Kd) (f:Lf):Int:=match f.t with
 | .piece i c _ _=>(match ks[i]? with
  | some k=>sd1 k c * sd2 k c
  | none=>0)
 | _=>0
def rsA (f:Lf):Int:=match f.t with
 | .rest=>f.w * f.h
 | _=>0
def mgA (ks:List Kd) (f:Lf):Int:=match f.t with
 | .piece _ _ _ _=>f.w * f.h - pcA ks f
 | _=>0
def dm (g:Lf->Int) (fs:List Lf):Int:=(fs.map g).sum
theorem cB (g:Lf->Int) (fs:List Lf) (f:Lf):dm g (fs ++ [f])=dm g fs + g f:=by unfold dm; rw [List.map_append,List.sum_append]; simp
theorem ee {b:Int} {ks:List Kd} (b0:0<=b):∀ (t:Tr) (x y w h:Int),1<=w->1<=h->okT b ks w h t->∀f∈lvs b t x y w h,1<=f.w/\f.w<=w/\1<=f.h/\f.h<=h/\okT b ks f.w f.h f.t
 | .rest,x,y,w,h,w0,h0,ok,f,hf=>by cases E4.mp hf; exact ⟨w0,E7 _,h0,E7 _,ok⟩
 | .piece ..,x,y,w,h,w0,h0,ok,f,hf=>by cases E4.mp hf; exact ⟨w0,E7 _,h0,E7 _,ok⟩
 | .cut true p l r,x,y,w,h,w0,h0,⟨p1,hp,hl,hr⟩,f,hf=>by
  rw [lvs] at hf;rcases C6.mp hf with z | z
  ·have:=ee b0 r _ _ _ _ ⋯ h0 hr f z;exact ⟨this.1,⋯,this.2.2.1,this.2.2.2.1,this.2.2.2.2⟩
  ·have:=ee b0 l _ _ _ _ p1 h0 hl f z;exact ⟨this.1,⋯,this.2.2.1,this.2.2.2.1,this.2.2.2.2⟩
 | .cut false p l r,x,y,w,h,w0,h0,⟨p1,hp,hl,hr⟩,f,hf=>by
  rw [lvs] at hf;rcases C6.mp hf with z | z
  ·have:=ee b0 r _ _ _ _ w0 ⋯ hr f z;exact ⟨this.1,this.2.1,this.2.2.1,⋯,this.2.2.2.2⟩
  ·have:=ee b0 l _ _ _ _ w0 p1 hl f z;exact ⟨this.1,this.2.1,this.2.2.1,⋯,this.2.2.2.2⟩
section
variable {P:G8} {w:JT} {K:C8} {mg:Str->Option JU} {base:Heap}
inductive spAreas (C:Addr) (vs:List V) (H:Hp) (Q:VK) (E_:XK):Prop
 | mk (pp s:Addr) (b w h:Int) (ks:List Kd) (v:V) (d:PyData) (t:Tr) (e_1:vs=[.ref s,.int w,.int h,v]) (e_2:TrH C pp s b w h ks v d t H) (e_3:0<=b) (e_4:w<=10 ^ 60) (e_5:h<=10 ^ 60) (e_6:(∀k∈ks,Good k)) (e_7:∀ (l:Addr) (A R M:Int) (H':Hp),A=dm (pcA ks) (lvs b t 0 0 w h)->R=dm rsA (lvs b t 0 0 w h)->M=dm (mgA ks) (lvs b t 0 0 w h)->H l=none->H' l= ~~~[.int A,.int R,.int M,.int (w * h - A - R - M)]->Same H H'->Q (.ref l) H'):spAreas C vs H Q E_
theorem scareas:FnScope ["shop","wide","high","tree","pieces","rests","margins","x","y","part_wide","part_high","leaf","cells","piece_wide","piece_high"] ["shop","wide","high","tree"] (defScope eZ):=⟨Y,Y,Y,∅,Y,∅,∅⟩
theorem rB {f C wa:Addr} {fd:I9} (F:Fun K "areas_of" "areas_of" eZ f fd) (B:Blt mg) (T:ShopTxt K C) (Z:TrC K mg wa) (MS:Mn P w K mg base C "sides" ["self","kind","turned"] 3 (spSides K C)) (DC:Dn P w K mg base "check_tree" ["shop","wide","high","thing"] 7 (spCheckT C)) (DL:Dn P w K mg base "leaves_of" ["shop","wide","high","tree"] 3 (spLeaves C)):FnOk P w K mg base CX0 8 f fd ["shop","wide","high","tree"] (spAreas C):=by
 refine F.ok scareas (λ vs H Q E h=>?_) (λ cdv A outer s H vs Q E hr h=>?_)
 ·obtain ⟨pp,s,b,w1,h1,ks,v,d,t,rfl,_⟩:=h
  rfl
 obtain ⟨pp,s,b,w1,h1,ks,v,d,t,rfl,th,b0,w60,h60,gk,q⟩:=h;have nd:=scareas.nd;obtain ⟨trs,hrs⟩:=Z.rs;refine ⟨_,((@bc _ _ _ _ (DC∪((pv 0)^^^((pv 1)^^^((pv 2)^^^((pv 3)^^^ae))))) Y)<<<((tM (i:=4) (j:=5) (k:=6) nd Y Y Y Y Y Y ah)<<<((@bM _ _ _ _ _ _ _ _ E6 Y (bv (DL∩((pv 0)^^^((pv 1)^^^((pv 2)^^^((pv 3)^^^ae)))))) (aP Y (7•(8•(9•(10•(11•aI)))))) ((12∣((pv 9)|||ck|||(pv 10)))>>>((((pv 11)&&&bV&&&ah)<*>bL<*>(br (v:=.str "rest") Y hrs ⟨trs,Y⟩))<|>(@ap _ _ _ (kq (i:=5) nd Y (Or.inl Y) (pv 12) iK))<|>((@bg _ _ _ _ _ _ (eD (pv 0) T.cl MS (hr.mono ∅) (((pv 11)&&&bV&&&ah)^^^(((pv 11)&&&bV&&&ah)^^^ae))) (aP Y (13•(14•aI))) Y Y Y)<<<((kq (i:=4) nd Y (Or.inl Y) ((pv 13)|||ck|||(pv 14)) iK)>>>(kq (i:=6) nd Y (Or.inl Y) ((pv 12)|||bd|||((pv 13)|||ck|||(pv 14))) iK))))) (by intro _; rfl))<<<((@aE _ _ _ _ _ ((pv 4)^^^((pv 5)^^^((pv 6)^^^((((((pv 1)|||ck|||(pv 2))|||bd|||(pv 4))|||bd|||(pv 5))|||bd|||(pv 6))^^^ae)))))⁻¹)))),?_⟩;have sz:(40000:Nat)<=sizeLine:=∅
 obtain ⟨m1,m2⟩:=TrD.many (b:=b) t d 0 0 w1 h1 th.td;have wd:=th.wd;have ln:=th.ln;refine ⟨_,Y,_,Y,_,Y,_,Y,pp,s,b,w1,h1,ks,v,d,Y,th.sh,th.w1,th.h1,th.dt,⋯,TrD.good t d w1 h1 th.td th.ok,λ H1 s1=>?_⟩;have th1:=th.same s1;refine aW (λ σ' H'=>σ'=[↑s,⇑w1,⇑h1,some v,none,none,none,none,none,none,none,none,none,none,none]/\H1=H') (λ R hR=>hR _ _ ⟨rfl,rfl⟩) ?_;rintro _ _ ⟨rfl,rfl⟩;refine aW (λ σ' H'=>σ'=[↑s,⇑w1,⇑h1,some v,⇑0,⇑0,⇑0,none,none,none,none,none,none,none,none]/\H1=H') (λ R hR=>hR _ _ ⟨rfl,rfl⟩) ?_;rintro _ _ ⟨rfl,rfl⟩;refine av (λ R=>∀v7 v8 v9 v10 v11 v12 v13 v14 (H':Hp),Same H H'->R [↑s,⇑w1,⇑h1,some v,⇑(dm (pcA ks) (lvs b t 0 0 w1 h1)),⇑(dm rsA (lvs b t 0 0 w1 h1)),⇑(dm (mgA ks) (lvs b t 0 0 w1 h1)),v7,v8,v9,v10,v11,v12,v13,v14] H') (λ Dd hR=>?_) ?_
 ·refine ⟨_,Y,_,Y,_,Y,_,Y,pp,s,b,w1,h1,ks,v,d,t,Y,th1.sh,th1.dt,th1.td,⋯,λ ll us H3 hll l3 pu s13=>?_⟩;have s03:=s1.trans s13;have ul:=E5 pu;refine ⟨ll,Y,⟨_,JX l3⟩,dD (xs:=us) (λ i σ' H'=>(∃v7 v8 v9 v10 v11 v12 v13 v14,σ'=[↑s,⇑w1,⇑h1,some v,⇑(dm (pcA ks) ((lvs b t 0 0 w1 h1).take i)),⇑(dm rsA ((lvs b t 0 0 w1 h1).take i)),⇑(dm (mgA ks) ((lvs b t 0 0 w1 h1).take i)),v7,v8,v9,v10,v11,v12,v13,v14])/\Same H3 H') ⟨⟨_,_,_,_,_,_,_,_,Y⟩,Same.refl _⟩ (λ i σ H' _ h=>JX (h.2 _ _ l3)) ?_ ?_⟩
  ·rintro i x σ H4 hi ⟨⟨v7,v8,v9,v10,v11,v12,v13,v14,rfl⟩,s34⟩;obtain ⟨f,hf,a,u,du,rfl,ha,hdu,tdu⟩:=JZ pu hi;have tk:(lvs b t 0 0 w1 h1).take (i + 1)=(lvs b t 0 0 w1 h1).take i ++ [f]:=by rw [List.take_add_one,hf]; rfl
   obtain ⟨fw0,fw1,fh0,fh1,okf⟩:=ee b0 t 0 0 w1 h1 th.w1 th.h1 th.ok f (B8 hf);refine ⟨a,_,Y,JW (s34 _ _ ha),Y,_,_,Y,_,_,Y,_,_,Y,_,_,Y,_,_,Y,Y,?_⟩;refine ⟨_,Y,_,Y,_,_,Y,Y,⟨b60 ⋯ ⋯,b60 ⋯ ⋯⟩,?_⟩;have s04:=s03.trans s34;have hdu4:Dt pp H4 u du:=hdu.same (s13.trans s34);rcases cu b t 0 0 w1 h1 f (B8 hf) with et | ⟨ki,c,px,py,et⟩
   ·rw [et] at tdu;obtain ⟨a', xs, rfl, hx, dxs⟩:=hdu4.ref_row (show be du=some [.str "rest"] from tdu);cases dxs with
    | cons hd0 dxs =>
    cases hd0;cases dxs;have e1:pcA ks f=0:=by unfold pcA; rw [et]
    have e2:rsA f=f.w * f.h:=by unfold rsA; rw [et]
    have e3:mgA ks f=0:=by unfold mgA; rw [et]
    refine ⟨_,Y,ixR (Same.refl _) hx (aK (E7 _) rfl) ⟨Y,_,Y,?_⟩⟩;refine aZ ⟨_,rfl,_,rfl,_,_,rfl,rfl,?_⟩;refine ⟨?_,s34⟩;rw [tk,cB,cB,cB,e1,e2,e3,Int.add_zero,Int.add_zero];exact ⟨_,_,_,_,_,_,_,_,Y⟩
   ·rw [et] at tdu okf;obtain ⟨k,hk,hc,x0,y0,hxw,hyh⟩:=okf;have gk1:=gk k (B8 hk);have sw:=gk1.w;have sh:=gk1.h;have sb:1<=sd1 k c/\1<=sd2 k c:=by cases c <;> exact ⟨by assumption,by assumption⟩
    obtain ⟨a', xs, rfl, hx, dxs⟩:=hdu4.ref_row (show be du=some [.str "piece", .int ki, .bool c, .int px, .int py] from tdu);cases dxs with
    | cons hd0 dxs =>
    cases dxs with
    | cons hd1 dxs =>
    cases dxs with
    | cons hd2 dxs =>
    cases dxs with
    | cons hd3 dxs =>
    cases dxs with
    | cons hd4 dxs =>
    cases dxs;cases hd0; cases hd1; cases hd2; cases hd3; cases hd4;have e1:pcA ks f=sd1 k c * sd2 k c:=by unfold pcA; rw [et]; dsimp only; rw [hk]
    have e2:rsA f=0:=by unfold rsA; rw [et]
    have e3:mgA ks f=f.w * f.h - sd1 k c * sd2 k c:=by unfold mgA; rw [et]; dsimp only; rw [e1]
    refine ⟨_,Y,ixR (Same.refl _) hx (aK (E7 _) rfl) ⟨Y,_,Y,?_⟩⟩;refine aQ ?_;have SH4:=dJ s04 th.sh;obtain ⟨dx,r,rs,S1,S2,S3⟩:=id SH4;refine ⟨_,Y,s,dx,_,Y,S1,(cj _ _ ∅ ∅),_,Y,ixR (Same.refl _) hx (aK ∅ rfl) ⟨_,Y,ixR (Same.refl _) hx (aK ∅ rfl) ?_⟩⟩;refine ⟨s,b,ks,.int ki,.bl c,_,_,Y,SH4,Ty.int,Ty.bl,nO hk hc,λ i' c' k' p e1' e2' hk' _ hp=>?_⟩;cases e1';cases e2';rw [Int.toNat_natCast,hk] at hk';cases hk';rw [jH];have s5:=JV hp (o:=.tup [.int (sd1 k c),.int (sd2 k c)]);have k5:(upd H4 p (.tup [.int (sd1 k c),.int (sd2 k c)])) p= ~~~[.int (sd1 k c),.int (sd2 k c)]:=af;generalize upd H4 p (.tup [.int (sd1 k c),.int (sd2 k c)])=H5 at s5 k5 ⊢;refine ⟨p,_,Y,JW k5,Y,_,_,Y,_,_,Y,Y,?_⟩;have q1:=b60 (show 0<=sd1 k c by lia) ⋯;have q2:=b60 (show 0<=sd2 k c by lia) ⋯;refine ⟨_,Y,_,Y,_,Y,_,_,Y,Y,⟨q1,q2⟩,_,_,Y,Y,?_⟩;refine ⟨_,Y,_,Y,_,Y,_,Y,_,_,Y,Y,⟨q1,q2⟩,_,_,Y,Y,_,_,Y,Y,?_⟩;refine ⟨?_,s34.trans s5⟩;rw [tk,cB,cB,cB,e1,e2,e3,Int.add_zero];exact ⟨_,_,_,_,_,_,_,_,Y⟩
  ·rintro σ H4 ⟨⟨v7,v8,v9,v10,v11,v12,v13,v14,rfl⟩,s34⟩;rw [ul,List.take_length];exact hR _ _ _ _ _ _ _ _ _ (s03.trans s34)
 rintro v7 v8 v9 v10 v11 v12 v13 v14 H3 s3;obtain ⟨A,hA⟩:∃A,A=dm (pcA ks) (lvs b t 0 0 w1 h1):=⟨_,Y⟩
 obtain ⟨R,hR⟩:∃R,R=dm rsA (lvs b t 0 0 w1 h1):=⟨_,Y⟩
 obtain ⟨M,hM⟩:∃M,M=dm (mgA ks) (lvs b t 0 0 w1 h1):=⟨_,Y⟩
 rw [<- hA,<- hR,<- hM];have w0:=th.w1;have h0:=th.h1;refine ⟨_,Y,_,Y,_,Y,_,Y,_,Y,_,_,Y,Y,⟨b60 ⋯ ⋯,b60 ⋯ ⋯⟩,_,Y,_,_,Y,Y,_,Y,_,_,Y,Y,_,Y,_,_,Y,Y,zS4,λ l hl=>?_⟩;exact q l A R M _ hA hR hM (s3.free hl) af (s3.trans (JV hl))
end
abbrev ci:Stmt:=inClass (top 40) 0
abbrev bh:Stmt:=inClass (top 40) 1
abbrev ef:Stmt:=inClass (top 40) 2
abbrev cq:Stmt:=inClass (top 40) 3
abbrev bJ:Stmt:=inClass (top 40) 4
abbrev cA:Stmt:=inClass (top 40) 5
abbrev dq:Stmt:=inClass (top 40) 6
abbrev bT:Stmt:=inClass (top 40) 7
abbrev dw:Stmt:=inClass (top 40) 8
structure Stn where
 pl:List (Int×Int×Int)
 nu:Int
 md:List Int
 pu:Int
def PlA (H:Hp) (v:V) (q:Int×Int×Int):Prop:=∃a,v=.ref a/\H a= ~~~[.int q.1,.int q.2.1,.int q.2.2]
theorem PlA.keep {H H':Hp} (k:∀a xs,H a= ~~~xs->H' a= ~~~xs) {v:V} {q:Int×Int×Int} (h:PlA H v q):PlA H' v q:=h.imp λ _ ⟨e,h⟩=>⟨e,k _ _ h⟩
inductive StnA (H:Hp):V->Stn->Prop
 | mk {a b c:Addr} {rs:List V} {g:Stn} (h:H a= ~~~[.ref b,.int g.nu,.ref c,.int g.pu]) (hb:H b= ~~~rs) (pr:Paired (PlA H) rs g.pl) (hc:H c= ~~~(g.md.map V.int)):StnA H (.ref a) g
theorem StnA.keep {H H':Hp} (k:∀a xs,H a= ~~~xs->H' a= ~~~xs) {v:V} {g:Stn} (h:StnA H v g):StnA H' v g:=by
 cases h with
 | mk h hb pr hc=>exact .mk (k _ _ h) (k _ _ hb) (JY pr λ v q h=>h.keep k) (k _ _ hc)
theorem rC:¬ (("past" : Str) = "standing")/\¬ (("past" : Str) = "least")/\¬ (("past" : Str) = "shop")/\¬ (("standing" : Str) = "past")/\¬ (("standing" : Str) = "least")/\¬ (("standing" : Str) = "shop")/\¬ (("least" : Str) = "past")/\¬ (("least" : Str) = "standing")/\¬ (("least" : Str) = "shop")/\¬ (("shop" : Str) = "past")/\¬ (("shop" : Str) = "standing")/\¬ (("shop" : Str) = "least"):=∅
def sfl (sh:Addr) (le:Int) (sg:V) (pa:Addr):List (Str×V):=[("shop",.ref sh),("least",.int le),("standing",sg),("past",.ref pa)]
theorem fP (sh:Addr) (le:Int) (sg:V) (pa:Addr):bp "past" (.ref pa) (bp "standing" sg (bp "least" (.int le) (bp "shop" (.ref sh) [])))=sfl sh le sg pa:=by obtain ⟨h1,h2,h3,h4,h5,h6,h7,h8,h9,h10,h11,h12⟩:=rC;simp only [bp,h9,h10,h11,h12,h7,h8,h4,h5,h6,if_false,sfl]
theorem nQ (sh:Addr) (le:Int) (sg v:V) (pa:Addr):bp "standing" v (sfl sh le sg pa)=sfl sh le v pa:=by obtain ⟨h1,h2,h3,h4,h5,h6,h7,h8,h9,h10,h11,h12⟩:=rC;simp only [bp,sfl,h11,h8,if_false,if_true]
section
variable (sh:Addr) (le:Int) (sg:V) (pa:Addr)
theorem fm:(sfl sh le sg pa).lookup ("shop" : Str)=↑sh:=by rw [<- fP]; obtain ⟨h1,h2,h3,h4,h5,h6,h7,h8,h9,h10,h11,h12⟩:=rC; simp only [aX,h10,h11,h12,if_false,if_true]
theorem pM:(sfl sh le sg pa).lookup ("least" : Str)=⇑le:=by rw [<- fP]; obtain ⟨h1,h2,h3,h4,h5,h6,h7,h8,h9,h10,h11,h12⟩:=rC; simp only [aX,h7,h8,if_false,if_true]
theorem bA:(sfl sh le sg pa).lookup ("standing" : Str)=some sg:=by rw [<- fP]; obtain ⟨h1,h2,h3,h4,h5,h6,h7,h8,h9,h10,h11,h12⟩:=rC; simp only [aX,h4,if_false,if_true]
theorem gY:(sfl sh le sg pa).lookup ("past" : Str)=↑pa:=by rw [<- fP]; simp only [aX,if_true]
theorem bN {m:Str} (h1:¬ m = "past") (h2:¬ m = "standing") (h3:¬ m = "least") (h4:¬ m = "shop"):(sfl sh le sg pa).lookup m=none:=by rw [<- fP]; simp only [aX,h1,h2,h3,h4,if_false]; rfl
end
inductive StoreAt (CS C:Addr) (H:Hp) (s sh:Addr) (b:Int) (ks:List Kd) (le:Int) (g:Stn) (gs:List Stn) (pa:Addr):Prop
 | mk {dx:Addr} {sg:V} {ps:List V} (h:H s=some (.ins CS dx (sfl sh le sg pa))) (sp:ShopAt C H sh b ks) (st:StnA H sg g) (hp:H pa=↥ps) (pr:Paired (StnA H) ps gs):StoreAt CS C H s sh b ks le g gs pa
def FrS (s pa:Addr) (H H':Hp):Prop:=∀c o,c≠s->c≠pa->H c=some o->H' c=some o
theorem FrS.trans {s pa:Addr} {H H' H'':Hp} (a:FrS s pa H H') (b:FrS s pa H' H''):FrS s pa H H'':=λ c o n1 n2 e=>b c o n1 n2 (a c o n1 n2 e)
theorem Same.frS {s pa:Addr} {H H':Hp} (x:Same H H'):FrS s pa H H':=λ _ _ _ _ e=>x _ _ e
theorem nR {CS C s sh dx pa:Addr} {H:Hp} {b le:Int} {ks:List Kd} {sg:V} (h:H s=some (.ins CS dx (sfl sh le sg pa))) (x:ShopAt C H sh b ks):sh≠s:=λ z=>by obtain ⟨dx',r,rs,h1,_⟩:=x;rw [z,h] at h1;have e:=HO.ins.inj (C1 h1);have:=congrArg (List.lookup ("shop" : Str)) e.2.2;rw [fm,cj _ _ ∅ ∅] at this;cases this
theorem FrS.tup {CS C s sh pa:Addr} {H H':Hp} {b le:Int} {ks:List Kd} {g:Stn} {gs:List Stn} (x:StoreAt CS C H s sh b ks le g gs pa) (f:FrS s pa H H'):∀a xs,H a= ~~~xs->H' a= ~~~xs:=λ a xs e=>by
 cases x with
 | mk h sp st hp pr=>exact f _ _ (λ z=>by rw [z,h] at e; cases e) (λ z=>by rw [z,hp] at e; cases e) e
theorem FrS.shop {CS C s sh pa:Addr} {H H':Hp} {b le:Int} {ks:List Kd} {g:Stn} {gs:List Stn} (x:StoreAt CS C H s sh b ks le g gs pa) (f:FrS s pa H H'):ShopAt C H' sh b ks:=by
 have t:=FrS.tup x f;cases x with
 | mk h sp st hp pr =>
  have ne:=nR h sp;obtain ⟨dx',r,rs,h1,h2,h3⟩:=sp;exact ⟨dx',r,rs,f _ _ ne (λ z=>by rw [z,hp] at h1; cases h1) h1,t _ _ h2,Tups.keep t h3⟩
theorem StoreAt.same {CS C s sh pa:Addr} {H H':Hp} {b le:Int} {ks:List Kd} {g:Stn} {gs:List Stn} (x:StoreAt CS C H s sh b ks le g gs pa) (k:Same H H'):StoreAt CS C H' s sh b ks le g gs pa:=by
 cases x with
 | mk h sp st hp pr=>exact .mk (k _ _ h) (dJ k sp) (st.keep λ _ _ e=>k _ _ e) (k _ _ hp) (JY pr λ v q h=>h.keep λ _ _ e=>k _ _ e)
theorem StoreAt.look {CS C s sh pa:Addr} {H:Hp} {b le:Int} {ks:List Kd} {g:Stn} {gs:List Stn} (x:StoreAt CS C H s sh b ks le g gs pa):∃dx sg ps,H s=some (.ins CS dx (sfl sh le sg pa))/\ShopAt C H sh b ks/\StnA H sg g/\H pa=↥ps/\Paired (StnA H) ps gs:=by
 cases x with
 | mk h sp st hp pr=>exact ⟨_,_,_,h,sp,st,hp,pr⟩
structure StoreTxt (K:C8) (CS:Addr):Prop where
 cl:Cls K CS
 n1:NoAttr K CS "shop"
 n2:NoAttr K CS "least"
 n3:NoAttr K CS "standing"
 n4:NoAttr K CS "past"
theorem Paired.snoc {α β:Type} {R:α->β->Prop} {xs:List α} {ys:List β} {x:α} {y:β} (h:Paired R xs ys) (r:R x y):Paired R (xs ++ [x]) (ys ++ [y]):=fg h (.cons r .nil)
section
variable {P:G8} {w:JT} {K:C8} {mg:Str->Option JU} {base:Heap}
inductive spSInit (CS C:Addr) (vs:List V) (H:Hp) (Q:VK) (E_:XK):Prop
 | mk (s dx sh:Addr) (b le:Int) (ks:List Kd) (e_1:vs=[.ref s,.ref sh,.int le]) (e_2:H s=some (.ins CS dx [])) (e_3:ShopAt C H sh b ks) (e_4:ks.length<=8) (e_5:1<=le) (e_6:∀ (pa:Addr) (H':Hp),H pa=none->StoreAt CS C H' s sh b ks le ⟨[],0,List.replicate ks.length 0,0⟩ [] pa->(∀c o,c≠s->H c=some o->H' c=some o)->Q .non H'):spSInit CS C vs H Q E_
inductive spRepl (CS C:Addr) (vs:List V) (H:Hp) (Q:VK) (E_:XK):Prop
 | mk (s sh pa:Addr) (b le:Int) (ks:List Kd) (g g':Stn) (gs:List Stn) (v:V) (e_1:vs=[.ref s,v]) (e_2:StoreAt CS C H s sh b ks le g gs pa) (e_3:gs.length<=1000) (e_4:StnA H v g') (e_5:∀H',StoreAt CS C H' s sh b ks le g' (gs ++ [g]) pa->FrS s pa H H'->Q .non H'):spRepl CS C vs H Q E_
inductive spPut (CS C:Addr) (vs:List V) (H:Hp) (Q:VK) (E_:XK):Prop
 | mk (s sh pa:Addr) (b le w h:Int) (ks:List Kd) (g:Stn) (gs:List Stn) (e_1:vs=[.ref s,.int w,.int h]) (e_2:StoreAt CS C H s sh b ks le g gs pa) (e_3:gs.length<=1000) (e_4:g.pl.length<=10000) (e_5:1<=w) (e_6:w<=10 ^ 60) (e_7:1<=h) (e_8:h<=10 ^ 60) (e_9:∀H',StoreAt CS C H' s sh b ks le ⟨g.pl ++ [(g.nu,w,h)],g.nu + 1,g.md,g.pu + w * h⟩ (gs ++ [g]) pa->FrS s pa H H'->Q (.int g.nu) H'):spPut CS C vs H Q E_
inductive spPlates (CS C:Addr) (vs:List V) (H:Hp) (Q:VK) (E_:XK):Prop
 | mk (s sh pa:Addr) (b le:Int) (ks:List Kd) (g:Stn) (gs:List Stn) (e_1:vs=[.ref s]) (e_2:StoreAt CS C H s sh b ks le g gs pa) (e_3:∀ (l:Addr) (rs:List V) (H':Hp),H l=none->H' l=↥rs->Paired (PlA H') rs g.pl->Same H H'->Q (.ref l) H'):spPlates CS C vs H Q E_
inductive spMade (CS C:Addr) (vs:List V) (H:Hp) (Q:VK) (E_:XK):Prop
 | mk (s sh pa:Addr) (b le:Int) (ks:List Kd) (g:Stn) (gs:List Stn) (e_1:vs=[.ref s]) (e_2:StoreAt CS C H s sh b ks le g gs pa) (e_3:∀ (l:Addr) (H':Hp),H l=none->H' l=↥(g.md.map V.int)->Same H H'->Q (.ref l) H'):spMade CS C vs H Q E_
inductive spUndo (CS C:Addr) (vs:List V) (H:Hp) (Q:VK) (E_:XK):Prop
 | mk (s sh pa:Addr) (b le:Int) (ks:List Kd) (g:Stn) (gs:List Stn) (e_1:vs=[.ref s]) (e_2:StoreAt CS C H s sh b ks le g gs pa) (e_3:gs.length<=1001) (e_4:(gs=[]->Q (.bl false) H)) (e_5:∀gs' g' H',gs=gs' ++ [g']->StoreAt CS C H' s sh b ks le g' gs' pa->FrS s pa H H'->Q (.bl true) H'):spUndo CS C vs H Q E_
inductive spPlOf (CS C:Addr) (vs:List V) (H:Hp) (Q:VK) (E_:XK):Prop
 | mk (s sh pa:Addr) (b le:Int) (ks:List Kd) (g:Stn) (gs:List Stn) (i:Nat) (q:Int×Int×Int) (e_1:vs=[.ref s,.int q.1]) (e_2:StoreAt CS C H s sh b ks le g gs pa) (e_3:0<=q.1) (e_4:g.pl[i]? = some q) (e_5:(∀j q',j < i->g.pl[j]? = some q'->q'.1≠q.1)) (e_6:∀a,H a= ~~~[.int q.1,.int q.2.1,.int q.2.2]->Q (.ref a) H):spPlOf CS C vs H Q E_
theorem screpl:FnScope ["self","standing"] ["self","standing"] (defScope bh):=⟨Y,Y,Y,∅,Y,∅,∅⟩
theorem uj {f C CS:Addr} {fd:I9} (F:Fun K "replace_standing" "Store.replace_standing" bh f fd) (TS:StoreTxt K CS):FnOk P w K mg base CX0 1 f fd ["self","standing"] (spRepl CS C):=by
 refine F.ok screpl (λ vs H Q E h=>?_) (λ cdv A outer s0 H vs Q E hr h=>?_)
 ·obtain ⟨s,sh,pa,b,le,ks,g,g',gs,v,rfl,_⟩:=h
  rfl
 obtain ⟨s,sh,pa,b,le,ks,g,g',gs,v,rfl,x,g1000,st',q⟩:=h;have nd:=screpl.nd;refine ⟨_,((@bc _ _ _ _ (@dA _ _ _ _ _ _ _ _ _ _ _ _ G6 PySem.F.slot_list_append PySem.F.type_list_append bE (bz (pv 0) Y) ((bz (pv 0) Y)^^^ae) Y Y Y Y Y) Y)>>>(dE (pv 0) (pv 1) Y)),?_⟩;obtain ⟨dx,sg,ps,hs,sp,st,hp,pr⟩:=x.look;have nps:pa≠s:=λ z=>by rw [z,hs] at hp; cases hp
 have pl:=E5 pr;have z2:(2000:Nat) < sizeLine:=∅
 refine av (λ R=>∀ (H':Hp),H' pa=↥(ps ++ [sg])->(∀c o,c≠pa->H c=some o->H' c=some o)->R [↑s,some v] H') (λ Dd hR=>?_) ?_
 ·refine ⟨_,Y,s,CS,dx,_,_,Y,hs,TS.cl,TS.n4,gY _ _ _ _,.inl ⟨Y,_,JX hp⟩,_,Y,s,CS,dx,_,_,Y,hs,TS.cl,TS.n3,bA _ _ _ _,pa,_,_,Y,Y,hp,(by rw [pl]; lia),?_⟩;exact hR _ af (λ c o n e=>by rw [au n]; exact e)
 rintro H1 hp1 k1;have hs1:=k1 _ _ (Ne.symm nps) hs;have kt:∀a xs,H a= ~~~xs->H1 a= ~~~xs:=λ a xs e=>k1 _ _ (λ z=>by rw [z,hp] at e; cases e) e;refine ⟨_,Y,_,Y,s,CS,dx,_,Y,hs1,TS.cl,TS.n3,(by show 4 < 1000; decide),?_⟩;rw [nQ];have kt2:∀a xs,H a= ~~~xs->(upd H1 s (.ins CS dx (sfl sh le v pa))) a= ~~~xs:=λ a xs e=>by have e1:=kt _ _ e;rw [au (λ z=>by rw [z,hs1] at e1; cases e1)]; exact e1
 have fr:FrS s pa H (upd H1 s (.ins CS dx (sfl sh le v pa))):=λ c o n1 n2 e=>by rw [au n1]; exact k1 _ _ n2 e
 exact q _ (.mk af (FrS.shop x fr) (st'.keep kt2) (by rw [au nps]; exact hp1) (Paired.snoc (JY pr λ v q h=>h.keep kt2) (st.keep kt2))) fr
theorem scplates:FnScope ["self"] ["self"] (defScope cA):=⟨Y,Y,Y,∅,Y,∅,∅⟩
theorem pN {f C CS:Addr} {fd:I9} (F:Fun K "plates" "Store.plates" cA f fd) (B:Blt mg) (TS:StoreTxt K CS):FnOk P w K mg base CX0 1 f fd ["self"] (spPlates CS C):=by
 refine F.ok scplates (λ vs H Q E h=>?_) (λ cdv A outer s0 H vs Q E hr h=>?_)
 ·obtain ⟨s,sh,pa,b,le,ks,g,gs,rfl,_⟩:=h
  rfl
 obtain ⟨s,sh,pa,b,le,ks,g,gs,rfl,x,q⟩:=h;have nd:=scplates.nd;refine ⟨_,((@bq _ _ _ _ _ _ _ _ _ cX Y B.list PyProof.Rows.boot_list (((bz (pv 0) Y)&&&ix_tup&&&ah)^^^ae) ∅ ∅ Y Y)⁻¹),?_⟩;obtain ⟨dx,sg,ps,hs,sp,st,hp,pr⟩:=x.look;cases st with
 | mk ha hb pr' hc =>
  refine ⟨_,Y,s,CS,dx,_,_,Y,hs,TS.cl,TS.n3,bA _ _ _ _,_,_,0,_,Y,Y,JW ha,Y,_,_,Y,.inr (JW hb),λ l hl=>?_⟩;exact q l _ _ hl af (JY pr' λ v q h=>h.keep λ _ _ e=>JV hl _ _ e) (JV hl)
theorem scmade:FnScope ["self"] ["self"] (defScope dq):=⟨Y,Y,Y,∅,Y,∅,∅⟩
theorem uk {f C CS:Addr} {fd:I9} (F:Fun K "made" "Store.made" dq f fd) (B:Blt mg) (TS:StoreTxt K CS):FnOk P w K mg base CX0 1 f fd ["self"] (spMade CS C):=by
 refine F.ok scmade (λ vs H Q E h=>?_) (λ cdv A outer s0 H vs Q E hr h=>?_)
 ·obtain ⟨s,sh,pa,b,le,ks,g,gs,rfl,_⟩:=h
  rfl
 obtain ⟨s,sh,pa,b,le,ks,g,gs,rfl,x,q⟩:=h;have nd:=scmade.nd;refine ⟨_,((@bq _ _ _ _ _ _ _ _ _ cX Y B.list PyProof.Rows.boot_list (((bz (pv 0) Y)&&&ix_tup&&&ah)^^^ae) ∅ ∅ Y Y)⁻¹),?_⟩;obtain ⟨dx,sg,ps,hs,sp,st,hp,pr⟩:=x.look;cases st with
 | mk ha hb pr' hc =>
  refine ⟨_,Y,s,CS,dx,_,_,Y,hs,TS.cl,TS.n3,bA _ _ _ _,_,_,2,_,Y,Y,JW ha,Y,_,_,Y,.inr (JW hc),λ l hl=>?_⟩;exact q l _ hl af (JV hl)
theorem scundo:FnScope ["self"] ["self"] (defScope dw):=⟨Y,Y,Y,∅,Y,∅,∅⟩
theorem uo {f C CS:Addr} {fd:I9} (F:Fun K "undo" "Store.undo" dw f fd) (TS:StoreTxt K CS):FnOk P w K mg base CX0 1 f fd ["self"] (spUndo CS C):=by
 refine F.ok scundo (λ vs H Q E h=>?_) (λ cdv A outer s0 H vs Q E hr h=>?_)
 ·obtain ⟨s,sh,pa,b,le,ks,g,gs,rfl,_⟩:=h
  rfl
 obtain ⟨s,sh,pa,b,le,ks,g,gs,rfl,x,g1,q1,q2⟩:=h;have nd:=scundo.nd;refine ⟨_,(((@bf _ _ _ _ (gD (bz (pv 0) Y) (λ _=>Y)))<|>(bF⁻¹)<|>aF)<<<((dE (pv 0) (kM G6 PySem.F.slot_list_pop PySem.F.type_list_pop kO (bz (pv 0) Y)) Y)<<<(bF⁻¹))),?_⟩;obtain ⟨dx,sg,ps,hs,sp,st,hp,pr⟩:=x.look;have nps:pa≠s:=λ z=>by rw [z,hs] at hp; cases hp
 refine ff (λ R=>ps≠[]->R [↑s] H) (λ R hR=>?_) ?_
 ·refine ⟨_,Y,s,CS,dx,_,_,Y,hs,TS.cl,TS.n4,gY _ _ _ _,_,.inl ⟨ps,JX hp,Y⟩,?_⟩;cases ps with
  | nil =>
   cases pr;exact aZ (q1 rfl)
  | cons p0 ps=>exact aQ (hR (List.cons_ne_nil _ _))
 rintro ne;obtain ⟨ps',p0,rfl⟩:∃ps' p0,ps=ps' ++ [p0]:=by
  rcases List.eq_nil_or_concat ps with e | ⟨ps',p0,e⟩
  ·exact absurd e ne
  ·exact ⟨ps',p0,by rw [e,List.concat_eq_append]⟩
 obtain ⟨gs',g',rfl,pr',st'⟩:=nM pr;refine av (λ R=>∀ (H':Hp),StoreAt CS C H' s sh b ks le g' gs' pa->FrS s pa H H'->R [↑s] H') (λ Dd hR=>?_) ?_
 ·refine ⟨_,Y,s,CS,dx,_,_,Y,hs,TS.cl,TS.n4,gY _ _ _ _,.inl ⟨Y,_,JX hp⟩,pa,_,p0,Y,Y,hp,(by simp),?_⟩;rw [List.dropLast_concat];have k1:∀c o,c≠pa->H c=some o->(upd H pa (.lst ps')) c=some o:=λ c o n e=>by rw [au n]; exact e
  have hp1:(upd H pa (.lst ps')) pa=↥ps':=af;generalize upd H pa (.lst ps')=H1 at k1 hp1 ⊢;have hs1:=k1 _ _ (Ne.symm nps) hs;refine ⟨_,Y,s,CS,dx,_,Y,hs1,TS.cl,TS.n3,(by show 4 < 1000; decide),?_⟩;rw [nQ];have kt2:∀a xs,H a= ~~~xs->(upd H1 s (.ins CS dx (sfl sh le p0 pa))) a= ~~~xs:=λ a xs e=>by have e1:=k1 _ _ (λ z=>by rw [z,hp] at e; cases e) e;rw [au (λ z=>by rw [z,hs1] at e1; cases e1)]; exact e1
  have fr:FrS s pa H (upd H1 s (.ins CS dx (sfl sh le p0 pa))):=λ c o n1 n2 e=>by rw [au n1]; exact k1 _ _ n2 e
  exact hR _ (.mk af (FrS.shop x fr) (st'.keep kt2) (by rw [au nps]; exact hp1) (JY pr' λ v q h=>h.keep kt2)) fr
 rintro H1 x1 fr;exact q2 gs' g' H1 rfl x1 fr
end
section
variable {P:G8} {w:JT} {K:C8} {mg:Str->Option JU} {base:Heap}
theorem scput:FnScope ["self","wide","high","plates","number","made","cells_put"] ["self","wide","high"] (defScope ef):=⟨Y,Y,Y,∅,Y,∅,∅⟩
theorem wS {f C CS:Addr} {fd:I9} (F:Fun K "put" "Store.put" ef f fd) (TS:StoreTxt K CS) (DCP:Dn P w K mg base "check_plate" ["wide","high"] 2 (spCP)) (MR:Mn P w K mg base CS "replace_standing" ["self","standing"] 1 (spRepl CS C)):FnOk P w K mg base CX0 3 f fd ["self","wide","high"] (spPut CS C):=by
 refine F.ok scput (λ vs H Q E h=>?_) (λ cdv A outer s0 H vs Q E hr h=>?_)
 ·obtain ⟨s,sh,pa,b,le,w1,h1,ks,g,gs,rfl,_⟩:=h
  rfl
 obtain ⟨s,sh,pa,b,le,w1,h1,ks,g,gs,rfl,x,g1,p1,w0,w60,h0,h60,q⟩:=h;have nd:=scput.nd;refine ⟨_,((@bc _ _ _ _ (DCP∪((pv 1)^^^((pv 2)^^^ae))) Y)<<<((@bg _ _ _ _ _ _ (bz (pv 0) Y) (aP Y (3•(4•(5•(6•aI))))) Y Y Y)<<<((@bc _ _ _ _ (eD (pv 0) TS.cl MR (hr.mono ∅) ((@aE _ _ _ _ _ (((pv 3)|||tG|||(@aE _ _ _ _ _ ((@aE _ _ _ _ _ ((pv 4)^^^((pv 1)^^^((pv 2)^^^ae))))^^^ae)))^^^(((pv 4)|||aN|||ah)^^^((pv 5)^^^(((pv 6)|||aN|||((pv 1)|||ck|||(pv 2)))^^^ae)))))^^^ae)) Y)<<<((pv 4)⁻¹)))),?_⟩;have z2:(20000:Nat) < sizeLine:=∅
 obtain ⟨dx,sg,ps,hs,sp,st,hp,pr⟩:=x.look;refine av (λ R=>R [↑s,⇑w1,⇑h1,none,none,none,none] H) (λ Dd hR=>?_) ?_
 ·exact ⟨_,Y,_,Y,w1,h1,Y,w0,h0,hR⟩
 skip
 cases st with
 | @mk a b' c rs _ ha hb pr' hc =>
  refine av (λ R=>R [↑s,⇑w1,⇑h1,↑b',⇑g.nu,↑c,⇑g.pu] H) (λ Dd hR=>?_) ?_
  ·exact ⟨_,Y,s,CS,dx,_,_,Y,hs,TS.cl,TS.n3,bA _ _ _ _,a,_,Y,JW ha,Y,_,_,Y,_,_,Y,_,_,Y,_,_,Y,Y,hR⟩
  skip
  have rl:=E5 pr';refine av (λ R=>∀ (H':Hp),StoreAt CS C H' s sh b ks le ⟨g.pl ++ [(g.nu,w1,h1)],g.nu + 1,g.md,g.pu + w1 * h1⟩ (gs ++ [g]) pa->FrS s pa H H'->R [↑s,⇑w1,⇑h1,↑b',⇑g.nu,↑c,⇑g.pu] H') (λ Dd hR=>?_) ?_
  ·refine ⟨_,Y,s,dx,_,Y,hs,bN _ _ _ _ ∅ ∅ ∅ ∅,?_⟩;refine ⟨_,Y,_,Y,_,Y,_,Y,zS3,λ t1 ht1=>?_⟩;obtain ⟨H1,e1,k1,s1⟩:∃H',upd H t1 (.tup [.int g.nu,.int w1,.int h1])=H'/\H' t1= ~~~[.int g.nu,.int w1,.int h1]/\Same H H':=⟨_,Y,af,JV ht1⟩
   rw [show upd H t1 _=H1 from e1]; clear e1;refine ⟨zS1,λ t2 ht2=>?_⟩;obtain ⟨H2,e2,k2,s2⟩:∃H',upd H1 t2 (.tup [.ref t1])=H'/\H' t2= ~~~[.ref t1]/\Same H1 H':=⟨_,Y,af,JV ht2⟩
   rw [show upd H1 t2 _=H2 from e2]; clear e2;refine ⟨b',t2,_,_,Y,Y,(s1.trans s2) _ _ hb,k2,(by rw [rl]; show _ + 1<=sizeLine; lia),λ t3 H3 c3 k3=>?_⟩;have s3:Same H2 H3:=by
    rcases c3 with ⟨rfl,_⟩ | ⟨hm,rfl⟩
    ·exact Same.refl _
    ·exact JV hm
   have s03:=(s1.trans s2).trans s3;refine ⟨_,Y,_,_,Y,Y,_,Y,_,Y,_,Y,_,Y,_,_,Y,Y,⟨b60 ⋯ ⋯,b60 ⋯ ⋯⟩,_,_,Y,Y,zS4,λ t4 ht4=>?_⟩;obtain ⟨H4,e4,k4,s4⟩:∃H',upd H3 t4 (.tup [.ref t3,.int (g.nu + 1),.ref c,.int (g.pu + w1 * h1)])=H'/\H' t4= ~~~[.ref t3,.int (g.nu + 1),.ref c,.int (g.pu + w1 * h1)]/\Same H3 H':=⟨_,Y,af,JV ht4⟩
   rw [show upd H3 t4 _=H4 from e4]; clear e4;have s04:=s03.trans s4;refine ⟨s,sh,pa,b,le,ks,g,⟨g.pl ++ [(g.nu,w1,h1)],g.nu + 1,g.md,g.pu + w1 * h1⟩,gs,_,Y,x.same s04,g1,.mk k4 (s4 _ _ k3) ?_ (s04 _ _ hc),λ H5 x5 f5=>hR _ x5 ((Same.frS s04).trans f5)⟩;exact Paired.snoc (JY pr' λ v q h=>h.keep λ _ _ e=>s04 _ _ e) ⟨t1,rfl,s4 _ _ (s3 _ _ (s2 _ _ k1))⟩
  rintro H5 x5 f5;exact ⟨_,Y,q _ x5 f5⟩
theorem scplof:FnScope ["self","number","plate"] ["self","number"] (defScope cq):=⟨Y,Y,Y,∅,Y,∅,∅⟩
theorem uq {f C CS:Addr} {fd:I9} (F:Fun K "plate_of" "Store.plate_of" cq f fd) (TS:StoreTxt K CS) (DW:Dn P w K mg base "is_whole" ["thing","least"] 1 (bY K)):FnOk P w K mg base CX0 2 f fd ["self","number"] (spPlOf CS C):=by
 refine F.ok scplof (λ vs H Q E h=>?_) (λ cdv A outer s0 H vs Q E hr h=>?_)
 ·obtain ⟨s,sh,pa,b,le,ks,g,gs,i,q0,rfl,_⟩:=h
  rfl
 obtain ⟨s,sh,pa,b,le,ks,g,gs,i,q0,rfl,x,n0,hi,first,q⟩:=h;have nd:=scplof.nd;refine ⟨_,(((@aY _ _ _ (DW∪((pv 1)^^^(ah^^^ae))) (by intro _; rfl))<|>(@ap _ _ _ (@bM _ _ _ _ _ _ _ _ E6 Y (fB ((bz (pv 0) Y)&&&ix_tup&&&ah)) (ao (i:=2) nd Y (Or.inl Y)) (@ap _ _ _ ((((pv 2)&&&ix_tup&&&ah)<*>bL<*>(pv 1))<|>((pv 2)⁻¹)<|>aF)) (by intro _; rfl)))<|>aF)>>>bU),?_⟩;obtain ⟨dx,sg,ps,hs,sp,st,hp,pr⟩:=x.look;refine aW (λ σ' H'=>False) (λ R hR=>?_) (λ _ _ z=>z.elim);refine ⟨_,Y,.int q0.1,_,0,Y,Ty.int,_,Y,?_⟩;rw [show aU (.int q0.1) 0=true from decide_eq_true n0];refine aZ ?_;cases st with
 | @mk a b' c rs _ ha hb pr' hc =>
  refine ⟨_,Y,s,CS,dx,_,_,Y,hs,TS.cl,TS.n3,bA _ _ _ _,a,_,0,_,Y,Y,JW ha,Y,b',Y,⟨_,JW hb⟩,iM (xs:=rs) (λ j σ' H'=>(∃v2,σ'=[↑s,⇑q0.1,v2])/\H=H'/\j<=i) ⟨⟨_,Y⟩,Y,G0 _⟩ (λ j σ H' _ h=>by rw [<- h.2.1]; exact JW hb) ?_ ?_⟩
  ·rintro j v σ _ hj ⟨⟨v2,rfl⟩,rfl,ji⟩;obtain ⟨q',hq',a',rfl,ha'⟩:=JZ pr' hj;refine ⟨_,Y,a',_,0,_,Y,Y,JW ha',Y,_,Y,Y,_,Y,?_⟩
   by_cases e:j=i
   ·subst e;rw [hi] at hq';cases hq';rw [show decide (V.int q0.1=V.int q0.1)=true from decide_eq_true rfl];exact aZ ⟨_,rfl,q a' ha'⟩
   ·have:=first j q' ⋯ hq'
    rw [show decide (V.int q'.1=V.int q0.1)=false from decide_eq_false (λ z=>this (V.int.inj z))];exact aQ ⟨⟨_,rfl⟩,rfl,⋯⟩
  ·rintro σ _ ⟨⟨v2,rfl⟩,rfl,ji⟩;have:=(A9.mp hi).1;have:=E5 pr';lia
theorem scsinit:FnScope ["self","shop","least"] ["self","shop","least"] (defScope ci):=⟨Y,Y,Y,∅,Y,∅,∅⟩
theorem rD {f C CS:Addr} {fd:I9} (F:Fun K "__init__" "Store.__init__" ci f fd) (B:Blt mg) (TS:StoreTxt K CS) (T:ShopTxt K C) (DW:Dn P w K mg base "is_whole" ["thing","least"] 1 (bY K)) (MK:Mn P w K mg base C "kinds" ["self"] 1 (eV C)):FnOk P w K mg base CX0 2 f fd ["self","shop","least"] (spSInit CS C):=by
 refine F.ok scsinit (λ vs H Q E h=>?_) (λ cdv A outer s0 H vs Q E hr h=>?_)
 ·obtain ⟨s,dx,sh,b,le,ks,rfl,_⟩:=h
  rfl
 obtain ⟨s,dx,sh,b,le,ks,rfl,hs,sp,k8,l1,q⟩:=h;have nd:=scsinit.nd;refine ⟨_,(((@bf _ _ _ _ (@aY _ _ _ (DW∪((pv 2)^^^(ah^^^ae))) (by intro _; rfl)))<|>(@ap _ _ _ bU)<|>aF)<<<((dE (pv 0) (pv 1) Y)<<<((dE (pv 0) (pv 2) Y)<<<((dE (pv 0) (@aE _ _ _ _ _ ((@aE _ _ _ _ _ ae)^^^(ah^^^((@bq _ _ _ _ _ _ _ _ _ bO Y B.tuple PyProof.Rows.boot_tuple ((bX (own:=["kind"]) (cs:=[]) (cap:=[]) Y (bv (bQ (pv 1) T.cl MK (hr.mono ∅))) (aS (sc:=defScope ci) (N:=["self","shop","least"]) Y Y ∅) (λ _ _ _ _ _=>ao (i:=0) (by show List.Nodup (["kind"]:List Str) ; decide +kernel) Y (Or.inl Y) (Or.inr Y)) (λ _ _ _ _ _=>bC) (λ _ _ _ _ _=>ah))^^^ae) ∅ ∅ Y Y)^^^(ah^^^ae))))) Y)>>>(dE (pv 0) (@aO _ _ _ _ ae) Y))))),?_⟩;have z2:(2000:Nat) < sizeLine:=∅
 have ns:sh≠s:=λ z=>by obtain ⟨dx',r,rs,h1,_⟩:=sp;rw [z,hs] at h1;have e:=HO.ins.inj (C1 h1);have:=congrArg (List.lookup ("blade_width" : Str)) e.2.2;rw [gL] at this;cases this
 have set:∀ {Hx Hy:Hp} {fs fs':List (Str×V)},Hx s=some (.ins CS dx fs)->(∀c o,c≠s->H c=some o->Hx c=some o)->upd Hx s (.ins CS dx fs')=Hy->Hy s=some (.ins CS dx fs')/\(∀c o,c≠s->H c=some o->Hy c=some o)/\∀c o,c≠s->Hx c=some o->Hy c=some o:=λ {Hx Hy fs fs'} _ k e=>by subst e;exact ⟨af,λ c o n e=>by rw [au n]; exact k c o n e,λ c o n e=>by rw [au n]; exact e⟩
 have shK:∀ {Hx:Hp},(∀c o,c≠s->H c=some o->Hx c=some o)->ShopAt C Hx sh b ks:=λ {Hx} k=>by obtain ⟨dx',r,rs,h1,h2,h3⟩:=sp;have kt:∀a xs,H a= ~~~xs->Hx a= ~~~xs:=λ a xs e=>k _ _ (λ z=>by rw [z,hs] at e; cases e) e;exact ⟨dx',r,rs,k _ _ ns h1,kt _ _ h2,Tups.keep kt h3⟩
 refine av (λ R=>R [↑s,↑sh,⇑le] H) (λ Dd hR=>?_) ?_
 ·refine ⟨_,Y,.int le,_,1,Y,Ty.int,_,Y,?_⟩;rw [show aU (.int le) 1=true from decide_eq_true l1];exact aQ (hR)
 skip
 refine av (λ R=>∀ (H':Hp), H' s=some (.ins CS dx (bp "shop" (.ref sh) []))->((∀c o, c≠s->H c=some o->H' c=some o))->R [↑s, ↑sh, ⇑le] H') (λ Dd hR=>?_) ?_
 ·refine ⟨_,Y,_,Y,s,CS,dx,_,Y,hs,TS.cl,TS.n1,(by show 0 < 1000; decide),?_⟩;obtain ⟨g1, g2, _⟩:=set (fs':=bp "shop" (.ref sh) []) hs (λ _ _ _ e=>e) rfl;exact hR _ g1 g2
 rintro H1 hs1 k1;refine av (λ R=>∀ (H':Hp), H' s=some (.ins CS dx (bp "least" (.int le) (bp "shop" (.ref sh) [])))->((∀c o, c≠s->H c=some o->H' c=some o))->R [↑s, ↑sh, ⇑le] H') (λ Dd hR=>?_) ?_
 ·refine ⟨_,Y,_,Y,s,CS,dx,_,Y,hs1,TS.cl,TS.n2,(by have:=bG ("shop" : Str) (.ref sh) []; exact E1 this (by show 1 < 1000; decide)),?_⟩;obtain ⟨g1, g2, _⟩:=set (fs':=bp "least" (.int le) (bp "shop" (.ref sh) [])) hs1 k1 rfl;exact hR _ g1 g2
 rintro H2 hs2 k2;have lp:(bp ("least" : Str) (.int le) (bp ("shop" : Str) (.ref sh) [])).length<=2:=C9 (bG _ _ _) (Nat.succ_le_succ (bG _ _ _));refine av (λ R=>∀ (H':Hp), (∃sg, StnA H' sg ⟨[], 0, List.replicate ks.length 0, 0⟩/\H' s=some (.ins CS dx (bp "standing" sg (bp "least" (.int le) (bp "shop" (.ref sh) []))))/\(∀c o, c≠s->H c=some o->H' c=some o))->R [↑s, ↑sh, ⇑le] H') (λ Dd hR=>?_) ?_
 ·refine ⟨zS0,λ t1 ht1=>?_⟩;obtain ⟨H3,e3,k3,s3⟩:∃H',upd H2 t1 (.tup [])=H'/\H' t1= ~~~[]/\Same H2 H':=⟨_,Y,af,JV ht1⟩
  rw [show upd H2 t1 _=H3 from e3]; clear e3;have k3':∀c o,c≠s->H c=some o->H3 c=some o:=λ c o n e=>s3 _ _ (k2 _ _ n e);have sp3:=shK k3';obtain ⟨dx',r,rs,S1,S2,S3⟩:=id sp3;refine ⟨_,Y,sh,dx',_,Y,S1,(cj _ _ ∅ ∅),sh,b,ks,Y,sp3,λ l rs' hl tp=>?_⟩;obtain ⟨H4,e4,k4,s4⟩:∃H',upd H3 l (.lst rs')=H'/\H' l=↥rs'/\Same H3 H':=⟨_,Y,af,JV hl⟩
  rw [show upd H3 l _=H4 from e4]; clear e4;have tl:=E5 tp;refine ⟨l,Y,⟨_,JX k4⟩,(bn (K:=K) (.inl k4) (λ i ys Hx=>Same H4 Hx/\ys=List.replicate i (.int 0)) (λ i ys Hx _ ⟨sx,_⟩ o e=>sx _ _ e) ⟨Same.refl _,Y⟩ ?_ ?_).1 k4⟩
  ·rintro i x ys Hx hi ⟨sx,rfl⟩;have hin:i < rs'.length:=(A9.mp hi).1;refine ⟨by rw [List.length_replicate]; lia,leS.set rfl,bD ?_⟩;show Nx rs'.length (λ i ys Hx=>Same H4 Hx/\ys=List.replicate i (V.int 0)) i (List.replicate i (V.int 0) ++ [.int 0]) Hx;refine Nx.of hin ⟨sx,?_⟩;rw [List.replicate_succ']
  ·rintro ys Hx ⟨sx,rfl⟩;refine ⟨by rw [List.length_replicate]; lia,λ lc hlc=>?_⟩;obtain ⟨H5,e5,k5,s5⟩:∃H',upd Hx lc (.lst (List.replicate rs'.length (V.int 0)))=H'/\H' lc=↥(List.replicate rs'.length (V.int 0))/\Same Hx H':=⟨_,Y,af,JV hlc⟩
   rw [show upd Hx lc _=H5 from e5]; clear e5;refine ⟨lc,_,Y,.inl ⟨JX k5,λ t2 ht2=>?_⟩⟩;obtain ⟨H6,e6,k6,s6⟩:∃H',upd H5 t2 (.tup (List.replicate rs'.length (V.int 0)))=H'/\H' t2= ~~~(List.replicate rs'.length (V.int 0))/\Same H5 H':=⟨_,Y,af,JV ht2⟩
   rw [show upd H5 t2 _=H6 from e6]; clear e6;refine ⟨zS4,λ t3 ht3=>?_⟩;obtain ⟨H7,e7,k7,s7⟩:∃H',upd H6 t3 (.tup [.ref t1,.int 0,.ref t2,.int 0])=H'/\H' t3= ~~~[.ref t1,.int 0,.ref t2,.int 0]/\Same H6 H':=⟨_,Y,af,JV ht3⟩
   rw [show upd H6 t3 _=H7 from e7]; clear e7;have s37:=s4.trans (sx.trans (s5.trans (s6.trans s7)));have hs7:=s37 _ _ (s3 _ _ hs2);have k7':∀c o,c≠s->H c=some o->H7 c=some o:=λ c o n e=>s37 _ _ (k3' _ _ n e);refine ⟨_,Y,s,CS,dx,_,Y,hs7,TS.cl,TS.n3,E1 lp ∅,?_⟩;obtain ⟨H8,e8⟩:∃H8,upd H7 s (.ins CS dx (bp "standing" (.ref t3) (bp "least" (.int le) (bp "shop" (.ref sh) []))))=H8:=⟨_,Y⟩
   obtain ⟨g1,g2,g3⟩:=set hs7 k7' e8;rw [show upd H7 s _=H8 from e8];have kt:∀a xs,H7 a= ~~~xs->H8 a= ~~~xs:=λ a xs e=>g3 _ _ (λ z=>by rw [z,hs7] at e; cases e) e;refine hR _ ⟨.ref t3,?_,g1,g2⟩;refine .mk (kt _ _ k7) (kt _ _ (s37 _ _ k3)) .nil (kt _ _ (s7 _ _ ?_));rw [k6,List.map_replicate,tl]
 rintro H3 ⟨sg,st3,hs3,k3⟩;refine ⟨∅,λ pa hpa=>?_⟩;obtain ⟨H4,e4,k4,s4⟩:∃H',upd H3 pa (.lst [])=H'/\H' pa=↥[]/\Same H3 H':=⟨_,Y,af,JV hpa⟩
 rw [show upd H3 pa _=H4 from e4]; clear e4;have hs4:=s4 _ _ hs3;have nps:pa≠s:=λ z=>by rw [z,hs3] at hpa; cases hpa
 refine ⟨_,Y,s,CS,dx,_,Y,hs4,TS.cl,TS.n4,E1 (C9 (bG _ _ _) (Nat.succ_le_succ lp)) ∅,?_⟩;have k4':∀c o,c≠s->H c=some o->H4 c=some o:=λ c o n e=>s4 _ _ (k3 _ _ n e);rw [fP];obtain ⟨g1,g2,g3⟩:=set (fs':=sfl sh le sg pa) hs4 k4' rfl;have hH:H pa=none:=by
  cases e:H pa with
  | none=>rfl
  | some o=>rw [k3 _ _ nps e] at hpa; cases hpa
 exact q pa _ hH (.mk g1 (shK g2) (st3.keep λ a xs e=>g3 _ _ (λ z=>by rw [z,hs3] at e; cases e) (s4 _ _ e)) (g3 _ _ nps k4) .nil) g2
end
theorem b70 {x:Int} (h0:0<=x) (h1:x<=10 ^ 70):x.natAbs < 2 ^ 4096:=by
 have e:(10:Nat) ^ 70 < 2 ^ 4096:=∅
 have e2:((10 ^ 70:Nat):Int)=10 ^ 70:=∅
 generalize (10:Nat) ^ 70=a at e e2;generalize (2:Nat) ^ 4096=b at e;generalize (10:Int) ^ 70=c at e2 h1;lia
theorem CY {m w:Int} (m0:0<=m) (m1:m<=10 ^ 6) (w0:0<=w) (w1:w<=10 ^ 60):0<=m * w/\m * w<=10 ^ 70:=by
 have h1:=Int.mul_nonneg m0 w0;have h2:=Int.mul_le_mul (a:=m) (b:=w) (c:=10 ^ 6) (d:=10 ^ 60) m1 w1 w0 ∅;have h3:(10:Int) ^ 6 * 10 ^ 60<=10 ^ 70:=∅
 exact ⟨h1,Int.le_trans h2 h3⟩
def thr (g:Stn):Int:=(g.pl.map λ q=>q.2.1 * q.2.2).sum
def mdc (ks:List Kd) (g:Stn):Int:=((g.md.zip ks).map λ z=>z.1 * z.2.w * z.2.h).sum
def CZ (g:Stn):Prop:=g.pl.length<=10000/\∀q∈g.pl,1<=q.2.1/\q.2.1<=10 ^ 60/\1<=q.2.2/\q.2.2<=10 ^ 60
def Db (ks:List Kd) (g:Stn):Prop:=g.md.length=ks.length/\∀m∈g.md,0<=m/\m<=10 ^ 6
section
variable {P:G8} {w:JT} {K:C8} {mg:Str->Option JU} {base:Heap}
inductive spCells (CS C:Addr) (vs:List V) (H:Hp) (Q:VK) (E_:XK):Prop
 | mk (s sh pa:Addr) (b le:Int) (ks:List Kd) (g:Stn) (gs:List Stn) (e_1:vs=[.ref s]) (e_2:StoreAt CS C H s sh b ks le g gs pa) (e_3:ks.length<=8) (e_4:(∀k∈ks,Good k)) (e_5:CZ g) (e_6:Db ks g) (e_7:∀ (t:Addr) (H':Hp),H' t= ~~~[.int g.pu,.int (thr g),.int (mdc ks g),.int (g.pu - thr g - mdc ks g)]->Same H H'->Q (.ref t) H'):spCells CS C vs H Q E_
theorem sccells:FnScope ["self","plates","upcoming","made","cells_put","there","cells_made"] ["self"] (defScope bT):=⟨Y,Y,Y,∅,Y,∅,∅⟩
theorem rE {f C CS:Addr} {fd:I9} (F:Fun K "cells" "Store.cells" bT f fd) (B:Blt mg) (TS:StoreTxt K CS) (T:ShopTxt K C) (MK:Mn P w K mg base C "kinds" ["self"] 1 (eV C)):FnOk P w K mg base CX0 2 f fd ["self"] (spCells CS C):=by
 refine F.ok sccells (λ vs H Q E h=>?_) (λ cdv A outer s0 H vs Q E hr h=>?_)
 ·obtain ⟨s,sh,pa,b,le,ks,g,gs,rfl,_⟩:=h
  rfl
 obtain ⟨s,sh,pa,b,le,ks,g,gs,rfl,x,k8,gk,plo,mdo,q⟩:=h;have nd:=sccells.nd;refine ⟨_,((@bg _ _ _ _ _ _ (bz (pv 0) Y) (aP Y (1•(2•(3•(4•aI))))) Y Y Y)<<<((5∣(@aD _ _ _ _ _ _ _ _ _ (fH Y) Y B.sum PyProof.Rows.boot_sum ((bX (own:=["number","wide","high"]) (cs:=[]) (cap:=[]) Y (fB (pv 1)) (aS (sc:=defScope bT) (N:=["self","plates","upcoming","made","cells_put","there","cells_made"]) Y Y ∅) (λ _ _ _ _ _=>qK K Y Y (by show List.Nodup (["number","wide","high"]:List Str) ; decide +kernel) Y Y Y Y Y Y) (λ _ _ _ _ _=>bC) (λ _ _ _ _ _=>((pv 1)|||ck|||(pv 2))))^^^ae) ∅ ∅ Y Y))<<<((6∣(@aD _ _ _ _ _ _ _ _ _ (fH Y) Y B.sum PyProof.Rows.boot_sum ((bX (own:=["many","kind"]) (cs:=[]) (cap:=[]) Y (ni Y B.zip ((pv 3)^^^((bQ (bz (pv 0) Y) T.cl MK (hr.mono ∅))^^^ae))) (aS (sc:=defScope bT) (N:=["self","plates","upcoming","made","cells_put","there","cells_made"]) Y Y ∅) (λ _ _ _ _ _=>qJ K Y Y (by show List.Nodup (["many","kind"]:List Str) ; decide +kernel) Y Y Y Y) (λ _ _ _ _ _=>bC) (λ _ _ _ _ _=>(((pv 0)|||ck|||(ax (r:=rIxT K) ix_tup (pv 1) ah (λ _ _=>Y)))|||ck|||(ax (r:=rIxT K) ix_tup (pv 1) ah (λ _ _=>Y)))))^^^ae) ∅ ∅ Y Y))<<<((@aE _ _ _ _ _ ((pv 4)^^^((pv 5)^^^((pv 6)^^^((((pv 4)|||bd|||(pv 5))|||bd|||(pv 6))^^^ae)))))⁻¹)))),?_⟩;have sz:(20000:Nat) < sizeLine:=∅
 obtain ⟨pl1,pl2⟩:=plo;obtain ⟨ml,mb⟩:=mdo;obtain ⟨dx,sg,ps,hs,sp,st,hp,pr⟩:=x.look;cases st with
 | @mk a b' c rs _ ha hb pr' hc =>
  refine av (λ R=>R [↑s,↑b',⇑g.nu,↑c,⇑g.pu,none,none] H) (λ Dd hR=>?_) ?_
  ·exact ⟨_,Y,s,CS,dx,_,_,Y,hs,TS.cl,TS.n3,bA _ _ _ _,a,_,Y,JW ha,Y,_,_,Y,_,_,Y,_,_,Y,_,_,Y,Y,hR⟩
  skip
  have rl:=E5 pr';refine av (λ R=>∀ (H':Hp),Same H H'->R [↑s,↑b',⇑g.nu,↑c,⇑g.pu,⇑(thr g),none] H') (λ Dd hR=>?_) ?_
  ·refine ⟨_,Y,b',Y,⟨_,JW hb⟩,(bn (K:=K) (.inr hb) (λ i ys Hx=>Same H Hx/\ys=((g.pl.take i).map λ q=>q.2.1 * q.2.2).map V.int) (λ i ys Hx _ ⟨sx,_⟩ o e=>sx _ _ e) ⟨Same.refl _,Y⟩ ?_ ?_).2 hb⟩
   ·rintro i v ys Hx hi ⟨sx,rfl⟩;have hin:i < rs.length:=(A9.mp hi).1;obtain ⟨q',hq',a',rfl,ha'⟩:=JZ pr' hi;obtain ⟨q1,q2,q3,q4⟩:=pl2 q' (B8 hq');refine ⟨by rw [List.length_map,List.length_map,List.length_take]; lia,?_⟩;refine ⟨a',_,Y,JW (sx _ _ ha'),Y,_,_,Y,_,_,Y,_,_,Y,Y,fO (leS.set rfl) (fO (leS.set rfl) (leS.set rfl)),bD ?_⟩;refine ⟨_,Y,_,Y,_,_,Y,Y,⟨b60 ⋯ ⋯,b60 ⋯ ⋯⟩,Nx.of hin ⟨sx,?_⟩⟩;rw [List.take_add_one,hq'];simp only [Option.toList_some,List.map_append,List.map_cons,List.map_nil]
   ·rintro ys Hx ⟨sx,rfl⟩;rw [rl,List.take_length];refine ⟨by rw [List.length_map,List.length_map]; lia,λ p hp=>?_⟩;exact ⟨p,_,Y,JX af,hR _ (sx.trans (JV hp))⟩
  rintro H1 s1;refine av (λ R=>∀ (H':Hp),Same H H'->R [↑s,↑b',⇑g.nu,↑c,⇑g.pu,⇑(thr g),⇑(mdc ks g)] H') (λ Dd hR=>?_) ?_
  ·have sp1:=dJ s1 sp;obtain ⟨dx',r,rs0,S1,S2,S3⟩:=id sp1;refine ⟨_,Y,_,Y,s,CS,dx,_,_,Y,s1 _ _ hs,TS.cl,TS.n1,fm _ _ _ _,sh,dx',_,Y,S1,(cj _ _ ∅ ∅),sh,b,ks,Y,sp1,λ l rs' hl tp=>?_⟩;obtain ⟨H2,e2,k2,s2⟩:∃H',upd H1 l (.lst rs')=H'/\H' l=↥rs'/\Same H1 H':=⟨_,Y,af,JV hl⟩
   rw [show upd H1 l _=H2 from e2]; clear e2;have tp2:Tups H2 rs' ks:=Tups.keep (λ c xs e=>s2 _ _ e) tp;have tl:=E5 tp;have hc2:=s2 _ _ (s1 _ _ hc);refine ⟨c,l,_,_,Y,hc2,k2,iB (xs:=g.md.map V.int) (ys:=rs') (λ i zs H4=>Same H2 H4/\zs=(((g.md.zip ks).take i).map λ z=>z.1 * z.2.w * z.2.h).map V.int) (by rw [List.length_map,ml]; exact tl.symm) (λ i zs H4 ⟨s4,_⟩=>⟨s4 _ _ hc2,s4 _ _ k2⟩) ⟨Same.refl _,Y⟩ (λ i zs H4 hi ⟨_,e⟩=>by rw [e,List.length_map,List.length_map,List.length_take]; rw [List.length_map] at hi; lia) ?_ ?_⟩
   ·rintro i x y tz zs H4 hx hy htz ⟨s4,rfl⟩;rw [List.getElem?_map] at hx;obtain ⟨cc,hcc,rfl⟩:=Option.map_eq_some_iff.mp hx;obtain ⟨k,hk,ak,rfl,hak⟩:=JZ tp2 hy;have gg:=gk k (B8 hk);have g1:=gg.w; have g2:=gg.h; have g3:=gg.w'; have g4:=gg.h';have hcb:=mb cc (B8 hcc);obtain ⟨H5,e5,k5,s5⟩:∃H',upd H4 tz (.tup [.int cc,.ref ak])=H'/\H' tz= ~~~[.int cc,.ref ak]/\Same H4 H':=⟨_,Y,af,JV htz⟩
    rw [show upd H4 tz _=H5 from e5]; clear e5;have ak5:H5 ak= ~~~[.int k.w,.int k.h,.int k.wo,.int k.wa,.bl k.tu]:=s5 _ _ (s4 _ _ hak);have mw:=CY hcb.1 hcb.2 (show 0<=k.w by lia) ⋯;have c6:cc<=10 ^ 70:=Int.le_trans hcb.2 ∅;have w7:k.w<=10 ^ 70:=Int.le_trans (Int.le_of_lt g3) ∅;have h7:k.h<=10 ^ 70:=Int.le_trans (Int.le_of_lt g4) ∅;refine ⟨tz,_,Y,JW k5,Y,_,_,Y,_,_,Y,Y,fO (leS.set rfl) (leS.set rfl),bD ?_⟩;refine ⟨_,Y,_,Y,ak,_,0,_,Y,Y,JW ak5,Y,_,_,Y,Y,⟨b70 hcb.1 c6,b70 ⋯ w7⟩,_,Y,ak,_,1,_,Y,Y,JW ak5,Y,_,_,Y,Y,⟨b70 mw.1 mw.2,b70 ⋯ h7⟩,Nx.of (by rw [List.length_map,ml]; exact (A9.mp hk).1) ⟨s4.trans s5,?_⟩⟩;have hzz:(g.md.zip ks)[i]? = some (cc,k):=by rw [List.getElem?_zip_eq_some]; exact ⟨hcc,hk⟩
    rw [List.take_add_one,hzz];simp only [Option.toList_some,List.map_append,List.map_cons,List.map_nil]
   ·rintro zs H4 ⟨s4,rfl⟩;refine ⟨by rw [List.length_map,List.length_map,List.length_take,List.length_zip]; lia,λ p hp=>?_⟩;rw [List.length_map,List.take_of_length_le (by rw [List.length_zip]; lia)];exact ⟨p,_,Y,JX af,hR _ (((s1.trans s2).trans s4).trans (JV hp))⟩
  rintro H2 s2;refine ⟨_,Y,_,Y,_,Y,_,Y,_,Y,_,_,Y,Y,_,Y,_,_,Y,Y,zS4,λ t ht=>?_⟩;exact q t _ af (s2.trans (JV ht))
end
theorem ur {X:Cx} (K:C8) {x y z u:Str} {px py pz pu pos:Pos} {k:Nat} (hK:X.K=K) (hc:X.calm=true) (hN:X.N.Nodup) (h0:X.N[0]? = some x) (h1:X.N[1]? = some y) (h2:X.N[2]? = some z) (h3:X.N[3]? = some u) (l0:X.env.scope.names.lookup x=some .local) (l1:X.env.scope.names.lookup y=some .local) (l2:X.env.scope.names.lookup z=some .local) (l3:X.env.scope.names.lookup u=some .local) :
  PG X (.Tuple [.Name x px,.Name y py,.Name z pz,.Name u pu] k pos) (gTup K 4 (gCons (bR 0) (gCons (bR 1) (gCons (bR 2) (gCons (bR 3) ko))))) :=
 hK ▸ aP hc (ai (ao hN h0 (.inl l0) (.inr l0)) (ai (ao hN h1 (.inl l1) (.inr l1)) (ai (ao hN h2 (.inl l2) (.inr l2)) (ai (ao hN h3 (.inl l3) (.inr l3)) aI))))
theorem ut {X:Cx} {e:Expr} {f:Str} {pos:Pos} {ta:TE} (K:C8) (hK:X.K=K) (he:PE X e ta) (hb:attributeBase e f X.env (eval e X.env)=eval e X.env):PE X (.Attribute e f pos) (Cw K ta f):=hK ▸ bz he hb
def GZ (K:C8):R2:=λ x y H Q=>∃da db,DatV K H x da/\DatV K H y db/\SeqAt.shaped da=true/\SeqAt.shaped db=true/\Q (.bl (!PyData.eqv da db)) H
theorem uu {X:Cx} (K:C8) (hK:X.K=K) (hu:X.A.units + 64 < cLine):OpR X (compareOp .NotEq) (GZ K):=hK ▸ wE hu
def IX (K:C8):R2:=λ x y H Q=>∃d xs,DatV K H x d/\DatV K H y (.list xs)/\SeqAt.shaped (.list xs)=true/\SeqAt.shaped d=true/\(∀y∈xs,SeqAt.noMix y d=true)/\Q (.bl (decide (Spec.countIn d xs≠0))) H
def kpB (le:Int) (r:Rst):Bool:=decide (le<=if r.h < r.w then r.h else r.w)
def aJ (le:Int) (rs:List Rst):List (Int×Int):=(rs.filter (kpB le)).map λ r=>(r.w,r.h)
def aT (nu:Int):List (Int×Int)->List (Int×Int×Int)
 | []=>[]
 | z :: r=>(nu,z.1,z.2) :: aT (nu + 1) r
theorem gZ:∀ (nu:Int) (l:List (Int×Int)) (z:Int×Int),aT nu (l ++ [z])=aT nu l ++ [(nu + l.length,z.1,z.2)]
 | nu,[],z=>by show [(nu,z.1,z.2)]=[(nu + ((0:Nat):Int),z.1,z.2)]; rw [show nu + ((0:Nat):Int)=nu by lia]
 | nu,y :: l,z=>by rw [List.cons_append,aT,aT,gZ (nu + 1) l z,List.cons_append,List.length_cons];rw [show nu + 1 + (l.length:Int)=nu + ((l.length + 1:Nat):Int) by lia]
theorem bK:∀ (nu:Int) (l:List (Int×Int)),(aT nu l).length=l.length
 | _,[]=>rfl
 | nu,_ :: l=>by rw [aT,List.length_cons,List.length_cons,bK (nu + 1) l]
def jg (le:Int) (g:Stn) (q0:Int×Int×Int) (rs:List Rst) (cs:List Int):Stn:=⟨(g.pl.filter λ q=>decide (q≠q0)) ++ aT g.nu (aJ le rs),g.nu + (aJ le rs).length,List.zipWith (· + ·) g.md cs,g.pu⟩
def WhA (H:Hp) (v:V) (z:Int×Int):Prop:=∃a,v=.ref a/\H a= ~~~[.int z.1,.int z.2]
theorem WhA.same {H H':Hp} (s:Same H H') {v:V} {z:Int×Int} (h:WhA H v z):WhA H' v z:=h.imp λ _ ⟨e,h⟩=>⟨e,s _ _ h⟩
theorem PlA.same {H H':Hp} (s:Same H H') {v:V} {z:Int×Int×Int} (h:PlA H v z):PlA H' v z:=h.keep λ _ _ e=>s _ _ e
theorem Hh (a b c d e f:Int):PyData.eqv (.tuple [.int a,.int b,.int c]) (.tuple [.int d,.int e,.int f])=decide ((a,b,c)=(d,e,f)):=by by_cases h1:a=d <;> by_cases h2:b=e <;> by_cases h3:c=f <;> simp [PyData.eqv,PyData.eqvAll,h1,h2,h3]
section
variable {P:G8} {w:JT} {K:C8} {mg:Str->Option JU} {base:Heap}
inductive spCutS (CS C:Addr) (vs:List V) (H:Hp) (Q:VK) (E_:XK):Prop
 | mk (pp s sh pa:Addr) (b le:Int) (ks:List Kd) (g:Stn) (gs:List Stn) (v:V) (d:PyData) (t:Tr) (i:Nat) (q0:Int×Int×Int) (e_1:vs=[.ref s,.int q0.1,v]) (e_2:StoreAt CS C H s sh b ks le g gs pa) (e_3:gs.length<=1000) (e_4:g.pl.length<=10000) (e_5:0<=q0.1) (e_6:g.pl[i]? = some q0) (e_7:(∀j q',j < i->g.pl[j]? = some q'->q'.1≠q0.1)) (e_8:TrH C pp sh b q0.2.1 q0.2.2 ks v d t H) (e_9:ks.length<=8) (e_10:g.md.length=ks.length) (e_11:∀ (rs:List Rst) (l:Addr) (H':Hp),rs.Perm (pL b t q0.2.1 q0.2.2)->(rs.map ge).Pairwise (λ x y=>cb y x=false)->StoreAt CS C H' s sh b ks le (jg le g q0 rs (bP (pcs b t q0.2.1 q0.2.2) ks.length)) (gs ++ [g]) pa->FrS s pa H H'->H l=none->H' l=↥((aT g.nu (aJ le rs)).map λ z=>V.int z.1)->Q (.ref l) H'):spCutS CS C vs H Q E_
theorem sccuts:FnScope ["self","number","tree","gone","rests","counts","plates","upcoming","made","cells_put","kept","came","others","all_made"] ["self","number","tree"] (defScope bJ):=⟨Y,Y,Y,∅,Y,∅,∅⟩
theorem uv {f C CS:Addr} {fd:I9} (F:Fun K "cut" "Store.cut" bJ f fd) (B:Blt mg) (TS:StoreTxt K CS) (MP:Mn P w K mg base CS "plate_of" ["self","number"] 2 (spPlOf CS C)) (MR:Mn P w K mg base CS "replace_standing" ["self","standing"] 1 (spRepl CS C)) (DR:Dn P w K mg base "rests_of" ["shop","wide","high","tree"] 8 (spRests C)) (DC:Dn P w K mg base "counts_of" ["shop","wide","high","tree"] 9 (spCountsO C)):FnOk P w K mg base CX0 10 f fd ["self","number","tree"] (spCutS CS C):=by
 refine F.ok sccuts (λ vs H Q E h=>?_) (λ cdv A outer s0 H vs Q E hr h=>?_)
 ·obtain ⟨pp,s,sh,pa,b,le,ks,g,gs,v,d,t,i,q0,rfl,_⟩:=h
  rfl
 obtain ⟨pp,s,sh,pa,b,le,ks,g,gs,v,d,t,i,q0,rfl,x,g1,p1,n0,hi,first,th,k8,ml,q⟩:=h;have nd:=sccuts.nd;have hu:=hr.units;refine ⟨_,((@aB _ _ 3 _ _ _ _ nd Y (Or.inr Y) (eD (pv 0) TS.cl MP (hr.mono ∅) ((pv 1)^^^ae)) Y (Or.inl Y))<<<((4∣(DR∩((bz (pv 0) Y)^^^(((pv 3)&&&ix_tup&&&ah)^^^(((pv 3)&&&ix_tup&&&ah)^^^((pv 2)^^^ae))))))<<<((5∣(DC∪((bz (pv 0) Y)^^^(((pv 3)&&&ix_tup&&&ah)^^^(((pv 3)&&&ix_tup&&&ah)^^^((pv 2)^^^ae))))))<<<((@bg _ _ _ _ _ _ (bz (pv 0) Y) (aP Y (6•(ai (ao (i:=7) nd Y (Or.inr Y)) (8•(9•aI))))) Y Y Y)<<<((dQ (i:=10) (own:=["x","y","wide","high"]) (cs:=["self"]) (cap:=[0]) Y nd Y Y Y (bv (pv 4)) (aS (sc:=defScope bJ) (N:=["self","number","tree","gone","rests","counts","plates","upcoming","made","cells_put","kept","came","others","all_made"]) Y Y ∅) (λ _ _ _ _ _=>ur K Y Y (by show List.Nodup (["x","y","wide","high","self"]:List Str) ; decide +kernel) Y Y Y Y Y Y Y Y) (λ _ _ _ _ _=>(dG ((@aD _ _ _ _ _ _ _ _ _ (dP Y) Y B.min PyProof.Rows.boot_min ((pv 2)^^^((pv 3)^^^ae)) ∅ ∅ Y Y)<*>qg<*>(ut K Y (pv 4) Y)))) (λ _ _ _ _ _=>(@aE _ _ _ _ _ ((pv 2)^^^((pv 3)^^^ae)))))<<<((dQ (i:=11) (own:=["at","wide","high"]) (cs:=["upcoming"]) (cap:=[7]) Y nd Y Y Y (mX Y B.enumerate ((pv 10)^^^ae)) (aS (sc:=defScope bJ) (N:=["self","number","tree","gone","rests","counts","plates","upcoming","made","cells_put","kept","came","others","all_made"]) Y Y ∅) (λ _ _ _ _ _=>oR K Y Y (by show List.Nodup (["at","wide","high","upcoming"]:List Str) ; decide +kernel) Y Y Y Y Y Y) (λ _ _ _ _ _=>bC) (λ _ _ _ _ _=>(@aE _ _ _ _ _ (((pv 3)|||aN|||(pv 0))^^^((pv 1)^^^((pv 2)^^^ae))))))<<<((dQ (i:=12) (own:=["plate"]) (cs:=["gone"]) (cap:=[3]) Y nd Y Y Y (fB (pv 6)) (aS (sc:=defScope bJ) (N:=["self","number","tree","gone","rests","counts","plates","upcoming","made","cells_put","kept","came","others","all_made"]) Y Y ∅) (λ _ _ _ _ _=>ao (i:=0) (by show List.Nodup (["plate","gone"]:List Str) ; decide +kernel) Y (Or.inl Y) (Or.inr Y)) (λ _ _ _ _ _=>(dG ((pv 0)<*>(uu K Y hu)<*>(pv 1)))) (λ _ _ _ _ _=>(pv 0)))<<<((13∣(@bq _ _ _ _ _ _ _ _ _ bO Y B.tuple PyProof.Rows.boot_tuple ((bX (own:=["before","more"]) (cs:=[]) (cap:=[]) Y (ni Y B.zip ((pv 8)^^^((pv 5)^^^ae))) (aS (sc:=defScope bJ) (N:=["self","number","tree","gone","rests","counts","plates","upcoming","made","cells_put","kept","came","others","all_made"]) Y Y ∅) (λ _ _ _ _ _=>qJ K Y Y (by show List.Nodup (["before","more"]:List Str) ; decide +kernel) Y Y Y Y) (λ _ _ _ _ _=>bC) (λ _ _ _ _ _=>((pv 0)|||aN|||(pv 1))))^^^ae) ∅ ∅ Y Y))<<<((@bc _ _ _ _ (eD (pv 0) TS.cl MR (hr.mono ∅) ((@aE _ _ _ _ _ ((@bq _ _ _ _ _ _ _ _ _ bO Y B.tuple PyProof.Rows.boot_tuple (((pv 12)|||wC|||(pv 11))^^^ae) ∅ ∅ Y Y)^^^(((pv 7)|||aN|||(@aD _ _ _ _ _ _ _ _ _ aV Y B.len PySem.boot_len ((pv 11)^^^ae) ∅ ∅ Y Y))^^^((pv 13)^^^((pv 9)^^^ae)))))^^^ae)) Y)<<<((bX (own:=["plate"]) (cs:=[]) (cap:=[]) Y (bv (pv 11)) (aS (sc:=defScope bJ) (N:=["self","number","tree","gone","rests","counts","plates","upcoming","made","cells_put","kept","came","others","all_made"]) Y Y ∅) (λ _ _ _ _ _=>ao (i:=0) (by show List.Nodup (["plate"]:List Str) ; decide +kernel) Y (Or.inl Y) (Or.inr Y)) (λ _ _ _ _ _=>bC) (λ _ _ _ _ _=>(ax (r:=rIxT K) ix_tup (pv 0) ah (λ _ _=>Y))))⁻¹)))))))))),?_⟩
 have sz:(40000:Nat) < sizeLine:=∅
 obtain ⟨dx,sg,ps,hs,sp,st,hp,pr⟩:=x.look;have nps:pa≠s:=λ z=>by rw [z,hs] at hp; cases hp
 refine av (λ R=>∀go,H go= ~~~[.int q0.1,.int q0.2.1,.int q0.2.2]->R [↑s,⇑q0.1,some v,↑go,none,none,none,none,none,none,none,none,none,none] H) (λ Dd hR=>?_) ?_
 ·exact ⟨_,Y,s,dx,_,Y,hs,bN _ _ _ _ ∅ ∅ ∅ ∅,_,Y,s,sh,pa,b,le,ks,g,gs,i,q0,Y,x,n0,hi,first,λ a ha=>hR a ha⟩
 rintro go hgo;refine av (λ R=>∀re as rs (H':Hp),H' re=↥(as.map V.ref)->Paired (RA H') as rs->rs.Perm (pL b t q0.2.1 q0.2.2)->(rs.map ge).Pairwise (λ x y=>cb y x=false)->Same H H'->R [↑s,⇑q0.1,some v,↑go,↑re,none,none,none,none,none,none,none,none,none] H') (λ Dd hR=>?_) ?_
 ·exact ⟨_,Y,s,CS,dx,_,_,Y,hs,TS.cl,TS.n1,fm _ _ _ _,_,Y,go,_,1,_,Y,Y,JW (id hgo),Y,_,Y,go,_,2,_,Y,Y,JW (id hgo),Y,_,Y,pp,sh,b,q0.2.1,q0.2.2,ks,v,d,t,Y,th,λ l as rs H1 hl kl pa' pe so s1=>hR l as rs _ kl pa' pe so s1⟩
 rintro re as rs H1 hre pra pe so s1;obtain ⟨m1,m2⟩:=TrD.many (b:=b) t d 0 0 q0.2.1 q0.2.2 th.td;have ln:=th.ln;have rl63:rs.length<=63:=by rw [pe.length_eq];exact C9 (List.length_filterMap_le _ _) ⋯
 refine av (λ R=>∀co (H':Hp),H' co=↥((bP (pcs b t q0.2.1 q0.2.2) ks.length).map V.int)->Same H1 H'->R [↑s,⇑q0.1,some v,↑go,↑re,↑co,none,none,none,none,none,none,none,none] H') (λ Dd hR=>?_) ?_
 ·exact ⟨_,Y,s,CS,dx,_,_,Y,(s1 _ _ hs),TS.cl,TS.n1,fm _ _ _ _,_,Y,go,_,1,_,Y,Y,JW (s1 _ _ hgo),Y,_,Y,go,_,2,_,Y,Y,JW (s1 _ _ hgo),Y,_,Y,pp,sh,b,q0.2.1,q0.2.2,ks,v,d,t,Y,th.same s1,k8,λ l H2 hl kl s2=>hR l _ kl s2⟩
 rintro co H2 hco s2;generalize hcn:bP (pcs b t q0.2.1 q0.2.2) ks.length=cn at *;have cl0:cn.length=ks.length:=by rw [<- hcn,cI]
 have s02:=s1.trans s2;cases st with
 | @mk a b' c rp _ ha hb pr' hc =>
  have rpl:=E5 pr';refine av (λ R=>R [↑s,⇑q0.1,some v,↑go,↑re,↑co,↑b',⇑g.nu,↑c,⇑g.pu,none,none,none,none] H2) (λ Dd hR=>?_) ?_
  ·exact ⟨_,Y,s,CS,dx,_,_,Y,s02 _ _ hs,TS.cl,TS.n3,bA _ _ _ _,a,_,Y,JW (s02 _ _ ha),Y,_,_,Y,_,_,Y,_,_,Y,_,_,Y,Y,hR⟩
  skip
  refine av (λ R=>∀ke zs (H':Hp),H' ke=↥zs->Paired (WhA H') zs (aJ le rs)->Same H2 H'->R [↑s,⇑q0.1,some v,↑go,↑re,↑co,↑b',⇑g.nu,↑c,⇑g.pu,↑ke,none,none,none] H') (λ Dd hR=>?_) ?_
  ·have hre2:=s2 _ _ hre;have al:(as.map V.ref).length=rs.length:=by rw [List.length_map]; exact E5 pra
   refine ⟨_,Y,re,Y,⟨_,JX hre2⟩,(bn (K:=K) (.inl hre2) (λ i ys Hx=>Same H2 Hx/\Paired (WhA Hx) ys (aJ le (rs.take i))) (λ i ys Hx _ ⟨sx,_⟩ o e=>sx _ _ e) ⟨Same.refl _,.nil⟩ ?_ ?_).1 hre2⟩
   ·rintro j y ys Hx hj ⟨sx,py⟩;have hjn:j < (as.map V.ref).length:=(A9.mp hj).1;rw [List.getElem?_map] at hj;obtain ⟨aj,haj,rfl⟩:=Option.map_eq_some_iff.mp hj;obtain ⟨r,hr',har⟩:=JZ pra haj;have har:H1 aj= ~~~[.int r.x,.int r.y,.int r.w,.int r.h]:=har;have yl:=E5 py;have kl:(aJ le (rs.take j)).length<=63:=by unfold aJ;rw [List.length_map];exact C9 (List.length_filter_le _ _) (by rw [List.length_take]; lia)
    have tk:aJ le (rs.take (j + 1))=aJ le (rs.take j) ++ (if kpB le r=true then [(r.w,r.h)] else []):=by
     rw [List.take_add_one,hr'];unfold aJ;rw [List.filter_append,List.map_append];congr 1;simp only [Option.toList_some,List.filter_cons,List.filter_nil]
     split <;> rfl
    refine ⟨⋯,aj,_,Y,JW (sx _ _ (s2 _ _ har)),Y,_,_,Y,_,_,Y,_,_,Y,_,_,Y,Y,fO (leS.set rfl) (fO (leS.set rfl) (fO (leS.set rfl) (leS.set rfl))),?_⟩;refine ⟨_,Y,_,Y,_,_,Y,_,Y,s,CS,dx,_,_,Y,sx _ _ (s02 _ _ hs),TS.cl,TS.n2,pM _ _ _ _,_,_,Y,Y,_,Y,?_⟩;show (if kpB le r=true then _ else _);rw [<- al] at *;cases kb:kpB le r with
    | true =>
     refine aZ ⟨_,rfl,_,rfl,zS2,λ tq htq=>Nx.of hjn ⟨sx.trans (JV htq),?_⟩⟩;rw [tk,kb];exact Paired.snoc (JY py λ v z h=>h.same (JV htq)) ⟨tq,rfl,af⟩
    | false =>
     refine aQ (Nx.of hjn ⟨sx,?_⟩);rw [tk,kb,if_neg ∅,List.append_nil];exact py
   ·rintro ys Hx ⟨sx,py⟩;rw [al,List.take_length] at py;have yl:=E5 py;have kl:(aJ le rs).length<=63:=by unfold aJ;rw [List.length_map];exact C9 (List.length_filter_le _ _) rl63
    refine ⟨⋯,λ ke hke=>hR ke ys _ af (JY py λ v z h=>h.same (JV hke)) (sx.trans (JV hke))⟩
  rintro ke zs H3 hke pk s3;have zl:=E5 pk;have kl63:(aJ le rs).length<=63:=by unfold aJ;rw [List.length_map];exact C9 (List.length_filter_le _ _) rl63
  have s03:=s02.trans s3;refine av (λ R=>∀ca cs (H':Hp),H ca=none->H' ca=↥cs->Paired (PlA H') cs (aT g.nu (aJ le rs))->Same H3 H'->R [↑s,⇑q0.1,some v,↑go,↑re,↑co,↑b',⇑g.nu,↑c,⇑g.pu,↑ke,↑ca,none,none] H') (λ Dd hR=>?_) ?_
  ·refine ⟨_,Y,ke,zs,Y,.inl ⟨hke,oQ (f:=HO.lst) (xs:=zs) (λ _ _ e=>HO.lst.inj e) (λ n ws Hx=>Same H3 Hx/\Paired (PlA Hx) ws (aT g.nu ((aJ le rs).take n))) (λ n ws Hx e=>e.1 _ _ hke) ⟨Same.refl _,.nil⟩ (λ n ws Hx hn e=>by have:=E5 e.2; rw [bK,List.length_take] at this; lia) ?_ ?_⟩⟩
   ·rintro n y tz ws Hx hy htz ⟨sx,pw⟩;have hn:n < zs.length:=(A9.mp hy).1;obtain ⟨z,hz,az,rfl,haz⟩:=JZ pk hy;obtain ⟨H5,e5,k5,s5⟩:∃H',upd Hx tz (.tup [.int (n:Int),.ref az])=H'/\H' tz= ~~~[.int (n:Int),.ref az]/\Same Hx H':=⟨_,Y,af,JV htz⟩
    rw [show upd Hx tz _=H5 from e5]; clear e5;refine ⟨tz,_,Y,JW k5,Y,_,_,Y,_,_,Y,az,_,Y,JW (s5 _ _ (sx _ _ haz)),Y,_,_,Y,_,_,Y,Y,Y,fO (leS.set rfl) (fO (leS.set rfl) (leS.set rfl)),bD ?_⟩;refine ⟨_,Y,_,Y,_,_,Y,Y,_,Y,_,Y,zS3,λ tq htq=>Nx.of hn ⟨sx.trans (s5.trans (JV htq)),?_⟩⟩;have tk:(aJ le rs).take (n + 1)=(aJ le rs).take n ++ [z]:=by rw [List.take_add_one,hz]; rfl
    have ln':((aJ le rs).take n).length=n:=by rw [List.length_take]; lia
    rw [tk,gZ,ln'];exact Paired.snoc (JY pw λ v z h=>h.same (s5.trans (JV htq))) ⟨tq,rfl,af⟩
   ·rintro ws Hx ⟨sx,pw⟩;rw [zl,List.take_length] at pw;have wl:=E5 pw;rw [bK] at wl;refine ⟨⋯,λ ca hca=>hR ca ws _ ((s03.trans sx).free hca) af (JY pw λ v z h=>h.same (JV hca)) (sx.trans (JV hca))⟩
  rintro ca cs H4 fca hca pc s4;have cl:=E5 pc;rw [bK] at cl;have s04:=s03.trans s4;refine av (λ R=>∀ot os (H':Hp),H' ot=↥os->Paired (PlA H') os (g.pl.filter λ q=>decide (q≠q0))->Same H4 H'->R [↑s,⇑q0.1,some v,↑go,↑re,↑co,↑b',⇑g.nu,↑c,⇑g.pu,↑ke,↑ca,↑ot,none] H') (λ Dd hR=>?_) ?_
  ·have hb4:=s04 _ _ hb;refine ⟨_,Y,b',Y,⟨_,JW hb4⟩,(bn (K:=K) (.inr hb4) (λ i ys Hx=>Same H4 Hx/\Paired (PlA Hx) ys ((g.pl.take i).filter λ q=>decide (q≠q0))) (λ i ys Hx _ ⟨sx,_⟩ o e=>sx _ _ e) ⟨Same.refl _,.nil⟩ ?_ ?_).2 hb4⟩
   ·rintro j y ys Hx hj ⟨sx,py⟩;have hjn:j < rp.length:=(A9.mp hj).1;obtain ⟨q',hq',a',rfl,ha'⟩:=JZ pr' hj;have yl:=E5 py;have fl:=List.length_filter_le (λ q=>decide (q≠q0)) (g.pl.take j);rw [List.length_take] at fl;have tk:(g.pl.take (j + 1)).filter (λ q=>decide (q≠q0))=(g.pl.take j).filter (λ q=>decide (q≠q0)) ++ (if decide (q'≠q0)=true then [q'] else []):=by rw [List.take_add_one,hq',List.filter_append];congr 1;simp only [Option.toList_some,List.filter_cons,List.filter_nil]
    refine ⟨⋯,leS.set rfl,?_⟩;refine ⟨_,Y,_,Y,.tuple [.int q'.1,.int q'.2.1,.int q'.2.2],.tuple [.int q0.1,.int q0.2.1,.int q0.2.2],.tup (JW (sx _ _ (s04 _ _ ha'))) (.cons (.int _) (.cons (.int _) (.cons (.int _) .nil))),.tup (JW (sx _ _ (s04 _ _ hgo))) (.cons (.int _) (.cons (.int _) (.cons (.int _) .nil))),Y,Y,_,Y,?_⟩;rw [Hh]
    by_cases e:q'=q0
    ·rw [show (!decide ((q'.1,q'.2.1,q'.2.2)=(q0.1,q0.2.1,q0.2.2)))=false by rw [e,decide_eq_true rfl]; rfl];refine aQ (Nx.of hjn ⟨sx,?_⟩);rw [tk,if_neg (by simp [e]),List.append_nil];exact py
    ·rw [show (!decide ((q'.1,q'.2.1,q'.2.2)=(q0.1,q0.2.1,q0.2.2)))=true by rw [decide_eq_false (λ z=>e z)]; rfl];refine aZ ⟨_,rfl,Nx.of hjn ⟨sx,?_⟩⟩;rw [tk,if_pos (by simp [e])];exact Paired.snoc py ⟨a',rfl,sx _ _ (s04 _ _ ha')⟩
   ·rintro ys Hx ⟨sx,py⟩;rw [rpl,List.take_length] at py;have yl:=E5 py;have fl:=List.length_filter_le (λ q=>decide (q≠q0)) g.pl;refine ⟨⋯,λ ot hot=>hR ot ys _ af (JY py λ v z h=>h.same (JV hot)) (sx.trans (JV hot))⟩
  rintro ot os H5 hot po s5;have ol:=E5 po;have fl:=List.length_filter_le (λ q=>decide (q≠q0)) g.pl;have s05:=s04.trans s5;refine av (λ R=>∀am (H':Hp),H' am= ~~~((List.zipWith (· + ·) g.md cn).map V.int)->Same H5 H'->R [↑s,⇑q0.1,some v,↑go,↑re,↑co,↑b',⇑g.nu,↑c,⇑g.pu,↑ke,↑ca,↑ot,↑am] H') (λ Dd hR=>?_) ?_
  ·have hc5:=s05 _ _ hc;have hco5:=(s3.trans (s4.trans s5)) _ _ hco;refine ⟨_,Y,_,Y,c,co,_,_,Y,hc5,hco5,iB (xs:=g.md.map V.int) (ys:=cn.map V.int) (λ i zs H4=>Same H5 H4/\zs=((List.zipWith (· + ·) g.md cn).take i).map V.int) (by rw [List.length_map,List.length_map,cl0,ml]) (λ i zs H4 ⟨s4,_⟩=>⟨s4 _ _ hc5,s4 _ _ hco5⟩) ⟨Same.refl _,Y⟩ (λ i zs H4 hi ⟨_,e⟩=>by rw [e,List.length_map,List.length_take]; rw [List.length_map] at hi; lia) ?_ ?_⟩
   ·rintro n x' y' tz zs' Hx hx hy htz ⟨sx,rfl⟩;rw [List.getElem?_map] at hx hy;obtain ⟨m',hm,rfl⟩:=Option.map_eq_some_iff.mp hx;obtain ⟨c',hc',rfl⟩:=Option.map_eq_some_iff.mp hy;obtain ⟨H6,e6,k6,s6⟩:∃H',upd Hx tz (.tup [.int m',.int c'])=H'/\H' tz= ~~~[.int m',.int c']/\Same Hx H':=⟨_,Y,af,JV htz⟩
    rw [show upd Hx tz _=H6 from e6]; clear e6;refine ⟨tz,_,Y,JW k6,Y,_,_,Y,_,_,Y,Y,fO (leS.set rfl) (leS.set rfl),bD ?_⟩;refine ⟨_,Y,_,Y,_,_,Y,Y,Nx.of (by rw [List.length_map]; exact (A9.mp hm).1) ⟨sx.trans s6,?_⟩⟩;have hzz:(List.zipWith (· + ·) g.md cn)[n]? = some (m' + c'):=by rw [List.getElem?_zipWith,hm,hc']
    rw [List.take_add_one,hzz];simp only [Option.toList_some,List.map_append,List.map_cons,List.map_nil]
   ·rintro zs' Hx ⟨sx,rfl⟩;have wl:(List.zipWith (· + ·) g.md cn).length=ks.length:=by rw [List.length_zipWith,cl0,ml]; lia
    refine ⟨by rw [List.length_map,List.length_take]; lia,λ lc hlc=>?_⟩;rw [List.length_map,List.take_of_length_le ⋯];obtain ⟨H6,e6,k6,s6⟩:∃H',upd Hx lc (.lst ((List.zipWith (· + ·) g.md cn).map V.int))=H'/\H' lc=↥((List.zipWith (· + ·) g.md cn).map V.int)/\Same Hx H':=⟨_,Y,af,JV hlc⟩
    rw [show upd Hx lc _=H6 from e6]; clear e6;exact ⟨lc,_,Y,.inl ⟨JX k6,λ am ham=>hR am _ af ((sx.trans s6).trans (JV ham))⟩⟩
  rintro am H6 ham s6;have s06:=s05.trans s6;refine av (λ R=>∀ (H':Hp),StoreAt CS C H' s sh b ks le (jg le g q0 rs cn) (gs ++ [g]) pa->H' ca=↥cs->Paired (PlA H') cs (aT g.nu (aJ le rs))->FrS s pa H H'->R [↑s,⇑q0.1,some v,↑go,↑re,↑co,↑b',⇑g.nu,↑c,⇑g.pu,↑ke,↑ca,↑ot,↑am] H') (λ Dd hR=>?_) ?_
  ·refine ⟨_,Y,s,dx,_,Y,s06 _ _ hs,bN _ _ _ _ ∅ ∅ ∅ ∅,?_⟩;have hca6:=(s5.trans s6) _ _ hca;refine ⟨_,Y,_,Y,ot,ca,os,cs,Y,Y,s6 _ _ hot,hca6,⋯,λ l1 hl1=>?_⟩;obtain ⟨H7,e7,k7,s7⟩:∃H',upd H6 l1 (.lst (os ++ cs))=H'/\H' l1=↥(os ++ cs)/\Same H6 H':=⟨_,Y,af,JV hl1⟩
   rw [show upd H6 l1 _=H7 from e7]; clear e7;refine ⟨l1,_,Y,.inl ⟨JX k7,λ t1 ht1=>?_⟩⟩;obtain ⟨H8,e8,k8,s8⟩:∃H',upd H7 t1 (.tup (os ++ cs))=H'/\H' t1= ~~~(os ++ cs)/\Same H7 H':=⟨_,Y,af,JV ht1⟩
   rw [show upd H7 t1 _=H8 from e8]; clear e8;have s68:=s7.trans s8;refine ⟨_,Y,_,Y,ca,cs,Y,.inl (JX (s68 _ _ hca6)),_,_,Y,Y,_,Y,_,Y,zS4,λ t2 ht2=>?_⟩;obtain ⟨H9,e9,k9,s9⟩:∃H',upd H8 t2 (.tup [.ref t1,.int (g.nu + (cs.length:Int)),.ref am,.int g.pu])=H'/\H' t2= ~~~[.ref t1,.int (g.nu + (cs.length:Int)),.ref am,.int g.pu]/\Same H8 H':=⟨_,Y,af,JV ht2⟩
   rw [show upd H8 t2 _=H9 from e9]; clear e9;have s69:=s68.trans s9;have s09:=s06.trans s69;have pc9:Paired (PlA H9) cs (aT g.nu (aJ le rs)):=JY pc λ v z h=>h.same ((s5.trans s6).trans s69);have po9:Paired (PlA H9) os (g.pl.filter λ q=>decide (q≠q0)):=JY po λ v z h=>h.same (s6.trans s69);refine ⟨s,sh,pa,b,le,ks,g,jg le g q0 rs cn,gs,_,Y,x.same s09,g1,?_,λ H10 x10 f10=>?_⟩
   ·refine .mk (b:=t1) (c:=am) ?_ (s9 _ _ k8) (fg po9 pc9) (s69 _ _ ham);rw [k9,cl]; rfl
   ·have nca:ca≠s:=λ z=>by rw [z,hs] at fca; cases fca
    have nca2:ca≠pa:=λ z=>by rw [z,hp] at fca; cases fca
    exact hR _ x10 (f10 _ _ nca nca2 (s69 _ _ hca6)) (JY pc9 λ v z h=>h.keep (FrS.tup (x.same s09) f10)) ((Same.frS s09).trans f10)
  rintro H7 x7 hca7 pc7 f7;refine ⟨_,Y,ca,Y,⟨_,JX hca7⟩,(bn (K:=K) (.inl hca7) (λ i ys Hx=>Same H7 Hx/\ys=((aT g.nu (aJ le rs)).take i).map λ z=>V.int z.1) (λ i ys Hx _ ⟨sx,_⟩ o e=>sx _ _ e) ⟨Same.refl _,Y⟩ ?_ ?_).1 hca7⟩
  ·rintro j y ys Hx hj ⟨sx,rfl⟩;have hjn:j < cs.length:=(A9.mp hj).1;obtain ⟨z,hz,az,rfl,haz⟩:=JZ pc7 hj;refine ⟨by rw [List.length_map,List.length_take,bK]; lia,leS.set rfl,bD ?_⟩;refine ⟨_,Y,az,_,0,_,Y,Y,JW (sx _ _ haz),Y,Nx.of hjn ⟨sx,?_⟩⟩;rw [List.take_add_one,hz];simp only [Option.toList_some,List.map_append,List.map_cons,List.map_nil]
  ·rintro ys Hx ⟨sx,rfl⟩;rw [List.take_of_length_le (by rw [bK]; lia)];refine ⟨by rw [List.length_map,bK]; lia,λ l hl=>?_⟩;have fl':H l=none:=by
    cases e:H l with
    | none=>rfl
    | some o =>
     exfalso;have h7:H7 l=none:=sx.free hl
     by_cases e1:l=s
     ·obtain ⟨_,_,_,hs7,_⟩:=x7.look;rw [e1,hs7] at h7; cases h7
     ·by_cases e2:l=pa
      ·obtain ⟨_,_,_,_,_,_,hp7,_⟩:=x7.look;rw [e2,hp7] at h7; cases h7
      ·rw [f7 _ _ e1 e2 e] at h7; cases h7
   exact q rs l _ pe so (x7.same (sx.trans (JV hl))) (f7.trans (Same.frS (sx.trans (JV hl)))) fl' af
end
theorem nS (f:Nat->Int) (a:Nat):∀n,a < n->((List.range n).map λ k=>if a == k then f k else 0).sum=f a
 | 0,h=>absurd h (Nat.not_lt_zero _)
 | n + 1,h=>by
  rw [List.range_succ,List.map_append,List.sum_append];have tl:([n].map λ k=>if a == k then f k else 0).sum=if a == n then f n else 0:=by simp
  rw [tl]
  by_cases e:a=n
  ·subst e;have z:((List.range a).map λ k=>if a == k then f k else 0)=(List.range a).map λ _=>(0:Int):=List.map_congr_left λ k hk=>by rw [if_neg (by have:=List.mem_range.mp hk; simp; lia)]
   rw [z,if_pos (by simp)];have:((List.range a).map λ _=>(0:Int)).sum=0:=by
    generalize List.range a=l
    induction l with
    | nil=>rfl
    | cons x l ih=>rw [List.map_cons,List.sum_cons,ih]; rfl
   rw [this]; lia
  ·rw [nS f a n ⋯,if_neg (by simpa using e)]; lia
theorem jK {α:Type} (f g:α->Int):∀l:List α,(l.map λ k=>f k + g k).sum=(l.map f).sum + (l.map g).sum
 | []=>rfl
 | x :: l=>by rw [List.map_cons,List.map_cons,List.map_cons,List.sum_cons,List.sum_cons,List.sum_cons,jK f g l]; lia
theorem jL (n:Nat) (f:Nat->Int):∀ps:List Pce,(∀p∈ps,p.k < n)->((List.range n).map λ k=>((ps.filter λ p=>p.k == k).length:Int) * f k).sum=(ps.map λ p=>f p.k).sum
 | [],_=>by
  generalize List.range n=l
  induction l with
  | nil=>rfl
  | cons x l ih=>rw [List.map_cons,List.sum_cons,ih]; simp
 | p :: ps,h=>by
  have ih:=jL n f ps (λ q hq=>h q (B7 _ hq));rw [List.map_cons,List.sum_cons,<- ih,<- nS f p.k n (h p List.mem_cons_self),<- jK];congr 1;refine List.map_congr_left λ k _=>?_;rw [List.filter_cons]
  split
  ·rw [List.length_cons,Int.natCast_add,Int.add_mul]; simp; lia
  ·lia
theorem rF {p q:Rst} (h:ge p=ge q):p=q:=by
 obtain ⟨x,y,w,z⟩:=p;obtain ⟨x',y',w',z'⟩:=q;unfold ge at h;simp only [List.cons.injEq,and_true] at h;obtain ⟨h1,h2,h3,h4⟩:=h;subst h1 h2 h3 h4
 rfl
theorem wT {ps qs:List Rst} (h:ps.Perm qs) (h1:(ps.map ge).Pairwise λ x y=>cb y x=false) (h2:(qs.map ge).Pairwise λ x y=>cb y x=false):ps=qs :=
 List.Perm.eq_of_pairwise (le:=λ p q=>cb (ge q) (ge p)=false) (λ p q _ _ a1 a2=>rF (fJ _ _ a2 a1)) (List.pairwise_map.mp h1) (List.pairwise_map.mp h2) h
def ShD (k n:Nat) (d:PyData):Prop:=d.showable=true/\d.depth<=k/\d.shown.length<=n
theorem lB {k n:Nat}:∀ {ds:List PyData},(∀d∈ds,ShD k n d)->PyData.showableAll ds=true/\PyData.depthAll ds<=k/\((PyData.shownAll ds).map (·.length)).sum<=n * ds.length/\(PyData.shownAll ds).length=ds.length
 | [],_=>⟨Y,G0 _,G0 _,Y⟩
 | d :: r,h=>by obtain ⟨d1,d2,d3⟩:=h d C0;obtain ⟨e1,e2,e3,e4⟩:=lB (ds:=r) λ x hx=>h x (B7 _ hx);refine ⟨by simp only [PyData.showableAll,d1,e1,Bool.and_self],by simp only [PyData.depthAll]; lia,?_,by simp only [PyData.shownAll,List.length_cons]; lia⟩;simp only [PyData.shownAll,List.map_cons,List.sum_cons,List.length_cons,Nat.mul_succ];lia
theorem hG {b:Int} {ks:List Kd}:∀ (t:Tr) {w h:Int},okU b ks w h t->okT b ks w h t
 | .rest,_,_,_=>trivial
 | .piece i c x y,w,h,⟨k,hk,hm,x0,y0,hx,hy⟩=>by
  refine ⟨k,hk,?_,x0,y0,hx,hy⟩;obtain ⟨_,k',hk',hc⟩:=lq hm;have hk':ks[i]? = some k':=hk';rw [hk] at hk';cases hk';unfold nN;rcases hc with hc | hc
  ·have hc:c=false:=hc;rw [hc]
   split <;> simp
  ·rw [if_pos hc];cases c <;> simp
 | .cut true p l r,w,h,⟨p1,hp,hl,hr⟩=>⟨p1,hp,hG l hl,hG r hr⟩
 | .cut false p l r,w,h,⟨p1,hp,hl,hr⟩=>⟨p1,hp,hG l hl,hG r hr⟩
theorem lC:∀t:Tr,wt (toD t)<=11 * szT t
 | .rest=>∅
 | .piece .. => by
  have:wt (.str "piece")=6:=∅
  show wt (.str "piece") + (1 + (1 + (1 + (1 + 0)))) + 1<=11 * 1;lia
 | .cut dn p l r=>by
  have h1:=lC l;have h2:=lC r;have h3:wt (.str (if dn=true then "down" else "across"))<=7:=by cases dn <;> decide +kernel
  show wt (.str (if dn=true then "down" else "across")) + (1 + (wt (toD l) + (wt (toD r) + 0))) + 1<=11 * (szT l + szT r + 1);lia
theorem jh:∀t:Tr,szT t + 1=2 * lvN t
 | .rest=>rfl
 | .piece .. => rfl
 | .cut _ _ l r=>by have h1:=jh l;have h2:=jh r;show szT l + szT r + 1 + 1=2 * (lvN l + lvN r);lia
theorem rG {C p s:Addr} {b w h:Int} {ks:List Kd} {v:V} {t:Tr} {H:Hp} (sh:ShopAt C H s b ks) (w1:1<=w) (h1:1<=h) (tv:TrV H t v) (ok:okU b ks w h t) (ln:lvN t<=45):TrH C p s b w h ks v (toD t) t H:=by have:=lC t;have:=jh t;exact ⟨sh,w1,h1,TrV.dt t tv,TrD.to t,hG t ok,⋯,⋯⟩
inductive Deed where
 | put (w h:Int)
 | cut (q:Int×Int×Int) (t:Tr)
def DdV (H:Hp) (v:V):Deed->Prop
 | .put w h=>∃a,v=.ref a/\H a=some (.tup [.str "put",.int w,.int h])
 | .cut q t=>∃a u,v=.ref a/\H a=some (.tup [.str "cut",.int q.1,u])/\TrV H t u
theorem DdV.keep {H H':Hp} (k:∀a xs,H a= ~~~xs->H' a= ~~~xs) {v:V}:∀ {d:Deed},DdV H v d->DdV H' v d
 | .put ..,⟨a,e,h⟩=>⟨a,e,k _ _ h⟩
 | .cut _ t,⟨a,u,e,h,tv⟩=>⟨a,u,e,k _ _ h,TrV.keep k t tv⟩
structure GI (ks:List Kd) (c:Nat) (g:Stn):Prop where
 pl:∀q∈g.pl,0<=q.1/\q.1 < g.nu/\1<=q.2.1/\q.2.1 < 10 ^ 58/\1<=q.2.2/\q.2.2 < 10 ^ 58
 so:g.pl.Pairwise λ x y=>x.1 < y.1
 ln:g.pl.length<=10 * c
 nu:0<=g.nu/\g.nu<=10 * c
 ml:g.md.length=ks.length
 md:∀m∈g.md,0<=m/\m<=10 * c
 pu:0<=g.pu/\g.pu<=c * 10 ^ 116
def OkD (b:Int) (ks:List Kd) (g:Stn):Deed->Prop
 | .put w h=>1<=w/\w < 10 ^ 58/\1<=h/\h < 10 ^ 58
 | .cut q t=>q∈g.pl/\okU b ks q.2.1 q.2.2 t/\lvN t<=7
def Stp (b le:Int) (ks:List Kd) (g:Stn) (d:Deed) (g':Stn):Prop:=match d with
 | .put w h=>g'=⟨g.pl ++ [(g.nu,w,h)],g.nu + 1,g.md,g.pu + w * h⟩
 | .cut q t=>∃rs:List Rst,rs.Perm (pL b t q.2.1 q.2.2)/\(rs.map ge).Pairwise (λ x y=>cb y x=false)/\g'=jg le g q rs (bP (pcs b t q.2.1 q.2.2) ks.length)
theorem Stp.det {b le:Int} {ks:List Kd} {g g1 g2:Stn}:∀ {d:Deed},Stp b le ks g d g1->Stp b le ks g d g2->g1=g2
 | .put ..,h1,h2=>h1.trans h2.symm
 | .cut ..,⟨rs,p1,s1,e1⟩,⟨rs',p2,s2,e2⟩=>by rw [e1,e2,wT (p1.trans p2.symm) s1 s2]
def g00 (n:Nat):Stn:=⟨[],0,List.replicate n 0,0⟩
theorem GI.zero (ks:List Kd):GI ks 0 (g00 ks.length):=⟨λ _ h=>(C4 h).elim,.nil,B6 _,⟨E7 _,E7 _⟩,List.length_replicate,λ m hm=>by
 rw [(List.mem_replicate.mp hm).2]; exact ⟨E7 _,⋯⟩,⟨E7 _,by show (0:Int)<=((0:Nat):Int) * _; lia⟩⟩
theorem rH (b:Int) (t:Tr) (x y w h:Int):(lvs b t x y w h).length=lvN t:=(TrD.many (b:=b) t _ x y w h (TrD.to t)).1
theorem cC:∀ {nu:Int} {l:List (Int×Int)} {z:Int×Int×Int},z∈aT nu l->nu<=z.1/\z.1 < nu + l.length/\z.2∈l
 | _,[],_,h=>(C4 h).elim
 | nu,y :: l,z,h=>by
  rw [aT] at h;rw [List.length_cons];rcases List.mem_cons.mp h with e | h
  ·rw [e]; exact ⟨E7 _,by show nu < nu + ((l.length + 1:Nat):Int); lia,C0⟩
  ·obtain ⟨h1,h2,h3⟩:=cC h;exact ⟨⋯,⋯,B7 _ h3⟩
theorem jM:∀ (nu:Int) (l:List (Int×Int)),(aT nu l).Pairwise λ x y=>x.1 < y.1
 | _,[]=>.nil
 | nu,y :: l=>by rw [aT];exact .cons (λ z hz=>by have:=(cC hz).1; show nu < z.1; lia) (jM _ l)
theorem rJ {le:Int} {rs:List Rst} {z:Int×Int} (h:z∈aJ le rs):∃r∈rs,z=(r.w,r.h):=by unfold aJ at h;obtain ⟨r,hr,e⟩:=List.mem_map.mp h;exact ⟨r,(List.mem_filter.mp hr).1,e.symm⟩
theorem jN (le:Int) (rs:List Rst):(aJ le rs).length<=rs.length:=by unfold aJ;rw [List.length_map];exact List.length_filter_le _ _
theorem rK {b:Int} {t:Tr} {w h:Int} {r:Rst} (hr:r∈pL b t w h):∃f∈lvs b t 0 0 w h,r.w=f.w/\r.h=f.h:=by
 obtain ⟨f,hf,e⟩:=List.mem_filterMap.mp hr;refine ⟨f,hf,?_⟩;unfold lfR at e
 split at e
 ·cases e; exact ⟨Y,Y⟩
 ·cases e
theorem jO {f:Int->Int->Int}:∀ {xs ys:List Int} {z:Int},z∈List.zipWith f xs ys->∃x∈xs,∃y∈ys,z=f x y
 | [],_,z,h=>by simp at h
 | _ :: _,[],z,h=>by simp at h
 | x :: xs,y :: ys,z,h=>by
  rw [List.zipWith_cons_cons] at h;rcases List.mem_cons.mp h with e | h
  ·exact ⟨x,C0,y,C0,e⟩
  ·obtain ⟨a,ha,c,hc,e⟩:=jO h;exact ⟨a,B7 _ ha,c,B7 _ hc,e⟩
theorem uw {w h:Int} (w0:1<=w) (w1:w < 10 ^ 58) (h0:1<=h) (h1:h < 10 ^ 58):0<=w * h/\w * h<=10 ^ 116:=by
 refine ⟨Int.mul_nonneg ⋯ ⋯,?_⟩;have:=Int.mul_le_mul (a:=w) (b:=h) (c:=10 ^ 58) (d:=10 ^ 58) ⋯ ⋯ ⋯ ∅;have e:(10:Int) ^ 58 * 10 ^ 58=10 ^ 116:=∅
 lia
theorem GI.step {b le:Int} {ks:List Kd} {c:Nat} {g g':Stn} (b0:0<=b) (gi:GI ks c g):∀ {d:Deed},OkD b ks g d->Stp b le ks g d g'->GI ks (c + 1) g'
 | .put w h,⟨w0,w1,h0,h1⟩,e=>by
  cases e;obtain ⟨sq0,sq1⟩:=uw w0 w1 h0 h1;obtain ⟨n0,n1⟩:=gi.nu;have:=gi.ln;obtain ⟨p0,p1⟩:=gi.pu;refine ⟨λ q hq=>?_,?_,by rw [List.length_append]; show _ + 1<=_; lia,⟨by show 0<=g.nu + 1; lia,by show g.nu + 1<=_; lia⟩,gi.ml,λ m hm=>?_,⟨by show 0<=g.pu + w * h; lia,?_⟩⟩
  ·rcases C6.mp hq with z | z
   ·obtain ⟨a1,a2,a3⟩:=gi.pl q z;exact ⟨a1,by show q.1 < g.nu + 1; lia,a3⟩
   ·rw [List.mem_singleton.mp z];exact ⟨n0,by show g.nu < g.nu + 1; lia,w0,w1,h0,h1⟩
  ·refine List.pairwise_append.mpr ⟨gi.so,List.pairwise_singleton _ _,λ x hx y hy=>?_⟩;rw [List.mem_singleton.mp hy];exact (gi.pl x hx).2.1
  ·obtain ⟨a1,a2⟩:=gi.md m hm;exact ⟨a1,⋯⟩
  ·show g.pu + w * h<=((c + 1:Nat):Int) * 10 ^ 116;rw [show ((c + 1:Nat):Int)=(c:Int) + 1 by lia,Int.add_mul];lia
 | .cut q t,⟨hq,ok,l7⟩,⟨rs,pe,so,e⟩=>by
  cases e;obtain ⟨n0,n1⟩:=gi.nu;have gl:=gi.ln;obtain ⟨p0,p1⟩:=gi.pu;obtain ⟨_,_,q1,q2,q3,q4⟩:=gi.pl q hq;have okt:=hG t ok;have ll:=rH b t 0 0 q.2.1 q.2.2;have rl:rs.length<=7:=by rw [pe.length_eq];exact C9 (List.length_filterMap_le _ _) ⋯
  have kl:=jN le rs;have cl:=bK g.nu (aJ le rs);have fl:=List.length_filter_le (λ z=>decide (z≠q)) g.pl;have cm:∀z∈aT g.nu (aJ le rs),1<=z.2.1/\z.2.1 < 10 ^ 58/\1<=z.2.2/\z.2.2 < 10 ^ 58:=λ z hz=>by obtain ⟨r,hr,ez⟩:=rJ (cC hz).2.2;obtain ⟨f,hf,e1,e2⟩:=rK (pe.mem_iff.mp hr);obtain ⟨f1,f2,f3,f4,_⟩:=ee b0 t 0 0 q.2.1 q.2.2 q1 q3 okt f hf;rw [ez];exact ⟨by show 1<=r.w; lia,by show r.w < _; lia,by show 1<=r.h; lia,by show r.h < _; lia⟩
  refine ⟨λ z hz=>?_,?_,?_,⟨?_,?_⟩,?_,λ m hm=>?_,⟨p0,?_⟩⟩
  ·rcases C6.mp hz with z1 | z1
   ·obtain ⟨a1,a2,a3⟩:=gi.pl z (List.mem_filter.mp z1).1;exact ⟨a1,by show z.1 < g.nu + ((aJ le rs).length:Int); lia,a3⟩
   ·obtain ⟨a1,a2,_⟩:=cC z1;exact ⟨⋯,a2,cm z z1⟩
  ·refine List.pairwise_append.mpr ⟨gi.so.sublist List.filter_sublist,jM _ _,λ x hx y hy=>?_⟩;have:=(gi.pl x (List.mem_filter.mp hx).1).2.1;have:=(cC hy).1;lia
  ·show ((g.pl.filter λ z=>decide (z≠q)) ++ aT g.nu (aJ le rs)).length<=_;rw [List.length_append]; lia
  ·show 0<=g.nu + ((aJ le rs).length:Int); lia
  ·show g.nu + ((aJ le rs).length:Int)<=_; lia
  ·show (List.zipWith (· + ·) g.md _).length=_;rw [List.length_zipWith,cI,gi.ml,Nat.min_self]
  ·obtain ⟨x,hx,y,hy,em⟩:=jO hm;obtain ⟨x0,x1⟩:=gi.md x hx;unfold bP at hy;obtain ⟨k,_,ey⟩:=List.mem_map.mp hy;have:((pcs b t q.2.1 q.2.2).filter λ p=>p.k == k).length<=7:=C9 (List.length_filter_le _ _) (C9 (List.length_filterMap_le _ _) ⋯);have em:m=x + y:=em;lia
  ·have:(0:Int)<=10 ^ 116:=∅
   show g.pu<=((c + 1:Nat):Int) * 10 ^ 116;rw [show ((c + 1:Nat):Int)=(c:Int) + 1 by lia,Int.add_mul];lia
def rsC (ks:List Kd) (g:Stn):Int:=g.pu - thr g - mdc ks g
theorem ux {pl:List (Int×Int×Int)} {z:Int×Int×Int}:((pl ++ [z]).map λ q=>q.2.1 * q.2.2).sum=(pl.map λ q=>q.2.1 * q.2.2).sum + z.2.1 * z.2.2:=by rw [List.map_append,List.sum_append]; simp
theorem rL {ks:List Kd} {g:Stn} {w h:Int}:rsC ks ⟨g.pl ++ [(g.nu,w,h)],g.nu + 1,g.md,g.pu + w * h⟩=rsC ks g:=by unfold rsC thr mdc;simp only [ux];lia
theorem jP:∀ {pl:List (Int×Int×Int)} {q:Int×Int×Int},pl.Pairwise (λ x y=>x.1 < y.1)->q∈pl->((pl.filter λ z=>decide (z≠q)).map λ q=>q.2.1 * q.2.2).sum=(pl.map λ q=>q.2.1 * q.2.2).sum - q.2.1 * q.2.2
 | [],_,_,h=>(C4 h).elim
 | z :: pl,q,.cons h1 h2,h=>by
  rw [List.map_cons,List.sum_cons,List.filter_cons]
  by_cases e:z=q
  ·have:(pl.filter λ z=>decide (z≠q))=pl:=List.filter_eq_self.mpr λ y hy=>by have:=h1 y hy;exact B3 λ ey=>by rw [ey,e] at this; lia
   rw [if_neg (by simp [e]),this,e]; lia
  ·have hq:q∈pl:=(List.mem_cons.mp h).resolve_left λ x=>e x.symm;rw [if_pos (by simp [e]),List.map_cons,List.sum_cons,jP h2 hq]; lia
theorem nT (ks:List Kd):∀ (n:Nat) (xs ys:List Int) (ks:List Kd),xs.length=n->ys.length=n->ks.length=n->(((List.zipWith (· + ·) xs ys).zip ks).map λ z=>z.1 * z.2.w * z.2.h).sum=((xs.zip ks).map λ z=>z.1 * z.2.w * z.2.h).sum + ((ys.zip ks).map λ z=>z.1 * z.2.w * z.2.h).sum
 | 0,[],[],[],_,_,_=>rfl
 | n + 1,x :: xs,y :: ys,k :: ks',h1,h2,h3=>by have ih:=nT ks n xs ys ks' (by simpa using h1) (by simpa using h2) (by simpa using h3);simp only [List.zipWith_cons_cons,List.zip_cons_cons,List.map_cons,List.sum_cons];rw [ih,Int.add_mul,Int.add_mul];lia
def kA (ks:List Kd) (i:Nat):Int:=match ks[i]? with
 | some k=>k.w * k.h
 | none=>0
theorem rM (ks:List Kd) (ps:List Pce) (h:∀p∈ps,p.k < ks.length):(((bP ps ks.length).zip ks).map λ z=>z.1 * z.2.w * z.2.h).sum=(ps.map λ p=>kA ks p.k).sum:=by
 have e:(((bP ps ks.length).zip ks).map λ z=>z.1 * z.2.w * z.2.h)=(List.range ks.length).map λ k=>((ps.filter λ p=>p.k == k).length:Int) * kA ks k:=by
  apply List.ext_getElem?;intro i;rw [List.getElem?_map,List.getElem?_map]
  by_cases hi:i < ks.length
  ·have hz:((bP ps ks.length).zip ks)[i]? = some (((ps.filter λ p=>p.k == i).length:Int),ks[i]):=List.getElem?_zip_eq_some.mpr ⟨gz hi,G2 hi⟩;rw [List.getElem?_range hi,hz];show some _=some _;congr 1;unfold kA;simp only [List.getElem?_eq_getElem hi];rw [Int.mul_assoc]
  ·rw [List.getElem?_eq_none (by rw [List.length_zip]; lia),List.getElem?_eq_none (by rw [List.length_range]; lia)]; rfl
 rw [e,jL _ (λ k=>kA ks k) ps h]
theorem jQ (ks:List Kd):∀fs:List Lf,((fs.filterMap lfP).map λ p=>kA ks p.k).sum=dm (pcA ks) fs
 | []=>rfl
 | f :: fs=>by
  have ih:=jQ ks fs;unfold dm at ih ⊢;rw [List.map_cons,List.sum_cons,<- ih,List.filterMap_cons];obtain ⟨x,y,w,h,t⟩:=f;cases t with
  | rest=>show _=0 + _; rw [Int.zero_add]; rfl
  | cut=>show _=0 + _; rw [Int.zero_add]; rfl
  | piece i c u v =>
   show (kA ks i + _:Int)=(match ks[i]? with | some k=>sd1 k c * sd2 k c | none=>0) + _;congr 1;unfold kA;cases ks[i]? with
   | none=>rfl
   | some k=>cases c with
    | false=>rfl
    | true=>exact Int.mul_comm _ _
theorem rN {b le:Int} {ks:List Kd} {c:Nat} {g:Stn} {q:Int×Int×Int} {t:Tr} {rs:List Rst} (gi:GI ks c g) (hq:q∈g.pl) (ok:okU b ks q.2.1 q.2.2 t) :
  rsC ks (jg le g q rs (bP (pcs b t q.2.1 q.2.2) ks.length))=rsC ks g + (q.2.1 * q.2.2 - dm (pcA ks) (lvs b t 0 0 q.2.1 q.2.2) - ((aT g.nu (aJ le rs)).map λ z=>z.2.1 * z.2.2).sum):=by
 have e1:=jP gi.so hq;have e2:=nT ks ks.length g.md (bP (pcs b t q.2.1 q.2.2) ks.length) ks gi.ml (cI _ _) rfl;have e3:=rM ks (pcs b t q.2.1 q.2.2) (λ p hp=>rz (hG t ok) hp);have e4:=jQ ks (lvs b t 0 0 q.2.1 q.2.2);unfold rsC thr mdc jg;simp only;rw [List.map_append,List.sum_append,e1,e2,e3];unfold pcs;rw [e4];lia
theorem wU {X:Cx} (K:C8) (hK:X.K=K):OpR X (compareOp .In) (rIn K false):=hK ▸ im
structure SI (CS C:Addr) (H:Hp) (s sh:Addr) (b:Int) (ks:List Kd) (le:Int) (g:Stn) (gs:List Stn) (pa:Addr) (c:Nat):Prop where
 x:StoreAt CS C H s sh b ks le g gs pa
 gi:GI ks c g
 gl:gs.length<=c
 c1:c<=100
 gk:∀k∈ks,fj k
 k8:ks.length<=8
 b0:0<=b
theorem GI.plo {ks:List Kd} {c:Nat} {g:Stn} (h:GI ks c g) (c1:c<=100):CZ g:=⟨by have:=h.ln; lia,λ q hq=>by
 obtain ⟨_,_,a,b,c,d⟩:=h.pl q hq;have:(10:Int) ^ 58<=10 ^ 60:=∅
 exact ⟨a,⋯,c,⋯⟩⟩
theorem GI.mdo {ks:List Kd} {c:Nat} {g:Stn} (h:GI ks c g) (c1:c<=100):Db ks g:=⟨h.ml,λ m hm=>by
 obtain ⟨a,b⟩:=h.md m hm;have:(1000:Int)<=10 ^ 6:=∅
 exact ⟨a,⋯⟩⟩
inductive AskA (ks:List Kd) (H0 H:Hp):V->Stn->Prop
 | mk {l l1 l2 t:Addr} {rs:List V} {g:Stn} (h0:H0 l=none) (h1:H0 l1=none) (h2:H0 l2=none) (e:H l=↥[.ref l1,.ref l2,.ref t]) (e1:H l1=↥rs) (pr:Paired (PlA H) rs g.pl) (e2:H l2=↥(g.md.map V.int)) (e3:H t= ~~~[.int g.pu,.int (thr g),.int (mdc ks g),.int (rsC ks g)]):AskA ks H0 H (.ref l) g
def plD (q:Int×Int×Int):PyData:=.tuple [.int q.1,.int q.2.1,.int q.2.2]
def fo (ks:List Kd) (g:Stn):PyData:=.list [.list (g.pl.map plD),.list (g.md.map PyData.int),.tuple [.int g.pu,.int (thr g),.int (mdc ks g),.int (rsC ks g)]]
theorem PlA.dat {K:C8} {H:Hp}:∀ {rs:List V} {qs:List (Int×Int×Int)},Paired (PlA H) rs qs->DatVs K H rs (qs.map plD)
 | _,_,.nil=>.nil
 | _,_,.cons ⟨a,e,h⟩ r=>by subst e;exact .cons (.tup (JW h) (.cons (.int _) (.cons (.int _) (.cons (.int _) .nil)))) (PlA.dat r)
theorem jR {K:C8} {H:Hp}:∀ns:List Int,DatVs K H (ns.map V.int) (ns.map PyData.int)
 | []=>.nil
 | _ :: r=>.cons (.int _) (jR r)
theorem nU:∀qs:List (Int×Int×Int),PyData.canLayAll0 (qs.map plD)=true/\PyData.depthAll (qs.map plD)<=1
 | []=>⟨Y,G0 _⟩
 | q :: r=>by obtain ⟨h1,h2⟩:=nU r;refine ⟨by simp [plD,PyData.canLayAll0,PyData.canLay0,h1],?_⟩;simp only [List.map_cons,plD,PyData.depthAll,PyData.depth]; lia
def FrL (M:List Addr) (H H':Hp):Prop:=∀c o,c∉M->H c=some o->H' c=some o
theorem FrL.refl {M:List Addr} {H:Hp}:FrL M H H:=λ _ _ _ e=>e
theorem FrL.trans {M:List Addr} {H H' H'':Hp} (a:FrL M H H') (b:FrL M H' H''):FrL M H H'':=λ c o n e=>b c o n (a c o n e)
theorem Same.frL {M:List Addr} {H H':Hp} (s:Same H H'):FrL M H H':=λ _ _ _ e=>s _ _ e
theorem But.frL {M:List Addr} {p:Addr} {H H':Hp} (s:But p H H') (h:p∈M):FrL M H H':=λ _ _ n e=>s _ _ (λ z=>n (z ▸ h)) e
theorem FrS.frL {M:List Addr} {s p:Addr} {H H':Hp} (x:FrS s p H H') (h:s∈M) (h':p∈M):FrL M H H':=λ _ _ n e=>x _ _ (λ z=>n (z ▸ h)) (λ z=>n (z ▸ h')) e
def AskM (K:C8) (M:List Addr) (ks:List Kd) (H:Hp) (v:V) (g:Stn):Prop:=∀H',FrL M H H'->∃a,v=.ref a/\DatV K H' (.ref a) (fo ks g)
theorem AskM.fr {K:C8} {M:List Addr} {ks:List Kd} {H H':Hp} {v:V} {g:Stn} (h:AskM K M ks H v g) (f:FrL M H H'):AskM K M ks H' v g:=λ H'' f'=>h H'' (f.trans f')
theorem AskA.m {K:C8} {M:List Addr} {ks:List Kd} {H0 H:Hp} {v:V} {g:Stn} (h:AskA ks H0 H v g) (oc:∀m∈M,H0 m≠none) (nt:∀m∈M,∀xs,H m≠some (.tup xs)):AskM K M ks H v g:=λ H' f=>by
 cases h with
 | @mk l l1 l2 t rs _ h0 h1 h2 e e1 pr e2 e3 =>
  have kt:∀a xs,H a= ~~~xs->H' a= ~~~xs:=λ a xs ea=>f _ _ (λ z=>nt _ z _ ea) ea;have kf:∀a o,H0 a=none->H a=some o->H' a=some o:=λ a o n ea=>f _ _ (λ z=>oc _ z n) ea;exact ⟨l,Y,.lst (JX (kf _ _ h0 e)) (.cons (.lst (JX (kf _ _ h1 e1)) (PlA.dat (JY pr λ v q h=>h.keep kt))) (.cons (.lst (JX (kf _ _ h2 e2)) (jR _)) (.cons (.tup (JW (kt _ _ e3)) (.cons (.int _) (.cons (.int _) (.cons (.int _) (.cons (.int _) .nil))))) .nil)))⟩
theorem wV {pl:List (Int×Int×Int)} {q:Int×Int×Int} (so:pl.Pairwise λ x y=>x.1 < y.1) (h:q∈pl):pl.filter (λ z=>decide (z.1=q.1))=[q]:=by
 induction so with
 | nil=>cases h
 | @cons z l h1 h2 ih =>
  rw [List.filter_cons];rcases List.mem_cons.mp h with e | e
  ·rw [if_pos (by simp [e])];have:l.filter (λ z=>decide (z.1=q.1))=[]:=List.filter_eq_nil_iff.mpr λ y hy=>by have:=h1 y hy;rw [e]; simp; lia
   rw [this,e]
  ·have:=h1 q e;rw [if_neg (by simp; lia),ih e]
def Dc (H':Hp) (le:Int) (g g':Stn) (cn:List Int) (r:V):Deed->Prop
 | .put .. => True
 | .cut q t=>∃ (l:Addr) (rs:List Rst),r=.ref l/\g'=jg le g q rs cn/\H' l=↥((aT g.nu (aJ le rs)).map λ z=>V.int z.1)
def cnD (b:Int) (ks:List Kd):Deed->List Int
 | .put .. => []
 | .cut q t=>bP (pcs b t q.2.1 q.2.2) ks.length
section
variable {P:G8} {w:JT} {K:C8} {mg:Str->Option JU} {base:Heap}
inductive spAsked (CS C:Addr) (vs:List V) (H:Hp) (Q:VK) (E_:XK):Prop
 | mk (s sh pa:Addr) (b le:Int) (ks:List Kd) (g:Stn) (gs:List Stn) (c:Nat) (e_1:vs=[.ref s]) (e_2:SI CS C H s sh b ks le g gs pa c) (e_3:∀ (v:V) (H':Hp),AskA ks H H' v g->Same H H'->Q v H'):spAsked CS C vs H Q E_
inductive spDeed (CS C:Addr) (vs:List V) (H:Hp) (Q:VK) (E_:XK):Prop
 | mk (p t kl s sh pa:Addr) (b le u:Int) (ks:List Kd) (g:Stn) (gs:List Stn) (c:Nat) (e_1:vs=[.ref p,.ref t,.int u,.ref s]) (e_2:PotC H p) (e_3:LS H t b ks kl) (e_4:kl≠p) (e_5:1<=u) (e_6:u < 2 * 10 ^ 56) (e_7:SI CS C H s sh b ks le g gs pa c) (e_8:∀ (v:V) (d:Deed) (H':Hp),DdV H' v d->OkD b ks g d->PotC H' p->But p H H'->Q v H'):spDeed CS C vs H Q E_
inductive spDone (CS C:Addr) (vs:List V) (H:Hp) (Q:VK) (E_:XK):Prop
 | mk (s sh pa:Addr) (b le:Int) (ks:List Kd) (g:Stn) (gs:List Stn) (c:Nat) (v:V) (d:Deed) (e_1:vs=[.ref s,v]) (e_2:SI CS C H s sh b ks le g gs pa c) (e_3:DdV H v d) (e_4:OkD b ks g d) (e_5:∀ (g':Stn) (r:V) (H':Hp),Stp b le ks g d g'->StoreAt CS C H' s sh b ks le g' (gs ++ [g]) pa->FrS s pa H H'->Dc H' le g g' (cnD b ks d) r d->Q r H'):spDone CS C vs H Q E_
inductive spLoses (CS C:Addr) (vs:List V) (H:Hp) (Q:VK) (E_:XK):Prop
 | mk (s sh pa:Addr) (b le:Int) (ks:List Kd) (g:Stn) (gs:List Stn) (c:Nat) (v:V) (d:Deed) (e_1:vs=[.ref sh,.ref s,v]) (e_2:SI CS C H s sh b ks le g gs pa c) (e_3:DdV H v d) (e_4:OkD b ks g d) (e_5:∀ (g':Stn) (n:Int) (H':Hp),Stp b le ks g d g'->StoreAt CS C H' s sh b ks le g' (gs ++ [g]) pa->FrS s pa H H'->rsC ks g'=rsC ks g + n->Q (.int n) H'):spLoses CS C vs H Q E_
inductive spBal (CS C:Addr) (vs:List V) (H:Hp) (Q:VK) (E_:XK):Prop
 | mk (s sh pa:Addr) (b le:Int) (ks:List Kd) (g:Stn) (gs:List Stn) (c:Nat) (e_1:vs=[.ref s,.int (rsC ks g)]) (e_2:SI CS C H s sh b ks le g gs pa c) (e_3:∀ (H':Hp),Same H H'->Q (.bl true) H'):spBal CS C vs H Q E_
theorem scasked:FnScope ["_law_store"] ["_law_store"] (defScope jf):=⟨Y,Y,Y,∅,Y,∅,∅⟩
theorem rO {f C CS:Addr} {fd:I9} (F:Fun K "_law_asked" "_law_asked" jf f fd) (TS:StoreTxt K CS) (MPl:Mn P w K mg base CS "plates" ["self"] 1 (spPlates CS C)) (MMd:Mn P w K mg base CS "made" ["self"] 1 (spMade CS C)) (MCe:Mn P w K mg base CS "cells" ["self"] 2 (spCells CS C)):FnOk P w K mg base CX0 3 f fd ["_law_store"] (spAsked CS C):=by
 refine F.ok scasked (λ vs H Q E h=>?_) (λ cdv A outer s H vs Q E hr h=>?_)
 ·obtain ⟨s,sh,pa,b,le,ks,g,gs,c,rfl,_⟩:=h
  rfl
 obtain ⟨s,sh,pa,b,le,ks,g,gs,c,rfl,x,q⟩:=h;have nd:=scasked.nd;refine ⟨_,((@aO _ _ _ _ ((bQ (pv 0) TS.cl MPl (hr.mono ∅))^^^((bQ (pv 0) TS.cl MMd (hr.mono ∅))^^^((bQ (pv 0) TS.cl MCe (hr.mono ∅))^^^ae))))⁻¹),?_⟩;obtain ⟨x,gi,gl,c1,gk,k8,b0⟩:=x;obtain ⟨dx,sg,ps,hs,_⟩:=x.look;refine ⟨_,Y,s,dx,_,Y,hs,bN _ _ _ _ ∅ ∅ ∅ ∅,s,sh,pa,b,le,ks,g,gs,Y,x,λ l1 rs H1 hl1 k1 pr1 s1=>?_⟩;have x1:=x.same s1;obtain ⟨dx1,sg1,ps1,hs1,_⟩:=x1.look;refine ⟨_,Y,s,dx1,_,Y,hs1,bN _ _ _ _ ∅ ∅ ∅ ∅,s,sh,pa,b,le,ks,g,gs,Y,x1,λ l2 H2 hl2 k2 s2=>?_⟩;have x2:=x1.same s2;obtain ⟨dx2,sg2,ps2,hs2,_⟩:=x2.look;refine ⟨_,Y,s,dx2,_,Y,hs2,bN _ _ _ _ ∅ ∅ ∅ ∅,s,sh,pa,b,le,ks,g,gs,Y,x2,k8,(λ k hk=>(gk k hk).1),gi.plo c1,gi.mdo c1,λ t H3 k3 s3=>⟨zS3,λ l hl=>?_⟩⟩;obtain ⟨H4,e4,k4,s4⟩:∃H',upd H3 l (.lst [.ref l1,.ref l2,.ref t])=H'/\H' l=↥[.ref l1,.ref l2,.ref t]/\Same H3 H':=⟨_,Y,af,JV hl⟩
 rw [show upd H3 l _=H4 from e4]; clear e4;have s24:=s3.trans s4;have s14:=s2.trans s24;exact q _ H4 (.mk ((s1.trans (s2.trans s3)).free hl) hl1 (s1.free hl2) k4 (s14 _ _ k1) (JY pr1 λ v q h=>h.keep λ _ _ e=>s14 _ _ e) (s24 _ _ k2) (s4 _ _ k3)) (s1.trans s14)
theorem scdeed:FnScope ["_law_pot_here","_law_shop_here","_law_unit_here","_law_store","_law_plates","_law_number","_law_wide","_law_high"] ["_law_pot_here","_law_shop_here","_law_unit_here","_law_store"] (defScope nI):=⟨Y,Y,Y,∅,Y,∅,∅⟩
theorem uy {f C CS:Addr} {fd:I9} (F:Fun K "_law_deed" "_law_deed" nI f fd) (B:Blt mg) (TS:StoreTxt K CS) (MPl:Mn P w K mg base CS "plates" ["self"] 1 (spPlates CS C)) (DD:Dn P w K mg base "_law_take" ["_law_pot_here","_law_many"] 1 spTake) (DSi:Dn P w K mg base "_law_side" ["_law_pot_here","_law_unit_here","_law_most"] 2 spSideC) (DT:Dn P w K mg base "_law_tree" ["_law_pot_here","_law_shop_here","_law_wide","_law_high","_law_deep","_law_room"] 9 (spTreeC 6)):FnOk P w K mg base CX0 10 f fd ["_law_pot_here","_law_shop_here","_law_unit_here","_law_store"] (spDeed CS C):=by
 refine F.ok scdeed (λ vs H Q E h=>?_) (λ cdv A outer s H vs Q E hr h=>?_)
 ·obtain ⟨p,t,kl,s,sa,pa,b,le,u,ks,g,gs,c,rfl,_⟩:=h
  rfl
 obtain ⟨p,t,kl,s,sa,pa,b,le,u,ks,g,gs,c,rfl,pt,sh,nk,u0,u9,x,q⟩:=h;have nd:=scdeed.nd;have hu:=hr.units;refine ⟨_,((4∣(bQ (pv 3) TS.cl MPl (hr.mono ∅)))<<<(((PW.pt (cF ((pv 4)<*>(kQ hu)<*>(@aO _ _ _ _ ae)) (cD ((DD∩((pv 0)^^^(ah^^^ae)))<*>bL<*>ah))))<|>((@aE _ _ _ _ _ (cf^^^((DSi∩((pv 0)^^^((pv 2)^^^(ah^^^ae))))^^^((DSi∩((pv 0)^^^((pv 2)^^^(ah^^^ae))))^^^ae))))⁻¹)<|>aF)<<<((@bg _ _ _ _ _ _ ((pv 4)&&&ix_list&&&(DD∩((pv 0)^^^((@aD _ _ _ _ _ _ _ _ _ aV Y B.len PySem.boot_len ((pv 4)^^^ae) ∅ ∅ Y Y)^^^ae)))) (aP Y (5•(6•(7•aI)))) Y Y Y)<<<((@aE _ _ _ _ _ (cf^^^((pv 5)^^^((DT∪((pv 0)^^^((pv 1)^^^((pv 6)^^^((pv 7)^^^(ah^^^((@aO _ _ _ _ (ah^^^ae))^^^ae)))))))^^^ae))))⁻¹)))),?_⟩;obtain ⟨x,gi,gl,c1,gk,k8,b0⟩:=x;have e58:(10:Int) ^ 58 < 9 * 10 ^ 59:=∅
 have e60:(10000:Int)<=10 ^ 60:=∅
 have sz:(20000:Nat) < sizeLine:=∅
 obtain ⟨dx,sg,ps,hs,_⟩:=x.look;refine aW (λ σ' H'=>∃l1 rs,σ'=[↑p,↑t,⇑u,↑s,↑l1,none,none,none]/\H l1=none/\H' l1=↥rs/\Paired (PlA H') rs g.pl/\Same H H') (λ R hR=>?_) ?_
 ·exact ⟨_,Y,s,dx,_,Y,hs,bN _ _ _ _ ∅ ∅ ∅ ∅,s,sa,pa,b,le,ks,g,gs,Y,x,λ l1 rs H1 hl1 k1 pr1 s1=>hR _ _ ⟨l1,rs,Y,hl1,k1,pr1,s1⟩⟩
 rintro _ H1 ⟨l1,rs,rfl,hl1,k1,pr1,s1⟩;have rl:=E5 pr1;have gn:=gi.ln;have pt1:=pt.same s1;have nlp:l1≠p:=Ne.symm (pt.ne hl1);have b01:But p H H1:=λ c o _ e=>s1 _ _ e;refine aW (λ σ' H'=>σ'=[↑p,↑t,⇑u,↑s,↑l1,none,none,none]/\rs≠[]/\H' l1=↥rs/\Paired (PlA H') rs g.pl/\LS H' t b ks kl/\PotC H' p/\But p H H') (λ R hR=>?_) ?_
 ·refine ⟨_,Y,∅,λ e he=>?_⟩;obtain ⟨H2,e2,k2,s2⟩:∃H',upd H1 e (.lst [])=H'/\H' e=↥[]/\Same H1 H':=⟨_,Y,af,JV he⟩
  rw [show upd H1 e _=H2 from e2]; clear e2;have pt2:=pt1.same s2;have b02:But p H H2:=λ c o n e=>s2 _ _ (b01 _ _ n e);have put_end:∀ {Hx:Hp} {w1 h1:Int},But p H Hx->PotC Hx p->∀ta,Hx ta=none->1<=w1->w1 < 10 ^ 58->1<=h1->h1 < 10 ^ 58->Q (.ref ta) (upd Hx ta (.tup [.str "put",.int w1,.int h1])):=λ {Hx w1 h1} bx px ta hta w0 w58 h0 h58=>by
   obtain ⟨H9, e9, k9, s9⟩:∃H', upd Hx ta (.tup [.str "put", .int w1, .int h1])=H'/\H' ta=some (.tup [.str "put", .int w1, .int h1])/\Same Hx H':=⟨_, Y, af, JV hta⟩
   rw [show upd Hx ta _=H9 from e9]; clear e9;exact q _ (.put w1 h1) H9 ⟨ta,rfl,k9⟩ ⟨w0,w58,h0,h58⟩ (px.same s9) (λ c o n e=>s9 _ _ (bx _ _ n e))
  obtain ⟨l1',l2'⟩:=nU g.pl;obtain ⟨sh1,sh2',sh3⟩:=rf l1' l2';refine ⟨.list (g.pl.map plD),.list [],.lst (JX (s2 _ _ k1)) (PlA.dat (JY pr1 λ v q h=>h.keep λ a xs e=>s2 _ _ e)),.lst (JX k2) .nil,sh1,∅,_,Y,?_⟩
  by_cases hz0:g.pl=[]
  ·rw [sh2' (by rw [hz0]; rfl)];exact aZ (aZ (⟨_,Y,_,Y,p,u,24,Y,pt2,u0,u9,∅,∅,λ w1 Ha w0 w58 pa_ ba=>⟨_,Y,_,Y,p,u,24,Y,pa_,u0,u9,∅,∅,λ h1 Hb h0 h58 pb bb=>⟨zS3,λ ta hta=>put_end (b02.trans (ba.trans bb)) pb ta hta w0 w58 h0 h58⟩⟩⟩))
  rw [sh3 (λ z=>hz0 (List.map_eq_nil_iff.mp z))];refine aQ ⟨_,rfl,p,3,rfl,pt2,∅,∅,λ z H3 z0 z1 pt3 b3=>⟨rfl,_,rfl,?_⟩⟩;refine cP (λ cc=>⟨_,Y,_,Y,p,u,24,Y,pt3,u0,u9,∅,∅,λ w1 Ha w0 w58 pa_ ba=>⟨_,Y,_,Y,p,u,24,Y,pa_,u0,u9,∅,∅,λ h1 Hb h0 h58 pb bb=>⟨zS3,λ ta hta=>put_end ((b02.trans b3).trans (ba.trans bb)) pb ta hta w0 w58 h0 h58⟩⟩⟩) (λ cc=>?_);exact hR _ _ ⟨rfl,λ z=>hz0 (List.eq_nil_of_length_eq_zero (by rw [z] at rl; exact rl.symm)),b3 _ _ nlp (s2 _ _ k1),JY pr1 (λ v q h=>h.keep λ a xs e=>lr b3 pt2 (s2 _ _ e)),(sh.same (s1.trans s2)).but nk pt2 b3,pt3,b02.trans b3⟩
 rintro _ H2 ⟨rfl,rne,k2,pr2,sh2,pt2,b02⟩;have u1:1<=rs.length:=Nat.pos_of_ne_zero λ z=>rne (List.eq_nil_of_length_eq_zero z);refine aW (λ σ' H'=>∃ (q0:Int×Int×Int),σ'=[↑p,↑t,⇑u,↑s,↑l1,⇑q0.1,⇑q0.2.1,⇑q0.2.2]/\q0∈g.pl/\LS H' t b ks kl/\PotC H' p/\But p H H') (λ R hR=>?_) ?_
 ·refine ⟨_,Y,_,Y,_,Y,l1,_,Y,.inl (JX k2),p,_,Y,pt2,⋯,⋯,λ r H4 r0 r1 pt4 b4=>?_⟩;obtain ⟨v,hv⟩:∃v,rs[r.toNat]? = some v:=⟨_,G2 (show r.toNat < rs.length by lia)⟩
  obtain ⟨q0,hq0,aq,rfl,haq⟩:=JZ pr2 hv;exact ⟨l1,_,_,_,Y,Y,JX (b4 _ _ nlp k2),aK r0 hv,aq,_,Y,JW (lr b4 pt2 haq),Y,_,_,Y,_,_,Y,_,_,Y,Y,hR _ _ ⟨q0,Y,B8 hq0,sh2.but nk pt2 b4,pt4,b02.trans b4⟩⟩
 rintro _ H3 ⟨q0,rfl,hq0,sh3,pt3,b03⟩;obtain ⟨_,_,q1,q2,q3,q4⟩:=gi.pl q0 hq0;refine ⟨_,Y,_,Y,_,Y,_,Y,_,Y,zS1,λ rm hrm=>?_⟩;obtain ⟨H4,e4,k4,s4⟩:∃H',upd H3 rm (.lst [.int 6])=H'/\H' rm=↥[.int 6]/\Same H3 H':=⟨_,Y,af,JV hrm⟩
 rw [show upd H3 rm _=H4 from e4]; clear e4;have pt4:=pt3.same s4;have nrp:rm≠p:=Ne.symm (pt3.ne hrm);obtain ⟨kr,lst1,lst2,lst3⟩:=id sh3;have nkr:kl≠rm:=ar lst2 hrm;obtain ⟨_,hp4⟩:=fi pt4;refine ⟨p,t,kl,rm,b,q0.2.1,q0.2.2,6,ks,5,Y,pt4,sh3.same s4,nk,nkr,nrp,k8,(λ k hk=>(gk k hk).1),b0,⋯,⋯,k4,∅,∅,λ v T r' H5 tv ok r0 ln dp hrm5 pt5 b5=>⟨zS3,λ ta hta=>?_⟩⟩;obtain ⟨H6, e6, k6, s6⟩:∃H', upd H5 ta (.tup [.str "cut", .int q0.1, v])=H'/\H' ta=some (.tup [.str "cut", .int q0.1, v])/\Same H5 H':=⟨_, Y, af, JV hta⟩
 rw [show upd H5 ta _=H6 from e6]; clear e6;have hfr:H rm=none:=by
  cases e:H rm with
  | none=>rfl
  | some o=>rw [b03 _ _ nrp e] at hrm; cases hrm
 exact q _ (.cut q0 T) H6 ⟨ta,v,rfl,k6,TrV.keep (λ _ _ e=>s6 _ _ e) T tv⟩ ⟨hq0,ok,⋯⟩ (pt5.same s6) (λ c o n e=>s6 _ _ (b5 _ _ n (λ z=>by rw [z,hfr] at e; cases e) (s4 _ _ (b03 _ _ n e))))
theorem StoreAt.shop {CS C s sh pa:Addr} {H:Hp} {b le:Int} {ks:List Kd} {g:Stn} {gs:List Stn} (x:StoreAt CS C H s sh b ks le g gs pa):ShopAt C H sh b ks:=by
 cases x with
 | mk h sp st hp pr=>exact sp
theorem scdone:FnScope ["_law_store","_law_deed_here"] ["_law_store","_law_deed_here"] (defScope nJ):=⟨Y,Y,Y,∅,Y,∅,∅⟩
theorem uz {f C CS:Addr} {fd:I9} (F:Fun K "_law_done" "_law_done" nJ f fd) (TS:StoreTxt K CS) (MPu:Mn P w K mg base CS "put" ["self","wide","high"] 3 (spPut CS C)) (MCu:Mn P w K mg base CS "cut" ["self","number","tree"] 10 (spCutS CS C)):FnOk P w K mg base CX0 11 f fd ["_law_store","_law_deed_here"] (spDone CS C):=by
 refine F.ok scdone (λ vs H Q E h=>?_) (λ cdv A outer s H vs Q E hr h=>?_)
 ·obtain ⟨s,sh,pa,b,le,ks,g,gs,c,v,d,rfl,_⟩:=h
  rfl
 obtain ⟨s,sh,pa,b,le,ks,g,gs,c,v,d,rfl,x,dv,od,q⟩:=h;have nd:=scdone.nd;refine ⟨_,(((((pv 1)&&&ix_tup&&&ah)<*>bL<*>cf)<|>((eD (pv 0) TS.cl MPu (hr.mono ∅) (((pv 1)&&&ix_tup&&&ah)^^^(((pv 1)&&&ix_tup&&&ah)^^^ae)))⁻¹)<|>aF)<<<((eD (pv 0) TS.cl MCu (hr.mono ∅) (((pv 1)&&&ix_tup&&&ah)^^^(((pv 1)&&&ix_tup&&&ah)^^^ae)))⁻¹)),?_⟩;obtain ⟨x,gi,gl,c1,gk,k8,b0⟩:=x;obtain ⟨dx,sg,ps,hs,_⟩:=x.look;have gn:=gi.ln;have e60:(10:Int) ^ 58 < 10 ^ 60:=∅
 cases d with
 | put w1 h1 =>
  obtain ⟨a,rfl,ha⟩:=dv;obtain ⟨w0,w58,h0,h58⟩:=od;refine aW (λ _ _=>False) (λ R hR=>?_) (λ _ _ z=>z.elim);refine ⟨_,Y,a,_,0,_,Y,Y,JW ha,Y,Y,_,Y,?_⟩;rw [show decide (V.str "put" = V.str "put")=true from decide_eq_true rfl];refine aZ ?_;exact ⟨_,Y,s,dx,_,Y,hs,bN _ _ _ _ ∅ ∅ ∅ ∅,_,Y,a,_,1,_,Y,Y,JW ha,Y,_,Y,a,_,2,_,Y,Y,JW ha,Y,s,sh,pa,b,le,w1,h1,ks,g,gs,Y,x,⋯,⋯,w0,⋯,h0,⋯,λ H1 x1 f1=>q _ _ H1 rfl x1 f1 trivial⟩
 | cut q0 t =>
  obtain ⟨a,u,rfl,ha,tv⟩:=dv;obtain ⟨hq,ok,l7⟩:=od;obtain ⟨n0,n1,q1,q2,q3,q4⟩:=gi.pl q0 hq;refine aW (λ σ' H'=>σ'=[↑s,↑a]/\H=H') (λ R hR=>?_) ?_
  ·refine ⟨_,Y,a,_,0,_,Y,Y,JW ha,Y,Y,_,Y,?_⟩;rw [show decide (V.str "cut" = V.str "put")=false from by decide +kernel];exact aQ (hR _ _ ⟨rfl,rfl⟩)
  rintro _ _ ⟨rfl,rfl⟩;obtain ⟨i,hi,ei⟩:=List.getElem_of_mem hq;have hi':g.pl[i]? = some q0:=by rw [List.getElem?_eq_getElem hi,ei]
  have th:TrH C a sh b q0.2.1 q0.2.2 ks u (toD t) t H:=rG x.shop q1 q3 tv ok ⋯;exact ⟨_,Y,s,dx,_,Y,hs,bN _ _ _ _ ∅ ∅ ∅ ∅,_,Y,a,_,1,_,Y,Y,JW ha,Y,_,Y,a,_,2,_,Y,Y,JW ha,Y,a,s,sh,pa,b,le,ks,g,gs,u,toD t,t,i,q0,Y,x,⋯,⋯,n0,hi',(λ j q' hj hq'=>by
   have hjl:j < g.pl.length:=(A9.mp hq').1;have:=List.pairwise_iff_getElem.mp gi.so j i hjl hi hj;rw [(List.getElem?_eq_some_iff.mp hq').2,ei] at this;lia),th,k8,gi.ml,λ rs l H1 pe so x1 f1 _ k1=>q _ _ H1 ⟨rs,pe,so,rfl⟩ x1 f1 ⟨l,rs,rfl,rfl,k1⟩⟩
theorem scbal:FnScope ["_law_store","_law_lost","_law_put","_law_there","_law_made","_law_rest"] ["_law_store","_law_lost"] (defScope dY):=⟨Y,Y,Y,∅,Y,∅,∅⟩
theorem wW {f C CS:Addr} {fd:I9} (F:Fun K "_law_balanced" "_law_balanced" dY f fd) (TS:StoreTxt K CS) (MCe:Mn P w K mg base CS "cells" ["self"] 2 (spCells CS C)):FnOk P w K mg base CX0 3 f fd ["_law_store","_law_lost"] (spBal CS C):=by
 refine F.ok scbal (λ vs H Q E h=>?_) (λ cdv A outer s H vs Q E hr h=>?_)
 ·obtain ⟨s,sh,pa,b,le,ks,g,gs,c,rfl,_⟩:=h
  rfl
 obtain ⟨s,sh,pa,b,le,ks,g,gs,c,rfl,x,q⟩:=h;have nd:=scbal.nd;refine ⟨_,((@bg _ _ _ _ _ _ (bQ (pv 0) TS.cl MCe (hr.mono ∅)) (aP Y (2•(3•(4•(5•aI))))) Y Y Y)<<<((cO (@bI _ _ _ _ _ _ _ _ bL (pv 2) (((pv 3)|||aN|||(pv 4))|||aN|||(pv 5)) (aG _)) (cW (@bI _ _ _ _ _ _ _ _ bL (pv 5) (pv 1) (aG _))))⁻¹)),?_⟩;obtain ⟨x,gi,gl,c1,gk,k8,b0⟩:=x;obtain ⟨dx,sg,ps,hs,_⟩:=x.look;refine aW (λ σ' H'=>σ'=[↑s,⇑(rsC ks g),⇑g.pu,⇑(thr g),⇑(mdc ks g),⇑(rsC ks g)]/\Same H H') (λ R hR=>?_) ?_
 ·exact ⟨_,Y,s,dx,_,Y,hs,bN _ _ _ _ ∅ ∅ ∅ ∅,s,sh,pa,b,le,ks,g,gs,Y,x,k8,(λ k hk=>(gk k hk).1),gi.plo c1,gi.mdo c1,λ t H1 k1 s1=>⟨t,_,Y,JW k1,Y,_,_,Y,_,_,Y,_,_,Y,_,_,Y,Y,hR _ _ ⟨Y,s1⟩⟩⟩
 rintro _ H1 ⟨rfl,s1⟩;refine ⟨_,Y,_,Y,_,Y,_,_,Y,Y,_,Y,_,_,Y,Y,Y,_,Y,?_⟩;rw [show decide (V.int g.pu=V.int (thr g + mdc ks g + rsC ks g))=true from decide_eq_true (by congr 1; unfold rsC; lia)];refine aZ ⟨_,rfl,_,rfl,rfl,?_⟩;rw [decide_eq_true rfl];exact q _ s1
theorem uA {le:Int} {g:Stn} {q0:Int×Int×Int} {rs:List Rst} {ks:List Kd} {c:Nat} (gi:GI ks c g):((g.pl.filter λ q=>decide (q≠q0)) ++ aT g.nu (aJ le rs)).filter (λ z=>inV (.int z.1) ((aT g.nu (aJ le rs)).map λ z=>V.int z.1))=aT g.nu (aJ le rs):=by
 have e:∀z:Int×Int×Int,inV (.int z.1) ((aT g.nu (aJ le rs)).map λ z=>V.int z.1)=decide (∃y∈aT g.nu (aJ le rs),y.1=z.1):=λ z=>by
  unfold inV;rw [Bool.eq_iff_iff,List.any_eq_true,decide_eq_true_eq];constructor
  ·rintro ⟨y,hy,ey⟩;obtain ⟨w,hw,rfl⟩:=List.mem_map.mp hy;exact ⟨w,hw,by simpa [eqV] using ey⟩
  ·rintro ⟨y,hy,ey⟩;exact ⟨_,List.mem_map_of_mem hy,by simp [eqV,ey]⟩
 rw [List.filter_append,List.filter_eq_nil_iff.mpr,List.nil_append,List.filter_eq_self.mpr]
 ·exact λ z hz=>by rw [e]; exact B3 ⟨z,hz,rfl⟩
 ·intro z hz;rw [e,decide_eq_true_eq];rintro ⟨y,hy,ey⟩;have:=(gi.pl z (List.mem_filter.mp hz).1).2.1;have:=(cC hy).1;lia
theorem pO (l:List (Int×Int×Int)):(l.map λ z=>V.int z.1).all eR=true:=List.all_eq_true.mpr λ y hy=>by
 obtain ⟨z,_,rfl⟩:=List.mem_map.mp hy
 rfl
theorem scloses:FnScope ["_law_made","_law_store","_law_deed_here","_law_sides_here","_law_pieces","_law_rests","_law_margins","_law_blades","_law_came","_law_kept"] ["_law_made","_law_store","_law_deed_here"] (defScope fK):=⟨Y,Y,Y,∅,Y,∅,∅⟩
theorem rP {f C CS:Addr} {fd:I9} (F:Fun K "_law_loses" "_law_loses" fK f fd) (B:Blt mg) (TS:StoreTxt K CS) (MPl:Mn P w K mg base CS "plates" ["self"] 1 (spPlates CS C)) (DA:Dn P w K mg base "areas_of" ["shop","wide","high","tree"] 8 (spAreas C)) (DO:Dn P w K mg base "_law_done" ["_law_store","_law_deed_here"] 11 (spDone CS C)):FnOk P w K mg base CX0 12 f fd ["_law_made","_law_store","_law_deed_here"] (spLoses CS C):=by
 refine F.ok scloses (λ vs H Q E h=>?_) (λ cdv A outer s H vs Q E hr h=>?_)
 ·obtain ⟨s,sh,pa,b,le,ks,g,gs,c,v,d,rfl,_⟩:=h
  rfl
 obtain ⟨s,sh,pa,b,le,ks,g,gs,c,v,d,rfl,x,dv,od,q⟩:=h;have nd:=scloses.nd;refine ⟨_,(((((pv 2)&&&ix_tup&&&ah)<*>bL<*>cf)<|>((@bc _ _ _ _ (DO∪((pv 1)^^^((pv 2)^^^ae))) Y)<<<(ah⁻¹))<|>aF)<<<((3∣((bX (own:=["_law_plate"]) (cs:=["_law_deed_here"]) (cap:=[2]) Y (bv (bQ (pv 1) TS.cl MPl (hr.mono ∅))) (aS (sc:=defScope fK) (N:=["_law_made","_law_store","_law_deed_here","_law_sides_here","_law_pieces","_law_rests","_law_margins","_law_blades","_law_came","_law_kept"]) Y Y ∅) (λ _ _ _ _ _=>ao (i:=0) (by show List.Nodup (["_law_plate","_law_deed_here"]:List Str) ; decide +kernel) Y (Or.inl Y) (Or.inr Y)) (λ _ _ _ _ _=>(dG ((ax (r:=rIxT K) ix_tup (pv 0) ah (λ _ _=>Y))<*>bL<*>(ax (r:=rIxT K) ix_tup (pv 1) ah (λ _ _=>Y))))) (λ _ _ _ _ _=>(ju (r:=CA K) qo (pv 0) (mP ah) mO)))&&&ix_list&&&ah))<<<((@bg _ _ _ _ _ _ (DA∩((pv 0)^^^(((pv 3)&&&ix_tup&&&ah)^^^(((pv 3)&&&ix_tup&&&ah)^^^(((pv 2)&&&ix_tup&&&ah)^^^ae))))) (aP Y (4•(5•(6•(7•aI))))) Y Y Y)<<<((@aB _ _ 8 _ _ _ _ nd Y (Or.inr Y) (DO∪((pv 1)^^^((pv 2)^^^ae))) Y (Or.inl Y))<<<((9∣(@aD _ _ _ _ _ _ _ _ _ (fH Y) Y B.sum PyProof.Rows.boot_sum ((bX (own:=["_law_plate"]) (cs:=["_law_came"]) (cap:=[8]) Y (bv (bQ (pv 1) TS.cl MPl (hr.mono ∅))) (aS (sc:=defScope fK) (N:=["_law_made","_law_store","_law_deed_here","_law_sides_here","_law_pieces","_law_rests","_law_margins","_law_blades","_law_came","_law_kept"]) Y Y ∅) (λ _ _ _ _ _=>ao (i:=0) (by show List.Nodup (["_law_plate","_law_came"]:List Str) ; decide +kernel) Y (Or.inl Y) (Or.inr Y)) (λ _ _ _ _ _=>(dG (@aH _ _ _ _ _ _ _ _ (wU K Y) (ax (r:=rIxT K) ix_tup (pv 0) ah (λ _ _=>Y)) (pv 1) Y))) (λ _ _ _ _ _=>((ax (r:=rIxT K) ix_tup (pv 0) ah (λ _ _=>Y))|||ck|||(ax (r:=rIxT K) ix_tup (pv 0) ah (λ _ _=>Y)))))^^^ae) ∅ ∅ Y Y))<<<(((((pv 6)|||aN|||(pv 7))|||aN|||(pv 5))|||bd|||(pv 9))⁻¹)))))),?_⟩;obtain ⟨x,gi,gl,c1,gk,k8,b0⟩:=x;have x':SI CS C H s sh b ks le g gs pa c:=⟨x,gi,gl,c1,gk,k8,b0⟩
 obtain ⟨dx,sg,ps,hs,_⟩:=x.look;have gn:=gi.ln;have e60:(10:Int) ^ 58<=10 ^ 60:=∅
 have sz:(20000:Nat) < sizeLine:=∅
 cases d with
 | put w1 h1 =>
  obtain ⟨a,rfl,ha⟩:=id dv;refine aW (λ _ _=>False) (λ R hR=>?_) (λ _ _ z=>z.elim);refine ⟨_,Y,a,_,0,_,Y,Y,JW ha,Y,Y,_,Y,?_⟩;rw [show decide (V.str "put" = V.str "put")=true from decide_eq_true rfl];refine aZ ?_;exact ⟨_,Y,_,Y,s,sh,pa,b,le,ks,g,gs,c,_,_,Y,x',dv,od,λ g' r H1 st x1 f1 _=>q _ 0 H1 st x1 f1 (by have st:g'=_:=st; rw [st,rL,Int.add_zero])⟩
 | cut q0 t =>
  obtain ⟨a,u,rfl,ha,tv⟩:=id dv;obtain ⟨hq,ok,l7⟩:=id od;obtain ⟨n0,n1,q1,q2,q3,q4⟩:=gi.pl q0 hq;refine aW (λ σ' H'=>σ'=[↑sh,↑s,↑a,none,none,none,none,none,none,none]/\H=H') (λ R hR=>?_) ?_
  ·refine ⟨_,Y,a,_,0,_,Y,Y,JW ha,Y,Y,_,Y,?_⟩;rw [show decide (V.str "cut" = V.str "put")=false from by decide +kernel];exact aQ (hR _ _ ⟨rfl,rfl⟩)
  rintro _ _ ⟨rfl,rfl⟩;refine aW (λ σ' H'=>∃sd,σ'=[↑sh,↑s,↑a,↑sd,none,none,none,none,none,none]/\H' sd= ~~~[.int q0.2.1,.int q0.2.2]/\Same H H') (λ R hR=>?_) ?_
  ·refine ⟨_,Y,s,dx,_,Y,hs,bN _ _ _ _ ∅ ∅ ∅ ∅,s,sh,pa,b,le,ks,g,gs,Y,x,λ l1 rs H1 hl1 k1 pr1 s1=>?_⟩;have rl:=E5 pr1;refine ⟨l1,Y,⟨_,JX k1⟩,(bn (K:=K) (.inl k1) (λ i ys Hx=>Same H1 Hx/\Paired (WhA Hx) ys (((g.pl.take i).filter λ z=>decide (z.1=q0.1)).map (·.2))) (λ i ys Hx _ ⟨sx,_⟩ o e=>sx _ _ e) ⟨Same.refl _,.nil⟩ ?_ ?_).1 k1⟩
   ·rintro j y ys Hx hj ⟨sx,py⟩;have hjn:j < rs.length:=(A9.mp hj).1;obtain ⟨z,hz,az,rfl,haz⟩:=JZ pr1 hj;have tk:((g.pl.take (j + 1)).filter λ z=>decide (z.1=q0.1))=((g.pl.take j).filter λ z=>decide (z.1=q0.1)) ++ (if decide (z.1=q0.1)=true then [z] else []):=by rw [List.take_add_one,hz,List.filter_append,Option.toList_some,List.filter_cons,List.filter_nil]
    have yl:=E5 py;have fl:=List.length_filter_le (λ z=>decide (z.1=q0.1)) (g.pl.take j);refine ⟨by rw [yl,List.length_map]; rw [List.length_take] at fl; lia,leS.set rfl,?_⟩;refine ⟨_,Y,az,_,0,_,Y,Y,JW (sx _ _ haz),Y,_,Y,a,_,1,_,Y,Y,JW (sx _ _ (s1 _ _ ha)),Y,Y,_,Y,?_⟩
    by_cases e:z.1=q0.1
    ·rw [show decide (V.int z.1=V.int q0.1)=true from decide_eq_true (by rw [e])];refine aZ ⟨_,rfl,_,rfl,az,_,rfl,JW (sx _ _ haz),(λ h=>absurd h.1 (by show ¬ (HT.sIx 3 0 (some 1)=0); decide)),λ pp hpp=>Nx.of hjn ?_⟩;rw [show iQ [V.int z.1,V.int z.2.1,V.int z.2.2] (some 1) none=[.int z.2.1,.int z.2.2] from rfl];obtain ⟨Hy,e9,k9,s9⟩:∃H',upd Hx pp (.tup [.int z.2.1,.int z.2.2])=H'/\H' pp= ~~~[.int z.2.1,.int z.2.2]/\Same Hx H':=⟨_,Y,af,JV hpp⟩
     rw [show upd Hx pp _=Hy from e9]; clear e9;refine ⟨sx.trans s9,?_⟩;rw [tk,if_pos (decide_eq_true e),List.map_append];exact Paired.snoc (JY py λ v z h=>h.same s9) ⟨pp,rfl,k9⟩
    ·rw [show decide (V.int z.1=V.int q0.1)=false from decide_eq_false (λ x=>e (V.int.inj x))];refine aQ (Nx.of hjn ⟨sx,?_⟩);rw [tk,if_neg (by simp [e]),List.append_nil];exact py
   ·rintro ys Hx ⟨sx,py⟩;rw [rl,List.take_length,wV gi.so hq] at py;cases py with
    | cons h0 hn =>
     cases hn;obtain ⟨az,rfl,haz⟩:=h0;refine ⟨zS1,λ lc hlc=>?_⟩;obtain ⟨Hy,e9,k9,s9⟩:∃H',upd Hx lc (.lst [.ref az])=H'/\H' lc=↥[.ref az]/\Same Hx H':=⟨_,Y,af,JV hlc⟩
     rw [show upd Hx lc _=Hy from e9]; clear e9;exact ⟨lc,_,0,_,Y,Y,JX k9,Y,hR _ _ ⟨az,Y,s9 _ _ haz,s1.trans (sx.trans s9)⟩⟩
  rintro _ H1 ⟨sd,rfl,hsd,s1⟩;have th:TrH C a sh b q0.2.1 q0.2.2 ks u (toD t) t H:=rG x.shop q1 q3 tv ok ⋯;refine aW (λ σ' H'=>∃A Rr M,σ'=[↑sh,↑s,↑a,↑sd,⇑A,⇑Rr,⇑M,⇑(q0.2.1 * q0.2.2 - A - Rr - M),none,none]/\A=dm (pcA ks) (lvs b t 0 0 q0.2.1 q0.2.2)/\Same H H') (λ R hR=>?_) ?_
  ·exact ⟨_,Y,_,Y,sd,_,0,_,Y,Y,JW hsd,Y,_,Y,sd,_,1,_,Y,Y,JW hsd,Y,_,Y,a,_,2,_,Y,Y,JW (s1 _ _ ha),Y,a,sh,b,q0.2.1,q0.2.2,ks,u,toD t,t,Y,th.same s1,b0,⋯,⋯,(λ k hk=>(gk k hk).1),λ l A R M H2 eA _ _ _ k2 s2=>⟨l,_,Y,JW k2,Y,_,_,Y,_,_,Y,_,_,Y,_,_,Y,Y,hR _ _ ⟨A,R,M,Y,eA,s1.trans s2⟩⟩⟩
  rintro _ H2 ⟨A,Rr,M,rfl,eA,s2⟩;refine aW (λ σ' H'=>∃g' l rs,σ'=[↑sh,↑s,↑a,↑sd,⇑A,⇑Rr,⇑M,⇑(q0.2.1 * q0.2.2 - A - Rr - M),↑l,none]/\g'=jg le g q0 rs (bP (pcs b t q0.2.1 q0.2.2) ks.length)/\Stp b le ks g (.cut q0 t) g'/\H' l=↥((aT g.nu (aJ le rs)).map λ z=>V.int z.1)/\StoreAt CS C H' s sh b ks le g' (gs ++ [g]) pa/\FrS s pa H H') (λ R hR=>?_) ?_
  ·exact ⟨_,Y,_,Y,s,sh,pa,b,le,ks,g,gs,c,_,.cut q0 t,Y,⟨x.same s2,gi,gl,c1,gk,k8,b0⟩,dv.keep (λ _ _ e=>s2 _ _ e),od,λ g' r H3 st x3 f3 ⟨l,rs,er,eg,hl⟩=>er ▸ hR _ _ ⟨g',l,rs,Y,eg,st,hl,x3,(Same.frS s2).trans f3⟩⟩
  rintro _ H3 ⟨g',l,rs,rfl,eg,st,hl,x3,f3⟩;have gi':=gi.step b0 od st;refine aW (λ σ' H'=>σ'=[↑sh,↑s,↑a,↑sd,⇑A,⇑Rr,⇑M,⇑(q0.2.1 * q0.2.2 - A - Rr - M),↑l,some (.int ((aT g.nu (aJ le rs)).map λ z=>z.2.1 * z.2.2).sum)]/\Same H3 H') (λ R hR=>?_) ?_
  ·obtain ⟨dx3,sg3,ps3,hs3,_⟩:=x3.look;refine ⟨_,Y,s,dx3,_,Y,hs3,bN _ _ _ _ ∅ ∅ ∅ ∅,s,sh,pa,b,le,ks,g',gs ++ [g],Y,x3,λ l1 us H4 hl1 k1 pr1 s4=>?_⟩;have rl:=E5 pr1;have gn':=gi'.ln;refine ⟨l1,Y,⟨_,JX k1⟩,(bn (K:=K) (.inl k1) (λ i ys Hx=>Same H4 Hx/\ys=((g'.pl.take i).filter λ z=>inV (.int z.1) ((aT g.nu (aJ le rs)).map λ z=>V.int z.1)).map λ z=>V.int (z.2.1 * z.2.2)) (λ i ys Hx _ ⟨sx,_⟩ o e=>sx _ _ e) ⟨Same.refl _,Y⟩ ?_ ?_).1 k1⟩
   ·rintro j y ys Hx hj ⟨sx,rfl⟩;have hjn:j < us.length:=(A9.mp hj).1;obtain ⟨z,hz,az,rfl,haz⟩:=JZ pr1 hj;have tk:((g'.pl.take (j + 1)).filter λ z=>inV (.int z.1) ((aT g.nu (aJ le rs)).map λ z=>V.int z.1))=((g'.pl.take j).filter λ z=>inV (.int z.1) ((aT g.nu (aJ le rs)).map λ z=>V.int z.1)) ++ (if inV (.int z.1) ((aT g.nu (aJ le rs)).map λ z=>V.int z.1)=true then [z] else []):=by rw [List.take_add_one,hz,List.filter_append,Option.toList_some,List.filter_cons,List.filter_nil]
    have fl:=List.length_filter_le (λ z=>inV (.int z.1) ((aT g.nu (aJ le rs)).map λ z=>V.int z.1)) (g'.pl.take j);refine ⟨by rw [List.length_map]; rw [List.length_take] at fl; lia,leS.set rfl,?_⟩;obtain ⟨_,_,y1,y2,y3,y4⟩:=gi'.pl z (B8 hz);obtain ⟨sq0,sq1⟩:=uw y1 y2 y3 y4;refine ⟨_,Y,az,_,0,_,Y,Y,JW (sx _ _ haz),Y,_,Y,l,_,Y,.inl (JX (sx _ _ (s4 _ _ hl))),Y,pO _,_,Y,?_⟩
    by_cases e:inV (.int z.1) ((aT g.nu (aJ le rs)).map λ z=>V.int z.1)=true
    ·refine vX e ⟨_,rfl,az,_,1,_,rfl,rfl,JW (sx _ _ haz),rfl,_,rfl,az,_,2,_,rfl,rfl,JW (sx _ _ haz),rfl,_,_,rfl,rfl,⟨b60 ⋯ ⋯,b60 ⋯ ⋯⟩,Nx.of hjn ⟨sx,?_⟩⟩;rw [tk,if_pos e,List.map_append]; rfl
    ·refine vY (by simpa using e) (Nx.of hjn ⟨sx,?_⟩);rw [tk,if_neg e,List.append_nil]
   ·rintro ys Hx ⟨sx,rfl⟩;rw [rl,List.take_length,eg];show _/\_;rw [show (jg le g q0 rs (bP (pcs b t q0.2.1 q0.2.2) ks.length)).pl=(g.pl.filter λ q=>decide (q≠q0)) ++ aT g.nu (aJ le rs) from rfl,uA gi];have cl:=bK g.nu (aJ le rs);have kl:=jN le rs;have rle:(aT g.nu (aJ le rs)).length<=g'.pl.length:=by rw [eg];show _<=((g.pl.filter λ q=>decide (q≠q0)) ++ aT g.nu (aJ le rs)).length;rw [List.length_append]; lia
    refine ⟨by rw [List.length_map]; lia,λ lc hlc=>?_⟩;obtain ⟨Hy,e9,k9,s9⟩:∃H',upd Hx lc (.lst ((aT g.nu (aJ le rs)).map λ z=>V.int (z.2.1 * z.2.2)))=H'/\H' lc=↥((aT g.nu (aJ le rs)).map λ z=>V.int (z.2.1 * z.2.2))/\Same Hx H':=⟨_,Y,af,JV hlc⟩
    rw [show upd Hx lc _=Hy from e9]; clear e9;refine ⟨lc,(aT g.nu (aJ le rs)).map λ z=>z.2.1 * z.2.2,Y,JX (by rw [k9,List.map_map]; rfl),hR _ _ ⟨Y,s4.trans (sx.trans s9)⟩⟩
  rintro _ H4 ⟨rfl,s4⟩;refine ⟨_,Y,_,Y,_,_,Y,Y,_,Y,_,_,Y,Y,_,Y,_,_,Y,Y,?_⟩;refine q g' _ H4 st (x3.same s4) (f3.trans (Same.frS s4)) ?_;rw [eg,rN gi hq ok,<- eA];lia
end
theorem wX {i:Int} (h:i.natAbs < 10 ^ 130):ShD 1 131 (.int i):=by
 refine ⟨?_,by simp [PyData.depth],?_⟩
 ·have:i.natAbs.log2 < 1920:=by
   rcases Nat.eq_zero_or_pos i.natAbs with h0 | hp
   ·rw [h0]; decide
   ·refine (Nat.log2_lt (Nat.ne_of_gt hp)).mpr (Nat.lt_trans h ?_)
    decide +kernel
  simp [PyData.showable,this]
 ·show (Str.ofString (toString i)).length<=131;rw [ofString_length];exact int_text_length_le10 ∅ h
theorem wY {i:Int} (h0:-(10 ^ 129)<=i) (h1:i<=10 ^ 129):ShD 1 131 (.int i):=wX (by
 have e1:((10 ^ 130:Nat):Int)=10 * 10 ^ 129:=∅
 have e2:(0:Int) < 10 ^ 129:=∅
 generalize (10:Int) ^ 129=a at *;generalize (10:Nat) ^ 130=c at *;lia)
theorem ShD.le {k n m:Nat} {d:PyData} (h:ShD k n d) (e:n<=m):ShD k m d:=⟨h.1,h.2.1,C9 h.2.2 e⟩
theorem rQ {k n m l:Nat} {ds:List PyData} (h:∀d∈ds,ShD k n d) (hl:ds.length<=l) (e:n * l + 2 * l + 3<=m):ShD (k + 1) m (.tuple ds):=by obtain ⟨e1,e2,e3,e4⟩:=lB h;have:=tupleText_len_le (PyData.shownAll ds);have h3:=Nat.mul_le_mul_left n hl;refine ⟨by simp only [PyData.showable,e1],by simp only [PyData.depth]; lia,by simp only [PyData.shown]; lia⟩
theorem lD {k n m l:Nat} {ds:List PyData} (h:∀d∈ds,ShD k n d) (hl:ds.length<=l) (e:n * l + 2 * l + 3<=m):ShD (k + 1) m (.list ds):=by obtain ⟨e1,e2,e3,e4⟩:=lB h;have:=listText_len_le (PyData.shownAll ds);have h3:=Nat.mul_le_mul_left n hl;refine ⟨by simp only [PyData.showable,e1],by simp only [PyData.depth]; lia,by simp only [PyData.shown]; lia⟩
theorem ShD.up {k k' n:Nat} {d:PyData} (h:ShD k n d) (e:k<=k'):ShD k' n d:=⟨h.1,C9 h.2.1 e,h.2.2⟩
theorem jj {B:Int} (hB:0<=B):∀ {l:List Int} {n:Nat},l.length<=n->(∀x∈l,0<=x/\x<=B)->0<=l.sum/\l.sum<=n * B
 | [],n,_,_=>⟨E7 _,Int.mul_nonneg ⋯ hB⟩
 | x :: l,0,h,_=>absurd h (by simp)
 | x :: l,n + 1,h,hx=>by obtain ⟨a,b⟩:=hx x C0;obtain ⟨c,d⟩:=jj hB (l:=l) (n:=n) (by simpa using h) λ y hy=>hx y (B7 _ hy);rw [List.sum_cons,show ((n + 1:Nat):Int)=(n:Int) + 1 by lia,Int.add_mul];exact ⟨⋯,⋯⟩
theorem GI.bnds {ks:List Kd} {c:Nat} {g:Stn} (gi:GI ks c g) (c1:c<=100) (gk:∀k∈ks,fj k) (k8:ks.length<=8):(0<=g.pu/\g.pu<=10 ^ 119)/\(0<=thr g/\thr g<=10 ^ 119)/\(0<=mdc ks g/\mdc ks g<=10 ^ 120):=by
 have e0:(0:Int)<=10 ^ 116:=∅
 have e1:(10:Int) ^ 119=1000 * 10 ^ 116:=∅
 have e2:(10:Int) ^ 120=10 * (1000 * 10 ^ 116):=∅
 have ln:=gi.ln;obtain ⟨p0,p1⟩:=gi.pu;have t:=jj (B:=10 ^ 116) e0 (l:=g.pl.map λ q=>q.2.1 * q.2.2) (n:=1000) (by rw [List.length_map]; lia) λ x hx=>by obtain ⟨q,hq,rfl⟩:=List.mem_map.mp hx;obtain ⟨_,_,a1,a2,a3,a4⟩:=gi.pl q hq;exact uw a1 a2 a3 a4
 have m:=jj (B:=1000 * 10 ^ 116) ∅ (l:=(g.md.zip ks).map λ z=>z.1 * z.2.w * z.2.h) (n:=8) (by rw [List.length_map,List.length_zip]; lia) λ x hx=>by obtain ⟨z,hz,rfl⟩:=List.mem_map.mp hx;obtain ⟨z1,z2⟩:=List.of_mem_zip hz;obtain ⟨a1,a2⟩:=gi.md _ z1;obtain ⟨gd,w58,h58⟩:=gk _ z2;obtain ⟨b1,b2⟩:=uw gd.w w58 gd.h h58;have:z.1 * (z.2.w * z.2.h)<=1000 * 10 ^ 116:=Int.mul_le_mul ⋯ b2 b1 ∅;have h0:=Int.mul_nonneg a1 b1;show 0<=z.1 * z.2.w * z.2.h/\z.1 * z.2.w * z.2.h<=_;rw [Int.mul_assoc];exact ⟨h0,this⟩
 have pc:(c:Int) * 10 ^ 116<=100 * 10 ^ 116:=Int.mul_le_mul_of_nonneg_right ⋯ e0;refine ⟨⟨p0,⋯⟩,⟨t.1,?_⟩,m.1,?_⟩
 ·have:=t.2;show (g.pl.map λ q=>q.2.1 * q.2.2).sum<=_;rw [e1]; exact this
 ·have:=m.2;show ((g.md.zip ks).map λ z=>z.1 * z.2.w * z.2.h).sum<=_;lia
theorem jS:∀ns:List Int,PyData.hasDictAll (ns.map PyData.int)=false
 | []=>rfl
 | _ :: r=>by simp [PyData.hasDictAll,PyData.hasDict,jS r]
theorem jT:∀ns:List (Int×Int×Int),PyData.hasDictAll (ns.map plD)=false
 | []=>rfl
 | _ :: r=>by simp [plD,PyData.hasDictAll,PyData.hasDict,jT r]
theorem nV {ks:List Kd} {c:Nat} {g:Stn} (gi:GI ks c g) (c1:c<=100) (gk:∀k∈ks,fj k) (k8:ks.length<=8):(fo ks g).showable=true/\(fo ks g).hasDict=false/\(fo ks g).depth<=200/\(fo ks g).shown.length<=sizeLine:=by
 obtain ⟨⟨p0,p1⟩,⟨t0,t1⟩,m0,m1⟩:=gi.bnds c1 gk k8;have eq1:(10:Int) ^ 129=10 ^ 10 * 10 ^ 119:=∅
 have eq2:(10:Int) ^ 129=10 ^ 9 * 10 ^ 120:=∅
 have eq3:(10:Int) ^ 129=10 ^ 71 * 10 ^ 58:=∅
 have eq4:(0:Int) < 10 ^ 119/\(0:Int) < 10 ^ 120/\(1000000:Int) < 10 ^ 58:=∅
 obtain ⟨n0,n1⟩:=gi.nu;have ln:=gi.ln;have h1:ShD 4 510000 (.list (g.pl.map plD)):=(lD (k:=2) (n:=500) (l:=1000) (λ d hd=>by
  obtain ⟨q,hq,rfl⟩:=List.mem_map.mp hd;obtain ⟨a0,a1,a2,a3,a4,a5⟩:=gi.pl q hq;refine rQ (k:=1) (n:=131) (l:=3) (λ d hd=>?_) (B6 _) ∅;simp only [List.mem_cons,List.not_mem_nil,or_false] at hd;rcases hd with rfl | rfl | rfl <;> exact wY ⋯ ⋯) (by rw [List.length_map]; lia) ∅).up ∅
 have h2:ShD 4 510000 (.list (g.md.map PyData.int)):=((lD (k:=1) (n:=131) (l:=8) (λ d hd=>by
  obtain ⟨q,hq,rfl⟩:=List.mem_map.mp hd;obtain ⟨a0,a1⟩:=gi.md q hq;exact wY ⋯ ⋯) (by rw [List.length_map,gi.ml]; exact k8) ∅).le (m:=510000) (by decide:131 * 8 + 2 * 8 + 3<=510000)).up ∅
 have h3:ShD 4 510000 (.tuple [.int g.pu,.int (thr g),.int (mdc ks g),.int (rsC ks g)]):=((rQ (k:=1) (n:=131) (l:=4) (λ d hd=>by
  have er:rsC ks g=g.pu - thr g - mdc ks g:=rfl;simp only [List.mem_cons,List.not_mem_nil,or_false] at hd;rcases hd with rfl | rfl | rfl | rfl <;> exact wY ⋯ ⋯) (B6 _) ∅).le (m:=510000) (by decide:131 * 4 + 2 * 4 + 3<=510000)).up ∅
 obtain ⟨s1,s2,s3⟩:=lD (k:=4) (n:=510000) (l:=3) (m:=1600000) (ds:=[.list (g.pl.map plD),.list (g.md.map PyData.int),.tuple [.int g.pu,.int (thr g),.int (mdc ks g),.int (rsC ks g)]]) (λ d hd=>by
  simp only [List.mem_cons,List.not_mem_nil,or_false] at hd;rcases hd with rfl | rfl | rfl
  ·exact h1
  ·exact h2
  ·exact h3) (B6 _) ∅
 exact ⟨s1,by simp [fo,PyData.hasDict,PyData.hasDictAll,jS,jT],C9 s2 ∅,C9 s3 ∅⟩
section
variable {P:G8} {w:JT} {K:C8} {mg:Str->Option JU} {base:Heap}
inductive spSInitX (K:C8) (NN:Addr) (vs:List V) (H:Hp) (Q:VK) (E:XK):Prop
 | mk (s sh:Addr) (v:V) (T:String) (e_1:vs=[.ref s,.ref sh,v]) (e_2:Ty K H v T) (e_3:aU v 1=false) (e_4:E (.ref NN) none H):spSInitX K NN vs H Q E
inductive spNoSt (K:C8) (vs:List V) (H:Hp) (Q:VK) (E_:XK):Prop
 | mk (sh:Addr) (v:V) (T:String) (e_1:vs=[.ref sh,v]) (e_2:Ty K H v T) (e_3:aU v 1=false) (e_4:∀H',Same H H'->Q (.bl true) H'):spNoSt K vs H Q E_
theorem pP {f NN:Addr} {fd:I9} (F:Fun K "__init__" "Store.__init__" ci f fd) (mN:mg "NoNumber" = ↑NN) (eN:ExcC K NN) (DW:Dn P w K mg base "is_whole" ["thing","least"] 1 (bY K)):FnOk P w K mg base (CXx P w) 2 f fd ["self","shop","least"] (spSInitX K NN):=by
 refine F.okX scsinit (λ vs H Q E h=>?_) (λ cdv A outer s0 H vs Q E hr h=>?_)
 ·obtain ⟨s,sh,v,T,rfl,_⟩:=h
  rfl
 obtain ⟨s,sh,v,T,rfl,ty,nw,e⟩:=h;have nd:=scsinit.nd;refine ⟨_,(((@bf _ _ _ _ (@aY _ _ _ (DW∪((pv 2)^^^(ah^^^ae))) (by intro _; rfl)))<|>(@ap _ _ _ (qD (R:=λ c H=>E c none H) Y Y mN eN (cf^^^ae) kU))<|>aF)<<<(bU<<<(bU<<<(bU>>>bU)))),?_⟩;refine aW (λ σ' H'=>False) (λ R hR=>?_) (λ _ _ z=>z.elim);refine ⟨_,Y,v,_,1,Y,ty,_,Y,?_⟩;rw [nw];exact aZ ⟨zS1,e⟩
theorem scnost:FnScope ["_law_made","_law_least","_law_told"] ["_law_made","_law_least"] (defScope fb):=⟨Y,Y,Y,∅,Y,∅,∅⟩
theorem uB {f CS NN:Addr} {fd:I9} (F:Fun K "_law_no_store" "_law_no_store" fb f fd) (DS:KnX P w K mg base "Store" CS ["self","shop","least"] 2 (spSInitX K NN)) (mN:mg "NoNumber" = ↑NN) (xm:PySem.W.exmOne K (.ref NN) (.ref NN)=some true):FnOk P w K mg base CX0 4 f fd ["_law_made","_law_least"] (spNoSt K):=by
 refine F.ok scnost (λ vs H Q E h=>?_) (λ cdv A outer s H vs Q E hr h=>?_)
 ·obtain ⟨sh,v,T,rfl,_⟩:=h
  rfl
 obtain ⟨sh,v,T,rfl,ty,nw,q⟩:=h;have nd:=scnost.nd;refine ⟨_,((2∣bF)<<<((tN Y Y Y (qN (wL DS hr Y ((pv 0)^^^((pv 1)^^^ae)))) Y mN (λ ea=>(@ap _ _ _ (2∣bF))))<<<((pv 2)⁻¹))),?_⟩;refine aW (λ σ' H'=>σ'=[↑sh,some v,some (.bl false)]/\H=H') (λ R hR=>hR _ _ ⟨rfl,rfl⟩) ?_;rintro _ _ ⟨rfl,rfl⟩;refine aW (λ σ' H'=>σ'=[↑sh,some v,some (.bl true)]/\Same H H') (λ R hR=>?_) ?_
 ·refine ⟨_,Y,_,Y,λ x dx hx hdx ne=>?_⟩;have sm:Same H (upd (upd H dx (.own x)) x (.ins CS dx [])):=dZ hx hdx;generalize upd (upd H dx (.own x)) x (.ins CS dx [])=H1 at sm ⊢;exact ⟨x,sh,v,T,Y,Ty.same sm ty,nw,xm,λ ea hea=>hR _ _ ⟨Y,sm⟩⟩
 rintro _ H1 ⟨rfl,s1⟩;exact ⟨_,Y,q _ s1⟩
end
theorem Room.units220 {k:Nat} {A:Around} (r:Room k A) (h:2<=k):A.units + 220 < cLine:=by have:=r.un; lia
def Hi (K:C8):R2:=λ x y H Q=>∃da db,DatV K H x da/\DatV K H y db/\SeqAt.shaped da=true/\SeqAt.shaped db=true/\Q (.bl (PyData.eqv da db)) H
theorem uC {X:Cx} (K:C8) (hK:X.K=K) (hu:X.A.units + 64 < cLine):OpR X (compareOp .Eq) (Hi K):=hK ▸ kQ hu
structure BW where
 s:Addr
 pa:Addr
 za:Addr
 le:Int
 zs:List V
 sts:List Stn
def mA (ws:List BW):List Addr:=ws.flatMap λ w=>[w.s,w.pa]
def AtS (CS C sh:Addr) (b:Int) (ks:List Kd) (H:Hp) (w:BW) (i:Nat):Prop:=∃g,w.sts[i]? = some g/\StoreAt CS C H w.s sh b ks w.le g (w.sts.take i) w.pa
structure BackI (K:C8) (CS C sh:Addr) (b:Int) (ks:List Kd) (N c:Nat) (ws:List BW) (H:Hp):Prop where
 nd:(mA ws).Nodup
 za:∀w∈ws,w.za∉mA ws/\H w.za=↥w.zs
 zl:∀w∈ws,w.zs.length=N + 1
 sl:∀w∈ws,w.sts.length=N + 1
 z:∀w∈ws,Paired (AskM K (mA ws) ks H) w.zs w.sts
 st:∀w∈ws,AtS CS C sh b ks H w N
 gi:∀w∈ws,∀g∈w.sts,GI ks c g
 g0:∀w∈ws,w.sts[0]? = some (g00 ks.length)
 n1:1<=N
 nc:N<=c
 c1:c<=100
 gk:∀k∈ks,fj k
 k8:ks.length<=8
 b0:0<=b
theorem rR {ws:List BW} {w:BW} (h:w∈ws):w.s∈mA ws/\w.pa∈mA ws:=⟨List.mem_flatMap.mpr ⟨w,h,C0⟩,List.mem_flatMap.mpr ⟨w,h,B7 _ C0⟩⟩
theorem vZ:∀ {ws:List BW} {t j:Nat} {w w':BW},(mA ws).Nodup->ws[t]? = some w->ws[j]? = some w'->t≠j->∀x∈[w.s,w.pa],∀y∈[w'.s,w'.pa],x≠y
 | [],_,_,_,_,_,h,_,_=>by simp at h
 | v :: ws,0,0,_,_,_,_,_,n=>absurd rfl n
 | v :: ws,0,j + 1,w,w',nd,h,h',_=>by obtain rfl:v=w:=C1 h;have nd:([v.s,v.pa] ++ mA ws).Nodup:=nd;intro x hx y hy;exact (List.nodup_append.mp nd).2.2 x hx y (List.mem_flatMap.mpr ⟨w',B8 (l:=ws) (i:=j) h',hy⟩)
 | v :: ws,t + 1,0,w,w',nd,h,h',_=>by obtain rfl:v=w':=C1 h';have nd:([v.s,v.pa] ++ mA ws).Nodup:=nd;intro x hx y hy;exact Ne.symm ((List.nodup_append.mp nd).2.2 y hy x (List.mem_flatMap.mpr ⟨w,B8 (l:=ws) (i:=t) h,hx⟩))
 | v :: ws,t + 1,j + 1,w,w',nd,h,h',n=>by have nd:([v.s,v.pa] ++ mA ws).Nodup:=nd;exact vZ (ws:=ws) (t:=t) (j:=j) (List.nodup_append.mp nd).2.1 h h' ⋯
theorem StoreAt.fr {CS C s sh pa s' pa':Addr} {H H':Hp} {b le le':Int} {ks:List Kd} {g g':Stn} {gs gs':List Stn} (x:StoreAt CS C H s sh b ks le g gs pa) (x':StoreAt CS C H s' sh b ks le' g' gs' pa') (f:FrS s' pa' H H') (n1:s≠s') (n2:s≠pa') (n3:pa≠s') (n4:pa≠pa'):StoreAt CS C H' s sh b ks le g gs pa:=by
 have kt:=FrS.tup x' f;have sp':=FrS.shop x' f;cases x with
 | mk h sp st hp pr=>exact .mk (f _ _ n1 n2 h) sp' (st.keep kt) (f _ _ n3 n4 hp) (JY pr λ v q h=>h.keep kt)
theorem eh {α:Type} {l:List α} {k:Nat} {a:α} (h:l[k]? = some a):l.take (k + 1)=l.take k ++ [a]:=by rw [List.take_add_one,h]; rfl
section
variable {P:G8} {w:JT} {K:C8} {mg:Str->Option JU} {base:Heap}
inductive spBack (K:C8) (CS C:Addr) (vs:List V) (H:Hp) (Q:VK) (E_:XK):Prop
 | mk (sl zl sh:Addr) (b:Int) (ks:List Kd) (N c:Nat) (ws:List BW) (e_1:vs=[.ref sl,.ref zl]) (e_2:H sl=↥(ws.map λ w=>V.ref w.s)) (e_3:H zl=↥(ws.map λ w=>V.ref w.za)) (e_4:sl∉mA ws) (e_5:zl∉mA ws) (e_6:1<=ws.length) (e_7:ws.length<=2) (e_8:BackI K CS C sh b ks N c ws H) (e_9:∀H',FrL (mA ws) H H'->(∀w∈ws,AtS CS C sh b ks H' w 0)->Q (.bl true) H'):spBack K CS C vs H Q E_
theorem scback:FnScope ["_law_stores","_law_states","_law_k","_law_store","_law_state"] ["_law_stores","_law_states"] (defScope jG):=⟨Y,Y,Y,∅,Y,∅,∅⟩
theorem uD {f C CS:Addr} {fd:I9} (F:Fun K "_law_back" "_law_back" jG f fd) (B:Blt mg) (TS:StoreTxt K CS) (MU:Mn P w K mg base CS "undo" ["self"] 1 (spUndo CS C)) (MPl:Mn P w K mg base CS "plates" ["self"] 1 (spPlates CS C)) (DAs:Dn P w K mg base "_law_asked" ["_law_store"] 3 (spAsked CS C)):FnOk P w K mg base CX0 4 f fd ["_law_stores","_law_states"] (spBack K CS C):=by
 refine F.ok scback (λ vs H Q E h=>?_) (λ cdv A outer s H vs Q E hr h=>?_)
 ·obtain ⟨sl,zl,sh,b,ks,N,c,ws,rfl,_⟩:=h
  rfl
 obtain ⟨sl,zl,sh,b,ks,N,c,ws,rfl,hsl,hzl,nsl,nzl,wl1,wl2,bi,q⟩:=h;have nd:=scback.nd;have hu:=hr.units;have hg:=hr.gd;have hu2:=Room.units220 hr ∅;refine ⟨_,((@bM _ _ _ _ _ _ _ _ E6 Y (oP Y B.range (((@aD _ _ _ _ _ _ _ _ _ aV Y B.len PySem.boot_len (((pv 1)&&&ix_list&&&ah)^^^ae) ∅ ∅ Y Y)|||bd|||ah)^^^((@mI _ _ _ _ _ _ iN ah)^^^((@mI _ _ _ _ _ _ iN ah)^^^ae)))) (ao (i:=2) nd Y (Or.inl Y)) (@ap _ _ _ (@bM _ _ _ _ _ _ _ _ E6 Y (tI Y B.zip ((pv 0)^^^((pv 1)^^^ae))) (aP Y (3•(4•aI))) (@ap _ _ _ ((PW.pt (cF ((bQ (pv 3) TS.cl MU (hr.mono ∅))<*>qR<*>bF) (cD ((@aD _ _ _ _ _ _ _ _ _ (df hg hu2) Y B.repr PyProof.Rows.boot_repr ((DAs∪((pv 3)^^^ae))^^^ae) ∅ ∅ Y Y)<*>gB<*>(@aD _ _ _ _ _ _ _ _ _ (df hg hu2) Y B.repr PyProof.Rows.boot_repr (((pv 4)&&&ix_list&&&(pv 2))^^^ae) ∅ ∅ Y Y)))))<|>(bF⁻¹)<|>aF)) (by intro _; rfl))) (by intro _; rfl))<<<((@aD _ _ _ _ _ _ _ _ _ (iw Y) Y B.all PyProof.Rows.boot_all ((bX (own:=["_law_store"]) (cs:=[]) (cap:=[]) Y (bv (pv 0)) (aS (sc:=defScope jG) (N:=["_law_stores","_law_states","_law_k","_law_store","_law_state"]) Y Y ∅) (λ _ _ _ _ _=>ao (i:=0) (by show List.Nodup (["_law_store"]:List Str) ; decide +kernel) Y (Or.inl Y) (Or.inr Y)) (λ _ _ _ _ _=>bC) (λ _ _ _ _ _=>(cO (@bI _ _ _ _ _ _ _ _ wN (bQ (pv 0) TS.cl MU (hr.mono ∅)) bF (aG _)) (cW (@bI _ _ _ _ _ _ _ _ (uC K Y hu) (bQ (pv 0) TS.cl MPl (hr.mono ∅)) (@aO _ _ _ _ ae) (aG _))))))^^^ae) ∅ ∅ Y Y)⁻¹)),?_⟩;obtain ⟨nd',za,zll,sll,z,st,gi,g0,n1,nc,c1,gk,k8,b0⟩:=bi;have sz:(10000:Nat) < sizeLine:=∅
 refine aW (λ σ' H'=>(∃v2 v3 v4,σ'=[↑sl,↑zl,v2,v3,v4])/\FrL (mA ws) H H'/\∀w∈ws,AtS CS C sh b ks H' w 0) (λ R hR=>?_) ?_
 ·obtain ⟨w0,hw0⟩:∃w0,ws[0]? = some w0:=⟨_,G2 ⋯⟩
  have w0m:=B8 hw0;have l0:=zll w0 w0m;refine ⟨_,Y,zl,_,0,.ref w0.za,Y,Y,JX hzl,aK (E7 _) (by show (ws.map λ w=>V.ref w.za)[0]? = _; rw [List.getElem?_map,hw0]; rfl),w0.za,w0.zs,Y,.inl (JX (za w0 w0m).2),_,_,Y,Y,1,Y,1,Y,_,-1,Y,⟨⋯,⋯,⋯,⋯⟩,?_⟩;have el:(w0.zs.length:Int) - 2=(N:Int) - 1:=⋯
  rw [el,show ((N:Int) - 1 - (-1)).toNat=N by lia];refine lj (lo:=(N:Int) - 1) (n:=N) (λ i σ' H'=>(∃v2 v3 v4,σ'=[↑sl,↑zl,v2,v3,v4])/\FrL (mA ws) H H'/\∀w∈ws,AtS CS C sh b ks H' w (N - i)) ⟨⟨_,_,_,rfl⟩,FrL.refl,st⟩ ?_ (λ σ Hx h=>hR _ _ (by rw [Nat.sub_self] at h; exact h));rintro i σ H1 hi ⟨⟨v2,v3,v4,rfl⟩,f1,at1⟩;obtain ⟨k,ek⟩:∃k,N - i=k + 1:=⟨N - i - 1,⋯⟩
  have ek2:(N:Int) - 1 - (i:Int)=(k:Int):=⋯
  rw [ek] at at1;have hsl1:=f1 _ _ nsl hsl;have hzl1:=f1 _ _ nzl hzl;refine ⟨_,Y,_,Y,sl,zl,_,_,Y,hsl1,hzl1,tw (λ j σ' H'=>(∃v3 v4,σ'=[↑sl,↑zl,⇑((N:Int) - 1 - (i:Int)),v3,v4])/\FrL (mA ws) H H'/\∀t w,ws[t]? = some w->AtS CS C sh b ks H' w (if t < j then k else k + 1)) (by rw [List.length_map,List.length_map]) ⟨⟨_,_,Y⟩,f1,λ t w h=>by rw [if_neg (Nat.not_lt_zero _)]; exact at1 w (B8 h)⟩ (λ j σ Hx ⟨_,fx,_⟩=>⟨fx _ _ nsl hsl,fx _ _ nzl hzl⟩) ?_ ?_⟩
  ·rintro j x y p σ H2 hx hy hp ⟨⟨v3,v4,rfl⟩,f2,at2⟩;rw [List.getElem?_map] at hx hy;cases hj:ws[j]? with
   | none=>rw [hj] at hx; cases hx
   | some u =>
    rw [hj] at hx hy;obtain rfl:V.ref u.s=x:=C1 hx;obtain rfl:V.ref u.za=y:=C1 hy;have um:=B8 hj;have sp:Same H2 (upd H2 p (.tup [.ref u.s,.ref u.za])):=JV hp;refine ⟨p,_,Y,JW af,Y,_,_,Y,_,_,Y,Y,?_⟩;generalize upd H2 p (.tup [.ref u.s,.ref u.za])=H3 at sp ⊢;have f3:FrL (mA ws) H H3:=f2.trans (Same.frL sp);obtain ⟨g,hg0,x2⟩:=at2 j u hj;rw [if_neg (Nat.lt_irrefl _)] at hg0 x2;have x3:=x2.same sp;obtain ⟨dx,sg,ps,hs3,_⟩:=x3.look;have kl:k < u.sts.length:=by have:=sll u um; lia
    have hk:u.sts[k]? = some u.sts[k]:=G2 kl;generalize u.sts[k]=gk0 at hk;have et:=eh hk;have lt:(u.sts.take (k + 1)).length<=1001:=by rw [List.length_take]; lia
    refine ⟨_,Y,u.s,dx,_,Y,hs3,bN _ _ _ _ ∅ ∅ ∅ ∅,u.s,sh,u.pa,b,u.le,ks,g,_,Y,x3,lt,(λ z=>absurd z (by rw [et]; simp)),λ gs' g' H4 e4 x4 f4=>⟨Y,true,Y,_,Y,aQ ?_⟩⟩;rw [et] at e4;obtain ⟨e5,e6⟩:=List.append_inj' e4 rfl;obtain rfl:gk0=g':=by simpa using e6
    subst e5;have f04:FrL (mA ws) H H4:=f3.trans (FrS.frL f4 (rR um).1 (rR um).2);have gik:=gi u um gk0 (B8 hk);obtain ⟨ok1,ok2,ok3,ok4⟩:=nV gik c1 gk k8;refine ⟨_,Y,u.s,sh,u.pa,b,u.le,ks,gk0,_,c,Y,⟨x4,gik,by rw [List.length_take]; lia,c1,gk,k8,b0⟩,λ v H5 A5 s5=>?_⟩;obtain ⟨a5,rfl,d5⟩:=A5.m (K:=K) (M:=[]) (λ _ h=>(C4 h).elim) (λ _ h=>(C4 h).elim) H5 FrL.refl;refine ⟨a5,fo ks gk0,Y,d5,ok1,ok2,ok3,ok4,?_⟩;have f05:FrL (mA ws) H H5:=f04.trans (Same.frL s5);obtain ⟨zv,hzv,ask⟩:=Paired.getL (z u um) hk;obtain ⟨az,rfl,dz⟩:=ask H5 f05;have hza5:=f05 _ _ (za u um).1 (za u um).2;refine ⟨_,Y,_,Y,u.za,_,_,_,Y,Y,JX hza5,(by rw [ek2]; exact aK ⋯ (by rw [show ((k:Int)).toNat=k by lia]; exact hzv)),az,fo ks gk0,Y,dz,ok1,ok2,ok3,ok4,Y,_,Y,?_⟩;rw [show (!decide (V.str (fo ks gk0).shown=V.str (fo ks gk0).shown))=false by rw [decide_eq_true rfl]; rfl];refine aQ ⟨⟨_,_,rfl⟩,f05,λ t w' ht=>?_⟩
    by_cases e:t=j
    ·subst e;rw [hj] at ht;cases ht;rw [if_pos (Nat.lt_succ_self _)];exact ⟨gk0,hk,x4.same s5⟩
    ·obtain ⟨g7,hg7,x7⟩:=at2 t w' ht;have nes:=vZ nd' ht hj e;have x7':=(x7.same sp).fr x3 f4 (nes _ C0 _ C0) (nes _ C0 _ (B7 _ C0)) (nes _ (B7 _ C0) _ C0) (nes _ (B7 _ C0) _ (B7 _ C0));have ei:(if t < j + 1 then k else k + 1)=(if t < j then k else k + 1):=by
      by_cases h:t < j
      ·rw [if_pos h,if_pos ⋯]
      ·rw [if_neg h,if_neg ⋯]
     rw [ei];exact ⟨g7,hg7,x7'.same s5⟩
  ·rintro σ H2 ⟨⟨v3,v4,rfl⟩,f2,at2⟩;refine ⟨⟨_,_,_,Y⟩,f2,λ w hw=>?_⟩;obtain ⟨t,ht,et⟩:=List.getElem_of_mem hw;have:=at2 t w (by rw [List.getElem?_eq_getElem ht,et]);rw [if_pos (by rw [List.length_map]; exact ht)] at this;rw [show N - (i + 1)=k by lia];exact this
 rintro _ H1 ⟨⟨v2,v3,v4,rfl⟩,f1,at1⟩;have hsl1:=f1 _ _ nsl hsl;refine ⟨_,Y,sl,Y,⟨_,JX hsl1⟩,(bn (K:=K) (.inl hsl1) (λ i ys Hx=>Same H1 Hx/\ys=List.replicate i (.bl true)) (λ i ys Hx _ ⟨sx,_⟩ o e=>sx _ _ e) ⟨Same.refl _,Y⟩ ?_ ?_).1 hsl1⟩
 ·rintro j y ys Hx hj ⟨sx,rfl⟩;have hjn:j < (ws.map λ w=>V.ref w.s).length:=(A9.mp hj).1;rw [List.getElem?_map] at hj;have hjn':=hjn;rw [List.length_map] at hjn';rw [List.getElem?_eq_getElem hjn'] at hj;obtain rfl:V.ref ws[j].s=y:=C1 hj;have um:ws[j]∈ws:=List.getElem_mem _;generalize ws[j]=u at um;obtain ⟨g,hg0,x1⟩:=at1 u um;rw [g0 u um] at hg0;cases hg0;have x2:=x1.same sx;obtain ⟨dx,sg,ps,hs2,_⟩:=x2.look;refine ⟨by rw [List.length_replicate]; lia,leS.set rfl,bD ?_⟩;refine ⟨_,Y,u.s,dx,_,Y,hs2,bN _ _ _ _ ∅ ∅ ∅ ∅,u.s,sh,u.pa,b,u.le,ks,_,_,Y,x2,(by simp),(λ _=>⟨Y,false,Y,_,Y,aZ ?_⟩),λ gs' g' H4 e4 _ _=>absurd e4 (by simp)⟩;refine ⟨_,Y,u.s,dx,_,Y,hs2,bN _ _ _ _ ∅ ∅ ∅ ∅,u.s,sh,u.pa,b,u.le,ks,_,_,Y,x2,λ l1 rs Hy hl1 k1 pr1 s1=>?_⟩;cases pr1;refine ⟨zS0,λ e he=>?_⟩;obtain ⟨Hz,e9,k9,s9⟩:∃H',upd Hy e (.lst [])=H'/\H' e=↥[]/\Same Hy H':=⟨_,Y,af,JV he⟩
  rw [show upd Hy e _=Hz from e9]; clear e9;refine ⟨.list [],.list [],.lst (JX (s9 _ _ k1)) .nil,.lst (JX k9) .nil,∅,∅,?_⟩;rw [show PyData.eqv (.list []) (.list [])=true from by decide +kernel];refine Nx.of hjn ⟨(sx.trans s1).trans s9,?_⟩;rw [List.replicate_succ']
 ·rintro ys Hx ⟨sx,rfl⟩;refine ⟨by rw [List.length_replicate,List.length_map]; lia,λ lc hlc=>?_⟩;obtain ⟨Hy,e9,k9,s9⟩:∃H',upd Hx lc (.lst (List.replicate (ws.map λ w=>V.ref w.s).length (V.bl true)))=H'/\H' lc=↥(List.replicate (ws.map λ w=>V.ref w.s).length (V.bl true))/\Same Hx H':=⟨_,Y,af,JV hlc⟩
  rw [show upd Hx lc _=Hy from e9]; clear e9;refine ⟨lc,List.replicate (ws.map λ w=>V.ref w.s).length true,Y,JX (by rw [k9,List.map_replicate]),?_⟩;rw [show (List.replicate (ws.map λ w=>V.ref w.s).length true).all id=true from List.all_eq_true.mpr λ x hx=>(List.mem_replicate.mp hx).2];exact q Hy (f1.trans (Same.frL (sx.trans s9))) λ w hw=>by obtain ⟨g,hg,x⟩:=at1 w hw;exact ⟨g,hg,x.same (sx.trans s9)⟩
end
theorem StoreAt.frL {CS C s sh pa:Addr} {M:List Addr} {H H':Hp} {b le:Int} {ks:List Kd} {g:Stn} {gs:List Stn} (x:StoreAt CS C H s sh b ks le g gs pa) (f:FrL M H H') (hs:s∉M) (hp:pa∉M) (hh:sh∉M) (nt:∀m∈M,∀xs,H m≠some (.tup xs)):StoreAt CS C H' s sh b ks le g gs pa:=by
 have kt:∀a xs,H a= ~~~xs->H' a= ~~~xs:=λ a xs e=>f _ _ (λ z=>nt _ z _ e) e;cases x with
 | mk h sp st hpa pr =>
  obtain ⟨dx',r,rs,h1,h2,h3⟩:=sp;exact .mk (f _ _ hs h) ⟨dx',r,rs,f _ _ hh h1,kt _ _ h2,Tups.keep kt h3⟩ (st.keep kt) (f _ _ hp hpa) (JY pr λ v q h=>h.keep kt)
theorem StoreAt.ad {CS C s sh pa:Addr} {H:Hp} {b le:Int} {ks:List Kd} {g:Stn} {gs:List Stn} (x:StoreAt CS C H s sh b ks le g gs pa) {c:Addr} {xs:List V} (h:H c=↥xs):s≠c/\sh≠c:=by obtain ⟨dx,sg,ps,hs,sp,_⟩:=x.look;obtain ⟨dx',r,rs,h1,_⟩:=sp;exact ⟨(λ z=>by rw [z,h] at hs; cases hs),(λ z=>by rw [z,h] at h1; cases h1)⟩
theorem StoreAt.but {CS C s sh pa p:Addr} {H H':Hp} {b le:Int} {ks:List Kd} {g:Stn} {gs:List Stn} (x:StoreAt CS C H s sh b ks le g gs pa) (pt:PotC H p) (f:But p H H') (n:pa≠p):StoreAt CS C H' s sh b ks le g gs pa:=by obtain ⟨xs,hp⟩:=fi pt;obtain ⟨a1,a2⟩:=x.ad hp;refine x.frL (M:=[p]) (λ c o n e=>f _ _ (λ z=>n (by rw [z]; exact E4.mpr rfl)) e) (by simpa using a1) (by simpa using n) (by simpa using a2) λ m hm xs e=>?_;rw [List.mem_singleton.mp hm,hp] at e;cases e
theorem StoreAt.nt {CS C s sh pa:Addr} {H:Hp} {b le:Int} {ks:List Kd} {g:Stn} {gs:List Stn} (x:StoreAt CS C H s sh b ks le g gs pa):(H s≠none/\∀xs,H s≠some (.tup xs))/\H pa≠none/\∀xs,H pa≠some (.tup xs):=by obtain ⟨dx,sg,ps,hs,sp,st,hp,_⟩:=x.look;rw [hs,hp];exact ⟨⟨by simp,by simp⟩,by simp,by simp⟩
theorem AskM.grow {K:C8} {M:List Addr} {ks:List Kd} {H H':Hp} {v:V} {g:Stn} {p:Addr} (h:AskM K M ks H v g) (n:H p=none) (s:Same H H'):AskM K (p :: M) ks H' v g:=λ H'' f=>h H'' λ c o nc e=>f c o (λ z=>(List.mem_cons.mp z).elim (λ z=>by rw [z,n] at e; cases e) nc) (s _ _ e)
theorem AskM.sub {K:C8} {M M':List Addr} {ks:List Kd} {H:Hp} {v:V} {g:Stn} (h:AskM K M' ks H v g) (sub:∀m∈M,m∈M'):AskM K M ks H v g:=λ H' f=>h H' λ c o n e=>f c o (λ z=>n (sub c z)) e
theorem GI.mono {ks:List Kd} {c c':Nat} {g:Stn} (h:GI ks c g) (e:c<=c'):GI ks c' g:=by
 have e0:(0:Int)<=10 ^ 116:=∅
 have:=Int.mul_le_mul_of_nonneg_right (show (c:Int)<=c' by lia) e0;exact ⟨h.pl,h.so,by have:=h.ln; lia,⟨h.nu.1,by have:=h.nu.2; lia⟩,h.ml,λ m hm=>⟨(h.md m hm).1,by have:=(h.md m hm).2; lia⟩,⟨h.pu.1,by have:=h.pu.2; lia⟩⟩
theorem PotC.fr {H H':Hp} {p:Addr} (x:PotC H p) (f:∀o,H p=Option.some o->H' p=Option.some o):PotC H' p:=by obtain ⟨a,b,h1,h2,h3,e⟩:=x;exact ⟨a,b,h1,h2,h3,f _ e⟩
theorem eO {α:Type} {l:List α} {n i:Nat} {x a:α} (e:l.length=n + 1) (h:(l ++ [a])[i]? = some x):(i < n + 1/\l[i]? = some x)\/(i=n + 1/\x=a):=by
 by_cases hi:i < n + 1
 ·rw [List.getElem?_append_left ⋯] at h;exact .inl ⟨hi,h⟩
 ·rw [List.getElem?_append_right ⋯,e] at h;cases hk:i - (n + 1) with
  | zero =>
   rw [hk] at h;exact .inr ⟨⋯,(C1 h).symm⟩
  | succ m=>rw [hk] at h; simp at h
section
variable {P:G8} {w:JT} {K:C8} {mg:Str->Option JU} {base:Heap}
inductive spMany (C:Addr) (vs:List V) (H:Hp) (Q:VK) (E_:XK):Prop
 | mk (p sh:Addr) (b u:Int) (ks:List Kd) (e_1:vs=[.ref p,.ref sh,.int u]) (e_2:PotC H p) (e_3:ShopAt C H sh b ks) (e_4:(∀k∈ks,fj k)) (e_5:ks.length<=8) (e_6:0<=b) (e_7:1<=u) (e_8:u < 2 * 10 ^ 56) (e_9:∀H',PotC H' p->But p H H'->Q (.bl true) H'):spMany C vs H Q E_
theorem scmany:FnScope ["_law_pot_here","_law_made","_law_unit_here","_law_store","_law_states","_law_k"] ["_law_pot_here","_law_made","_law_unit_here"] (defScope cN):=⟨Y,Y,Y,∅,Y,∅,∅⟩
theorem uE {f C CS:Addr} {fd:I9} (F:Fun K "_law_many_undone" "_law_many_undone" cN f fd) (B:Blt mg) (TS:StoreTxt K CS) (MPu:Mn P w K mg base CS "put" ["self","wide","high"] 3 (spPut CS C)) (DAs:Dn P w K mg base "_law_asked" ["_law_store"] 3 (spAsked CS C)) (DD:Dn P w K mg base "_law_take" ["_law_pot_here","_law_many"] 1 spTake) (DSi:Dn P w K mg base "_law_side" ["_law_pot_here","_law_unit_here","_law_most"] 2 spSideC) (DSt:Kn P w K mg base "Store" CS ["self","shop","least"] 2 (spSInit CS C)) (DBa:Dn P w K mg base "_law_back" ["_law_stores","_law_states"] 4 (spBack K CS C)):FnOk P w K mg base CX0 5 f fd ["_law_pot_here","_law_made","_law_unit_here"] (spMany C):=by
 refine F.ok scmany (λ vs H Q E h=>?_) (λ cdv A outer s H vs Q E hr h=>?_)
 ·obtain ⟨p,sh,b,u,ks,rfl,_⟩:=h
  rfl
 obtain ⟨p,sh,b,u,ks,rfl,pt,sp,gk,k8,b0,u0,u9,q⟩:=h;have nd:=scmany.nd;refine ⟨_,((3∣(qA DSt (hr.mono ∅) Y ((pv 1)^^^(ah^^^ae))))<<<((4∣(@aO _ _ _ _ ((DAs∩((pv 3)^^^ae))^^^ae)))<<<((@bM _ _ _ _ _ _ _ _ E6 Y (dO Y B.range ((ah|||aN|||(DD∩((pv 0)^^^(ah^^^ae))))^^^ae)) (ao (i:=5) nd Y (Or.inl Y)) ((@bc _ _ _ _ (eD (pv 3) TS.cl MPu (hr.mono ∅) ((DSi∩((pv 0)^^^((pv 2)^^^(ah^^^ae))))^^^((DSi∩((pv 0)^^^((pv 2)^^^(ah^^^ae))))^^^ae))) Y)>>>(@bc _ _ _ _ (@dA _ _ _ _ _ _ _ _ _ _ _ _ G6 PySem.F.slot_list_append PySem.F.type_list_append bE (pv 4) ((DAs∩((pv 3)^^^ae))^^^ae) Y Y Y Y Y) Y)) (by intro _; rfl))<<<((DBa∪((@aO _ _ _ _ ((pv 3)^^^ae))^^^((@aO _ _ _ _ ((pv 4)^^^ae))^^^ae)))⁻¹)))),?_⟩;have sz:(10000:Nat) < sizeLine:=∅
 have e60:(10:Int) ^ 58 < 10 ^ 60:=∅
 refine av (λ R=>∀s pa (H':Hp),H s=none->H pa=none->StoreAt CS C H' s sh b ks 1 (g00 ks.length) [] pa->Same H H'->R [↑p,↑sh,⇑u,↑s,none,none] H') (λ Dd hR=>?_) ?_
 ·refine ⟨_,Y,λ x dx hx hdx ne=>?_⟩;have sm:Same H (upd (upd H dx (.own x)) x (.ins CS dx [])):=dZ hx hdx;have xm:(upd (upd H dx (.own x)) x (.ins CS dx [])) x=some (.ins CS dx []):=af;generalize upd (upd H dx (.own x)) x (.ins CS dx [])=H1 at sm xm ⊢;exact ⟨x,dx,sh,b,1,ks,Y,xm,dJ sm sp,k8,E7 _,λ pa H2 hpa x2 kp=>⟨Y,hR x pa _ hx (sm.free hpa) x2 (λ c o e=>kp _ _ (λ z=>by rw [z,hx] at e; cases e) (sm _ _ e))⟩⟩
 rintro s pa H1 hs0 hpa0 x1 s1;have pt1:=pt.same s1;obtain ⟨_,hp0⟩:=fi pt;have nsp:p≠s:=λ z=>by rw [<- z,hp0] at hs0; cases hs0
 have npp:p≠pa:=λ z=>by rw [<- z,hp0] at hpa0; cases hpa0
 have gi0:=GI.zero ks;refine av (λ R=>∀z zs sts (H':Hp),H1 z=none->H' z=↥zs->Paired (AskM K [z,p,s,pa] ks H') zs sts->sts=[g00 ks.length]->Same H1 H'->R [↑p,↑sh,⇑u,↑s,↑z,none] H') (λ Dd hR=>?_) ?_
 ·refine ⟨_,Y,s,sh,pa,b,1,ks,g00 ks.length,[],0,Y,⟨x1,gi0,B6 _,∅,gk,k8,b0⟩,λ v H2 A2 s2=>⟨zS1,λ z hz=>?_⟩⟩;obtain ⟨H3,e3,k3,s3⟩:∃H',upd H2 z (.lst [v])=H'/\H' z=↥[v]/\Same H2 H':=⟨_,Y,af,JV hz⟩
  rw [show upd H2 z _=H3 from e3]; clear e3;obtain ⟨⟨a1,a2⟩,a3,a4⟩:=(x1.same s2).nt;obtain ⟨⟨a1',a2'⟩,a3',a4'⟩:=x1.nt;obtain ⟨_,hp1⟩:=fi pt1;have am:AskM K [p,s,pa] ks H2 v (g00 ks.length):=A2.m (λ m hm=>by
   simp only [List.mem_cons,List.not_mem_nil,or_false] at hm;rcases hm with rfl | rfl | rfl
   ·rw [hp1]; simp
   ·exact a1'
   ·exact a3') (λ m hm=>by
   simp only [List.mem_cons,List.not_mem_nil,or_false] at hm;rcases hm with rfl | rfl | rfl
   ·rw [s2 _ _ hp1]; simp
   ·exact a2
   ·exact a4)
  exact hR z ([v]) ([_]) _ (s2.free hz) k3 (.cons (am.grow hz s3) .nil) rfl (s2.trans s3)
 rintro z zs0 sts0 H2 hz1 hz2 pz2 es0 s2;have pt2:=pt1.same s2;have hz0:H z=none:=s1.free hz1;obtain ⟨⟨a1,_⟩,a3,_⟩:=x1.nt;have nzs:z≠s:=λ e=>a1 (e ▸ hz1);have nzp:z≠pa:=λ e=>a3 (e ▸ hz1);have nzq:z≠p:=λ e=>by rw [e,hp0] at hz0; cases hz0
 refine aW (λ σ' H'=>∃N:Nat,1<=N/\N<=60/\∃ (v5:Option V) (zs:List V) (sts:List Stn),σ'=[↑p,↑sh,⇑u,↑s,↑z,v5]/\H' z=↥zs/\Paired (AskM K [z,p,s,pa] ks H') zs sts/\sts.length=N + 1/\AtS CS C sh b ks H' ⟨s,pa,z,1,zs,sts⟩ (N)/\(∀i g,sts[i]? = some g->GI ks i g)/\sts[0]? = some (g00 ks.length)/\PotC H' p/\But p H H') (λ R hR=>?_) ?_
 ·refine ⟨_,Y,p,40,Y,pt2,∅,∅,λ r H3 r0 r1 pt3 b3=>⟨_,_,Y,Y,_,Y,⋯,⋯,?_⟩⟩;refine cR (n:=(21 + r).toNat) (λ i σ' H'=>∃ (v5:Option V) (zs:List V) (sts:List Stn),σ'=[↑p,↑sh,⇑u,↑s,↑z,v5]/\H' z=↥zs/\Paired (AskM K [z,p,s,pa] ks H') zs sts/\sts.length=i + 1/\AtS CS C sh b ks H' ⟨s,pa,z,1,zs,sts⟩ (i)/\(∀i g,sts[i]? = some g->GI ks i g)/\sts[0]? = some (g00 ks.length)/\PotC H' p/\But p H H') ⟨_,zs0,sts0,rfl,b3 _ _ nzq hz2,JY pz2 (λ v g h=>h.fr (But.frL b3 (by simp))),by rw [es0]; rfl,⟨g00 ks.length,by rw [es0]; rfl,by rw [es0]; exact (x1.same s2).but pt2 b3 (Ne.symm npp)⟩,?_,by rw [es0]; rfl,pt3,λ c o n e=>b3 _ _ n (s2 _ _ (s1 _ _ e))⟩ ?_ (λ σ Hx h=>hR _ _ ⟨(21 + r).toNat,⋯,⋯,h⟩)
  ·intro i g hi;rw [es0] at hi;cases i with
   | zero=>cases hi; exact gi0
   | succ i=>simp at hi
  rintro i σ H4 hi ⟨v5,zs,sts,rfl,hz4,pz4,sl4,⟨g,hg,x4⟩,gi4,g04,pt4,b04⟩;have hg:sts[i]? = some g:=hg;have x4:StoreAt CS C H4 s sh b ks 1 g (sts.take i) pa:=x4;obtain ⟨dx,sg,ps,hs4,_⟩:=x4.look;have gi:=gi4 i g hg;have gln:=gi.ln;have tl:(sts.take i).length<=100:=by rw [List.length_take]; lia
  refine av (λ R=>∀g' (H':Hp),H' z=↥zs->Paired (AskM K [z,p,s,pa] ks H') zs sts->StoreAt CS C H' s sh b ks 1 g' (sts.take i ++ [g]) pa->GI ks (i + 1) g'->PotC H' p->But p H H'->R [↑p,↑sh,⇑u,↑s,↑z,⇑(0 + (i:Int))] H') (λ Dd hR=>?_) ?_
  ·refine ⟨_,Y,s,dx,_,Y,hs4,bN _ _ _ _ ∅ ∅ ∅ ∅,_,Y,_,Y,p,u,24,Y,pt4,u0,u9,∅,∅,λ w1 Ha w0 w58 pta ba=>⟨_,Y,_,Y,p,u,24,Y,pta,u0,u9,∅,∅,λ h1 Hb h0 h58 ptb bb=>?_⟩⟩;have xb:=(x4.but pt4 ba (Ne.symm npp)).but pta bb (Ne.symm npp);refine ⟨s,sh,pa,b,1,w1,h1,ks,g,_,Y,xb,⋯,⋯,w0,⋯,h0,⋯,λ H5 x5 f5=>?_⟩;have fl:FrL [z,p,s,pa] H4 H5:=((But.frL ba (by simp)).trans (But.frL bb (by simp))).trans (FrS.frL f5 (by simp) (by simp));refine hR _ _ (f5 _ _ nzs nzp (bb _ _ nzq (ba _ _ nzq hz4))) (JY pz4 (λ v g h=>h.fr fl)) x5 (gi.step b0 (d:=.put w1 h1) ⟨w0,w58,h0,h58⟩ (le:=1) rfl) (ptb.fr λ o e=>f5 _ _ nsp npp e) (λ c o n e=>f5 _ _ (λ y=>by rw [y,hs0] at e; cases e) (λ y=>by rw [y,hpa0] at e; cases e) (bb _ _ n (ba _ _ n (b04 _ _ n e))))
  rintro g' H5 hz5 pz5 x5 gi5 pt5 b05;refine ⟨_,Y,.inl ⟨Y,_,JX hz5⟩,_,Y,s,sh,pa,b,1,ks,g',_,i + 1,Y,⟨x5,gi5,by rw [List.length_append,List.length_take]; show _ + 1<=_; lia,⋯,gk,k8,b0⟩,λ v H6 A6 s6=>?_⟩;have zl:=E5 pz5;have hz6:=s6 _ _ hz5;refine ⟨z,_,_,Y,Y,hz6,⋯,?_⟩;have bu:But z H6 (upd H6 z (.lst (zs ++ [v]))):=λ c o n e=>by rw [au n]; exact e
  have hz7:(upd H6 z (.lst (zs ++ [v]))) z=↥(zs ++ [v]):=af;generalize upd H6 z (.lst (zs ++ [v]))=H7 at bu hz7 ⊢;have pt6:=pt5.same s6;have x6:=x5.same s6;obtain ⟨xs5,hp5⟩:=fi pt5;obtain ⟨⟨c1',c2'⟩,c3',c4'⟩:=x5.nt;obtain ⟨⟨d1',d2'⟩,d3',d4'⟩:=x6.nt;have am:AskM K [z,p,s,pa] ks H6 v g':=A6.m (λ m hm=>by
   simp only [List.mem_cons,List.not_mem_nil,or_false] at hm;rcases hm with rfl | rfl | rfl | rfl
   ·rw [hz5]; simp
   ·rw [hp5]; simp
   ·exact c1'
   ·exact c3') (λ m hm=>by
   simp only [List.mem_cons,List.not_mem_nil,or_false] at hm;rcases hm with rfl | rfl | rfl | rfl
   ·rw [hz6]; simp
   ·rw [s6 _ _ hp5]; simp
   ·exact d2'
   ·exact d4')
  have fz:FrL [z,p,s,pa] H6 H7:=But.frL bu (by simp);have x7:StoreAt CS C H7 s sh b ks 1 g' (sts.take i ++ [g]) pa:=by obtain ⟨n1,n2⟩:=x6.ad hz6;refine x6.frL (M:=[z]) (But.frL bu (by simp)) (by simpa using n1) (by simpa using Ne.symm nzp) (by simpa using n2) λ m hm xs e=>?_;rw [List.mem_singleton.mp hm,hz6] at e;cases e
  have tk:(sts ++ [g']).take (i + 1)=sts.take i ++ [g]:=by rw [List.take_append_of_le_length ⋯,eh hg]
  refine ⟨_,zs ++ [v],sts ++ [g'],Y,hz7,Paired.snoc (JY pz5 λ v g h=>(h.fr (Same.frL s6)).fr fz) (am.fr fz),by rw [List.length_append,sl4]; rfl,⟨g',by show (sts ++ [g'])[i + 1]? = _; rw [List.getElem?_append_right ⋯,sl4,Nat.sub_self]; rfl,by show StoreAt CS C H7 s sh b ks 1 g' ((sts ++ [g']).take (i + 1)) pa; rw [tk]; exact x7⟩,λ t gg ht=>?_,by rw [List.getElem?_append_left ⋯]; exact g04,pt6.fr λ o e=>bu _ _ (Ne.symm nzq) e,λ c o n e=>bu _ _ (λ y=>by rw [y,hz0] at e; cases e) (s6 _ _ (b05 _ _ n e))⟩;rcases eO sl4 ht with ⟨t1,t2⟩ | ⟨t1,t2⟩
  ·exact gi4 t gg t2
  ·rw [t1,t2]; exact gi5
 rintro _ H3 ⟨N,n1,n60,v5,zs,sts,rfl,hz3,pz3,sl3,at3,gi3,g03,pt3,b03⟩;refine ⟨_,Y,zS1,λ sl hsl=>?_⟩;obtain ⟨H4,e4,k4,s4⟩:∃H',upd H3 sl (.lst [.ref s])=H'/\H' sl=↥[.ref s]/\Same H3 H':=⟨_,Y,af,JV hsl⟩
 rw [show upd H3 sl _=H4 from e4]; clear e4;refine ⟨_,Y,zS1,λ zl hzl=>?_⟩;obtain ⟨H5,e5,k5,s5⟩:∃H',upd H4 zl (.lst [.ref z])=H'/\H' zl=↥[.ref z]/\Same H4 H':=⟨_,Y,af,JV hzl⟩
 rw [show upd H4 zl _=H5 from e5]; clear e5;have s35:=s4.trans s5;obtain ⟨g,hg,x3⟩:=id at3;have x3:StoreAt CS C H3 s sh b ks 1 g (sts.take N) pa:=x3;obtain ⟨⟨c1',c2'⟩,c3',c4'⟩:=x3.nt;have x4:=x3.same s4;obtain ⟨⟨d1',d2'⟩,d3',d4'⟩:=x4.nt;obtain ⟨e1',e2'⟩:=x3.ad hz3;have m2:∀ {c:Addr},c≠s->c≠pa->c∉mA [⟨s,pa,z,1,zs,sts⟩]:=λ h1 h2=>by simp [mA,h1,h2]
 refine ⟨sl,zl,sh,b,ks,N,N,[⟨s,pa,z,1,zs,sts⟩],Y,s5 _ _ k4,k5,m2 (λ e=>c1' (e ▸ hsl)) (λ e=>c3' (e ▸ hsl)),m2 (λ e=>d1' (e ▸ hzl)) (λ e=>d3' (e ▸ hzl)),B6 _,(by show 1<=2; decide),?_,λ H6 f6 _=>?_⟩
 ·have one:∀ {p:BW->Prop},p ⟨s,pa,z,1,zs,sts⟩->∀w∈([⟨s,pa,z,1,zs,sts⟩]:List BW),p w:=λ h w hw=>by rw [List.mem_singleton.mp hw]; exact h
  have zl':=E5 pz3;have nsp':s≠pa:=λ e=>by obtain ⟨_,_,_,q1,_,_,q2,_⟩:=x3.look;rw [e,q2] at q1; cases q1
  refine ⟨by simp [mA,nsp'],one ⟨m2 nzs nzp,s35 _ _ hz3⟩,one (by show zs.length=_; lia),one sl3,one ?_,one ⟨g,hg,x3.same s35⟩,one ?_,one g03,n1,B6 _,⋯,gk,k8,b0⟩
  ·exact JY pz3 λ v g h=>(h.sub (M:=mA [⟨s,pa,z,1,zs,sts⟩]) (λ m hm=>by simp [mA] at hm; rcases hm with rfl | rfl <;> simp)).fr (Same.frL s35)
  ·intro g' hg';obtain ⟨t,ht,et⟩:=List.getElem_of_mem hg';have hl:t < sts.length:=ht;exact (gi3 t g' (by rw [List.getElem?_eq_getElem hl]; exact congrArg some et)).mono ⋯
 ·exact q H6 ((pt3.same s35).fr λ o e=>f6 _ _ (m2 nsp npp) e) λ c o n e=>f6 _ _ (m2 (λ y=>by rw [y,hs0] at e; cases e) (λ y=>by rw [y,hpa0] at e; cases e)) (s35 _ _ (b03 _ _ n e))
end
structure Ad where
 s:Addr
 pa:Addr
 za:Addr
 da:Addr
 le:Int
structure Da where
 zs:List V
 sts:List Stn
 dvs:List V
 ds:List Deed
def bwO (a:Ad) (d:Da):BW:=⟨a.s,a.pa,a.za,a.le,d.zs,d.sts⟩
def adr (a:Ad):List Addr:=[a.s,a.pa,a.za,a.da]
def mW (A:Nat->Ad) (lo:Addr):List Addr:=adr (A 0) ++ adr (A 1) ++ [lo]
structure SwL (K:C8) (M:List Addr) (ks:List Kd) (H:Hp) (a:Ad) (d:Da):Prop where
 hz:H a.za=↥d.zs
 pz:Paired (AskM K M ks H) d.zs d.sts
 hd:H a.da=↥d.dvs
 pd:Paired (DdV H) d.dvs d.ds
structure SwP (b:Int) (ks:List Kd) (le:Int) (d:Da) (n:Nat):Prop where
 sl:d.sts.length=n + 1
 dl:d.ds.length=n
 gi:∀i g,d.sts[i]? = some g->GI ks i g
 g0:d.sts[0]? = some (g00 ks.length)
 sp:∀i g dd g',d.sts[i]? = some g->d.ds[i]? = some dd->d.sts[i + 1]? = some g'->OkD b ks g dd/\Stp b le ks g dd g'
structure Dis (A:Nat->Ad) (lo:Addr):Prop where
 ne:∀t j,t < 2->j < 2->t≠j->∀x∈adr (A t),∀y∈adr (A j),x≠y
 lo:∀t,t < 2->lo∉adr (A t)
 zd:∀t,t < 2->(A t).za≠(A t).da
 zp:∀t,t < 2->(A t).za≠(A t).pa
 dp:∀t,t < 2->(A t).da≠(A t).pa
def NTs (H:Hp) (E:List Addr):Prop:=∀m∈E,∀xs,H m≠some (.tup xs)
def Oc (H:Hp) (m:Addr):Prop:=H m≠none/\∀xs,H m≠some (.tup xs)
theorem Oc.lst {H:Hp} {m:Addr} {xs:List V} (h:H m=↥xs):Oc H m:=by unfold Oc; rw [h]; exact ⟨by simp,by simp⟩
theorem Oc.same {H H':Hp} {m:Addr} (h:Oc H m) (s:Same H H'):Oc H' m:=by
 unfold Oc at *;cases e:H m with
 | none=>exact absurd e h.1
 | some o=>rw [s _ _ e]; rw [e] at h; exact h
theorem AtS.fr {CS C sh:Addr} {b:Int} {ks:List Kd} {H H':Hp} {w:BW} {n:Nat} {E:List Addr} (x:AtS CS C sh b ks H w n) (f:FrL E H H') (hs:w.s∉E) (hp:w.pa∉E) (hh:sh∉E) (nt:NTs H E):AtS CS C sh b ks H' w n:=by obtain ⟨g,hg,x⟩:=x;exact ⟨g,hg,x.frL f hs hp hh nt⟩
theorem AtS.oc {CS C sh:Addr} {b:Int} {ks:List Kd} {H:Hp} {w:BW} {n:Nat} (x:AtS CS C sh b ks H w n):Oc H w.s/\Oc H w.pa:=by obtain ⟨g,hg,x⟩:=x;exact ⟨x.nt.1,x.nt.2⟩
theorem SwL.fr {K:C8} {M E:List Addr} {ks:List Kd} {H H':Hp} {a:Ad} {d:Da} (h:SwL K M ks H a d) (f:FrL E H H') (sub:∀m∈E,m∈M) (hz:a.za∉E) (hd:a.da∉E) (nt:NTs H E):SwL K M ks H' a d :=
 ⟨f _ _ hz h.hz,JY h.pz λ v g q=>q.fr λ c o n e=>f c o (λ z=>n (sub c z)) e,f _ _ hd h.hd,JY h.pd λ v g q=>q.keep λ a xs e=>f _ _ (λ z=>nt _ z _ e) e⟩
theorem SwL.grow {K:C8} {M:List Addr} {ks:List Kd} {H H':Hp} {a:Ad} {d:Da} {p:Addr} (h:SwL K M ks H a d) (n:H p=none) (s:Same H H'):SwL K (p :: M) ks H' a d :=
 ⟨s _ _ h.hz,JY h.pz λ v g q=>q.grow n s,s _ _ h.hd,JY h.pd λ v g q=>q.keep λ a xs e=>s _ _ e⟩
theorem SwL.sub {K:C8} {M M':List Addr} {ks:List Kd} {H:Hp} {a:Ad} {d:Da} (h:SwL K M' ks H a d) (sub:∀m∈M,m∈M'):SwL K M ks H a d :=
 ⟨h.hz,JY h.pz λ v g q=>q.sub sub,h.hd,h.pd⟩
def rv (ks:List Kd) (d:Da) (n:Nat):Int:=match d.sts[n]? with
 | some g=>rsC ks g
 | none=>0
theorem nW {ks:List Kd} {d:Da} {n:Nat} {g:Stn} (h:d.sts[n]? = some g):rv ks d n=rsC ks g:=by unfold rv; rw [h]
structure LI (K:C8) (CS C sh t kl sl lo dl zl:Addr) (b:Int) (ks:List Kd) (A:Nat->Ad) (D:Nat->Da) (n:Nat->Nat) (M:List Addr) (H:Hp):Prop where
 ls:LS H t b ks kl
 hsl:H sl=↥[.ref (A 0).s,.ref (A 1).s]
 hlo:H lo=↥[.int (rv ks (D 0) (n 0)),.int (rv ks (D 1) (n 1))]
 hdl:H dl=↥[.ref (A 0).da,.ref (A 1).da]
 hzl:H zl=↥[.ref (A 0).za,.ref (A 1).za]
 st:∀t,t < 2->AtS CS C sh b ks H (bwO (A t) (D t)) (n t)
 li:∀t,t < 2->SwL K M ks H (A t) (D t)
 sp:∀t,t < 2->SwP b ks (A t).le (D t) (n t)
theorem two {p:Nat->Prop} (h0:p 0) (h1:p 1):∀t,t < 2->p t
 | 0,_=>h0
 | 1,_=>h1
 | _ + 2,h=>absurd h ⋯
theorem bB {A:Nat->Ad} {lo:Addr} {t:Nat} (h:t < 2) {x:Addr} (hx:x∈adr (A t)):x∈mW A lo:=by
 unfold mW
 match t,h with
 | 0,_=>exact C6.mpr (.inl (C6.mpr (.inl hx)))
 | 1,_=>exact C6.mpr (.inl (C6.mpr (.inr hx)))
theorem fu {A:Nat->Ad} {lo:Addr}:lo∈mW A lo:=C6.mpr (.inr (E4.mpr rfl))
theorem hI {A:Nat->Ad} {lo x:Addr} (h:x∈mW A lo):x=lo\/∃t,t < 2/\x∈adr (A t):=by
 unfold mW at h;rcases C6.mp h with h | h
 ·rcases C6.mp h with h | h
  ·exact .inr ⟨0,∅,h⟩
  ·exact .inr ⟨1,∅,h⟩
 ·exact .inl (E4.mp h)
theorem LI.oc {K:C8} {CS C sh t kl sl lo dl zl:Addr} {b:Int} {ks:List Kd} {A:Nat->Ad} {D:Nat->Da} {n:Nat->Nat} {M:List Addr} {H:Hp} (h:LI K CS C sh t kl sl lo dl zl b ks A D n M H):∀x∈mW A lo,Oc H x:=λ x hx=>by
 rcases hI hx with e | ⟨t,ht,hx⟩
 ·rw [e]; exact Oc.lst h.hlo
 ·have o:=(h.st t ht).oc;have l:=h.li t ht;simp only [adr,List.mem_cons,List.not_mem_nil,or_false] at hx;rcases hx with rfl | rfl | rfl | rfl
  ·exact o.1
  ·exact o.2
  ·exact Oc.lst l.hz
  ·exact Oc.lst l.hd
theorem at2 {f:Nat->V} {j:Nat} {i:Int} (h:j < 2) (e:i=j):atI [f 0,f 1] i=some (f j):=by
 subst e
 match j,h with
 | 0,_=>rfl
 | 1,_=>rfl
theorem Hj {f:Nat->V} {j:Nat} {v:V} (h:j < 2):[f 0,f 1].set j v=[if 0=j then v else f 0,if 1=j then v else f 1]:=by
 match j,h with
 | 0,_=>rfl
 | 1,_=>rfl
theorem LI.shop {K:C8} {CS C sh t kl sl lo dl zl:Addr} {b:Int} {ks:List Kd} {A:Nat->Ad} {D:Nat->Da} {n:Nat->Nat} {M:List Addr} {H:Hp} (h:LI K CS C sh t kl sl lo dl zl b ks A D n M H):ShopAt C H sh b ks:=by obtain ⟨g,hg,x⟩:=h.st 0 ∅;exact x.shop
theorem LI.shNe {K:C8} {CS C sh t kl sl lo dl zl:Addr} {b:Int} {ks:List Kd} {A:Nat->Ad} {D:Nat->Da} {n:Nat->Nat} {M:List Addr} {H:Hp} (h:LI K CS C sh t kl sl lo dl zl b ks A D n M H):sh∉mW A lo:=λ z=>by
 obtain ⟨dx',r,rs,h1,_⟩:=id h.shop;have nl:∀ {c:Addr} {xs:List V},H c=↥xs->sh≠c:=λ e z=>by rw [<- z,h1] at e; cases e
 rcases hI z with e | ⟨t,ht,hx⟩
 ·exact nl h.hlo e
 ·obtain ⟨g,hg,x⟩:=h.st t ht;obtain ⟨dx,sg,ps,hs,sp,st,hp,_⟩:=x.look;have l:=h.li t ht;simp only [adr,List.mem_cons,List.not_mem_nil,or_false] at hx;rcases hx with e | e | e | e
  ·exact nR hs sp e
  ·exact nl hp e
  ·exact nl l.hz e
  ·exact nl l.hd e
theorem LI.but {K:C8} {CS C sh t kl sl lo dl zl p:Addr} {b:Int} {ks:List Kd} {A:Nat->Ad} {D:Nat->Da} {n:Nat->Nat} {M:List Addr} {H H':Hp} (h:LI K CS C sh t kl sl lo dl zl b ks A D n M H) (pt:PotC H p) (f:But p H H') (pm:p∈M) (np:p∉mW A lo) (nk:kl≠p) (n1:sl≠p) (n2:dl≠p) (n3:zl≠p):LI K CS C sh t kl sl lo dl zl b ks A D n M H':=by
 obtain ⟨xs,hp⟩:=fi pt;have fe:FrL [p] H H':=But.frL f (E4.mpr rfl);have nt:NTs H [p]:=λ m hm xs e=>by rw [List.mem_singleton.mp hm,hp] at e; cases e
 have nm:∀ {c:Addr},c∈mW A lo->c∉[p]:=λ h z=>np (by rw [<- List.mem_singleton.mp z]; exact h);have shn:sh∉[p]:=λ z=>by obtain ⟨dx',r,rs,h1,_⟩:=id h.shop;rw [List.mem_singleton.mp z,hp] at h1; cases h1
 refine ⟨h.ls.but nk pt f,f _ _ n1 h.hsl,fe _ _ (nm fu) h.hlo,f _ _ n2 h.hdl,f _ _ n3 h.hzl,λ t ht=>(h.st t ht).fr fe (nm (bB ht (by simp [adr,bwO]))) (nm (bB ht (by simp [adr,bwO]))) shn nt,λ t ht=>(h.li t ht).fr fe (λ m hm=>by rw [List.mem_singleton.mp hm]; exact pm) (nm (bB ht (by simp [adr]))) (nm (bB ht (by simp [adr]))) nt,h.sp⟩
theorem LI.same {K:C8} {CS C sh t kl sl lo dl zl:Addr} {b:Int} {ks:List Kd} {A:Nat->Ad} {D:Nat->Da} {n:Nat->Nat} {M:List Addr} {H H':Hp} (h:LI K CS C sh t kl sl lo dl zl b ks A D n M H) (s:Same H H'):LI K CS C sh t kl sl lo dl zl b ks A D n M H' :=
 ⟨h.ls.same s,s _ _ h.hsl,s _ _ h.hlo,s _ _ h.hdl,s _ _ h.hzl,λ t ht=>by obtain ⟨g,hg,x⟩:=h.st t ht; exact ⟨g,hg,x.same s⟩,λ t ht=>(h.li t ht).fr (E:=[]) (Same.frL s) (λ m hm=>(C4 hm).elim) (by simp) (by simp) (λ m hm=>(C4 hm).elim),h.sp⟩
theorem LI.pot {K:C8} {CS C sh t kl sl lo dl zl p p':Addr} {b:Int} {ks:List Kd} {A:Nat->Ad} {D:Nat->Da} {n:Nat->Nat} {M:List Addr} {H H':Hp} (h:LI K CS C sh t kl sl lo dl zl b ks A D n (p :: M) H) (fr:H p'=none) (s:Same H H'):LI K CS C sh t kl sl lo dl zl b ks A D n (p' :: M) H':=by obtain ⟨a1,a2,a3,a4,a5,a6,a7,a8⟩:=h.same s;exact ⟨a1,a2,a3,a4,a5,a6,λ t ht=>((h.li t ht).sub λ m hm=>B7 _ hm).grow fr s,a8⟩
theorem De {C p s:Addr} {b':Int} {ks:List Kd} {H H':Hp} (pt:PotC H p) (b:But p H H') (h:ShopAt C H s b' ks):ShopAt C H' s b' ks:=by obtain ⟨_,hp⟩:=fi pt;exact h.keep (λ x xs e=>b _ _ (λ z=>by rw [z,hp] at e; cases e) e) (λ x C' d fs e=>b _ _ (λ z=>by rw [z,hp] at e; cases e) e)
theorem LS.fr {H H':Hp} {t kl:Addr} {b:Int} {ks:List Kd} {E:List Addr} (x:LS H t b ks kl) (f:FrL E H H') (n:kl∉E) (nt:NTs H E):LS H' t b ks kl:=by obtain ⟨rs,h1,h2,h3⟩:=x;have kt:∀a xs,H a= ~~~xs->H' a= ~~~xs:=λ a xs e=>f _ _ (λ z=>nt _ z _ e) e;exact ⟨rs,kt _ _ h1,f _ _ n h2,Tups.keep kt h3⟩
theorem Df (ks:List Kd):rsC ks (g00 ks.length)=0:=by
 have:mdc ks (g00 ks.length)=0:=by
  show (((List.replicate ks.length (0:Int)).zip ks).map λ z=>z.1 * z.2.w * z.2.h).sum=0
  induction ks with
  | nil=>rfl
  | cons k ks ih =>
   rw [List.length_cons,List.replicate_succ,List.zip_cons_cons,List.map_cons,List.sum_cons,ih];simp
 unfold rsC thr;rw [this]
 rfl
theorem ix2 {j:Nat} {i:Int} (h:j < 2) (e:i=j):ixN 2 i=some j:=by
 subst e
 match j,h with
 | 0,_=>rfl
 | 1,_=>rfl
theorem nX {H:Hp} {l:Addr} {o:HO}:∃H',upd H l o=H'/\H' l=some o/\But l H H':=⟨_,Y,af,λ c o n e=>by rw [au n]; exact e⟩
section
variable {P:G8} {w:JT} {K:C8} {mg:Str->Option JU} {base:Heap}
inductive spLaw (K:C8) (vs:List V) (H:Hp) (Q:VK) (E_:XK):Prop
 | mk (a:Addr) (ns:List Int) (e_1:vs=[.ref a]) (e_2:SqL K H a (ns.map V.int)) (e_3:ns.length<=63) (e_4:∀H',Q (.bl true) H'):spLaw K vs H Q E_
theorem sclaw:FnScope ["_law_script","_law_pot_here","_law_unit_here","_law_shop_here","_law_made","_law_leasts","_law_stores","_law_lost","_law_deeds","_law_states","_law_k","_law_j","_law_deed_here","_law_store","_law_row","_law_state","_law_far"] ["_law_script"] (defScope gT):=⟨Y,Y,Y,∅,Y,∅,∅⟩
theorem wZ {f C CS:Addr} {fd:I9} (F:Fun K "law" "law" gT f fd) (B:Blt mg) (TS:StoreTxt K CS) (DCl:Dn P w K mg base "_law_cell" ["_law_script","_law_k"] 1 (kZ K)) (DPo:Dn P w K mg base "_law_pot" ["_law_cell_here","_law_k"] 1 (spPotC)) (DUn:Dn P w K mg base "_law_unit" ["_law_pot_here"] 2 (spUnit)) (DShp:Dn P w K mg base "_law_shop" ["_law_pot_here","_law_unit_here"] 3 (spShopC)) (DD:Dn P w K mg base "_law_take" ["_law_pot_here","_law_many"] 1 (spTake)) (DSh:Kn P w K mg base "Shop" C ["self","blade","kinds"] 3 (kT C)) (DSt:Kn P w K mg base "Store" CS ["self","shop","least"] 2 (spSInit CS C)) (DAs:Dn P w K mg base "_law_asked" ["_law_store"] 3 (spAsked CS C)) (DDe:Dn P w K mg base "_law_deed" ["_law_pot_here","_law_shop_here","_law_unit_here","_law_store"] 10 (spDeed CS C)) (DLo:Dn P w K mg base "_law_loses" ["_law_made","_law_store","_law_deed_here"] 12 (spLoses CS C)) (DBl:Dn P w K mg base "_law_balanced" ["_law_store","_law_lost"] 3 (spBal CS C)) (DBa:Dn P w K mg base "_law_back" ["_law_stores","_law_states"] 4 (spBack K CS C)) (DMa:Dn P w K mg base "_law_many_undone" ["_law_pot_here","_law_made","_law_unit_here"] 5 (spMany C)) (DDo:Dn P w K mg base "_law_done" ["_law_store","_law_deed_here"] 11 (spDone CS C)) (DNo:Dn P w K mg base "_law_no_store" ["_law_made","_law_least"] 4 (spNoSt K)):FnOk P w K mg base CX0 13 f fd ["_law_script"] (spLaw K):=by
 refine F.ok sclaw (λ vs H Q E h=>?_) (λ cdv A outer s H vs Q E hr h=>?_)
 ·obtain ⟨a,ns,rfl,_⟩:=h
  rfl
 obtain ⟨a,ns,rfl,hS,n63,q⟩:=h;have nd:=sclaw.nd;have hg:=hr.gd;have hu2:=Room.units220 hr ∅;refine ⟨_,((1∣(DPo∩((DCl∩((pv 0)^^^(ah^^^ae)))^^^(ah^^^ae))))<<<((2∣(DUn∩((pv 1)^^^ae)))<<<((3∣(DShp∩((pv 1)^^^((pv 2)^^^ae))))<<<((@aB _ _ 4 _ _ _ _ nd Y (Or.inr Y) (qA DSh (hr.mono ∅) Y (((pv 3)&&&ix_tup&&&ah)^^^(((pv 3)&&&ix_tup&&&ah)^^^ae))) Y (Or.inl Y))<<<((5∣(@aO _ _ _ _ (ah^^^((ah|||aN|||(DD∩((pv 1)^^^((ah|||ck|||(pv 2))^^^ae))))^^^ae))))<<<((dQ (i:=6) (own:=["_law_least"]) (cs:=["_law_made"]) (cap:=[4]) Y nd Y Y Y (bv (pv 5)) (aS (sc:=defScope gT) (N:=["_law_script","_law_pot_here","_law_unit_here","_law_shop_here","_law_made","_law_leasts","_law_stores","_law_lost","_law_deeds","_law_states","_law_k","_law_j","_law_deed_here","_law_store","_law_row","_law_state","_law_far"]) Y Y ∅) (λ _ _ _ _ _=>ao (i:=0) (by show List.Nodup (["_law_least","_law_made"]:List Str) ; decide +kernel) Y (Or.inl Y) (Or.inr Y)) (λ _ _ _ _ _=>bC) (λ _ _ _ _ _=>(qA DSt (hr.mono ∅) Y ((pv 1)^^^((pv 0)^^^ae)))))<<<((7∣(@aO _ _ _ _ (ah^^^(ah^^^ae))))<<<((8∣(@aO _ _ _ _ ((@aO _ _ _ _ ae)^^^((@aO _ _ _ _ ae)^^^ae))))<<<((dQ (i:=9) (own:=["_law_store"]) (cs:=[]) (cap:=[]) Y nd Y Y Y (bv (pv 6)) (aS (sc:=defScope gT) (N:=["_law_script","_law_pot_here","_law_unit_here","_law_shop_here","_law_made","_law_leasts","_law_stores","_law_lost","_law_deeds","_law_states","_law_k","_law_j","_law_deed_here","_law_store","_law_row","_law_state","_law_far"]) Y Y ∅) (λ _ _ _ _ _=>ao (i:=0) (by show List.Nodup (["_law_store"]:List Str) ; decide +kernel) Y (Or.inl Y) (Or.inr Y)) (λ _ _ _ _ _=>bC) (λ _ _ _ _ _=>(@aO _ _ _ _ ((DAs∩((pv 0)^^^ae))^^^ae))))<<<((@bM _ _ _ _ _ _ _ _ E6 Y (oa Y B.range (ah^^^((@aD _ _ _ _ _ _ _ _ _ (ie Y) Y B.max PyProof.Rows.boot_max (ah^^^((@aD _ _ _ _ _ _ _ _ _ (dP Y) Y B.min PyProof.Rows.boot_min (ah^^^((@aD _ _ _ _ _ _ _ _ _ aV Y B.len PySem.boot_len ((pv 0)^^^ae) ∅ ∅ Y Y)^^^ae)) ∅ ∅ Y Y)^^^ae)) ∅ ∅ Y Y)^^^ae))) (ao (i:=10) nd Y (Or.inl Y)) ((1∣(DPo∩((DCl∩((pv 0)^^^((pv 10)^^^ae)))^^^((pv 10)^^^ae))))>>>(@bM _ _ _ _ _ _ _ _ E6 Y (dO Y B.range (ah^^^ae)) (ao (i:=11) nd Y (Or.inl Y)) ((12∣(DDe∩((pv 1)^^^((pv 3)^^^((pv 2)^^^(((pv 6)&&&ix_list&&&(pv 11))^^^ae))))))<<<((@bg _ _ _ _ _ _ (((pv 7)&&&ix_list&&&(pv 11))|||aN|||(DLo∩((pv 4)^^^(((pv 6)&&&ix_list&&&(pv 11))^^^((pv 12)^^^ae))))) (iJ (pv 7) (pv 11) dF) Y Y Y)<<<(((@bf _ _ _ _ (@aY _ _ _ (DBl∩(((pv 6)&&&ix_list&&&(pv 11))^^^(((pv 7)&&&ix_list&&&(pv 11))^^^ae))) (by intro _; rfl)))<|>(bF⁻¹)<|>aF)<<<((@bc _ _ _ _ (@dA _ _ _ _ _ _ _ _ _ _ _ _ G6 PySem.F.slot_list_append PySem.F.type_list_append bE ((pv 8)&&&ix_list&&&(pv 11)) ((pv 12)^^^ae) Y Y Y Y Y) Y)>>>(@bc _ _ _ _ (@dA _ _ _ _ _ _ _ _ _ _ _ _ G6 PySem.F.slot_list_append PySem.F.type_list_append bE ((pv 9)&&&ix_list&&&(pv 11)) ((DAs∩(((pv 6)&&&ix_list&&&(pv 11))^^^ae))^^^ae) Y Y Y Y Y) Y))))) (by intro _; rfl))) (by intro _; rfl))<<<(((@bf _ _ _ _ (@aY _ _ _ (DBa∩((pv 6)^^^((pv 9)^^^ae))) (by intro _; rfl)))<|>(bF⁻¹)<|>aF)<<<(((PW.pt (kn ((DD∩((pv 1)^^^(ah^^^ae)))<*>bL<*>ah) (iI (@bf _ _ _ _ (@aY _ _ _ (DMa∩((pv 1)^^^((pv 4)^^^((pv 2)^^^ae)))) (by intro _; rfl))))))<|>(bF⁻¹)<|>aF)<<<((@bM _ _ _ _ _ _ _ _ E6 Y (tK Y B.zip ((pv 6)^^^((pv 8)^^^((pv 9)^^^ae)))) (aP Y (13•(14•(15•aI)))) (@ap _ _ _ (@bM _ _ _ _ _ _ _ _ E6 Y (dO Y B.range ((@aD _ _ _ _ _ _ _ _ _ aV Y B.len PySem.boot_len ((pv 14)^^^ae) ∅ ∅ Y Y)^^^ae)) (ao (i:=10) nd Y (Or.inl Y)) ((@bc _ _ _ _ (DDo∩((pv 13)^^^(((pv 14)&&&ix_list&&&(pv 10))^^^ae))) Y)>>>(((@aD _ _ _ _ _ _ _ _ _ (df hg hu2) Y B.repr PyProof.Rows.boot_repr ((DAs∩((pv 13)^^^ae))^^^ae) ∅ ∅ Y Y)<*>gB<*>(@aD _ _ _ _ _ _ _ _ _ (df hg hu2) Y B.repr PyProof.Rows.boot_repr (((pv 15)&&&ix_list&&&((pv 10)|||aN|||ah))^^^ae) ∅ ∅ Y Y))<|>(bF⁻¹)<|>aF)) (by intro _; rfl))) (by intro _; rfl))<<<((16∣((@mI _ _ _ _ _ _ iN ah)|||bd|||(DD∩((pv 1)^^^((ah|||eG|||ah)^^^ae)))))<<<((@aD _ _ _ _ _ _ _ _ _ (iw Y) Y B.all PyProof.Rows.boot_all ((bX (own:=["_law_thing"]) (cs:=["_law_made"]) (cap:=[4]) Y (fB (@aE _ _ _ _ _ (wm^^^(bF^^^(bF^^^(ah^^^((@mI _ _ _ _ _ _ iN ah)^^^(cf^^^(cf^^^((@aO _ _ _ _ (ah^^^ae))^^^((@aE _ _ _ _ _ (ah^^^ae))^^^(kY^^^((pv 16)^^^ae))))))))))))) (aS (sc:=defScope gT) (N:=["_law_script","_law_pot_here","_law_unit_here","_law_shop_here","_law_made","_law_leasts","_law_stores","_law_lost","_law_deeds","_law_states","_law_k","_law_j","_law_deed_here","_law_store","_law_row","_law_state","_law_far"]) Y Y ∅) (λ _ _ _ _ _=>ao (i:=0) (by show List.Nodup (["_law_thing","_law_made"]:List Str) ; decide +kernel) Y (Or.inl Y) (Or.inr Y)) (λ _ _ _ _ _=>bC) (λ _ _ _ _ _=>(DNo∩((pv 1)^^^((pv 0)^^^ae)))))^^^ae) ∅ ∅ Y Y)⁻¹))))))))))))))),?_⟩
 have sz:(10000:Nat) < sizeLine:=∅
 have ln:(ns.map V.int).length=ns.length:=List.length_map _;have e60:8 * (10:Int) ^ 56<=10 ^ 60:=∅
 refine av (λ R=>∀p (H':Hp),H p=none->PotC H' p->Same H H'->R [↑a,↑p,none,none,none,none,none,none,none,none,none,none,none,none,none,none,none] H') (λ Dd hR=>?_) ?_
 ·exact ⟨_,Y,a,ns,0,Y,hS,∅,λ c=>⟨c,0,Y,∅,∅,λ p Hb hp ptb sb=>hR p _ hp ptb sb⟩⟩
 rintro p H1 hp0 pt1 s1;have sB:∀ {Hx Hy:Hp},Same H Hx->But p Hx Hy->Same H Hy:=λ s b c o e=>b _ _ (ar e hp0) (s _ _ e);refine av (λ R=>∀ (u:Int) (H':Hp),1<=u->u < 2 * 10 ^ 56->PotC H' p->Same H H'->R [↑a,↑p,⇑u,none,none,none,none,none,none,none,none,none,none,none,none,none,none] H') (λ Dd hR=>?_) ?_
 ·exact ⟨_,Y,p,Y,pt1,λ u H2 u1 u2 pt2 b2=>hR u _ u1 u2 pt2 (sB s1 b2)⟩
 rintro u H2 u1 u2 pt2 s2;refine av (λ R=>∀ (t kl:Addr) (b:Int) (ks:List Kd) (H':Hp),LS H' t b ks kl->kl≠p->(∀k∈ks,fj k)->1<=ks.length->ks.length<=8->0<=b->PotC H' p->Same H H'->R [↑a,↑p,⇑u,↑t,none,none,none,none,none,none,none,none,none,none,none,none,none] H') (λ Dd hR=>?_) ?_
 ·exact ⟨_,Y,_,Y,p,u,Y,pt2,u1,u2,λ t kl b ks H3 ls nk _ gk k1 k8 b0 _ pt3 b3=>hR t kl b ks _ ls nk gk k1 k8 b0 pt3 (sB s2 b3)⟩
 rintro t kl b ks H3 ls3 nk gk k1 k8 b0 pt3 s3;refine av (λ R=>∀ (x:Addr) (H':Hp),LS H' t b ks kl->ShopAt C H' x b ks->PotC H' p->Same H H'->R [↑a,↑p,⇑u,↑t,↑x,none,none,none,none,none,none,none,none,none,none,none,none] H') (λ Dd hR=>?_) ?_
 ·obtain ⟨rs,q1,q2,q3⟩:=id ls3;have rl:=E5 q3;refine ⟨_,Y,t,_,0,_,Y,Y,JW q1,Y,_,Y,t,_,1,_,Y,Y,JW q1,Y,λ x dx hx hdx ne0=>?_⟩;have sm:Same H3 (upd (upd H3 dx (.own x)) x (.ins C dx [])):=dZ hx hdx;refine ⟨x,dx,kl,b,rs,ks,Y,af,b0,.inl (sm _ _ q2),JY (Tups.keep (λ c xs e=>sm _ _ e) q3) (λ v k h=>.inl h),(λ k hk=>(gk k hk).1),⋯,⋯,λ Hb Sb kb=>⟨Y,?_⟩⟩;have sb:Same H3 Hb:=λ c o e=>kb c o (ar e hx) (sm _ _ e);exact hR x _ (ls3.same sb) Sb (pt3.same sb) (s3.trans sb)
 rintro x H4 ls4 sh4 pt4 s4;refine av (λ R=>∀ (l1:Int) (ll:Addr) (H':Hp),1<=l1->H' ll=↥[.int 1,.int l1]->LS H' t b ks kl->ShopAt C H' x b ks->PotC H' p->Same H H'->R [↑a,↑p,⇑u,↑t,↑x,↑ll,none,none,none,none,none,none,none,none,none,none,none] H') (λ Dd hR=>?_) ?_
 ·refine ⟨_,Y,_,Y,_,_,Y,Y,⟨b60 ⋯ ⋯,b60 ⋯ ⋯⟩,p,4 * u,Y,pt4,⋯,⋯,λ r H5 r0 r1 pt5 b5=>⟨_,_,Y,Y,zS2,λ ll hll=>?_⟩⟩;obtain ⟨H6,e6,k6,s6⟩:∃H',upd H5 ll (.lst [.int 1,.int (1 + r)])=H'/\H' ll=↥[.int 1,.int (1 + r)]/\Same H5 H':=⟨_,Y,af,JV hll⟩
  rw [show upd H5 ll _=H6 from e6]; clear e6;exact hR (1 + r) ll _ ⋯ k6 ((ls4.but nk pt4 b5).same s6) (dJ s6 (De pt4 b5 sh4)) (pt5.same s6) ((sB s4 b5).trans s6)
 clear pt1 s1 pt2 s2 pt3 s3 ls3 pt4 s4 ls4 sh4;clear H1 H2 H3 H4;rintro l1 ll H5 l10 hll ls5 sh5 pt5 s5;refine av (λ R=>∀sl c0 r0 c1 r1 (H':Hp),H' sl=↥[.ref c0,.ref c1]->StoreAt CS C H' c0 x b ks 1 (g00 ks.length) [] r0->StoreAt CS C H' c1 x b ks l1 (g00 ks.length) [] r1->[c0,r0,c1,r1].Nodup->(∀c∈[c0,r0,c1,r1],H5 c=none)->H5 sl=none->sl∉[c0,r0,c1,r1]->LS H' t b ks kl->ShopAt C H' x b ks->PotC H' p->Same H H'->R [↑a,↑p,⇑u,↑t,↑x,↑ll,↑sl,none,none,none,none,none,none,none,none,none,none] H') (λ Dd hR=>?_) ?_
 ·refine ⟨_,Y,ll,Y,⟨_,JX hll⟩,(bn (K:=K) (.inl hll) (λ i ys Hx=>Same H5 Hx/\∃qs:List (Addr×Addr),qs.length=i/\ys=qs.map (λ q=>V.ref q.1)/\(∀t q,qs[t]? = some q->StoreAt CS C Hx q.1 x b ks (if t=0 then 1 else l1) (g00 ks.length) [] q.2)/\(qs.flatMap λ q=>[q.1,q.2]).Nodup/\∀c∈qs.flatMap (λ q=>[q.1,q.2]),H5 c=none) (λ i ys Hx _ ⟨sx,_⟩ o e=>sx _ _ e) ⟨Same.refl _,[],Y,Y,(λ t q h=>by simp at h),.nil,(λ c h=>by simp at h)⟩ ?_ ?_).1 hll⟩
  ·rintro j y ys Hx hj ⟨sx,qs,ql,rfl,sq,nq,fq⟩;have hjn:j < [V.int 1,V.int l1].length:=(A9.mp hj).1;obtain ⟨le,rfl,el,le1⟩:∃le:Int,y=.int le/\le=(if j=0 then 1 else l1)/\1<=le:=by
    match j,hjn with
    | 0,_=>exact ⟨1,(C1 hj).symm,Y,E7 _⟩
    | 1,_=>exact ⟨l1,(C1 hj).symm,Y,l10⟩
   have hjn:j < 2:=hjn;refine ⟨by rw [List.length_map]; lia,leS.set rfl,bD ?_⟩;refine ⟨_,Y,_,Y,λ s dx hs hdx ne=>?_⟩;have sm:Same Hx (upd (upd Hx dx (.own s)) s (.ins CS dx [])):=dZ hs hdx;have xm:(upd (upd Hx dx (.own s)) s (.ins CS dx [])) s=some (.ins CS dx []):=af;generalize upd (upd Hx dx (.own s)) s (.ins CS dx [])=Hy at sm xm ⊢;refine ⟨s,dx,x,b,le,ks,Y,xm,dJ (sx.trans sm) sh5,k8,le1,λ pa Hz hpa xz kp=>⟨Y,Nx.of hjn ?_⟩⟩;have sz':Same Hx Hz:=λ c o e=>kp _ _ (ar e hs) (sm _ _ e);refine ⟨sx.trans sz',qs ++ [(s,pa)],by rw [List.length_append,ql]; rfl,by rw [List.map_append]; rfl,λ t q hq=>?_,?_,λ c hc=>?_⟩
   ·by_cases ht:t < qs.length
    ·rw [List.getElem?_append_left ht] at hq;exact (sq t q hq).same sz'
    ·have e:t=j:=by have:=(A9.mp hq).1;rw [List.length_append] at this;have:t < qs.length + 1:=this;lia
     rw [List.getElem?_append_right ⋯,show t - qs.length=0 by lia] at hq;obtain rfl:(s,pa)=q:=C1 hq;rw [e,<- el];exact xz
   ·rw [List.flatMap_append];have hpx:Hx pa=none:=sm.free hpa;refine List.nodup_append.mpr ⟨nq,?_,λ c hc d hd=>?_⟩
    ·obtain ⟨_,_,_,q1,_,_,q2,_⟩:=xz.look;simp only [List.flatMap_cons,List.flatMap_nil,List.append_nil,List.nodup_cons,List.mem_singleton,List.not_mem_nil,not_false_eq_true,List.nodup_nil,and_self,and_true];intro z;rw [z,q2] at q1; cases q1
    ·obtain ⟨q,hq,hc⟩:=List.mem_flatMap.mp hc;obtain ⟨t,ht,et⟩:=List.getElem_of_mem hq;obtain ⟨⟨o1,_⟩,o2,_⟩:=(sq t q (by rw [List.getElem?_eq_getElem ht,et])).nt;have oc:Hx c≠none:=by
      simp only [List.mem_cons,List.not_mem_nil,or_false] at hc;rcases hc with rfl | rfl
      ·exact o1
      ·exact o2
     have od:Hx d=none:=by
      simp only [List.flatMap_cons,List.flatMap_nil,List.append_nil,List.mem_cons,List.not_mem_nil,or_false] at hd;rcases hd with rfl | rfl
      ·exact hs
      ·exact hpx
     exact λ z=>oc (z ▸ od)
   ·rw [List.flatMap_append] at hc;rcases C6.mp hc with hc | hc
    ·exact fq c hc
    ·simp only [List.flatMap_cons,List.flatMap_nil,List.append_nil,List.mem_cons,List.not_mem_nil,or_false] at hc;rcases hc with rfl | rfl
     ·exact sx.free hs
     ·exact (sx.trans sm).free hpa
  ·rintro ys Hx ⟨sx,qs,ql,rfl,sq,nq,fq⟩;rcases qs with _ | ⟨⟨c0,r0⟩,_ | ⟨⟨c1,r1⟩,_ | ⟨_,_⟩⟩⟩
   ·cases ql
   ·cases ql
   ·refine ⟨zS2,λ sl hsl=>?_⟩;rw [show List.map (λ q:Addr×Addr=>V.ref q.1) [(c0,r0),(c1,r1)]=[.ref c0,.ref c1] from rfl];obtain ⟨Hy,e6,k6,s6⟩:∃H',upd Hx sl (.lst [.ref c0,.ref c1])=H'/\H' sl=↥[.ref c0,.ref c1]/\Same Hx H':=⟨_,Y,af,JV hsl⟩
    rw [show upd Hx sl _=Hy from e6]; clear e6;have sy:=sx.trans s6;exact hR sl c0 r0 c1 r1 _ k6 ((sq 0 _ rfl).same s6) ((sq 1 _ rfl).same s6) nq fq (sx.free hsl) (λ z=>by
     obtain ⟨⟨o1,_⟩,o2,_⟩:=(sq 0 _ rfl).nt;obtain ⟨⟨o3,_⟩,o4,_⟩:=(sq 1 _ rfl).nt;simp only [List.mem_cons,List.not_mem_nil,or_false] at z;rcases z with z | z | z | z
     ·exact o1 (z ▸ hsl)
     ·exact o2 (z ▸ hsl)
     ·exact o3 (z ▸ hsl)
     ·exact o4 (z ▸ hsl)) (ls5.same sy) (dJ sy sh5) (pt5.same sy) (s5.trans sy)
   ·simp at ql
 rintro sl c0 r0 c1 r1 H6 hsl6 x06 x16 ndq fq5 hsl5 nslq ls6 sh6 pt6 s6;refine av (λ R=>∀lo (H':Hp),H6 lo=none->H' lo=↥[.int 0,.int 0]->Same H6 H'->R [↑a,↑p,⇑u,↑t,↑x,↑ll,↑sl,↑lo,none,none,none,none,none,none,none,none,none] H') (λ Dd hR=>?_) ?_
 ·exact ⟨zS2,λ lo hlo=>hR lo _ hlo af (JV hlo)⟩
 rintro lo H7 hlo6 hlo7 s67;refine av (λ R=>∀dl d0 d1 (H':Hp),H7 d0=none->H7 d1=none->d0≠d1->H7 dl=none->dl≠d0->dl≠d1->H' d0=↥[]->H' d1=↥[]->H' dl=↥[.ref d0,.ref d1]->Same H7 H'->R [↑a,↑p,⇑u,↑t,↑x,↑ll,↑sl,↑lo,↑dl,none,none,none,none,none,none,none,none] H') (λ Dd hR=>?_) ?_
 ·refine ⟨zS0,λ d0 hd0=>?_⟩;obtain ⟨H8,e8,k8,s8⟩:∃H',upd H7 d0 (.lst [])=H'/\H' d0=↥[]/\Same H7 H':=⟨_,Y,af,JV hd0⟩
  rw [show upd H7 d0 _=H8 from e8]; clear e8;refine ⟨zS0,λ d1 hd1=>?_⟩;obtain ⟨H9,e9,k9,s9⟩:∃H',upd H8 d1 (.lst [])=H'/\H' d1=↥[]/\Same H8 H':=⟨_,Y,af,JV hd1⟩
  rw [show upd H8 d1 _=H9 from e9]; clear e9;refine ⟨zS2,λ dl hdl=>?_⟩;obtain ⟨Ha,e10,k10,s10⟩:∃H',upd H9 dl (.lst [.ref d0,.ref d1])=H'/\H' dl=↥[.ref d0,.ref d1]/\Same H9 H':=⟨_,Y,af,JV hdl⟩
  rw [show upd H9 dl _=Ha from e10]; clear e10;exact hR dl d0 d1 _ hd0 (s8.free hd1) (ar k8 hd1) ((s8.trans s9).free hdl) (Ne.symm (ar (s9 _ _ k8) hdl)) (Ne.symm (ar k9 hdl)) (s10 _ _ (s9 _ _ k8)) (s10 _ _ k9) k10 (s8.trans (s9.trans s10))
 rintro dl d0 d1 H8 hd07 hd17 nd01 hdl7 ndl0 ndl1 hd08 hd18 hdl8 s78;have s68:=s67.trans s78;have hlo8:=s78 _ _ hlo7;have hsl8:=s68 _ _ hsl6;have x08:=x06.same s68;have x18:=x16.same s68;have pt8:=pt6.same s68;refine av (λ R=>∀zl z0 z1 v0 v1 (H':Hp),H' zl=↥[.ref z0,.ref z1]->H8 z0=none->H8 z1=none->z0≠z1->H8 zl=none->zl≠z0->zl≠z1->H' z0=↥[v0]->H' z1=↥[v1]->(∀v∈[v0,v1],AskM K [z0,z1,c0,r0,c1,r1,lo,d0,d1,p] ks H' v (g00 ks.length))->Same H8 H'->R [↑a,↑p,⇑u,↑t,↑x,↑ll,↑sl,↑lo,↑dl,↑zl,none,none,none,none,none,none,none] H') (λ Dd hR=>?_) ?_
 ·refine ⟨_,Y,sl,Y,⟨_,JX hsl8⟩,(bn (K:=K) (.inl hsl8) (λ i ys Hx=>Same H8 Hx/\∃zs:List (Addr×V),zs.length=i/\ys=zs.map (λ q=>V.ref q.1)/\(∀z∈zs,H8 z.1=none/\Hx z.1=↥[z.2]/\AskM K (zs.map (·.1) ++ [c0,r0,c1,r1,lo,d0,d1,p]) ks Hx z.2 (g00 ks.length))/\(zs.map (·.1)).Nodup) (λ i ys Hx _ ⟨sx,_⟩ o e=>sx _ _ e) ⟨Same.refl _,[],Y,Y,(λ z h=>by simp at h),.nil⟩ ?_ ?_).1 hsl8⟩
  ·rintro j y ys Hx hj ⟨sx,zs,zl,rfl,az,nz⟩;have hjn:j < 2:=(A9.mp hj).1;obtain ⟨c,r,le,rfl,xx⟩:∃c r le,y=.ref c/\StoreAt CS C H8 c x b ks le (g00 ks.length) [] r:=by
    match j,hjn with
    | 0,_=>exact ⟨c0,r0,_,(C1 hj).symm,x08⟩
    | 1,_=>exact ⟨c1,r1,_,(C1 hj).symm,x18⟩
   refine ⟨by rw [List.length_map]; lia,leS.set rfl,bD ?_⟩;refine ⟨_,Y,c,x,r,b,le,ks,g00 ks.length,[],0,Y,⟨xx.same sx,GI.zero ks,B6 _,∅,gk,k8,b0⟩,λ v Hy A sy=>⟨zS1,λ z hz=>Nx.of hjn ?_⟩⟩;obtain ⟨Hz,e9,k9,s9⟩:∃H',upd Hy z (.lst [v])=H'/\H' z=↥[v]/\Same Hy H':=⟨_,Y,af,JV hz⟩
   rw [show upd Hy z _=Hz from e9]; clear e9;obtain ⟨p1,hp1⟩:=fi pt8;have oc:∀m∈[c0,r0,c1,r1,lo,d0,d1,p],Oc H8 m:=λ m hm=>by
    simp only [List.mem_cons,List.not_mem_nil,or_false] at hm;rcases hm with rfl | rfl | rfl | rfl | rfl | rfl | rfl | rfl
    ·exact x08.nt.1
    ·exact x08.nt.2
    ·exact x18.nt.1
    ·exact x18.nt.2
    ·exact Oc.lst hlo8
    ·exact Oc.lst hd08
    ·exact Oc.lst hd18
    ·exact Oc.lst hp1
   have ocx:∀m∈zs.map (·.1) ++ [c0,r0,c1,r1,lo,d0,d1,p],Oc Hx m:=λ m hm=>by
    rcases C6.mp hm with hm | hm
    ·obtain ⟨q,hq,rfl⟩:=List.mem_map.mp hm;exact Oc.lst (az q hq).2.1
    ·exact (oc m hm).same sx
   have am:=(A.m (K:=K) (M:=zs.map (·.1) ++ [c0,r0,c1,r1,lo,d0,d1,p]) (λ m hm=>(ocx m hm).1) (λ m hm=>((ocx m hm).same sy).2)).grow hz s9;have sub:∀m∈(zs ++ [(z,v)]).map (·.1) ++ [c0,r0,c1,r1,lo,d0,d1,p],m∈z :: (zs.map (·.1) ++ [c0,r0,c1,r1,lo,d0,d1,p]):=λ m hm=>by
    rw [List.map_append,List.map_cons,List.map_nil] at hm;simp only [List.mem_append,List.mem_cons,List.not_mem_nil,or_false] at hm ⊢;rcases hm with (h | h) | h
    ·exact .inr (.inl h)
    ·exact .inl h
    ·exact .inr (.inr h)
   refine ⟨(sx.trans sy).trans s9,zs ++ [(z,v)],by rw [List.length_append,zl]; rfl,by rw [List.map_append]; rfl,λ q hq=>?_,?_⟩
   ·rcases C6.mp hq with hq | hq
    ·obtain ⟨q1,q2,q3⟩:=az q hq;exact ⟨q1,s9 _ _ (sy _ _ q2),((q3.fr (Same.frL sy)).grow hz s9).sub sub⟩
    ·rw [List.mem_singleton.mp hq];exact ⟨(sx.trans sy).free hz,k9,am.sub sub⟩
   ·rw [List.map_append];refine List.nodup_append.mpr ⟨nz,(by show [z].Nodup; simp),λ c hc d hd=>?_⟩;obtain ⟨q,hq,rfl⟩:=List.mem_map.mp hc;obtain rfl:d=z:=E4.mp hd;exact ar (sy _ _ (az q hq).2.1) hz
  ·rintro ys Hx ⟨sx,zs,zl',rfl,az,nz⟩;rcases zs with _ | ⟨⟨z0,v0⟩,_ | ⟨⟨z1,v1⟩,_ | ⟨_,_⟩⟩⟩
   ·cases zl'
   ·cases zl'
   ·refine ⟨zS2,λ zl hzl=>?_⟩;rw [show List.map (λ q:Addr×V=>V.ref q.1) [(z0,v0),(z1,v1)]=[.ref z0,.ref z1] from rfl];obtain ⟨Hy,e9,k9,s9⟩:∃H',upd Hx zl (.lst [.ref z0,.ref z1])=H'/\H' zl=↥[.ref z0,.ref z1]/\Same Hx H':=⟨_,Y,af,JV hzl⟩
    rw [show upd Hx zl _=Hy from e9]; clear e9;obtain ⟨a1,a2,a3⟩:=az (z0,v0) (by simp);obtain ⟨b1,b2,b3⟩:=az (z1,v1) (by simp);refine hR zl z0 z1 v0 v1 _ k9 a1 b1 (by simpa using nz) (sx.free hzl) (Ne.symm (ar a2 hzl)) (Ne.symm (ar b2 hzl)) (s9 _ _ a2) (s9 _ _ b2) (λ v hv=>?_) (sx.trans s9);simp only [List.mem_cons,List.not_mem_nil,or_false] at hv;rcases hv with rfl | rfl
    ·exact a3.fr (Same.frL s9)
    ·exact b3.fr (Same.frL s9)
   ·simp at zl'
 rintro zl z0 z1 v0 v1 H9 hzl9 hz08 hz18 nz01 hzl8 nzl0 nzl1 hz09 hz19 am9 s89;have s69:=s68.trans s89;have nn:∀ {Hx:Hp} {c d:Addr},Hx c≠none->Hx d=none->c≠d:=λ h1 h2 z=>h1 (z ▸ h2);have nl:∀ {Hx:Hp} {c:Addr} {xs:List V},Hx c=↥xs->Hx c≠none:=λ h=>by rw [h]; simp
 have x07:=x06.same s67;have x17:=x16.same s67;have q60:=x06.nt;have q61:=x16.nt;have q70:=x07.nt;have q71:=x17.nt;have q80:=x08.nt;have q81:=x18.nt;obtain ⟨A,hA0,hA1⟩:∃A:Nat->Ad,A 0=⟨c0,r0,z0,d0,1⟩/\A 1=⟨c1,r1,z1,d1,l1⟩:=⟨λ t=>if t=0 then ⟨c0,r0,z0,d0,1⟩ else ⟨c1,r1,z1,d1,l1⟩,Y,Y⟩
 obtain ⟨D9,hD0,hD1⟩:∃D:Nat->Da,D 0=⟨[v0],[g00 ks.length],[],[]⟩/\D 1=⟨[v1],[g00 ks.length],[],[]⟩:=⟨λ t=>if t=0 then ⟨[v0],[g00 ks.length],[],[]⟩ else ⟨[v1],[g00 ks.length],[],[]⟩,Y,Y⟩
 have eW:mW A lo=[c0,r0,z0,d0,c1,r1,z1,d1,lo]:=by unfold mW adr; rw [hA0,hA1]; rfl
 have inW:∀ {c:Addr},c≠c0->c≠r0->c≠z0->c≠d0->c≠c1->c≠r1->c≠z1->c≠d1->c≠lo->c∉mW A lo:=λ a1 a2 a3 a4 a5 a6 a7 a8 a9=>by rw [eW];simp only [List.mem_cons,List.not_mem_nil,or_false,not_or];exact ⟨a1,a2,a3,a4,a5,a6,a7,a8,a9⟩
 have ls8:=ls6.same s68;have okl:∀ {Hx:Hp},LS Hx t b ks kl->Hx kl≠none:=λ h=>by obtain ⟨_,_,h2,_⟩:=h; rw [h2]; simp
 have opt:∀ {Hx:Hp},PotC Hx p->Hx p≠none:=λ h=>h.some;have f5:∀ {c:Addr},H5 c≠none->(c≠c0/\c≠r0)/\c≠c1/\c≠r1:=λ h=>⟨⟨nn h (fq5 _ (by simp)),nn h (fq5 _ (by simp))⟩,nn h (fq5 _ (by simp)),nn h (fq5 _ (by simp))⟩
 have npW:p∉mW A lo:=inW (f5 (opt pt5)).1.1 (f5 (opt pt5)).1.2 (nn (opt pt8) hz08) (nn (opt (pt6.same s67)) hd07) (f5 (opt pt5)).2.1 (f5 (opt pt5)).2.2 (nn (opt pt8) hz18) (nn (opt (pt6.same s67)) hd17) (nn (opt pt6) hlo6);have nkW:kl∉mW A lo:=inW (f5 (okl ls5)).1.1 (f5 (okl ls5)).1.2 (nn (okl ls8) hz08) (nn (okl (ls6.same s67)) hd07) (f5 (okl ls5)).2.1 (f5 (okl ls5)).2.2 (nn (okl ls8) hz18) (nn (okl (ls6.same s67)) hd17) (nn (okl ls6) hlo6);have nsW:sl∉mW A lo:=by simp only [List.mem_cons,List.not_mem_nil,or_false,not_or] at nslq;exact inW nslq.1 nslq.2.1 (nn (nl hsl8) hz08) (nn (nl (s67 _ _ hsl6)) hd07) nslq.2.2.1 nslq.2.2.2 (nn (nl hsl8) hz18) (nn (nl (s67 _ _ hsl6)) hd17) (nn (nl hsl6) hlo6)
 have ndW:dl∉mW A lo:=inW (Ne.symm (nn q70.1.1 hdl7)) (Ne.symm (nn q70.2.1 hdl7)) (nn (nl hdl8) hz08) ndl0 (Ne.symm (nn q71.1.1 hdl7)) (Ne.symm (nn q71.2.1 hdl7)) (nn (nl hdl8) hz18) ndl1 (Ne.symm (nn (nl hlo7) hdl7));have nzW:zl∉mW A lo:=inW (Ne.symm (nn q80.1.1 hzl8)) (Ne.symm (nn q80.2.1 hzl8)) nzl0 (Ne.symm (nn (nl hd08) hzl8)) (Ne.symm (nn q81.1.1 hzl8)) (Ne.symm (nn q81.2.1 hzl8)) nzl1 (Ne.symm (nn (nl hd18) hzl8)) (Ne.symm (nn (nl hlo8) hzl8));have nsp:sl≠p:=Ne.symm (nn (opt pt5) hsl5);have ndp:dl≠p:=Ne.symm (nn (opt (pt6.same s67)) hdl7);have nzp:zl≠p:=Ne.symm (nn (opt pt8) hzl8);have hmW:∀c∈mW A lo,H c=none:=λ c hc=>by
  have h56:Same H H6:=s6;rw [eW] at hc;simp only [List.mem_cons,List.not_mem_nil,or_false] at hc;rcases hc with rfl | rfl | rfl | rfl | rfl | rfl | rfl | rfl | rfl
  ·exact s5.free (fq5 _ (by simp))
  ·exact s5.free (fq5 _ (by simp))
  ·exact (h56.trans s68).free hz08
  ·exact (h56.trans s67).free hd07
  ·exact s5.free (fq5 _ (by simp))
  ·exact s5.free (fq5 _ (by simp))
  ·exact (h56.trans s68).free hz18
  ·exact (h56.trans s67).free hd17
  ·exact h56.free hlo6
 have dis:Dis A lo:=by
  have k1:∀c∈[c0,r0,c1,r1],c≠lo/\(c≠d0/\c≠d1)/\c≠z0/\c≠z1:=λ c hc=>by
   simp only [List.mem_cons,List.not_mem_nil,or_false] at hc;rcases hc with rfl | rfl | rfl | rfl
   ·exact ⟨nn q60.1.1 hlo6,⟨nn q70.1.1 hd07,nn q70.1.1 hd17⟩,nn q80.1.1 hz08,nn q80.1.1 hz18⟩
   ·exact ⟨nn q60.2.1 hlo6,⟨nn q70.2.1 hd07,nn q70.2.1 hd17⟩,nn q80.2.1 hz08,nn q80.2.1 hz18⟩
   ·exact ⟨nn q61.1.1 hlo6,⟨nn q71.1.1 hd07,nn q71.1.1 hd17⟩,nn q81.1.1 hz08,nn q81.1.1 hz18⟩
   ·exact ⟨nn q61.2.1 hlo6,⟨nn q71.2.1 hd07,nn q71.2.1 hd17⟩,nn q81.2.1 hz08,nn q81.2.1 hz18⟩
  obtain ⟨k10,⟨k11,k12⟩,k13,k14⟩:=k1 c0 (by simp);obtain ⟨k20,⟨k21,k22⟩,k23,k24⟩:=k1 r0 (by simp);obtain ⟨k30,⟨k31,k32⟩,k33,k34⟩:=k1 c1 (by simp);obtain ⟨k40,⟨k41,k42⟩,k43,k44⟩:=k1 r1 (by simp);have m1:=nn (nl hlo7) hd07;have m2:=nn (nl hlo7) hd17;have m3:=nn (nl hlo8) hz08;have m4:=nn (nl hlo8) hz18;have m5:=nn (nl hd08) hz08;have m6:=nn (nl hd08) hz18;have m7:=nn (nl hd18) hz08;have m8:=nn (nl hd18) hz18;simp only [List.nodup_cons,List.mem_cons,List.not_mem_nil,or_false,not_or,not_false_eq_true,List.nodup_nil,and_true] at ndq;obtain ⟨⟨n1,n2,n3⟩,⟨n4,n5⟩,n6⟩:=ndq;have cr:∀x∈adr (A 0),∀y∈adr (A 1),x≠y:=by unfold adr;rw [hA0,hA1];intro x' hx y hy;simp only [List.mem_cons,List.not_mem_nil,or_false] at hx hy;rcases hx with rfl | rfl | rfl | rfl <;> rcases hy with rfl | rfl | rfl | rfl <;> first | assumption | (apply Ne.symm; assumption)
  refine ⟨λ t j ht hj ne=>?_,?_,?_,?_,?_⟩
  ·match t,j,ht,hj with
   | 0,0,_,_=>exact absurd rfl ne
   | 0,1,_,_=>exact cr
   | 1,0,_,_=>exact λ x hx y hy=>Ne.symm (cr y hy x hx)
   | 1,1,_,_=>exact absurd rfl ne
  ·refine two ?_ ?_ <;> (unfold adr; first | rw [hA0] | rw [hA1]) <;> simp only [List.mem_cons,List.not_mem_nil,or_false,not_or] <;> exact ⟨by first | assumption | (apply Ne.symm; assumption),by first | assumption | (apply Ne.symm; assumption),by first | assumption | (apply Ne.symm; assumption),by first | assumption | (apply Ne.symm; assumption)⟩
  ·refine two ?_ ?_ <;> (first | rw [hA0] | rw [hA1]) <;> first | assumption | (apply Ne.symm; assumption)
  ·refine two ?_ ?_ <;> (first | rw [hA0] | rw [hA1]) <;> first | assumption | (apply Ne.symm; assumption)
  ·refine two ?_ ?_ <;> (first | rw [hA0] | rw [hA1]) <;> first | assumption | (apply Ne.symm; assumption)
 have gsp:∀ {v:V} {le:Int},SwP b ks le ⟨[v],[g00 ks.length],[],[]⟩ 0:=λ {v le}=>⟨Y,Y,(λ i g hi=>by
  cases i with
  | zero=>cases hi; exact GI.zero ks
  | succ i=>simp at hi),rfl,(λ i g dd g' _ h _=>by simp at h)⟩
 have subW:∀m∈p :: mW A lo,m∈[z0,z1,c0,r0,c1,r1,lo,d0,d1,p]:=λ m hm=>by rw [eW] at hm;simp only [List.mem_cons,List.not_mem_nil,or_false] at hm ⊢;rcases hm with rfl | rfl | rfl | rfl | rfl | rfl | rfl | rfl | rfl | rfl <;> simp
 have L9:LI K CS C x t kl sl lo dl zl b ks A D9 (λ _=>0) (p :: mW A lo) H9:=by
  have e0:rv ks (D9 0) 0=0:=by rw [nW (g:=g00 ks.length) (by rw [hD0]; rfl),Df]
  have e1:rv ks (D9 1) 0=0:=by rw [nW (g:=g00 ks.length) (by rw [hD1]; rfl),Df]
  refine ⟨ls6.same s69,by rw [hA0,hA1]; exact s69 _ _ hsl6,by rw [e0,e1]; exact s89 _ _ hlo8,by rw [hA0,hA1]; exact s89 _ _ hdl8,by rw [hA0,hA1]; exact hzl9,two ?_ ?_,two ?_ ?_,two ?_ ?_⟩
  ·rw [hA0,hD0]; exact ⟨g00 ks.length,Y,x08.same s89⟩
  ·rw [hA1,hD1]; exact ⟨g00 ks.length,Y,x18.same s89⟩
  ·have:AskM K (p :: mW A lo) ks H9 v0 (g00 ks.length):=(am9 v0 (by simp)).sub subW;rw [hA0,hD0]; exact ⟨hz09,.cons this .nil,s89 _ _ hd08,.nil⟩
  ·have:AskM K (p :: mW A lo) ks H9 v1 (g00 ks.length):=(am9 v1 (by simp)).sub subW;rw [hA1,hD1]; exact ⟨hz19,.cons this .nil,s89 _ _ hd18,.nil⟩
  ·rw [hA0,hD0]; exact gsp
  ·rw [hA1,hD1]; exact gsp
 have pt9:=pt6.same s69;have s09:Same H H9:=Same.trans s6 s69;clear am9 subW gsp hz09 hz19 hzl9 hz08 hz18 hzl8 nzl0 nzl1 nz01 ls8 q60 q61 q70 q71 q80 q81 x07 x17 x08 x18 hsl8 hlo8 pt8 hd08 hd18 hdl8 ndl0 ndl1 nd01 hd07 hd17 hdl7 hlo7 hlo6 s67 s78 s68 s69 s89 hsl5 nslq fq5 ndq x06 x16 hsl6 ls6 sh6 pt6 s6 f5 hA0 hA1 hD0 hD1 inW eW ls5 pt5 s5;have sF:∀ {p:Addr} {Hx Hy:Hp},H p=none->Same H Hx->FrL (p :: mW A lo) Hx Hy->Same H Hy:=λ hp s f c o e=>f _ _ (λ z=>(List.mem_cons.mp z).elim (λ z=>by rw [z,hp] at e; cases e) (λ z=>by rw [hmW _ z] at e; cases e)) (s _ _ e);refine aW (λ σ' H'=>∃ (N:Nat),4<=N/\N<=12/\∃ (p:Addr) (v10 v11 v12:Option V) (D:Nat->Da),σ'=[↑a,↑p,⇑u,↑t,↑x,↑ll,↑sl,↑lo,↑dl,↑zl,v10,v11,v12,none,none,none,none]/\H p=none/\PotC H' p/\p∉mW A lo/\kl≠p/\sl≠p/\dl≠p/\zl≠p/\LI K CS C x t kl sl lo dl zl b ks A D (λ _=>N) (p :: mW A lo) H'/\Same H H') (λ R hR=>?_) ?_
 ·refine ⟨_,Y,a,_,Y,.inl (s09.seq hS),_,_,Y,_,_,Y,_,_,Y,⟨∅,∅,?_,?_⟩,?_⟩
  ·rw [ln]; split <;> (try split) <;> lia
  ·rw [ln]; split <;> (try split) <;> lia
  generalize hn:(Int.toNat _)=n;have n12:4<=n/\n<=12:=by
   rw [<- hn,ln]
   split <;> (try split) <;> lia
  refine cR (n:=n) (λ i σ' H'=>∃ (p:Addr) (v10 v11 v12:Option V) (D:Nat->Da),σ'=[↑a,↑p,⇑u,↑t,↑x,↑ll,↑sl,↑lo,↑dl,↑zl,v10,v11,v12,none,none,none,none]/\H p=none/\PotC H' p/\p∉mW A lo/\kl≠p/\sl≠p/\dl≠p/\zl≠p/\LI K CS C x t kl sl lo dl zl b ks A D (λ _=>i) (p :: mW A lo) H'/\Same H H') ⟨p,_,_,_,D9,rfl,hp0,pt9,npW,nk,nsp,ndp,nzp,L9,s09⟩ ?_ (λ σ Hx h=>hR _ _ ⟨n,n12.1,n12.2,h⟩);clear L9 pt9 s09 npW nsp ndp nzp nk hp0 sB opt okl;clear p;rintro i σ Hx hi ⟨p,v10,v11,v12,D,rfl,hp0,ptx,npW,nk,nsp,ndp,nzp,Lx,sx⟩;refine av (λ R=>∀p v11 v12 (H':Hp),H p=none->PotC H' p->p∉mW A lo->kl≠p->sl≠p->dl≠p->zl≠p->LI K CS C x t kl sl lo dl zl b ks A D (λ _=>i) (p :: mW A lo) H'->Same H H'->R [↑a,↑p,⇑u,↑t,↑x,↑ll,↑sl,↑lo,↑dl,↑zl,⇑(1 + (i:Int)),v11,v12,none,none,none,none] H') (λ Dd hR=>?_) ?_
  ·refine ⟨_,Y,_,Y,a,ns,_,Y,sx.seq hS,⋯,λ c=>⟨_,Y,c,_,Y,⋯,⋯,λ p' Hb hp ptb sb=>hR p' _ _ _ (sx.free hp) ptb (λ z=>((Lx.oc p' z).1 hp)) ?_ ?_ ?_ ?_ (Lx.pot hp sb) (sx.trans sb)⟩⟩
   ·obtain ⟨_,_,h2,_⟩:=Lx.ls; exact ar h2 hp
   ·exact ar Lx.hsl hp
   ·exact ar Lx.hdl hp
   ·exact ar Lx.hzl hp
  clear Lx ptx sx npW nsp ndp nzp nk hp0;clear p Hx;rintro p v11 v12 Hx hp0 ptx npW nk nsp ndp nzp Lx sx;refine ⟨2,Y,∅,∅,cR (n:=2) (λ j σ' H'=>∃ (v11 v12:Option V) (D:Nat->Da),σ'=[↑a,↑p,⇑u,↑t,↑x,↑ll,↑sl,↑lo,↑dl,↑zl,⇑(1 + (i:Int)),v11,v12,none,none,none,none]/\PotC H' p/\LI K CS C x t kl sl lo dl zl b ks A D (λ t=>if t < j then i + 1 else i) (p :: mW A lo) H'/\Same H H') ⟨_,_,D,Y,ptx,Lx,sx⟩ ?_ ?_⟩
  rotate_left
  ·rintro σ Hy ⟨v11,v12,D,rfl,pty,Ly,sy⟩;refine ⟨p,_,_,_,D,Y,hp0,pty,npW,nk,nsp,ndp,nzp,?_,sy⟩;obtain ⟨a1,a2,a3,a4,a5,a6,a7,a8⟩:=Ly;exact ⟨a1,a2,a3,a4,a5,λ t ht=>by have:=a6 t ht; simp only [if_pos ht] at this; exact this,a7,λ t ht=>by have:=a8 t ht; simp only [if_pos ht] at this; exact this⟩
  clear Lx ptx sx;clear Hx D;rintro j σ H4 hj ⟨v11,v12,D,rfl,pt4,L4,s4⟩;have nj:(if j < j then i + 1 else i)=i:=if_neg (E3 _);have st4:AtS CS C x b ks H4 (bwO (A j) (D j)) (if j < j then i + 1 else i):=L4.st j hj;have sp4:SwP b ks (A j).le (D j) (if j < j then i + 1 else i):=L4.sp j hj;rw [nj] at st4 sp4;obtain ⟨g,hg,x4⟩:=st4;have hg:(D j).sts[i]? = some g:=hg;have x4:StoreAt CS C H4 (A j).s x b ks (A j).le g ((D j).sts.take i) (A j).pa:=x4;have gi:=sp4.gi i g hg;have SIx:∀ {Hx:Hp},StoreAt CS C Hx (A j).s x b ks (A j).le g ((D j).sts.take i) (A j).pa->SI CS C Hx (A j).s x b ks (A j).le g ((D j).sts.take i) (A j).pa i:=λ xx=>⟨xx,gi,by rw [List.length_take]; lia,⋯,gk,k8,b0⟩
  have sj:(A j).s∈mW A lo:=bB hj (by simp [adr]);have pj:(A j).pa∈mW A lo:=bB hj (by simp [adr]);have zj:(A j).za∈mW A lo:=bB hj (by simp [adr]);have dj:(A j).da∈mW A lo:=bB hj (by simp [adr]);have loj:=dis.lo j hj;simp only [adr,List.mem_cons,List.not_mem_nil,or_false,not_or] at loj;obtain ⟨los,lop,loz,lod⟩:=loj;have nzd:=dis.zd j hj;have nzpa:=dis.zp j hj;have ndpa:=dis.dp j hj;have f0:∀ {f:Nat->V},atI [f 0,f 1] (0 + (j:Int))=some (f j):=at2 hj ⋯;refine av (λ R=>∀v d (H':Hp),DdV H' v d->OkD b ks g d->PotC H' p->LI K CS C x t kl sl lo dl zl b ks A D (λ t=>if t < j then i + 1 else i) (p :: mW A lo) H'->FrL (p :: mW A lo) H4 H'->R [↑a,↑p,⇑u,↑t,↑x,↑ll,↑sl,↑lo,↑dl,↑zl,⇑(1 + (i:Int)),⇑(0 + (j:Int)),some v,none,none,none,none] H') (λ Dd hR=>?_) ?_
  ·exact ⟨_,Y,_,Y,_,Y,_,Y,_,Y,sl,_,_,_,Y,Y,JX L4.hsl,f0 (f:=λ t=>V.ref (A t).s),p,t,kl,(A j).s,x,(A j).pa,b,(A j).le,u,ks,g,_,i,Y,pt4,L4.ls,nk,u1,u2,SIx x4,λ v d H5 dv od pt5 b5=>hR v d _ dv od pt5 (L4.but pt4 b5 C0 npW nk nsp ndp nzp) (But.frL b5 C0)⟩
  rintro v d H5 dv5 od pt5 L5 f45;have s5:=sF hp0 s4 f45;clear s4 f45 pt4 L4;have st5:AtS CS C x b ks H5 (bwO (A j) (D j)) (if j < j then i + 1 else i):=L5.st j hj;rw [nj] at st5;have x5:StoreAt CS C H5 (A j).s x b ks (A j).le g ((D j).sts.take i) (A j).pa:=by obtain ⟨g1,hg1,x5⟩:=st5;rw [show (bwO (A j) (D j)).sts[i]? = some g from hg] at hg1;cases hg1;exact x5
  have l5:=L5.li j hj;have rvj:rv ks (D j) (if j < j then i + 1 else i)=rsC ks g:=by rw [nj]; exact nW hg
  have npa:∀ {c:Addr},c∈mW A lo->c≠p:=λ h z=>npW (z ▸ h);have nsl':∀ {c:Addr},c∈mW A lo->sl≠c:=λ h z=>nsW (z ▸ h);refine av (λ R=>∀g' (H':Hp),Stp b (A j).le ks g d g'->StoreAt CS C H' (A j).s x b ks (A j).le g' ((D j).sts.take i ++ [g]) (A j).pa->H' lo=↥[(if 0=j then V.int (rsC ks g') else V.int (rv ks (D 0) (if 0 < j then i + 1 else i))),(if 1=j then V.int (rsC ks g') else V.int (rv ks (D 1) (if 1 < j then i + 1 else i)))]->FrL [(A j).s,(A j).pa,lo] H5 H'->R [↑a,↑p,⇑u,↑t,↑x,↑ll,↑sl,↑lo,↑dl,↑zl,⇑(1 + (i:Int)),⇑(0 + (j:Int)),some v,none,none,none,none] H') (λ Dd hR=>?_) ?_
  ·refine ⟨_,Y,_,Y,lo,_,_,_,Y,Y,JX L5.hlo,f0 (f:=λ t=>V.int (rv ks (D t) (if t < j then i + 1 else i))),_,Y,_,Y,_,Y,sl,_,_,_,Y,Y,JX L5.hsl,f0 (f:=λ t=>V.ref (A t).s),_,Y,(A j).s,x,(A j).pa,b,(A j).le,ks,g,_,i,v,d,Y,SIx x5,dv5,od,λ g' m H6 st x6 f6 er=>⟨_,_,Y,Y,_,Y,_,Y,lo,_,_,j,Y,Y,f6 _ _ los lop L5.hlo,ix2 hj ⋯,?_⟩⟩;have hlo6:=f6 _ _ los lop L5.hlo;rw [Hj (f:=λ t=>V.int (rv ks (D t) (if t < j then i + 1 else i))) hj];obtain ⟨H7,e7,k7,b7⟩:=nX (H:=H6) (l:=lo) (o:=.lst [if 0=j then V.int (rv ks (D j) (if j < j then i + 1 else i) + m) else V.int (rv ks (D 0) (if 0 < j then i + 1 else i)),if 1=j then V.int (rv ks (D j) (if j < j then i + 1 else i) + m) else V.int (rv ks (D 1) (if 1 < j then i + 1 else i))]);rw [show upd H6 lo _=H7 from e7];obtain ⟨n1,n2⟩:=x6.ad hlo6;refine hR g' _ st (x6.frL (M:=[lo]) (But.frL b7 (by simp)) (by simpa using n1) (by simpa using Ne.symm lop) (by simpa using n2) (λ m hm xs e=>by rw [List.mem_singleton.mp hm,hlo6] at e; cases e)) (by rw [k7,rvj,<- er]) (λ c o nc e=>?_);simp only [List.mem_cons,List.not_mem_nil,or_false,not_or] at nc;exact b7 _ _ nc.2.2 (f6 _ _ nc.1 nc.2.1 e)
  rintro g' H7 st x7 hlo7 f57;have gi':=gi.step b0 od st;have l7:((D j).sts.take i ++ [g]).length<=i + 1:=by rw [List.length_append,List.length_take]; show _ + 1<=_; lia
  have SI7:∀ {Hx:Hp},StoreAt CS C Hx (A j).s x b ks (A j).le g' ((D j).sts.take i ++ [g]) (A j).pa->SI CS C Hx (A j).s x b ks (A j).le g' ((D j).sts.take i ++ [g]) (A j).pa (i + 1):=λ xx=>⟨xx,gi',l7,⋯,gk,k8,b0⟩
  have nE:∀ {c:Addr},c≠(A j).s->c≠(A j).pa->c≠lo->c∉[(A j).s,(A j).pa,lo]:=λ a1 a2 a3=>by simp [a1,a2,a3]
  have hsl7:=f57 _ _ (nE (nsl' sj) (nsl' pj) (nsl' fu)) L5.hsl;refine av (λ R=>∀ (H':Hp),Same H7 H'->R [↑a,↑p,⇑u,↑t,↑x,↑ll,↑sl,↑lo,↑dl,↑zl,⇑(1 + (i:Int)),⇑(0 + (j:Int)),some v,none,none,none,none] H') (λ Dd hR=>?_) ?_
  ·refine ⟨_,Y,_,Y,sl,_,_,_,Y,Y,JX hsl7,f0 (f:=λ t=>V.ref (A t).s),_,Y,_,Y,lo,_,_,_,Y,Y,JX hlo7,f0 (f:=λ t=>(if t=j then V.int (rsC ks g') else V.int (rv ks (D t) (if t < j then i + 1 else i)))),(A j).s,x,(A j).pa,b,(A j).le,ks,g',_,i + 1,by rw [if_pos rfl]; rfl,SI7 x7,λ H8 s8=>⟨_,Y,aQ (hR _ s8)⟩⟩
  rintro H8 s78;have ndE:dl∉[(A j).s,(A j).pa,lo]:=nE (λ z=>ndW (z ▸ sj)) (λ z=>ndW (z ▸ pj)) (λ z=>ndW (z ▸ fu));have nzE:zl∉[(A j).s,(A j).pa,lo]:=nE (λ z=>nzW (z ▸ sj)) (λ z=>nzW (z ▸ pj)) (λ z=>nzW (z ▸ fu));have dsj:(A j).da≠(A j).s:=Ne.symm (x5.ad l5.hd).1;have zsj:(A j).za≠(A j).s:=Ne.symm (x5.ad l5.hz).1;have hdl8:=s78 _ _ (f57 _ _ ndE L5.hdl);have hda8:=s78 _ _ (f57 _ _ (nE dsj ndpa (Ne.symm lod)) l5.hd);have hza8:=s78 _ _ (f57 _ _ (nE zsj nzpa (Ne.symm loz)) l5.hz);have pl:=E5 l5.pd;have dl4:=sp4.dl;have x8:=x7.same s78;refine av (λ R=>∀ (H':Hp),H' (A j).da=↥((D j).dvs ++ [v])->But (A j).da H8 H'->R [↑a,↑p,⇑u,↑t,↑x,↑ll,↑sl,↑lo,↑dl,↑zl,⇑(1 + (i:Int)),⇑(0 + (j:Int)),some v,none,none,none,none] H') (λ Dd hR=>?_) ?_
  ·refine ⟨_,Y,_,Y,dl,_,_,_,Y,Y,JX hdl8,f0 (f:=λ t=>V.ref (A t).da),.inl ⟨Y,_,JX hda8⟩,_,Y,(A j).da,_,_,Y,Y,hda8,⋯,?_⟩;exact hR _ af (λ c o n e=>by rw [au n]; exact e)
  rintro H9 hda9 b89;have x9:StoreAt CS C H9 (A j).s x b ks (A j).le g' ((D j).sts.take i ++ [g]) (A j).pa:=by obtain ⟨n1,n2⟩:=x8.ad hda8;exact x8.frL (M:=[(A j).da]) (But.frL b89 (by simp)) (by simpa using n1) (by simpa using Ne.symm ndpa) (by simpa using n2) (λ m hm xs e=>by rw [List.mem_singleton.mp hm,hda8] at e; cases e)
  have f59:FrL [(A j).s,(A j).pa,lo,(A j).da] H5 H9:=λ c o nc e=>by simp only [List.mem_cons,List.not_mem_nil,or_false,not_or] at nc;exact b89 _ _ nc.2.2.2 (s78 _ _ (f57 _ _ (nE nc.1 nc.2.1 nc.2.2.1) e))
  have oc5:=L5.oc;have nt4:NTs H5 [(A j).s,(A j).pa,lo,(A j).da]:=λ m hm=>by
   simp only [List.mem_cons,List.not_mem_nil,or_false] at hm;rcases hm with rfl | rfl | rfl | rfl
   ·exact (oc5 _ sj).2
   ·exact (oc5 _ pj).2
   ·exact (oc5 _ fu).2
   ·exact (oc5 _ dj).2
  have sb4:∀m∈[(A j).s,(A j).pa,lo,(A j).da],m∈p :: mW A lo:=λ m hm=>by
   simp only [List.mem_cons,List.not_mem_nil,or_false] at hm;rcases hm with rfl | rfl | rfl | rfl
   ·exact B7 _ sj
   ·exact B7 _ pj
   ·exact B7 _ fu
   ·exact B7 _ dj
  have nF:∀ {c:Addr},c≠(A j).s->c≠(A j).pa->c≠lo->c≠(A j).da->c∉[(A j).s,(A j).pa,lo,(A j).da]:=λ a1 a2 a3 a4=>by simp [a1,a2,a3,a4]
  have shW:=L5.shNe;have shF:x∉[(A j).s,(A j).pa,lo,(A j).da]:=nF (λ z=>shW (z ▸ sj)) (λ z=>shW (z ▸ pj)) (λ z=>shW (z ▸ fu)) (λ z=>shW (z ▸ dj));have oth:∀t,t < 2->t≠j->AtS CS C x b ks H9 (bwO (A t) (D t)) (if t < j then i + 1 else i)/\SwL K (p :: mW A lo) ks H9 (A t) (D t):=λ t' ht ne=>by have nes:=dis.ne t' j ht hj ne;have lot:=dis.lo t' ht;have nn4:∀ {c:Addr},c∈adr (A t')->c∉[(A j).s,(A j).pa,lo,(A j).da]:=λ hc=>nF (nes _ hc _ (by simp [adr])) (nes _ hc _ (by simp [adr])) (λ z=>lot (z ▸ hc)) (nes _ hc _ (by simp [adr]));exact ⟨(L5.st t' ht).fr f59 (nn4 (by simp [adr,bwO])) (nn4 (by simp [adr,bwO])) shF nt4,(L5.li t' ht).fr f59 sb4 (nn4 (by simp [adr])) (nn4 (by simp [adr])) nt4⟩
  have hza9:=b89 _ _ nzd hza8;have hlo9:=b89 _ _ lod (s78 _ _ hlo7);have hsl9:=b89 _ _ (nsl' dj) (s78 _ _ hsl7);have hdl9:=b89 dl _ (λ z=>ndW (z ▸ dj)) hdl8;have hzl9:=b89 zl _ (λ z=>nzW (z ▸ dj)) (s78 _ _ (f57 _ _ nzE L5.hzl));have ls9:=L5.ls.fr f59 (nF (λ z=>nkW (z ▸ sj)) (λ z=>nkW (z ▸ pj)) (λ z=>nkW (z ▸ fu)) (λ z=>nkW (z ▸ dj))) nt4;have pt9:=pt5.fr λ o e=>f59 _ _ (nF (Ne.symm (npa sj)) (Ne.symm (npa pj)) (Ne.symm (npa fu)) (Ne.symm (npa dj))) e;have oc9:∀m∈p :: mW A lo,Oc H9 m:=λ m hm=>by
   rcases List.mem_cons.mp hm with e | hm
   ·obtain ⟨_,hp9⟩:=fi pt9;rw [e]; exact Oc.lst hp9
   rcases hI hm with e | ⟨t',ht,hm⟩
   ·rw [e]; exact Oc.lst hlo9
   by_cases e:t'=j
   ·rw [e] at hm;simp only [adr,List.mem_cons,List.not_mem_nil,or_false] at hm;rcases hm with rfl | rfl | rfl | rfl
    ·exact x9.nt.1
    ·exact x9.nt.2
    ·exact Oc.lst hza9
    ·exact Oc.lst hda9
   ·obtain ⟨o1,o2⟩:=oth t' ht e;simp only [adr,List.mem_cons,List.not_mem_nil,or_false] at hm;rcases hm with rfl | rfl | rfl | rfl
    ·exact o1.oc.1
    ·exact o1.oc.2
    ·exact Oc.lst o2.hz
    ·exact Oc.lst o2.hd
  have ask9:Paired (AskM K (p :: mW A lo) ks H9) (D j).zs (D j).sts:=JY l5.pz λ v g q=>q.fr λ c o n e=>f59 c o (λ z=>n (sb4 c z)) e;have dds9:Paired (DdV H9) ((D j).dvs ++ [v]) ((D j).ds ++ [d]):=by have kt:∀a xs,H5 a= ~~~xs->H9 a= ~~~xs:=λ a xs e=>f59 _ _ (λ z=>nt4 _ z _ e) e;exact Paired.snoc (JY l5.pd λ v g q=>q.keep kt) (dv5.keep kt)
  have s9:Same H H9:=sF hp0 s5 λ c o n e=>f59 c o (λ z=>n (sb4 c z)) e;have zl4:=E5 ask9;have sl4:=sp4.sl;have hg':(D j).sts.take i ++ [g]=((D j).sts ++ [g']).take (i + 1):=by rw [List.take_append_of_le_length ⋯,eh hg]
  have L5sp:=L5.sp;clear oc5 nt4 sb4 l5 L5 f59 hda8 hza8 hdl8 b89 s78 f57 x5 x7 x8 hlo7 hsl7 st5 dv5 pt5 s5;refine ⟨_,Y,_,Y,zl,_,_,_,Y,Y,JX hzl9,f0 (f:=λ t=>V.ref (A t).za),.inl ⟨Y,_,JX hza9⟩,_,Y,_,Y,sl,_,_,_,Y,Y,JX hsl9,f0 (f:=λ t=>V.ref (A t).s),(A j).s,x,(A j).pa,b,(A j).le,ks,g',_,i + 1,Y,SI7 x9,λ v' Ha A10 s10=>⟨(A j).za,_,_,Y,Y,s10 _ _ hza9,⋯,?_⟩⟩;have am:=A10.m (K:=K) (M:=p :: mW A lo) (λ m hm=>(oc9 m hm).1) (λ m hm=>((oc9 m hm).same s10).2);have hza10:=s10 _ _ hza9;have x10:=x9.same s10;obtain ⟨H11,e11,k11,b11⟩:=nX (H:=Ha) (l:=(A j).za) (o:=.lst ((D j).zs ++ [v']));rw [show upd Ha (A j).za _=H11 from e11];have fz:FrL [(A j).za] Ha H11:=But.frL b11 (by simp);have fz':FrL (p :: mW A lo) Ha H11:=But.frL b11 (B7 _ zj);have ntz:NTs Ha [(A j).za]:=λ m hm xs e=>by rw [List.mem_singleton.mp hm,hza10] at e; cases e
  have subz:∀m∈[(A j).za],m∈p :: mW A lo:=λ m hm=>by rw [List.mem_singleton.mp hm]; exact B7 _ zj
  have nz1:∀ {c:Addr},c≠(A j).za->c∉[(A j).za]:=λ h z=>h (E4.mp z);have shz:x∉[(A j).za]:=nz1 (λ z=>shW (z ▸ zj));have kz:∀ {c:Addr},c∉mW A lo->c≠(A j).za:=λ h z=>h (z ▸ zj);refine ⟨_,_,λ t=>if t=j then ⟨(D j).zs ++ [v'],(D j).sts ++ [g'],(D j).dvs ++ [v],(D j).ds ++ [d]⟩ else D t,Y,(pt9.same s10).fr (λ o e=>b11 _ _ (Ne.symm (npa zj)) e),?_,sF hp0 (s9.trans s10) fz'⟩;have nx:∀t,t≠j->(if t < j + 1 then i + 1 else i)=(if t < j then i + 1 else i):=λ t ht=>by
   by_cases h:t < j
   ·rw [if_pos h,if_pos ⋯]
   ·rw [if_neg h,if_neg ⋯]
  have nx':(if j < j + 1 then i + 1 else i)=i + 1:=if_pos (G1 _);have hgl:((D j).sts ++ [g'])[i + 1]? = some g':=by rw [List.getElem?_append_right ⋯,sl4,Nat.sub_self]; rfl
  have rvn:∀t,(if t=j then V.int (rsC ks g') else V.int (rv ks (D t) (if t < j then i + 1 else i)))=V.int (rv ks (if t=j then (⟨(D j).zs ++ [v'],(D j).sts ++ [g'],(D j).dvs ++ [v],(D j).ds ++ [d]⟩:Da) else D t) (if t < j + 1 then i + 1 else i)):=λ t=>by
   by_cases e:t=j
   ·subst e;rw [if_pos rfl,if_pos rfl,nx',nW (g:=g') hgl]
   ·rw [if_neg e,if_neg e,nx t e]
  refine ⟨(ls9.same s10).fr fz (nz1 (kz nkW)) ntz,b11 _ _ (kz nsW) (s10 _ _ hsl9),?_,b11 _ _ (kz ndW) (s10 _ _ hdl9),b11 _ _ (kz nzW) (s10 _ _ hzl9),λ t' ht=>?_,λ t' ht=>?_,λ t' ht=>?_⟩
  ·rw [<- rvn 0,<- rvn 1];exact b11 _ _ (Ne.symm (λ z=>loz z.symm)) (s10 _ _ hlo9)
  ·by_cases e:t'=j
   ·subst e;show AtS CS C x b ks H11 (bwO (A t') (if t'=t' then _ else _)) (if t' < t' + 1 then i + 1 else i);rw [if_pos rfl,nx'];refine ⟨g',hgl,?_⟩;show StoreAt CS C H11 (A t').s x b ks (A t').le g' (((D t').sts ++ [g']).take (i + 1)) (A t').pa;rw [<- hg'];exact x10.frL fz (nz1 (Ne.symm zsj)) (nz1 (Ne.symm nzpa)) shz ntz
   ·show AtS CS C x b ks H11 (bwO (A t') (if t'=j then _ else D t')) (if t' < j + 1 then i + 1 else i);rw [if_neg e,nx t' e];have nes:=dis.ne t' j ht hj e;obtain ⟨g1,hg1,xx⟩:=(oth t' ht e).1;exact AtS.fr ⟨g1,hg1,xx.same s10⟩ fz (nz1 (nes _ (by simp [adr,bwO]) _ (by simp [adr]))) (nz1 (nes _ (by simp [adr,bwO]) _ (by simp [adr]))) shz ntz
  ·by_cases e:t'=j
   ·subst e;show SwL K _ ks H11 (A t') (if t'=t' then _ else _);rw [if_pos rfl];exact ⟨k11,Paired.snoc (JY ask9 λ v g q=>(q.fr (Same.frL s10)).fr fz') (am.fr fz'),b11 _ _ (Ne.symm nzd) (s10 _ _ hda9),JY dds9 λ v g q=>q.keep λ a xs e=>fz _ _ (λ z=>ntz _ z _ (s10 _ _ e)) (s10 _ _ e)⟩
   ·show SwL K _ ks H11 (A t') (if t'=j then _ else D t');rw [if_neg e];have nes:=dis.ne t' j ht hj e;exact (((oth t' ht e).2.fr (E:=[]) (Same.frL s10) (λ m hm=>(C4 hm).elim) (by simp) (by simp) (λ m hm=>(C4 hm).elim)).fr fz subz (nz1 (nes _ (by simp [adr]) _ (by simp [adr]))) (nz1 (nes _ (by simp [adr]) _ (by simp [adr]))) ntz)
  ·by_cases e:t'=j
   ·subst e;show SwP b ks (A t').le (if t'=t' then _ else _) (if t' < t' + 1 then i + 1 else i);rw [if_pos rfl,nx'];refine ⟨by show ((D t').sts ++ [g']).length=_; rw [List.length_append,sl4]; rfl,by show ((D t').ds ++ [d]).length=_; rw [List.length_append,dl4]; rfl,λ k gk' hk=>?_,by show ((D t').sts ++ [g'])[0]? = _; rw [List.getElem?_append_left ⋯]; exact sp4.g0,λ k ga dd gb ha hd hb=>?_⟩
    ·rcases eO sl4 hk with ⟨t1,t2⟩ | ⟨t1,t2⟩
     ·exact sp4.gi k gk' t2
     ·rw [t1,t2]; exact gi'
    ·have hb:((D t').sts ++ [g'])[k + 1]? = some gb:=hb;have ha:((D t').sts ++ [g'])[k]? = some ga:=ha;have hd:((D t').ds ++ [d])[k]? = some dd:=hd;rcases eO sl4 hb with ⟨t1,t2⟩ | ⟨t1,t2⟩
     ·rw [List.getElem?_append_left ⋯] at ha hd;exact sp4.sp k ga dd gb ha hd t2
     ·have ek:k=i:=⋯
      subst ek;rw [List.getElem?_append_left ⋯,hg] at ha;rw [List.getElem?_append_right ⋯,dl4,Nat.sub_self] at hd;cases ha;obtain rfl:d=dd:=C1 hd;rw [t2];exact ⟨od,st⟩
   ·show SwP b ks (A t').le (if t'=j then _ else D t') (if t' < j + 1 then i + 1 else i);rw [if_neg e,nx t' e];exact L5sp t' ht
 rintro _ H10 ⟨N,n4,n12,p,v10,v11,v12,D,rfl,hp0,pt10,npW,nk,nsp,ndp,nzp,L10,s10⟩;have ne1:∀ {t j:Nat},t < 2->j < 2->∀ {c:Addr},c∈[(A t).za,(A t).da]->c≠(A j).s/\c≠(A j).pa:=λ {t' j'} ht hj {c} hc=>by
  have l:=L10.li t' ht;obtain ⟨g,hg,xx⟩:=L10.st j' hj;have hl:∃xs,H10 c=↥xs:=by
   simp only [List.mem_cons,List.not_mem_nil,or_false] at hc;rcases hc with rfl | rfl
   ·exact ⟨_,l.hz⟩
   ·exact ⟨_,l.hd⟩
  obtain ⟨xs,hl⟩:=hl;refine ⟨Ne.symm (xx.ad hl).1,?_⟩
  by_cases e:t'=j'
  ·subst e;simp only [List.mem_cons,List.not_mem_nil,or_false] at hc;rcases hc with rfl | rfl
   ·exact dis.zp t' ht
   ·exact dis.dp t' ht
  ·refine dis.ne t' j' ht hj e c ?_ _ (by simp [adr]);simp only [List.mem_cons,List.not_mem_nil,or_false] at hc;rcases hc with rfl | rfl <;> simp [adr]
 have eMA:mA [bwO (A 0) (D 0),bwO (A 1) (D 1)]=[(A 0).s,(A 0).pa,(A 1).s,(A 1).pa]:=rfl;have inM:∀ {c:Addr},(∀j,j < 2->c≠(A j).s/\c≠(A j).pa)->c∉mA [bwO (A 0) (D 0),bwO (A 1) (D 1)]:=λ h=>by rw [eMA];simp only [List.mem_cons,List.not_mem_nil,or_false,not_or];exact ⟨(h 0 ∅).1,(h 0 ∅).2,(h 1 ∅).1,(h 1 ∅).2⟩
 have subM:∀m∈mA [bwO (A 0) (D 0),bwO (A 1) (D 1)],m∈mW A lo:=λ m hm=>by
  rw [eMA] at hm;simp only [List.mem_cons,List.not_mem_nil,or_false] at hm;rcases hm with rfl | rfl | rfl | rfl
  ·exact bB (t:=0) ∅ (by simp [adr])
  ·exact bB (t:=0) ∅ (by simp [adr])
  ·exact bB (t:=1) ∅ (by simp [adr])
  ·exact bB (t:=1) ∅ (by simp [adr])
 have both:∀ {p:BW->Prop},(∀t,t < 2->p (bwO (A t) (D t)))->∀w∈[bwO (A 0) (D 0),bwO (A 1) (D 1)],p w:=λ h w hw=>by
  simp only [List.mem_cons,List.not_mem_nil,or_false] at hw;rcases hw with rfl | rfl
  ·exact h 0 ∅
  ·exact h 1 ∅
 have ntM:NTs H10 (mA [bwO (A 0) (D 0),bwO (A 1) (D 1)]):=λ m hm=>(L10.oc m (subM m hm)).2;have spN:=L10.sp;refine av (λ R=>∀ (H':Hp),PotC H' p->((H' sl=↥[.ref (A 0).s,.ref (A 1).s]/\H' dl=↥[.ref (A 0).da,.ref (A 1).da]/\H' zl=↥[.ref (A 0).za,.ref (A 1).za]/\(∀t,t < 2->AtS CS C x b ks H' (bwO (A t) (D t)) ((λ _=>0) t))/\∀t,t < 2->SwL K (p :: mW A lo) ks H' (A t) (D t)))->R [↑a,↑p,⇑u,↑t,↑x,↑ll,↑sl,↑lo,↑dl,↑zl,v10,v11,v12,none,none,none,none] H') (λ Dd hR=>?_) ?_
 ·refine ⟨_,Y,_,Y,sl,zl,x,b,ks,N,N,[bwO (A 0) (D 0),bwO (A 1) (D 1)],Y,L10.hsl,L10.hzl,λ z=>nsW (subM _ z),λ z=>nzW (subM _ z),(by show 1<=2; decide),B6 2,?_,λ H11 f11 at11=>⟨_,Y,aQ (hR _ ?_ ⟨f11 _ _ (λ z=>nsW (subM _ z)) L10.hsl,f11 _ _ (λ z=>ndW (subM _ z)) L10.hdl,f11 _ _ (λ z=>nzW (subM _ z)) L10.hzl,two (at11 _ (by simp)) (at11 _ (by simp)),λ t ht=>?_⟩)⟩⟩
  ·have a01:=dis.ne 0 1 ∅ ∅ ∅;have sp':∀t,t < 2->(A t).s≠(A t).pa:=λ t ht z=>by obtain ⟨g,hg,xx⟩:=L10.st t ht;obtain ⟨_,_,_,q1,_,_,q2,_⟩:=xx.look;have q1:H10 (A t).s=_:=q1;have q2:H10 (A t).pa=_:=q2;rw [z,q2] at q1; cases q1
   have s0:=sp' 0 ∅;have s1:=sp' 1 ∅;have b1:=a01 (A 0).s (by simp [adr]) (A 1).s (by simp [adr]);have b2:=a01 (A 0).s (by simp [adr]) (A 1).pa (by simp [adr]);have b3:=a01 (A 0).pa (by simp [adr]) (A 1).s (by simp [adr]);have b4:=a01 (A 0).pa (by simp [adr]) (A 1).pa (by simp [adr]);refine ⟨by rw [eMA]; simp [s0,s1,b1,b2,b3,b4],both λ t ht=>⟨inM λ j hj=>ne1 ht hj (by simp [bwO]),(L10.li t ht).hz⟩,both λ t ht=>?_,both λ t ht=>(spN t ht).sl,both λ t ht=>JY (L10.li t ht).pz λ v g q=>q.sub λ m hm=>B7 _ (subM m hm),both L10.st,both λ t ht g hg=>?_,both λ t ht=>(spN t ht).g0,⋯,B6 _,⋯,gk,k8,b0⟩
   ·have:=E5 (L10.li t ht).pz;have:=(spN t ht).sl;show (D t).zs.length=_;lia
   ·obtain ⟨k,hk,ek⟩:=List.getElem_of_mem hg;have sl':=(spN t ht).sl;have hk:k < (D t).sts.length:=hk;exact ((spN t ht).gi k g (by rw [List.getElem?_eq_getElem hk]; exact congrArg some ek)).mono ⋯
  ·exact pt10.fr λ o e=>f11 _ _ (λ z=>npW (subM _ z)) e
  ·exact (L10.li t ht).fr f11 (λ m hm=>B7 _ (subM m hm)) (inM λ j hj=>ne1 ht hj (by simp)) (inM λ j hj=>ne1 ht hj (by simp)) ntM
 rintro H11 pt11 rp11;have rpB:∀ {n:Nat->Nat} {Hx Hy:Hp},PotC Hx p->But p Hx Hy->(Hx sl=↥[.ref (A 0).s,.ref (A 1).s]/\Hx dl=↥[.ref (A 0).da,.ref (A 1).da]/\Hx zl=↥[.ref (A 0).za,.ref (A 1).za]/\(∀t,t < 2->AtS CS C x b ks Hx (bwO (A t) (D t)) ((n) t))/\∀t,t < 2->SwL K (p :: mW A lo) ks Hx (A t) (D t))->(Hy sl=↥[.ref (A 0).s,.ref (A 1).s]/\Hy dl=↥[.ref (A 0).da,.ref (A 1).da]/\Hy zl=↥[.ref (A 0).za,.ref (A 1).za]/\(∀t,t < 2->AtS CS C x b ks Hy (bwO (A t) (D t)) ((n) t))/\∀t,t < 2->SwL K (p :: mW A lo) ks Hy (A t) (D t)):=λ {n Hx Hy} ptx bx ⟨a1,a2,a3,a4,a5⟩=>by
  obtain ⟨xs,hpx⟩:=fi ptx;have fe:FrL [p] Hx Hy:=But.frL bx (by simp);have nt:NTs Hx [p]:=λ m hm xs e=>by rw [List.mem_singleton.mp hm,hpx] at e; cases e
  have nm:∀ {c:Addr},c∈mW A lo->c∉[p]:=λ h z=>npW (by rw [<- List.mem_singleton.mp z]; exact h);refine ⟨bx _ _ nsp a1,bx _ _ ndp a2,bx _ _ nzp a3,λ t ht=>?_,λ t ht=>(a5 t ht).fr fe (λ m hm=>by rw [List.mem_singleton.mp hm]; exact C0) (nm (bB ht (by simp [adr]))) (nm (bB ht (by simp [adr]))) nt⟩;obtain ⟨g,hg,xx⟩:=a4 t ht;exact ⟨g,hg,xx.but ptx bx (λ z=>npW (z ▸ bB ht (by simp [adr,bwO])))⟩
 have rpS:∀ {n:Nat->Nat} {Hx Hy:Hp},Same Hx Hy->(Hx sl=↥[.ref (A 0).s,.ref (A 1).s]/\Hx dl=↥[.ref (A 0).da,.ref (A 1).da]/\Hx zl=↥[.ref (A 0).za,.ref (A 1).za]/\(∀t,t < 2->AtS CS C x b ks Hx (bwO (A t) (D t)) ((n) t))/\∀t,t < 2->SwL K (p :: mW A lo) ks Hx (A t) (D t))->(Hy sl=↥[.ref (A 0).s,.ref (A 1).s]/\Hy dl=↥[.ref (A 0).da,.ref (A 1).da]/\Hy zl=↥[.ref (A 0).za,.ref (A 1).za]/\(∀t,t < 2->AtS CS C x b ks Hy (bwO (A t) (D t)) ((n) t))/\∀t,t < 2->SwL K (p :: mW A lo) ks Hy (A t) (D t)):=λ {n Hx Hy} sx ⟨a1,a2,a3,a4,a5⟩=>by refine ⟨sx _ _ a1,sx _ _ a2,sx _ _ a3,λ t ht=>?_,λ t ht=>(a5 t ht).fr (E:=[]) (Same.frL sx) (λ m hm=>(C4 hm).elim) (by simp) (by simp) (λ m hm=>(C4 hm).elim)⟩;obtain ⟨g,hg,xx⟩:=a4 t ht;exact ⟨g,hg,xx.same sx⟩
 refine av (λ R=>∀ (H':Hp),PotC H' p->((H' sl=↥[.ref (A 0).s,.ref (A 1).s]/\H' dl=↥[.ref (A 0).da,.ref (A 1).da]/\H' zl=↥[.ref (A 0).za,.ref (A 1).za]/\(∀t,t < 2->AtS CS C x b ks H' (bwO (A t) (D t)) ((λ _=>0) t))/\∀t,t < 2->SwL K (p :: mW A lo) ks H' (A t) (D t)))->R [↑a,↑p,⇑u,↑t,↑x,↑ll,↑sl,↑lo,↑dl,↑zl,v10,v11,v12,none,none,none,none] H') (λ Dd hR=>?_) ?_
 ·refine ⟨_,Y,p,4,Y,pt11,∅,∅,λ r H12 r0 r1 pt12 b12=>⟨Y,_,Y,?_⟩⟩;have rp12:=rpB pt11 b12 rp11;refine cP (λ cc=>?_) (λ cc=>aQ (hR _ pt12 rp12));obtain ⟨g,hg,xx⟩:=rp12.2.2.2.1 0 ∅;exact ⟨_,Y,_,Y,_,Y,p,x,b,u,ks,Y,pt12,xx.shop,gk,k8,b0,u1,u2,λ H13 pt13 b13=>⟨_,Y,aQ (hR _ pt13 (rpB pt12 b13 rp12))⟩⟩
 clear rp11 pt11;clear H11;rintro H11 pt11 rp11;have rpE:∀ {n n':Nat->Nat} {Hx:Hp},(∀s,n s=n' s)->(Hx sl=↥[.ref (A 0).s,.ref (A 1).s]/\Hx dl=↥[.ref (A 0).da,.ref (A 1).da]/\Hx zl=↥[.ref (A 0).za,.ref (A 1).za]/\(∀t,t < 2->AtS CS C x b ks Hx (bwO (A t) (D t)) (n t))/\∀t,t < 2->SwL K (p :: mW A lo) ks Hx (A t) (D t))->(Hx sl=↥[.ref (A 0).s,.ref (A 1).s]/\Hx dl=↥[.ref (A 0).da,.ref (A 1).da]/\Hx zl=↥[.ref (A 0).za,.ref (A 1).za]/\(∀t,t < 2->AtS CS C x b ks Hx (bwO (A t) (D t)) (n' t))/\∀t,t < 2->SwL K (p :: mW A lo) ks Hx (A t) (D t)):=λ e h=>⟨h.1,h.2.1,h.2.2.1,λ t ht=>e t ▸ h.2.2.2.1 t ht,h.2.2.2.2⟩
 refine aW (λ σ' H'=>∃v10 v13 v14 v15,σ'=[↑a,↑p,⇑u,↑t,↑x,↑ll,↑sl,↑lo,↑dl,↑zl,v10,v11,v12,v13,v14,v15,none]/\PotC H' p/\(H' sl=↥[.ref (A 0).s,.ref (A 1).s]/\H' dl=↥[.ref (A 0).da,.ref (A 1).da]/\H' zl=↥[.ref (A 0).za,.ref (A 1).za]/\(∀t,t < 2->AtS CS C x b ks H' (bwO (A t) (D t)) ((λ _=>N) t))/\∀t,t < 2->SwL K (p :: mW A lo) ks H' (A t) (D t))) (λ R hR=>?_) ?_
 ·refine ⟨_,Y,_,Y,_,Y,sl,dl,zl,_,_,_,Y,rp11.1,rp11.2.1,rp11.2.2.1,qO (xs:=[V.ref (A 0).s,V.ref (A 1).s]) (ys:=[V.ref (A 0).da,V.ref (A 1).da]) (zs:=[V.ref (A 0).za,V.ref (A 1).za]) (λ j σ' H'=>∃v10 v13 v14 v15,σ'=[↑a,↑p,⇑u,↑t,↑x,↑ll,↑sl,↑lo,↑dl,↑zl,v10,v11,v12,v13,v14,v15,none]/\PotC H' p/\(H' sl=↥[.ref (A 0).s,.ref (A 1).s]/\H' dl=↥[.ref (A 0).da,.ref (A 1).da]/\H' zl=↥[.ref (A 0).za,.ref (A 1).za]/\(∀t,t < 2->AtS CS C x b ks H' (bwO (A t) (D t)) ((λ s=>if s < j then N else 0) t))/\∀t,t < 2->SwL K (p :: mW A lo) ks H' (A t) (D t))) rfl rfl ⟨_,_,_,_,Y,pt11,rp11⟩ (λ j σ Hx ⟨_,_,_,_,_,_,r1,r2,r3,_⟩=>⟨r1,r2,r3⟩) ?_ (λ σ Hx ⟨v10,v13,v14,v15,e,ptx,r1,r2,r3,r4,r5⟩=>hR _ _ ⟨v10,v13,v14,v15,e,ptx,r1,r2,r3,λ t ht=>by have:=r4 t ht; simp only [show t < [V.ref (A 0).s,V.ref (A 1).s].length from ht,if_true] at this; exact this,r5⟩)⟩;rintro j y1 y2 y3 q0 σ Hx h1 h2 h3 hq ⟨v10,v13,v14,v15,rfl,ptx,rpx⟩;have hj:j < 2:=(A9.mp h1).1;have g1:∀ {f:Nat->V} {y:V},[f 0,f 1][j]? = some y->y=f j:=λ {f y} h=>by
   match j,hj with
   | 0,_=>exact (C1 h).symm
   | 1,_=>exact (C1 h).symm
  obtain rfl:=g1 (f:=λ t=>V.ref (A t).s) h1;obtain rfl:=g1 (f:=λ t=>V.ref (A t).da) h2;obtain rfl:=g1 (f:=λ t=>V.ref (A t).za) h3;have sq:Same Hx (upd Hx q0 (.tup [.ref (A j).s,.ref (A j).da,.ref (A j).za])):=JV hq;refine ⟨q0,_,Y,JW af,Y,_,_,Y,_,_,Y,_,_,Y,Y,?_⟩;generalize upd Hx q0 (.tup [.ref (A j).s,.ref (A j).da,.ref (A j).za])=Hy at sq ⊢;have rpy:=rpS sq rpx;have pty:=ptx.same sq;have spj:=spN j hj;have pdl:=E5 (rpy.2.2.2.2 j hj).pd;have dlj:=spj.dl;have slj:=spj.sl;refine ⟨_,Y,(A j).da,_,Y,.inl (JX (rpy.2.2.2.2 j hj).hd),_,Y,⋯,⋯,?_⟩;rw [show (((D j).dvs.length:Int)).toNat=N by lia];refine cR (n:=N) (λ k σ' H'=>∃v10,σ'=[↑a,↑p,⇑u,↑t,↑x,↑ll,↑sl,↑lo,↑dl,↑zl,v10,v11,v12,some (.ref (A j).s),some (.ref (A j).da),some (.ref (A j).za),none]/\PotC H' p/\(H' sl=↥[.ref (A 0).s,.ref (A 1).s]/\H' dl=↥[.ref (A 0).da,.ref (A 1).da]/\H' zl=↥[.ref (A 0).za,.ref (A 1).za]/\(∀t,t < 2->AtS CS C x b ks H' (bwO (A t) (D t)) ((λ s=>if s < j then N else if s=j then k else 0) t))/\∀t,t < 2->SwL K (p :: mW A lo) ks H' (A t) (D t))) ⟨_,rfl,pty,rpE (λ s=>by by_cases e:s < j <;> simp [e]) rpy⟩ ?_ ?_
  rotate_left
  ·rintro σ Hz ⟨v10,rfl,ptz,rpz⟩;refine ⟨_,_,_,_,Y,ptz,rpE (λ s=>?_) rpz⟩
   by_cases e:s < j
   ·rw [if_pos e,if_pos ⋯]
   ·by_cases e2:s=j
    ·rw [if_neg e,if_pos e2,if_pos ⋯]
    ·rw [if_neg e,if_neg e2,if_neg ⋯]
  clear rpy pty rpx ptx sq;rintro k σ Hx hk ⟨v10,rfl,ptx,rpx⟩;have nk':(if j < j then N else if j=j then k else 0)=k:=by rw [if_neg (Nat.lt_irrefl _),if_pos rfl]
  have stx:AtS CS C x b ks Hx (bwO (A j) (D j)) (if j < j then N else if j=j then k else 0):=rpx.2.2.2.1 j hj;rw [nk'] at stx;obtain ⟨g,hg,xx⟩:=stx;have hg:(D j).sts[k]? = some g:=hg;have xx:StoreAt CS C Hx (A j).s x b ks (A j).le g ((D j).sts.take k) (A j).pa:=xx;have lx:=rpx.2.2.2.2 j hj;obtain ⟨d,hd⟩:∃d,(D j).ds[k]? = some d:=⟨_,G2 ⋯⟩
  obtain ⟨v,hv,dv⟩:=Paired.getL lx.pd hd;obtain ⟨g',hg'⟩:∃g',(D j).sts[k + 1]? = some g':=⟨_,G2 ⋯⟩
  obtain ⟨od,st⟩:=spj.sp k g d g' hg hd hg';have gi:=(spj.gi k g hg).mono (show k<=N by lia);have gi':=(spj.gi (k + 1) g' hg').mono (show k + 1<=N by lia);have tkl:∀ {m:Nat},m<=N->((D j).sts.take m).length<=N:=λ h=>by rw [List.length_take]; lia
  refine av (λ R=>∀ (H':Hp),PotC H' p->((H' sl=↥[.ref (A 0).s,.ref (A 1).s]/\H' dl=↥[.ref (A 0).da,.ref (A 1).da]/\H' zl=↥[.ref (A 0).za,.ref (A 1).za]/\(∀t,t < 2->AtS CS C x b ks H' (bwO (A t) (D t)) ((λ s=>if s < j then N else if s=j then k + 1 else 0) t))/\∀t,t < 2->SwL K (p :: mW A lo) ks H' (A t) (D t)))->R [↑a,↑p,⇑u,↑t,↑x,↑ll,↑sl,↑lo,↑dl,↑zl,⇑(0 + (k:Int)),v11,v12,some (.ref (A j).s),some (.ref (A j).da),some (.ref (A j).za),none] H') (λ Dd hR=>?_) ?_
  ·refine ⟨_,Y,_,Y,_,Y,(A j).da,_,_,_,Y,Y,JX lx.hd,aK ⋯ (by rw [show (0 + (k:Int)).toNat=k by lia]; exact hv),(A j).s,x,(A j).pa,b,(A j).le,ks,g,_,N,v,d,Y,⟨xx,gi,tkl ⋯,⋯,gk,k8,b0⟩,dv,od,λ g2 r Hy st2 xy fy _=>hR _ ?_ ?_⟩
   ·exact ptx.fr λ o e=>fy _ _ (λ z=>npW (z ▸ bB hj (by simp [adr]))) (λ z=>npW (z ▸ bB hj (by simp [adr]))) e
   ·obtain rfl:=Stp.det st st2;have sj:(A j).s∈mW A lo:=bB hj (by simp [adr]);have pj:(A j).pa∈mW A lo:=bB hj (by simp [adr]);have fL:FrL [(A j).s,(A j).pa] Hx Hy:=FrS.frL fy (by simp) (by simp);have ntx:NTs Hx [(A j).s,(A j).pa]:=λ m hm=>by
     simp only [List.mem_cons,List.not_mem_nil,or_false] at hm;rcases hm with rfl | rfl
     ·exact xx.nt.1.2
     ·exact xx.nt.2.2
    have sbx:∀m∈[(A j).s,(A j).pa],m∈p :: mW A lo:=λ m hm=>by
     simp only [List.mem_cons,List.not_mem_nil,or_false] at hm;rcases hm with rfl | rfl
     ·exact B7 _ sj
     ·exact B7 _ pj
    have n2:∀ {c:Addr},c≠(A j).s/\c≠(A j).pa->c∉[(A j).s,(A j).pa]:=λ h=>by simp [h.1,h.2]
    refine ⟨fy _ _ (λ z=>nsW (z ▸ sj)) (λ z=>nsW (z ▸ pj)) rpx.1,fy _ _ (λ z=>ndW (z ▸ sj)) (λ z=>ndW (z ▸ pj)) rpx.2.1,fy _ _ (λ z=>nzW (z ▸ sj)) (λ z=>nzW (z ▸ pj)) rpx.2.2.1,λ t' ht=>?_,λ t' ht=>(rpx.2.2.2.2 t' ht).fr fL sbx (n2 (ne1 ht hj (by simp))) (n2 (ne1 ht hj (by simp))) ntx⟩;show AtS CS C x b ks Hy (bwO (A t') (D t')) (if t' < j then N else if t'=j then k + 1 else 0)
    by_cases e:t'=j
    ·subst e;rw [if_neg (Nat.lt_irrefl _),if_pos rfl];exact ⟨_,hg',by show StoreAt CS C Hy (A t').s x b ks (A t').le _ ((D t').sts.take (k + 1)) (A t').pa; rw [eh hg]; exact xy⟩
    ·obtain ⟨g3,hg3,x3⟩:=rpx.2.2.2.1 t' ht;have nes:=dis.ne t' j ht hj e;rw [if_neg e];have hg3:(bwO (A t') (D t')).sts[if t' < j then N else if t'=j then k else 0]? = some g3:=hg3;have x3:StoreAt CS C Hx (A t').s x b ks (A t').le g3 ((D t').sts.take (if t' < j then N else if t'=j then k else 0)) (A t').pa:=x3;rw [if_neg e] at hg3 x3;exact ⟨g3,hg3,x3.fr xx fy (nes _ (by simp [adr]) _ (by simp [adr])) (nes _ (by simp [adr]) _ (by simp [adr])) (nes _ (by simp [adr]) _ (by simp [adr])) (nes _ (by simp [adr]) _ (by simp [adr]))⟩
  clear rpx ptx lx dv;rintro Hx ptx rpx;have stx:AtS CS C x b ks Hx (bwO (A j) (D j)) (if j < j then N else if j=j then k + 1 else 0):=rpx.2.2.2.1 j hj;rw [if_neg (Nat.lt_irrefl _),if_pos rfl] at stx;have xx:StoreAt CS C Hx (A j).s x b ks (A j).le g' ((D j).sts.take (k + 1)) (A j).pa:=by obtain ⟨g2,h2',xx⟩:=stx;rw [show (bwO (A j) (D j)).sts[k + 1]? = some g' from hg'] at h2';cases h2';exact xx
  obtain ⟨ok1,ok2,ok3,ok4⟩:=nV gi' ⋯ gk k8;refine ⟨_,Y,(A j).s,x,(A j).pa,b,(A j).le,ks,g',_,N,Y,⟨xx,gi',tkl ⋯,⋯,gk,k8,b0⟩,λ v5 H5 A5 s5=>?_⟩;obtain ⟨a5,rfl,d5⟩:=A5.m (K:=K) (M:=[]) (λ _ h=>(C4 h).elim) (λ _ h=>(C4 h).elim) H5 FrL.refl;refine ⟨a5,fo ks g',Y,d5,ok1,ok2,ok3,ok4,?_⟩;have rp5:=rpS s5 rpx;obtain ⟨zv,hzv,ask⟩:=Paired.getL (rp5.2.2.2.2 j hj).pz hg';obtain ⟨az,rfl,dz⟩:=ask H5 FrL.refl;refine ⟨_,Y,_,Y,_,_,Y,Y,(A j).za,_,_,_,Y,Y,JX (rp5.2.2.2.2 j hj).hz,aK ⋯ (by rw [show (0 + (k:Int) + 1).toNat=k + 1 by lia]; exact hzv),az,fo ks g',Y,dz,ok1,ok2,ok3,ok4,Y,_,Y,?_⟩;rw [show (!decide (V.str (fo ks g').shown=V.str (fo ks g').shown))=false by rw [decide_eq_true rfl]; rfl];exact aQ ⟨_,rfl,ptx.same s5,rp5⟩
 rintro _ H12 ⟨v10,v13,v14,v15,rfl,pt12,_⟩;refine av (λ R=>∀ (fa:Int) (H':Hp),fa < 0->R [↑a,↑p,⇑u,↑t,↑x,↑ll,↑sl,↑lo,↑dl,↑zl,v10,v11,v12,v13,v14,v15,⇑fa] H') (λ Dd hR=>?_) ?_
 ·exact ⟨1,Y,_,Y,_,_,Y,Y,⟨∅,∅,∅⟩,p,_,Y,pt12,(by show (0:Int) < 10 ^ (59:Int).toNat; decide),(by show (10:Int) ^ (59:Int).toNat<=10 ^ 60; decide),λ r H13 r0 r1 pt13 b13=>⟨_,_,Y,Y,hR (-1 - r) _ ⋯⟩⟩
 rintro fa H13 fa0;refine ⟨1,Y,zS1,λ o1 ho1=>?_⟩;obtain ⟨H14,e14,k14,s14⟩:∃H',upd H13 o1 (.lst [.int 1])=H'/\H' o1=↥[.int 1]/\Same H13 H':=⟨_,Y,af,JV ho1⟩
 rw [show upd H13 o1 _=H14 from e14]; clear e14;refine ⟨zS1,λ o2 ho2=>?_⟩;obtain ⟨H15,e15,k15,s15⟩:∃H',upd H14 o2 (.tup [.int 1])=H'/\H' o2= ~~~[.int 1]/\Same H14 H':=⟨_,Y,af,JV ho2⟩
 rw [show upd H14 o2 _=H15 from e15]; clear e15;refine λ o3 ho3=>?_;obtain ⟨H16,e16,k16,s16⟩:∃H',upd H15 o3 (.dK [])=H'/\H' o3=some (.dK [])/\Same H15 H':=⟨_,Y,af,JV ho3⟩
 rw [show upd H15 o3 _=H16 from e16]; clear e16;refine ⟨_,Y,zS11,λ tt htt=>?_⟩;obtain ⟨H17, e17, k17, s17⟩:∃H', upd H16 tt (.tup [.non, .bl true, .bl false, .int 0, .int (-1), .str "1", .str "", .ref o1, .ref o2, .ref o3, .int fa])=H'/\H' tt=some (.tup [.non, .bl true, .bl false, .int 0, .int (-1), .str "1", .str "", .ref o1, .ref o2, .ref o3, .int fa])/\Same H16 H':=⟨_, Y, af, JV htt⟩
 rw [show upd H16 tt _=H17 from e17]; clear e17;have odd:∀y∈[V.non,.bl true,.bl false,.int 0,.int (-1),.str "1",.str "",.ref o1,.ref o2,.ref o3,.int fa],∃T,Ty K H17 y T/\aU y 1=false:=λ y hy=>by
  simp only [List.mem_cons,List.not_mem_nil,or_false] at hy;rcases hy with rfl | rfl | rfl | rfl | rfl | rfl | rfl | rfl | rfl | rfl | rfl
  ·exact ⟨_,Ty.non,Y⟩
  ·exact ⟨_,Ty.bl,Y⟩
  ·exact ⟨_,Ty.bl,Y⟩
  ·exact ⟨_,Ty.int,Y⟩
  ·exact ⟨_,Ty.int,Y⟩
  ·exact ⟨_,Ty.str,Y⟩
  ·exact ⟨_,Ty.str,Y⟩
  ·exact ⟨_,Ty.lst (s17 _ _ (s16 _ _ (s15 _ _ k14))),Y⟩
  ·exact ⟨_,Ty.tup (s17 _ _ (s16 _ _ k15)),Y⟩
  ·exact ⟨_,Ty.dK (s17 _ _ k16),Y⟩
  ·exact ⟨_,Ty.int,B4 ⋯⟩
 refine ⟨tt,Y,⟨_,JW k17⟩,(bn (K:=K) (.inr k17) (λ i ys Hx=>Same H17 Hx/\ys=List.replicate i (.bl true)) (λ i ys Hx _ ⟨sx,_⟩ o e=>sx _ _ e) ⟨Same.refl _,Y⟩ ?_ ?_).2 k17⟩
 ·rintro j y ys Hx hj ⟨sx,rfl⟩;have hjn:=(A9.mp hj).1;have hj11:j < 11:=hjn;obtain ⟨T,ty,nw⟩:=odd y (B8 hj);refine ⟨by rw [List.length_replicate]; lia,leS.set rfl,bD ?_⟩;refine ⟨_,Y,_,Y,x,y,T,Y,Ty.same sx ty,nw,λ Hy sy=>Nx.of hjn ⟨sx.trans sy,?_⟩⟩;rw [List.replicate_succ']
 ·rintro ys Hx ⟨sx,rfl⟩;refine ⟨zS11,λ lc hlc=>?_⟩;refine ⟨lc,List.replicate 11 true,Y,JX (by rw [af,List.map_replicate]; rfl),?_⟩;exact q _
end
theorem Hk {α:Type} {us:List α} (h:us.length=1):∃a,us=[a]:=by
 match us,h with
 | [a],_=>exact ⟨a,Y⟩
theorem xa {α:Type} {us:List α} (h:us.length=2):∃a b,us=[a,b]:=by
 match us,h with
 | [a,b],_=>exact ⟨a,b,Y⟩
theorem xc {α:Type} {us:List α} (h:us.length=3):∃a b c,us=[a,b,c]:=by
 match us,h with
 | [a,b,c],_=>exact ⟨a,b,c,Y⟩
theorem Hl {α:Type} {us:List α} (h:us.length=4):∃a b c d,us=[a,b,c,d]:=by
 match us,h with
 | [a,b,c,d],_=>exact ⟨a,b,c,d,Y⟩
theorem Hm {α:Type} {us:List α} (h:us.length=5):∃a b c d e,us=[a,b,c,d,e]:=by
 match us,h with
 | [a,b,c,d,e],_=>exact ⟨a,b,c,d,e,Y⟩
abbrev DI (K:C8) (n:Str) (st:Stmt) (f:Addr):Prop:=∃ (od an:Option Addr) (sl:Array (Option JU)) (oc kV dc pm cd ct:JU),PySem.W.nsIn K mainGlobals n=some (↑f)/\K.lookup f=some ⟨oc,od,.func (E8 n n (defArgs st) (defBody st) (defScope st) .none kV dc pm an cd ct),sl⟩/\PySem.W.codeIn K cd n=true/\PySem.W.keepIn K (.ref f)=true
abbrev MI (K:C8) (C:Addr) (n q:Str) (st:Stmt) (f:Addr):Prop:=∃ (od an:Option Addr) (sl:Array (Option JU)) (oc kV dc pm cd ct:JU),PySem.W.findIn K (.ref C) n=some (↑f)/\PySem.W.isFn K (.ref f)=true/\K.lookup f=some ⟨oc,od,.func (E8 n q (defArgs st) (defBody st) (defScope st) .none kV dc pm an cd ct),sl⟩/\PySem.W.codeIn K cd q=true/\PySem.W.keepIn K (.ref f)=true
theorem diM {K:C8} {n:Str} {st:Stmt} {f:Addr} {od an:Option Addr} {sl:Array (Option JU)} {oc kV dc pm cd ct:JU} (a:PySem.W.nsIn K mainGlobals n=some (↑f)) (l:K.lookup f=some ⟨oc,od,.func (E8 n n (defArgs st) (defBody st) (defScope st) .none kV dc pm an cd ct),sl⟩) (c:PySem.W.codeIn K cd n=true) (k:PySem.W.keepIn K (.ref f)=true):DI K n st f:=⟨_,_,_,_,_,_,_,_,_,a,l,c,k⟩
theorem miM {K:C8} {C:Addr} {n q:Str} {st:Stmt} {f:Addr} {od an:Option Addr} {sl:Array (Option JU)} {oc kV dc pm cd ct:JU} (a:PySem.W.findIn K (.ref C) n=some (↑f)) (i:PySem.W.isFn K (.ref f)=true) (l:K.lookup f=some ⟨oc,od,.func (E8 n q (defArgs st) (defBody st) (defScope st) .none kV dc pm an cd ct),sl⟩) (c:PySem.W.codeIn K cd q=true) (k:PySem.W.keepIn K (.ref f)=true):MI K C n q st f:=⟨_,_,_,_,_,_,_,_,_,a,i,l,c,k⟩
inductive DE (K:C8) (mg:Str->Option Value) (n:Str) (st:Stmt) (f:Addr) (ps:List Str):Prop
 | mk (fd:I9) (F:Fun K n n st f fd) (b:Binds K fd ps []) (k:PySem.W.keepIn K (.ref f)=true) (q:mg n=↑f):DE K mg n st f ps
theorem diE {K:C8} {h:Heap} {mg:Str->Option JU} {n:Str} {st:Stmt} {f:Addr} (X:K.In h) (G:h.Ns mainGlobals mg) (d:DI K n st f) (ps:List Str) (hb:∀ (kV dc pm:JU) (an:Option Addr) (cd ct:JU) (us:List JU),us.length=ps.length->bindArgs (E8 n n (defArgs st) (defBody st) (defScope st) .none kV dc pm an cd ct) ⟨us,[]⟩=pure (ps.zip us)):DE K mg n st f ps:=by obtain ⟨_,_,_,_,_,_,_,_,_,a,l,c,k⟩:=d;have F:=kP (st:=st) l c k;exact ⟨_,F,F.binds hb,k,PySem.W.mg_of X G a⟩
inductive ME (K:C8) (C:Addr) (n q:Str) (st:Stmt) (f:Addr) (ps:List Str):Prop
 | mk (fd:I9) (F:Fun K n q st f fd) (b:Binds K fd ps []) (k:PySem.W.keepIn K (.ref f)=true) (a:PySem.W.findIn K (.ref C) n=some (↑f)) (i:PySem.W.isFn K (.ref f)=true):ME K C n q st f ps
theorem miE {K:C8} {C:Addr} {n q:Str} {st:Stmt} {f:Addr} (d:MI K C n q st f) (ps:List Str) (hb:∀ (kV dc pm:JU) (an:Option Addr) (cd ct:JU) (us:List JU),us.length=ps.length->bindArgs (E8 n q (defArgs st) (defBody st) (defScope st) .none kV dc pm an cd ct) ⟨us,[]⟩=pure (ps.zip us)):ME K C n q st f ps:=by obtain ⟨_,_,_,_,_,_,_,_,_,a,i,l,c,k⟩:=d;have F:=kP (st:=st) l c k;exact ⟨_,F,F.binds hb,k,a,i⟩
theorem bd1 {n q:Str} {st:Stmt} {a:Str} (h:∀ (kV dc pm:JU) (an:Option Addr) (cd ct ua:JU),bindArgs (E8 n q (defArgs st) (defBody st) (defScope st) .none kV dc pm an cd ct) ⟨[ua],[]⟩=pure [(a,ua)]):∀ (kV dc pm:JU) (an:Option Addr) (cd ct:JU) (us:List JU),us.length=[a].length->bindArgs (E8 n q (defArgs st) (defBody st) (defScope st) .none kV dc pm an cd ct) ⟨us,[]⟩=pure ([a].zip us):=by intro _ _ _ _ _ _ us hl;obtain ⟨_,rfl⟩:=Hk hl;exact h _ _ _ _ _ _ _
theorem bd2 {n q:Str} {st:Stmt} {a b:Str} (h:∀ (kV dc pm:JU) (an:Option Addr) (cd ct ua ub:JU),bindArgs (E8 n q (defArgs st) (defBody st) (defScope st) .none kV dc pm an cd ct) ⟨[ua,ub],[]⟩=pure [(a,ua),(b,ub)]):∀ (kV dc pm:JU) (an:Option Addr) (cd ct:JU) (us:List JU),us.length=[a,b].length->bindArgs (E8 n q (defArgs st) (defBody st) (defScope st) .none kV dc pm an cd ct) ⟨us,[]⟩=pure ([a,b].zip us):=by intro _ _ _ _ _ _ us hl;obtain ⟨_,_,rfl⟩:=xa hl;exact h _ _ _ _ _ _ _ _
theorem bd3 {n q:Str} {st:Stmt} {a b c:Str} (h:∀ (kV dc pm:JU) (an:Option Addr) (cd ct ua ub uc:JU),bindArgs (E8 n q (defArgs st) (defBody st) (defScope st) .none kV dc pm an cd ct) ⟨[ua,ub,uc],[]⟩=pure [(a,ua),(b,ub),(c,uc)]):∀ (kV dc pm:JU) (an:Option Addr) (cd ct:JU) (us:List JU),us.length=[a,b,c].length->bindArgs (E8 n q (defArgs st) (defBody st) (defScope st) .none kV dc pm an cd ct) ⟨us,[]⟩=pure ([a,b,c].zip us):=by intro _ _ _ _ _ _ us hl;obtain ⟨_,_,_,rfl⟩:=xc hl;exact h _ _ _ _ _ _ _ _ _
theorem bd4 {n q:Str} {st:Stmt} {a b c d:Str} (h:∀ (kV dc pm:JU) (an:Option Addr) (cd ct ua ub uc ud:JU),bindArgs (E8 n q (defArgs st) (defBody st) (defScope st) .none kV dc pm an cd ct) ⟨[ua,ub,uc,ud],[]⟩=pure [(a,ua),(b,ub),(c,uc),(d,ud)]):∀ (kV dc pm:JU) (an:Option Addr) (cd ct:JU) (us:List JU),us.length=[a,b,c,d].length->bindArgs (E8 n q (defArgs st) (defBody st) (defScope st) .none kV dc pm an cd ct) ⟨us,[]⟩=pure ([a,b,c,d].zip us):=by intro _ _ _ _ _ _ us hl;obtain ⟨_,_,_,_,rfl⟩:=Hl hl;exact h _ _ _ _ _ _ _ _ _ _
theorem bd5 {n q:Str} {st:Stmt} {a b c d e:Str} (h:∀ (kV dc pm:JU) (an:Option Addr) (cd ct ua ub uc ud ue:JU),bindArgs (E8 n q (defArgs st) (defBody st) (defScope st) .none kV dc pm an cd ct) ⟨[ua,ub,uc,ud,ue],[]⟩=pure [(a,ua),(b,ub),(c,uc),(d,ud),(e,ue)]):∀ (kV dc pm:JU) (an:Option Addr) (cd ct:JU) (us:List JU),us.length=[a,b,c,d,e].length->bindArgs (E8 n q (defArgs st) (defBody st) (defScope st) .none kV dc pm an cd ct) ⟨us,[]⟩=pure ([a,b,c,d,e].zip us):=by intro _ _ _ _ _ _ us hl;obtain ⟨_,_,_,_,_,rfl⟩:=Hm hl;exact h _ _ _ _ _ _ _ _ _ _ _
theorem lx6 {α:Type} {us:List α} (h:us.length=6):∃a b c d e f,us=[a,b,c,d,e,f]:=by
 match us,h with
 | [a,b,c,d,e,f],_=>exact ⟨a,b,c,d,e,f,Y⟩
theorem bd6 {n q:Str} {st:Stmt} {a b c d e f:Str} (h:∀ (kV dc pm:JU) (an:Option Addr) (cd ct ua ub uc ud ue uf:JU),bindArgs (E8 n q (defArgs st) (defBody st) (defScope st) .none kV dc pm an cd ct) ⟨[ua,ub,uc,ud,ue,uf],[]⟩=pure [(a,ua),(b,ub),(c,uc),(d,ud),(e,ue),(f,uf)]):∀ (kV dc pm:JU) (an:Option Addr) (cd ct:JU) (us:List JU),us.length=[a,b,c,d,e,f].length->bindArgs (E8 n q (defArgs st) (defBody st) (defScope st) .none kV dc pm an cd ct) ⟨us,[]⟩=pure ([a,b,c,d,e,f].zip us):=by intro _ _ _ _ _ _ us hl;obtain ⟨_,_,_,_,_,_,rfl⟩:=lx6 hl;exact h _ _ _ _ _ _ _ _ _ _ _ _
theorem lx7 {α:Type} {us:List α} (h:us.length=7):∃a b c d e f g,us=[a,b,c,d,e,f,g]:=by
 match us,h with
 | [a,b,c,d,e,f,g],_=>exact ⟨a,b,c,d,e,f,g,Y⟩
theorem bd7 {n q:Str} {st:Stmt} {a b c d e f g:Str} (h:∀ (kV dc pm:JU) (an:Option Addr) (cd ct ua ub uc ud ue uf ug:JU),bindArgs (E8 n q (defArgs st) (defBody st) (defScope st) .none kV dc pm an cd ct) ⟨[ua,ub,uc,ud,ue,uf,ug],[]⟩=pure [(a,ua),(b,ub),(c,uc),(d,ud),(e,ue),(f,uf),(g,ug)]):∀ (kV dc pm:JU) (an:Option Addr) (cd ct:JU) (us:List JU),us.length=[a,b,c,d,e,f,g].length->bindArgs (E8 n q (defArgs st) (defBody st) (defScope st) .none kV dc pm an cd ct) ⟨us,[]⟩=pure ([a,b,c,d,e,f,g].zip us):=by intro _ _ _ _ _ _ us hl;obtain ⟨_,_,_,_,_,_,_,rfl⟩:=lx7 hl;exact h _ _ _ _ _ _ _ _ _ _ _ _ _
theorem IY {α:Type} {us:List α} (h:us.length=6):∃a b c d e f,us=[a,b,c,d,e,f]:=by
 match us,h with
 | [a,b,c,d,e,f],_=>exact ⟨a,b,c,d,e,f,Y⟩
theorem IZ {α:Type} {us:List α} (h:us.length=7):∃a b c d e f g,us=[a,b,c,d,e,f,g]:=by
 match us,h with
 | [a,b,c,d,e,f,g],_=>exact ⟨a,b,c,d,e,f,g,Y⟩
open PySem.W in
theorem all_mk {l:OpenLaw} {w:JT} {K:Frag} {h:Heap} {mg:Str->Option JU} {fa f0 f1 f2 f3 f4 f5 f6 f7 f8 f9 f10 f11 f12 f13 f14 f15 f16 f17 f18 f19 f20 f21 f22 f23 f24 f25 f26 f27 f28 f29 f30 f31 f32 f33 f34 f35 f36 f37 f38 f39 C fm0 fm1 fm2 fm3 fm4 CS fo0 fo1 fo2 fo3 fo4 fo5 fo6 fo7 fo8 xWAYS xNoNumber:Addr} (X:K.In h) (G:h.Ns mainGlobals mg) (hfa:mg "law" = ↑fa)
  {tc0:Tok} {tc1:Tok} {tc2:Tok} {tc3:Tok} {tc4:Tok} {tc5:Tok} {tc6:Tok} {tc7:Tok}
  (d0:DI K "is_whole" ja f0)
  (d1:DI K "is_truth" jb f1)
  (d2:DI K "is_row" tO f2)
  (d3:DI K "is_kind" gu f3)
  (d4:DI K "can_lie_turned" gv f4)
  (d5:DI K "check_plate" cL f5)
  (d6:DI K "lies_in" gq f6)
  (d7:DI K "cut_parts" dU f7)
  (d8:DI K "begins_with" cM f8)
  (d9:DI K "is_cut" jc f9)
  (d10:DI K "is_leaf" gr f10)
  (d11:DI K "spots_behind" cx f11)
  (d12:DI K "is_tree" gt f12)
  (d13:DI K "check_tree" dg f13)
  (d14:DI K "leaves_of" dW f14)
  (d15:DI K "pieces_of" dX f15)
  (d16:DI K "counts_of" cT f16)
  (d17:DI K "rests_of" dI f17)
  (d18:DI K "areas_of" eZ f18)
  (d19:DI K "_law_cell" ny f19)
  (d20:DI K "_law_pot" tP f20)
  (d21:DI K "_law_take" nA f21)
  (d22:DI K "_law_unit" nC f22)
  (d23:DI K "_law_side" nD f23)
  (d24:DI K "_law_worth" jd f24)
  (d25:DI K "_law_shop" nG f25)
  (d26:DI K "_law_sides" je f26)
  (d27:DI K "_law_lyings" gw f27)
  (d28:DI K "_law_behind" gx f28)
  (d29:DI K "_law_leaf" nH f29)
  (d30:DI K "_law_tree" iC f30)
  (d31:DI K "_law_asked" jf f31)
  (d32:DI K "_law_deed" nI f32)
  (d33:DI K "_law_done" nJ f33)
  (d34:DI K "_law_balanced" dY f34)
  (d35:DI K "_law_loses" fK f35)
  (d36:DI K "_law_no_store" fb f36)
  (d37:DI K "_law_back" jG f37)
  (d38:DI K "_law_many_undone" cN f38)
  (d39:DI K "law" gT f39)
  (aC:nsIn K mainGlobals "Shop" = some (↑C))
  (dm0:MI K C "__init__" "Shop.__init__" cU fm0)
  (dm1:MI K C "blade" "Shop.blade" dh fm1)
  (dm2:MI K C "kinds" "Shop.kinds" di fm2)
  (dm3:MI K C "is_lying" "Shop.is_lying" cy fm3)
  (dm4:MI K C "sides" "Shop.sides" dk fm4)
  (pg:plainGet K C Str.empty=true)
  (hd:hasDictIn K C=true)
  (po:plainOver K C=true)
  (sa:findIn K (.ref C) "__setattr__" = some (some (.builtin "object.__setattr__")))
  (mk:makesIn K C=true)
  (kc:keepIn K (.ref C)=true)
  (n0:findIn K (.ref C) "blade_width" = some none)
  (n1:findIn K (.ref C) "kind_rows" = some none)
  (aCS:nsIn K mainGlobals "Store" = some (↑CS))
  (do0:MI K CS "__init__" "Store.__init__" ci fo0)
  (do1:MI K CS "replace_standing" "Store.replace_standing" bh fo1)
  (do2:MI K CS "put" "Store.put" ef fo2)
  (do3:MI K CS "plate_of" "Store.plate_of" cq fo3)
  (do4:MI K CS "cut" "Store.cut" bJ fo4)
  (do5:MI K CS "plates" "Store.plates" cA fo5)
  (do6:MI K CS "made" "Store.made" dq fo6)
  (do7:MI K CS "cells" "Store.cells" bT fo7)
  (do8:MI K CS "undo" "Store.undo" dw fo8)
  (pgS:plainGet K CS Str.empty=true)
  (hdS:hasDictIn K CS=true)
  (poS:plainOver K CS=true)
  (saS:findIn K (.ref CS) "__setattr__" = some (some (.builtin "object.__setattr__")))
  (mkS:makesIn K CS=true)
  (kcS:keepIn K (.ref CS)=true)
  (nS0:findIn K (.ref CS) "shop" = some none)
  (nS1:findIn K (.ref CS) "least" = some none)
  (nS2:findIn K (.ref CS) "standing" = some none)
  (nS3:findIn K (.ref CS) "past" = some none)
  (eWAYS:nsIn K mainGlobals "WAYS" = some (↑xWAYS))
  (eNoNumber:nsIn K mainGlobals "NoNumber" = some (↑xNoNumber))
  (lWAYS:∃ (o:Obj) (its:Array JU) (n:Nat),K.lookup xWAYS=some o/\o.cls=.type "tuple" /\ o.data=.seq its n/\its.size<=sizeLine/\Vals [.str "down",.str "across"] its.toList)
  (cNoNumber:excIn K xNoNumber L2.bmVE "ValueError.__new__" = true)
  (bNN:subIn K (.ref xNoNumber) (.type "BaseException")=some true)
  (sNN:subIn K (.ref xNoNumber) (.ref xNoNumber)=some true)
  (z0:nsIn K mainGlobals "isinstance" = some none)
  (z1:nsIn K mainGlobals "int" = some none)
  (z2:nsIn K mainGlobals "bool" = some none)
  (z3:nsIn K mainGlobals "list" = some none)
  (z4:nsIn K mainGlobals "tuple" = some none)
  (z5:nsIn K mainGlobals "len" = some none)
  (z6:nsIn K mainGlobals "range" = some none)
  (z7:nsIn K mainGlobals "max" = some none)
  (z8:nsIn K mainGlobals "min" = some none)
  (z9:nsIn K mainGlobals "abs" = some none)
  (z10:nsIn K mainGlobals "divmod" = some none)
  (z11:nsIn K mainGlobals "sum" = some none)
  (z12:nsIn K mainGlobals "sorted" = some none)
  (z13:nsIn K mainGlobals "all" = some none)
  (z14:nsIn K mainGlobals "repr" = some none)
  (z15:nsIn K mainGlobals "zip" = some none)
  (z16:nsIn K mainGlobals "enumerate" = some none)
  (z17:nsIn K mainGlobals "str" = some none)
  (uc0:nsIn K mainGlobals "MOST_KINDS" = some (some (.int 8 tc0)))
  (uc1:nsIn K mainGlobals "THINGS_OF_A_KIND" = some (some (.int 5 tc1)))
  (uc2:nsIn K mainGlobals "DOWN" = some (some (.str "down" tc2)))
  (uc3:nsIn K mainGlobals "REST" = some (some (.str "rest" tc3)))
  (uc4:nsIn K mainGlobals "PIECE" = some (some (.str "piece" tc4)))
  (uc5:nsIn K mainGlobals "THINGS_OF_A_REST" = some (some (.int 1 tc5)))
  (uc6:nsIn K mainGlobals "THINGS_OF_A_PIECE" = some (some (.int 5 tc6)))
  (uc7:nsIn K mainGlobals "THINGS_OF_A_CUT" = some (some (.int 4 tc7))) :
  ∃fd:I9,(∀ (s:G7) (v:JU),BindsTo s fd ⟨[v],[]⟩ [("_law_script",v)])/\∀base:Heap,K.In base->base.Ns mainGlobals mg->FnOk l.prog w K mg base CX0 13 fa fd ["_law_script"] (spLaw K):=by
 obtain ⟨_,F0,b0,k0,q0⟩:=diE X G d0 ["thing","least"] (bd2 λ _ _ _ _ _ _ _ _=>rfl);obtain ⟨_,F1,b1,k1,q1⟩:=diE X G d1 ["thing"] (bd1 λ _ _ _ _ _ _ _=>rfl);obtain ⟨_,F2,b2,k2,q2⟩:=diE X G d2 ["thing"] (bd1 λ _ _ _ _ _ _ _=>rfl);obtain ⟨_,F3,b3,k3,q3⟩:=diE X G d3 ["thing"] (bd1 λ _ _ _ _ _ _ _=>rfl);obtain ⟨_,F4,b4,k4,q4⟩:=diE X G d4 ["kind"] (bd1 λ _ _ _ _ _ _ _=>rfl);obtain ⟨_,F5,b5,k5,q5⟩:=diE X G d5 ["wide","high"] (bd2 λ _ _ _ _ _ _ _ _=>rfl);obtain ⟨_,F6,b6,k6,q6⟩:=diE X G d6 ["shop","wide","high","kind","turned","x","y"] (bd7 λ _ _ _ _ _ _ _ _ _ _ _ _ _=>rfl);obtain ⟨_,F7,b7,k7,q7⟩:=diE X G d7 ["blade","part","way","p"] (bd4 λ _ _ _ _ _ _ _ _ _ _=>rfl);obtain ⟨_,F8,b8,k8,q8⟩:=diE X G d8 ["thing","word","many"] (bd3 λ _ _ _ _ _ _ _ _ _=>rfl);obtain ⟨_,F9,b9,k9,q9⟩:=diE X G d9 ["blade","spot"] (bd2 λ _ _ _ _ _ _ _ _=>rfl);obtain ⟨_,F10,b10,k10,q10⟩:=diE X G d10 ["shop","spot"] (bd2 λ _ _ _ _ _ _ _ _=>rfl);obtain ⟨_,F11,b11,k11,q11⟩:=diE X G d11 ["blade","spot"] (bd2 λ _ _ _ _ _ _ _ _=>rfl);obtain ⟨_,F12,b12,k12,q12⟩:=diE X G d12 ["shop","wide","high","thing"] (bd4 λ _ _ _ _ _ _ _ _ _ _=>rfl);obtain ⟨_,F13,b13,k13,q13⟩:=diE X G d13 ["shop","wide","high","thing"] (bd4 λ _ _ _ _ _ _ _ _ _ _=>rfl);obtain ⟨_,F14,b14,k14,q14⟩:=diE X G d14 ["shop","wide","high","tree"] (bd4 λ _ _ _ _ _ _ _ _ _ _=>rfl);obtain ⟨_,F15,b15,k15,q15⟩:=diE X G d15 ["shop","wide","high","tree"] (bd4 λ _ _ _ _ _ _ _ _ _ _=>rfl);obtain ⟨_,F16,b16,k16,q16⟩:=diE X G d16 ["shop","wide","high","tree"] (bd4 λ _ _ _ _ _ _ _ _ _ _=>rfl);obtain ⟨_,F17,b17,k17,q17⟩:=diE X G d17 ["shop","wide","high","tree"] (bd4 λ _ _ _ _ _ _ _ _ _ _=>rfl);obtain ⟨_,F18,b18,k18,q18⟩:=diE X G d18 ["shop","wide","high","tree"] (bd4 λ _ _ _ _ _ _ _ _ _ _=>rfl);obtain ⟨_,F19,b19,k19,q19⟩:=diE X G d19 ["_law_script","_law_k"] (bd2 λ _ _ _ _ _ _ _ _=>rfl);obtain ⟨_,F20,b20,k20,q20⟩:=diE X G d20 ["_law_cell_here","_law_k"] (bd2 λ _ _ _ _ _ _ _ _=>rfl);obtain ⟨_,F21,b21,k21,q21⟩:=diE X G d21 ["_law_pot_here","_law_many"] (bd2 λ _ _ _ _ _ _ _ _=>rfl);obtain ⟨_,F22,b22,k22,q22⟩:=diE X G d22 ["_law_pot_here"] (bd1 λ _ _ _ _ _ _ _=>rfl);obtain ⟨_,F23,b23,k23,q23⟩:=diE X G d23 ["_law_pot_here","_law_unit_here","_law_most"] (bd3 λ _ _ _ _ _ _ _ _ _=>rfl);obtain ⟨_,F24,b24,k24,q24⟩:=diE X G d24 ["_law_pot_here"] (bd1 λ _ _ _ _ _ _ _=>rfl);obtain ⟨_,F25,b25,k25,q25⟩:=diE X G d25 ["_law_pot_here","_law_unit_here"] (bd2 λ _ _ _ _ _ _ _ _=>rfl);obtain ⟨_,F26,b26,k26,q26⟩:=diE X G d26 ["_law_shop_here","_law_kind","_law_turned"] (bd3 λ _ _ _ _ _ _ _ _ _=>rfl);obtain ⟨_,F27,b27,k27,q27⟩:=diE X G d27 ["_law_shop_here"] (bd1 λ _ _ _ _ _ _ _=>rfl);obtain ⟨_,F28,b28,k28,q28⟩:=diE X G d28 ["_law_shop_here","_law_wide","_law_high","_law_way","_law_p"] (bd5 λ _ _ _ _ _ _ _ _ _ _ _=>rfl);obtain ⟨_,F29,b29,k29,q29⟩:=diE X G d29 ["_law_pot_here","_law_shop_here","_law_wide","_law_high"] (bd4 λ _ _ _ _ _ _ _ _ _ _=>rfl);obtain ⟨_,F30,b30,k30,q30⟩:=diE X G d30 ["_law_pot_here","_law_shop_here","_law_wide","_law_high","_law_deep","_law_room"] (bd6 λ _ _ _ _ _ _ _ _ _ _ _ _=>rfl);obtain ⟨_,F31,b31,k31,q31⟩:=diE X G d31 ["_law_store"] (bd1 λ _ _ _ _ _ _ _=>rfl);obtain ⟨_,F32,b32,k32,q32⟩:=diE X G d32 ["_law_pot_here","_law_shop_here","_law_unit_here","_law_store"] (bd4 λ _ _ _ _ _ _ _ _ _ _=>rfl);obtain ⟨_,F33,b33,k33,q33⟩:=diE X G d33 ["_law_store","_law_deed_here"] (bd2 λ _ _ _ _ _ _ _ _=>rfl);obtain ⟨_,F34,b34,k34,q34⟩:=diE X G d34 ["_law_store","_law_lost"] (bd2 λ _ _ _ _ _ _ _ _=>rfl);obtain ⟨_,F35,b35,k35,q35⟩:=diE X G d35 ["_law_made","_law_store","_law_deed_here"] (bd3 λ _ _ _ _ _ _ _ _ _=>rfl);obtain ⟨_,F36,b36,k36,q36⟩:=diE X G d36 ["_law_made","_law_least"] (bd2 λ _ _ _ _ _ _ _ _=>rfl);obtain ⟨_,F37,b37,k37,q37⟩:=diE X G d37 ["_law_stores","_law_states"] (bd2 λ _ _ _ _ _ _ _ _=>rfl);obtain ⟨_,F38,b38,k38,q38⟩:=diE X G d38 ["_law_pot_here","_law_made","_law_unit_here"] (bd3 λ _ _ _ _ _ _ _ _ _=>rfl);obtain ⟨_,an,_,_,kV,dc,pm,cd,ct,a39,l39,c39,k39⟩:=d39;have F39:=kP (st:=gT) l39 c39 k39;obtain ⟨_,Fm0,bm0,km0,am0,im0⟩:=miE dm0 ["self","blade","kinds"] (bd3 λ _ _ _ _ _ _ _ _ _=>rfl)
 obtain ⟨_,Fm1,bm1,km1,am1,im1⟩:=miE dm1 ["self"] (bd1 λ _ _ _ _ _ _ _=>rfl);obtain ⟨_,Fm2,bm2,km2,am2,im2⟩:=miE dm2 ["self"] (bd1 λ _ _ _ _ _ _ _=>rfl);obtain ⟨_,Fm3,bm3,km3,am3,im3⟩:=miE dm3 ["self","kind","turned"] (bd3 λ _ _ _ _ _ _ _ _ _=>rfl);obtain ⟨_,Fm4,bm4,km4,am4,im4⟩:=miE dm4 ["self","kind","turned"] (bd3 λ _ _ _ _ _ _ _ _ _=>rfl);obtain ⟨_,Fo0,bo0,ko0,ao0,io0⟩:=miE do0 ["self","shop","least"] (bd3 λ _ _ _ _ _ _ _ _ _=>rfl);obtain ⟨_,Fo1,bo1,ko1,ao1,io1⟩:=miE do1 ["self","standing"] (bd2 λ _ _ _ _ _ _ _ _=>rfl);obtain ⟨_,Fo2,bo2,ko2,ao2,io2⟩:=miE do2 ["self","wide","high"] (bd3 λ _ _ _ _ _ _ _ _ _=>rfl);obtain ⟨_,Fo3,bo3,ko3,ao3,io3⟩:=miE do3 ["self","number"] (bd2 λ _ _ _ _ _ _ _ _=>rfl);obtain ⟨_,Fo4,bo4,ko4,ao4,io4⟩:=miE do4 ["self","number","tree"] (bd3 λ _ _ _ _ _ _ _ _ _=>rfl);obtain ⟨_,Fo5,bo5,ko5,ao5,io5⟩:=miE do5 ["self"] (bd1 λ _ _ _ _ _ _ _=>rfl);obtain ⟨_,Fo6,bo6,ko6,ao6,io6⟩:=miE do6 ["self"] (bd1 λ _ _ _ _ _ _ _=>rfl);obtain ⟨_,Fo7,bo7,ko7,ao7,io7⟩:=miE do7 ["self"] (bd1 λ _ _ _ _ _ _ _=>rfl);obtain ⟨_,Fo8,bo8,ko8,ao8,io8⟩:=miE do8 ["self"] (bd1 λ _ _ _ _ _ _ _=>rfl);have e:=hfa.symm.trans (mg_of X G a39);cases e;have y0:=mg_none_of X G z0;have y1:=mg_none_of X G z1;have y2:=mg_none_of X G z2;have y3:=mg_none_of X G z3;have y4:=mg_none_of X G z4;have y5:=mg_none_of X G z5;have y6:=mg_none_of X G z6;have y7:=mg_none_of X G z7;have y8:=mg_none_of X G z8;have y9:=mg_none_of X G z9;have y10:=mg_none_of X G z10;have y11:=mg_none_of X G z11;have y12:=mg_none_of X G z12;have y13:=mg_none_of X G z13;have y14:=mg_none_of X G z14;have y15:=mg_none_of X G z15;have y16:=mg_none_of X G z16;have y17:=mg_none_of X G z17;have gWAYS:=mg_of X G eWAYS;have gNoNumber:=mg_of X G eNoNumber;have u0:=mg_of X G uc0;have u1:=mg_of X G uc1;have u2:=mg_of X G uc2;have u3:=mg_of X G uc3;have u4:=mg_of X G uc4;have u5:=mg_of X G uc5;have u6:=mg_of X G uc6;have u7:=mg_of X G uc7;have qC:=mg_of X G aC;have qCS:=mg_of X G aCS;refine ⟨fnOf "law" "law" (defArgs gT) (defBody gT) (defScope gT) .none kV dc pm an cd ct,λ s v=>.of_eq rfl,λ base _ _=>?_⟩;have B:Blt mg:=⟨y0,y1,y2,y3,y4,y5,y6,y7,y8,y9,y10,y11,y12,y13,y14,y15,y16,⟨_,u0⟩,⟨_,u1⟩⟩
 have T:ShopTxt K C:=⟨⟨pg,hd,po,sa⟩,n0,n1⟩
 have Z:TrC K mg xWAYS:=⟨⟨_,u2⟩,⟨_,u3⟩,⟨_,u4⟩,⟨_,u5⟩,⟨_,u6⟩,⟨_,u7⟩,gWAYS,λ H=>.inr lWAYS⟩
 have D0:Dn l.prog w K mg base "is_whole" ["thing","least"] 1 (bY K):=⟨_,_,qS F0 B,b0,k0,q0⟩
 have D1:Dn l.prog w K mg base "is_truth" ["thing"] 1 (gm K):=⟨_,_,qU F1 B,b1,k1,q1⟩
 have D2:Dn l.prog w K mg base "is_row" ["thing"] 1 (jx K):=⟨_,_,wO F2 B,b2,k2,q2⟩
 have D3:Dn l.prog w K mg base "is_kind" ["thing"] 2 (eU K):=⟨_,_,oS F3 B D0 D1 D2,b3,k3,q3⟩
 have D4:Dn l.prog w K mg base "can_lie_turned" ["kind"] 1 (gO K):=⟨_,_,oU F4,b4,k4,q4⟩
 have MB:Mn l.prog w K mg base C "blade" ["self"] 1 (gp C):=⟨_,_,qV Fm1 T,bm1,⟨am1,im1,km1⟩⟩
 have MK:Mn l.prog w K mg base C "kinds" ["self"] 1 (eV C):=⟨_,_,qW Fm2 T y3,bm2,⟨am2,im2,km2⟩⟩
 have MI:Mn l.prog w K mg base C "is_lying" ["self","kind","turned"] 2 (dS K C):=⟨_,_,lm Fm3 B T D0 D1 D4,bm3,⟨am3,im3,km3⟩⟩
 have MS:Mn l.prog w K mg base C "sides" ["self","kind","turned"] 3 (spSides K C):=⟨_,_,qZ Fm4 T MI,bm4,⟨am4,im4,km4⟩⟩
 have DS:Kn l.prog w K mg base "Shop" C ["self","blade","kinds"] 3 (kT C):=⟨_,_,⟨mk,am0,im0,kc⟩,tS Fm0 B T D0 D2 D3,bm0,qC⟩
 have D5:Dn l.prog w K mg base "check_plate" ["wide","high"] 2 (spCP):=⟨_,_,pf F5 D0,b5,k5,q5⟩
 have D6:Dn l.prog w K mg base "lies_in" ["shop","wide","high","kind","turned","x","y"] 4 (spLiesG K C):=⟨_,_,rd F6 T D0 MI MS,b6,k6,q6⟩
 have D7:Dn l.prog w K mg base "cut_parts" ["blade","part","way","p"] 1 (spParts2):=⟨_,_,oX F7 Z,b7,k7,q7⟩
 have D8:Dn l.prog w K mg base "begins_with" ["thing","word","many"] 2 (spBegins):=⟨_,_,oW F8 B y17 D2,b8,k8,q8⟩
 have D9:Dn l.prog w K mg base "is_cut" ["blade","spot"] 3 (spCut):=⟨_,_,wQ F9 Z D8 D0,b9,k9,q9⟩
 have D10:Dn l.prog w K mg base "is_leaf" ["shop","spot"] 5 (spLeaf C):=⟨_,_,tW F10 Z D8 D6,b10,k10,q10⟩
 have D11:Dn l.prog w K mg base "spots_behind" ["blade","spot"] 2 (spBehind):=⟨_,_,oY F11 Z D7,b11,k11,q11⟩
 have D12:Dn l.prog w K mg base "is_tree" ["shop","wide","high","thing"] 6 (spIsTree C):=⟨_,_,pi F12 T MB D5 D9 D10 D11,b12,k12,q12⟩
 have D13:Dn l.prog w K mg base "check_tree" ["shop","wide","high","thing"] 7 (spCheckT C):=⟨_,_,pI F13 D12,b13,k13,q13⟩
 have D14:Dn l.prog w K mg base "leaves_of" ["shop","wide","high","tree"] 3 (spLeaves C):=⟨_,_,pH F14 T Z MB D11,b14,k14,q14⟩
 have D15:Dn l.prog w K mg base "pieces_of" ["shop","wide","high","tree"] 8 (spPieces C):=⟨_,_,pJ F15 B Z D13 D14,b15,k15,q15⟩
 have D16:Dn l.prog w K mg base "counts_of" ["shop","wide","high","tree"] 9 (spCountsO C):=⟨_,_,lA F16 B T MK D15,b16,k16,q16⟩
 have D17:Dn l.prog w K mg base "rests_of" ["shop","wide","high","tree"] 8 (spRests C):=⟨_,_,rA F17 B Z D13 D14,b17,k17,q17⟩
 have D18:Dn l.prog w K mg base "areas_of" ["shop","wide","high","tree"] 8 (spAreas C):=⟨_,_,rB F18 B T Z MS D13 D14,b18,k18,q18⟩
 have TS:StoreTxt K CS:=⟨⟨pgS,hdS,poS,saS⟩,nS0,nS1,nS2,nS3⟩
 have MR:Mn l.prog w K mg base CS "replace_standing" ["self","standing"] 1 (spRepl CS C):=⟨_,_,uj Fo1 TS,bo1,⟨ao1,io1,ko1⟩⟩
 have MPu:Mn l.prog w K mg base CS "put" ["self","wide","high"] 3 (spPut CS C):=⟨_,_,wS Fo2 TS D5 MR,bo2,⟨ao2,io2,ko2⟩⟩
 have MPo:Mn l.prog w K mg base CS "plate_of" ["self","number"] 2 (spPlOf CS C):=⟨_,_,uq Fo3 TS D0,bo3,⟨ao3,io3,ko3⟩⟩
 have MCu:Mn l.prog w K mg base CS "cut" ["self","number","tree"] 10 (spCutS CS C):=⟨_,_,uv Fo4 B TS MPo MR D17 D16,bo4,⟨ao4,io4,ko4⟩⟩
 have MPl:Mn l.prog w K mg base CS "plates" ["self"] 1 (spPlates CS C):=⟨_,_,pN Fo5 B TS,bo5,⟨ao5,io5,ko5⟩⟩
 have MMd:Mn l.prog w K mg base CS "made" ["self"] 1 (spMade CS C):=⟨_,_,uk Fo6 B TS,bo6,⟨ao6,io6,ko6⟩⟩
 have MCe:Mn l.prog w K mg base CS "cells" ["self"] 2 (spCells CS C):=⟨_,_,rE Fo7 B TS T MK,bo7,⟨ao7,io7,ko7⟩⟩
 have MU:Mn l.prog w K mg base CS "undo" ["self"] 1 (spUndo CS C):=⟨_,_,uo Fo8 TS,bo8,⟨ao8,io8,ko8⟩⟩
 have DSt:Kn l.prog w K mg base "Store" CS ["self","shop","least"] 2 (spSInit CS C):=⟨_,_,⟨mkS,ao0,io0,kcS⟩,rD Fo0 B TS T D0 MK,bo0,qCS⟩
 have DStX:KnX l.prog w K mg base "Store" CS ["self","shop","least"] 2 (spSInitX K xNoNumber):=⟨_,_,⟨mkS,ao0,io0,kcS⟩,pP Fo0 gNoNumber cNoNumber D0,bo0,qCS⟩
 have D19:Dn l.prog w K mg base "_law_cell" ["_law_script","_law_k"] 1 (kZ K):=⟨_,_,tX F19 B,b19,k19,q19⟩
 have D20:Dn l.prog w K mg base "_law_pot" ["_law_cell_here","_law_k"] 1 (spPotC):=⟨_,_,tY F20 B,b20,k20,q20⟩
 have D21:Dn l.prog w K mg base "_law_take" ["_law_pot_here","_law_many"] 1 (spTake):=⟨_,_,tZ F21 B,b21,k21,q21⟩
 have D22:Dn l.prog w K mg base "_law_unit" ["_law_pot_here"] 2 (spUnit):=⟨_,_,uh F22 B D21,b22,k22,q22⟩
 have D23:Dn l.prog w K mg base "_law_side" ["_law_pot_here","_law_unit_here","_law_most"] 2 (spSideC):=⟨_,_,pq F23 B D21,b23,k23,q23⟩
 have D24:Dn l.prog w K mg base "_law_worth" ["_law_pot_here"] 2 (spWorthC):=⟨_,_,pC F24 B D21,b24,k24,q24⟩
 have D25:Dn l.prog w K mg base "_law_shop" ["_law_pot_here","_law_unit_here"] 3 (spShopC):=⟨_,_,rg F25 B D21 D23 D24,b25,k25,q25⟩
 have D26:Dn l.prog w K mg base "_law_sides" ["_law_shop_here","_law_kind","_law_turned"] 1 (spSidesC):=⟨_,_,pE F26 B,b26,k26,q26⟩
 have D27:Dn l.prog w K mg base "_law_lyings" ["_law_shop_here"] 1 (spLyingsC):=⟨_,_,lw F27 B,b27,k27,q27⟩
 have D28:Dn l.prog w K mg base "_law_behind" ["_law_shop_here","_law_wide","_law_high","_law_way","_law_p"] 1 (spBeh):=⟨_,_,wR F28 B,b28,k28,q28⟩
 have D29:Dn l.prog w K mg base "_law_leaf" ["_law_pot_here","_law_shop_here","_law_wide","_law_high"] 2 (spLeafC):=⟨_,_,rh F29 B D21 D26 D27,b29,k29,q29⟩
 have D30:Dn l.prog w K mg base "_law_tree" ["_law_pot_here","_law_shop_here","_law_wide","_law_high","_law_deep","_law_room"] 9 (spTreeC 6):=⟨_,_,iF F30 B D21 D28 D29 (λ n h=>⟨_,_,h,b30,k30,q30⟩) 6,b30,k30,q30⟩
 have D31:Dn l.prog w K mg base "_law_asked" ["_law_store"] 3 (spAsked CS C):=⟨_,_,rO F31 TS MPl MMd MCe,b31,k31,q31⟩
 have D32:Dn l.prog w K mg base "_law_deed" ["_law_pot_here","_law_shop_here","_law_unit_here","_law_store"] 10 (spDeed CS C):=⟨_,_,uy F32 B TS MPl D21 D23 D30,b32,k32,q32⟩
 have D33:Dn l.prog w K mg base "_law_done" ["_law_store","_law_deed_here"] 11 (spDone CS C):=⟨_,_,uz F33 TS MPu MCu,b33,k33,q33⟩
 have D34:Dn l.prog w K mg base "_law_balanced" ["_law_store","_law_lost"] 3 (spBal CS C):=⟨_,_,wW F34 TS MCe,b34,k34,q34⟩
 have D35:Dn l.prog w K mg base "_law_loses" ["_law_made","_law_store","_law_deed_here"] 12 (spLoses CS C):=⟨_,_,rP F35 B TS MPl D18 D33,b35,k35,q35⟩
 have D36:Dn l.prog w K mg base "_law_no_store" ["_law_made","_law_least"] 4 (spNoSt K):=⟨_,_,uB F36 DStX gNoNumber (wK cNoNumber bNN sNN),b36,k36,q36⟩
 have D37:Dn l.prog w K mg base "_law_back" ["_law_stores","_law_states"] 4 (spBack K CS C):=⟨_,_,uD F37 B TS MU MPl D31,b37,k37,q37⟩
 have D38:Dn l.prog w K mg base "_law_many_undone" ["_law_pot_here","_law_made","_law_unit_here"] 5 (spMany C):=⟨_,_,uE F38 B TS MPu D31 D21 D23 DSt D37,b38,k38,q38⟩
 exact wZ F39 B TS D19 D20 D22 D25 D21 DS DSt D31 D32 D35 D34 D37 D38 D33 D36
theorem walk {l:PySem.W.OpenLaw} {q:G8} {loose:List Str} {XP:(Str->Option JU)->Heap->Prop} {YP:JT->Heap->Prop} {d:DefRec} {K:Params->C8} (hn:l.most=some 63) (hdf:d.params.defaults=[])
  (hY:∀ (w:JT) (h:Heap),YP w h->(K w.params).In h)
  (F:∀ (w:JT) (mg:Str->Option JU) (fa:Addr) (h:Heap),(K w.params).In h->h.Ns mainGlobals mg->mg d.name=↑fa ->
   ∃fd:I9,(∀ (s:G7) (u:JU),BindsTo s fd ⟨[u],[]⟩ [("_law_script",u)])/\∀base:Heap,(K w.params).In base->base.Ns mainGlobals mg->FnOk l.prog w (K w.params) mg base CX0 13 fa fd ["_law_script"] (spLaw (K w.params))) :
  PySem.W.WalkO q loose XP YP l.row.toRowW d [] (λ f vs=>PySem.call f vs) :=
 L2.walk_of (n:=63) (k:=13) (x := "_law_script") (CX:=λ _=>CX0) (sp:=λ w=>spLaw (K w.params)) hn ∅ hdf ⟨rfl,∅,∅,rfl⟩ hY F (λ _ _ a ns hl _ hS=>⟨a,ns,Y,hS,hl,λ _=>rfl⟩) λ _ _ _ _ _ z=>z
end Pc
namespace Pc
open PySem L2
section
open PySem.W
def kE (P:Params) (n:Str) (t:Nat) (v:JU):DictEntry:=⟨PyData.keyHash P n,.str n t,v⟩
def kO3 (P:Params):Obj:=⟨(.type "dict"),none,(.dict #[kE P "__name__" 165 (.str "law_platecuts_k86_whole_stores_undone" 747),kE P "__doc__" 166 .none,kE P "__package__" 167 .none,kE P "__loader__" 168 (.builtin "__main__.__loader__#opaque"),kE P "__spec__" 169 .none,kE P "__annotations__" 170 (.ref 6),kE P "__builtins__" 171 (.ref 4),kE P "__file__" 173 (.str "/claim/cut.py" 172),kE P "__cached__" 174 .none,kE P "_wall" 193 (.ref 21),kE P "PlateError" 213 (.ref 31),kE P "NoBlade" 229 (.ref 44),kE P "NoKinds" 245 (.ref 56),kE P "NoKind" 261 (.ref 68),kE P "NoLying" 277 (.ref 80),kE P "NoPlate" 293 (.ref 92),kE P "NoTree" 309 (.ref 104),kE P "NoNumber" 325 (.ref 116),kE P "is_whole" 335 (.ref 125),kE P "is_truth" 342 (.ref 132),kE P "is_row" 349 (.ref 139),kE P "check_plate" 357 (.ref 146),kE P "DOWN" 361 (.str "down" 360),kE P "ACROSS" 363 (.str "across" 362),kE P "WAYS" 364 (.ref 147),kE P "lies_in" 379 (.ref 154),kE P "cut_parts" 391 (.ref 161),kE P "REST" 395 (.str "rest" 394),kE P "PIECE" 397 (.str "piece" 396),kE P "THINGS_OF_A_REST" 399 (.int 1 398),kE P "THINGS_OF_A_PIECE" 401 (.int 5 400),kE P "THINGS_OF_A_CUT" 403 (.int 4 402),kE P "begins_with" 412 (.ref 168),kE P "is_cut" 423 (.ref 175),kE P "is_leaf" 436 (.ref 182),kE P "spots_behind" 460 (.ref 189),kE P "is_tree" 473 (.ref 196),kE P "check_tree" 483 (.ref 203),kE P "leaves_of" 496 (.ref 210),kE P "pieces_of" 519 (.ref 217),kE P "rests_of" 525 (.ref 222),kE P "counts_of" 531 (.ref 227),kE P "areas_of" 552 (.ref 234),kE P "Store" 647 (.ref 301),kE P "MOST_KINDS" 651 (.int 8 650),kE P "THINGS_OF_A_KIND" 653 (.int 5 652),kE P "is_kind" 665 (.ref 312),kE P "can_lie_turned" 672 (.ref 319),kE P "Shop" 746 (.ref 374),kE P "_law_cell" 756 (.ref 385),kE P "_law_pot" 764 (.ref 392),kE P "_law_take" 773 (.ref 399),kE P "_law_unit" 781 (.ref 406),kE P "_law_side" 790 (.ref 413),kE P "_law_worth" 798 (.ref 420),kE P "_law_shop" 811 (.ref 427),kE P "_law_sides" 822 (.ref 434),kE P "_law_lyings" 832 (.ref 441),kE P "_law_behind" 843 (.ref 448),kE P "_law_leaf" 857 (.ref 455),kE P "_law_tree" 875 (.ref 462),kE P "_law_asked" 882 (.ref 469),kE P "_law_deed" 896 (.ref 476),kE P "_law_done" 904 (.ref 483),kE P "_law_loses" 910 (.ref 488),kE P "_law_balanced" 922 (.ref 495),kE P "_law_no_store" 931 (.ref 502),kE P "_law_back" 937 (.ref 507),kE P "_law_many_undone" 949 (.ref 514),kE P "law" 955 (.ref 519)] 70),#[]⟩
def gk0 (x0:Str)(x1:Nat)(x2:Str)(x3 x4 x5 x6 x7 x8 x9 x10 x11 x12 x13:Nat)(P:Params):Obj:=⟨(.type "code"),none,(.fields #[.str x0 x1,.str x2 x3,.str "/claim/cut.py" x4,.int x5 0,.int x6 0,.int 0 0,.int 0 0,.int 3 0,.ref x7,.bool true,.int 181 0,.ref x8,.none,.ref x9,.ref x10,.ref x11,.int x12 0,.int x5 0,.str "/claim/cut.py" x13]),#[]⟩
def Hn:=gk0 "_wall" 187 "_wall" 188 189 1 1 15 16 17 18 19 191 192
def gk1 (x0 x1:Str)(x2:Stmt)(x3:Str)(x4 x5:Nat)(P:Params):Obj:=⟨(.type "function"),none,(.func (fnOf x0 x1 (defArgs x2) (defBody x2) (defScope x2) .none .none .none (.str x3 x4) none (.ref x5) .none)),#[]⟩
def Ho:=gk1 "_wall" "_wall" CP "__main__" 164 20
def Hq (P:Params):Obj:=⟨(.type "dict"),none,(.dict #[kE P "__module__" 203 (.str "platecuts.errors" 194),kE P "__firstlineno__" 207 (.int 5 206),kE P "__static_attributes__" 208 (.ref 29),kE P "__weakref__" 210 (.ref 32),kE P "__doc__" 211 .none] 3),#[]⟩
def Hr (P:Params):Obj:=⟨(.type "type"),none,(.cls ⟨"PlateError",[.type "ValueError"],[.ref 31,.type "ValueError",.type "Exception",.type "BaseException",.type "object"],30,"PlateError",true,[],[.ref 44,.ref 56,.ref 68,.ref 80,.ref 92,.ref 104,.ref 116],false,none,false⟩),#[↑22,none,some (.str "PlateError" 196),some (.str "PlateError" 204),some (.builtin "ValueError.__new__"),some (.bool true)]⟩
def gk2 (x0 x1 x2 x3 x4 x5 x6:Nat)(P:Params):Obj:=⟨(.type "dict"),none,(.dict #[kE P "__module__" x0 (.str "platecuts.errors" 194),kE P "__firstlineno__" x1 (.int x2 x3),kE P "__static_attributes__" x4 (.ref x5),kE P "__doc__" x6 .none] 2),#[]⟩
def Hs:=gk2 221 225 7 224 226 42 227
def gk3 (x0:Str)(x1 x2 x3 x4 x5:Nat)(P:Params):Obj:=⟨(.type "type"),none,(.cls ⟨x0,[.ref 31],[.ref x1,.ref 31,.type "ValueError",.type "Exception",.type "BaseException",.type "object"],x2,x0,true,[],[],false,none,false⟩),#[↑x3,none,some (.str x0 x4),some (.str x0 x5),some (.builtin "ValueError.__new__"),some (.bool true)]⟩
def Ht:=gk3 "NoBlade" 44 43 35 214 222
def Hu:=gk2 237 241 9 240 242 54 243
def Hv:=gk3 "NoKinds" 56 55 47 230 238
def Hw:=gk2 253 257 11 256 258 66 259
def HA:=gk3 "NoKind" 68 67 59 246 254
def HB:=gk2 269 273 13 272 274 78 275
def HC:=gk3 "NoLying" 80 79 71 262 270
def HD:=gk2 285 289 15 288 290 90 291
def HE:=gk3 "NoPlate" 92 91 83 278 286
def Dg:=gk2 301 305 17 304 306 102 307
def Dh:=gk3 "NoTree" 104 103 95 294 302
def Di:=gk2 317 321 19 320 322 114 323
def Dj:=gk3 "NoNumber" 116 115 107 310 318
def Dk:=gk0 "is_whole" 328 "is_whole" 329 330 22 2 119 120 121 122 123 333 334
def Dl:=gk1 "is_whole" "is_whole" ja "platecuts.checks" 326 124
def Dm:=gk0 "is_truth" 336 "is_truth" 337 338 24 1 126 127 128 129 130 340 341
def Do:=gk1 "is_truth" "is_truth" jb "platecuts.checks" 326 131
def Dp:=gk0 "is_row" 343 "is_row" 344 345 26 1 133 134 135 136 137 347 348
def Dq:=gk1 "is_row" "is_row" tO "platecuts.checks" 326 138
def Dr:=gk0 "check_plate" 350 "check_plate" 351 352 28 2 140 141 142 143 144 355 356
def Ds:=gk1 "check_plate" "check_plate" cL "platecuts.checks" 326 145
def Du (P:Params):Obj:=⟨(.type "tuple"),none,(.seq #[.str "down" 360,.str "across" 362] 0),#[]⟩
def Dv:=gk0 "lies_in" 365 "lies_in" 366 367 35 7 148 149 150 151 152 377 378
def Dw:=gk1 "lies_in" "lies_in" gq "platecuts.parts" 358 153
def Dx:=gk0 "cut_parts" 380 "cut_parts" 381 382 40 4 155 156 157 158 159 389 390
def Dy:=gk1 "cut_parts" "cut_parts" dU "platecuts.parts" 358 160
def Dz:=gk0 "begins_with" 404 "begins_with" 405 406 51 3 162 163 164 165 166 410 411
def DG:=gk1 "begins_with" "begins_with" cM "platecuts.trees" 392 167
def DH:=gk0 "is_cut" 413 "is_cut" 414 415 55 2 169 170 171 172 173 421 422
def DJ:=gk1 "is_cut" "is_cut" jc "platecuts.trees" 392 174
def DM:=gk0 "is_leaf" 424 "is_leaf" 425 426 62 2 176 177 178 179 180 434 435
def DN:=gk1 "is_leaf" "is_leaf" gr "platecuts.trees" 392 181
def DQ:=gk0 "spots_behind" 437 "spots_behind" 438 439 67 2 183 184 185 186 187 458 459
def DV:=gk1 "spots_behind" "spots_behind" cx "platecuts.trees" 392 188
def DX:=gk0 "is_tree" 461 "is_tree" 462 463 74 4 190 191 192 193 194 471 472
def DY:=gk1 "is_tree" "is_tree" gt "platecuts.trees" 392 195
def DZ:=gk0 "check_tree" 474 "check_tree" 475 476 85 4 197 198 199 200 201 481 482
def Ea:=gk1 "check_tree" "check_tree" dg "platecuts.trees" 392 202
def Eb:=gk0 "leaves_of" 484 "leaves_of" 485 486 88 4 204 205 206 207 208 494 495
def Ec:=gk1 "leaves_of" "leaves_of" dW "platecuts.trees" 392 209
def Ed:=gk0 "pieces_of" 499 "pieces_of" 500 501 99 4 211 212 213 214 215 517 518
def Ee:=gk1 "pieces_of" "pieces_of" dX "platecuts.measures" 497 216
def gk4 (x0:Str)(x1:Nat)(x2:Str)(x3 x4 x5 x6 x7 x8 x9 x10 x11:Nat)(P:Params):Obj:=⟨(.type "code"),none,(.fields #[.str x0 x1,.str x2 x3,.str "/claim/cut.py" x4,.int x5 0,.int x6 0,.int 0 0,.int 0 0,.int 3 0,.ref x7,.bool true,.int 181 0,.ref x8,.none,.none,.none,.ref x9,.int x10 0,.int x5 0,.str "/claim/cut.py" x11]),#[]⟩
def Ef:=gk4 "rests_of" 520 "rests_of" 521 522 107 4 218 219 220 523 524
def Eg:=gk1 "rests_of" "rests_of" dI "platecuts.measures" 497 221
def Eh:=gk4 "counts_of" 526 "counts_of" 527 528 111 4 223 224 225 529 530
def Ei:=gk1 "counts_of" "counts_of" cT "platecuts.measures" 497 226
def Ej:=gk0 "areas_of" 532 "areas_of" 533 534 117 4 228 229 230 231 232 550 551
def Ek:=gk1 "areas_of" "areas_of" eZ "platecuts.measures" 497 233
def El:=gk4 "__init__" 567 "Store.__init__" 568 569 132 3 242 243 244 570 571
def Em:=gk1 "__init__" "Store.__init__" ci "platecuts.stores" 553 245
def En:=gk0 "replace_standing" 573 "Store.replace_standing" 574 575 140 2 247 248 249 250 251 578 579
def Eo:=gk1 "replace_standing" "Store.replace_standing" bh "platecuts.stores" 553 252
def Ep:=gk0 "put" 581 "Store.put" 582 583 144 3 254 255 256 257 258 591 592
def Er:=gk1 "put" "Store.put" ef "platecuts.stores" 553 259
def Es:=gk0 "plate_of" 594 "Store.plate_of" 595 596 150 2 261 262 263 264 265 600 601
def Et:=gk1 "plate_of" "Store.plate_of" cq "platecuts.stores" 553 266
def Eu:=gk4 "cut" 603 "Store.cut" 604 605 157 3 268 269 270 606 607
def Ev:=gk1 "cut" "Store.cut" bJ "platecuts.stores" 553 271
def Ew:=gk0 "plates" 609 "Store.plates" 610 611 169 1 273 274 275 276 277 613 614
def Ex:=gk1 "plates" "Store.plates" cA "platecuts.stores" 553 278
def Ey:=gk0 "made" 616 "Store.made" 617 618 172 1 280 281 282 283 284 620 621
def Ez:=gk1 "made" "Store.made" dq "platecuts.stores" 553 285
def EA:=gk4 "cells" 623 "Store.cells" 624 625 175 1 287 288 289 626 627
def EB:=gk1 "cells" "Store.cells" bT "platecuts.stores" 553 290
def EC:=gk0 "undo" 629 "Store.undo" 630 631 181 1 292 293 294 295 296 633 634
def ED:=gk1 "undo" "Store.undo" dw "platecuts.stores" 553 297
def EE (P:Params):Obj:=⟨(.type "dict"),none,(.dict #[kE P "__module__" 562 (.str "platecuts.stores" 553),kE P "__firstlineno__" 566 (.int 130 565),kE P "__init__" 572 (.ref 246),kE P "replace_standing" 580 (.ref 253),kE P "put" 593 (.ref 260),kE P "plate_of" 602 (.ref 267),kE P "cut" 608 (.ref 272),kE P "plates" 615 (.ref 279),kE P "made" 622 (.ref 286),kE P "cells" 628 (.ref 291),kE P "undo" 635 (.ref 298),kE P "__static_attributes__" 640 (.ref 299),kE P "__dict__" 642 (.ref 302),kE P "__weakref__" 644 (.ref 303),kE P "__doc__" 645 .none] 4),#[]⟩
def gk5 (x0:Str)(x1 x2 x3 x4:Nat)(P:Params):Obj:=⟨(.type "type"),none,(.cls ⟨x0,[.type "object"],[.ref x1,.type "object"],x2,x0,true,[],[],false,none,false⟩),#[none,none,some (.str x0 x3),some (.str x0 x4),some (.builtin "object.__new__"),some (.bool true)]⟩
def EF:=gk5 "Store" 301 300 555 563
def EG:=gk0 "is_kind" 654 "is_kind" 655 656 189 1 306 307 308 309 310 663 664
def EH:=gk1 "is_kind" "is_kind" gu "platecuts.shops" 648 311
def EI:=gk0 "can_lie_turned" 666 "can_lie_turned" 667 668 196 1 313 314 315 316 317 670 671
def EJ:=gk1 "can_lie_turned" "can_lie_turned" gv "platecuts.shops" 648 318
def EK:=gk4 "__init__" 685 "Shop.__init__" 686 687 200 3 327 328 329 688 689
def EL:=gk1 "__init__" "Shop.__init__" cU "platecuts.shops" 648 330
def EM:=gk0 "blade" 691 "Shop.blade" 692 693 211 1 332 333 334 335 336 695 696
def EN:=gk1 "blade" "Shop.blade" dh "platecuts.shops" 648 337
def EO:=gk0 "kinds" 698 "Shop.kinds" 699 700 214 1 339 340 341 342 343 702 703
def EQ:=gk1 "kinds" "Shop.kinds" di "platecuts.shops" 648 344
def ER:=gk4 "wanted" 705 "Shop.wanted" 706 707 217 1 346 347 348 708 709
def ES:=gk1 "wanted" "Shop.wanted" jE "platecuts.shops" 648 349
def ET:=gk0 "lyings" 711 "Shop.lyings" 712 713 220 1 351 352 353 354 355 715 716
def EU:=gk1 "lyings" "Shop.lyings" jF "platecuts.shops" 648 356
def EV:=gk0 "is_lying" 718 "Shop.is_lying" 719 720 223 3 358 359 360 361 362 724 725
def EW:=gk1 "is_lying" "Shop.is_lying" cy "platecuts.shops" 648 363
def EX:=gk0 "sides" 727 "Shop.sides" 728 729 228 3 365 366 367 368 369 734 735
def EY:=gk1 "sides" "Shop.sides" dk "platecuts.shops" 648 370
def EZ (P:Params):Obj:=⟨(.type "dict"),none,(.dict #[kE P "__module__" 680 (.str "platecuts.shops" 648),kE P "__firstlineno__" 684 (.int 198 683),kE P "__init__" 690 (.ref 331),kE P "blade" 697 (.ref 338),kE P "kinds" 704 (.ref 345),kE P "wanted" 710 (.ref 350),kE P "lyings" 717 (.ref 357),kE P "is_lying" 726 (.ref 364),kE P "sides" 736 (.ref 371),kE P "__static_attributes__" 739 (.ref 372),kE P "__dict__" 741 (.ref 375),kE P "__weakref__" 743 (.ref 376),kE P "__doc__" 744 .none] 4),#[]⟩
def Fa:=gk5 "Shop" 374 373 673 681
def Fb:=gk0 "_law_cell" 749 "_law_cell" 750 751 236 2 379 380 381 382 383 754 755
def Fc:=gk1 "_law_cell" "_law_cell" ny "law_platecuts_k86_whole_stores_undone" 747 384
def Fd:=gk0 "_law_pot" 757 "_law_pot" 758 759 240 2 386 387 388 389 390 762 763
def Fe:=gk1 "_law_pot" "_law_pot" tP "law_platecuts_k86_whole_stores_undone" 747 391
def Ff:=gk0 "_law_take" 765 "_law_take" 766 767 242 2 393 394 395 396 397 771 772
def Fg:=gk1 "_law_take" "_law_take" nA "law_platecuts_k86_whole_stores_undone" 747 398
def Fh:=gk0 "_law_unit" 774 "_law_unit" 775 776 249 1 400 401 402 403 404 779 780
def Fi:=gk1 "_law_unit" "_law_unit" nC "law_platecuts_k86_whole_stores_undone" 747 405
def Fj:=gk0 "_law_side" 782 "_law_side" 783 784 252 3 407 408 409 410 411 788 789
def Fk:=gk1 "_law_side" "_law_side" nD "law_platecuts_k86_whole_stores_undone" 747 412
def Fl:=gk0 "_law_worth" 791 "_law_worth" 792 793 256 1 414 415 416 417 418 796 797
def Fm:=gk1 "_law_worth" "_law_worth" jd "law_platecuts_k86_whole_stores_undone" 747 419
def Fn:=gk0 "_law_shop" 799 "_law_shop" 800 801 259 2 421 422 423 424 425 809 810
def Fo:=gk1 "_law_shop" "_law_shop" nG "law_platecuts_k86_whole_stores_undone" 747 426
def Fp:=gk0 "_law_sides" 812 "_law_sides" 813 814 267 3 428 429 430 431 432 820 821
def Fq:=gk1 "_law_sides" "_law_sides" je "law_platecuts_k86_whole_stores_undone" 747 433
def Fs:=gk0 "_law_lyings" 823 "_law_lyings" 824 825 270 1 435 436 437 438 439 830 831
def Ft:=gk1 "_law_lyings" "_law_lyings" gw "law_platecuts_k86_whole_stores_undone" 747 440
def Fu:=gk0 "_law_behind" 833 "_law_behind" 834 835 277 5 442 443 444 445 446 841 842
def Fv:=gk1 "_law_behind" "_law_behind" gx "law_platecuts_k86_whole_stores_undone" 747 447
def Fw:=gk0 "_law_leaf" 844 "_law_leaf" 845 846 281 4 449 450 451 452 453 855 856
def Fx:=gk1 "_law_leaf" "_law_leaf" nH "law_platecuts_k86_whole_stores_undone" 747 454
def Fy:=gk0 "_law_tree" 858 "_law_tree" 859 860 292 6 456 457 458 459 460 873 874
def Fz:=gk1 "_law_tree" "_law_tree" iC "law_platecuts_k86_whole_stores_undone" 747 461
def FA:=gk0 "_law_asked" 876 "_law_asked" 877 878 303 1 463 464 465 466 467 880 881
def FB:=gk1 "_law_asked" "_law_asked" jf "law_platecuts_k86_whole_stores_undone" 747 468
def FC:=gk0 "_law_deed" 883 "_law_deed" 884 885 305 4 470 471 472 473 474 894 895
def FD:=gk1 "_law_deed" "_law_deed" nI "law_platecuts_k86_whole_stores_undone" 747 475
def FE:=gk0 "_law_done" 897 "_law_done" 898 899 311 2 477 478 479 480 481 902 903
def FF:=gk1 "_law_done" "_law_done" nJ "law_platecuts_k86_whole_stores_undone" 747 482
def FG:=gk4 "_law_loses" 905 "_law_loses" 906 907 315 3 484 485 486 908 909
def FH:=gk1 "_law_loses" "_law_loses" fK "law_platecuts_k86_whole_stores_undone" 747 487
def FI:=gk0 "_law_balanced" 911 "_law_balanced" 912 913 324 2 489 490 491 492 493 920 921
def FJ:=gk1 "_law_balanced" "_law_balanced" dY "law_platecuts_k86_whole_stores_undone" 747 494
def FK:=gk0 "_law_no_store" 923 "_law_no_store" 924 925 327 2 496 497 498 499 500 929 930
def FL:=gk1 "_law_no_store" "_law_no_store" fb "law_platecuts_k86_whole_stores_undone" 747 501
def FM:=gk4 "_law_back" 932 "_law_back" 933 934 334 2 503 504 505 935 936
def FN:=gk1 "_law_back" "_law_back" jG "law_platecuts_k86_whole_stores_undone" 747 506
def FO:=gk0 "_law_many_undone" 938 "_law_many_undone" 939 940 340 3 508 509 510 511 512 947 948
def FP:=gk1 "_law_many_undone" "_law_many_undone" cN "law_platecuts_k86_whole_stores_undone" 747 513
def FQ:=gk4 "law" 950 "law" 951 952 347 1 515 516 517 953 954
def FR:=gk1 "law" "law" gT "law_platecuts_k86_whole_stores_undone" 747 518
def kK:Params->Frag:=λ P=>(nat_lit 3,kO3 P) :: (nat_lit 20,Hn P) :: (nat_lit 21,Ho P) :: (nat_lit 30,Hq P) :: (nat_lit 31,Hr P) :: (nat_lit 43,Hs P) :: (nat_lit 44,Ht P) :: (nat_lit 55,Hu P) :: (nat_lit 56,Hv P) :: (nat_lit 67,Hw P) :: (nat_lit 68,HA P) :: (nat_lit 79,HB P) :: (nat_lit 80,HC P) :: (nat_lit 91,HD P) :: (nat_lit 92,HE P) :: (nat_lit 103,Dg P) :: (nat_lit 104,Dh P) :: (nat_lit 115,Di P) :: (nat_lit 116,Dj P) :: (nat_lit 124,Dk P) :: (nat_lit 125,Dl P) :: (nat_lit 131,Dm P) :: (nat_lit 132,Do P) :: (nat_lit 138,Dp P) :: (nat_lit 139,Dq P) :: (nat_lit 145,Dr P) :: (nat_lit 146,Ds P) :: (nat_lit 147,Du P) :: (nat_lit 153,Dv P) :: (nat_lit 154,Dw P) :: (nat_lit 160,Dx P) :: (nat_lit 161,Dy P) :: (nat_lit 167,Dz P) :: (nat_lit 168,DG P) :: (nat_lit 174,DH P) :: (nat_lit 175,DJ P) :: (nat_lit 181,DM P) :: (nat_lit 182,DN P) :: (nat_lit 188,DQ P) :: (nat_lit 189,DV P) :: (nat_lit 195,DX P) :: (nat_lit 196,DY P) :: (nat_lit 202,DZ P) :: (nat_lit 203,Ea P) :: (nat_lit 209,Eb P) :: (nat_lit 210,Ec P) :: (nat_lit 216,Ed P) :: (nat_lit 217,Ee P) :: (nat_lit 221,Ef P) :: (nat_lit 222,Eg P) :: (nat_lit 226,Eh P) :: (nat_lit 227,Ei P) :: (nat_lit 233,Ej P) :: (nat_lit 234,Ek P) :: (nat_lit 245,El P) :: (nat_lit 246,Em P) :: (nat_lit 252,En P) :: (nat_lit 253,Eo P) :: (nat_lit 259,Ep P) :: (nat_lit 260,Er P) :: (nat_lit 266,Es P) :: (nat_lit 267,Et P) :: (nat_lit 271,Eu P) :: (nat_lit 272,Ev P) :: (nat_lit 278,Ew P) :: (nat_lit 279,Ex P) :: (nat_lit 285,Ey P) :: (nat_lit 286,Ez P) :: (nat_lit 290,EA P) :: (nat_lit 291,EB P) :: (nat_lit 297,EC P) :: (nat_lit 298,ED P) :: (nat_lit 300,EE P) :: (nat_lit 301,EF P) :: (nat_lit 311,EG P) :: (nat_lit 312,EH P) :: (nat_lit 318,EI P) :: (nat_lit 319,EJ P) :: (nat_lit 330,EK P) :: (nat_lit 331,EL P) :: (nat_lit 337,EM P) :: (nat_lit 338,EN P) :: (nat_lit 344,EO P) :: (nat_lit 345,EQ P) :: (nat_lit 349,ER P) :: (nat_lit 350,ES P) :: (nat_lit 356,ET P) :: (nat_lit 357,EU P) :: (nat_lit 363,EV P) :: (nat_lit 364,EW P) :: (nat_lit 370,EX P) :: (nat_lit 371,EY P) :: (nat_lit 373,EZ P) :: (nat_lit 374,Fa P) :: (nat_lit 384,Fb P) :: (nat_lit 385,Fc P) :: (nat_lit 391,Fd P) :: (nat_lit 392,Fe P) :: (nat_lit 398,Ff P) :: (nat_lit 399,Fg P) :: (nat_lit 405,Fh P) :: (nat_lit 406,Fi P) :: (nat_lit 412,Fj P) :: (nat_lit 413,Fk P) :: (nat_lit 419,Fl P) :: (nat_lit 420,Fm P) :: (nat_lit 426,Fn P) :: (nat_lit 427,Fo P) :: (nat_lit 433,Fp P) :: (nat_lit 434,Fq P) :: (nat_lit 440,Fs P) :: (nat_lit 441,Ft P) :: (nat_lit 447,Fu P) :: (nat_lit 448,Fv P) :: (nat_lit 454,Fw P) :: (nat_lit 455,Fx P) :: (nat_lit 461,Fy P) :: (nat_lit 462,Fz P) :: (nat_lit 468,FA P) :: (nat_lit 469,FB P) :: (nat_lit 475,FC P) :: (nat_lit 476,FD P) :: (nat_lit 482,FE P) :: (nat_lit 483,FF P) :: (nat_lit 487,FG P) :: (nat_lit 488,FH P) :: (nat_lit 494,FI P) :: (nat_lit 495,FJ P) :: (nat_lit 501,FK P) :: (nat_lit 502,FL P) :: (nat_lit 506,FM P) :: (nat_lit 507,FN P) :: (nat_lit 513,FO P) :: (nat_lit 514,FP P) :: (nat_lit 518,FQ P) :: (nat_lit 519,FR P) :: []
end
end Pc
abbrev PySem.W.Fast.tw8261852406320099188:PySem.Program:=PySem.Challenge.pw_platecuts_k86_whole_stores_undone
theorem PySem.W.Fast.te8261852406320099188:PySem.Challenge.pw_platecuts_k86_whole_stores_undone=PySem.W.Fast.tw8261852406320099188:=rfl
namespace Hd
open PySem PySem.W
def S0:Str:="__name__"
def S2:Str:="__doc__"
def S3:Str:="__package__"
def S4:Str:="__loader__"
def S5:Str:="__spec__"
def FS:Str:="__main__"
def xf:Str:="__annotations__"
def xg:Str:="__builtins__"
def xh:Str:="__file__"
def jk:Str:=⟨⟨[47,99,108,97,105,109,47,99,117,116,46,112,121]⟩⟩
def xi:Str:="__cached__"
def HF:Str:="<module>"
def jU:Str:="platecuts.trees"
def jV:Str:="_wall"
def hZ:Str:="PlateError"
def lE:Str:="NoBlade"
def lF:Str:="NoKinds"
def lG:Str:="NoKind"
def lH:Str:="NoLying"
def lI:Str:="NoPlate"
def lJ:Str:="NoTree"
def lK:Str:="NoNumber"
def jW:Str:="is_whole"
def jX:Str:="is_truth"
def jY:Str:="is_row"
def jZ:Str:="check_plate"
def uF:Str:="DOWN"
def uG:Str:="down"
def uH:Str:="ACROSS"
def uI:Str:="across"
def uJ:Str:="WAYS"
def kh:Str:="lies_in"
def kj:Str:="cut_parts"
def uK:Str:="REST"
def xj:Str:="rest"
def uL:Str:="PIECE"
def xk:Str:="piece"
def uM:Str:="THINGS_OF_A_REST"
def uN:Str:="THINGS_OF_A_PIECE"
def HG:Str:="k"
def lL:Str:="__module__"
def hJ:Str:="platecuts.errors"
def xl:Str:="__qualname__"
def lM:Str:="__firstlineno__"
def lN:Str:="__static_attributes__"
def uO:Str:="__weakref__"
def lO:Str:="thing"
def FT:Str:="least"
def uP:Str:="platecuts.checks"
def hU:Str:="wide"
def hV:Str:="high"
def lP:Str:="shop"
def rS:Str:="kind"
def uQ:Str:="turned"
def rT:Str:="x"
def rV:Str:="y"
def FU:Str:="piece_wide"
def FV:Str:="piece_high"
def FW:Str:="platecuts.parts"
def jl:Str:="blade"
def HI:Str:="part"
def xn:Str:="way"
def FX:Str:="p"
def cJ:Str:="law_platecuts_k86_whole_stores_undone"
def xo:Str:="THINGS_OF_A_CUT"
def lQ:Str:="begins_with"
def lR:Str:="is_cut"
def lS:Str:="is_leaf"
def lT:Str:="spots_behind"
def lU:Str:="is_tree"
def lV:Str:="check_tree"
def lW:Str:="leaves_of"
def lX:Str:="pieces_of"
def lY:Str:="rests_of"
def lZ:Str:="counts_of"
def ma:Str:="areas_of"
def pQ:Str:="Store"
def xq:Str:="MOST_KINDS"
def xt:Str:="THINGS_OF_A_KIND"
def me:Str:="is_kind"
def mf:Str:="can_lie_turned"
def pR:Str:="Shop"
def mh:Str:="_law_cell"
def mj:Str:="_law_pot"
def mm:Str:="_law_take"
def mn:Str:="_law_unit"
def mo:Str:="_law_side"
def mq:Str:="_law_worth"
def mr:Str:="_law_shop"
def ms:Str:="_law_sides"
def mt:Str:="_law_lyings"
def mv:Str:="_law_behind"
def mx:Str:="_law_leaf"
def my:Str:="_law_tree"
def mz:Str:="_law_asked"
def mB:Str:="_law_deed"
def mC:Str:="_law_done"
def mD:Str:="_law_loses"
def mE:Str:="_law_balanced"
def mF:Str:="_law_no_store"
def mG:Str:="_law_back"
def FY:Str:="word"
def HJ:Str:="many"
def rW:Str:="spot"
def rX:Str:="tree"
def HL:Str:="side"
def HM:Str:="first"
def HN:Str:="second"
def HP:Str:="wide_ahead"
def HQ:Str:="high_ahead"
def HR:Str:="wide_behind"
def HS:Str:="high_behind"
def HU:Str:="step"
def HV:Str:="far_x"
def HW:Str:="far_y"
def FZ:Str:="waiting"
def HX:Str:="leaves"
def HY:Str:="pieces"
def Ga:Str:="part_wide"
def Gb:Str:="part_high"
def Gc:Str:="leaf"
def HZ:Str:="piece_x"
def Ia:Str:="piece_y"
def uR:Str:="platecuts.measures"
def Ib:Str:="rests"
def Ic:Str:="margins"
def pS:Str:="cells"
def gf:Str:="platecuts.stores"
def ia:Str:="__init__"
def rY:Str:="replace_standing"
def rZ:Str:="put"
def si:Str:="plate_of"
def sk:Str:="cut"
def pT:Str:="plates"
def pU:Str:="made"
def sr:Str:="undo"
def xu:Str:="Store.__init__"
def hW:Str:="self"
def Gd:Str:="standing"
def xw:Str:="Store.replace_standing"
def Ge:Str:="number"
def Id:Str:="cells_put"
def xA:Str:="Store.put"
def Ie:Str:="plate"
def xB:Str:="Store.plate_of"
def xC:Str:="Store.cut"
def xD:Str:="Store.plates"
def xE:Str:="Store.made"
def xF:Str:="Store.cells"
def xG:Str:="Store.undo"
def Ig:Str:="past"
def xH:Str:="__dict__"
def Ih:Str:="worth"
def pV:Str:="wanted"
def Ii:Str:="turns"
def gh:Str:="platecuts.shops"
def ss:Str:="kinds"
def su:Str:="lyings"
def sv:Str:="is_lying"
def sC:Str:="sides"
def xI:Str:="Shop.__init__"
def xJ:Str:="Shop.blade"
def xK:Str:="Shop.kinds"
def xL:Str:="Shop.wanted"
def xM:Str:="Shop.lyings"
def xN:Str:="Shop.is_lying"
def Ij:Str:="row"
def xO:Str:="Shop.sides"
def Ik:Str:="blade_width"
def Il:Str:="kind_rows"
def Im:Str:="_law_script"
def sD:Str:="_law_k"
def Io:Str:="_law_cell_here"
def km:Str:="_law_pot_here"
def Ip:Str:="_law_many"
def Iq:Str:="_law_digit"
def xP:Str:="_law_some"
def uS:Str:="_law_unit_here"
def Ir:Str:="_law_most"
def Iu:Str:="_law_blade"
def Iv:Str:="_law_kinds"
def pW:Str:="_law_wide"
def pX:Str:="_law_high"
def sE:Str:="_law_shop_here"
def xQ:Str:="_law_kind"
def Gf:Str:="_law_turned"
def Iw:Str:="_law_found"
def Gg:Str:="_law_way"
def Gh:Str:="_law_p"
def Ix:Str:="_law_own"
def Iy:Str:="_law_deep"
def Iz:Str:="_law_room"
def IA:Str:="_law_side_here"
def IB:Str:="_law_one"
def IC:Str:="_law_other"
def ID:Str:="_law_first"
def sG:Str:="_law_store"
def IE:Str:="_law_plates"
def IF:Str:="_law_number"
def IG:Str:="_law_deed_here"
def IH:Str:="_law_lost"
def II:Str:="_law_put"
def IJ:Str:="_law_there"
def xR:Str:="_law_made"
def IK:Str:="_law_rest"
def IL:Str:="_law_least"
def IM:Str:="_law_told"
def pY:Str:="_law_many_undone"
def sH:Str:="law"
def IN:Str:="_law_states"
abbrev HK:Hook:=kHook Pc.kK [nat_lit 3,nat_lit 20,nat_lit 21,nat_lit 30,nat_lit 31,nat_lit 43,nat_lit 44,nat_lit 55,nat_lit 56,nat_lit 67,nat_lit 68,nat_lit 79,nat_lit 80,nat_lit 91,nat_lit 92,nat_lit 103,nat_lit 104,nat_lit 115,nat_lit 116,nat_lit 124,nat_lit 125,nat_lit 131,nat_lit 132,nat_lit 138,nat_lit 139,nat_lit 145,nat_lit 146,nat_lit 147,nat_lit 153,nat_lit 154,nat_lit 160,nat_lit 161,nat_lit 167,nat_lit 168,nat_lit 174,nat_lit 175,nat_lit 181,nat_lit 182,nat_lit 188,nat_lit 189,nat_lit 195,nat_lit 196,nat_lit 202,nat_lit 203,nat_lit 209,nat_lit 210,nat_lit 216,nat_lit 217,nat_lit 221,nat_lit 222,nat_lit 226,nat_lit 227,nat_lit 233,nat_lit 234,nat_lit 245,nat_lit 246,nat_lit 252,nat_lit 253,nat_lit 259,nat_lit 260,nat_lit 266,nat_lit 267,nat_lit 271,nat_lit 272,nat_lit 278,nat_lit 279,nat_lit 285,nat_lit 286,nat_lit 290,nat_lit 291,nat_lit 297,nat_lit 298,nat_lit 300,nat_lit 301,nat_lit 311,nat_lit 312,nat_lit 318,nat_lit 319,nat_lit 330,nat_lit 331,nat_lit 337,nat_lit 338,nat_lit 344,nat_lit 345,nat_lit 349,nat_lit 350,nat_lit 356,nat_lit 357,nat_lit 363,nat_lit 364,nat_lit 370,nat_lit 371,nat_lit 373,nat_lit 374,nat_lit 384,nat_lit 385,nat_lit 391,nat_lit 392,nat_lit 398,nat_lit 399,nat_lit 405,nat_lit 406,nat_lit 412,nat_lit 413,nat_lit 419,nat_lit 420,nat_lit 426,nat_lit 427,nat_lit 433,nat_lit 434,nat_lit 440,nat_lit 441,nat_lit 447,nat_lit 448,nat_lit 454,nat_lit 455,nat_lit 461,nat_lit 462,nat_lit 468,nat_lit 469,nat_lit 475,nat_lit 476,nat_lit 482,nat_lit 483,nat_lit 487,nat_lit 488,nat_lit 494,nat_lit 495,nat_lit 501,nat_lit 502,nat_lit 506,nat_lit 507,nat_lit 513,nat_lit 514,nat_lit 518,nat_lit 519] (λ _=>by kernel_rfl)
abbrev pt:G8:=PySem.W.Fast.tw8261852406320099188
theorem pt_eq:PySem.Challenge.pw_platecuts_k86_whole_stores_undone=pt:=PySem.W.Fast.te8261852406320099188
def tp (i:Nat):Stmt:=pt.main.body.getD i (.Pass ⟨0,0,0,0⟩)
abbrev f (o:Params->Obj) (l r:Params->BT):Params->BT:=λ P=>.node (o P) (l P) (r P)
abbrev z:Params->BT:=λ _=>.nil
abbrev e (P:Params) (n:Str) (t:Nat) (v:JU):DictEntry:=⟨PyData.keyHash P n,.str n t,v⟩
abbrev m0:Nat:=nat_lit 11
abbrev an:Option JU:=(↑6)
abbrev en:Env:={ scope:=pt.main.scope,locals:=mainNs,globals:=mainNs,cells:=[],code:=(.ref 13),frame:=some 14 }
abbrev cE:Code:=.body (behindTheImports pt) en
abbrev qP:Pos:=⟨0,0,0,0⟩
abbrev B:List Frame:=[topFrame qP]
abbrev L0:=SL.s14018661285674007319x4
abbrev L1:=SL.s11665532747177232413x24
abbrev L2:=SL.s15183661809925369436x15
abbrev L3:=SL.s13915890719876406383x10
abbrev L4:=SL.s13459172003223722735x3
abbrev L5:=SL.s10557405761357834076x3
abbrev L6:=SL.s4233737765568776869x3
abbrev L7:=SL.s2508922471967985374x5
abbrev L8:=SL.s15574269061696679450x3
abbrev L9:=SL.s6016482663378992977x10
abbrev L10:=SL.s5596568736180474577x8
abbrev L11:=SL.s2839554839881490554x3
abbrev L12:=SL.s725004073602090463x7
abbrev L13:=SL.s9436932552931045734x7
abbrev L14:=SL.s2754603736356183583x3
abbrev L15:=SL.s15185746759980889043x6
abbrev L16:=SL.s8192189862530294059x4
abbrev L17:=SL.s7038307821325472102x4
abbrev L18:=SL.s5662562618415449548x6
abbrev L19:=SL.s15281542589158584767x7
abbrev L20:=SL.s17651547275483570877x7
abbrev L21:=SL.s4036449017235975746x7
abbrev L22:=SL.s8879979712987360175x4
abbrev L23:=SL.s1801250619170735830x3
abbrev L24:=SL.s17659931425627118568x2
abbrev L25:=SL.s6063217899685152688x5
abbrev L26:=SL.s8008927332132565319x10
abbrev L27:=SL.s3544116645089599534x10
abbrev L28:=SL.s13761710972054866084x4
abbrev L29:=SL.s12896375587409280029x5
abbrev L30:=SL.s13014049009108672802x3
abbrev L31:=SL.s13935586738268321596x6
abbrev L32:=SL.s8200498257699607233x3
abbrev L33:=SL.s14114244577727609259x3
abbrev L34:=SL.s1499430450269397089x4
abbrev L35:=SL.s8755793994789770505x5
abbrev L36:=SL.s15725212667919936108x3
abbrev L37:=SL.s15791221867095933363x3
abbrev L38:=SL.s81309575031448614x3
abbrev L39:=SL.s8069831620301644142x5
abbrev L40:=SL.s10061844253413749634x4
abbrev L41:=SL.s9496514870978017513x5
abbrev L42:=SL.s8899691144933366716x7
abbrev L43:=SL.s15201008993051130160x6
abbrev L44:=SL.s741896355592496720x3
abbrev L45:=SL.s17925004256654032244x4
abbrev L46:=SL.s11695548795398191787x4
abbrev L47:=SL.s4156966113859768872x10
abbrev L48:=SL.s9501651726347032510x9
abbrev L49:=SL.s15722918466584999320x5
abbrev L50:=SL.s591115383303110208x11
abbrev L51:=SL.s15721156781594690315x7
abbrev L52:=SL.s14340494229221121180x9
abbrev L53:=SL.s13429844117177748173x6
abbrev L54:=SL.s16463266125957815391x5
abbrev L55:=SL.s4922535414793169389x9
abbrev L56:=SL.s8101838861749082086x8
abbrev L57:=SL.s7066276694103001551x3
abbrev L58:=SL.s9222952809800978799x4
abbrev L59:=SL.s462964344163437139x3
abbrev L60:=SL.s2742458400755230247x6
abbrev L61:=SL.s1438033511350832697x5
abbrev L62:=SL.s14365286008749172514x8
abbrev L63:=SL.s3642769012341782148x3
abbrev L64:=SL.s4674234679698826739x5
abbrev L65:=SL.s16656946322747308186x12
abbrev L66:=SL.s10796804682411823810x3
abbrev L67:=SL.s4290257624100764138x5
abbrev L68:=SL.s2766695959194262286x5
abbrev L69:=SL.s17162191345867700912x4
abbrev L70:=SL.s14339709457334898076x3
abbrev L71:=SL.s4278001404047624695x13
abbrev L72:=SL.s6585700554429387442x18
abbrev L73:=SL.s5946037652744460706x9
abbrev L74:=SL.s7410770068591931388x13
abbrev L75:=SL.s11817881795495490833x17
abbrev L76:=SL.s15679963881808890155x10
abbrev L77:=SL.s3871700062485845797x15
abbrev L78:=SL.s7689518266570723881x14
abbrev L79:=SL.s9001593270443806431x14
abbrev L80:=SL.s6882542574934516792x11
abbrev L81:=SL.s14403400214490484960x8
abbrev L82:=SL.s14457978657717015782x11
abbrev L83:=SL.s1753610191782819921x11
abbrev L84:=SL.s14119380538032626715x11
abbrev L85:=SL.s11437920000406562045x9
abbrev L86:=SL.s10852414792293593619x7
abbrev L87:=SL.s14816307405966870543x14
abbrev L88:=SL.s8682627914449686677x12
abbrev L89:=SL.s4428170145600203450x18
abbrev L90:=SL.s5991306692159431302x13
abbrev L91:=SL.s16067994140765818257x11
abbrev L92:=SL.s2327743974964600596x11
abbrev L93:=SL.s2804747833354056582x9
abbrev L94:=SL.s6070975301684473832x10
abbrev L95:=SL.s14270485950484850486x7
abbrev L96:=SL.s12041534306414923332x18
abbrev L97:=SL.s2531307568338490285x13
abbrev L98:=SL.s631175304937289666x17
abbrev L99:=SL.s5144983644357021410x12
abbrev Ja:=SL.s18039099521571816885x18
abbrev Jb:=SL.s6011586214260557989x15
abbrev Jc:=SL.s5430567037509283100x13
abbrev Jd:=SL.s8117915138073963741x13
abbrev Je:=SL.s3423317712779056401x25
abbrev Jf:=SL.s2007317383269046180x15
abbrev Jg:=SL.s17481586968713580700x14
abbrev Jh:=SL.s2450899226349176912x13
abbrev Ji:=SL.s16626165730633575011x14
abbrev Jj:=SL.s14288496050688921416x11
abbrev Jk:=SL.s5735081916595925998x15
abbrev Jl:=SL.s3865607918536308442x17
abbrev Jm:=SL.s13337502604062700212x15
abbrev Jn:=SL.s13114017843053701147x15
abbrev Jo:=SL.s17467278006356818441x17
abbrev Jp:=SL.s17722149559621369488x16
abbrev Jq:=SL.s7855274175708717672x17
abbrev Jr:=SL.s13351283678309829046x18
abbrev Js:=SL.s6668348653404991179x15
abbrev Jt:=SL.s12913350958174193794x18
abbrev Ju:=SL.s16115879512475548326x12
abbrev Jv:=SL.s15920661018069861047x16
abbrev Jw:=SL.s10779130036587390575x21
abbrev Jx:=SL.s7801419657504700863x10
abbrev Jy:=SL.s1688129525768580628x8
abbrev Jz:=SL.s1031832959479892071x19
abbrev JA:=SL.s8991790508128307865x19
abbrev JB:=SL.s14539662485746970245x23
abbrev JC:=SL.s11643622729373238714x14
abbrev JD:=SL.s3386828779285465597x17
abbrev JE:=SL.s13042696260734638735x12
abbrev JF:=SL.s18239426817015966623x15
abbrev JG:=SL.s1270395311379034370x22
abbrev JH:=SL.s10696252587037064777x22
abbrev JI:=SL.s7852717498200857586x20
abbrev JJ:=SL.s6377248116197321094x8
abbrev JK:=SL.s3834378056692298002x18
abbrev JL:=SL.s17586630440231065808x18
abbrev JM:=SL.s15234114252648025395x21
abbrev JN:=SL.s8496462677383758984x14
abbrev JO:=SL.s16789243406116112673x4
abbrev JP:=SL.s14400166428656793546x20
abbrev JQ:=SL.s5857708277339239366x20
abbrev JR:=SL.s7804999707787243718x20
abbrev xS:=SL.s7097527257260152453x26
abbrev JS:=SL.s6658869562736209489x6
abbrev xT:=SL.s5856160107412720595x4
abbrev IO:=SL.s658472552662922059x5
abbrev sZ (w:JT) (os:OsState):G7:=⟨boot_heap w.params,Array.mk [],boot_drawn,boot_toks,os⟩
def o11 (P:Params):Obj:=⟨(.type L68),none,(.seq #[] 0),#[]⟩
def o12 (P:Params):Obj:=⟨.none,none,(.fields #[]),#[]⟩
def g0 (x0:Str)(x1 x2 x3:Nat)(P:Params):Obj:=⟨(.type xT),none,(.fields #[.str x0 x1,.str x0 (x1+1),.str jk (x1+2),.int x2 0,.int 0 0,.int 0 0,.int 0 0,.int 0 0,.ref x3,.bool false,.int 181 0,.ref (x3+1),.none,.none,.none,.none,.int (x1+3) 0,.int x2 0,.str jk (x1+4)]),#[]⟩
def o13:=g0 HF 182 1 11
def g1 (x0 x1:Nat)(x2:Str)(x3:Nat)(P:Params):Obj:=⟨(.type IO),none,.plain,#[↑x0,↑3,↑x1,none,some (.str x2 x3),none,↑0]⟩
def o14:=g1 13 3 FS 164
def hA (P:Params):Heap:=⟨⟨[boot_o_0 P,boot_o_1 P,boot_o_2 P,boot_o_3 P,boot_o_4 P,boot_o_5 P,boot_o_6 P,boot_o_7 P,boot_o_8 P,boot_o_9 P,boot_o_10 P,o11 P,o12 P,o13 P,o14 P]⟩,{ }⟩
abbrev sA (w:JT) (os:OsState):G7:=⟨hA w.params,(Array.mk []),⟨0,0,0,0⟩,187,os⟩
abbrev pA:Pos:=⟨0,0,0,0⟩
theorem pre (w:JT):(λ os=>topGo treeTable pt w m0 an 12 (sZ w os) (topStub pt))=λ os=>some (sA w os,(⟨denote treeTable cE,cE,pA,B⟩:Thread)):=by rw [PySem.W.Fast.te15667345088766844465,PySem.W.Fast.te14364793385576792824,PySem.W.Fast.te11892475500146522536]; kernel_rfl
def tB:Params->BT:=(f boot_o_0 (f boot_o_1 (f boot_o_3 (f boot_o_7 z z) (f o11 z z)) (f boot_o_5 (f boot_o_9 z z) (f o13 z z))) (f boot_o_2 (f boot_o_4 (f boot_o_8 z z) (f o12 z z)) (f boot_o_6 (f boot_o_10 z z) (f o14 z z))))
abbrev sB (w:JT) (os:OsState):SharedT:=⟨tB w.params,15,{ },(Array.mk []),⟨0,0,0,0⟩,187,os⟩
abbrev pB:Pos:=⟨0,0,0,0⟩
theorem blk (w:JT):(λ os=>segRun treeTable pt w m0 an 1 1 (sA w os) ⟨(blockStart (behindTheImports pt) en).wrap (λ _=>doneF .next) deadEnd id id,cE,pA,B⟩)=λ os=>some (.next,(sB w os).abs,cE,pB):=by rw [PySem.W.Fast.te14374325043358763698,PySem.W.Fast.te14364793385576792824,PySem.W.Fast.te1066825118222455980]; kernel_rfl
def IP (P:Params):Obj:=⟨(.type L0),none,(.dict #[e P S0 165 (.str jU 392),e P S2 166 .none,e P S3 167 .none,e P S4 168 (.builtin xS),e P S5 169 .none,e P xf 170 (.ref 6),e P xg 171 (.ref 4),e P xh 173 (.str jk 172),e P xi 174 .none,e P jV 193 (.ref 21),e P hZ 213 (.ref 31),e P lE 229 (.ref 44),e P lF 245 (.ref 56),e P lG 261 (.ref 68),e P lH 277 (.ref 80),e P lI 293 (.ref 92),e P lJ 309 (.ref 104),e P lK 325 (.ref 116),e P jW 335 (.ref 125),e P jX 342 (.ref 132),e P jY 349 (.ref 139),e P jZ 357 (.ref 146),e P uF 361 (.str uG 360),e P uH 363 (.str uI 362),e P uJ 364 (.ref 147),e P kh 379 (.ref 154),e P kj 391 (.ref 161),e P uK 395 (.str xj 394),e P uL 397 (.str xk 396),e P uM 399 (.int 1 398),e P uN 401 (.int 5 400)] 31),#[]⟩
def Gi (P:Params):Obj:=⟨.none,none,(.fields #[.int 1 0,.int 0 0,.ref 20,.int 5 0,.int 0 0,.ref 27,.int 7 0,.int 0 0,.ref 40,.int 9 0,.int 0 0,.ref 52,.int 11 0,.int 0 0,.ref 64,.int 13 0,.int 0 0,.ref 76,.int 15 0,.int 0 0,.ref 88,.int 17 0,.int 0 0,.ref 100,.int 19 0,.int 0 0,.ref 112,.int 22 0,.int 0 0,.ref 124,.int 24 0,.int 0 0,.ref 131,.int 26 0,.int 0 0,.ref 138,.int 28 0,.int 0 0,.ref 145,.int 35 0,.int 0 0,.ref 153,.int 40 0,.int 0 0,.ref 160]),#[]⟩
def g2 (x0:Str)(x1:Nat)(P:Params):Obj:=⟨(.type L68),none,(.seq #[.str x0 x1] 0),#[]⟩
def o17:=g2 HG 190
def g3 (x0:Str)(x1:Nat)(P:Params):Obj:=⟨.none,none,(.func ⟨x0,x0,L2.defArgs (tp x1),(.stmts (L2.defBody (tp x1))),L2.defScope (tp x1),0,[],.none,.none,.none,.none,none,.none,.none,0⟩),#[]⟩
def o19:=g3 jV 0
def g4 (x0:Str)(x1:Nat)(x2:Str)(x3 x4 x5 x6:Nat)(P:Params):Obj:=⟨(.type xT),none,(.fields #[.str x0 x1,.str x2 (x1+1),.str jk (x1+2),.int x3 0,.int x4 0,.int 0 0,.int 0 0,.int 3 0,.ref x5,.bool true,.int 181 0,.ref (x5+1),.none,.ref (x5+2),.ref (x5+3),.ref (x5+4),.int x6 0,.int x3 0,.str jk (x6+1)]),#[]⟩
def o20:=g4 jV 187 jV 1 1 15 191
abbrev Gj:=SL.s7174869446012820540x8
def g5 (x0:Str)(x1:Nat)(x2:Str)(x3 x4:Nat)(P:Params):Obj:=⟨(.type Gj),none,(.func ⟨x0,x0,L2.defArgs (tp x1),(.stmts (L2.defBody (tp x1))),L2.defScope (tp x1),3,[],.none,.none,.none,.str x2 x3,none,.ref x4,.none,0⟩),#[]⟩
def o21:=g5 jV 0 FS 164 20
def o22 (P:Params):Obj:=⟨(.type L68),none,(.seq #[.type L94] 0),#[]⟩
abbrev Gk:=SL.s11030030927630378310x26
abbrev IQ:=SL.s10062305145149207511x16
def o23 (P:Params):Obj:=⟨(.type Gk),none,(.fields #[.builtin IQ,.type L69]),#[]⟩
def g6 (x0:Nat)(x1:Str)(x2 x3:Nat)(P:Params):Obj:=⟨(.type L0),none,(.dict #[e P lL x0 (.str hJ 194),e P xl (x0+2) (.str x1 (x0+1)),e P lM (x0+4) (.int x2 (x0+3)),e P lN (x0+5) (.ref x3)] 4),#[]⟩
def o24:=g6 203 hZ 5 29
def o27:=g0 hZ 198 5 25
def o28:=g1 27 24 hJ 194
def o30 (P:Params):Obj:=⟨(.type L0),none,(.dict #[e P lL 203 (.str hJ 194),e P lM 207 (.int 5 206),e P lN 208 (.ref 29),e P uO 210 (.ref 32),e P S2 211 .none] 3),#[]⟩
abbrev Gm:=SL.s4209523147560561109x18
def o31 (P:Params):Obj:=⟨(.type L69),none,(.cls ⟨hZ,[.type L94],[.ref 31,.type L94,.type L73,.type L71,.type L60],30,hZ,true,[],[.ref 44,.ref 56,.ref 68,.ref 80,.ref 92,.ref 104,.ref 116],false,none,false⟩),#[↑22,none,some (.str hZ 196),some (.str hZ 204),some (.builtin Gm),some (.bool true)]⟩
abbrev Gn:=SL.s14755015743595814543x17
abbrev IR:=SL.s10220274742760427390x26
def g7 (x0 x1:Nat)(P:Params):Obj:=⟨(.type Gn),none,(.fields #[.str uO x0,.ref x1,.builtin IR,.none]),#[]⟩
def o32:=g7 209 31
def g8 (x0:Nat)(P:Params):Obj:=⟨(.type L67),none,(.fields #[.ref x0,.ref x0,.ref x0]),#[]⟩
def o33:=g8 31
abbrev IS:=SL.s4860613602091757760x24
def g9 (x0:Nat)(P:Params):Obj:=⟨(.type Gk),none,(.fields #[.builtin IS,.ref x0]),#[]⟩
def o34:=g9 31
def o35 (P:Params):Obj:=⟨(.type L68),none,(.seq #[.ref 31] 0),#[]⟩
def o37:=g6 221 lE 7 42
def o40:=g0 lE 216 7 38
def o41:=g1 40 37 hJ 194
def g10 (x0 x1 x2:Nat)(P:Params):Obj:=⟨(.type L0),none,(.dict #[e P lL x0 (.str hJ 194),e P lM (x0+4) (.int x1 (x0+3)),e P lN (x0+5) (.ref x2),e P S2 (x0+6) .none] 2),#[]⟩
def o43:=g10 221 7 42
def g11 (x0:Str)(x1 x2 x3 x4:Nat)(P:Params):Obj:=⟨(.type L69),none,(.cls ⟨x0,[.ref 31],[.ref x1,.ref 31,.type L94,.type L73,.type L71,.type L60],x2,x0,true,[],[],false,none,false⟩),#[↑x3,none,some (.str x0 x4),some (.str x0 (x4+8)),some (.builtin Gm),some (.bool true)]⟩
def o44:=g11 lE 44 43 35 214
def o45:=g8 44
def o46:=g9 44
def o49:=g6 237 lF 9 54
def o52:=g0 lF 232 9 50
def o53:=g1 52 49 hJ 194
def o55:=g10 237 9 54
def o56:=g11 lF 56 55 47 230
def o57:=g8 56
def o58:=g9 56
def o61:=g6 253 lG 11 66
def o64:=g0 lG 248 11 62
def o65:=g1 64 61 hJ 194
def o67:=g10 253 11 66
def o68:=g11 lG 68 67 59 246
def o69:=g8 68
def o70:=g9 68
def o73:=g6 269 lH 13 78
def o76:=g0 lH 264 13 74
def o77:=g1 76 73 hJ 194
def o79:=g10 269 13 78
def o80:=g11 lH 80 79 71 262
def o81:=g8 80
def o82:=g9 80
def o85:=g6 285 lI 15 90
def o88:=g0 lI 280 15 86
def o89:=g1 88 85 hJ 194
def o91:=g10 285 15 90
def o92:=g11 lI 92 91 83 278
def o93:=g8 92
def o94:=g9 92
def o97:=g6 301 lJ 17 102
def uT:=g0 lJ 296 17 98
def uU:=g1 100 97 hJ 194
def uV:=g10 301 17 102
def uW:=g11 lJ 104 103 95 294
def uX:=g8 104
def uY:=g9 104
def uZ:=g6 317 lK 19 114
def va:=g0 lK 312 19 110
def vb:=g1 112 109 hJ 194
def vc:=g10 317 19 114
def vd:=g11 lK 116 115 107 310
def ve:=g8 116
def vf:=g9 116
def g12 (x0:Str)(x1:Nat)(x2:Str)(x3:Nat)(P:Params):Obj:=⟨(.type L68),none,(.seq #[.str x0 x1,.str x2 x3] 0),#[]⟩
def vg:=g12 lO 331 FT 332
def vh:=g3 jW 11
def vi:=g4 jW 328 jW 22 2 119 333
def vj:=g5 jW 11 uP 326 124
def vk:=g2 lO 339
def vm:=g3 jX 12
def vn:=g4 jX 336 jX 24 1 126 340
def vo:=g5 jX 12 uP 326 131
def vp:=g2 lO 346
def vq:=g3 jY 13
def vt:=g4 jY 343 jY 26 1 133 347
def vw:=g5 jY 13 uP 326 138
def vx:=g12 hU 353 hV 354
def vy:=g3 jZ 14
def vz:=g4 jZ 350 jZ 28 2 140 355
def vA:=g5 jZ 14 uP 326 145
def vB:=g12 uG 360 uI 362
def vC (P:Params):Obj:=⟨(.type L68),none,(.seq #[.str lP 368,.str hU 369,.str hV 370,.str rS 371,.str uQ 372,.str rT 373,.str rV 374,.str FU 375,.str FV 376] 0),#[]⟩
def vD:=g3 kh 19
def vE:=g4 kh 365 kh 35 7 148 377
def vF:=g5 kh 19 FW 358 153
def g13 (x0:Str)(x1:Nat)(x2 x3 x4 x5 x6:Str)(P:Params):Obj:=⟨(.type L68),none,(.seq #[.str x0 x1,.str x2 (x1+1),.str x3 (x1+2),.str x4 (x1+3),.str x5 (x1+4),.str x6 (x1+5)] 0),#[]⟩
def vG:=g13 jl 383 HI xn FX hU hV
def vH:=g3 kj 20
def vI:=g4 kj 380 kj 40 4 155 389
def vJ:=g5 kj 20 FW 358 160
def t0:Params->BT:=(f boot_o_0 (f boot_o_1 (f IP (f boot_o_7 (f o11 (f o31 (f o12 (f o12 z z) z) (f o35 (f vH z z) z)) (f o35 (f o79 (f o11 z z) z) (f o12 z z))) (f o23 (f o12 (f o35 (f vp z z) z) (f uV z z)) (f o55 (f o12 (f o11 z z) z) (f o11 z z)))) (f o11 (f o19 (f o35 (f o67 (f vn z z) z) (f o12 z z)) (f o12 (f o35 (f vB z z) z) (f vc z z))) (f o27 (f o43 (f o12 (f vw z z) z) (f o35 z z)) (f o35 (f o91 (f o11 z z) z) (f vh z z))))) (f boot_o_5 (f boot_o_9 (f o17 (f o33 (f o65 (f o11 z z) z) (f o97 (f vJ z z) z)) (f o49 (f o81 (f vz z z) z) (f vb z z))) (f o11 (f o41 (f o73 (f vq z z) z) (f uX z z)) (f o57 (f o89 (f vE z z) z) (f vg z z)))) (f o13 (f o21 (f o37 (f o69 (f o11 z z) z) (f uU z z)) (f o53 (f o85 (f o12 z z) z) (f ve z z))) (f o11 (f o45 (f o77 (f o12 z z) z) (f uZ z z)) (f o61 (f o93 (f vG z z) z) (f vj z z)))))) (f boot_o_2 (f boot_o_4 (f boot_o_8 (f o12 (f o32 (f o64 (f vk z z) z) (f o23 (f vI z z) z)) (f o23 (f o80 (f vy z z) z) (f va z z))) (f o24 (f o40 (f o23 (f o11 z z) z) (f uW z z)) (f o56 (f o88 (f vD z z) z) (f o12 z z)))) (f Gi (f o20 (f o23 (f o68 (f vo z z) z) (f uT z z)) (f o52 (f o23 (f o11 z z) z) (f vd z z))) (f o28 (f o44 (f o76 (f o11 z z) z) (f o23 z z)) (f o23 (f o92 (f o12 z z) z) (f vi z z))))) (f boot_o_6 (f boot_o_10 (f o11 (f o34 (f o11 (f vm z z) z) (f o11 z z)) (f o11 (f o82 (f vA z z) z) (f o11 z z))) (f o12 (f o11 (f o11 (f vt z z) z) (f uY z z)) (f o58 (f o11 (f vF z z) z) (f o11 z z)))) (f o14 (f o22 (f o11 (f o70 (f o12 z z) z) (f o11 z z)) (f o11 (f o11 (f vC z z) z) (f vf z z))) (f o30 (f o46 (f o11 (f vx z z) z) (f o11 z z)) (f o11 (f o94 (f o11 z z) z) (f o11 z z)))))))
abbrev s0 (w:JT) (os:OsState):SharedT:=⟨t0 w.params,162,{ },(Array.mk []),⟨0,0,0,0⟩,402,os⟩
abbrev p0:Pos:=⟨49,0,49,17⟩
abbrev st0:List Stmt:=(pt.main.body.drop 0).take 26
theorem q0 (w:JT):(λ os=>segRunT treeTable pt w m0 an 1 2000 (sB w os) ⟨(execs st0 en).wrap doneF deadEnd id id,cE,pB,B⟩)=λ os=>some (.next,s0 w os,cE,p0):=by rw [PySem.W.Fast.te10110043849684766642,PySem.W.Fast.te14364793385576792824,PySem.W.Fast.te12563942051412417395]; kernel_rfl
def IT (P:Params):Obj:=⟨(.type L0),none,(.dict #[e P S0 165 (.str cJ 747),e P S2 166 .none,e P S3 167 .none,e P S4 168 (.builtin xS),e P S5 169 .none,e P xf 170 (.ref 6),e P xg 171 (.ref 4),e P xh 173 (.str jk 172),e P xi 174 .none,e P jV 193 (.ref 21),e P hZ 213 (.ref 31),e P lE 229 (.ref 44),e P lF 245 (.ref 56),e P lG 261 (.ref 68),e P lH 277 (.ref 80),e P lI 293 (.ref 92),e P lJ 309 (.ref 104),e P lK 325 (.ref 116),e P jW 335 (.ref 125),e P jX 342 (.ref 132),e P jY 349 (.ref 139),e P jZ 357 (.ref 146),e P uF 361 (.str uG 360),e P uH 363 (.str uI 362),e P uJ 364 (.ref 147),e P kh 379 (.ref 154),e P kj 391 (.ref 161),e P uK 395 (.str xj 394),e P uL 397 (.str xk 396),e P uM 399 (.int 1 398),e P uN 401 (.int 5 400),e P xo 403 (.int 4 402),e P lQ 412 (.ref 168),e P lR 423 (.ref 175),e P lS 436 (.ref 182),e P lT 460 (.ref 189),e P lU 473 (.ref 196),e P lV 483 (.ref 203),e P lW 496 (.ref 210),e P lX 519 (.ref 217),e P lY 525 (.ref 222),e P lZ 531 (.ref 227),e P ma 552 (.ref 234),e P pQ 647 (.ref 301),e P xq 651 (.int 8 650),e P xt 653 (.int 5 652),e P me 665 (.ref 312),e P mf 672 (.ref 319),e P pR 746 (.ref 374),e P mh 756 (.ref 385),e P mj 764 (.ref 392),e P mm 773 (.ref 399),e P mn 781 (.ref 406),e P mo 790 (.ref 413),e P mq 798 (.ref 420),e P mr 811 (.ref 427),e P ms 822 (.ref 434),e P mt 832 (.ref 441),e P mv 843 (.ref 448),e P mx 857 (.ref 455),e P my 875 (.ref 462),e P mz 882 (.ref 469),e P mB 896 (.ref 476),e P mC 904 (.ref 483),e P mD 910 (.ref 488),e P mE 922 (.ref 495),e P mF 931 (.ref 502),e P mG 937 (.ref 507)] 68),#[]⟩
def Go (P:Params):Obj:=⟨.none,none,(.fields #[.int 1 0,.int 0 0,.ref 20,.int 5 0,.int 0 0,.ref 27,.int 7 0,.int 0 0,.ref 40,.int 9 0,.int 0 0,.ref 52,.int 11 0,.int 0 0,.ref 64,.int 13 0,.int 0 0,.ref 76,.int 15 0,.int 0 0,.ref 88,.int 17 0,.int 0 0,.ref 100,.int 19 0,.int 0 0,.ref 112,.int 22 0,.int 0 0,.ref 124,.int 24 0,.int 0 0,.ref 131,.int 26 0,.int 0 0,.ref 138,.int 28 0,.int 0 0,.ref 145,.int 35 0,.int 0 0,.ref 153,.int 40 0,.int 0 0,.ref 160,.int 51 0,.int 0 0,.ref 167,.int 55 0,.int 0 0,.ref 174,.int 62 0,.int 0 0,.ref 181,.int 67 0,.int 0 0,.ref 188,.int 74 0,.int 0 0,.ref 195,.int 85 0,.int 0 0,.ref 202,.int 88 0,.int 0 0,.ref 209,.int 99 0,.int 0 0,.ref 216,.int 107 0,.int 0 0,.ref 221,.int 111 0,.int 0 0,.ref 226,.int 117 0,.int 0 0,.ref 233,.int 130 0,.int 0 0,.ref 240,.int 189 0,.int 0 0,.ref 311,.int 196 0,.int 0 0,.ref 318,.int 198 0,.int 0 0,.ref 325,.int 236 0,.int 0 0,.ref 384,.int 240 0,.int 0 0,.ref 391,.int 242 0,.int 0 0,.ref 398,.int 249 0,.int 0 0,.ref 405,.int 252 0,.int 0 0,.ref 412,.int 256 0,.int 0 0,.ref 419,.int 259 0,.int 0 0,.ref 426,.int 267 0,.int 0 0,.ref 433,.int 270 0,.int 0 0,.ref 440,.int 277 0,.int 0 0,.ref 447,.int 281 0,.int 0 0,.ref 454,.int 292 0,.int 0 0,.ref 461,.int 303 0,.int 0 0,.ref 468,.int 305 0,.int 0 0,.ref 475,.int 311 0,.int 0 0,.ref 482,.int 315 0,.int 0 0,.ref 487,.int 324 0,.int 0 0,.ref 494,.int 327 0,.int 0 0,.ref 501,.int 334 0,.int 0 0,.ref 506]),#[]⟩
def g14 (x0:Str)(x1:Nat)(x2 x3:Str)(P:Params):Obj:=⟨(.type L68),none,(.seq #[.str x0 x1,.str x2 (x1+1),.str x3 (x1+2)] 0),#[]⟩
def xU:=g14 lO 407 FY HJ
def xV:=g3 lQ 27
def xW:=g4 lQ 404 lQ 51 3 162 410
def xX:=g5 lQ 27 jU 392 167
def g15 (x0:Str)(x1:Nat)(x2 x3 x4 x5:Str)(P:Params):Obj:=⟨(.type L68),none,(.seq #[.str x0 x1,.str x2 (x1+1),.str x3 (x1+2),.str x4 (x1+3),.str x5 (x1+4)] 0),#[]⟩
def xY:=g15 jl 416 rW rX xn HL
def xZ:=g3 lR 28
def ya:=g4 lR 413 lR 55 2 169 421
def yb:=g5 lR 28 jU 392 174
def g16 (x0:Str)(x1:Nat)(x2 x3 x4 x5 x6 x7:Str)(P:Params):Obj:=⟨(.type L68),none,(.seq #[.str x0 x1,.str x2 (x1+1),.str x3 (x1+2),.str x4 (x1+3),.str x5 (x1+4),.str x6 (x1+5),.str x7 (x1+6)] 0),#[]⟩
def yc:=g16 lP 427 rW rT rV hU hV rX
def yd:=g3 lS 29
def ye:=g4 lS 424 lS 62 2 176 434
def yf:=g5 lS 29 jU 392 181
def yg (P:Params):Obj:=⟨(.type L68),none,(.seq #[.str jl 440,.str rW 441,.str rT 442,.str rV 443,.str hU 444,.str hV 445,.str rX 446,.str xn 447,.str FX 448,.str HM 449,.str HN 450,.str HP 451,.str HQ 452,.str HR 453,.str HS 454,.str HU 455,.str HV 456,.str HW 457] 0),#[]⟩
def yh:=g3 lT 30
def yi:=g4 lT 437 lT 67 2 183 458
def yj:=g5 lT 30 jU 392 188
def yk:=g16 lP 464 hU hV lO jl FZ rW
def ym:=g3 lU 31
def yn:=g4 lU 461 lU 74 4 190 471
def yo:=g5 lU 31 jU 392 195
def g17 (x0:Str)(x1:Nat)(x2 x3 x4:Str)(P:Params):Obj:=⟨(.type L68),none,(.seq #[.str x0 x1,.str x2 (x1+1),.str x3 (x1+2),.str x4 (x1+3)] 0),#[]⟩
def yp:=g17 lP 477 hU hV lO
def yq:=g3 lV 32
def yr:=g4 lV 474 lV 85 4 197 481
def yt:=g5 lV 32 jU 392 202
def yu:=g16 lP 487 hU hV rX HX FZ rW
def yw:=g3 lW 33
def yx:=g4 lW 484 lW 88 4 204 494
def yy:=g5 lW 33 jU 392 209
def g18 (x0:Nat)(x1 x2 x3 x4 x5 x6 x7 x8 x9 x10:Str)(P:Params):Obj:=⟨(.type L68),none,(.seq #[.str lP x0,.str hU (x0+1),.str hV (x0+2),.str rX (x0+3),.str HY (x0+4),.str x1 (x0+5),.str x2 (x0+6),.str x3 (x0+7),.str x4 (x0+8),.str x5 (x0+9),.str x6 (x0+10),.str x7 (x0+11),.str x8 (x0+12),.str x9 (x0+13),.str x10 (x0+14)] 0),#[]⟩
def yz:=g18 502 rT rV Ga Gb Gc FY rS uQ HZ Ia
def yA:=g3 lX 35
def yB:=g4 lX 499 lX 99 4 211 517
def yC:=g5 lX 35 uR 497 216
def yD:=g3 lY 36
def g19 (x0:Str)(x1:Nat)(x2:Str)(x3 x4 x5:Nat)(P:Params):Obj:=⟨(.type xT),none,(.fields #[.str x0 x1,.str x2 (x1+1),.str jk (x1+2),.int x3 0,.int x4 0,.int 0 0,.int 0 0,.int 3 0,.ref x5,.bool true,.int 181 0,.ref (x5+1),.none,.none,.none,.ref (x5+2),.int (x1+3) 0,.int x3 0,.str jk (x1+4)]),#[]⟩
def yE:=g19 lY 520 lY 107 4 218
def yF:=g5 lY 36 uR 497 221
def yG:=g3 lZ 37
def yH:=g19 lZ 526 lZ 111 4 223
def yI:=g5 lZ 37 uR 497 226
def yJ:=g18 535 Ib Ic rT rV Ga Gb Gc pS FU FV
def yK:=g3 ma 38
def yL:=g4 ma 532 ma 117 4 228 550
def yM:=g5 ma 38 uR 497 233
def yN (P:Params):Obj:=⟨(.type L0),none,(.dict #[e P lL 562 (.str gf 553),e P xl 564 (.str pQ 563),e P lM 566 (.int 130 565),e P ia 572 (.ref 246),e P rY 580 (.ref 253),e P rZ 593 (.ref 260),e P si 602 (.ref 267),e P sk 608 (.ref 272),e P pT 615 (.ref 279),e P pU 622 (.ref 286),e P pS 628 (.ref 291),e P sr 635 (.ref 298),e P lN 640 (.ref 299)] 13),#[]⟩
def yO (P:Params):Obj:=⟨.none,none,(.fields #[.int 132 0,.int 4 0,.ref 245,.int 140 0,.int 4 0,.ref 252,.int 144 0,.int 4 0,.ref 259,.int 150 0,.int 4 0,.ref 266,.int 157 0,.int 4 0,.ref 271,.int 169 0,.int 4 0,.ref 278,.int 172 0,.int 4 0,.ref 285,.int 175 0,.int 4 0,.ref 290,.int 181 0,.int 4 0,.ref 297]),#[]⟩
def yP:=g0 pQ 557 130 238
def yQ:=g1 240 237 gf 553
def g20 (x0 x1:Str)(x2 x3:Nat)(P:Params):Obj:=⟨.none,none,(.func ⟨x0,x1,L2.defArgs (L2.inClass (tp x2) x3),(.stmts (L2.defBody (L2.inClass (tp x2) x3))),L2.defScope (L2.inClass (tp x2) x3),0,[],.none,.none,.none,.none,none,.none,.none,0⟩),#[]⟩
def yR:=g20 ia xu 40 0
def yS:=g19 ia 567 xu 132 3 242
def g21 (x0 x1:Str)(x2 x3:Nat)(x4:Str)(x5 x6:Nat)(P:Params):Obj:=⟨(.type Gj),none,(.func ⟨x0,x1,L2.defArgs (L2.inClass (tp x2) x3),(.stmts (L2.defBody (L2.inClass (tp x2) x3))),L2.defScope (L2.inClass (tp x2) x3),3,[],.none,.none,.none,.str x4 x5,none,.ref x6,.none,0⟩),#[]⟩
def yT:=g21 ia xu 40 0 gf 553 245
def yU:=g12 hW 576 Gd 577
def yV:=g20 rY xw 40 1
def yW:=g4 rY 573 xw 140 2 247 578
def yX:=g21 rY xw 40 1 gf 553 252
def yY:=g16 hW 584 hU hV pT Ge pU Id
def yZ:=g20 rZ xA 40 2
def zb:=g4 rZ 581 xA 144 3 254 591
def zc:=g21 rZ xA 40 2 gf 553 259
def ze:=g14 hW 597 Ge Ie
def zf:=g20 si xB 40 3
def zg:=g4 si 594 xB 150 2 261 600
def zh:=g21 si xB 40 3 gf 553 266
def zi:=g20 sk xC 40 4
def zk:=g19 sk 603 xC 157 3 268
def zm:=g21 sk xC 40 4 gf 553 271
def zn:=g2 hW 612
def zo:=g20 pT xD 40 5
def zq:=g4 pT 609 xD 169 1 273 613
def zr:=g21 pT xD 40 5 gf 553 278
def zt:=g2 hW 619
def zu:=g20 pU xE 40 6
def zw:=g4 pU 616 xE 172 1 280 620
def zx:=g21 pU xE 40 6 gf 553 285
def zy:=g20 pS xF 40 7
def zA:=g19 pS 623 xF 175 1 287
def zB:=g21 pS xF 40 7 gf 553 290
def zC:=g2 hW 632
def zD:=g20 sr xG 40 8
def zE:=g4 sr 629 xG 181 1 292 633
def zF:=g21 sr xG 40 8 gf 553 297
def zG:=g17 FT 636 Ig lP Gd
def zH (P:Params):Obj:=⟨(.type L0),none,(.dict #[e P lL 562 (.str gf 553),e P lM 566 (.int 130 565),e P ia 572 (.ref 246),e P rY 580 (.ref 253),e P rZ 593 (.ref 260),e P si 602 (.ref 267),e P sk 608 (.ref 272),e P pT 615 (.ref 279),e P pU 622 (.ref 286),e P pS 628 (.ref 291),e P sr 635 (.ref 298),e P lN 640 (.ref 299),e P xH 642 (.ref 302),e P uO 644 (.ref 303),e P S2 645 .none] 4),#[]⟩
abbrev IU:=SL.s11443829558043349243x14
def g22 (x0:Str)(x1 x2 x3:Nat)(P:Params):Obj:=⟨(.type L69),none,(.cls ⟨x0,[.type L60],[.ref x1,.type L60],x2,x0,true,[],[],false,none,false⟩),#[none,none,some (.str x0 x3),some (.str x0 (x3+8)),some (.builtin IU),some (.bool true)]⟩
def zI:=g22 pQ 301 300 555
abbrev IV:=SL.s6511155373996960695x17
abbrev IW:=SL.s12411053484034534018x21
def g23 (x0 x1:Nat)(P:Params):Obj:=⟨(.type Gn),none,(.fields #[.str xH x0,.ref x1,.builtin IV,.builtin IW]),#[]⟩
def zJ:=g23 641 301
def zK:=g7 643 301
def zL:=g8 301
def zM:=g9 301
def zN:=g13 lO 657 hU hV Ih pV Ii
def zO:=g3 me 44
def zP:=g4 me 654 me 189 1 306 663
def zQ:=g5 me 44 gh 648 311
def zR:=g2 rS 669
def zS:=g3 mf 45
def zT:=g4 mf 666 mf 196 1 313 670
def zU:=g5 mf 45 gh 648 318
def zV (P:Params):Obj:=⟨(.type L0),none,(.dict #[e P lL 680 (.str gh 648),e P xl 682 (.str pR 681),e P lM 684 (.int 198 683),e P ia 690 (.ref 331),e P jl 697 (.ref 338),e P ss 704 (.ref 345),e P pV 710 (.ref 350),e P su 717 (.ref 357),e P sv 726 (.ref 364),e P sC 736 (.ref 371),e P lN 739 (.ref 372)] 11),#[]⟩
def zW (P:Params):Obj:=⟨.none,none,(.fields #[.int 200 0,.int 4 0,.ref 330,.int 211 0,.int 4 0,.ref 337,.int 214 0,.int 4 0,.ref 344,.int 217 0,.int 4 0,.ref 349,.int 220 0,.int 4 0,.ref 356,.int 223 0,.int 4 0,.ref 363,.int 228 0,.int 4 0,.ref 370]),#[]⟩
def zX:=g0 pR 675 198 323
def zY:=g1 325 322 gh 648
def zZ:=g20 ia xI 46 0
def Aa:=g19 ia 685 xI 200 3 327
def Ab:=g21 ia xI 46 0 gh 648 330
def Ac:=g2 hW 694
def Ae:=g20 jl xJ 46 1
def Af:=g4 jl 691 xJ 211 1 332 695
def Ag:=g21 jl xJ 46 1 gh 648 337
def Ah:=g2 hW 701
def Ai:=g20 ss xK 46 2
def Aj:=g4 ss 698 xK 214 1 339 702
def Ak:=g21 ss xK 46 2 gh 648 344
def Al:=g20 pV xL 46 3
def Am:=g19 pV 705 xL 217 1 346
def An:=g21 pV xL 46 3 gh 648 349
def Ao:=g2 hW 714
def Ap:=g20 su xM 46 4
def Aq:=g4 su 711 xM 220 1 351 715
def Ar:=g21 su xM 46 4 gh 648 356
def As:=g14 hW 721 rS uQ
def At:=g20 sv xN 46 5
def Au:=g4 sv 718 xN 223 3 358 724
def Av:=g21 sv xN 46 5 gh 648 363
def Aw:=g17 hW 730 rS uQ Ij
def Ax:=g20 sC xO 46 6
def Ay:=g4 sC 727 xO 228 3 365 734
def Az:=g21 sC xO 46 6 gh 648 370
def AA:=g12 Ik 737 Il 738
def AB (P:Params):Obj:=⟨(.type L0),none,(.dict #[e P lL 680 (.str gh 648),e P lM 684 (.int 198 683),e P ia 690 (.ref 331),e P jl 697 (.ref 338),e P ss 704 (.ref 345),e P pV 710 (.ref 350),e P su 717 (.ref 357),e P sv 726 (.ref 364),e P sC 736 (.ref 371),e P lN 739 (.ref 372),e P xH 741 (.ref 375),e P uO 743 (.ref 376),e P S2 744 .none] 4),#[]⟩
def AC:=g22 pR 374 373 673
def AD:=g23 740 374
def AE:=g7 742 374
def AF:=g8 374
def AG:=g9 374
def AH:=g12 Im 752 sD 753
def AI:=g3 mh 48
def AJ:=g4 mh 749 mh 236 2 379 754
def AK:=g5 mh 48 cJ 747 384
def AL:=g12 Io 760 sD 761
def AM:=g3 mj 49
def AN:=g4 mj 757 mj 240 2 386 762
def AO:=g5 mj 49 cJ 747 391
def AQ:=g14 km 768 Ip Iq
def AR:=g3 mm 50
def AS:=g4 mm 765 mm 242 2 393 771
def AT:=g5 mm 50 cJ 747 398
def AU:=g12 km 777 xP 778
def AV:=g3 mn 51
def AW:=g4 mn 774 mn 249 1 400 779
def AX:=g5 mn 51 cJ 747 405
def AY:=g14 km 785 uS Ir
def AZ:=g3 mo 52
def Ba:=g4 mo 782 mo 252 3 407 788
def Bb:=g5 mo 52 cJ 747 412
def Bc:=g12 km 794 xP 795
def Bd:=g3 mq 53
def Be:=g4 mq 791 mq 256 1 414 796
def Bf:=g5 mq 53 cJ 747 419
def Bg:=g16 km 802 uS Iu Iv sD pW pX
def Bh:=g3 mr 54
def Bi:=g4 mr 799 mr 259 2 421 809
def Bj:=g5 mr 54 cJ 747 426
def Bk:=g15 sE 815 xQ Gf pW pX
def Bl:=g3 ms 55
def Bm:=g4 ms 812 ms 267 3 428 820
def Bn:=g5 ms 55 cJ 747 433
def Bo:=g17 sE 826 Iw sD xQ
def Bp:=g3 mt 56
def Bq:=g4 mt 823 mt 270 1 435 830
def Br:=g5 mt 56 cJ 747 440
def Bs:=g15 sE 836 pW pX Gg Gh
def Bt:=g3 mv 57
def Bu:=g4 mv 833 mv 277 5 442 841
def Bv:=g5 mv 57 cJ 747 447
def g24 (x0:Nat)(x1 x2 x3 x4 x5 x6:Str)(P:Params):Obj:=⟨(.type L68),none,(.seq #[.str km x0,.str sE (x0+1),.str x1 (x0+2),.str x2 (x0+3),.str x3 (x0+4),.str x4 (x0+5),.str x5 (x0+6),.str x6 (x0+7)] 0),#[]⟩
def Bw:=g24 847 pW pX xP xQ Gf Ix
def By:=g3 mx 58
def Bz:=g4 mx 844 mx 281 4 449 855
def BA:=g5 mx 58 cJ 747 454
def BB (P:Params):Obj:=⟨(.type L68),none,(.seq #[.str km 861,.str sE 862,.str pW 863,.str pX 864,.str Iy 865,.str Iz 866,.str Gg 867,.str IA 868,.str Gh 869,.str IB 870,.str IC 871,.str ID 872] 0),#[]⟩
def BC:=g3 my 59
def BD:=g4 my 858 my 292 6 456 873
def BE:=g5 my 59 cJ 747 461
def BF:=g2 sG 879
def BG:=g3 mz 60
def BH:=g4 mz 876 mz 303 1 463 880
def BI:=g5 mz 60 cJ 747 468
def BJ:=g24 886 uS sG IE IF pW pX
def BK:=g3 mB 61
def BL:=g4 mB 883 mB 305 4 470 894
def BM:=g5 mB 61 cJ 747 475
def BN:=g12 sG 900 IG 901
def BO:=g3 mC 62
def BP:=g4 mC 897 mC 311 2 477 902
def BQ:=g5 mC 62 cJ 747 482
def BR:=g3 mD 63
def BS:=g19 mD 905 mD 315 3 484
def BU:=g5 mD 63 cJ 747 487
def BV:=g13 sG 914 IH II IJ xR IK
def BX:=g3 mE 64
def BY:=g4 mE 911 mE 324 2 489 920
def BZ:=g5 mE 64 cJ 747 494
def Ca:=g14 xR 926 IL IM
def Cb:=g3 mF 65
def Cc:=g4 mF 923 mF 327 2 496 929
def Cd:=g5 mF 65 cJ 747 501
def Ce:=g3 mG 66
def Cf:=g19 mG 932 mG 334 2 503
def Cg:=g5 mG 66 cJ 747 506
def t1:Params->BT:=(f boot_o_0 (f boot_o_1 (f IT (f boot_o_7 (f o11 (f o31 (f o12 (f o12 (f o12 z z) (f AI z z)) (f o12 (f zU z z) (f Bu z z))) (f o35 (f vH (f o11 z z) (f o12 z z)) (f o11 (f o11 z z) (f BN z z)))) (f o35 (f o79 (f o11 (f zk z z) (f AT z z)) (f o11 (f o11 z z) (f o11 z z))) (f o12 (f yb (f zK z z) (f o11 z z)) (f yO (f Aw z z) (f BZ z z))))) (f o23 (f o12 (f o35 (f vp (f ze z z) (f AN z z)) (f yp (f o11 z z) (f BA z z))) (f uV (f xW (f o11 z z) (f Bg z z)) (f o11 (f o12 z z) (f BS z z)))) (f o55 (f o12 (f o11 (f zr z z) (f o11 z z)) (f yA (f Ai z z) (f o12 z z))) (f o11 (f o11 (f zP z z) (f Bp z z)) (f o11 (f AD z z) (f o11 z z)))))) (f o11 (f o19 (f o35 (f o67 (f vn (f zb z z) (f o12 z z)) (f yn (f o11 z z) (f Bw z z))) (f o12 (f o12 (f zB z z) (f Be z z)) (f yI (f Ap z z) (f BQ z z)))) (f o12 (f o35 (f vB (f zn z z) (f o11 z z)) (f o11 (f o11 z z) (f BG z z))) (f vc (f o11 (f o12 z z) (f o11 z z)) (f o12 (f Az z z) (f o11 z z))))) (f o27 (f o43 (f o12 (f vw (f zh z z) (f AQ z z)) (f yt (f Ab z z) (f o11 z z))) (f o35 (f xY (f zG z z) (f Bj z z)) (f o11 (f Au z z) (f BV z z)))) (f o35 (f o91 (f o11 (f o11 z z) (f AZ z z)) (f o12 (f o12 z z) (f BL z z))) (f vh (f yh (f zR z z) (f o12 z z)) (f yV (f o11 z z) (f Cg z z))))))) (f boot_o_5 (f boot_o_9 (f o17 (f o33 (f o65 (f o11 (f o11 z z) (f AK z z)) (f o11 (f o23 z z) (f o11 z z))) (f o97 (f vJ (f zy z z) (f o11 z z)) (f yG (f Ao z z) (f BO z z)))) (f o49 (f o81 (f vz (f o11 z z) (f o12 z z)) (f yx (f Af z z) (f BF z z))) (f vb (f o12 (f zM z z) (f Bm z z)) (f yQ (f Ax z z) (f o12 z z))))) (f o11 (f o41 (f o73 (f vq (f zf z z) (f o11 z z)) (f yq (f zZ z z) (f o12 z z))) (f uX (f o11 (f zE z z) (f Bh z z)) (f yL (f o11 z z) (f o11 z z)))) (f o57 (f o89 (f vE (f o12 z z) (f AY z z)) (f yC (f Ak z z) (f o11 z z))) (f vg (f yg (f o11 z z) (f Br z z)) (f yU (f AF z z) (f Ce z z)))))) (f o13 (f o21 (f o37 (f o69 (f o11 (f o11 z z) (f o11 z z)) (f o11 (f zX z z) (f By z z))) (f uU (f o11 (f o12 z z) (f o11 z z)) (f o12 (f Ar z z) (f o12 z z)))) (f o53 (f o85 (f o12 (f zo z z) (f AW z z)) (f yz (f Ah z z) (f BI z z))) (f ve (f ye (f o11 z z) (f Bo z z)) (f yS (f AB z z) (f Cc z z))))) (f o11 (f o45 (f o77 (f o12 (f o12 z z) (f AR z z)) (f o12 (f o12 z z) (f BD z z))) (f uZ (f xZ (f zI z z) (f o12 z z)) (f yN (f o11 z z) (f BX z z)))) (f o61 (f o93 (f vG (f zw z z) (f Bb z z)) (f yE (f Am z z) (f o11 z z))) (f vj (f yj (f zS z z) (f o11 z z)) (f yX (f AH z z) z))))))) (f boot_o_2 (f boot_o_4 (f boot_o_8 (f o12 (f o32 (f o64 (f vk (f yY z z) (f AJ z z)) (f yk (f o11 z z) (f Bv z z))) (f o23 (f vI (f o12 z z) (f Bc z z)) (f o12 (f o12 z z) (f o11 z z)))) (f o23 (f o80 (f vy (f zm z z) (f o11 z z)) (f yw (f Ae z z) (f o12 z z))) (f va (f o11 (f zL z z) (f Bl z z)) (f yP (f o11 z z) (f o11 z z))))) (f o24 (f o40 (f o23 (f o11 (f o11 z z) (f AO z z)) (f o11 (f o12 z z) (f o11 z z))) (f uW (f xX (f zD z z) (f o11 z z)) (f yK (f As z z) (f BU z z)))) (f o56 (f o88 (f vD (f o11 z z) (f o12 z z)) (f yB (f Aj z z) (f BJ z z))) (f o12 (f o12 (f zQ z z) (f Bq z z)) (f o12 (f AE z z) (f o12 z z)))))) (f Go (f o20 (f o23 (f o68 (f vo (f zc z z) (f AL z z)) (f yo (f zW z z) (f o11 z z))) (f uT (f xU (f o11 z z) (f Bf z z)) (f o11 (f Aq z z) (f o11 z z)))) (f o52 (f o23 (f o11 (f o11 z z) (f AV z z)) (f o12 (f o12 z z) (f BH z z))) (f vd (f yd (f zN z z) (f o12 z z)) (f yR (f AA z z) (f Cb z z))))) (f o28 (f o44 (f o76 (f o11 (f o11 z z) (f o11 z z)) (f o11 (f o11 z z) (f BC z z))) (f o23 (f o11 (f zH z z) (f o11 z z)) (f o23 (f Av z z) (f o11 z z)))) (f o23 (f o92 (f o12 (f zu z z) (f Ba z z)) (f yD (f Al z z) (f BM z z))) (f vi (f yi (f o11 z z) (f Bs z z)) (f yW (f o12 z z) z)))))) (f boot_o_6 (f boot_o_10 (f o11 (f o34 (f o11 (f vm (f yZ z z) (f o11 z z)) (f ym (f zV z z) (f o12 z z))) (f o11 (f o11 (f zA z z) (f Bd z z)) (f yH (f o11 z z) (f BP z z)))) (f o11 (f o82 (f vA (f o12 z z) (f AU z z)) (f yy (f Ag z z) (f o11 z z))) (f o11 (f yc (f o11 z z) (f Bn z z)) (f o11 (f Ay z z) (f Ca z z))))) (f o12 (f o11 (f o11 (f vt (f zg z z) (f o12 z z)) (f yr (f Aa z z) (f BB z z))) (f uY (f o12 (f zF z z) (f Bi z z)) (f yM (f At z z) (f o12 z z)))) (f o58 (f o11 (f vF (f zt z z) (f o11 z z)) (f o11 (f o11 z z) (f BK z z))) (f o11 (f o11 (f o12 z z) (f o11 z z)) (f o11 (f AG z z) (f Cf z z)))))) (f o14 (f o22 (f o11 (f o70 (f o12 (f o12 z z) (f AM z z)) (f o12 (f zY z z) (f Bz z z))) (f o11 (f xV (f zC z z) (f o12 z z)) (f yJ (f o11 z z) (f BR z z)))) (f o11 (f o11 (f vC (f zq z z) (f AX z z)) (f o11 (f o11 z z) (f o11 z z))) (f vf (f yf (f zO z z) (f o11 z z)) (f yT (f AC z z) (f Cd z z))))) (f o30 (f o46 (f o11 (f vx (f zi z z) (f AS z z)) (f yu (f Ac z z) (f BE z z))) (f o11 (f ya (f zJ z z) (f Bk z z)) (f o11 (f o12 z z) (f BY z z)))) (f o11 (f o94 (f o11 (f zx z z) (f o11 z z)) (f yF (f An z z) (f o12 z z))) (f o11 (f o11 (f zT z z) (f Bt z z)) (f o11 (f o11 z z) z))))))))
abbrev s1 (w:JT) (os:OsState):SharedT:=⟨t1 w.params,508,{ },(Array.mk []),⟨0,0,0,0⟩,938,os⟩
abbrev p1:Pos:=⟨334,0,339,104⟩
abbrev st1:List Stmt:=(pt.main.body.drop 26).take 41
theorem q1 (w:JT):(λ os=>segRunT treeTable pt w m0 an 1 1994 (s0 w os) ⟨(execs st1 en).wrap doneF deadEnd id id,cE,p0,B⟩)=λ os=>some (.next,s1 w os,cE,p1):=by rw [PySem.W.Fast.te10110043849684766642,PySem.W.Fast.te14364793385576792824,PySem.W.Fast.te12563942051412417395]; kernel_rfl
def Gp (P:Params):Obj:=⟨(.type L0),none,(.dict #[e P S0 165 (.str cJ 747),e P S2 166 .none,e P S3 167 .none,e P S4 168 (.builtin xS),e P S5 169 .none,e P xf 170 (.ref 6),e P xg 171 (.ref 4),e P xh 173 (.str jk 172),e P xi 174 .none,e P jV 193 (.ref 21),e P hZ 213 (.ref 31),e P lE 229 (.ref 44),e P lF 245 (.ref 56),e P lG 261 (.ref 68),e P lH 277 (.ref 80),e P lI 293 (.ref 92),e P lJ 309 (.ref 104),e P lK 325 (.ref 116),e P jW 335 (.ref 125),e P jX 342 (.ref 132),e P jY 349 (.ref 139),e P jZ 357 (.ref 146),e P uF 361 (.str uG 360),e P uH 363 (.str uI 362),e P uJ 364 (.ref 147),e P kh 379 (.ref 154),e P kj 391 (.ref 161),e P uK 395 (.str xj 394),e P uL 397 (.str xk 396),e P uM 399 (.int 1 398),e P uN 401 (.int 5 400),e P xo 403 (.int 4 402),e P lQ 412 (.ref 168),e P lR 423 (.ref 175),e P lS 436 (.ref 182),e P lT 460 (.ref 189),e P lU 473 (.ref 196),e P lV 483 (.ref 203),e P lW 496 (.ref 210),e P lX 519 (.ref 217),e P lY 525 (.ref 222),e P lZ 531 (.ref 227),e P ma 552 (.ref 234),e P pQ 647 (.ref 301),e P xq 651 (.int 8 650),e P xt 653 (.int 5 652),e P me 665 (.ref 312),e P mf 672 (.ref 319),e P pR 746 (.ref 374),e P mh 756 (.ref 385),e P mj 764 (.ref 392),e P mm 773 (.ref 399),e P mn 781 (.ref 406),e P mo 790 (.ref 413),e P mq 798 (.ref 420),e P mr 811 (.ref 427),e P ms 822 (.ref 434),e P mt 832 (.ref 441),e P mv 843 (.ref 448),e P mx 857 (.ref 455),e P my 875 (.ref 462),e P mz 882 (.ref 469),e P mB 896 (.ref 476),e P mC 904 (.ref 483),e P mD 910 (.ref 488),e P mE 922 (.ref 495),e P mF 931 (.ref 502),e P mG 937 (.ref 507),e P pY 949 (.ref 514),e P sH 955 (.ref 519)] 70),#[]⟩
def wc (P:Params):Obj:=⟨.none,none,(.fields #[.int 1 0,.int 0 0,.ref 20,.int 5 0,.int 0 0,.ref 27,.int 7 0,.int 0 0,.ref 40,.int 9 0,.int 0 0,.ref 52,.int 11 0,.int 0 0,.ref 64,.int 13 0,.int 0 0,.ref 76,.int 15 0,.int 0 0,.ref 88,.int 17 0,.int 0 0,.ref 100,.int 19 0,.int 0 0,.ref 112,.int 22 0,.int 0 0,.ref 124,.int 24 0,.int 0 0,.ref 131,.int 26 0,.int 0 0,.ref 138,.int 28 0,.int 0 0,.ref 145,.int 35 0,.int 0 0,.ref 153,.int 40 0,.int 0 0,.ref 160,.int 51 0,.int 0 0,.ref 167,.int 55 0,.int 0 0,.ref 174,.int 62 0,.int 0 0,.ref 181,.int 67 0,.int 0 0,.ref 188,.int 74 0,.int 0 0,.ref 195,.int 85 0,.int 0 0,.ref 202,.int 88 0,.int 0 0,.ref 209,.int 99 0,.int 0 0,.ref 216,.int 107 0,.int 0 0,.ref 221,.int 111 0,.int 0 0,.ref 226,.int 117 0,.int 0 0,.ref 233,.int 130 0,.int 0 0,.ref 240,.int 189 0,.int 0 0,.ref 311,.int 196 0,.int 0 0,.ref 318,.int 198 0,.int 0 0,.ref 325,.int 236 0,.int 0 0,.ref 384,.int 240 0,.int 0 0,.ref 391,.int 242 0,.int 0 0,.ref 398,.int 249 0,.int 0 0,.ref 405,.int 252 0,.int 0 0,.ref 412,.int 256 0,.int 0 0,.ref 419,.int 259 0,.int 0 0,.ref 426,.int 267 0,.int 0 0,.ref 433,.int 270 0,.int 0 0,.ref 440,.int 277 0,.int 0 0,.ref 447,.int 281 0,.int 0 0,.ref 454,.int 292 0,.int 0 0,.ref 461,.int 303 0,.int 0 0,.ref 468,.int 305 0,.int 0 0,.ref 475,.int 311 0,.int 0 0,.ref 482,.int 315 0,.int 0 0,.ref 487,.int 324 0,.int 0 0,.ref 494,.int 327 0,.int 0 0,.ref 501,.int 334 0,.int 0 0,.ref 506,.int 340 0,.int 0 0,.ref 513,.int 347 0,.int 0 0,.ref 518]),#[]⟩
def Gq:=g13 km 941 xR uS sG IN sD
def Gr:=g3 pY 67
def Gs:=g4 pY 938 pY 340 3 508 947
def Gu:=g5 pY 67 cJ 747 513
def Gv:=g3 sH 68
def Gw:=g19 sH 950 sH 347 1 515
def Gx:=g5 sH 68 cJ 747 518
def t2:Params->BT:=(f boot_o_0 (f boot_o_1 (f Gp (f boot_o_7 (f o11 (f o31 (f o12 (f o12 (f o12 (f o11 z z) z) (f AI z z)) (f o12 (f zU z z) (f Bu z z))) (f o35 (f vH (f o11 z z) (f o12 z z)) (f o11 (f o11 z z) (f BN z z)))) (f o35 (f o79 (f o11 (f zk z z) (f AT z z)) (f o11 (f o11 z z) (f o11 z z))) (f o12 (f yb (f zK z z) (f o11 z z)) (f yO (f Aw z z) (f BZ z z))))) (f o23 (f o12 (f o35 (f vp (f ze (f Gx z z) z) (f AN z z)) (f yp (f o11 z z) (f BA z z))) (f uV (f xW (f o11 z z) (f Bg z z)) (f o11 (f o12 z z) (f BS z z)))) (f o55 (f o12 (f o11 (f zr z z) (f o11 z z)) (f yA (f Ai z z) (f o12 z z))) (f o11 (f o11 (f zP z z) (f Bp z z)) (f o11 (f AD z z) (f o11 z z)))))) (f o11 (f o19 (f o35 (f o67 (f vn (f zb (f o11 z z) z) (f o12 z z)) (f yn (f o11 z z) (f Bw z z))) (f o12 (f o12 (f zB z z) (f Be z z)) (f yI (f Ap z z) (f BQ z z)))) (f o12 (f o35 (f vB (f zn z z) (f o11 z z)) (f o11 (f o11 z z) (f BG z z))) (f vc (f o11 (f o12 z z) (f o11 z z)) (f o12 (f Az z z) (f o11 z z))))) (f o27 (f o43 (f o12 (f vw (f zh z z) (f AQ z z)) (f yt (f Ab z z) (f o11 z z))) (f o35 (f xY (f zG z z) (f Bj z z)) (f o11 (f Au z z) (f BV z z)))) (f o35 (f o91 (f o11 (f o11 z z) (f AZ z z)) (f o12 (f o12 z z) (f BL z z))) (f vh (f yh (f zR z z) (f o12 z z)) (f yV (f o11 z z) (f Cg z z))))))) (f boot_o_5 (f boot_o_9 (f o17 (f o33 (f o65 (f o11 (f o11 (f Gs z z) z) (f AK z z)) (f o11 (f o23 z z) (f o11 z z))) (f o97 (f vJ (f zy z z) (f o11 z z)) (f yG (f Ao z z) (f BO z z)))) (f o49 (f o81 (f vz (f o11 z z) (f o12 z z)) (f yx (f Af z z) (f BF z z))) (f vb (f o12 (f zM z z) (f Bm z z)) (f yQ (f Ax z z) (f o12 z z))))) (f o11 (f o41 (f o73 (f vq (f zf z z) (f o11 z z)) (f yq (f zZ z z) (f o12 z z))) (f uX (f o11 (f zE z z) (f Bh z z)) (f yL (f o11 z z) (f o11 z z)))) (f o57 (f o89 (f vE (f o12 z z) (f AY z z)) (f yC (f Ak z z) (f o11 z z))) (f vg (f yg (f o11 z z) (f Br z z)) (f yU (f AF z z) (f Ce z z)))))) (f o13 (f o21 (f o37 (f o69 (f o11 (f o11 (f Gv z z) z) (f o11 z z)) (f o11 (f zX z z) (f By z z))) (f uU (f o11 (f o12 z z) (f o11 z z)) (f o12 (f Ar z z) (f o12 z z)))) (f o53 (f o85 (f o12 (f zo z z) (f AW z z)) (f yz (f Ah z z) (f BI z z))) (f ve (f ye (f o11 z z) (f Bo z z)) (f yS (f AB z z) (f Cc z z))))) (f o11 (f o45 (f o77 (f o12 (f o12 z z) (f AR z z)) (f o12 (f o12 z z) (f BD z z))) (f uZ (f xZ (f zI z z) (f o12 z z)) (f yN (f o11 z z) (f BX z z)))) (f o61 (f o93 (f vG (f zw z z) (f Bb z z)) (f yE (f Am z z) (f o11 z z))) (f vj (f yj (f zS z z) (f o11 z z)) (f yX (f AH z z) (f o12 z z)))))))) (f boot_o_2 (f boot_o_4 (f boot_o_8 (f o12 (f o32 (f o64 (f vk (f yY (f Gr z z) z) (f AJ z z)) (f yk (f o11 z z) (f Bv z z))) (f o23 (f vI (f o12 z z) (f Bc z z)) (f o12 (f o12 z z) (f o11 z z)))) (f o23 (f o80 (f vy (f zm z z) (f o11 z z)) (f yw (f Ae z z) (f o12 z z))) (f va (f o11 (f zL z z) (f Bl z z)) (f yP (f o11 z z) (f o11 z z))))) (f o24 (f o40 (f o23 (f o11 (f o11 z z) (f AO z z)) (f o11 (f o12 z z) (f o11 z z))) (f uW (f xX (f zD z z) (f o11 z z)) (f yK (f As z z) (f BU z z)))) (f o56 (f o88 (f vD (f o11 z z) (f o12 z z)) (f yB (f Aj z z) (f BJ z z))) (f o12 (f o12 (f zQ z z) (f Bq z z)) (f o12 (f AE z z) (f o12 z z)))))) (f wc (f o20 (f o23 (f o68 (f vo (f zc (f o12 z z) z) (f AL z z)) (f yo (f zW z z) (f o11 z z))) (f uT (f xU (f o11 z z) (f Bf z z)) (f o11 (f Aq z z) (f o11 z z)))) (f o52 (f o23 (f o11 (f o11 z z) (f AV z z)) (f o12 (f o12 z z) (f BH z z))) (f vd (f yd (f zN z z) (f o12 z z)) (f yR (f AA z z) (f Cb z z))))) (f o28 (f o44 (f o76 (f o11 (f o11 z z) (f o11 z z)) (f o11 (f o11 z z) (f BC z z))) (f o23 (f o11 (f zH z z) (f o11 z z)) (f o23 (f Av z z) (f o11 z z)))) (f o23 (f o92 (f o12 (f zu z z) (f Ba z z)) (f yD (f Al z z) (f BM z z))) (f vi (f yi (f o11 z z) (f Bs z z)) (f yW (f o12 z z) (f o11 z z))))))) (f boot_o_6 (f boot_o_10 (f o11 (f o34 (f o11 (f vm (f yZ (f Gu z z) z) (f o11 z z)) (f ym (f zV z z) (f o12 z z))) (f o11 (f o11 (f zA z z) (f Bd z z)) (f yH (f o11 z z) (f BP z z)))) (f o11 (f o82 (f vA (f o12 z z) (f AU z z)) (f yy (f Ag z z) (f o11 z z))) (f o11 (f yc (f o11 z z) (f Bn z z)) (f o11 (f Ay z z) (f Ca z z))))) (f o12 (f o11 (f o11 (f vt (f zg z z) (f o12 z z)) (f yr (f Aa z z) (f BB z z))) (f uY (f o12 (f zF z z) (f Bi z z)) (f yM (f At z z) (f o12 z z)))) (f o58 (f o11 (f vF (f zt z z) (f o11 z z)) (f o11 (f o11 z z) (f BK z z))) (f o11 (f o11 (f o12 z z) (f o11 z z)) (f o11 (f AG z z) (f Cf z z)))))) (f o14 (f o22 (f o11 (f o70 (f o12 (f o12 (f Gw z z) z) (f AM z z)) (f o12 (f zY z z) (f Bz z z))) (f o11 (f xV (f zC z z) (f o12 z z)) (f yJ (f o11 z z) (f BR z z)))) (f o11 (f o11 (f vC (f zq z z) (f AX z z)) (f o11 (f o11 z z) (f o11 z z))) (f vf (f yf (f zO z z) (f o11 z z)) (f yT (f AC z z) (f Cd z z))))) (f o30 (f o46 (f o11 (f vx (f zi z z) (f AS z z)) (f yu (f Ac z z) (f BE z z))) (f o11 (f ya (f zJ z z) (f Bk z z)) (f o11 (f o12 z z) (f BY z z)))) (f o11 (f o94 (f o11 (f zx z z) (f o11 z z)) (f yF (f An z z) (f o12 z z))) (f o11 (f o11 (f zT z z) (f Bt z z)) (f o11 (f o11 z z) (f Gq z z)))))))))
abbrev s2 (w:JT) (os:OsState):SharedT:=⟨t2 w.params,520,{ },(Array.mk []),⟨0,0,0,0⟩,956,os⟩
abbrev p2:Pos:=⟨347,0,376,133⟩
abbrev st2:List Stmt:=(pt.main.body.drop 67).take 2
theorem q2 (w:JT):(λ os=>segRunT treeTable pt w m0 an 1 61 (s1 w os) ⟨(execs st2 en).wrap doneF deadEnd id id,cE,p1,B⟩)=λ os=>some (.next,s2 w os,cE,p2):=by rw [PySem.W.Fast.te10110043849684766642,PySem.W.Fast.te14364793385576792824,PySem.W.Fast.te12563942051412417395]; kernel_rfl
def hF (P:Params):Heap:=⟨⟨[boot_o_0 P,boot_o_1 P,boot_o_2 P,Gp P,boot_o_4 P,boot_o_5 P,boot_o_6 P,boot_o_7 P,boot_o_8 P,boot_o_9 P,boot_o_10 P,o11 P,wc P,o13 P,o14 P,o11 P,o12 P,o17 P,o11 P,o19 P,o20 P,o21 P,o22 P,o23 P,o24 P,o11 P,o12 P,o27 P,o28 P,o11 P,o30 P,o31 P,o32 P,o33 P,o34 P,o35 P,o23 P,o37 P,o11 P,o12 P,o40 P,o41 P,o11 P,o43 P,o44 P,o45 P,o46 P,o35 P,o23 P,o49 P,o11 P,o12 P,o52 P,o53 P,o11 P,o55 P,o56 P,o57 P,o58 P,o35 P,o23 P,o61 P,o11 P,o12 P,o64 P,o65 P,o11 P,o67 P,o68 P,o69 P,o70 P,o35 P,o23 P,o73 P,o11 P,o12 P,o76 P,o77 P,o11 P,o79 P,o80 P,o81 P,o82 P,o35 P,o23 P,o85 P,o11 P,o12 P,o88 P,o89 P,o11 P,o91 P,o92 P,o93 P,o94 P,o35 P,o23 P,o97 P,o11 P,o12 P,uT P,uU P,o11 P,uV P,uW P,uX P,uY P,o35 P,o23 P,uZ P,o11 P,o12 P,va P,vb P,o11 P,vc P,vd P,ve P,vf P,o11 P,o12 P,vg P,o11 P,vh P,vi P,vj P,o11 P,o12 P,vk P,o11 P,vm P,vn P,vo P,o11 P,o12 P,vp P,o11 P,vq P,vt P,vw P,o11 P,o12 P,vx P,o11 P,vy P,vz P,vA P,vB P,o11 P,o12 P,vC P,o11 P,vD P,vE P,vF P,o11 P,o12 P,vG P,o11 P,vH P,vI P,vJ P,o11 P,o12 P,xU P,o11 P,xV P,xW P,xX P,o11 P,o12 P,xY P,o11 P,xZ P,ya P,yb P,o11 P,o12 P,yc P,o11 P,yd P,ye P,yf P,o11 P,o12 P,yg P,o11 P,yh P,yi P,yj P,o11 P,o12 P,yk P,o11 P,ym P,yn P,yo P,o11 P,o12 P,yp P,o11 P,yq P,yr P,yt P,o11 P,o12 P,yu P,o11 P,yw P,yx P,yy P,o11 P,o12 P,yz P,o11 P,yA P,yB P,yC P,o11 P,o12 P,yD P,yE P,yF P,o11 P,o12 P,yG P,yH P,yI P,o11 P,o12 P,yJ P,o11 P,yK P,yL P,yM P,o11 P,o23 P,yN P,o11 P,yO P,yP P,yQ P,o11 P,o12 P,yR P,yS P,yT P,o11 P,o12 P,yU P,o11 P,yV P,yW P,yX P,o11 P,o12 P,yY P,o11 P,yZ P,zb P,zc P,o11 P,o12 P,ze P,o11 P,zf P,zg P,zh P,o11 P,o12 P,zi P,zk P,zm P,o11 P,o12 P,zn P,o11 P,zo P,zq P,zr P,o11 P,o12 P,zt P,o11 P,zu P,zw P,zx P,o11 P,o12 P,zy P,zA P,zB P,o11 P,o12 P,zC P,o11 P,zD P,zE P,zF P,zG P,zH P,zI P,zJ P,zK P,zL P,zM P,o11 P,o12 P,zN P,o11 P,zO P,zP P,zQ P,o11 P,o12 P,zR P,o11 P,zS P,zT P,zU P,o11 P,o23 P,zV P,o11 P,zW P,zX P,zY P,o11 P,o12 P,zZ P,Aa P,Ab P,o11 P,o12 P,Ac P,o11 P,Ae P,Af P,Ag P,o11 P,o12 P,Ah P,o11 P,Ai P,Aj P,Ak P,o11 P,o12 P,Al P,Am P,An P,o11 P,o12 P,Ao P,o11 P,Ap P,Aq P,Ar P,o11 P,o12 P,As P,o11 P,At P,Au P,Av P,o11 P,o12 P,Aw P,o11 P,Ax P,Ay P,Az P,AA P,AB P,AC P,AD P,AE P,AF P,AG P,o11 P,o12 P,AH P,o11 P,AI P,AJ P,AK P,o11 P,o12 P,AL P,o11 P,AM P,AN P,AO P,o11 P,o12 P,AQ P,o11 P,AR P,AS P,AT P,o11 P,o12 P,AU P,o11 P,AV P,AW P,AX P,o11 P,o12 P,AY P,o11 P,AZ P,Ba P,Bb P,o11 P,o12 P,Bc P,o11 P,Bd P,Be P,Bf P,o11 P,o12 P,Bg P,o11 P,Bh P,Bi P,Bj P,o11 P,o12 P,Bk P,o11 P,Bl P,Bm P,Bn P,o11 P,o12 P,Bo P,o11 P,Bp P,Bq P,Br P,o11 P,o12 P,Bs P,o11 P,Bt P,Bu P,Bv P,o11 P,o12 P,Bw P,o11 P,By P,Bz P,BA P,o11 P,o12 P,BB P,o11 P,BC P,BD P,BE P,o11 P,o12 P,BF P,o11 P,BG P,BH P,BI P,o11 P,o12 P,BJ P,o11 P,BK P,BL P,BM P,o11 P,o12 P,BN P,o11 P,BO P,BP P,BQ P,o11 P,o12 P,BR P,BS P,BU P,o11 P,o12 P,BV P,o11 P,BX P,BY P,BZ P,o11 P,o12 P,Ca P,o11 P,Cb P,Cc P,Cd P,o11 P,o12 P,Ce P,Cf P,Cg P,o11 P,o12 P,Gq P,o11 P,Gr P,Gs P,Gu P,o11 P,o12 P,Gv P,Gw P,Gx P]⟩,{ }⟩
abbrev sF (w:JT) (os:OsState):G7:=⟨hF w.params,(Array.mk []),⟨0,0,0,0⟩,956,os⟩
theorem fin (w:JT):(λ os=>topRun treeTable pt w m0 an 2 (s2 w os).abs ⟨doneF .next,cE,p2,B⟩)=λ os=>some (sF w os):=by rw [PySem.W.Fast.te14082659384304107361,PySem.W.Fast.te14364793385576792824]; kernel_rfl
theorem vK:behindTheImports pt=st0 ++ (st1 ++ (st2 ++ ([]))):=by kernel_rfl
abbrev MM:Nat:=12 + (1 + (2000 + (1994 + (61 + 2))))
theorem Ch (w:JT) (os:OsState):topRun treeTable pt w m0 an MM (sZ w os) (topStub pt)=some (sF w os) :=
 go_top (congrFun (pre w) os) (piece_block (congrFun (blk w) os) (vK ▸ (piece_app (l:=st0) (segRun_of (congrFun (q0 w) os)) (piece_app (l:=st1) (segRun_of (congrFun (q1 w) os)) (piece_app (l:=st2) (segRun_of (congrFun (q2 w) os)) (piece_nil (congrFun (fin w) os)))))))
def loose:List Str:=[jV,hZ,lE,lF,lG,lH,lI,lJ,lK,jW,jX,jY,jZ,uF,uH,uJ,kh,kj,uK,uL,uM,uN,xo,lQ,lR,lS,lT,lU,lV,lW,lX,lY,lZ,ma,pQ,xq,xt,me,mf,pR,mh,mj,mm,mn,mo,mq,mr,ms,mt,mv,mx,my,mz,mB,mC,mD,mE,mF,mG,pY]
abbrev NN:Nat:=8230
abbrev q:G8:=view pt [68]
abbrev Xt:G7->Bool:=λ s=>xlAt q [] s && recOk [] s
theorem size (w:JT):((boot_heap w.params).isNs mainGlobals && (Array.mk []:Array GenState).size == 0,(boot_heap w.params).objs.size,(boot_heap w.params).nsMap mainGlobals "__annotations__")=(true,m0,an):=by rw [PySem.W.Fast.te8920871248978507458]; kernel_rfl
theorem Gy (w:JT):(λ os=>((staticsOk (importedModules pt.main.body) (boot_heap w.params) (hF w.params) && namesBound pt (hF w.params) && gensDone (sF w os) && laidKept (boot_heap w.params) (hF w.params)),openSeen q loose (importedModules pt.main.body) Xt true (sF w os),HK.obs (sF w os)))=λ _=>(true,openGood q loose,HK.val w):=by rw [PySem.W.Fast.te4187177175401517315,PySem.W.Fast.te5923862056798008813]; kernel_rfl
theorem left:LeftO pt q loose Xt HK.obs HK.val NN true:=LeftO.of_pieces (boot_open (by kernel_rfl) ∅ (λ s=>rfl)) size Ch ∅ Gy
end Hd
open PySem PySem.W PyProof.Rows
set_option maxRecDepth 100000 in
set_option maxHeartbeats 0 in
theorem PySem.Challenge.cw_platecuts_k86_whole_stores_undone_holds : PySem.Challenge.rw_platecuts_k86_whole_stores_undone.Holds := by
 w_on; o_law
 refine holds_open (q:=view PySem.Challenge.pw_platecuts_k86_whole_stores_undone [68]) (loose:=Hd.loose) (Xt:=λ s=>xlAt (view PySem.Challenge.pw_platecuts_k86_whole_stores_undone [68]) [] s && recOk [] s) (XP:=XL (view PySem.Challenge.pw_platecuts_k86_whole_stores_undone [68]) []) (Yf:=Hook.obs Hd.HK) (Ya:=Hook.val Hd.HK) (YP:=InK Pc.kK) (N:=Hd.NN) ?hl (Hook.of Hd.HK) (Hook.keeps Hd.HK) (λ s e=>xl_of s (Bool.and_eq_true_iff.mp e).1) XL.keeps (by rfl) (by rfl) (by rfl) (λ s e=>recFacts_of (Bool.and_eq_true_iff.mp e).2) (by rfl) (by first | assumption | decide +kernel) (by decide +kernel) ⟨rfl,rfl,rfl,rfl,rfl,by decide +kernel⟩ ?hw ?hc
 case hl=>exact Hd.pt_eq ▸ Hd.left
 case hw=>w_witness2
 k_fill
 refine Pc.walk (l:=PySem.Challenge.rw_platecuts_k86_whole_stores_undone) rfl rfl (λ w h YY0=>YY0) ?F
 case F =>
  intro w mg fa h KX G hmg;refine' Pc.all_mk KX G hmg ?d0 ?d1 ?d2 ?d3 ?d4 ?d5 ?d6 ?d7 ?d8 ?d9 ?d10 ?d11 ?d12 ?d13 ?d14 ?d15 ?d16 ?d17 ?d18 ?d19 ?d20 ?d21 ?d22 ?d23 ?d24 ?d25 ?d26 ?d27 ?d28 ?d29 ?d30 ?d31 ?d32 ?d33 ?d34 ?d35 ?d36 ?d37 ?d38 ?d39 ?aC ?dm0 ?dm1 ?dm2 ?dm3 ?dm4 ?pg ?hd ?po ?sa ?mk ?kc ?n0 ?n1 ?aCS ?do0 ?do1 ?do2 ?do3 ?do4 ?do5 ?do6 ?do7 ?do8 ?pgS ?hdS ?poS ?saS ?mkS ?kcS ?nS0 ?nS1 ?nS2 ?nS3 ?eWAYS ?eNoNumber ?lWAYS ?cNoNumber ?bNN ?sNN ?z0 ?z1 ?z2 ?z3 ?z4 ?z5 ?z6 ?z7 ?z8 ?z9 ?z10 ?z11 ?z12 ?z13 ?z14 ?z15 ?z16 ?z17 ?uc0 ?uc1 ?uc2 ?uc3 ?uc4 ?uc5 ?uc6 ?uc7
  (case d0 | d1 | d2 | d3 | d4 | d5 | d6 | d7 | d8 | d9 | d10 | d11 | d12 | d13 | d14 | d15 | d16 | d17 | d18 | d19 | d20 | d21 | d22 | d23 | d24 | d25 | d26 | d27 | d28 | d29 | d30 | d31 | d32 | d33 | d34 | d35 | d36 | d37 | d38 | d39=>refine' Pc.diM ?a ?l ?c ?k; (case a=>k_is); (case l=>k_is); (case c=>k_is); (case k=>k_is))
  (case aC | aCS=>k_is)
  (case dm0 | dm1 | dm2 | dm3 | dm4 | do0 | do1 | do2 | do3 | do4 | do5 | do6 | do7 | do8=>refine' Pc.miM ?a ?i ?l ?c ?k; (case a=>k_is); (case i=>k_is); (case l=>k_is); (case c=>k_is); (case k=>k_is))
  (case pg | hd | po | sa | mk | kc | n0 | n1 | pgS | hdS | poS | saS | mkS | kcS | nS0 | nS1 | nS2 | nS3 | eWAYS | eNoNumber=>k_is)
  (case lWAYS=>exact ⟨_,_,_,Y,Y,Y,by decide,.cons ⟨_,Y⟩ (.cons ⟨_,Y⟩ .nil)⟩)
  (case cNoNumber=>k_exc)
  (case bNN | sNN | z0 | z1 | z2 | z3 | z4 | z5 | z6 | z7 | z8 | z9 | z10 | z11 | z12 | z13 | z14 | z15 | z16 | z17 | uc0 | uc1 | uc2 | uc3 | uc4 | uc5 | uc6 | uc7=>k_is)