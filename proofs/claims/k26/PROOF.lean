import PyProof.Rows.All
import Wide.All
import OpenK.AllK
import Wide.FinOn
import Lean
import PyProof.EqAt
import PyProof.EqKinds
import PyProof.TupleCall
import PyProof.IsiBase
import PyProof.ExcArgsOwn
import PyProof.ExcAttrAll.ValueError
import PyProof.Draws
import PyProof.WalksMore
import PyProof.EnumMake
import PyProof.ReprRoads
import PyProof.Rows.SortWalk
import PyProof.Rows.SumAny
import PyProof.FitsBits
import KE.KSortTup
import PySem.Challenge.RW_platecuts_k26_refused_measures
set_option maxRecDepth 100000
set_option maxHeartbeats 0
local macro_rules|`(def $i $s:optDeclSig $v:declVal)=>`(noncomputable def $i $s:optDeclSig $v:declVal)
local macro_rules|`(abbrev $i $s:optDeclSig $v:declVal)=>`(noncomputable abbrev $i $s:optDeclSig $v:declVal)
section
open PySem PySem.W PySem.Spec PyProof PyProof.Rows
abbrev G3:=@Shared
abbrev G4:=@Program
abbrev G5:=@FuncData
abbrev G6:=@World
abbrev G7:=@Value
abbrev A0:=@wpAny_bind
abbrev A1:=@wpAny_pure
abbrev A2:=@wpS_bind
abbrev A3:=@wpS_pure
abbrev A4:=@List.mem_append_right
abbrev A5:=@List.getElem?_eq_some_iff
abbrev A6:=@Heap.get?_push_of_some
abbrev A7:=@Heap.get?_push_size
abbrev A8:=@Heap.lt_size
abbrev A9:=@decide_eq_true
abbrev B0:=@decide_eq_false
abbrev B1:=@Bool.false_ne_true
abbrev B2:=@Nat.le_refl
abbrev B3:=@List.mem_cons_of_mem
abbrev B4:=@List.mem_of_getElem?
abbrev B5:=@List.mem_append_left
abbrev B6:=@List.mem_cons_self
abbrev B7:=@Option.some.inj
abbrev B8:=@Nat.ne_of_lt
abbrev B9:=@of_decide_eq_true
abbrev C0:=@Nat.lt_of_lt_of_le
abbrev C1:=@List.mem_append
abbrev C2:=@beq_iff_eq
abbrev C3:=@PySem.W.Frag
abbrev C4:=@Nat.le_trans
abbrev C5:=@List.getElem?_eq_none
abbrev C6:=@Bool.and_eq_true_iff
abbrev C7:=@Nat.lt_irrefl
abbrev C8:=@List.mem_singleton
abbrev C9:=@Paired.length
abbrev E1:=@PassesOwn.never
abbrev E2:=@Int.le_refl
abbrev E3:=@PySem.W.fnOf
abbrev E4:=@False.elim
abbrev E5:=@Nat.zero_le
abbrev E6:=@Nat.not_lt_zero
abbrev E7:=@Nat.lt_succ_self
abbrev E8:=@List.getElem?_eq_getElem
abbrev E9:=@wpAny_truthy_bool
abbrev G0:=@wpAny_call_entry
abbrev G1:=@wpAny_newObj_type
abbrev G2:=@PySem.F.plainAttrs_list
end
theorem zS2:2<=PySem.sizeLine:=by decide
theorem zS5:5<=PySem.sizeLine:=by decide
theorem zS1:1<=PySem.sizeLine:=by decide
theorem zS3:3<=PySem.sizeLine:=by decide
theorem zS4:4<=PySem.sizeLine:=by decide
theorem zS6:6<=PySem.sizeLine:=by decide
theorem zS0:0<=PySem.sizeLine:=by decide
theorem zS10:10<=PySem.sizeLine:=by decide
theorem zS11:11<=PySem.sizeLine:=by decide
theorem O{α:Sort _}{a:α}:a=a:=rfl
set_option Elab.async false
set_option linter.all false
namespace L2
open PySem PySem.Spec PyProof.Rows
abbrev Key:=Sum Int Str
def uB:Key->G7->Bool
 | .inl k,v=>Value.isInt k v
 | .inr x,v=>Value.isStrOf x v
def FQ (w:G6):Key->Int
 | .inl k=>hashInt k
 | .inr x=>hashStr w x
theorem bj:∀ {k:Key} {v:G7},uB k v=true->(∃i t,k=Sum.inl i/\v=Value.int i t)\/(∃x t,k=Sum.inr x/\v=Value.str x t)
 | .inl i,v,h=>by obtain ⟨t,e⟩:=Value.isInt_shape (k:=i) (v:=v) h;exact .inl ⟨i,t,O,e⟩
 | .inr x,v,h=>by obtain ⟨t,e⟩:=Value.isStrOf_shape (x:=x) (v:=v) h;exact .inr ⟨x,t,O,e⟩
theorem uL (a b:Int):decide ((Sum.inl a:Key)=Sum.inl b)=(a == b):=by
 by_cases e:a=b
 ·subst e; simp
 ·have h:¬ (Sum.inl a:Key)=Sum.inl b:=λ q=>e (Sum.inl.inj q);rw [decide_eq_false h];exact (beq_eq_false_iff_ne.mpr e).symm
theorem uM (a b:Str):decide ((Sum.inr a:Key)=Sum.inr b)=decide (a=b):=by
 by_cases e:a=b
 ·subst e; simp
 ·have h:¬ (Sum.inr a:Key)=Sum.inr b:=λ q=>e (Sum.inr.inj q);rw [decide_eq_false h,decide_eq_false e]
theorem uN (a:Int) (b:Str):decide ((Sum.inl a:Key)=Sum.inr b)=false:=B0 (λ q=>nomatch q)
theorem uO (a:Str) (b:Int):decide ((Sum.inr a:Key)=Sum.inl b)=false:=B0 (λ q=>nomatch q)
def iQ (prog:G4) (w:G6):PySem.KeyKind prog w Key where
 is:=uB
 hash:=FQ w
 inj:=λ v a b ha hb=>by
  rcases bj ha with ⟨i,t,rfl,rfl⟩ | ⟨x,t,rfl,rfl⟩
  ·rcases bj hb with ⟨j,u,rfl,e⟩ | ⟨y,u,rfl,e⟩
   ·injection e with e1 _; rw [e1]
   ·exact nomatch e
  ·rcases bj hb with ⟨j,u,rfl,e⟩ | ⟨y,u,rfl,e⟩
   ·exact nomatch e
   ·injection e with e1 _; rw [e1]
 byValue:=λ k v h=>by rcases bj h with ⟨i,t,rfl,rfl⟩ | ⟨x,t,rfl,rfl⟩ <;> rfl
 pyHash:=λ hv h=>by
  rcases bj hv with ⟨i,t,rfl,rfl⟩ | ⟨x,t,rfl,rfl⟩
  ·exact wpAny_pyHash_int h
  ·exact wpAny_pyHash_str h
 eqBool:=λ hu hv h=>by
  rcases bj hu with ⟨i,t,rfl,rfl⟩ | ⟨x,t,rfl,rfl⟩
  ·rcases bj hv with ⟨j,u,rfl,rfl⟩ | ⟨y,u,rfl,rfl⟩
   ·rw [uL] at h; exact wpAny_eqBool_int h
   ·rw [uN] at h; exact SeqAt.EqAt.int_str i t y u _ _ _ _ h
  ·rcases bj hv with ⟨j,u,rfl,rfl⟩ | ⟨y,u,rfl,rfl⟩
   ·rw [uO] at h; exact SeqAt.EqAt.str_int x t j u _ _ _ _ h
   ·rw [uM] at h; exact wpAny_eqBool_str h
 «strs» := λ k x t v h=>by
  rcases bj h with ⟨i,u,rfl,e⟩ | ⟨y,u,rfl,e⟩
  ·exact nomatch e
  ·injection e with e1 _
   subst e1;cases v <;> rfl
inductive V where
 | non | bl (b:Bool) | int (i:Int) | str (x:Str) | byt (b:Array UInt8) | flt (b:UInt64) | ref (a:Addr) | ty (n:String)
 deriving DecidableEq
def RelV:V->G7->Prop
 | .non,u=>u=Value.none
 | .bl b,u=>u=Value.bool b
 | .int i,u=>∃t,u=Value.int i t
 | .str x,u=>∃t,u=Value.str x t
 | .byt b,u=>∃t,u=Value.bytes b t
 | .flt b,u=>∃t,u=Value.float b t
 | .ref a,u=>u=Value.ref a
 | .ty n,u=>u=Value.type n
abbrev Vals:List V->List G7->Prop:=Paired RelV
theorem Vals.length {xs:List V} {us:List G7} (r:Vals xs us):xs.length=us.length:=C9 r
theorem Vals.get:∀ {xs:List V} {us:List G7} {i:Nat} {x:V},Vals xs us->xs[i]? = some x->∃u,us[i]? = some u/\RelV x u
 | _,_,_,_,.nil,e=>by simp at e
 | _,_,0,_,.cons r _,e=>by simp at e; subst e; exact ⟨_,O,r⟩
 | _,_,i + 1,x,.cons _ t,e=>by obtain ⟨u,h1,h2⟩:=Vals.get (i:=i) (x:=x) t (by simpa using e);exact ⟨u,by simpa using h1,h2⟩
theorem Vals.set {x:V} {u:G7} (r:RelV x u):∀ {xs:List V} {us:List G7} (i:Nat),Vals xs us->Vals (xs.set i x) (us.set i u)
 | _,_,_,.nil=>.nil
 | _,_,0,.cons _ t=>.cons r t
 | _,_,i + 1,.cons q t=>.cons q (Vals.set r i t)
theorem Vals.append:∀ {xs ys:List V} {us ws:List G7},Vals xs us->Vals ys ws->Vals (xs ++ ys) (us ++ ws)
 | _,_,_,_,.nil,s=>s
 | _,_,_,_,.cons r t,s=>.cons r (Vals.append t s)
theorem Vals.take:∀ {xs:List V} {us:List G7} (n:Nat),Vals xs us->Vals (xs.take n) (us.take n)
 | _,_,0,_=>.nil
 | _,_,_ + 1,.nil=>.nil
 | _,_,n + 1,.cons r t=>.cons r (Vals.take n t)
theorem Vals.drop:∀ {xs:List V} {us:List G7} (n:Nat),Vals xs us->Vals (xs.drop n) (us.drop n)
 | _,_,0,r=>r
 | _,_,_ + 1,.nil=>.nil
 | _,_,n + 1,.cons _ t=>Vals.drop n t
def RelO:Option V->Option G7->Prop
 | some v,some u=>RelV v u
 | none,none=>True
 | _,_=>False
def KV {κ:Type}:List (κ×V)->List (κ×G7)->Prop:=Paired λ (p:κ×V) (q:κ×G7)=>p.1=q.1/\RelV p.2 q.2
def kV:Key->V
 | .inl i=>.int i
 | .inr x=>.str x
inductive HO where
 | lst (xs:List V)
 | tup (xs:List V)
 | dK (kvs:List (Key×V)) | dT (kvs:List (List Key×V))
 | set (S:Int->Bool) (n:Nat)
 | ins (C dx:Addr) (fs:List (Str×V))
 | own (x:Addr)
 | xd (fs:List (Str×V))
 | met (f x:Addr)
 | rng (lo hi:Int)
 | frz (o:Obj) (u:HO)
 | tbl (ps:Array G7)
 | ext (φ:Heap->Prop)
abbrev Hp:=Addr->Option HO
def upd (H:Hp) (a:Addr) (o:HO):Hp:=λ b=>if b=a then some o else H b
theorem ag {H:Hp} {a:Addr} {o:HO}:upd H a o a=some o:=by unfold upd; rw [if_pos rfl]
theorem am {H:Hp} {a b:Addr} {o:HO} (h:b≠a):upd H a o b=H b:=by unfold upd; rw [if_neg h]
theorem ap {H:Hp} {a b:Addr} {o:HO} (h:H a=some o) (h':H b=none):a≠b:=by intro e; subst e; rw [h] at h'; cases h'
section
variable (P:G4) (w:G6)
def ObjOk (H:Hp) (h:Heap) (a:Addr):HO->Prop
 | .lst xs=>xs.length<=sizeLine/\∃ (its:List G7) (n:Nat),Vals xs its/\h.get? a=some { cls:=.type "list",data:=.seq its.toArray n }
 | .tup xs=>xs.length<=sizeLine/\∃its:List G7,Vals xs its/\IsTup h a its.toArray
 | .dK kvs=>kvs.length<=sizeLine/\(a == sysModules)=false/\∃vs,KV kvs vs/\h.DictOf (iQ P w) a vs
 | .dT kvs=>kvs.length<=sizeLine/\(a == sysModules)=false/\∃xs:List (List Key×Addr×G7),
   Paired (λ (p:List Key×V) (q:List Key×Addr×G7)=>p.1=q.1/\H q.2.1=some (.tup (p.1.map kV))/\RelV p.2 q.2.2) kvs xs /\
   ∃o es ep,h.get? a=some o/\o.ExactDict/\o.data=.dict es ep/\es.toList=xs.map (entryOfKey (tupleKind (iQ P w)))/\(xs.map (·.1)).Nodup
 | .set S n=>h.SetOf (intKind P w) a S n
 | .ins C dx fs=>H dx=some (.own a)/\fs.length<=1000/\dx≠a/\h.get? a=some (PySem.W.instObj C dx) /\
   ∃mA,h.Ns1 dx mA/\(∀f,RelO (fs.lookup f) (mA f))/\PySem.Within mA (fs.map (·.1))
 | .own _=>∃o,h.get? a=some o
 | .xd fs=>∃mA,h.Ns1 a mA/\∀f,RelO (fs.lookup f) (mA f)
 | .rng lo hi=>∃t u v,h.get? a=some { cls:=.type "range",data:=.fields #[.int lo t,.int hi u,.int 1 v] }
 | .frz o u=>h.get? a=some o/\ObjOk H h a u
 | .tbl ps=>h.get? a=some { cls:=.none,data:=.fields ps }
 | .met f x=>h.get? a=some (PySem.W.methodObj (.ref f) (.ref x))
 | .ext φ=>φ h/\(∃o,h.get? a=some o)/\∀h1 h2:Heap,φ h1->(∀o,h1.get? a=some o->h2.get? a=some o)->φ h2
def HOk (H:Hp) (h:Heap):Prop:=∀a o,H a=some o->ObjOk P w H h a o
end
section
variable {P:G4} {w:G6} {H H':Hp} {h h':Heap} {a:Addr} {o:HO}
theorem ObjOk.lt (x:ObjOk P w H h a o):a < h.objs.size:=by
 cases o with
 | lst xs=>obtain ⟨_,_,_,_,e⟩:=x; exact A8 e
 | tup xs=>obtain ⟨_,_,_,p⟩:=x; exact p.lt
 | dK kvs=>obtain ⟨_,_,_,_,o,_,_,e,_⟩:=x; exact A8 e
 | dT kvs=>obtain ⟨_,_,_,_,o,_,_,e,_⟩:=x; exact A8 e
 | set S n=>obtain ⟨o,_,_,_,e,_⟩:=x; exact A8 e
 | ins C dx fs=>obtain ⟨_,_,_,e,_⟩:=x; exact A8 e
 | own y=>obtain ⟨_,e⟩:=x; exact A8 e
 | xd fs=>obtain ⟨_,⟨_,_,_,e,_⟩,_⟩:=x; exact A8 e
 | rng lo hi=>obtain ⟨_,_,_,e⟩:=x; exact A8 e
 | frz ob u=>obtain ⟨e,_⟩:=x; exact A8 e
 | tbl ps=>exact A8 (show h.get? a=some _ from x)
 | met f y=>exact A8 (show h.get? a=some _ from x)
 | ext φ=>obtain ⟨_,⟨_,e⟩,_⟩:=x; exact A8 e
theorem Paired.mapP {α β:Type} {F G:α->β->Prop}:∀ {l₁:List α} {l₂:List β},Paired F l₁ l₂->(∀a b,F a b->G a b)->Paired G l₁ l₂
 | _,_,.nil,_=>.nil
 | _,_,.cons r t,f=>.cons (f _ _ r) (Paired.mapP t f)
abbrev IW:=@Paired.mapP
theorem ObjOk.stay (x:ObjOk P w H h a o) (k:∀b u,(b=a\/H b=some (.own a))->h.get? b=some u->h'.get? b=some u)
  (ho:∀b,H b=some (.own a)->H' b=some (.own a)) (ht:∀b xs,H b=some (.tup xs)->H' b=some (.tup xs)):ObjOk P w H' h' a o:=by
 induction o with
 | lst xs=>obtain ⟨z,its,n,r,e⟩:=x; exact ⟨z,its,n,r,k _ _ (.inl rfl) e⟩
 | tup xs=>obtain ⟨z,its,r,ob,e,c⟩:=x; exact ⟨z,its,r,ob,k _ _ (.inl rfl) e,c⟩
 | dK kvs=>obtain ⟨z,y,vs,r,ob,es,ep,e,c⟩:=x; exact ⟨z,y,vs,r,ob,es,ep,k _ _ (.inl rfl) e,c⟩
 | dT kvs =>
  obtain ⟨z,y,xs,r,ob,es,ep,e,c⟩:=x;exact ⟨z,y,xs,IW r λ p q z=>⟨z.1,ht _ _ z.2.1,z.2.2⟩,ob,es,ep,k _ _ (.inl rfl) e,c⟩
 | set S n=>obtain ⟨ob,es,ep,t,e,c⟩:=x; exact ⟨ob,es,ep,t,k _ _ (.inl rfl) e,c⟩
 | ins C dx fs =>
  obtain ⟨d,z,ne,e,mA,⟨od,es,ep,e2,c⟩,r⟩:=x;exact ⟨ho _ d,z,ne,k _ _ (.inl rfl) e,mA,⟨od,es,ep,k _ _ (.inr d) e2,c⟩,r⟩
 | own y=>obtain ⟨ob,e⟩:=x; exact ⟨ob,k _ _ (.inl rfl) e⟩
 | xd fs=>obtain ⟨mA,⟨od,es,ep,e,c⟩,r⟩:=x; exact ⟨mA,⟨od,es,ep,k _ _ (.inl rfl) e,c⟩,r⟩
 | rng lo hi=>obtain ⟨t,u,v,e⟩:=x; exact ⟨t,u,v,k _ _ (.inl rfl) e⟩
 | frz ob u ih=>obtain ⟨e,q⟩:=x; exact ⟨k _ _ (.inl rfl) e,ih q⟩
 | tbl ps =>
  have e:h.get? a=some { cls:=.none,data:=.fields ps }:=x;show h'.get? a=some { cls:=.none,data:=.fields ps };exact k a _ (.inl rfl) e
 | met f y =>
  have e:h.get? a=some (PySem.W.methodObj (.ref f) (.ref y)):=x;show h'.get? a=some (PySem.W.methodObj (.ref f) (.ref y));exact k a _ (.inl rfl) e
 | ext φ=>obtain ⟨p,⟨o,e⟩,st⟩:=x; exact ⟨st _ _ p λ o q=>k _ _ (.inl rfl) q,⟨o,k _ _ (.inl rfl) e⟩,st⟩
theorem HOk.lt (x:HOk P w H h) (e:H a=some o):a < h.objs.size:=(x a o e).lt
theorem HOk.fresh (x:HOk P w H h) (e:h.objs.size<=a):H a=none:=by
 cases q:H a with
 | none=>rfl
 | some u=>exact absurd (C0 (x.lt q) e) (C7 _)
theorem HOk.kept (x:HOk P w H h) (k:∀b u,h.get? b=some u->h'.get? b=some u):HOk P w H h':=λ a o e =>
 (x a o e).stay (λ b u _ q=>k b u q) (λ _ q=>q) λ _ _ q=>q
theorem HOk.laid (x:HOk P w H h) (k:∀b u,h.get? b=some u->h'.get? b=some u) (hp:h.objs.size<=a) (new:ObjOk P w (upd H a o) h' a o):HOk P w (upd H a o) h':=λ b u e=>by
 have hn:=x.fresh hp
 by_cases hb:b=a
 ·subst hb; rw [ag] at e; cases e; exact new
 ·rw [am hb] at e;exact (x b u e).stay (λ c v _ q=>k c v q) (λ c q=>by rw [am (ap q hn)]; exact q) λ c xs q=>by rw [am (ap q hn)]; exact q
end
def Rd (H:Hp) (a:Addr) (u:HO):Prop:=H a=some u\/∃o,H a=some (.frz o u)
theorem Rd.ok {P:G4} {w:G6} {H:Hp} {h:Heap} {a:Addr} {u:HO} (r:Rd H a u) (x:HOk P w H h):ObjOk P w H h a u:=by
 rcases r with r | ⟨o,r⟩
 ·exact x a u r
 ·obtain ⟨_,q⟩:=x a _ r;exact q
def Mut:Option HO->Prop
 | some (.lst _)=>True
 | some (.dK _)=>True
 | some (.dT _)=>True
 | some (.set _ _)=>True
 | some (.ins _ _ _)=>True
 | some (.ext _)=>True
 | _=>False
section
variable {P:G4} {w:G6} {H:Hp} {h h':Heap} {x e:Addr} {o':HO}
theorem HOk.write (ok:HOk P w H h) (mu:Mut (H x)) (he:e=x\/H e=some (.own x)) (k:∀b u,b≠e->h.get? b=some u->h'.get? b=some u) (heo:∃u,h'.get? e=some u)
  (new:ObjOk P w (upd H x o') h' x o'):HOk P w (upd H x o') h':=λ b u q=>by
 have nown:∀c y,H c=some (.own y)->c≠x:=λ c y r z=>by subst z; rw [r] at mu; exact mu
 have ntup:∀c xs,H c=some (.tup xs)->c≠x:=λ c xs r z=>by subst z; rw [r] at mu; exact mu
 by_cases hb:b=x
 ·subst hb; rw [ag] at q; cases q; exact new
 ·rw [am hb] at q
  by_cases hbe:b=e
  ·have q':H b=some (.own x):=by
    rcases he with z | z
    ·exact absurd (hbe.trans z) hb
    ·rw [hbe]; exact z
   rw [q] at q'; cases q';obtain ⟨v,hv⟩:=heo;exact ⟨v,by rw [hbe]; exact hv⟩
  ·refine (ok b u q).stay (λ c v hc r=>k c v ?_ r) (λ c r=>by rw [am (nown c b r)]; exact r) λ c xs r=>by rw [am (ntup c xs r)]; exact r
   rcases hc with rfl | hc
   ·exact hbe
   ·rintro rfl;rcases he with z | z
    ·exact nown c b hc z
    ·rw [hc] at z; cases z; exact hb rfl
end
structure Un (fs ex:List Addr) (H H':Hp) (h h':Heap):Prop where
 keep:∀b o,h.get? b=some o->H b=none->b∉fs->b∉ex->h'.get? b=some o
 slot:∀b o,h.get? b=some o->H b=none->b∈fs->b∉ex->∃sl,h'.get? b=some { o with slots:=sl }
 free:∀b o,h.get? b=some o->H b=none->b∉ex->H' b=none
 there:∀b o,h.get? b=some o->b∉ex->∃o',h'.get? b=some o'
 tups:∀b xs,H b=some (.tup xs)->H' b=some (.tup xs)
 frzs:∀b o u,H b=some (.frz o u)->H' b=some (.frz o u)
 tbls:∀b ps,H b=some (.tbl ps)->∃more,H' b=some (.tbl (ps ++ more))
section
variable {fs fs' ex ex':List Addr} {H H1 H2:Hp} {h h1 h2 h':Heap} {a x e:Addr} {o:HO}
theorem Un.any (u:Un fs ex H H1 h h1) {b:Addr} {ob:Obj} (q:h.get? b=some ob) (n:H b=none) (hx:b∉ex):∃sl,h1.get? b=some { ob with slots:=sl }:=by
 by_cases hb:b∈fs
 ·exact u.slot b ob q n hb hx
 ·exact ⟨ob.slots,u.keep b ob q n hb hx⟩
theorem Un.kept (k:∀b u,h.get? b=some u->h'.get? b=some u):Un fs ex H H h h' :=
 ⟨λ b ob q _ _ _=>k b ob q,λ b ob q _ _ _=>⟨ob.slots,k b ob q⟩,λ _ _ _ n _=>n,λ b ob q _=>⟨ob,k b ob q⟩,λ _ _ q=>q,λ _ _ _ q=>q,λ _ ps q=>⟨#[],by rw [q]; simp⟩⟩
theorem Un.refl:Un fs ex H H h h:=Un.kept λ _ _ q=>q
theorem Un.laid (k:∀b u,h.get? b=some u->h'.get? b=some u) (hp:h.objs.size<=a) (hn:H a=none):Un fs ex H (upd H a o) h h' where
 keep:=λ b u q _ _ _=>k b u q
 slot:=λ b u q _ _ _=>⟨u.slots,k b u q⟩
 free:=λ b u q n _=>by rw [am (Nat.ne_of_lt (Nat.lt_of_lt_of_le (Heap.lt_size q) hp))]; exact n
 there:=λ b u q _=>⟨u,k b u q⟩
 tups:=λ b xs q=>by rw [am (ap q hn)]; exact q
 frzs:=λ b u xs q=>by rw [am (ap q hn)]; exact q
 tbls:=λ b ps q=>⟨#[],by rw [am (ap q hn),q]; simp⟩
theorem Un.write (mu:Mut (H x)) (he:e=x\/H e=some (.own x)) (k:∀b u,b≠e->h.get? b=some u->h'.get? b=some u) (heo:∃u,h'.get? e=some u):Un fs ex H (upd H x o) h h':=by
 have hx:∀b,H b=none->b≠x:=λ b n z=>by subst z; rw [n] at mu; exact mu
 have hb:∀b,H b=none->b≠e:=λ b n z=>by
  subst z;rcases he with r | r
  ·exact hx b n r
  ·rw [n] at r; cases r
 have hm:∀b u,H b=some u->¬ Mut (some u)->b≠x:=λ b u q nm z=>by subst z; rw [q] at mu; exact nm mu
 refine ⟨λ b u q n _ _=>k b u (hb b n) q,λ b u q n _ _=>⟨u.slots,k b u (hb b n) q⟩,λ b u q n _=>by rw [am (hx b n)]; exact n,λ b u q _=>?_,
  λ b xs q=>by rw [am (hm b _ q λ z=>z)]; exact q,λ b u xs q=>by rw [am (hm b _ q λ z=>z)]; exact q,λ b ps q=>⟨#[],by rw [am (hm b _ q λ z=>z),q]; simp⟩⟩
 by_cases hbe:b=e
 ·subst hbe; exact heo
 ·exact ⟨u,k b u hbe q⟩
end
def trk (h:Heap) (H:Hp):List Addr:=(List.range h.objs.size).filter λ a=>(H a).isSome
def iR (h:Heap) (H:Hp):Heap:=PySem.W.hideAll h (trk h H)
theorem nk (h:Heap) (H:Hp):(iR h H).objs.size=h.objs.size:=PySem.W.hideAll_size _ _
theorem pG {h:Heap} {H:Hp} {b:Addr} {o:Obj} (e:h.get? b=some o) (n:H b=none):(iR h H).get? b=some o :=
 PySem.W.hideAll_get _ e λ hm=>by have q:(H b).isSome=true:=(List.mem_filter.mp hm).2;rw [n] at q; simp at q
theorem rP {h:Heap} {H:Hp} {b:Addr} {o:Obj} (e:(iR h H).get? b=some o):h.get? b=some o/\H b=none:=by
 have e':h.get? b=some o:=PySem.W.of_hideAll (trk h H) e;refine ⟨e',?_⟩;cases q:H b with
 | none=>rfl
 | some x =>
  have hm:b∈trk h H:=List.mem_filter.mpr ⟨List.mem_range.mpr (A8 e'),by simp [q]⟩;have z:(iR h H).get? b=none:=PySem.W.hideAll_none (trk h H) hm;rw [z] at e; cases e
def rQ (g h:Heap) (L:Addr):List (Addr×Obj):=(List.range h.objs.size).filterMap λ a=>if a=L\/(g.get? a).isSome=true then none else (h.get? a).map λ o=>(a,o)
def rest (g h:Heap) (L d:Addr):List (Addr×Obj):=(rQ g h L).filter λ p=>decide (p.1≠d)
structure Mod (K:C3) (mg:Str->Option Value) (base:Heap):Prop where
 kin:K.In base
 glob:base.Ns mainGlobals mg
 blt:∃mb,base.Ns builtinsNs mb/\∀x:Str,x ≠ "__name__" -> mb x=bootBuiltins x
 nolimit:base.NoLimit
/-- the context: a def's body (or a comprehension's block) running. base: fixed through the aK law; s₀,H₀: the entry; outer: the frames whose slots others may change (a def's callers); stack: all frames that run;
   ex: iterators that were made ahead of the entry and are walked here (a comprehension's); fn: the names whose cells were made at the entry (a def: all; a comprehension's block: its own); calm: not within an except suite; pn: pins that every state bears; xe: what is wanted of an exception that leaves the code -/
structure Cx where
 prog:Program
 w:World
 K:C3
 mg:Str->Option Value
 base:Heap
 A:Around
 N:List Str
 s₀:Shared
 H₀:Hp
 env:Env
 outer:List Env
 stack:List Env
 ex:List Addr
 fn:Str->Bool
 calm:Bool
 pn:List (Addr×Obj)
 xe:G7->G3->Prop
def frs (l:List Env):List Addr:=l.filterMap (·.frame)
abbrev Cx.fs (X:Cx):List Addr:=frs X.outer
def Vis (sc:Scope) (x:Str):Prop:=sc.names.lookup x=some .local\/sc.names.lookup x=some .cell\/sc.names.lookup x=some .free
def Loc (sc:Scope) (x:Str):Prop:=sc.names.lookup x=some .local\/sc.names.lookup x=some .cell
def FR (env:Env) (h:Heap) (m:Str->Option G7) (x:Str) (u:G7):Prop :=
 (env.kindOf x=some .local/\m x=some u)\/((env.kindOf x=some .cell\/env.kindOf x=some .free)/\∃c,env.cells.lookup x=some c/\h.IsCell c (some u))
structure Cx.Ok (X:Cx):Prop where
 mod:Mod X.K X.mg X.base
 kind:X.env.scope.kind=.function
 glob:X.env.globals=mainGlobals
 blt:X.env.builtins=builtinsNs
 above:X.s₀.heap.objs.size<=X.env.locals
 inj:∀x y c,X.env.cells.lookup x=some c->X.env.cells.lookup y=some c->x=y
 has:∀x,(X.env.kindOf x=some .cell\/X.env.kindOf x=some .free)->∃c,X.env.cells.lookup x=some c
 cab:∀x c,X.fn x=true->X.env.cells.lookup x=some c->X.s₀.heap.objs.size<=c
 hd:X.calm=true->X.A.handled=none
 frames:X.A.frames=some X.stack
 stk:X.stack=X.outer\/(X.stack=X.env :: X.outer/\X.env.frame=some X.env.locals)
 exf:∀b∈X.ex,b≠X.env.locals/\∀x c,X.env.cells.lookup x=some c->c≠b
 bs:∀b o,X.base.get? b=some o->X.s₀.heap.get? b=some o/\X.H₀ b=none
 bsz:X.base.objs.size<=X.s₀.heap.objs.size
 noex:∀b o,X.base.get? b=some o->b∉X.ex
 exfs:∀b∈X.ex,b∉X.fs
 funs:X.s₀.heap.FunFrames X.base X.outer
 frf:∀b∈X.fs,X.H₀ b=none
structure Inv (X:Cx) (pins:List (Addr×Obj)) (σ:List (Option V)) (H:Hp) (s:Shared):Prop where
 ok:X.Ok
 os:s.os=X.s₀.os
 bare:AllBare s.gens
 base:Un X.fs X.ex X.H₀ H X.s₀.heap s.heap
 loc:∃m,s.heap.Ns X.env.locals m/\∀ (i:Nat) (x:Str) (v:V),X.N[i]? = some x->σ[i]? = some (some v)->Vis X.env.scope x->∃u,RelV v u/\FR X.env s.heap m x u
 cell:∀x c,X.env.cells.lookup x=some c->∃v,s.heap.IsCell c v
 free:H X.env.locals=none
 freeC:∀x c,X.env.cells.lookup x=some c->H c=none
 pin:∀p∈X.pn ++ pins,s.heap.get? p.1=some p.2/\H p.1=none/\p.1≠X.env.locals/\p.1∉X.fs/\∀v,p.2.data≠.cell v
 hok:HOk X.prog X.w H s.heap
 len:σ.length=X.N.length
section
variable {X:Cx} {pins:List (Addr×Obj)} {σ:List (Option V)} {H H':Hp} {s:G3} {h':Heap}
theorem Cx.Ok.nofr (ok:X.Ok) {b:Addr} {o:Obj} (e:X.base.get? b=some o):b∉X.fs:=λ hb=>by have:=(ok.funs.mem hb).1;rw [e] at this; cases this
theorem Inv.bs (I:Inv X pins σ H s):∀b o,X.base.get? b=some o->s.heap.get? b=some o/\H b=none:=λ b o e =>
 ⟨I.base.keep b o (I.ok.bs b o e).1 (I.ok.bs b o e).2 (I.ok.nofr e) (I.ok.noex b o e),I.base.free b o (I.ok.bs b o e).1 (I.ok.bs b o e).2 (I.ok.noex b o e)⟩
theorem Inv.bk (I:Inv X pins σ H s):∀b o,X.base.get? b=some o->s.heap.get? b=some o:=λ b o e=>(I.bs b o e).1
theorem Inv.mod (I:Inv X pins σ H s):Mod X.K X.mg X.base:=I.ok.mod
theorem Inv.kIn (I:Inv X pins σ H s):X.K.In s.heap:=I.ok.mod.kin.keeps I.bk
theorem Inv.fr (I:Inv X pins σ H s):∃m,Fr X.base X.env.locals s.heap m :=
 let ⟨m,hn,_⟩:=I.loc
 ⟨m,hn,I.bk,C4 I.ok.bsz I.ok.above⟩
theorem Inv.lt (I:Inv X pins σ H s):X.env.locals < s.heap.objs.size:=let ⟨_,hn,_⟩:=I.loc; hn.lt
theorem Inv.sz (I:Inv X pins σ H s):X.s₀.heap.objs.size<=s.heap.objs.size:=C4 I.ok.above (Nat.le_of_lt I.lt)
theorem Inv.nofs (I:Inv X pins σ H s) {a:Addr} (h:s.heap.objs.size<=a):a∉X.fs:=λ hb=>by obtain ⟨_,o,ho,_⟩:=I.ok.funs.mem hb;exact absurd (C0 (A8 ho) (C4 I.sz h)) (C7 _)
theorem Inv.cne (I:Inv X pins σ H s):∀x c,X.env.cells.lookup x=some c->c≠X.env.locals:=λ x c e z=>by obtain ⟨v,o,ho,hd⟩:=I.cell x c e;obtain ⟨m,⟨o',es,ep,ho',hd',_⟩,_⟩:=I.loc;rw [z,ho'] at ho; cases ho; rw [hd'] at hd; cases hd
theorem Inv.funs (I:Inv X pins σ H s):s.heap.FunFrames X.base X.outer:=by
 have all:∀ (l:List Env),(∀b∈frs l,b∈X.fs)->X.s₀.heap.FunFrames X.base l->s.heap.FunFrames X.base l:=by
  intro l
  induction l with
  | nil=>intro _ _; trivial
  | cons env r ih =>
   intro hs hl;obtain ⟨hk,⟨L,o,hf,hn,ho,hd⟩,hr⟩:=hl;have hL:L∈X.fs:=hs L (by unfold frs; rw [List.filterMap_cons,hf]; exact List.mem_cons_self);obtain ⟨sl,e⟩:=I.base.slot L o ho (I.ok.frf L hL) hL λ z=>I.ok.exfs L z hL;exact ⟨hk,⟨L,_,hf,hn,e,hd⟩,ih (λ b hb=>hs b (by unfold frs; rw [List.filterMap_cons,hf]; exact List.mem_cons_of_mem _ hb)) hr⟩
 exact all X.outer (λ _ hb=>hb) I.ok.funs
theorem Inv.stack (I:Inv X pins σ H s):s.heap.FunFrames X.base X.stack:=by
 rcases I.ok.stk with e | ⟨e,hf⟩
 ·rw [e]; exact I.funs
 ·rw [e];obtain ⟨m,hn,_⟩:=I.loc;refine .cons (by rw [I.ok.kind]; decide) hf hn ?_ I.funs;exact Heap.get?_none_of_le (C4 I.ok.bsz I.ok.above)
theorem Inv.stkSub (I:Inv X pins σ H s):∀b∈frs X.stack,b∈X.env.locals :: X.fs:=λ b hb=>by
 rcases I.ok.stk with e | ⟨e,hf⟩
 ·rw [e] at hb; exact B3 _ hb
 ·rw [e] at hb;unfold frs at hb;rw [List.filterMap_cons,hf] at hb;exact hb
theorem Inv.stkFree (I:Inv X pins σ H s):∀b∈frs X.stack,H b=none:=λ b hb=>by
 rcases List.mem_cons.mp (I.stkSub b hb) with e | hb
 ·rw [e]; exact I.free
 ·obtain ⟨_,o,ho,_⟩:=I.ok.funs.mem hb;exact I.base.free b o ho (I.ok.frf b hb) λ z=>I.ok.exfs b z hb
theorem Inv.step {g':Array GenState} {t':Nat} {d':Drawn} {ch:List Addr} (I:Inv X pins σ H s)
  (hch:∀b∈ch,(b∈X.ex\/X.s₀.heap.objs.size<=b)/\b≠X.env.locals/\(∀x c,X.env.cells.lookup x=some c->c≠b)/\∀p∈X.pn ++ pins,p.1≠b)
  (keep:∀b o,b≠X.env.locals->b∉X.fs->b∉ch->s.heap.get? b=some o->H b=none->h'.get? b=some o)
  (slot:∀b o,b≠X.env.locals->b∈X.fs->b∉ch->s.heap.get? b=some o->H b=none->∃sl,h'.get? b=some { o with slots:=sl }) (free:∀b o,b∉ch->s.heap.get? b=some o->H b=none->H' b=none)
  (there:∀b o,b∉ch->s.heap.get? b=some o->∃o',h'.get? b=some o')
  (tups:∀b xs,H b=some (.tup xs)->H' b=some (.tup xs)) (frzs:∀b o u,H b=some (.frz o u)->H' b=some (.frz o u)) (tbls:∀b ps,H b=some (.tbl ps)->∃more,H' b=some (.tbl (ps ++ more)))
  (ns:∀m,s.heap.Ns X.env.locals m->h'.Ns X.env.locals m) (hok:HOk X.prog X.w H' h') (hg:AllBare g') :
  Inv X pins σ H' { s with heap:=h',gens:=g',drawn:=d',toks:=t' }:=by
 have neL:∀b o,X.s₀.heap.get? b=some o->b≠X.env.locals:=λ b o e=>B8 (C0 (A8 e) I.ok.above);have neC:∀b o,X.s₀.heap.get? b=some o->b∉X.ex->b∉ch:=λ b o e hx hb=>by
  rcases (hch b hb).1 with z | z
  ·exact hx z
  ·exact absurd (C0 (A8 e) z) (C7 _)
 have cellK:∀x c,X.env.cells.lookup x=some c->∀v,s.heap.IsCell c v->h'.IsCell c v:=λ x c e v ⟨o,ho,hd⟩=>by
  have nch:c∉ch:=λ z=>(hch c z).2.2.1 x c e rfl
  by_cases hc:c∈X.fs
  ·obtain ⟨sl,q⟩:=slot c o (I.cne x c e) hc nch ho (I.freeC x c e);exact ⟨_,q,hd⟩
  ·exact ⟨o,keep c o (I.cne x c e) hc nch ho (I.freeC x c e),hd⟩
 refine ⟨I.ok,I.os,hg,⟨λ b o e n hb hx=>?_,λ b o e n hb hx=>?_,λ b o e n hx=>?_,λ b o e hx=>?_,λ b xs e=>tups b xs (I.base.tups b xs e),λ b o xs e=>frzs b o xs (I.base.frzs b o xs e),λ b ps e=>?_⟩,?_,λ x c e=>?_,?_,λ x c e=>?_,λ p hp=>?_,hok,I.len⟩
 ·exact keep b o (neL b o e) hb (neC b o e hx) (I.base.keep b o e n hb hx) (I.base.free b o e n hx)
 ·obtain ⟨sl,e1⟩:=I.base.slot b o e n hb hx;obtain ⟨sl',e2⟩:=slot b _ (neL b o e) hb (neC b o e hx) e1 (I.base.free b o e n hx);exact ⟨sl',e2⟩
 ·obtain ⟨o',e1⟩:=I.base.there b o e hx;exact free b o' (neC b o e hx) e1 (I.base.free b o e n hx)
 ·obtain ⟨o',e1⟩:=I.base.there b o e hx;exact there b o' (neC b o e hx) e1
 ·obtain ⟨m1,e1⟩:=I.base.tbls b ps e;obtain ⟨m2,e2⟩:=tbls b _ e1;exact ⟨m1 ++ m2,by rw [e2,Array.append_assoc]⟩
 ·obtain ⟨m,hn,hl⟩:=I.loc;refine ⟨m,ns m hn,λ i x v e1 e2 e3=>?_⟩;obtain ⟨u,r,l⟩:=hl i x v e1 e2 e3;refine ⟨u,r,?_⟩;rcases l with l | ⟨k,c,e,z⟩
  ·exact .inl l
  ·exact .inr ⟨k,c,e,cellK x c e _ z⟩
 ·obtain ⟨v,z⟩:=I.cell x c e;exact ⟨v,cellK x c e v z⟩
 ·obtain ⟨m,⟨o,_,_,ho,_⟩,_⟩:=I.loc;exact free _ o (λ z=>(hch _ z).2.1 rfl) ho I.free
 ·obtain ⟨v,o,ho,hd⟩:=I.cell x c e;exact free c o (λ z=>(hch c z).2.2.1 x c e rfl) ho (I.freeC x c e)
 ·obtain ⟨e,n,ne,nf,d⟩:=I.pin p hp;have nch:p.1∉ch:=λ z=>(hch p.1 z).2.2.2 p hp rfl;exact ⟨keep p.1 p.2 ne nf nch e n,free p.1 p.2 nch e n,ne,nf,d⟩
theorem Inv.un {t':Nat} (I:Inv X pins σ H s) (u:Un X.fs [] H H' s.heap h') (hok:HOk X.prog X.w H' h'):Inv X pins σ H' { s with heap:=h',toks:=t' }:=by
 obtain ⟨m,⟨o,es,ep,ho,r⟩,_⟩:=id I.loc;obtain ⟨sl,hL⟩:=u.any ho I.free (by simp);exact I.step (g':=s.gens) (d':=s.drawn) (ch:=[]) (λ _ z=>nomatch z) (λ b o _ hb _ e n=>u.keep b o e n hb (by simp)) (λ b o _ hb _ e n=>u.slot b o e n hb (by simp)) (λ b o _ e n=>u.free b o e n (by simp)) (λ b o _ e=>u.there b o e (by simp)) u.tups u.frzs u.tbls (λ m' hm=>by
  obtain ⟨o',es',ep',ho',r'⟩:=hm;rw [ho] at ho'; cases ho';exact ⟨_,es',ep',hL,r'⟩) hok I.bare
theorem Inv.call {g':Array GenState} {t':Nat} {d':Drawn} {ch:List Addr} (I:Inv X pins σ H s) (u:Un (frs X.stack) ch H H' s.heap h') (hok:HOk X.prog X.w H' h') (hg:AllBare g')
  (hch:∀b∈ch,(b∈X.ex\/X.s₀.heap.objs.size<=b)/\b≠X.env.locals/\(∀x c,X.env.cells.lookup x=some c->c≠b)/\∀p∈X.pn ++ pins,p.1≠b) :
  Inv X pins σ H' { s with heap:=h',gens:=g',drawn:=d',toks:=t' }:=by
 obtain ⟨m,⟨o,es,ep,ho,r⟩,_⟩:=id I.loc;obtain ⟨sl,hL⟩:=u.any ho I.free λ z=>(hch _ z).2.1 rfl;exact I.step (ch:=ch) hch (λ b o hL hb hc e n=>u.keep b o e n (λ z=>(List.mem_cons.mp (I.stkSub b z)).elim hL hb) hc) (λ b o _ _ hc e n=>u.any e n hc) (λ b o hc e n=>u.free b o e n hc) (λ b o hc e=>u.there b o e hc) u.tups u.frzs u.tbls (λ m' hm=>by
  obtain ⟨o',es',ep',ho',r'⟩:=hm;rw [ho] at ho'; cases ho';exact ⟨_,es',ep',hL,r'⟩) hok hg
theorem Inv.turned {t':Nat} {it:Addr} (I:Inv X pins σ H s) (k:∀b o,b≠it->s.heap.get? b=some o->h'.get? b=some o) (hn:H it=none) (hL:it≠X.env.locals)
  (h1:it∈X.ex\/X.s₀.heap.objs.size<=it) (h2:∀x c,X.env.cells.lookup x=some c->c≠it) (h3:∀p∈X.pn ++ pins,p.1≠it):Inv X pins σ H { s with heap:=h',toks:=t' }:=by
 have nit:∀b u,H b=some u->b≠it:=λ b u e z=>by rw [z,hn] at e; cases e
 refine I.step (g':=s.gens) (d':=s.drawn) (ch:=[it]) (λ b hb=>?_) (λ b o _ _ hc e _=>k b o (λ z=>hc (by simp [z])) e) (λ b o _ _ hc e _=>⟨o.slots,k b o (λ z=>hc (by simp [z])) e⟩) (λ _ _ _ _ n=>n)
  (λ b o hc e=>⟨o,k b o (λ z=>hc (by simp [z])) e⟩) (λ _ _ e=>e) (λ _ _ _ e=>e) (λ b ps e=>⟨#[],by rw [e]; simp⟩) (λ m hm=>?_) (λ b u e=>?_) I.bare
 ·have e:b=it:=by simpa using hb
  subst e;exact ⟨h1,hL,h2,h3⟩
 ·obtain ⟨o,es,ep,ho,r⟩:=hm;exact ⟨o,es,ep,k _ o (Ne.symm hL) ho,r⟩
 ·refine (I.hok b u e).stay (λ c v hc q=>k c v ?_ q) (λ _ q=>q) λ _ _ q=>q;rcases hc with z | z
  ·rw [z]; exact nit b u e
  ·exact nit c _ z
theorem Inv.tok (I:Inv X pins σ H s) (t:Nat):Inv X pins σ H { s with toks:=t }:=I.un (h':=s.heap) (t':=t) Un.refl I.hok
theorem Inv.kept {t':Nat} (I:Inv X pins σ H s) (k:∀b u,s.heap.get? b=some u->h'.get? b=some u):Inv X pins σ H { s with heap:=h',toks:=t' }:=I.un (Un.kept k) (I.hok.kept k)
theorem Inv.laid {a:Addr} {o:HO} {t':Nat} (I:Inv X pins σ H s) (k:∀b u,s.heap.get? b=some u->h'.get? b=some u) (hp:s.heap.objs.size<=a) (new:ObjOk X.prog X.w (upd H a o) h' a o) :
  Inv X pins σ (upd H a o) { s with heap:=h',toks:=t' }:=I.un (Un.laid k hp (I.hok.fresh hp)) (I.hok.laid k hp new)
theorem Inv.write {x e:Addr} {o:HO} {t':Nat} (I:Inv X pins σ H s) (mu:Mut (H x)) (he:e=x\/H e=some (.own x)) (k:∀b u,b≠e->s.heap.get? b=some u->h'.get? b=some u) (heo:∃u,h'.get? e=some u)
  (new:ObjOk X.prog X.w (upd H x o) h' x o):Inv X pins σ (upd H x o) { s with heap:=h',toks:=t' }:=I.un (Un.write mu he k heo) (I.hok.write mu he k heo new)
theorem Inv.weak {σ':List (Option V)} (I:Inv X pins σ H s) (hl:σ'.length=σ.length) (w:∀ (i:Nat) v,σ'[i]? = some (some v)->σ[i]? = some (some v)):Inv X pins σ' H s :=
 ⟨I.ok,I.os,I.bare,I.base,let ⟨m,hn,hl'⟩:=I.loc; ⟨m,hn,λ i x v e1 e2 e3=>hl' i x v e1 (w i v e2) e3⟩,I.cell,I.free,I.freeC,I.pin,I.hok,hl.trans I.len⟩
theorem Inv.pins_of {pins':List (Addr×Obj)} (I:Inv X pins σ H s) (h:∀p∈pins',s.heap.get? p.1=some p.2/\H p.1=none/\p.1≠X.env.locals/\p.1∉X.fs/\∀v,p.2.data≠.cell v):Inv X pins' σ H s :=
 ⟨I.ok,I.os,I.bare,I.base,I.loc,I.cell,I.free,I.freeC,λ p hp=>(C1.mp hp).elim (λ z=>I.pin p (B5 _ z)) (h p),I.hok,I.len⟩
theorem gG {N:List Str} (hN:N.Nodup) {i j:Nat} {x:Str} (a:N[i]? = some x) (b:N[j]? = some x):i=j:=by obtain ⟨h1,e1⟩:=A5.mp a;obtain ⟨h2,e2⟩:=A5.mp b;exact (List.getElem_inj hN).mp (e1.trans e2.symm)
theorem io {M:Model} {A:Around} {E:G7->G3->Prop} {i:Nat} {x:Str} {v:V} {u:G7} {Q:Unit->G3->Prop} (I:Inv X pins σ H s) (hN:X.N.Nodup) (hi:X.N[i]? = some x) (hx:Loc X.env.scope x) (r:RelV v u)
  (h:∀s',Inv X pins (σ.set i (some v)) H s'->(∃a,Heap.SameBut a s.heap s'.heap/\(a=X.env.locals\/X.env.cells.lookup x=some a))->Q () s') (hf:X.fn x=true\/X.env.scope.names.lookup x=some .local:=by first | exact .inl rfl | exact .inr rfl | assumption):wpAny M A (storeName X.env x u) Q E s:=by
 obtain ⟨m,hn,hl⟩:=id I.loc;have hcls:(X.env.scope.kind == .class || (X.env.scope.kind == .module && X.env.locals != X.env.globals))=false:=by rw [I.ok.kind]; rfl
 have hiσ:i < σ.length:=by rw [I.len]; exact (A5.mp hi).1
 have cne:=I.cne;have tracked:∀ {a:Addr} {h':Heap},(∃o,s.heap.get? a=some o/\H a=none)->Heap.SameBut a s.heap h'->HOk X.prog X.w H h':=λ {a h'} ha hs b ob e=>by
  obtain ⟨_,_,hfree⟩:=ha;refine (I.hok b ob e).stay (λ c w' hc q=>(hs.2 c ?_).trans q) (λ _ q=>q) λ _ _ q=>q;rintro rfl;rcases hc with rfl | hc
  ·rw [hfree] at e; cases e
  ·rw [hfree] at hc; cases hc
 rcases hx with hk | hk
 ·refine wpAny_storeName_local hk hn (λ h' hn' hs=>?_) hcls;obtain ⟨oL,_,_,hoL,_⟩:=id hn;refine h _ ⟨I.ok,I.os,I.bare,⟨λ b o e n hb hx=>?_,λ b o e n hb hx=>?_,I.base.free,λ b o e hx=>?_,I.base.tups,I.base.frzs,I.base.tbls⟩,⟨_,hn',λ j y v' e1 e2 e3=>?_⟩,λ y c e=>?_,I.free,I.freeC,λ p hp=>?_,tracked ⟨oL,hoL,I.free⟩ hs,by simpa using I.len⟩ ⟨_,hs,.inl rfl⟩
  ·exact (hs.2 b (B8 (C0 (A8 e) I.ok.above))).trans (I.base.keep b o e n hb hx)
  ·obtain ⟨sl,e1⟩:=I.base.slot b o e n hb hx;exact ⟨sl,(hs.2 b (B8 (C0 (A8 e) I.ok.above))).trans e1⟩
  ·obtain ⟨o',e1⟩:=I.base.there b o e hx;exact ⟨o',(hs.2 b (B8 (C0 (A8 e) I.ok.above))).trans e1⟩
  ·by_cases hj:j=i
   ·subst hj;rw [hi] at e1; cases e1;rw [List.getElem?_set_self hiσ] at e2;cases e2;exact ⟨u,r,.inl ⟨hk,by simp⟩⟩
   ·rw [List.getElem?_set_ne (Ne.symm hj)] at e2;obtain ⟨u',r',q⟩:=hl j y v' e1 e2 e3;refine ⟨u',r',?_⟩;rcases q with ⟨k,e⟩ | ⟨k,c,e,z⟩
    ·refine .inl ⟨k,?_⟩;have:y≠x:=λ e=>hj (gG hN e1 (e ▸ hi));simp [this,e]
    ·exact .inr ⟨k,c,e,z.sameBut hs (cne y c e)⟩
  ·obtain ⟨w',z⟩:=I.cell y c e;exact ⟨w',z.sameBut hs (cne y c e)⟩
  ·obtain ⟨e,n,ne,nf,d⟩:=I.pin p hp;exact ⟨(hs.2 p.1 ne).trans e,n,ne,nf,d⟩
 ·have hfn:X.fn x=true:=by
   rcases hf with z | z
   ·exact z
   ·rw [z] at hk; cases hk
  obtain ⟨c,hc⟩:=I.ok.has x (.inl hk);obtain ⟨w',z⟩:=I.cell x c hc;refine wpAny_storeName_cell I.ok.kind hk hc z (λ h' hc' hs=>?_);obtain ⟨oc,hoc,hocd⟩:=id z;refine h { s with heap:=h' } ⟨I.ok,I.os,I.bare,⟨λ b o e n hb hx=>?_,λ b o e n hb hx=>?_,I.base.free,λ b o e hx=>?_,I.base.tups,I.base.frzs,I.base.tbls⟩,⟨m,hn.sameBut hs (Ne.symm (cne x c hc)),λ j y v' e1 e2 e3=>?_⟩,λ y c' e=>?_,I.free,I.freeC,λ p hp=>?_,tracked ⟨oc,hoc,I.freeC x c hc⟩ hs,by simpa using I.len⟩ ⟨c,hs,.inr hc⟩
  ·exact (hs.2 b (B8 (C0 (A8 e) (I.ok.cab x c hfn hc)))).trans (I.base.keep b o e n hb hx)
  ·obtain ⟨sl,e1⟩:=I.base.slot b o e n hb hx;exact ⟨sl,(hs.2 b (B8 (C0 (A8 e) (I.ok.cab x c hfn hc)))).trans e1⟩
  ·obtain ⟨o',e1⟩:=I.base.there b o e hx;exact ⟨o',(hs.2 b (B8 (C0 (A8 e) (I.ok.cab x c hfn hc)))).trans e1⟩
  ·by_cases hj:j=i
   ·subst hj;rw [hi] at e1; cases e1;rw [List.getElem?_set_self hiσ] at e2;cases e2;exact ⟨u,r,.inr ⟨.inl hk,c,hc,hc'⟩⟩
   ·rw [List.getElem?_set_ne (Ne.symm hj)] at e2;obtain ⟨u',r',q⟩:=hl j y v' e1 e2 e3;refine ⟨u',r',?_⟩;rcases q with q | ⟨k,c',e,z'⟩
    ·exact .inl q
    ·refine .inr ⟨k,c',e,z'.sameBut hs ?_⟩;rintro rfl;exact hj (gG hN e1 (I.ok.inj _ _ _ e hc ▸ hi))
  ·by_cases hcc:c'=c
   ·subst hcc; exact ⟨_,hc'⟩
   ·obtain ⟨w2,z2⟩:=I.cell y c' e;exact ⟨w2,z2.sameBut hs hcc⟩
  ·obtain ⟨e,n,ne,nf,d⟩:=I.pin p hp;refine ⟨(hs.2 p.1 ?_).trans e,n,ne,nf,d⟩;intro q;rw [q,hoc] at e;have q':oc=p.2:=B7 e;exact d w' (by rw [<- q']; exact hocd)
theorem cz {M:Model} {A:Around} {E:G7->G3->Prop} {i:Nat} {x:Str} {v:V} {u:G7} {Q:Unit->G3->Prop} (I:Inv X pins σ H s) (hN:X.N.Nodup) (hi:X.N[i]? = some x) (hx:Loc X.env.scope x) (r:RelV v u)
  (h:∀s',Inv X pins (σ.set i (some v)) H s'->Q () s') (hf:X.fn x=true\/X.env.scope.names.lookup x=some .local:=by first | exact .inl rfl | exact .inr rfl | assumption):wpAny M A (storeName X.env x u) Q E s :=
 io I hN hi hx r (λ s' I' _=>h s' I') hf
theorem Inv.call' {s':G3} {ch:List Addr} (I:Inv X pins σ H s) (ho:s'.os=s.os) (u:Un (frs X.stack) ch H H' s.heap s'.heap) (hok:HOk X.prog X.w H' s'.heap) (hg:AllBare s'.gens)
  (hch:∀b∈ch,(b∈X.ex\/X.s₀.heap.objs.size<=b)/\b≠X.env.locals/\(∀x c,X.env.cells.lookup x=some c->c≠b)/\∀p∈X.pn ++ pins,p.1≠b):Inv X pins σ H' s':=by
 obtain ⟨h',g',d',t',o'⟩:=s';have e:o'=s.os:=ho;subst e;exact I.call (g':=g') (t':=t') (d':=d') u hok hg hch
end
abbrev XK:=Value->Option Addr->Hp->Prop
abbrev St:=List (Option V)
abbrev VK:=V->Hp->Prop
abbrev TE:=St->Hp->VK->Prop
abbrev TT:=St->Hp->(Bool->Hp->Prop)->Prop
abbrev TA:=St->Hp->(List V->Hp->Prop)->Prop
structure Ends where
 nx:St->Hp->Prop
 rt:VK
 bk:St->Hp->Prop:=λ _ _=>False
 ct:St->Hp->Prop:=λ _ _=>False
abbrev TS:=Ends->St->Hp->Prop
def EP (X:Cx) (pins:List (Addr×Obj)) (σ:St) (Q:VK) (u:G7) (s':G3):Prop:=∃v H',Inv X pins σ H' s'/\RelV v u/\Q v H'
def TP (X:Cx) (pins:List (Addr×Obj)) (σ:St) (Q:Bool->Hp->Prop) (b:Bool) (s':G3):Prop:=∃H',Inv X pins σ H' s'/\Q b H'
def AP (X:Cx) (pins:List (Addr×Obj)) (σ:St) (Q:List V->Hp->Prop) (us:List G7) (s':G3):Prop:=∃vs H',Inv X pins σ H' s'/\Vals vs us/\Q vs H'
def SP (X:Cx) (pins:List (Addr×Obj)) (D:Ends) (f:Flow) (s':G3):Prop :=
 match f with
 | .next=>∃σ' H',Inv X pins σ' H' s'/\D.nx σ' H'
 | .brk=>∃σ' H',Inv X pins σ' H' s'/\D.bk σ' H'
 | .cont=>∃σ' H',Inv X pins σ' H' s'/\D.ct σ' H'
 | .ret u=>∃v σ' H',Inv X pins σ' H' s'/\RelV v u/\D.rt v H'
def PE (X:Cx) (e:Expr) (t:TE):Prop :=
 ∀ (pins:List (Addr×Obj)) (s:G3) (σ:St) (H:Hp) (Q:VK),Inv X pins σ H s->t σ H Q->wpAny (model X.prog X.w) X.A (eval e X.env) (EP X pins σ Q) X.xe s
def PT (X:Cx) (e:Expr) (t:TT):Prop :=
 ∀ (pins:List (Addr×Obj)) (s:G3) (σ:St) (H:Hp) (Q:Bool->Hp->Prop),Inv X pins σ H s->t σ H Q->wpAny (model X.prog X.w) X.A (isTrue e X.env (eval e X.env)) (TP X pins σ Q) X.xe s
def PW (X:Cx) (e:Expr) (t:TT):Prop :=
 ∀ (aK:Sem G7) (pins:List (Addr×Obj)) (s:G3) (σ:St) (H:Hp) (Q:Bool->Hp->Prop),Inv X pins σ H s->t σ H Q->wpAny (model X.prog X.w) X.A (isTrue e X.env aK) (TP X pins σ Q) X.xe s
theorem PW.pt {X:Cx} {e:Expr} {t:TT} (h:PW X e t):PT X e t:=h _
def PA (X:Cx) (es:List Expr) (t:TA):Prop :=
 ∀ (pos:Pos) (pins:List (Addr×Obj)) (s:G3) (σ:St) (H:Hp) (Q:List V->Hp->Prop),Inv X pins σ H s->t σ H Q->wpAny (model X.prog X.w) X.A (spliced (backTo pos (starEach es X.env))) (AP X pins σ Q) X.xe s
def PS (X:Cx) (st:Stmt) (t:TS):Prop :=
 ∀ (pins:List (Addr×Obj)) (s:G3) (σ:St) (H:Hp) (D:Ends),Inv X pins σ H s->t D σ H->wpAny (model X.prog X.w) X.A (exec st X.env) (SP X pins D) X.xe s
def PSs (X:Cx) (st:List Stmt) (t:TS):Prop :=
 ∀ (pins:List (Addr×Obj)) (s:G3) (σ:St) (H:Hp) (D:Ends),Inv X pins σ H s->t D σ H->wpAny (model X.prog X.w) X.A (execs st X.env) (SP X pins D) X.xe s
theorem thn {α:Type} {t:Sem α} {Q Q':α->G3->Prop} {M:Model} {A:Around} {E:G7->G3->Prop} {s:G3} (h:wpAny M A t Q E s) (hQ:∀a s,Q a s->Q' a s):wpAny M A t Q' E s:=wpAny_mono h hQ λ _ _ x=>x
section
variable {X:Cx}
theorem bin {a b:Expr} {ta tb:TE} (ha:PE X a ta) (hb:PE X b tb) {pins:List (Addr×Obj)} {s:G3} {σ:St} {H:Hp} {R:V->V->Hp->Prop} (I:Inv X pins σ H s) (h:ta σ H λ x H1=>tb σ H1 λ y H2=>R x y H2)
  {α:Type} {Q:α->G3->Prop} {f:G7->G7->Sem α}
  (hf:∀v u s2 x y H2,Inv X pins σ H2 s2->RelV x v->RelV y u->R x y H2->wpAny (model X.prog X.w) X.A (f v u) Q X.xe s2) :
  wpAny (model X.prog X.w) X.A (eval a X.env) (λ v s₁=>wpAny (model X.prog X.w) X.A (eval b X.env) (λ u s₂=>wpAny (model X.prog X.w) X.A (f v u) Q X.xe s₂) X.xe s₁) X.xe s:=by
 refine thn (ha pins s σ H _ I h) λ v s1 ⟨x,H1,I1,r1,q1⟩=>?_;refine thn (hb pins s1 σ H1 _ I1 q1) λ u s2 ⟨y,H2,I2,r2,q2⟩=>?_;exact hf v u s2 x y H2 I2 r1 r2 q2
inductive tVar (i:Nat) (σ:St) (H:Hp) (Q:VK):Prop
 | mk (v:V) (e_0:σ[i]? = some (some v)) (e_1:Q v H):tVar i σ H Q
def tC (v:V):TE:=λ _ H Q=>Q v H
theorem uP {i:Nat} {x:Str} {pos:Pos} (hN:X.N[i]? = some x) (hv:Vis X.env.scope x) (hd:(x == ("__debug__" : Str))=false:=by decide) (hcd:(x == ("__classdict__" : Str))=false:=by decide):PE X (.Name x pos) (tVar i):=by
 intro pins s σ H Q I h;obtain ⟨v,e,h⟩:=h;obtain ⟨m,hn,hl⟩:=I.loc;obtain ⟨u,r,l⟩:=hl i x v hN e hv;have fin:EP X pins σ Q u s:=⟨v,H,I,r,h⟩
 rcases l with ⟨hk,hm⟩ | ⟨hk,c,hc,hcell⟩
 ·exact wpAny_Name (wpAny_loadName_local I.ok.kind hk hn hm fin) hd
 ·rcases hk with hk | hk
  ·exact wpAny_Name (wpAny_loadName_cell I.ok.kind hk hc hcell fin) hd
  ·exact wpAny_Name (wpAny_loadName_free I.ok.kind hk hc hcell fin hcd) hd
theorem ae {i j pos}:PE X (.Constant (.int i) j pos) (tC (.int i)):=λ _ _ _ H _ I h=>wpAny_Constant_int ⟨.int i,H,I.tok _,⟨_,rfl⟩,h⟩
theorem aY {b j pos}:PE X (.Constant (.bool b) j pos) (tC (.bl b)):=λ _ _ _ H _ I h=>Constant_bool ⟨.bl b,H,I,rfl,h⟩
theorem fJ {j pos}:PE X (.Constant .none j pos) (tC .non):=λ _ _ _ H _ I h=>Constant_none ⟨.non,H,I,rfl,h⟩
theorem aJ {x j pos}:PE X (.Constant (.str x) j pos) (tC (.str x)):=λ _ _ _ H _ I h=>Calls.Constant_str ⟨.str x,H,I.tok _,⟨_,O⟩,h⟩
def Gl (X:Cx) (x:Str):Prop:=X.env.kindOf x=some .globalImplicit
theorem df {E:G7->G3->Prop} {pins:List (Addr×Obj)} {s:G3} {σ:St} {H:Hp} {x:Str} {u:G7} {pos:Pos} {Q:G7->G3->Prop} (I:Inv X pins σ H s) (hg:Gl X x) (hm:X.mg x=some u) (h:Q u s)
  (hd:(x == ("__debug__" : Str))=false:=by decide):wpAny (model X.prog X.w) X.A (eval (.Name x pos) X.env) Q E s :=
 Calls.Name_function_global I.ok.kind hg (Calls.loadGlobal_global (by rw [I.ok.glob]; exact I.mod.glob.keeps I.bk) hm h) hd
theorem eM {E:G7->G3->Prop} {pins:List (Addr×Obj)} {s:G3} {σ:St} {H:Hp} {x:Str} {u:G7} {pos:Pos} {Q:G7->G3->Prop} (I:Inv X pins σ H s) (hg:Gl X x) (hm:X.mg x=none) (hv:bootBuiltins x=some u) (h:Q u s)
  (hn:x ≠ "__name__" := by decide) (hd:(x == ("__debug__" : Str))=false:=by decide):wpAny (model X.prog X.w) X.A (eval (.Name x pos) X.env) Q E s:=by
 obtain ⟨mb,h1,h2⟩:=I.mod.blt;exact Calls.Name_function_global I.ok.kind hg (Calls.loadGlobal_builtin (by rw [I.ok.glob]; exact I.mod.glob.keeps I.bk) hm (by rw [I.ok.blt]; exact h1.keeps I.bk) ((h2 x hn).trans hv) h) hd
theorem aO {x:Str} {v:V} {u:G7} {pos:Pos} (hg:Gl X x) (hm:X.mg x=some u) (r:RelV v u) (hd:(x == ("__debug__" : Str))=false:=by decide):PE X (.Name x pos) (tC v) :=
 λ _ _ _ H _ I h=>df I hg hm ⟨v,H,I,r,h⟩ hd
theorem bo {x:Str} {v:V} {u:G7} {pos:Pos} (hg:Gl X x) (hm:X.mg x=none) (hv:bootBuiltins x=some u) (r:RelV v u) (hn:x ≠ "__name__" := by decide) (hd:(x == ("__debug__" : Str))=false:=by decide):PE X (.Name x pos) (tC v) :=
 λ _ _ _ H _ I h=>eM I hg hm hv ⟨v,H,I,r,h⟩ hn hd
variable {a b:Expr} {ta tb:TE} {pos:Pos}
def PC (X:Cx) (op:CmpOp) (a b:Expr) (t:TE):Prop :=
 ∀ (pins:List (Addr×Obj)) (s:G3) (σ:St) (H:Hp) (Q:VK),Inv X pins σ H s->t σ H Q ->
  wpAny (model X.prog X.w) X.A (eval a X.env) (λ v s₁=>wpAny (model X.prog X.w) X.A (eval b X.env) (λ u s₂=>wpAny (model X.prog X.w) X.A (compareOp op v u) (EP X pins σ Q) X.xe s₂) X.xe s₁) X.xe s
inductive IsB (x:V) (Q:Bool->Prop):Prop
 | mk (c:Bool) (e:x=.bl c) (q:Q c):IsB x Q
def tB (t:TE):TT:=λ σ H Q=>t σ H λ x H1=>IsB x λ c=>Q c H1
theorem FS {op:CmpOp} {t:TE} (h:PC X op a b t) (h1:behindInMarks op b=false:=by first | exact nobehind _ (by decide) (by decide) | rfl):PT X (.Compare a [op] [b] pos) (tB t):=by intro pins s σ H Q I hw;refine wpAny_isTrue_Compare1 (thn (h pins s σ H _ I hw) λ v s1 h1=>thn h1 λ u s2 h2=>thn h2 λ c s3 ⟨x,H1,I1,r1,q1⟩=>?_) h1;obtain ⟨d,rfl,q⟩:=q1;cases r1;exact E9 ⟨H1,I1,q⟩
theorem aI {e:Expr} {t:TE} (h:PE X e t) (he:∀aK,isTrue e X.env aK=(do let v<-aK; standAt e.pos; holding [v] (truthy v)):=by intro _; rfl):PT X e (tB t):=by intro pins s σ H Q I hw;refine isTrue_plain (thn (h pins s σ H _ I hw) λ v s1 ⟨x,H1,I1,r1,q1⟩=>?_) (he _);obtain ⟨d,rfl,q⟩:=q1;cases r1;exact E9 ⟨H1,I1,q⟩
variable {tA tB':TT} {rest:List Expr}
def FT (t u:TT):TT:=λ σ H Q=>t σ H λ c H1=>if c=true then u σ H1 Q else Q false H1
def tOr (t u:TT):TT:=λ σ H Q=>t σ H λ c H1=>if c=true then Q true H1 else u σ H1 Q
def FU (t:TT):TT:=λ σ H Q=>t σ H λ c H1=>Q (!c) H1
theorem gn (ha:PT X a tA):PW X (.BoolOp .And [a] pos) tA:=by
 intro wh pins s σ H Q I h;refine isTrue_and (thn (ha pins s σ H Q I h) λ c s1 e=>?_);cases c with
 | true=>exact isTrue_and_nil e
 | false=>exact e
theorem bz (ha:PT X a tA):PW X (.BoolOp .Or [a] pos) tA:=by
 intro wh pins s σ H Q I h;refine isTrue_or (thn (ha pins s σ H Q I h) λ c s1 e=>?_);cases c with
 | false=>exact isTrue_or_nil e
 | true=>exact e
theorem iS (ha:PT X a tA) (hb:PW X (.BoolOp .And (b :: rest) pos) tB'):PW X (.BoolOp .And (a :: b :: rest) pos) (FT tA tB'):=by
 intro wh pins s σ H Q I h;refine isTrue_and (thn (ha pins s σ H _ I h) λ c s1 ⟨H1,I1,q1⟩=>?_);cases c with
 | true=>exact hb wh pins s1 σ H1 Q I1 q1
 | false=>exact ⟨H1,I1,q1⟩
theorem br (ha:PT X a tA) (hb:PW X (.BoolOp .Or (b :: rest) pos) tB'):PW X (.BoolOp .Or (a :: b :: rest) pos) (tOr tA tB'):=by
 intro wh pins s σ H Q I h;refine isTrue_or (thn (ha pins s σ H _ I h) λ c s1 ⟨H1,I1,q1⟩=>?_);cases c with
 | true=>exact ⟨H1,I1,q1⟩
 | false=>exact hb wh pins s1 σ H1 Q I1 q1
theorem aS (ha:PT X a tA):PT X (.UnaryOp .Not a pos) (FU tA):=by intro pins s σ H Q I h;exact isTrue_not (ha pins s σ H (λ c H1=>Q (!c) H1) I h)
def zb (ta tb:TE):TE:=λ σ H Q=>ta σ H λ x H1=>IsB x λ c=>if c=true then tb σ H1 Q else Q (.bl false) H1
def FV (ta tb:TE):TE:=λ σ H Q=>ta σ H λ x H1=>IsB x λ c=>if c=true then Q (.bl true) H1 else tb σ H1 Q
def zc (ta:TE):TE:=λ σ H Q=>ta σ H λ x H1=>IsB x λ c=>Q (.bl (!c)) H1
theorem dg {op} {t:TE} (h:PE X a t):PE X (.BoolOp op [a] pos) t:=λ pins s σ H Q I hw=>BoolOp_one (h pins s σ H Q I hw)
theorem cA (ha:PE X a ta) (hb:PE X (.BoolOp .And (b :: rest) pos) tb):PE X (.BoolOp .And (a :: b :: rest) pos) (zb ta tb):=by
 intro pins s σ H Q I h;refine BoolOp_and (thn (ha pins s σ H _ I h) λ v s1 ⟨x,H1,I1,r1,q1⟩=>?_);obtain ⟨c,rfl,q1⟩:=q1;cases r1;refine E9 ?_;cases c with
 | true=>exact hb pins s1 σ H1 Q I1 q1
 | false=>exact ⟨.bl false,H1,I1,O,q1⟩
theorem zd (ha:PE X a ta) (hb:PE X (.BoolOp .Or (b :: rest) pos) tb):PE X (.BoolOp .Or (a :: b :: rest) pos) (FV ta tb):=by
 intro pins s σ H Q I h;refine BoolOp_or (thn (ha pins s σ H _ I h) λ v s1 ⟨x,H1,I1,r1,q1⟩=>?_);obtain ⟨c,rfl,q1⟩:=q1;cases r1;refine E9 ?_;cases c with
 | false=>exact hb pins s1 σ H1 Q I1 q1
 | true=>exact ⟨.bl true,H1,I1,O,q1⟩
theorem kB (ha:PE X a ta):PE X (.UnaryOp .Not a pos) (zc ta):=by intro pins s σ H Q I h;refine UnaryOp_ (thn (ha pins s σ H _ I h) λ v s1 ⟨x,H1,I1,r1,q1⟩=>?_);obtain ⟨c,rfl,q1⟩:=q1;cases r1;exact not_of (E9 ⟨.bl (!c),H1,I1,rfl,q1⟩)
def tIf (t:TT) (ta tb:TE):TE:=λ σ H Q=>t σ H λ c H1=>if c=true then ta σ H1 Q else tb σ H1 Q
theorem jB {c:Expr} (hc:PT X c tA) (ha:PE X a ta) (hb:PE X b tb):PE X (.IfExp c a b pos) (tIf tA ta tb):=by
 intro pins s σ H Q I h;refine wpAny_IfExp (thn (hc pins s σ H _ I h) λ d s1 ⟨H1,I1,q1⟩=>?_);cases d with
 | true=>exact ha pins s1 σ H1 Q I1 q1
 | false=>exact hb pins s1 σ H1 Q I1 q1
end
def SqL (K:C3) (H:Hp) (a:Addr) (xs:List V):Prop :=
 Rd H a (.lst xs) \/
  ∃ (o:Obj) (its:Array G7) (n:Nat),K.lookup a=some o/\o.cls=.type "list" /\ o.dict=none/\o.data=.seq its n/\its.size<=sizeLine/\Vals xs its.toList
def SqT (K:C3) (H:Hp) (a:Addr) (xs:List V):Prop :=
 Rd H a (.tup xs) \/
  ∃ (o:Obj) (its:Array G7) (n:Nat),K.lookup a=some o/\o.cls=.type "tuple" /\ o.data=.seq its n/\its.size<=sizeLine/\Vals xs its.toList
def FW:G7->Option V
 | .none=>some .non
 | .bool b=>some (.bl b)
 | .int i _=>some (.int i)
 | .str x _=>some (.str x)
 | .bytes b _=>some (.byt b)
 | .float b _=>some (.flt b)
 | .ref a=>some (.ref a)
 | .type n=>some (.ty n)
 | _=>none
theorem RelV.abs {x:V} {u:G7} (r:RelV x u):FW u=some x:=by
 cases x with
 | non=>cases r; rfl
 | bl _=>cases r; rfl
 | int _=>obtain ⟨t,rfl⟩:=r; rfl
 | str _=>obtain ⟨t,rfl⟩:=r; rfl
 | byt _=>obtain ⟨t,rfl⟩:=r; rfl
 | flt _=>obtain ⟨t,rfl⟩:=r; rfl
 | ref _=>cases r; rfl
 | ty _=>cases r; rfl
theorem RelV.inj {x y:V} {u:G7} (r:RelV x u) (q:RelV y u):x=y:=B7 (r.abs.symm.trans q.abs)
theorem Vals.inj:∀ {xs ys:List V} {us:List G7},Vals xs us->Vals ys us->xs=ys
 | _,_,_,.nil,.nil=>rfl
 | _,_,_,.cons r t,.cons r' t'=>by rw [r.inj r',Vals.inj t t']
section
variable {X:Cx} {pins:List (Addr×Obj)} {σ:St} {H:Hp} {s:G3} {a:Addr} {xs ys:List V}
theorem SqL.of {K:C3} (h:H a=some (.lst xs)):SqL K H a xs:=.inl (.inl h)
abbrev IV:=@SqL.of
theorem SqT.of {K:C3} (h:H a=some (.tup xs)):SqT K H a xs:=.inl (.inl h)
abbrev IU:=@SqT.of
theorem Inv.list (I:Inv X pins σ H s) (h:SqL X.K H a xs):∃its:List G7,Vals xs its/\PlainL s.heap a its.toArray/\xs.length<=sizeLine:=by
 rcases h with h | ⟨o,its,n,hk,hc,hd,hs,hz,r⟩
 ·obtain ⟨z,its,n,r,e⟩:=h.ok I.hok;exact ⟨its,r,⟨_,n,e,O,O,O⟩,z⟩
 ·refine ⟨its.toList,r,⟨o,n,I.kIn a o hk,hc,hd,by simpa using hs⟩,?_⟩;have e:=r.length;simp only [Array.length_toList] at e;omega
theorem Inv.tuple (I:Inv X pins σ H s) (h:SqT X.K H a xs):∃its:List G7,Vals xs its/\IsTup s.heap a its.toArray/\xs.length<=sizeLine:=by
 rcases h with h | ⟨o,its,n,hk,hc,hs,hz,r⟩
 ·obtain ⟨z,its,r,p⟩:=h.ok I.hok;exact ⟨its,r,p,z⟩
 ·refine ⟨its.toList,r,⟨o,I.kIn a o hk,hc,n,by simpa using hs⟩,?_⟩;have e:=r.length;simp only [Array.length_toList] at e;omega
theorem Inv.list_inj (I:Inv X pins σ H s) (h:SqL X.K H a xs) (h':SqL X.K H a ys):xs=ys:=by
 obtain ⟨its,r,⟨o,n,e,_,_,d⟩,_⟩:=I.list h;obtain ⟨its',r',⟨o',n',e',_,_,d'⟩,_⟩:=I.list h';rw [e] at e'; cases e';rw [d] at d';injection d' with d1 _
 have:its=its':=by simpa using congrArg Array.toList d1
 subst this;exact r.inj r'
theorem Inv.tuple_inj (I:Inv X pins σ H s) (h:SqT X.K H a xs) (h':SqT X.K H a ys):xs=ys:=by
 obtain ⟨its,r,⟨o,e,_,n,d⟩,_⟩:=I.tuple h;obtain ⟨its',r',⟨o',e',_,n',d'⟩,_⟩:=I.tuple h';rw [e] at e'; cases e';rw [d] at d';injection d' with d1 _
 have:its=its':=by simpa using congrArg Array.toList d1
 subst this;exact r.inj r'
end
abbrev Cx.wish (X:Cx) (E:G7->G3->Prop):Cx:={ X with xe:=E }
abbrev Cx.nox (X:Cx):Cx:=X.wish λ _ _=>False
theorem Cx.Ok.wish {X:Cx} (ok:X.Ok) (E:G7->G3->Prop):(X.wish E).Ok :=
 ⟨ok.mod,ok.kind,ok.glob,ok.blt,ok.above,ok.inj,ok.has,ok.cab,ok.hd,ok.frames,ok.stk,ok.exf,ok.bs,ok.bsz,ok.noex,ok.exfs,ok.funs,ok.frf⟩
theorem Cx.Ok.unwish {X:Cx} {E:G7->G3->Prop} (ok:(X.wish E).Ok):X.Ok :=
 ⟨ok.mod,ok.kind,ok.glob,ok.blt,ok.above,ok.inj,ok.has,ok.cab,ok.hd,ok.frames,ok.stk,ok.exf,ok.bs,ok.bsz,ok.noex,ok.exfs,ok.funs,ok.frf⟩
section
variable {X:Cx} {pins:List (Addr×Obj)} {σ:St} {H:Hp} {s:G3} {E:G7->G3->Prop}
theorem Inv.wish (I:Inv X pins σ H s) (E:G7->G3->Prop):Inv (X.wish E) pins σ H s:=⟨I.ok.wish E,I.os,I.bare,I.base,I.loc,I.cell,I.free,I.freeC,I.pin,I.hok,I.len⟩
theorem Inv.unwish (I:Inv (X.wish E) pins σ H s):Inv X pins σ H s:=⟨I.ok.unwish,I.os,I.bare,I.base,I.loc,I.cell,I.free,I.freeC,I.pin,I.hok,I.len⟩
theorem SP.unwish {D:Ends} {f:Flow} {s':G3} (h:SP (X.wish E) pins D f s'):SP X pins D f s':=by
 cases f with
 | next=>obtain ⟨σ',H',I,q⟩:=h; exact ⟨σ',H',I.unwish,q⟩
 | brk=>obtain ⟨σ',H',I,q⟩:=h; exact ⟨σ',H',I.unwish,q⟩
 | cont=>obtain ⟨σ',H',I,q⟩:=h; exact ⟨σ',H',I.unwish,q⟩
 | ret u=>obtain ⟨v,σ',H',I,r,q⟩:=h; exact ⟨v,σ',H',I.unwish,r,q⟩
theorem PSs.nox {st:List Stmt} {t:TS} (h:PSs X.nox st t):PSs X st t:=λ pins s σ H D I hw =>
 wpAny_mono (h pins s σ H D (I.wish _) hw) (λ _ _ q=>q.unwish) λ _ _ z=>E4 z
end
section
variable {X:Cx} {st:Stmt} {rest:List Stmt} {t u:TS} {e:Expr} {te:TE} {pos:Pos}
def ze:TS:=λ D σ H=>D.nx σ H
def rR (t u:TS):TS:=λ D σ H=>t { D with nx:=u D } σ H
theorem ar:PSs X [] ze:=λ _ _ σ H _ I h=>wpAny_execs_nil ⟨σ,H,I,h⟩
theorem af (h1:PS X st t) (h2:PSs X rest u):PSs X (st :: rest) (rR t u):=by
 intro pins s σ H D I h;refine wpAny_execs_cons (thn (h1 pins s σ H { D with nx:=u D } I h) λ f s1 q=>?_);cases f with
 | next =>
  obtain ⟨σ',H',I',q⟩:=q;exact h2 pins s1 σ' H' D I' q
 | ret v=>exact q
 | brk=>exact q
 | cont=>exact q
theorem ah (h1:PS X st t):PSs X [st] t:=by
 intro pins s σ H D I h;refine wpAny_execs_cons (thn (h1 pins s σ H D I h) λ f s1 q=>?_);cases f with
 | next=>exact wpAny_execs_nil q
 | ret v=>exact q
 | brk=>exact q
 | cont=>exact q
theorem Inv.quiet {pins:List (Addr×Obj)} {σ:St} {H:Hp} {s:G3} (I:Inv X pins σ H s):interactive X.env=false:=by simp [interactive,I.ok.kind]
def zf (te:TE):TS:=λ D σ H=>te σ H λ _ H1=>D.nx σ H1
theorem aX (he:PE X e te) (hs:swapsWith e none pos.line X.env=pure false:=by rfl):PS X (.Expr e pos) (zf te):=by intro pins s σ H D I h;exact wpAny_Expr_any (thn (he pins s σ H _ I h) λ v s1 ⟨x,H1,I1,r1,q1⟩=>⟨σ,H1,I1,q1⟩) I.quiet hs
def rS (te:TE):TS:=λ D σ H=>te σ H D.rt
theorem aq (he:PE X e te):PS X (.Return (some e) pos) (rS te):=by intro pins s σ H D I h;exact wpAny_Return_some (thn (he pins s σ H _ I h) λ v s1 ⟨x,H1,I1,r1,q1⟩=>⟨x,σ,H1,I1,r1,q1⟩)
def FX (c:TT) (t u:TS):TS:=λ D σ H=>c σ H λ b H1=>if b=true then t D σ H1 else u D σ H1
theorem aG {c:Expr} {a b:List Stmt} {tc:TT} (hc:PT X c tc) (ha:PSs X a t) (hb:PSs X b u):PS X (.If c a b pos) (FX tc t u):=by
 intro pins s σ H D I h;refine wpAny_If (thn (hc pins s σ H _ I h) λ d s1 ⟨H1,I1,q1⟩=>?_);cases d with
 | true=>exact ha pins s1 σ H1 D I1 q1
 | false=>exact hb pins s1 σ H1 D I1 q1
def pH:TS:=λ _ _ _=>False
theorem aT:PS X st pH:=λ _ _ _ _ _ _ h=>h.elim
theorem fK {sts:List Stmt}:PSs X sts pH:=λ _ _ _ _ _ _ h=>h.elim
end
abbrev TG:=V->St->Hp->(St->Hp->Prop)->Prop
abbrev TGs:=List V->St->Hp->(St->Hp->Prop)->Prop
def PG (X:Cx) (target:Expr) (t:TG):Prop :=
 ∀ (pins:List (Addr×Obj)) (s:G3) (σ:St) (H:Hp) (v:V) (u:G7) (Q:St->Hp->Prop),Inv X pins σ H s->RelV v u->t v σ H Q ->
  wpAny (model X.prog X.w) X.A (assign target X.env u) (λ _ s'=>∃σ' H',Inv X pins σ' H' s'/\Q σ' H') X.xe s
def PGs (X:Cx) (ts:List Expr) (t:TGs):Prop :=
 ∀ (pins:List (Addr×Obj)) (s:G3) (σ:St) (H:Hp) (vs:List V) (us:List G7) (Q:St->Hp->Prop),Inv X pins σ H s->Vals vs us->t vs σ H Q ->
  wpAny (model X.prog X.w) X.A (assignInOrder ((assignEach ts X.env).map (·.2)) us) (λ _ s'=>∃σ' H',Inv X pins σ' H' s'/\Q σ' H') X.xe s
abbrev pI:=V->V->V->Hp->(Hp->Prop)->Prop
def uQ (X:Cx) (t:pI):Prop :=
 ∀ (pins:List (Addr×Obj)) (s:G3) (σ:St) (H:Hp) (o i v:V) (ov iv u:G7) (Q:Hp->Prop),Inv X pins σ H s->RelV o ov->RelV i iv->RelV v u->t o i v H Q ->
  wpAny (model X.prog X.w) X.A (setItem ov iv u) (λ _ s'=>∃H',Inv X pins σ H' s'/\Q H') X.xe s
abbrev TIp:=V->V->Hp->VK->Prop
def PIp (X:Cx) (op:Operator) (t:TIp):Prop :=
 ∀ (pins:List (Addr×Obj)) (s:G3) (σ:St) (H:Hp) (x y:V) (v u:G7) (Q:VK),Inv X pins σ H s->RelV x v->RelV y u->t x y H Q ->
  wpAny (model X.prog X.w) X.A (inplaceOp op v u) (EP X pins σ Q) X.xe s
section
variable {X:Cx} {pos:Pos}
def cO (i:Nat):TG:=λ v σ H Q=>Q (σ.set i (some v)) H
theorem aj {i:Nat} {x:Str} (hN:X.N.Nodup) (hi:X.N[i]? = some x) (hx:Loc X.env.scope x) (hf:X.fn x=true\/X.env.scope.names.lookup x=some .local:=by first | exact .inl rfl | exact .inr rfl | assumption):PG X (.Name x pos) (cO i):=by intro pins s σ H v u Q I r h;exact wpAny_assign_Name (cz I hN hi hx r (λ s' I'=>⟨_,H,I',h⟩) hf)
def rT:TGs:=λ vs σ H Q=>vs=[]/\Q σ H
inductive gCons (t:TG) (u:TGs) (vs:List V) (σ:St) (H:Hp) (Q:St->Hp->Prop):Prop
 | mk (v:V) (r:List V) (e_0:vs=v :: r) (e_1:t v σ H λ σ' H'=>u r σ' H' Q):gCons t u vs σ H Q
theorem aU:PGs X [] rT:=by intro pins s σ H vs us Q I r h;obtain ⟨e,h⟩:=h;subst e;cases r;exact assignInOrder_nil ⟨σ,H,I,h⟩
theorem ai {e:Expr} {es:List Expr} {t:TG} {u:TGs} (h1:PG X e t) (h2:PGs X es u)
  (hs:(assignEach (e :: es) X.env).map (·.2)=assign e X.env :: (assignEach es X.env).map (·.2):=by rfl):PGs X (e :: es) (gCons t u):=by
 intro pins s σ H vs us Q I r h;obtain ⟨v,vr,e1,h⟩:=h;subst e1;cases r with
 | cons r rr =>
  rw [hs];refine assignInOrder_cons (thn (h1 pins s σ H _ _ _ I r h) λ _ s1 ⟨σ1,H1,I1,q1⟩=>?_);exact h2 pins s1 σ1 H1 _ _ Q I1 rr q1
inductive gTup (K:C3) (n:Nat) (t:TGs) (v:V) (σ:St) (H:Hp) (Q:St->Hp->Prop):Prop
 | mk (a:Addr) (xs:List V) (e_0:v=.ref a) (e_1:SqT K H a xs) (e_2:xs.length=n) (e_3:t xs σ H Q):gTup K n t v σ H Q
theorem bq {es:List Expr} {k:Nat} {t:TGs} {n:Nat} (hc:X.calm=true) (h:PGs X es t)
  (hn:(assignEach es X.env).length=n:=by rfl) (hst:(assignEach es X.env).findIdx? (·.1)=none:=by rfl):PG X (.Tuple es k pos) (gTup X.K n t):=by
 intro pins s σ H v u Q I r hw;obtain ⟨a,xs,e1,hq,hl,hw⟩:=hw;subst e1;cases r;obtain ⟨its,rv,ht,hz⟩:=I.tuple hq;refine assign_Tuple_tuple (I.ok.hd hc) ht (by simp [hn,<- hl,rv.length]) hst λ h' hx=>?_;have I1:Inv X pins σ H { s with heap:=h' }:=I.kept (t':=s.toks) λ b o e=>hx b o (B8 (A8 e)) e;exact h pins _ σ H xs _ Q I1 (by simpa using rv) hw
def FY (to ti:TE) (t:pI):TG:=λ v σ H Q=>to σ H λ o H1=>ti σ H1 λ i H2=>t o i v H2 λ H3=>Q σ H3
theorem iT {o i:Expr} {to ti:TE} {t:pI} (ho:PE X o to) (hi:PE X i ti) (hs:uQ X t)
  (ha:∀v,assign (.Subscript o i pos) X.env v=(do
   let ov<-holding [v] (eval o X.env)
   let iv<-holding [v,ov] (eval i X.env)
   standAt pos
   holding [v,ov,iv] (setItem ov iv v)
   release [v,ov,iv] []):=by intro _; rfl):PG X (.Subscript o i pos) (FY to ti t):=by
 intro pins s σ H v u Q I r h;rw [ha];refine A0 (wpAny_holding (thn (ho pins s σ H _ I h) λ ov s1 ⟨x,H1,I1,r1,q1⟩=>?_));refine A0 (wpAny_holding (thn (hi pins s1 σ H1 _ I1 q1) λ iv s2 ⟨y,H2,I2,r2,q2⟩=>?_));refine A0 (wpAny_standAt (A0 (wpAny_holding (thn (hs pins s2 σ H2 x y v ov iv u _ I2 r1 r2 r q2) λ _ s3 ⟨H3,I3,q3⟩=>?_))));exact wpAny_release ⟨σ,H3,I3,q3⟩
def uR (te:TE) (g:TG):TS:=λ D σ H=>te σ H λ x H1=>g x σ H1 D.nx
theorem bJ {tg e:Expr} {te:TE} {g:TG} (he:PE X e te) (hg:PG X tg g) (hs:swapsWithSole [tg] e pos.line X.env=pure false:=by rfl) (hw:swappedStores [tg] e X.env=pure none:=by rfl)
  (h1:(assignEach [tg] X.env).map (·.2)=[assign tg X.env]:=by rfl):PS X (.Assign [tg] e pos) (uR te g):=by
 intro pins s σ H D I h;refine wpAny_Assign_stores (thn (he pins s σ H _ I h) λ v s1 ⟨x,H1,I1,r1,q1⟩=>?_) hs hw;rw [h1];exact thn (hg pins s1 σ H1 x v _ I1 r1 q1) λ _ s2 q=>q
theorem aB {i:Nat} {x:Str} {e:Expr} {te:TE} {pos':Pos} (hN:X.N.Nodup) (hi:X.N[i]? = some x) (hx:Loc X.env.scope x) (he:PE X e te) (hs:swapsWith e (some (.Name x pos')) pos.line X.env=pure false:=by rfl) (hf:X.fn x=true\/X.env.scope.names.lookup x=some .local:=by first | exact .inl rfl | exact .inr rfl | assumption) :
  PS X (.Assign [.Name x pos'] e pos) (uR te (cO i)):=by
 intro pins s σ H D I h;refine wpAny_Assign_Name (thn (he pins s σ H _ I h) λ v s1 ⟨y,H1,I1,r1,q1⟩=>?_) hs;exact cz I1 hN hi hx r1 (λ s2 I2=>⟨_,H1,I2,q1⟩) hf
def FZ (i:Nat) (te:TE) (ti:TIp):TS:=λ D σ H=>∃x,σ[i]? = some (some x)/\te σ H λ y H1=>ti x y H1 λ z H2=>D.nx (σ.set i (some z)) H2
theorem kC {i:Nat} {x:Str} {e:Expr} {te:TE} {op:Operator} {ti:TIp} {pos':Pos} (hN:X.N.Nodup) (hi:X.N[i]? = some x) (hx:Loc X.env.scope x) (he:PE X e te) (ho:PIp X op ti) (hf:X.fn x=true\/X.env.scope.names.lookup x=some .local:=by first | exact .inl rfl | exact .inr rfl | assumption) :
  PS X (.AugAssign (.Name x pos') op e pos) (FZ i te ti):=by
 intro pins s σ H D I h;obtain ⟨v,e1,h⟩:=h;obtain ⟨m,hn,hl⟩:=I.loc;have vis:Vis X.env.scope x:=by rcases hx with k | k; exact .inl k; exact .inr (.inl k)
 obtain ⟨u,r,l⟩:=hl i x v hi e1 vis;refine wpAny_AugAssign_Name ?_;have go:wpAny (model X.prog X.w) X.A (eval e X.env) (λ w s₂=>wpAny (model X.prog X.w) X.A (inplaceOp op u w) (λ r s₃=>wpAny (model X.prog X.w) X.A (storeName X.env x r) (λ _=>SP X pins D .next) X.xe s₃) X.xe s₂) X.xe s:=by refine thn (he pins s σ H _ I h) λ w s1 ⟨y,H1,I1,r1,q1⟩=>?_;refine thn (ho pins s1 σ H1 v y u w _ I1 r r1 q1) λ z s2 ⟨zv,H2,I2,r2,q2⟩=>?_;exact cz I2 hN hi hx r2 (λ s3 I3=>⟨_,H2,I3,q2⟩) hf
 rcases l with ⟨hk,hm⟩ | ⟨hk,c,hc,hcell⟩
 ·exact wpAny_loadName_local I.ok.kind hk hn hm go
 ·rcases hk with hk | hk
  ·exact wpAny_loadName_cell I.ok.kind hk hc hcell go
  ·rcases hx with k | k
   ·have:X.env.scope.names.lookup x=some .free:=hk;rw [k] at this; cases this
   ·have:X.env.scope.names.lookup x=some .free:=hk;rw [k] at this; cases this
def zg (to ti te:TE) (tget:V->V->Hp->VK->Prop) (tip:TIp) (tset:pI):TS:=λ D σ H=>to σ H λ o H1=>ti σ H1 λ i H2=>tget o i H2 λ x H3=>te σ H3 λ y H4=>tip x y H4 λ z H5=>tset o i z H5 λ H6=>D.nx σ H6
def zh (X:Cx) (t:V->V->Hp->VK->Prop):Prop :=
 ∀ (pins:List (Addr×Obj)) (s:G3) (σ:St) (H:Hp) (o i:V) (ov iv:G7) (Q:VK),Inv X pins σ H s->RelV o ov->RelV i iv->t o i H Q ->
  wpAny (model X.prog X.w) X.A (getItem ov iv) (EP X pins σ Q) X.xe s
theorem rV {o i e:Expr} {to ti te:TE} {tget:V->V->Hp->VK->Prop} {tip:TIp} {tset:pI} {op:Operator} {tpos:Pos} (ho:PE X o to) (hi:PE X i ti) (hg:zh X tget) (he:PE X e te) (hp:PIp X op tip) (hs:uQ X tset)
  (ha:∀ov iv new,augStore i ov iv new=(do holding [new,ov,iv] (setItem ov iv new); release [new,ov,iv] []; pure .next):=by intros; rfl):PS X (.AugAssign (.Subscript o i tpos) op e pos) (zg to ti te tget tip tset):=by
 intro pins s σ H D I h;refine wpAny_AugAssign_SubscriptAny (thn (ho pins s σ H _ I h) λ ov s1 ⟨x1,H1,I1,r1,q1⟩=>?_) ha;refine thn (hi pins s1 σ H1 _ I1 q1) λ iv s2 ⟨x2,H2,I2,r2,q2⟩=>?_;refine thn (hg pins s2 σ H2 x1 x2 ov iv _ I2 r1 r2 q2) λ old s3 ⟨x3,H3,I3,r3,q3⟩=>?_;refine thn (he pins s3 σ H3 _ I3 q3) λ v s4 ⟨x4,H4,I4,r4,q4⟩=>?_;refine thn (hp pins s4 σ H4 x3 x4 old v _ I4 r3 r4 q4) λ new s5 ⟨x5,H5,I5,r5,q5⟩=>?_;exact thn (hs pins s5 σ H5 x1 x2 x5 ov iv new _ I5 r1 r2 r5 q5) λ _ s6 ⟨H6,I6,q6⟩=>⟨σ,H6,I6,q6⟩
def ipI (f:Int->Int->Int):TIp:=λ x y H Q=>∃i j,x=.int i/\y=.int j/\Q (.int (f i j)) H
theorem iU:PIp X .Add (ipI λ i j=>i + j):=by intro pins s σ H x y v u Q I r1 r2 h;obtain ⟨i,j,e1,e2,q⟩:=h;subst e1; subst e2;obtain ⟨t,rfl⟩:=r1;obtain ⟨t',rfl⟩:=r2;exact iadd_int ⟨.int _,H,I.tok _,⟨_,rfl⟩,q⟩
end
section
variable {X:Cx} {pos:Pos}
def uS (c:TT) (tb:TS):TS:=λ D σ H=>∃W:Nat->St->Hp->Prop,(∃m,W m σ H)/\∀m σ H,W m σ H ->
 c σ H λ b H1=>if b=true then ∃N:St->Hp->Prop,(∀σ' H',N σ' H'->∃m',m' < m/\W m' σ' H')/\tb { D with nx:=N,ct:=N,bk:=D.nx } σ H1 else D.nx σ H1
theorem jC {c:Expr} {body:List Stmt} {tc:TT} {tb:TS} (hp:PassesOwn (model X.prog X.w) X.A X.env X.xe) (hc:PT X c tc) (hb:PSs X body tb):PS X (.While c body [] pos) (uS tc tb):=by
 intro pins s σ H D I h;obtain ⟨W,⟨m0,w0⟩,turn⟩:=h;refine wpAny_While (codeAny_whileLoop (λ n s'=>∃σ' H',Inv X pins σ' H' s'/\W n σ' H') ?_ m0 ⟨σ,H,I,w0⟩);rintro n s1 ⟨σ1,H1,I1,w1⟩;refine wpAny_passesOwn hp (thn (hc pins s1 σ1 H1 _ I1 (turn n σ1 H1 w1)) λ b s2 ⟨H2,I2,q2⟩=>?_);cases b with
 | true =>
  obtain ⟨N,hN,q2⟩:=q2;rw [if_pos rfl];refine wpAny_passesOwn hp (thn (hb pins s2 σ1 H2 _ I2 q2) λ f s3 q3=>?_);cases f with
  | next =>
   obtain ⟨σ3,H3,I3,n3⟩:=q3;obtain ⟨m',hm,w3⟩:=hN σ3 H3 n3;exact ⟨m',hm,σ3,H3,I3,w3⟩
  | cont =>
   obtain ⟨σ3,H3,I3,n3⟩:=q3;obtain ⟨m',hm,w3⟩:=hN σ3 H3 n3;exact ⟨m',hm,σ3,H3,I3,w3⟩
  | brk=>exact q3
  | ret v=>exact q3
 | false =>
  rw [if_neg Bool.false_ne_true];exact wpAny_execs_nil ⟨σ1,H2,I2,q2⟩
end
structure It where
 go:Nat->Hp->Prop
 yld:Nat->Hp->V->Hp->Prop
 stop:Nat->Hp->Prop
def fL (X:Cx) (pins:List (Addr×Obj)) (H:Hp) (b:Addr):Prop :=
 H b=none/\b≠X.env.locals/\b∉X.fs/\(b∈X.ex\/X.s₀.heap.objs.size<=b)/\(∀x c,X.env.cells.lookup x=some c->c≠b)/\∀p∈X.pn ++ pins,p.1≠b
theorem Inv.fpOk {X:Cx} {pins:List (Addr×Obj)} {σ:St} {H H':Hp} {s:G3} {b:Addr} (I:Inv X pins σ H s) (hb:s.heap.objs.size<=b) (hn:H' b=none):fL X pins H' b:=by
 refine ⟨hn,Nat.ne_of_gt (C0 I.lt hb),I.nofs hb,.inr (C4 I.sz hb),λ x c e z=>?_,λ p hp z=>?_⟩
 ·obtain ⟨v,q⟩:=I.cell x c e;exact absurd (C0 q.lt (by rw [z]; exact hb)) (C7 _)
 ·exact absurd (C0 (A8 (I.pin p hp).1) (by rw [z]; exact hb)) (C7 _)
structure Turn (P:Program) (w:World) (K:C3) (tg:Expr) (J:It) (fp:List Addr) (it:Addr) (tn:Nat->Heap->Prop):Prop where
 mem:it∈fp
 obj:∀i h,tn i h->∀b∈fp,∃o,h.get? b=some o/\∀v,o.data≠.cell v
 keep:∀i h h',tn i h->(∀b∈fp,∀o,h.get? b=some o->h'.get? b=some o)->tn i h'
 item:∀ (X:Cx),X.prog=P->X.w=w->X.K=K->X.calm=true->∀ (i:Nat) (pins:List (Addr×Obj)) (s:G3) (σ:St) (H:Hp) (E:G7->G3->Prop),Inv X pins σ H s->(∀b∈fp,fL X pins H b)->tn i s.heap->J.go i H ->
  wpAny (model P w) X.A (pyNext (.ref it)) (λ r s1=>∃u,r=some u /\
   wpAny (model P w) X.A (letOwnedTupleGo tg (.ref it) u) (λ _ s2=>∃x H',Inv X pins σ H' s2/\RelV x u/\J.yld i H x H'/\tn (i + 1) s2.heap/\∀b∈fp,H' b=none) E s1) E s
 done:∀ (X:Cx),X.prog=P->X.w=w->X.K=K->X.calm=true->∀ (i:Nat) (pins:List (Addr×Obj)) (s:G3) (σ:St) (H:Hp) (E:G7->G3->Prop),Inv X pins σ H s->(∀b∈fp,fL X pins H b)->tn i s.heap->J.stop i H ->
  wpAny (model P w) X.A (pyNext (.ref it)) (λ r s1=>r=none/\Inv X pins σ H s1) E s
 self:∀ (A:Around) (i:Nat) (s:G3) (Q:G7->G3->Prop) (E:G7->G3->Prop),tn i s.heap->Q (.ref it) s->wpAny (model P w) A (pyIter (.ref it)) Q E s
abbrev TI:=St->Hp->(It->Hp->Prop)->Prop
def PIE (X:Cx) (pins:List (Addr×Obj)) (σ:St) (tg:Expr) (R:It->Hp->Prop) (itv:G7) (s2:G3):Prop :=
 ∃ (it:Addr) (fp:List Addr) (tn:Nat->Heap->Prop) (J:It) (H':Hp),itv=.ref it/\Inv X pins σ H' s2/\Turn X.prog X.w X.K tg J fp it tn/\tn 0 s2.heap/\(∀b∈fp,fL X pins H' b)/\R J H'
def PI (X:Cx) (tg iter:Expr) (wi:TI):Prop :=
 ∀ (pins:List (Addr×Obj)) (s:G3) (σ:St) (H:Hp) (R:It->Hp->Prop),Inv X pins σ H s->wi σ H R ->
  wpAny (model X.prog X.w) X.A (eval iter X.env) (λ v s1=>wpAny (model X.prog X.w) X.A (pyIter v) (PIE X pins σ tg R) X.xe s1) X.xe s
theorem pJ {M:Model} {A:Around} {E:G7->G3->Prop} {s:G3} {tg:Expr} {it:Addr} {u:G7} {o:Obj} {n:String} {vs:Array G7} {Q:Unit->G3->Prop} (ho:s.heap.get? it=some o) (hc:o.cls=.type n) (hd:o.data=.fields vs)
    (hn:["enumerate","zip","dict_itemiterator","dict_reverseitemiterator","odict_iterator","itertools.zip_longest","itertools.pairwise"].contains n=false) (hQ:Q () s):wpAny M A (letOwnedTupleGo tg (.ref it) u) Q E s:=by
  unfold letOwnedTupleGo;cases tg <;> first
    | exact A1 hQ
    | (cases u <;> first
        | exact A1 hQ
        | (refine A0 (wpAny_load ho ?_)
           rw [hc,hd];show wpAny M A (if (["enumerate","zip","dict_itemiterator","dict_reverseitemiterator","odict_iterator","itertools.zip_longest","itertools.pairwise"].contains n && vs[0]? == some (rawInt _))=true then _ else _) Q E s;rw [if_neg (by intro h; rw [hn,Bool.false_and] at h; cases h)];exact A1 hQ))
def Itl (K:C3) (a:Addr):It :=
 ⟨λ i H=>∃xs x,SqL K H a xs/\xs[i]? = some x,λ i H x H'=>H'=H/\∀xs,SqL K H a xs->xs[i]? = some x,λ i H=>∃xs,SqL K H a xs/\xs.length<=i⟩
def Itt (K:C3) (a:Addr):It :=
 ⟨λ i H=>∃xs x,SqT K H a xs/\xs[i]? = some x,λ i H x H'=>H'=H/\∀xs,SqT K H a xs->xs[i]? = some x,λ i H=>∃xs,SqT K H a xs/\xs.length<=i⟩
def Itr (lo:Int) (n:Nat):It:=⟨λ i _=>i < n,λ i H x H'=>H'=H/\x=.int (lo + i),λ i _=>n<=i⟩
theorem nq {P:G4} {w:G6} {K:C3} {tg:Expr} (a it:Addr):Turn P w K tg (Itl K a) [it] it (λ i h=>h.IsListIter it a i) where
 mem:=by simp
 obj:=λ i h st b hb=>by
  have e:b=it:=by simpa using hb
  subst e;obtain ⟨o,e,c,d⟩:=st;exact ⟨o,e,λ v z=>by rw [d] at z; cases z⟩
 keep:=λ i h h' st k=>st.at λ o e=>k it (by simp) o e
 item:=by intro X hP hw hK hc i pins s σ H E I hf st hg;subst hP hw hK;obtain ⟨xs,x,hq,hx⟩:=hg;obtain ⟨its,rv,p,hz⟩:=I.list hq;obtain ⟨u,hu,ru⟩:=rv.get hx;obtain ⟨f0,f1,f2,f3,f4,f5⟩:=hf it (by simp);refine wpAny_pyNext_list_item st p.isList (x:=u) (by simpa using hu) λ h' st' sb=>?_;have I1:Inv X pins σ H { s with heap:=h' }:=I.turned (t':=s.toks) (λ b o hb e=>(sb.2 b hb).trans e) f0 f1 f3 f4 f5;obtain ⟨o,e,c,d⟩:=id st';exact ⟨u,O,pJ (s:={ s with heap:=h' }) e c d (by decide) ⟨x,H,I1,ru,⟨O,λ ys hy=>by rw [I.list_inj hy hq]; exact hx⟩,st',λ b hb=>(hf b hb).1⟩⟩
 done:=by intro X hP hw hK hc i pins s σ H E I hf st hg;subst hP hw hK;obtain ⟨xs,hq,hx⟩:=hg;obtain ⟨its,rv,p,hz⟩:=I.list hq;obtain ⟨f0,f1,f2,f3,f4,f5⟩:=hf it (by simp);have hl:=rv.length;exact wpAny_pyNext_list_end (I.ok.hd hc) st p.isList (by simp; omega) λ h' eb=>⟨O,I.turned (t':=s.toks) (λ b o hb e=>eb b o hb e) f0 f1 f3 f4 f5⟩
 self:=λ _ _ _ _ _ st h=>wpAny_pyIter_listiter st h
theorem kD {P:G4} {w:G6} {K:C3} {tg:Expr} (a it:Addr):Turn P w K tg (Itt K a) [it] it (λ i h=>h.IsTupleIter it a i) where
 mem:=by simp
 obj:=λ i h st b hb=>by
  have e:b=it:=by simpa using hb
  subst e;obtain ⟨o,e,c,d⟩:=st;exact ⟨o,e,λ v z=>by rw [d] at z; cases z⟩
 keep:=λ i h h' st k=>st.at λ o e=>k it (by simp) o e
 item:=by intro X hP hw hK hc i pins s σ H E I hf st hg;subst hP hw hK;obtain ⟨xs,x,hq,hx⟩:=hg;obtain ⟨its,rv,p,hz⟩:=I.tuple hq;obtain ⟨u,hu,ru⟩:=rv.get hx;obtain ⟨f0,f1,f2,f3,f4,f5⟩:=hf it (by simp);refine wpAny_pyNext_tuple_item st (show s.heap.IsTuple a its.toArray from p) (x:=u) (by simpa using hu) λ h' st' sb=>?_;have I1:Inv X pins σ H { s with heap:=h' }:=I.turned (t':=s.toks) (λ b o hb e=>(sb.2 b hb).trans e) f0 f1 f3 f4 f5;obtain ⟨o,e,c,d⟩:=id st';exact ⟨u,O,pJ (s:={ s with heap:=h' }) e c d (by decide) ⟨x,H,I1,ru,⟨O,λ ys hy=>by rw [I.tuple_inj hy hq]; exact hx⟩,st',λ b hb=>(hf b hb).1⟩⟩
 done:=by intro X hP hw hK hc i pins s σ H E I hf st hg;subst hP hw hK;obtain ⟨xs,hq,hx⟩:=hg;obtain ⟨its,rv,p,hz⟩:=I.tuple hq;obtain ⟨f0,f1,f2,f3,f4,f5⟩:=hf it (by simp);have hl:=rv.length;exact wpAny_pyNext_tuple_end (I.ok.hd hc) st (show s.heap.IsTuple a its.toArray from p) (by simp; omega) λ h' eb=>⟨O,I.turned (t':=s.toks) (λ b o hb e=>eb b o hb e) f0 f1 f3 f4 f5⟩
 self:=λ _ _ _ _ _ st h=>wpAny_pyIter_tupleiter st h
theorem kF {P:G4} {w:G6} {K:C3} {tg:Expr} (it:Addr) (lo:Int) (n:Nat):Turn P w K tg (Itr lo n) [it] it (λ i h=>IsRangeIter h it (lo + (i:Nat) * 1) ((n:Int) - (i:Nat)) 1) where
 mem:=by simp
 obj:=λ i h st b hb=>by
  have e:b=it:=by simpa using hb
  subst e;exact ⟨_,st,λ v z=>by
   have z':Data.fields _=Data.cell v:=z;cases z'⟩
 keep:=λ i h h' st k=>k it (by simp) _ st
 item:=by intro X hP hw hK hc i pins s σ H E I hf st hg;subst hP hw hK;obtain ⟨f0,f1,f2,f3,f4,f5⟩:=hf it (by simp);have W:=Walks.range (prog:=X.prog) (w:=X.w) (I.ok.hd hc) it lo 1 n;refine W.item i s _ _ hg st λ v h' tk hv st' kk=>?_;obtain ⟨t,rfl⟩:=hv;have I1:Inv X pins σ H { s with heap:=h',toks:=tk }:=I.turned (λ b o hb e=>kk b o (by simpa using hb) e) f0 f1 f3 f4 f5;refine ⟨_, O, pJ (s:={ s with heap:=h', toks:=tk }) (n := "range_iterator") st' rfl rfl (by decide) ⟨.int (lo + i), H, I1, ⟨t, ?_⟩, ⟨O, O⟩, st', λ b hb=>(hf b hb).1⟩⟩;rw [Int.mul_one]
 done:=by intro X hP hw hK hc i pins s σ H E I hf st hg;subst hP hw hK;obtain ⟨f0,f1,f2,f3,f4,f5⟩:=hf it (by simp);exact wpAny_pyNext_range_end (I.ok.hd hc) st (by have:n<=i:=hg; omega) λ h' eb=>⟨O,I.turned (t':=s.toks) (λ b o hb e=>eb b o hb e) f0 f1 f3 f4 f5⟩
 self:=λ _ _ _ _ _ st h=>wpAny_pyIter_rangeiter st h
section
variable {X:Cx} {tg:Expr}
inductive iListA (K:C3) (R:It->Hp->Prop) (x:V) (H1:Hp):Prop
 | mk (a:Addr) (e_0:x=.ref a) (e_1:(∃xs,SqL K H1 a xs)) (e_2:R (Itl K a) H1):iListA K R x H1
def uC (K:C3) (tl:TE):TI:=λ σ H R=>tl σ H λ x H1=>iListA K R x H1
inductive iTupA (K:C3) (R:It->Hp->Prop) (x:V) (H1:Hp):Prop
 | mk (a:Addr) (e_0:x=.ref a) (e_1:(∃xs,SqT K H1 a xs)) (e_2:R (Itt K a) H1):iTupA K R x H1
def zi (K:C3) (tl:TE):TI:=λ σ H R=>tl σ H λ x H1=>iTupA K R x H1
theorem cj {l:Expr} {tl:TE} (hl:PE X l tl):PI X tg l (uC X.K tl):=by
 intro pins s σ H R I h;refine thn (hl pins s σ H _ I h) λ v s1 ⟨x,H1,I1,r1,q1⟩=>?_;obtain ⟨a,e,⟨xs,hq⟩,q⟩:=q1;subst e;cases r1;obtain ⟨its,rv,p,hz⟩:=I1.list hq;refine wpAny_pyIter_list p.isList ?_;refine ⟨s1.heap.objs.size,[s1.heap.objs.size],_,_,H1,O,I1.kept (t':=s1.toks) λ b o e=>A6 _ e,nq a _,⟨_,A7 _ rfl,O,O⟩,λ b hb=>?_,q⟩;have e:b=s1.heap.objs.size:=by simpa using hb
 subst e;exact I1.fpOk (B2 _) (I1.hok.fresh (B2 _))
theorem iV {l:Expr} {tl:TE} (hl:PE X l tl):PI X tg l (zi X.K tl):=by
 intro pins s σ H R I h;refine thn (hl pins s σ H _ I h) λ v s1 ⟨x,H1,I1,r1,q1⟩=>?_;obtain ⟨a,e,⟨xs,hq⟩,q⟩:=q1;subst e;cases r1;obtain ⟨its,rv,p,hz⟩:=I1.tuple hq;refine wpAny_pyIter_tuple (show s1.heap.IsTuple a its.toArray from p) ?_;refine ⟨s1.heap.objs.size,[s1.heap.objs.size],_,_,H1,O,I1.kept (t':=s1.toks) λ b o e=>A6 _ e,kD a _,⟨_,A7 _ rfl,O,O⟩,λ b hb=>?_,q⟩;have e:b=s1.heap.objs.size:=by simpa using hb
 subst e;exact I1.fpOk (B2 _) (I1.hok.fresh (B2 _))
theorem jD {pins:List (Addr×Obj)} {σ:St} {H:Hp} {s:G3} {R:It->Hp->Prop} {E:G7->G3->Prop} {lo hi:Int} {t u v:Tok} {tk:Nat} (I:Inv X pins σ H s) (h1:-(2 ^ 62)<=lo) (h2:lo < 2 ^ 62) (h3:-(2 ^ 62)<=hi) (h4:hi < 2 ^ 62)
  (q:R (Itr lo (hi - lo).toNat) H):wpAny (model X.prog X.w) X.A (pyIter (.ref s.heap.objs.size)) (PIE X pins σ tg R) E { s with heap:=s.heap.push { cls:=.type "range",data:=.fields #[.int lo t,.int hi u,.int 1 v] },toks:=tk }:=by
 refine wpAny_pyIter_range (IsRange.new ..) (small_one h1 h2 h3 h4) ?_;have I1:Inv X pins σ H { s with heap:=s.heap.push { cls:=.type "range",data:=.fields #[.int lo t,.int hi u,.int 1 v] },toks:=tk }:=I.kept λ b o e=>A6 _ e;refine ⟨(s.heap.push { cls:=.type "range",data:=.fields #[.int lo t,.int hi u,.int 1 v] }).objs.size,[(s.heap.push { cls:=.type "range",data:=.fields #[.int lo t,.int hi u,.int 1 v] }).objs.size],_,_,H,O,
  I1.kept (t':=tk) λ b o e=>A6 _ e,kF _ lo (hi - lo).toNat,?_,λ b hb=>?_,q⟩
 ·have e1:lo + ((0:Nat):Int) * 1=lo:=by simp
  have e2:(((hi - lo).toNat:Nat):Int) - ((0:Nat):Int)=Builtin.Range.rangeSize lo hi 1:=by rw [rangeSize_one]; split <;> omega
  show IsRangeIter _ _ (lo + ((0:Nat):Int) * 1) ((((hi - lo).toNat:Nat):Int) - ((0:Nat):Int)) 1;rw [e1,e2];exact A7 _ rfl
 ·have e:b=(s.heap.push { cls:=.type "range",data:=.fields #[.int lo t,.int hi u,.int 1 v] }).objs.size:=by simpa using hb
  subst e;exact I1.fpOk (B2 _) (I1.hok.fresh (B2 _))
def zj (ta:TA):TI:=λ σ H R=>ta σ H λ vs H1=>∃j:Int,vs=[.int j]/\-(2 ^ 62)<=j/\j < 2 ^ 62/\R (Itr 0 j.toNat) H1
def zk (ta:TA):TI:=λ σ H R=>ta σ H λ vs H1=>∃i j:Int,vs=[.int i,.int j]/\(-(2 ^ 62)<=i/\i < 2 ^ 62/\-(2 ^ 62)<=j/\j < 2 ^ 62)/\R (Itr i (j - i).toNat) H1
theorem eh {a:Expr} {ta:TA} {p pos:Pos} (hg:Gl X "range") (hm:X.mg "range" = none) (ha:PA X [a] ta) (hs:starEach [a] X.env=[(false,eval a X.env)]:=by rfl):PI X tg (.Call (.Name "range" p) [a] [] pos) (zj ta):=by
 intro pins s σ H R I h;refine Call_ (eM I hg hm boot_range (PyProof.Rows.callWith_type1 (thn (ha pos pins s σ H _ I h) λ us s1 ⟨vs,H1,I1,r1,q1⟩=>?_) hs rfl));obtain ⟨j,e,q1,q2,q⟩:=q1;subst e;cases r1 with
 | cons r rr =>
  cases rr;obtain ⟨t,rfl⟩:=r;exact call_range_1 (jD I1 (by omega) (by omega) q1 q2 (by simpa using q))
theorem nr {a b:Expr} {ta:TA} {p pos:Pos} (hg:Gl X "range") (hm:X.mg "range" = none) (ha:PA X [a,b] ta) (hs:starEach [a,b] X.env=[(false,eval a X.env),(false,eval b X.env)]:=by rfl) (hs2:starEach [b] X.env=[(false,eval b X.env)]:=by rfl) :
  PI X tg (.Call (.Name "range" p) [a,b] [] pos) (zk ta):=by
 intro pins s σ H R I h;refine Call_ (eM I hg hm boot_range (PyProof.Rows.callWith_type1 (thn (ha pos pins s σ H _ I h) λ us s1 ⟨vs,H1,I1,r1,q1⟩=>?_) (by rw [hs,hs2]) (by rw [hs2]; rfl)));obtain ⟨i,j,e,⟨q1,q2,q3,q4⟩,q⟩:=q1;subst e;cases r1 with
 | cons r rr =>
  cases rr with
  | cons r' rr =>
   cases rr;obtain ⟨t,rfl⟩:=r;obtain ⟨t',rfl⟩:=r';exact call_range_2 (jD I1 q1 q2 q3 q4 q)
def zm (wi:TI) (g:TG) (tb:TS):TS:=λ D σ H=>wi σ H λ J H1=>∃W:Nat->Nat->St->Hp->Prop,(∃m,W 0 m σ H1)/\∀i m σ H,W i m σ H ->
 (J.stop i H/\D.nx σ H)\/(J.go i H/\∃N:St->Hp->Prop,(∀σ' H',N σ' H'->∃m',m' < m/\W (i + 1) m' σ' H')/\∀x H',J.yld i H x H'->g x σ H' λ σ2 H2=>tb { D with nx:=N,ct:=N,bk:=D.nx } σ2 H2)
def iW (fp:List Addr) (h:Heap):List (Addr×Obj):=fp.filterMap λ b=>(h.get? b).map λ o=>(b,o)
theorem bU {fp:List Addr} {h:Heap} {b:Addr} {o:Obj} (hb:b∈fp) (e:h.get? b=some o):(b,o)∈iW fp h:=List.mem_filterMap.mpr ⟨b,hb,by rw [e]; rfl⟩
theorem nu {fp:List Addr} {h:Heap} {p:Addr×Obj} (hp:p∈iW fp h):p.1∈fp/\h.get? p.1=some p.2:=by
 obtain ⟨b,hb,e⟩:=List.mem_filterMap.mp hp;cases q:h.get? b with
 | none=>rw [q] at e; cases e
 | some o =>
  rw [q] at e;have e':(b,o)=p:=B7 e;subst e';exact ⟨hb,q⟩
theorem Inv.pinned {pins:List (Addr×Obj)} {σ:St} {H:Hp} {s:G3} {fp:List Addr} (I:Inv X pins σ H s) (hf:∀b∈fp,fL X pins H b) (ho:∀b∈fp,∃o,s.heap.get? b=some o/\∀v,o.data≠.cell v):Inv X (pins ++ iW fp s.heap) σ H s :=
 I.pins_of λ p hp=>(C1.mp hp).elim (λ z=>I.pin p (A4 _ z)) λ z=>by obtain ⟨hb,e⟩:=nu z;obtain ⟨f0,f1,f2,_⟩:=hf p.1 hb;obtain ⟨o,e',d⟩:=ho p.1 hb;rw [e] at e'; cases e';exact ⟨e,f0,f1,f2,d⟩
theorem Inv.unpinned {pins pl:List (Addr×Obj)} {σ:St} {H:Hp} {s:G3} (I:Inv X (pins ++ pl) σ H s):Inv X pins σ H s:=I.pins_of λ p hp=>I.pin p (A4 _ (B5 _ hp))
theorem bV {iter:Expr} {body:List Stmt} {wi:TI} {g:TG} {tb:TS} {pos:Pos} (hp:PassesOwn (model X.prog X.w) X.A X.env X.xe) (hc:X.calm=true) (hi:PI X tg iter wi) (hg:PG X tg g) (hb:PSs X body tb)
  (hs:∀x,foldedSetIterable iter X.env x=pure x:=by intro _; rfl):PS X (.For tg iter body [] pos) (zm wi g tb):=by
 intro pins s σ H D I h;refine wpAny_For (thn (hi pins s σ H _ I h) λ v s1 h1=>thn h1 λ itv s2 h2=>?_) hs;obtain ⟨it,fp,tn,J,H2,e,I2,T,st2,f2,W,⟨m0,w0⟩,turn⟩:=h2;subst e;have stat:∀ {H':Hp},(∀b∈fp,H' b=none)->∀b∈fp,fL X pins H' b:=λ hn b hb=>⟨hn b hb,(f2 b hb).2⟩
 refine codeAny_forLoop_any (λ n s'=>∃i σ' H',Inv X pins σ' H' s'/\tn i s'.heap/\(∀b∈fp,H' b=none)/\W i n σ' H') ?_ m0 ⟨0,σ,H2,I2,st2,λ b hb=>(f2 b hb).1,w0⟩;rintro n s3 ⟨i,σ3,H3,I3,st3,fr3,w3⟩;rcases turn i n σ3 H3 w3 with ⟨stop,qn⟩ | ⟨go,N,hN,step⟩
 ·refine wpAny_passesOwn hp (thn (T.done X rfl rfl rfl hc i pins s3 σ3 H3 X.xe I3 (stat fr3) st3 stop) λ r s4 ⟨hr,I4⟩=>?_);subst hr;exact wpAny_execs_nil ⟨σ3,H3,I4,qn⟩
 ·refine wpAny_passesOwn hp (thn (T.item X rfl rfl rfl hc i pins s3 σ3 H3 X.xe I3 (stat fr3) st3 go) λ r s4 ⟨u,hr,h4⟩=>?_);subst hr;refine wpAny_passesOwn hp (thn h4 λ _ s5 ⟨x,H5,I5,r5,y5,st5,fr5⟩=>?_);have I5':=I5.pinned (stat fr5) (T.obj _ _ st5);refine wpAny_passesOwn hp (thn (hg _ s5 σ3 H5 x u _ I5' r5 (step x H5 y5)) λ _ s6 ⟨σ6,H6,I6,q6⟩=>?_);refine wpAny_passesOwn hp (thn (hb _ s6 σ6 H6 _ I6 q6) λ f s7 q7=>?_);have again:∀ {σ7:St} {H7:Hp},Inv X (pins ++ iW fp s5.heap) σ7 H7 s7->N σ7 H7->∃m,m < n/\∃i σ' H',Inv X pins σ' H' s7/\tn i s7.heap/\(∀b∈fp,H' b=none)/\W i m σ' H':=λ {σ7 H7} I7 n7=>by obtain ⟨m',hm,w7⟩:=hN σ7 H7 n7;refine ⟨m',hm,i + 1,σ7,H7,I7.unpinned,T.keep _ _ _ st5 λ b hb o e=>(I7.pin (b,o) (A4 _ (A4 _ (bU hb e)))).1,λ b hb=>?_,w7⟩;obtain ⟨o,e,d⟩:=T.obj _ _ st5 b hb;exact (I7.pin (b,o) (A4 _ (A4 _ (bU hb e)))).2.1
  cases f with
  | next=>obtain ⟨σ7,H7,I7,n7⟩:=q7; exact again I7 n7
  | cont=>obtain ⟨σ7,H7,I7,n7⟩:=q7; exact again I7 n7
  | brk=>obtain ⟨σ7,H7,I7,q7⟩:=q7; exact ⟨σ7,H7,I7.unpinned,q7⟩
  | ret v=>obtain ⟨x7,σ7,H7,I7,r7,q7⟩:=q7; exact ⟨x7,σ7,H7,I7.unpinned,r7,q7⟩
end
theorem cP {K:C3} {a:Addr} {xs:List V} {g:TG} {tb:TS} {D:Ends} {σ:St} {H:Hp} (Pv:Nat->St->Hp->Prop) (h0:Pv 0 σ H) (hl:∀i σ H,i<=xs.length->Pv i σ H->SqL K H a xs)
  (hs:∀i x σ H,xs[i]? = some x->Pv i σ H->g x σ H λ σ2 H2=>tb { D with nx:=Pv (i + 1),ct:=Pv (i + 1),bk:=D.nx } σ2 H2) (hd:∀σ H,Pv xs.length σ H->D.nx σ H) :
  ∃W:Nat->Nat->St->Hp->Prop,(∃m,W 0 m σ H)/\∀i m σ H,W i m σ H ->
   ((Itl K a).stop i H/\D.nx σ H)\/((Itl K a).go i H/\∃N:St->Hp->Prop,(∀σ' H',N σ' H'->∃m',m' < m/\W (i + 1) m' σ' H')/\∀x H',(Itl K a).yld i H x H'->g x σ H' λ σ2 H2=>tb { D with nx:=N,ct:=N,bk:=D.nx } σ2 H2):=by
 refine ⟨λ i m σ H=>m=xs.length - i/\i<=xs.length/\Pv i σ H,⟨xs.length,by simp,E5 _,h0⟩,?_⟩;rintro i m σ H ⟨rfl,hi,p⟩;have q:=hl i σ H hi p
 by_cases hlt:i < xs.length
 ·refine .inr ⟨⟨xs,xs[i],q,by simp [hlt]⟩,Pv (i + 1),λ σ' H' p'=>⟨xs.length - (i + 1),by omega,O,hlt,p'⟩,λ x H' y=>?_⟩;obtain ⟨e,y⟩:=y;subst e;exact hs i x σ _ (y xs q) p
 ·have e:i=xs.length:=by omega
  subst e;exact .inl ⟨⟨xs,q,B2 _⟩,hd σ H p⟩
theorem iX {K:C3} {a:Addr} {xs:List V} {g:TG} {tb:TS} {D:Ends} {σ:St} {H:Hp} (Pv:Nat->St->Hp->Prop) (h0:Pv 0 σ H) (hl:∀i σ H,i<=xs.length->Pv i σ H->SqT K H a xs)
  (hs:∀i x σ H,xs[i]? = some x->Pv i σ H->g x σ H λ σ2 H2=>tb { D with nx:=Pv (i + 1),ct:=Pv (i + 1),bk:=D.nx } σ2 H2) (hd:∀σ H,Pv xs.length σ H->D.nx σ H) :
  ∃W:Nat->Nat->St->Hp->Prop,(∃m,W 0 m σ H)/\∀i m σ H,W i m σ H ->
   ((Itt K a).stop i H/\D.nx σ H)\/((Itt K a).go i H/\∃N:St->Hp->Prop,(∀σ' H',N σ' H'->∃m',m' < m/\W (i + 1) m' σ' H')/\∀x H',(Itt K a).yld i H x H'->g x σ H' λ σ2 H2=>tb { D with nx:=N,ct:=N,bk:=D.nx } σ2 H2):=by
 refine ⟨λ i m σ H=>m=xs.length - i/\i<=xs.length/\Pv i σ H,⟨xs.length,by simp,E5 _,h0⟩,?_⟩;rintro i m σ H ⟨rfl,hi,p⟩;have q:=hl i σ H hi p
 by_cases hlt:i < xs.length
 ·refine .inr ⟨⟨xs,xs[i],q,by simp [hlt]⟩,Pv (i + 1),λ σ' H' p'=>⟨xs.length - (i + 1),by omega,O,hlt,p'⟩,λ x H' y=>?_⟩;obtain ⟨e,y⟩:=y;subst e;exact hs i x σ _ (y xs q) p
 ·have e:i=xs.length:=by omega
  subst e;exact .inl ⟨⟨xs,q,B2 _⟩,hd σ H p⟩
theorem ej {lo:Int} {n:Nat} {g:TG} {tb:TS} {D:Ends} {σ:St} {H:Hp} (Pv:Nat->St->Hp->Prop) (h0:Pv 0 σ H)
  (hs:∀i σ H,i < n->Pv i σ H->g (.int (lo + i)) σ H λ σ2 H2=>tb { D with nx:=Pv (i + 1),ct:=Pv (i + 1),bk:=D.nx } σ2 H2) (hd:∀σ H,Pv n σ H->D.nx σ H) :
  ∃W:Nat->Nat->St->Hp->Prop,(∃m,W 0 m σ H)/\∀i m σ H,W i m σ H ->
   ((Itr lo n).stop i H/\D.nx σ H)\/((Itr lo n).go i H/\∃N:St->Hp->Prop,(∀σ' H',N σ' H'->∃m',m' < m/\W (i + 1) m' σ' H')/\∀x H',(Itr lo n).yld i H x H'->g x σ H' λ σ2 H2=>tb { D with nx:=N,ct:=N,bk:=D.nx } σ2 H2):=by
 refine ⟨λ i m σ H=>m=n - i/\i<=n/\Pv i σ H,⟨n,by simp,E5 _,h0⟩,?_⟩;rintro i m σ H ⟨rfl,hi,p⟩
 by_cases hlt:i < n
 ·refine .inr ⟨hlt,Pv (i + 1),λ σ' H' p'=>⟨n - (i + 1),by omega,O,hlt,p'⟩,λ x H' y=>?_⟩;obtain ⟨e,y⟩:=y;subst e y;exact hs i σ _ hlt p
 ·have e:i=n:=by omega
  subst e;exact .inl ⟨B2 _,hd σ H p⟩
abbrev R2:=V->V->Hp->VK->Prop
def OpR (X:Cx) (f:G7->G7->Sem G7) (r:R2):Prop :=
 ∀ (pins:List (Addr×Obj)) (s:G3) (σ:St) (H:Hp) (x y:V) (v u:G7) (Q:VK),Inv X pins σ H s->RelV x v->RelV y u->r x y H Q ->
  wpAny (model X.prog X.w) X.A (f v u) (EP X pins σ Q) X.xe s
def UnR (X:Cx) (f:G7->Sem G7) (r:V->Hp->VK->Prop):Prop :=
 ∀ (pins:List (Addr×Obj)) (s:G3) (σ:St) (H:Hp) (x:V) (v:G7) (Q:VK),Inv X pins σ H s->RelV x v->r x H Q ->
  wpAny (model X.prog X.w) X.A (f v) (EP X pins σ Q) X.xe s
def cB (X:Cx) (f:G7) (r:List V->Hp->VK->Prop):Prop :=
 ∀ (pins:List (Addr×Obj)) (s:G3) (σ:St) (H:Hp) (xs:List V) (us:List G7) (Q:VK),Inv X pins σ H s->Vals xs us->r xs H Q ->
  wpAny (model X.prog X.w) X.A (call f us) (EP X pins σ Q) X.xe s
def Ga (X:Cx) (r:V->Hp->(Bool->Hp->Prop)->Prop):Prop :=
 ∀ (pins:List (Addr×Obj)) (s:G3) (σ:St) (H:Hp) (x:V) (v:G7) (Q:Bool->Hp->Prop),Inv X pins σ H s->RelV x v->r x H Q ->
  wpAny (model X.prog X.w) X.A (truthy v) (TP X pins σ Q) X.xe s
def tOp (r:R2) (ta tb:TE):TE:=λ σ H Q=>ta σ H λ x H1=>tb σ H1 λ y H2=>r x y H2 Q
def tUn (r:V->Hp->VK->Prop) (ta:TE):TE:=λ σ H Q=>ta σ H λ x H1=>r x H1 Q
inductive rI (C:Int->Int->Prop) (g:Int->Int->V) (x:V) (y:V) (H:Hp) (Q:VK):Prop
 | mk (i:Int) (j:Int) (e_0:x=.int i) (e_1:y=.int j) (e_2:C i j) (e_3:Q (g i j) H):rI C g x y H Q
inductive rI0 (g:Int->Int->V) (x:V) (y:V) (H:Hp) (Q:VK):Prop
 | mk (i:Int) (j:Int) (e_0:x=.int i) (e_1:y=.int j) (e_2:Q (g i j) H):rI0 g x y H Q
def rU (g:Int->V):V->Hp->VK->Prop:=λ x H Q=>∃i,x=.int i/\Q (g i) H
section
variable {X:Cx} {a b c:Expr} {ta tb tc:TE} {pos:Pos}
theorem uT (ha:PE X a ta) (hb:PE X b tb) {pins:List (Addr×Obj)} {s:G3} {σ:St} {H:Hp} {R:V->V->Hp->Prop} (I:Inv X pins σ H s)
  (h:ta σ H λ x H1=>tb σ H1 λ y H2=>R x y H2) {Q:G7->G3->Prop} {f:G7->G7->Sem G7}
  (hf:∀v u s2 x y H2,Inv X pins σ H2 s2->RelV x v->RelV y u->R x y H2->wpAny (model X.prog X.w) X.A (f v u) Q X.xe s2) :
  wpAny (model X.prog X.w) X.A (eval a X.env) (λ v s₁=>wpAny (model X.prog X.w) X.A (eval b X.env) (λ u s₂=>wpAny (model X.prog X.w) X.A (f v u) Q X.xe s₂) X.xe s₁) X.xe s:=by
 refine thn (ha pins s σ H _ I h) λ v s1 ⟨x,H1,I1,r1,q1⟩=>?_;refine thn (hb pins s1 σ H1 _ I1 q1) λ u s2 ⟨y,H2,I2,r2,q2⟩=>?_;exact hf v u s2 x y H2 I2 r1 r2 q2
theorem au {op:Operator} {r:R2} (ho:OpR X (binaryOp op) r) (ha:PE X a ta) (hb:PE X b tb):PE X (.BinOp a op b pos) (tOp r ta tb):=by intro pins s σ H Q I h;exact wpAny_BinOp (uT ha hb I h λ v u s2 x y H2 I2 rx ry q=>ho pins s2 σ H2 x y v u Q I2 rx ry q)
theorem gH {op:UnaryOp} {r:V->Hp->VK->Prop} (ho:UnR X (unaryOp op) r) (ha:PE X a ta):PE X (.UnaryOp op a pos) (tUn r ta):=by intro pins s σ H Q I h;exact UnaryOp_ (thn (ha pins s σ H _ I h) λ v s1 ⟨x,H1,I1,r1,q1⟩=>ho pins s1 σ H1 x v Q I1 r1 q1)
theorem opI {f:G7->G7->Sem G7} {C:Int->Int->Prop} {g:Int->Int->Int}
  (rule:∀ (i j:Int) (t u:Tok) (s:G3) (Q:G7->G3->Prop) (E:G7->G3->Prop),C i j->Q (.int (g i j) s.toks) { s with toks:=s.toks + 1 }->wpAny (model X.prog X.w) X.A (f (.int i t) (.int j u)) Q E s) :
  OpR X f (rI C λ i j=>.int (g i j)):=by
 intro pins s σ H x y v u Q I rx ry h;obtain ⟨i,j,rfl,rfl,hc,q⟩:=h;obtain ⟨t,rfl⟩:=rx;obtain ⟨t',rfl⟩:=ry;exact rule i j t t' s _ _ hc ⟨.int (g i j),H,I.tok _,⟨_,rfl⟩,q⟩
theorem zn {f:G7->G7->Sem G7} {g:Int->Int->Int}
  (rule:∀ (i j:Int) (t u:Tok) (s:G3) (Q:G7->G3->Prop) (E:G7->G3->Prop),Q (.int (g i j) s.toks) { s with toks:=s.toks + 1 }->wpAny (model X.prog X.w) X.A (f (.int i t) (.int j u)) Q E s) :
  OpR X f (rI0 λ i j=>.int (g i j)):=by
 intro pins s σ H x y v u Q I rx ry h;obtain ⟨i,j,rfl,rfl,q⟩:=h;obtain ⟨t,rfl⟩:=rx;obtain ⟨t',rfl⟩:=ry;exact rule i j t t' s _ _ ⟨.int (g i j),H,I.tok _,⟨_,rfl⟩,q⟩
theorem rW {f:G7->G7->Sem G7} {g:Int->Int->Bool}
  (rule:∀ (i j:Int) (t u:Tok) (s:G3) (Q:G7->G3->Prop) (E:G7->G3->Prop),Q (.bool (g i j)) s->wpAny (model X.prog X.w) X.A (f (.int i t) (.int j u)) Q E s) :
  OpR X f (rI0 λ i j=>.bl (g i j)):=by
 intro pins s σ H x y v u Q I rx ry h;obtain ⟨i,j,rfl,rfl,q⟩:=h;obtain ⟨t,rfl⟩:=rx;obtain ⟨t',rfl⟩:=ry;exact rule i j t t' s _ _ ⟨.bl (g i j),H,I,rfl,q⟩
def Gb (i j:Int):Prop:=0 < j/\j < 1073741824
def zo (i j:Int):Prop:=0<=j/\j<=1000000/\i.natAbs < 2 ^ 64
def CMul (i j:Int):Prop:=(-(2 ^ 64) < i/\i < 2 ^ 64)\/(-(2 ^ 64) < j/\j < 2 ^ 64)
theorem CMul.ok {i j:Int} (h:CMul i j):IntMulOk i j:=by
 rcases h with ⟨h1,h2⟩ | ⟨h1,h2⟩
 ·exact .of_left (intBits_le_64 h1 h2)
 ·exact .of_right (intBits_le_64 h1 h2)
theorem aV:OpR X (binaryOp .Add) (rI0 λ i j=>.int (i + j)):=zn λ _ _ _ _ _ _ _ q=>add_int q
theorem aZ:OpR X (binaryOp .Sub) (rI0 λ i j=>.int (i - j)):=zn λ _ _ _ _ _ _ _ q=>sub_int q
theorem eN:OpR X (binaryOp .Mult) (rI CMul λ i j=>.int (i * j)):=opI λ _ _ _ _ _ _ _ hc q=>mul_int q hc.ok
theorem rX:OpR X (binaryOp .FloorDiv) (rI Gb λ i j=>.int (i / j)):=opI λ i j _ _ _ _ _ hc q=>by have h1:(0:Int) < j:=hc.1;have h2:j < 1073741824:=hc.2;exact floordiv_int (by omega) (by rw [Int.fdiv_eq_ediv_of_nonneg i (by omega)]; exact q) (.inl (PyProof.noPylong_small (by omega)))
theorem fM:OpR X (binaryOp .Mod) (rI (λ _ j=>0 < j) λ i j=>.int (i % j)):=opI λ i j _ _ _ _ _ hc q=>by have h1:(0:Int) < j:=hc;exact mod_int' (by omega) (by rw [Int.fmod_eq_emod_of_nonneg i (by omega)]; exact q)
theorem dh:OpR X (binaryOp .Pow) (rI zo λ i j=>.int (i ^ j.toNat)):=opI λ _ _ _ _ _ _ _ hc q=>pow_int_small hc.1 hc.2.1 hc.2.2 q
theorem unI {f:G7->Sem G7} {g:Int->Int}
  (rule:∀ (i:Int) (t:Tok) (s:G3) (Q:G7->G3->Prop) (E:G7->G3->Prop),Q (.int (g i) s.toks) { s with toks:=s.toks + 1 }->wpAny (model X.prog X.w) X.A (f (.int i t)) Q E s) :
  UnR X f (rU λ i=>.int (g i)):=by
 intro pins s σ H x v Q I rx h;obtain ⟨i,rfl,q⟩:=h;obtain ⟨t,rfl⟩:=rx;exact rule i t s _ _ ⟨.int (g i),H,I.tok _,⟨_,rfl⟩,q⟩
theorem eO:UnR X (unaryOp .USub) (rU λ i=>.int (-i)):=unI λ _ _ _ _ _ q=>neg_int q
end
def zp:V->V->Bool
 | .non,.non=>true | .non,.int _=>true | .int _,.non=>true | .non,.bl _=>true | .bl _,.non=>true | .non,.str _=>true | .str _,.non=>true
 | .int _,.int _=>true | .bl _,.bl _=>true | .str _,.str _=>true | .byt _,.byt _=>true
 | .int _,.str _=>true | .str _,.int _=>true | .bl _,.str _=>true | .str _,.bl _=>true
 | _,_=>false
def rEq:R2:=λ x y H Q=>zp x y=true/\Q (.bl (decide (x=y))) H
def rNe:R2:=λ x y H Q=>zp x y=true/\Q (.bl (!decide (x=y))) H
theorem iY {i j:Int}:decide (V.int i=V.int j)=(i == j):=by rw [Bool.eq_iff_iff];simp
theorem pK {i j:Bool}:decide (V.bl i=V.bl j)=(i == j):=by rw [Bool.eq_iff_iff];simp
theorem mx {i j:Str}:decide (V.str i=V.str j)=(i == j):=by rw [Bool.eq_iff_iff];simp
theorem my {i j:Array UInt8}:decide (V.byt i=V.byt j)=(i.toList == j.toList):=by rw [Bool.eq_iff_iff];cases i;cases j;simp
section
variable {X:Cx} {a b c:Expr} {ta tb tc:TE} {pos:Pos}
theorem aR {pins:List (Addr×Obj)} {σ:St} {H:Hp} {s:G3} {Q:VK} {k k':Bool} (I:Inv X pins σ H s) (q:Q (.bl k) H) (e:k=k'):EP X pins σ Q (.bool k') s:=by subst e;exact ⟨.bl k,H,I,O,q⟩
theorem bf:OpR X (compareOp .Eq) rEq:=by
 intro pins s σ H x y v u Q I rx ry h;obtain ⟨hs,q⟩:=h;cases x with
 | non =>
  cases rx;cases y with
  | non=>cases ry; exact PySem.EqNone.eq_none_none (aR I q (by simp))
  | bl j=>cases ry; exact PySem.EqNone.eq_none_bool (aR I q (by simp))
  | int j=>obtain ⟨t',rfl⟩:=ry; exact PySem.EqNone.eq_none_int (aR I q (by simp))
  | str j=>obtain ⟨t',rfl⟩:=ry; exact PySem.EqNone.eq_none_str (aR I q (by simp))
  | _=>exact absurd (show false=true from hs) B1
 | bl i =>
  cases rx;cases y with
  | non=>cases ry; exact PySem.EqNone.eq_bool_none (aR I q (by simp))
  | bl j=>cases ry; exact eq_bool (aR I q pK)
  | str j=>obtain ⟨t',rfl⟩:=ry; exact PySem.EqMixed.eq_bool_str (aR I q (by simp))
  | _=>exact absurd (show false=true from hs) B1
 | int i =>
  obtain ⟨t,rfl⟩:=rx;cases y with
  | non=>cases ry; exact PySem.EqNone.eq_int_none (aR I q (by simp))
  | int j=>obtain ⟨t',rfl⟩:=ry; exact eq_int (aR I q iY)
  | str j=>obtain ⟨t',rfl⟩:=ry; exact PySem.EqMixed.eq_int_str (aR I q (by simp))
  | _=>exact absurd (show false=true from hs) B1
 | str i =>
  obtain ⟨t,rfl⟩:=rx;cases y with
  | non=>cases ry; exact PySem.EqNone.eq_str_none (aR I q (by simp))
  | bl j=>cases ry; exact PySem.EqMixed.eq_str_bool (aR I q (by simp))
  | int j=>obtain ⟨t',rfl⟩:=ry; exact PySem.EqMixed.eq_str_int (aR I q (by simp))
  | str j=>obtain ⟨t',rfl⟩:=ry; exact eq_str (aR I q mx)
  | _=>exact absurd (show false=true from hs) B1
 | byt i =>
  obtain ⟨t,rfl⟩:=rx;cases y with
  | byt j=>obtain ⟨t',rfl⟩:=ry; exact PySem.W.eq_bytes (aR I q my)
  | _=>exact absurd (show false=true from hs) B1
 | _=>cases y <;> exact absurd (show false=true from hs) B1
theorem gI:OpR X (compareOp .NotEq) rNe:=by
 intro pins s σ H x y v u Q I rx ry h;obtain ⟨hs,q⟩:=h;cases x with
 | non =>
  cases rx;cases y with
  | non=>cases ry; exact PySem.EqNone.ne_none_none (aR I q (by simp))
  | bl j=>cases ry; exact PySem.EqNone.ne_none_bool (aR I q (by simp))
  | int j=>obtain ⟨t',rfl⟩:=ry; exact PySem.EqNone.ne_none_int (aR I q (by simp))
  | str j=>obtain ⟨t',rfl⟩:=ry; exact PySem.EqNone.ne_none_str (aR I q (by simp))
  | _=>exact absurd (show false=true from hs) B1
 | bl i =>
  cases rx;cases y with
  | non=>cases ry; exact PySem.EqNone.ne_bool_none (aR I q (by simp))
  | bl j=>cases ry; exact ne_bool (aR I q (congrArg not pK))
  | str j=>obtain ⟨t',rfl⟩:=ry; exact PySem.EqMixed.ne_bool_str (aR I q (by simp))
  | _=>exact absurd (show false=true from hs) B1
 | int i =>
  obtain ⟨t,rfl⟩:=rx;cases y with
  | non=>cases ry; exact PySem.EqNone.ne_int_none (aR I q (by simp))
  | int j=>obtain ⟨t',rfl⟩:=ry; exact ne_int (aR I q (congrArg not iY))
  | str j=>obtain ⟨t',rfl⟩:=ry; exact PySem.EqMixed.ne_int_str (aR I q (by simp))
  | _=>exact absurd (show false=true from hs) B1
 | str i =>
  obtain ⟨t,rfl⟩:=rx;cases y with
  | non=>cases ry; exact PySem.EqNone.ne_str_none (aR I q (by simp))
  | bl j=>cases ry; exact PySem.EqMixed.ne_str_bool (aR I q (by simp))
  | int j=>obtain ⟨t',rfl⟩:=ry; exact PySem.EqMixed.ne_str_int (aR I q (by simp))
  | str j=>obtain ⟨t',rfl⟩:=ry; exact ne_str (aR I q (congrArg not mx))
  | _=>exact absurd (show false=true from hs) B1
 | byt i =>
  obtain ⟨t,rfl⟩:=rx;cases y with
  | byt j=>obtain ⟨t',rfl⟩:=ry; exact PySem.W.ne_bytes (aR I q (congrArg not my))
  | _=>exact absurd (show false=true from hs) B1
 | _=>cases y <;> exact absurd (show false=true from hs) B1
theorem mz:OpR X (compareOp .Lt) (rI0 λ i j=>.bl (decide (i < j))):=rW λ _ _ _ _ _ _ _ q=>lt_int q
theorem fV:OpR X (compareOp .LtE) (rI0 λ i j=>.bl (decide (i<=j))):=rW λ _ _ _ _ _ _ _ q=>le_int q
theorem pL:OpR X (compareOp .Gt) (rI0 λ i j=>.bl (decide (j < i))):=rW λ _ _ _ _ _ _ _ q=>gt_int q
theorem ip:OpR X (compareOp .GtE) (rI0 λ i j=>.bl (decide (j<=i))):=rW λ _ _ _ _ _ _ _ q=>ge_int q
theorem av (b:Expr) {op:CmpOp} (h:op≠.In:=by decide) (h2:op≠.NotIn:=by decide):behindInMarks op b=false:=by
 have e1:(op == CmpOp.In)=false:=by cases op <;> first | rfl | exact absurd rfl h
 have e2:(op == CmpOp.NotIn)=false:=by cases op <;> first | rfl | exact absurd rfl h2
 cases b <;> simp [behindInMarks,e1,e2]
theorem bt {op:CmpOp} {r:R2} (ho:OpR X (compareOp op) r) (ha:PE X a ta) (hb:PE X b tb) (hm:behindInMarks op b=false):PE X (.Compare a [op] [b] pos) (tOp r ta tb):=by intro pins s σ H Q I h;exact wpAny_Compare1 (uT ha hb I h λ v u s2 x y H2 I2 rx ry q=>ho pins s2 σ H2 x y v u Q I2 rx ry q) hm
def uD (t:TE):TT:=λ σ H Q=>t σ H λ x H'=>IsB x λ k=>Q k H'
theorem aw {op:CmpOp} {r:R2} (ho:OpR X (compareOp op) r) (ha:PE X a ta) (hb:PE X b tb) (hm:behindInMarks op b=false):PT X (.Compare a [op] [b] pos) (uD (tOp r ta tb)):=by
 intro pins s σ H Q I h;refine wpAny_isTrue_Compare1 (thn (ha pins s σ H _ I h) λ v s1 ⟨x,H1,I1,r1,q1⟩=>thn (hb pins s1 σ H1 _ I1 q1) λ u s2 ⟨y,H2,I2,r2,q2⟩ =>
  thn (ho pins s2 σ H2 x y v u _ I2 r1 r2 q2) λ c s3 ⟨z,H3,I3,r3,k,e,q3⟩=>?_) hm
 subst e;cases r3;exact E9 ⟨H3,I3,q3⟩
def uU (r r':R2) (ta tb tc:TE):TE:=λ σ H Q=>ta σ H λ x H1=>tb σ H1 λ y H2=>r x y H2 λ z H3=>∃k,z=.bl k /\
 (if k=true then tc σ H3 λ w' H4=>r' y w' H4 Q else Q (.bl false) H3)
theorem pM {op op':CmpOp} {r r':R2} (ho:OpR X (compareOp op) r) (ho':OpR X (compareOp op') r') (ha:PE X a ta) (hb:PE X b tb) (hc:PE X c tc)
  (hm:lastMarks [op,op'] [b,c]=false:=by with_unfolding_all rfl):PT X (.Compare a [op,op'] [b,c] pos) (uD (uU r r' ta tb tc)):=by
 intro pins s σ H Q I h;refine isTrue_chain (thn (ha pins s σ H _ I h) λ v s1 ⟨x,H1,I1,r1,q1⟩=>test_link (thn (hb pins s1 σ H1 _ I1 q1) λ u s2 ⟨y,H2,I2,r2,q2⟩ =>
  thn (ho pins s2 σ H2 x y v u _ I2 r1 r2 q2) λ d s3 ⟨z,H3,I3,r3,k,e,q3⟩=>?_)) hm
 subst e;cases r3;refine E9 ?_;cases k with
 | false =>
  obtain ⟨k',e',q'⟩:=q3;cases e';exact ite_ff ⟨H3,I3,q'⟩
 | true =>
  refine ite_tt (test_last (thn (hc pins s3 σ H3 _ I3 q3) λ w' s4 ⟨z',H4,I4,r4,q4⟩=>thn (ho' pins s4 σ H4 y z' u w' _ I4 r2 r4 q4) λ d' s5 ⟨z2,H5,I5,r5,k2,e2,q5⟩=>?_));subst e2;cases r5;exact E9 ⟨H5,I5,q5⟩
def zq (K:C3) (x:V) (H:Hp) (k:Bool):Prop :=
 match x with
 | .non=>k=false
 | .bl b=>k=b
 | .int i=>k=(i != 0)
 | .str y=>y.length<=sizeLine/\k=((y.length:Int) != 0)
 | .byt y=>y.size<=sizeLine/\k=((y.size:Int) != 0)
 | .ref p=>(∃xs,SqL K H p xs/\k=!xs.isEmpty)\/(∃xs,SqT K H p xs/\k=!xs.isEmpty)\/∃kvs,H p=some (.dK kvs)/\k=!kvs.isEmpty
 | _=>False
theorem kG {κ:Type} {kvs:List (κ×V)} {vs:List (κ×G7)} (r:KV kvs vs):(!vs.isEmpty)=!kvs.isEmpty:=by cases r <;> rfl
theorem gJ {xs:List V} {its:List G7} (r:Vals xs its):(!its.toArray.isEmpty)=!xs.isEmpty:=by cases r <;> simp
theorem eQ:(sizeLine:Nat) < 2 ^ 63:=by rw [sizeLine_eq]; decide
theorem uV:Ga X (λ x H Q=>∃k,zq X.K x H k/\Q k H):=by
 intro pins s σ H x v Q I rx h;obtain ⟨k,e,q⟩:=h;have hl:=eQ;have hs:sizeLine=16777216:=sizeLine_eq;cases x with
 | non =>
  cases rx;have e':k=false:=e;subst e';exact truthy_none ⟨H,I,q⟩
 | bl b =>
  cases rx;have e':k=b:=e;subst e';exact E9 ⟨H,I,q⟩
 | int i =>
  obtain ⟨t,rfl⟩:=rx;have e':k=(i != 0):=e;subst e';exact PySem.P.truthy_int ⟨H,I,q⟩
 | str y =>
  obtain ⟨t,rfl⟩:=rx;obtain ⟨hy,e'⟩:y.length<=sizeLine/\k=((y.length:Int) != 0):=e;subst e';exact PySem.P.truthy_str (by omega) ⟨H,I.tok _,q⟩
 | byt y =>
  obtain ⟨t,rfl⟩:=rx;obtain ⟨hy,e'⟩:y.size<=sizeLine/\k=((y.size:Int) != 0):=e;subst e';exact PySem.W.truthy_bytes (by omega) ⟨H,I.tok _,q⟩
 | ref p =>
  cases rx;have e':(∃xs,SqL X.K H p xs/\k=!xs.isEmpty)\/(∃xs,SqT X.K H p xs/\k=!xs.isEmpty)\/∃kvs,H p=some (.dK kvs)/\k=!kvs.isEmpty:=e;rcases e' with ⟨xs,hx,e'⟩ | ⟨xs,hx,e'⟩ | ⟨kvs,hx,e'⟩
  ·subst e';obtain ⟨its,r,pl,hz⟩:=I.list hx;have hlen:=r.length;exact wpAny_truthy_list pl.isList (by simp only [List.size_toArray]; omega) ⟨H,I.tok _,by rw [gJ r]; exact q⟩
  ·subst e';obtain ⟨its,r,pl,hz⟩:=I.tuple hx;have hlen:=r.length;exact truthy_tuple pl (by simp only [List.size_toArray]; omega) ⟨H,I.tok _,by rw [gJ r]; exact q⟩
  ·subst e';obtain ⟨hz,hS,vs,r,m⟩:kvs.length<=sizeLine/\(p == sysModules)=false/\∃vs,KV kvs vs/\s.heap.DictOf (iQ X.prog X.w) p vs:=I.hok p _ hx;have hlen:kvs.length=vs.length:=C9 r;exact wpAny_truthy_dict hS m (by omega) ⟨H,I.tok _,by rw [kG r]; exact q⟩
 | _=>exact (show False from e).elim
theorem jE (ha:PE X a ta) (he:∀aK,isTrue a X.env aK=(do let v<-aK; standAt a.pos; holding [v] (truthy v))) :
  PT X a (λ σ H Q=>ta σ H λ x H'=>∃k,zq X.K x H' k/\Q k H'):=by
 intro pins s σ H Q I h;exact isTrue_plain (thn (ha pins s σ H _ I h) λ v s1 ⟨x,H1,I1,r1,q1⟩=>uV pins s1 σ H1 x v Q I1 r1 q1) (he _)
theorem eR:OpR X (binaryOp .Add) (λ x y H Q=>∃i j,x=.str i/\y=.str j/\i.length + j.length<=sizeLine/\Q (.str (i ++ j)) H):=by intro pins s σ H x y v u Q I rx ry h;obtain ⟨i,j,rfl,rfl,hz,q⟩:=h;obtain ⟨t,rfl⟩:=rx;obtain ⟨t',rfl⟩:=ry;exact add_str (λ t' tk=>⟨.str (i ++ j),H,I.tok _,⟨_,O⟩,q⟩) hz
theorem fW {x:V} {us:List G7} (r:Vals [x] us):∃u,us=[u]/\RelV x u:=by
 cases r with
 | cons r1 r2=>cases r2; exact ⟨_,O,r1⟩
theorem uE {x y:V} {us:List G7} (r:Vals [x,y] us):∃u w',us=[u,w']/\RelV x u/\RelV y w':=by
 cases r with
 | cons r1 r2 =>
  cases r2 with
  | cons r3 r4=>cases r4; exact ⟨_,_,O,r1,r3⟩
theorem nw (hc:X.calm=true):cB X (.builtin "max") (λ xs H Q=>∃i j,xs=[.int i,.int j]/\Q (.int (if j > i then j else i)) H):=by
 intro pins s σ H xs us Q I r h;obtain ⟨i,j,rfl,q⟩:=h;obtain ⟨u,w',rfl,⟨t,rfl⟩,⟨t',rfl⟩⟩:=uE r;refine max_two_ints (I.ok.hd hc) λ h' tk k=>⟨_,H,I.kept k,?_,q⟩
 by_cases hj:j > i
 ·rw [if_pos hj,if_pos hj]; exact ⟨_,O⟩
 ·rw [if_neg hj,if_neg hj]; exact ⟨_,O⟩
theorem iq (hc:X.calm=true):cB X (.builtin "min") (λ xs H Q=>∃i j,xs=[.int i,.int j]/\Q (.int (if j < i then j else i)) H):=by
 intro pins s σ H xs us Q I r h;obtain ⟨i,j,rfl,q⟩:=h;obtain ⟨u,w',rfl,⟨t,rfl⟩,⟨t',rfl⟩⟩:=uE r;refine min_two_ints (I.ok.hd hc) λ h' tk k=>⟨_,H,I.kept k,?_,q⟩
 by_cases hj:j < i
 ·rw [if_pos hj,if_pos hj]; exact ⟨_,O⟩
 ·rw [if_neg hj,if_neg hj]; exact ⟨_,O⟩
theorem cQ:cB X (.type "int") (λ xs H Q=>(∃i,xs=[.int i]/\Q (.int i) H)\/∃k,xs=[.bl k]/\Q (.int (if k then 1 else 0)) H):=by
 intro pins s σ H xs us Q I r h;rcases h with ⟨i,rfl,q⟩ | ⟨k,rfl,q⟩
 ·obtain ⟨u,rfl,t,rfl⟩:=fW r;exact call_int_int ⟨.int i,H,I,⟨_,rfl⟩,q⟩
 ·obtain ⟨u,rfl,r1⟩:=fW r;cases r1;exact call_int_bool ⟨.int (if k then 1 else 0),H,I.tok _,⟨_,rfl⟩,q⟩
theorem iZ:cB X (.type "str") (λ xs H Q=>∃i,xs=[.int i]/\i.natAbs.log2 < 1920/\Q (.str (toString i)) H):=by intro pins s σ H xs us Q I r h;obtain ⟨i,rfl,hz,q⟩:=h;obtain ⟨u,rfl,t,rfl⟩:=fW r;exact PySem.P.str_of_int hz ⟨.str _,H,I.tok _,⟨_,rfl⟩,q⟩
end
structure ObjM (h:Heap) (x dx C:Addr) (mA:Str->Option Value):Prop where
 obj:h.get? x=some (PySem.W.instObj C dx)
 ns:h.Ns1 dx mA
 ne:dx≠x
theorem nz {h:Heap} {dx:Addr} {mA:Str->Option G7} (n:h.Ns1 dx mA):∃od,h.get? dx=some od/\∀name,PySem.W.lookIn name od=some (mA name):=by
 obtain ⟨o,es,ep,ho,hd,hk,_,hm⟩:=n;refine ⟨o,ho,λ name=>?_⟩;have e:=hm name;unfold nsFind findBy at e;rw [<- Array.find?_toList] at e;unfold PySem.W.lookIn;rw [hd];dsimp only
 split
 ·rename_i y q
  rw [q] at e;exact congrArg some e
 ·rename_i q
  rw [q] at e;have a:es.toList.any (·.refKey)=false:=by rw [List.any_eq_false];intro y hy;obtain ⟨z,t,hkey⟩:=hk y (Array.mem_toList_iff.mp hy);simp [DictEntry.refKey,hkey]
  have a':¬ es.toList.any (·.refKey)=true:=by rw [a]; exact B1
  rw [if_neg a'];exact congrArg some e
theorem ObjM.look {h:Heap} {x dx C:Addr} {mA:Str->Option G7} (I:ObjM h x dx C mA):∃od,PySem.W.InstAt h x (PySem.W.instObj C dx) C (some od)/\∀name,PySem.W.lookIn name od=some (mA name) :=
 let ⟨od,ho,hl⟩:=nz I.ns
 ⟨od,⟨I.obj,rfl,rfl,ho⟩,hl⟩
section
variable {prog:G4} {w:G6} {A:Around} {E:G7->G3->Prop} {s:G3} {K:C3} {x dx C f:Addr} {mA:Str->Option G7} {name:Str} {v:G7}
theorem rY {expr:Bool} {Q:G7->G3->Prop} (X:K.In s.heap) (I:ObjM s.heap x dx C mA) (hg:PySem.W.plainGet K C name=true) (hh:PySem.W.hasDictIn K C=true)
  (ha:PySem.W.findIn K (.ref C) name=some none) (hv:mA name=some v) (hv':PySem.W.handedIn v=true) (h:Q v { s with toks:=s.toks + 1 }) :
  wpAny (model prog w) A (getAttr (.ref x) name expr) Q E s:=by
 obtain ⟨od,J,hl⟩:=I.look;exact PySem.W.get_value X J (PySem.W.plainGet_of hg).1 (PySem.W.findObj_own hh ha rfl (by rw [hl,hv])) hv' h
theorem pN {pl:Sem Bool} {Q:G7×List G7->G3->Prop} (X:K.In s.heap) (I:ObjM s.heap x dx C mA) (hg:PySem.W.plainGet K C name=true)
  (hf:PySem.W.findIn K (.ref C) name=some (some (.ref f))) (ht:PySem.W.isFn K (.ref f)=true) (hv:mA name=none) (h:Q (.ref f,[.ref x]) s) :
  wpAny (model prog w) A (getMethod (.ref x) name pl) Q E s:=by
 obtain ⟨od,J,hl⟩:=I.look;exact PySem.W.method_fn X J (PySem.W.plainGet_of hg).1 (PySem.W.plainGet_of hg).2 hf (C2.mp ht) (by show (PySem.W.lookIn name od).map (·.isSome)=some false; rw [hl,hv]; rfl) h
theorem rZ {ns:List Str} {Q:Unit->G3->Prop} (X:K.In s.heap) (I:ObjM s.heap x dx C mA)
  (hs:PySem.W.findIn K (.ref C) "__setattr__" = some (some (.builtin "object.__setattr__"))) (hp:PySem.W.plainOver K C=true) (ht:PySem.W.takerIn K C name=some none) (hh:PySem.W.hasDictIn K C=true)
  (hw:PySem.Within mA ns) (hsz:ns.length<=sizeLine)
  (h:∀h',ObjM h' x dx C (λ y=>if y=name then some v else mA y)->Heap.SameBut dx s.heap h'->Q () { s with heap:=h',toks:=s.toks + 2 }) :
  wpAny (model prog w) A (setAttr (.ref x) name v) Q E s:=by
 obtain ⟨od,J,hl⟩:=I.look;refine PySem.W.set_plain X J hs (PySem.W.osa_open (s:={ s with toks:=s.toks + 1 }) (r:=none) X J hp ht λ b=>?_);obtain ⟨cd,hc,hd'⟩:=PySem.W.any_some hh;have hx:s.heap.get? x=some ⟨.ref C,some dx,.plain,#[]⟩:=I.obj;refine A0 (A1 (A0 (A0 (wpAny_loadPart hx (A0 (PySem.W.Looks.here (s:={ s with toks:=s.toks + 1 }) (PySem.W.looks_clsIn X hc) ?_))))));rw [hd'];refine A1 (a:=some dx) (A0 (A1 (A0 ?_)));refine wpAny_nsSet1 (s:={ s with toks:=s.toks + 1 }) I.ns λ h' hn2 hs2=>?_;obtain ⟨oD,esD,epD,hoD,hdD,hcD⟩:=hn2.count (PySem.Within.cons name v hw);refine A0 (wpAny_lookBehind hoD (by rw [hdD]; exact pastItsLine_dict (C4 hcD (by rw [List.length_cons]; omega))) ?_);exact A1 (h _ ⟨(hs2.2 _ (Ne.symm I.ne)).trans I.obj,hn2,I.ne⟩ hs2)
theorem pO {R:Result->G3->Prop} {vs:List G7} {kw:List (Str×G7)} (X:K.In s.heap) (hm:PySem.W.makesIn K C=true)
  (hi:PySem.W.findIn K (.ref C) "__init__" = some (some (.ref f))) (hf:PySem.W.typeIn K (.ref f)=some (.type "function"))
  (h:codeAny (model prog w) (A.under (.builtin "type.__call__" ⟨.ref C :: vs,kw⟩)) (.call (.ref f) ⟨.ref (s.heap.objs.size + 1) :: vs,kw⟩) (PySem.W.InitBack (s.heap.objs.size + 1) R)
   { s with heap:=(s.heap.push PySem.W.emptyDict).push (PySem.W.instObj C s.heap.objs.size) }) :
  codeAny (model prog w) A (.call (.ref C) ⟨vs,kw⟩) R s:=by
 obtain ⟨hh,g,d,t,os⟩:=s;exact PySem.W.make_core (PySem.W.makes_of X hm) (PySem.W.looks_findIn X hi) (λ self=>PySem.W.bind_fn X self hf) (.inl rfl) h
end
def cI (f:Str) (v:V):List (Str×V)->List (Str×V)
 | []=>[(f,v)]
 | (g,x) :: r=>if g=f then (g,v) :: r else (g,x) :: cI f v r
theorem bE (f g:Str) (v:V):∀fs:List (Str×V),(cI f v fs).lookup g=if g=f then some v else fs.lookup g
 | []=>by
  show List.lookup g [(f,v)]=_
  by_cases h:g=f
  ·have hb:(g == f)=true:=C2.mpr h;simp only [List.lookup,hb,if_pos h]
  ·have hb:(g == f)=false:=beq_eq_false_iff_ne.mpr h;simp only [List.lookup,hb,if_neg h]
 | (k,x) :: r=>by
  have ih:=bE f g v r;rw [show cI f v ((k,x) :: r)=(if k=f then (k,v) :: r else (k,x) :: cI f v r) from rfl]
  by_cases hk:k=f
  ·rw [if_pos hk]
   by_cases h:g=k
   ·have hb:(g == k)=true:=C2.mpr h;simp only [List.lookup,hb,if_pos (h.trans hk)]
   ·have hb:(g == k)=false:=beq_eq_false_iff_ne.mpr h;simp only [List.lookup,hb,if_neg (λ e:g=f=>h (e.trans hk.symm))]
  ·rw [if_neg hk]
   by_cases h:g=k
   ·have hb:(g == k)=true:=C2.mpr h;simp only [List.lookup,hb,if_neg (λ e:g=f=>hk (h.symm.trans e))]
   ·have hb:(g == k)=false:=beq_eq_false_iff_ne.mpr h;simp only [List.lookup,hb];exact ih
theorem fN (f:Str) (v:V):∀fs:List (Str×V),f∈(cI f v fs).map (·.1)/\∀g,g∈fs.map (·.1)->g∈(cI f v fs).map (·.1)
 | []=>⟨by simp [cI],λ g h=>by simp at h⟩
 | (k,x) :: r=>by
  obtain ⟨i1,i2⟩:=fN f v r;rw [show cI f v ((k,x) :: r)=(if k=f then (k,v) :: r else (k,x) :: cI f v r) from rfl]
  by_cases hk:k=f
  ·rw [if_pos hk];subst hk;exact ⟨by simp,λ g h=>by simpa using h⟩
  ·rw [if_neg hk];refine ⟨?_,λ g h=>?_⟩
   ·rw [List.map_cons];exact B3 _ i1
   ·rw [List.map_cons] at h ⊢;rcases List.mem_cons.mp h with e | e
    ·exact List.mem_cons.mpr (.inl e)
    ·exact B3 _ (i2 g e)
theorem dI (f:Str) (v:V):∀fs:List (Str×V),(cI f v fs).length<=fs.length + 1
 | []=>by simp [cI]
 | (k,x) :: r=>by
  have ih:=dI f v r;rw [show cI f v ((k,x) :: r)=(if k=f then (k,v) :: r else (k,x) :: cI f v r) from rfl]
  by_cases hk:k=f
  ·rw [if_pos hk,List.length_cons,List.length_cons]; omega
  ·rw [if_neg hk,List.length_cons,List.length_cons]; omega
theorem RelO.some_of {v:V} {o:Option G7} (r:RelO (some v) o):∃u,o=some u/\RelV v u:=by
 cases o with
 | none=>exact (show False from r).elim
 | some u=>exact ⟨u,O,r⟩
theorem RelO.none_of {o:Option G7} (r:RelO none o):o=none:=by
 cases o with
 | none=>rfl
 | some u=>exact (show False from r).elim
theorem nA {v:V} {u:G7} (r:RelV v u):PySem.W.handedIn u=true:=by
 cases v with
 | non=>cases (show u=Value.none from r); rfl
 | bl b=>cases (show u=Value.bool b from r); rfl
 | int i=>obtain ⟨t,e⟩:=(show ∃t,u=Value.int i t from r); cases e; rfl
 | str x=>obtain ⟨t,e⟩:=(show ∃t,u=Value.str x t from r); cases e; rfl
 | byt b=>obtain ⟨t,e⟩:=(show ∃t,u=Value.bytes b t from r); cases e; rfl
 | flt b=>obtain ⟨t,e⟩:=(show ∃t,u=Value.float b t from r); cases e; rfl
 | ref a=>cases (show u=Value.ref a from r); rfl
 | ty n=>cases (show u=Value.type n from r); rfl
section
variable {P:G4} {w:G6} {H H':Hp} {h h':Heap} {a C dx:Addr} {fs fs':List (Str×V)}
theorem fg (hok:HOk P w H h) (e:H a=some (.ins C dx fs)):∃mA,ObjM h a dx C mA/\(∀f,RelO (fs.lookup f) (mA f))/\PySem.Within mA (fs.map (·.1))/\fs.length<=1000/\H dx=some (.own a):=by
 obtain ⟨d,z,ne,ob,mA,n,r,q⟩:=(show ObjOk P w H h a (.ins C dx fs) from hok a _ e)
 exact ⟨mA,⟨ob,n,ne⟩,r,q,z,d⟩
end
structure Cls (K:C3) (C:Addr):Prop where
 pg:PySem.W.plainGet K C Str.empty=true
 hd:PySem.W.hasDictIn K C=true
 po:PySem.W.plainOver K C=true
 sa:PySem.W.findIn K (.ref C) "__setattr__" = some (some (.builtin "object.__setattr__"))
theorem Cls.get {K:C3} {C:Addr} (c:Cls K C) (f:Str):PySem.W.plainGet K C f=true:=c.pg
def NoAttr (K:C3) (C:Addr) (f:Str):Prop:=PySem.W.findIn K (.ref C) f=some none
theorem NoAttr.taker {K:C3} {C:Addr} {f:Str} (n:NoAttr K C f):PySem.W.takerIn K C f=some none:=by
 unfold PySem.W.takerIn;rw [show PySem.W.findIn K (.ref C) f=some none from n]
 rfl
structure Con (K:C3) (C:Addr) (f:Str) (v:V) (u:Value):Prop where
 at_:PySem.W.findIn K (.ref C) f=some (some u)
 rel:RelV v u
 get:PySem.W.specialIn K u "__get__" = some none
 cp:PySem.W.copiedNames.contains f=false
structure Meth (K:C3) (C:Addr) (m:Str) (f:Addr):Prop where
 at_:PySem.W.findIn K (.ref C) m=some (some (.ref f))
 fn:PySem.W.isFn K (.ref f)=true
 kp:PySem.W.keepIn K (.ref f)=true
section
variable {X:Cx} {pins:List (Addr×Obj)} {σ:St} {H:Hp} {s:G3} {a C dx:Addr} {fs:List (Str×V)} {f:Str} {v:V} {A:Around} {E:G7->G3->Prop}
theorem kH {b:Bool} {Q:G7->G3->Prop} (I:Inv X pins σ H s) (e:H a=some (.ins C dx fs)) (c:Cls X.K C) (n:NoAttr X.K C f) (l:fs.lookup f=some v)
  (h:∀u s',Inv X pins σ H s'->RelV v u->Q u s'):wpAny (model X.prog X.w) A (getAttr (.ref a) f b) Q E s:=by
 obtain ⟨mA,OO0,r,_,_,_⟩:=fg I.hok e;obtain ⟨u,hu,ru⟩:=RelO.some_of (v:=v) (o:=mA f) (by rw [<- l]; exact r f);exact rY I.kIn OO0 (c.get f) c.hd n hu (nA ru) (h u _ (I.tok _) ru)
theorem eS {m:Str} {g:Addr} {pl:Sem Bool} {Q:G7×List G7->G3->Prop} (I:Inv X pins σ H s) (e:H a=some (.ins C dx fs)) (c:Cls X.K C) (k:Meth X.K C m g) (l:fs.lookup m=none)
  (h:Q (.ref g,[.ref a]) s):wpAny (model X.prog X.w) A (getMethod (.ref a) m pl) Q E s:=by
 obtain ⟨mA,OO0,r,_,_,_⟩:=fg I.hok e;have hn:mA m=none:=RelO.none_of (by rw [<- l]; exact r m);exact pN I.kIn OO0 (c.get m) k.at_ k.fn hn h
theorem kI {y:V} {u:G7} {Q:Unit->G3->Prop} (I:Inv X pins σ H s) (e:H a=some (.ins C dx fs)) (c:Cls X.K C) (n:NoAttr X.K C f) (hl:fs.length < 1000) (ry:RelV y u)
  (h:∀s',Inv X pins σ (upd H a (.ins C dx (cI f y fs))) s'->Q () s'):wpAny (model X.prog X.w) A (setAttr (.ref a) f u) Q E s:=by
 obtain ⟨mA,OO0,r,wi,_,ho⟩:=fg I.hok e;have hz:(fs.map (·.1)).length<=sizeLine:=by rw [List.length_map,sizeLine_eq]; omega
 refine rZ I.kIn OO0 c.sa c.po n.taker c.hd wi hz λ h' O' sb=>h _ ?_;have hd:∃o,h'.get? dx=some o:=let ⟨o,_,_,e',_⟩:=O'.ns; ⟨o,e'⟩
 refine I.write (x:=a) (e:=dx) (by rw [e]; exact True.intro) (.inr ho) (λ b q hb z=>(sb.2 b hb).trans z) hd ?_;refine ⟨by rw [am OO0.ne]; exact ho,?_,OO0.ne,O'.obj,_,O'.ns,λ g=>?_,λ g hg=>?_⟩
 ·have:=dI f y fs; omega
 ·show RelO ((cI f y fs).lookup g) (if g=f then some u else mA g);rw [bE]
  by_cases q:g=f
  ·rw [if_pos q,if_pos q]; exact ry
  ·rw [if_neg q,if_neg q]; exact r g
 ·by_cases q:g=f
  ·rw [q]; exact (fN f y fs).1
  ·refine (fN f y fs).2 g (wi g λ z=>hg ?_);show (if g=f then some u else mA g)=none;rw [if_neg q]; exact z
theorem Inv.made (I:Inv X pins σ H s):Inv X pins σ (upd (upd H s.heap.objs.size (.own (s.heap.objs.size + 1))) (s.heap.objs.size + 1) (.ins C s.heap.objs.size []))
  { s with heap:=(s.heap.push PySem.W.emptyDict).push (PySem.W.instObj C s.heap.objs.size) }:=by
 have e1:(s.heap.push PySem.W.emptyDict).get? s.heap.objs.size=some PySem.W.emptyDict:=A7 s.heap rfl;have e2:((s.heap.push PySem.W.emptyDict).push (PySem.W.instObj C s.heap.objs.size)).get? (s.heap.objs.size + 1)=some (PySem.W.instObj C s.heap.objs.size):=by have:=A7 (s.heap.push PySem.W.emptyDict) (o:=PySem.W.instObj C s.heap.objs.size) rfl;rwa [Heap.size_push] at this
 have e3:(s.heap.push PySem.W.emptyDict).Ns s.heap.objs.size (λ _=>none):=⟨PySem.W.emptyDict,#[],_,e1,O,(λ e he=>absurd he (by simp)),λ _=>rfl⟩
 have I1:=I.laid (a:=s.heap.objs.size) (o:=.own (s.heap.objs.size + 1)) (h':=s.heap.push PySem.W.emptyDict) (t':=s.toks) (λ b u q=>A6 _ q) (B2 _) ⟨_,e1⟩;refine I1.laid (a:=s.heap.objs.size + 1) (o:=.ins C s.heap.objs.size []) (t':=s.toks) (λ b u q=>A6 _ q) (Nat.le_of_eq (Heap.size_push _ _)) ?_;have ne:s.heap.objs.size≠s.heap.objs.size + 1:=B8 (E7 _);refine ⟨by rw [am ne,ag],E5 _,ne,e2,λ _=>none,(Heap.Ns1.of_empty e3).at λ o q=>A6 _ q,λ _=>True.intro,λ y hy=>absurd rfl hy⟩
theorem si {prog:G4} {w:G6} {env:Env} {e:Expr} {f:Str} {pos:Pos} {s:G3} {Q:G7->G3->Prop} (hb:attributeBase e f env (eval e env)=eval e env)
  (h:wpAny (model prog w) A (eval e env) (λ o s₁=>wpAny (model prog w) A (getAttr o f true) Q E s₁) E s):wpAny (model prog w) A (eval (.Attribute e f pos) env) Q E s :=
 Attribute_any_ h (by rw [arm_eval_Attribute,hb])
end
def Gc (K:C3) (ta:TE) (f:Str):TE:=λ σ H Q=>ta σ H λ x H1=>∃a C dx fs v,x=.ref a/\H1 a=some (.ins C dx fs)/\Cls K C/\NoAttr K C f/\fs.lookup f=some v/\Q v H1
def zr (K:C3) (ta tv:TE) (f:Str):TS:=λ D σ H=>tv σ H λ y H1=>ta σ H1 λ x H2=>∃a C dx fs,x=.ref a/\H2 a=some (.ins C dx fs)/\Cls K C/\NoAttr K C f/\fs.length < 1000 /\
 D.nx σ (upd H2 a (.ins C dx (cI f y fs)))
section
variable {X:Cx} {o e value:Expr} {f:Str} {pos pos' tpos:Pos} {ta tv:TE}
theorem gK (he:PE X e ta) (hb:attributeBase e f X.env (eval e X.env)=eval e X.env):PE X (.Attribute e f pos) (Gc X.K ta f):=by intro pins s σ H Q I h;refine si hb (thn (he pins s σ H _ I h) λ u s1 ⟨x,H1,I1,rx,a,C,dx,fs,v,ex,ea,c,n,l,q⟩=>?_);subst ex;obtain rfl:u=Value.ref a:=rx;exact kH I1 ea c n l λ u' s2 I2 ru=>⟨v,H1,I2,ru,q⟩
theorem pP (ha:PE X o ta) (hv:PE X value tv) (hs:swapsWith value (some (.Attribute o f pos')) pos.line X.env=pure false):PS X (.Assign [.Attribute o f pos'] value pos) (zr X.K ta tv f):=by intro pins s σ H D I h;refine plainObj_wpAny_Assign_Attribute (thn (hv pins s σ H _ I h) λ u s1 ⟨y,H1,I1,ry,q⟩=>thn (ha pins s1 σ H1 _ I1 q) λ ov s2 ⟨x,H2,I2,rx,a,C,dx,fs,ex,ea,c,n,l,q2⟩=>?_) hs;subst ex;obtain rfl:ov=Value.ref a:=rx;exact kI I2 ea c n l ry λ s3 I3=>⟨σ,_,I3,q2⟩
theorem uF {pl:Sem Bool} {m:Str} {apos:Pos} {args:List Expr} {pins:List (Addr×Obj)} {s:G3} {σ:St} {H:Hp} {Q:G7->G3->Prop} {te:TE} (he:PE X e te) (I:Inv X pins σ H s)
  (h:te σ H λ x H1=>∃a C dx fs g,x=.ref a/\H1 a=some (.ins C dx fs)/\Cls X.K C/\Meth X.K C m g/\fs.lookup m=none /\
   ∀s1,Inv X pins σ H1 s1->wpAny (model X.prog X.w) X.A (callWith pos (.ref g) [.ref a] (backTo pos (starEach args X.env)) (backToKw pos (keywordEach [] X.env))) Q X.xe s1)
  (ht:eval (.Call (.Attribute e m apos) args [] pos) X.env=(do
   let ov<-eval e X.env
   standAt apos.atName
   let (f,first)<-holding [ov] (getMethod ov m pl)
   callWith pos f first (backTo pos (starEach args X.env)) (backToKw pos (keywordEach [] X.env)))) :
  wpAny (model X.prog X.w) X.A (eval (.Call (.Attribute e m apos) args [] pos) X.env) Q X.xe s:=by
 refine PySem.W.methodCall_KW (pl:=pl) (thn (he pins s σ H _ I h) λ u s1 ⟨x,H1,I1,rx,a,C,dx,fs,g,ex,ea,c,k,l,q⟩=>?_) ht;subst ex;obtain rfl:u=Value.ref a:=rx;exact eS I1 ea c k l (q s1 I1)
end
section
variable {X:Cx} {pins:List (Addr×Obj)} {σ:St} {H:Hp} {s:G3} {A:Around} {E:G7->G3->Prop} {Q:G7->G3->Prop} {c:G7} {b:Bool}
inductive TyOf (K:C3) (H:Hp):V->Value->Prop where
 | non:TyOf K H .non (.type "NoneType")
 | bl (x:Bool):TyOf K H (.bl x) (.type "bool")
 | int (i:Int):TyOf K H (.int i) (.type "int")
 | str (x:Str):TyOf K H (.str x) (.type "str")
 | flt (x:UInt64):TyOf K H (.flt x) (.type "float")
 | lst {a:Addr} {xs:List V} (e:H a=some (.lst xs)):TyOf K H (.ref a) (.type "list")
 | frz {a:Addr} {o:Obj} {xs:List V} (e:H a=some (.frz o (.lst xs))):TyOf K H (.ref a) (.type "list")
 | tup {a:Addr} {xs:List V} (e:H a=some (.tup xs)):TyOf K H (.ref a) (.type "tuple")
 | dK {a:Addr} {kvs:List (Key×V)} (e:H a=some (.dK kvs)):TyOf K H (.ref a) (.type "dict")
 | dT {a:Addr} {kvs:List (List Key×V)} (e:H a=some (.dT kvs)):TyOf K H (.ref a) (.type "dict")
 | ins {a C dx:Addr} {fs:List (Str×V)} (e:H a=some (.ins C dx fs)) (cl:Cls K C) (ha:PySem.W.findIn K (.ref C) "__class__" = some (some (.builtin "object.__class__")))
   (hn:PySem.W.specialIn K (.builtin "object.__class__") "__get__" = some (some (.builtin "getset_descriptor.__get__"))) (htk:PySem.W.takesIn K (.builtin "object.__class__")=some true)
   (hm:PySem.W.mroIn K C (.type "object")=some true):TyOf K H (.ref a) (.ref C)
theorem nC {x:V} {u t:G7} (I:Inv X pins σ H s) (rx:RelV x u) (ty:TyOf X.K H x t) (e:PySem.W.kitOne X.K t c=some b) (h:∀tk,Q (.bool b) { s with toks:=tk }) :
  wpAny (model X.prog X.w) A (call (.builtin "isinstance") [u,c]) Q E s:=by
 cases ty with
 | non=>cases (show u=Value.none from rx); exact PySem.W.kia_one PySem.W.kitx_none I.kIn True.intro e (λ z=>nomatch z) h
 | bl y=>cases (show u=Value.bool y from rx); exact PySem.W.kia_one PySem.W.kitx_bool I.kIn True.intro e (λ z=>nomatch z) h
 | int i=>obtain ⟨t,q⟩:=(show ∃t,u=Value.int i t from rx); cases q; exact PySem.W.kia_one PySem.W.kitx_int I.kIn True.intro e (λ z=>nomatch z) h
 | str y=>obtain ⟨t,q⟩:=(show ∃t,u=Value.str y t from rx); cases q; exact PySem.W.kia_one PySem.W.kitx_str I.kIn True.intro e (λ z=>nomatch z) h
 | flt y=>obtain ⟨t,q⟩:=(show ∃t,u=Value.float y t from rx); cases q; exact PySem.W.kia_one PySem.W.kitx_float I.kIn True.intro e (λ z=>nomatch z) h
 | @lst a xs ea =>
  cases (show u=Value.ref a from rx);obtain ⟨_,_,n,_,h1⟩:=(show ObjOk X.prog X.w H s.heap a (.lst xs) from I.hok a _ ea)
  exact PySem.W.kia_one PySem.W.kitx_list I.kIn ⟨_,h1,O⟩ e (λ z=>nomatch z) h
 | @frz a ob xs ea =>
  cases (show u=Value.ref a from rx);obtain ⟨_,_,_,n,_,h1⟩:=(show ObjOk X.prog X.w H s.heap a (.frz ob (.lst xs)) from I.hok a _ ea)
  exact PySem.W.kia_one PySem.W.kitx_list I.kIn ⟨_,h1,O⟩ e (λ z=>nomatch z) h
 | @tup a xs ea =>
  cases (show u=Value.ref a from rx);obtain ⟨_,_,_,p⟩:=(show ObjOk X.prog X.w H s.heap a (.tup xs) from I.hok a _ ea)
  obtain ⟨o,h1,h2,_⟩:=p;exact PySem.W.kia_one PySem.W.kitx_tuple I.kIn ⟨o,h1,h2⟩ e (λ z=>nomatch z) h
 | @dK a kvs ea =>
  cases (show u=Value.ref a from rx);obtain ⟨_,_,vs,_,p⟩:=(show ObjOk X.prog X.w H s.heap a (.dK kvs) from I.hok a _ ea)
  obtain ⟨o,es,ep,h1,h2,_⟩:=p;exact PySem.W.kia_one PySem.W.kitx_dict I.kIn ⟨o,h1,h2.1⟩ e (λ z=>nomatch z) h
 | @dT a kvs ea =>
  cases (show u=Value.ref a from rx);obtain ⟨_,_,xs,_,o,es,ep,h1,h2,_⟩:=(show ObjOk X.prog X.w H s.heap a (.dT kvs) from I.hok a _ ea)
  exact PySem.W.kia_one PySem.W.kitx_dict I.kIn ⟨o,h1,h2.1⟩ e (λ z=>nomatch z) h
 | @ins a C dx fs ea cl ha hn htk hm =>
  cases (show u=Value.ref a from rx);obtain ⟨mA,OO0,_⟩:=fg I.hok ea;obtain ⟨od,J,_⟩:=OO0.look;exact PySem.W.kia_one (PySem.W.kitx_own (cl.get _) cl.hd ha hn htk hm) I.kIn J e (λ z=>nomatch z) h
end
structure Room (k:Nat) (A:Around):Prop where
 hd:A.handled=none
 dp:A.depth + 3 * k + 5 < recursionLimit
 un:A.units + 16 * k + 200 < cLine
 gd:A.guards=some []
theorem Room.mono {j k:Nat} {A:Around} (r:Room k A) (h:j<=k):Room j A:=⟨r.hd,by have:=r.dp; omega,by have:=r.un; omega,r.gd⟩
theorem Room.deeper {k:Nat} {A:Around} (r:Room (k + 1) A) (env:Env):Room k (A.deeper env) :=
 ⟨r.hd,by have:=r.dp; show A.depth + 1 + 3 * k + 5 < _; omega,by have:=r.un; show A.units + 3 + 16 * k + 200 < _; omega,r.gd⟩
theorem kJ {A:Around} {C:Addr} {us:List G7} {kw:List (Str×G7)}:(A.under (.builtin "type.__call__" ⟨.ref C :: us,kw⟩)).depth=A.depth + 1:=by first | rfl | simp [Around.under,Code.weight,Code.isCreation,Code.isGuard,Code.isCaller,Code.frames,Code.isFrame,guardIds]
theorem kL {A:Around} {C:Addr} {us:List G7} {kw:List (Str×G7)}:(A.under (.builtin "type.__call__" ⟨.ref C :: us,kw⟩)).units=A.units + 1:=by first | rfl | simp [Around.under,Code.cUnits,Code.frames,Code.isFrame]
theorem jF {A:Around} {C:Addr} {us:List G7} {kw:List (Str×G7)}:(A.under (.builtin "type.__call__" ⟨.ref C :: us,kw⟩)).guards=A.guards:=by
 have e:Code.guards (.builtin "type.__call__" ⟨.ref C :: us,kw⟩)=[]:=by
  have:(Code.builtin "type.__call__" ⟨.ref C :: us,kw⟩).isGuard=false:=by show guardIds.contains "type.__call__" = false; decide +kernel
  simp [Code.guards,this]
 unfold Around.under;dsimp only;rw [e]
 rfl
theorem Room.make {k:Nat} {A:Around} (r:Room (k + 1) A) (C:Addr) (us:List G7) (kw:List (Str×G7)):Room k (A.under (.builtin "type.__call__" ⟨.ref C :: us,kw⟩)) :=
 ⟨r.hd,by have:=r.dp; rw [kJ]; omega,by have:=r.un; rw [kL]; omega,by rw [jF]; exact r.gd⟩
theorem Room.depth {k:Nat} {A:Around} (r:Room k A):A.depth < recursionLimit:=by have:=r.dp; omega
theorem Room.units {k:Nat} {A:Around} (r:Room k A):A.units + 64 < cLine:=by have:=r.un; omega
def jG:TA:=λ _ H Q=>Q [] H
def fh (ta:TE) (tr:TA):TA:=λ σ H Q=>ta σ H λ x H1=>tr σ H1 λ xs H2=>Q (x :: xs) H2
section
variable {X:Cx} {e:Expr} {es:List Expr} {te:TE} {t:TA} {pos:Pos}
theorem ad:PA X [] jG:=λ _ _ _ _ H Q I h=>Calls.spliced_nil ⟨[],H,I,.nil,h⟩
theorem aa (ha:PE X e te) (hr:PA X es t) (hs:starEach (e :: es) X.env=(false,eval e X.env) :: starEach es X.env:=by rfl):PA X (e :: es) (fh te t):=by intro pos pins s σ H Q I h;rw [hs];show wpAny _ _ (spliced ((false,eval e X.env) :: backTo pos (starEach es X.env))) _ _ s;refine Calls.spliced_cons (thn (ha pins s σ H _ I h) λ u s1 ⟨x,H1,I1,r1,q1⟩=>?_);exact thn (hr pos pins s1 σ H1 _ I1 q1) λ us s2 ⟨xs,H2,I2,r2,q2⟩=>⟨x :: xs,H2,I2,.cons r1 r2,q2⟩
def zt (t:TA):TE:=λ σ H Q=>t σ H λ xs H1=>xs.length<=sizeLine/\∀p,H1 p=none->Q (.ref p) (upd H1 p (.tup xs))
def Gd (t:TA):TE:=λ σ H Q=>t σ H λ xs H1=>xs.length<=sizeLine/\∀p,H1 p=none->Q (.ref p) (upd H1 p (.lst xs))
theorem az {x1} (h:PA X es t):PE X (.Tuple es x1 pos) (zt t):=by intro pins s σ H Q I hq;refine wpAny_Tuple_spliced (thn (h pos pins s σ H _ I hq) λ us s1 ⟨xs,H1,I1,r,z,q⟩=>⟨by rw [<- r.length]; exact z,?_⟩);have hf:H1 s1.heap.objs.size=none:=I1.hok.fresh (B2 _);refine ⟨.ref s1.heap.objs.size,upd H1 s1.heap.objs.size (.tup xs),I1.laid (t':=s1.toks) (λ b u e=>A6 _ e) (B2 _) ?_,O,q _ hf⟩;exact ⟨z,us,r,⟨_,A7 _ rfl,O,_,O⟩⟩
theorem aM (h:PA X es t):PE X (.List es pos) (Gd t):=by intro pins s σ H Q I hq;refine wpAny_List_spliced (thn (h pos pins s σ H _ I hq) λ us s1 ⟨xs,H1,I1,r,z,q⟩=>⟨by rw [<- r.length]; exact z,?_⟩);have hf:H1 s1.heap.objs.size=none:=I1.hok.fresh (B2 _);refine ⟨.ref s1.heap.objs.size,upd H1 s1.heap.objs.size (.lst xs),I1.laid (t':=s1.toks) (λ b u e=>A6 _ e) (B2 _) ?_,O,q _ hf⟩;exact ⟨z,us,0,r,A7 _ rfl⟩
end
abbrev Sp:=List V->Hp->VK->XK->Prop
abbrev CXT:=List Env->Hp->G3->XK->G7->G3->Prop
structure Env0 (P:Program) (w:World) (K:C3) (mg:Str->Option Value) (base:Heap) (A:Around) (outer:List Env) (s:Shared) (H:Hp):Prop where
 frames:A.frames=some outer
 mod:Mod K mg base
 bs:∀b o,base.get? b=some o->s.heap.get? b=some o/\H b=none
 bsz:base.objs.size<=s.heap.objs.size
 funs:s.heap.FunFrames base outer
 frf:∀b∈frs outer,H b=none
 hok:HOk P w H s.heap
 bare:AllBare s.gens
def CE (outer:List Env) (P:G4) (w:G6) (H:Hp) (s:G3) (Q:VK) (u:G7) (s':G3):Prop :=
 ∃v H',s'.os=s.os/\AllBare s'.gens/\Un (frs outer) [] H H' s.heap s'.heap/\HOk P w H' s'.heap/\RelV v u/\Q v H'
def CR (CX:CXT) (outer:List Env) (P:G4) (w:G6) (H:Hp) (s:G3) (Q:VK) (E:XK) (r:Result) (s':G3):Prop :=
 match r with
 | .ok (.ret u)=>CE outer P w H s Q u s'
 | .ok _=>False
 | .error e=>CX outer H s E e s'
structure FnOk (P:Program) (w:World) (K:C3) (mg:Str->Option Value) (base:Heap) (CX:CXT) (k:Nat) (f:Addr) (fd:FuncData) (ps:List Str) (sp:Sp):Prop where
 len:∀vs H Q E,sp vs H Q E->vs.length=ps.length
 run:∀ (A:Around) (outer:List Env) (s:G3) (H:Hp) (args:Args) (us:List G7) (vs:List V) (Q:VK) (E:XK),Room k A->Env0 P w K mg base A outer s H->BindsTo s fd args (ps.zip us)->Vals vs us->sp vs H Q E ->
  codeAny (model P w) A (.call (.ref f) args) (CR CX outer P w H s Q E) s
theorem FnOk.mono {P:G4} {w:G6} {K:C3} {mg:Str->Option G7} {base:Heap} {CX:CXT} {j k:Nat} {f:Addr} {fd:G5} {ps:List Str} {sp:Sp} (F:FnOk P w K mg base CX j f fd ps sp) (h:j<=k) :
  FnOk P w K mg base CX k f fd ps sp:=⟨F.len,λ A outer s H args us vs Q E hr=>F.run A outer s H args us vs Q E (hr.mono h)⟩
theorem Env0.make {P:G4} {w:G6} {K:C3} {mg:Str->Option G7} {base:Heap} {A:Around} {outer:List Env} {s:G3} {H:Hp} (e:Env0 P w K mg base A outer s H) (C:Addr) (us:List G7) (kw:List (Str×G7)) :
  Env0 P w K mg base (A.under (.builtin "type.__call__" ⟨.ref C :: us,kw⟩)) outer s H:=⟨by first | exact e.frames | (simpa [Around.under,Code.envs,Code.isFrame,pushEnvs] using e.frames),e.mod,e.bs,e.bsz,e.funs,e.frf,e.hok,e.bare⟩
section
variable {X:Cx} {pins:List (Addr×Obj)} {σ:St} {H:Hp} {s s':G3}
theorem Inv.env0 (I:Inv X pins σ H s):Env0 X.prog X.w X.K X.mg X.base X.A X.stack s H :=
 ⟨I.ok.frames,I.ok.mod,I.bs,C4 I.ok.bsz I.sz,I.stack,I.stkFree,I.hok,I.bare⟩
theorem Inv.after {Q:VK} {u:G7} (I:Inv X pins σ H s) (h:CE X.stack X.prog X.w H s Q u s'):EP X pins σ Q u s':=by obtain ⟨v,H',os,bare,un,hok,r,q⟩:=h;obtain ⟨hh,g,d,t,os'⟩:=s';obtain rfl:os'=s.os:=os;exact ⟨v,H',I.call (h':=hh) (g':=g) (d':=d) (t':=t) (ch:=[]) un hok bare (λ b z=>absurd z (by simp)),r,q⟩
end
def jH (sp:Sp) (dvs:List V) (E:XK) (t:TA):TE:=λ σ H Q=>t σ H λ vs H1=>sp (vs ++ dvs) H1 Q E
def mB (C:Addr) (m:Str) (sp:Sp) (dvs:List V) (E:XK) (ta:TE) (t:TA):TE:=λ σ H Q=>ta σ H λ x H1=>∃a dx fs,x=.ref a/\H1 a=some (.ins C dx fs)/\fs.lookup m=none /\
 t σ H1 λ vs H2=>sp (x :: (vs ++ dvs)) H2 Q E
def uG (C:Addr) (sp:Sp) (dvs:List V) (E:XK) (t:TA):TE:=λ σ H Q=>t σ H λ vs H1=>∀x dx,H1 x=none->H1 dx=none->dx≠x ->
 sp (.ref x :: (vs ++ dvs)) (upd (upd H1 dx (.own x)) x (.ins C dx [])) (λ v H2=>v=.non/\Q (.ref x) H2) E
def Binds (K:C3) (fd:G5) (ps:List Str) (ds:List G7):Prop :=
 ∀ (s:G3) (us:List G7),K.In s.heap->(us ++ ds).length=ps.length->BindsTo s fd ⟨us,[]⟩ (ps.zip (us ++ ds))
theorem Binds.all {K:C3} {fd:G5} {ps:List Str} (h:∀us:List G7,us.length=ps.length->bindArgs fd ⟨us,[]⟩=pure (ps.zip us)):Binds K fd ps []:=λ s us _ hl=>by rw [List.append_nil] at hl ⊢;exact .of_eq (h us hl)
def eU (CX:CXT) (X:Cx) (E:XK):Prop:=∀ (pins:List (Addr×Obj)) (σ:St) (H:Hp) (s:G3) (e:G7) (s':G3),Inv X pins σ H s->CX X.stack H s E e s'->X.xe e s'
section
variable {X:Cx} {CX:CXT} {k:Nat} {f C:Addr} {fd:G5} {ps:List Str} {sp:Sp} {dvs:List V} {ds:List G7} {E:XK} {x m:Str} {p pos apos:Pos} {e o:Expr} {es:List Expr} {ta:TE} {t:TA}
theorem kM {pins:List (Addr×Obj)} {σ:St} {H:Hp} {s:G3} {Q:VK} {us:List G7} {vs:List V} (F:FnOk X.prog X.w X.K X.mg X.base CX k f fd ps sp) (hr:Room k X.A) (hb:Binds X.K fd ps ds) (hd:Vals dvs ds) (hx:eU CX X E)
  (I:Inv X pins σ H s) (r:Vals vs us) (h:sp (vs ++ dvs) H Q E):wpAny (model X.prog X.w) X.A (call (.ref f) us) (EP X pins σ Q) X.xe s:=by
 have r2:Vals (vs ++ dvs) (us ++ ds):=r.append hd;have hl:(us ++ ds).length=ps.length:=by rw [<- r2.length]; exact F.len _ _ _ _ h
 refine wpAny_call (codeAny_mono (F.run X.A X.stack s H ⟨us,[]⟩ (us ++ ds) (vs ++ dvs) Q E hr I.env0 (hb s us I.kIn hl) r2 h) λ r s' hq=>?_);cases r with
 | error e=>exact hx pins σ H s e s' I hq
 | ok fl =>
  cases fl with
  | ret u=>exact I.after hq
  | next=>exact E4 hq
  | brk=>exact E4 hq
  | cont=>exact E4 hq
theorem sj (F:FnOk X.prog X.w X.K X.mg X.base CX k f fd ps sp) (hr:Room k X.A) (hg:Gl X x) (hm:X.mg x=some (.ref f)) (hk:PySem.W.keepIn X.K (.ref f)=true) (hb:Binds X.K fd ps ds) (hd:Vals dvs ds) (hx:eU CX X E)
  (ha:PA X (e :: es) t) (hdb:(x == ("__debug__" : Str))=false:=by decide) (he:starEach (e :: es) X.env=(false,eval e X.env) :: starEach es X.env:=by rfl) (hpl:(backTo pos (starEach es X.env)).any (·.1)=false:=by rfl) :
  PE X (.Call (.Name x p) (e :: es) [] pos) (jH sp dvs E t):=by
 intro pins s σ H Q I h;refine wpAny_Call_Name_kw (df I hg hm ?_ hdb);refine PySem.W.callWith_K (h₀:=X.base) I.ok.mod.kin hk (thn (ha pos pins s σ H _ I h) λ us s1 ⟨vs,H1,I1,r,q⟩=>⟨I1.kIn,?_⟩) he hpl;exact kM F hr hb hd hx I1 r q
theorem sk {pl:Sem Bool} (he:PE X o ta) (c:Cls X.K C) (hm:Meth X.K C m f) (F:FnOk X.prog X.w X.K X.mg X.base CX k f fd ps sp) (hr:Room k X.A) (hb:Binds X.K fd ps ds) (hd:Vals dvs ds) (hx:eU CX X E) (ha:PA X (e :: es) t)
  (hst:starEach (e :: es) X.env=(false,eval e X.env) :: starEach es X.env:=by rfl) (hpl:(backTo pos (starEach es X.env)).any (·.1)=false:=by rfl)
  (ht:eval (.Call (.Attribute o m apos) (e :: es) [] pos) X.env=(do
   let ov<-eval o X.env
   standAt apos.atName
   let (f,first)<-holding [ov] (getMethod ov m pl)
   callWith pos f first (backTo pos (starEach (e :: es) X.env)) (backToKw pos (keywordEach [] X.env))):=by rfl) :
  PE X (.Call (.Attribute o m apos) (e :: es) [] pos) (mB C m sp dvs E ta t):=by
 intro pins s σ H Q I h;refine PySem.W.methodCall_KW (pl:=pl) (thn (he pins s σ H _ I h) λ u s1 ⟨x,H1,I1,rx,a,dx,fs,ex,ea,l,q⟩=>?_) ht;subst ex;obtain rfl:u=Value.ref a:=rx;refine eS I1 ea c hm l ?_;refine PySem.W.callWith_K (first:=[.ref a]) (h₀:=X.base) I.ok.mod.kin hm.kp (thn (ha pos pins s1 σ H1 _ I1 q) λ us s2 ⟨vs,H2,I2,r,q2⟩=>⟨I2.kIn,?_⟩) hst hpl;exact kM (us:=.ref a :: us) (vs:=.ref a :: vs) F hr hb hd hx I2 (.cons rfl r) q2
theorem pQ {pl:Sem Bool} (he:PE X o ta) (c:Cls X.K C) (hm:Meth X.K C m f) (F:FnOk X.prog X.w X.K X.mg X.base CX k f fd ps sp) (hr:Room k X.A) (hb:Binds X.K fd ps ds) (hd:Vals dvs ds) (hx:eU CX X E)
  (ht:eval (.Call (.Attribute o m apos) [] [] pos) X.env=(do
   let ov<-eval o X.env
   standAt apos.atName
   let (f,first)<-holding [ov] (getMethod ov m pl)
   callWith pos f first (backTo pos (starEach [] X.env)) (backToKw pos (keywordEach [] X.env))):=by rfl) :
  PE X (.Call (.Attribute o m apos) [] [] pos) (mB C m sp dvs E ta jG):=by
 intro pins s σ H Q I h;refine PySem.W.methodCall_KW (pl:=pl) (thn (he pins s σ H _ I h) λ u s1 ⟨x,H1,I1,rx,a,dx,fs,ex,ea,l,q⟩=>?_) ht;subst ex;obtain rfl:u=Value.ref a:=rx;refine eS I1 ea c hm l ?_;exact PySem.W.callWith_K0 (first:=[.ref a]) I1.kIn hm.kp (kM (us:=[.ref a]) (vs:=[.ref a]) F hr hb hd hx I1 (.cons rfl .nil) q)
structure Mk (K:C3) (C f:Addr):Prop where
 makes:PySem.W.makesIn K C=true
 init:PySem.W.findIn K (.ref C) "__init__" = some (some (.ref f))
 fn:PySem.W.isFn K (.ref f)=true
 kp:PySem.W.keepIn K (.ref C)=true
theorem pR {pins:List (Addr×Obj)} {σ:St} {H:Hp} {s:G3} {Q:VK} {us:List G7} {vs:List V} (M:Mk X.K C f) (F:FnOk X.prog X.w X.K X.mg X.base CX k f fd ps sp) (hr:Room (k + 1) X.A) (hb:Binds X.K fd ps ds) (hd:Vals dvs ds)
  (hx:eU CX X E) (I:Inv X pins σ H s) (r:Vals vs us)
  (h:∀x dx,H x=none->H dx=none->dx≠x->sp (.ref x :: (vs ++ dvs)) (upd (upd H dx (.own x)) x (.ins C dx [])) (λ v H2=>v=.non/\Q (.ref x) H2) E) :
  wpAny (model X.prog X.w) X.A (call (.ref C) us) (EP X pins σ Q) X.xe s:=by
 have hq:=h (s.heap.objs.size + 1) s.heap.objs.size (I.hok.fresh (Nat.le_succ _)) (I.hok.fresh (B2 _)) (B8 (E7 _));have I2:=Inv.made (C:=C) I;have r2:Vals (V.ref (s.heap.objs.size + 1) :: (vs ++ dvs)) (Value.ref (s.heap.objs.size + 1) :: (us ++ ds)):=.cons rfl (r.append hd);have hl:(Value.ref (s.heap.objs.size + 1) :: us ++ ds).length=ps.length:=by have e:=r2.length;rw [F.len _ _ _ _ hq] at e;exact e.symm
 refine wpAny_call (pO (f:=f) I.kIn M.makes M.init (C2.mp M.fn) (codeAny_mono (F.run _ X.stack _ _ ⟨Value.ref (s.heap.objs.size + 1) :: us,[]⟩ (Value.ref (s.heap.objs.size + 1) :: (us ++ ds)) _ _ E (hr.make C us [])
  (I2.env0.make C us []) (hb _ (Value.ref (s.heap.objs.size + 1) :: us) I2.kIn hl) r2 hq) λ r s' hq'=>?_))
 cases r with
 | error e=>exact hx pins σ _ _ e s' I2 hq'
 | ok fl =>
  cases fl with
  | ret u =>
   obtain ⟨v,H',I3,rv,ev,q3⟩:=I2.after hq';subst ev;exact ⟨rv,⟨V.ref (s.heap.objs.size + 1),H',I3,O,q3⟩⟩
  | next=>exact E4 hq'
  | brk=>exact E4 hq'
  | cont=>exact E4 hq'
theorem sr (M:Mk X.K C f) (F:FnOk X.prog X.w X.K X.mg X.base CX k f fd ps sp) (hr:Room (k + 1) X.A) (hg:Gl X x) (hm:X.mg x=some (.ref C)) (hb:Binds X.K fd ps ds) (hd:Vals dvs ds) (hx:eU CX X E)
  (ha:PA X (e :: es) t) (hdb:(x == ("__debug__" : Str))=false:=by decide) (he:starEach (e :: es) X.env=(false,eval e X.env) :: starEach es X.env:=by rfl) (hpl:(backTo pos (starEach es X.env)).any (·.1)=false:=by rfl) :
  PE X (.Call (.Name x p) (e :: es) [] pos) (uG C sp dvs E t):=by
 intro pins s σ H Q I h;refine wpAny_Call_Name_kw (df I hg hm ?_ hdb);refine PySem.W.callWith_K (h₀:=X.base) I.ok.mod.kin M.kp (thn (ha pos pins s σ H _ I h) λ us s1 ⟨vs,H1,I1,r,q⟩=>⟨I1.kIn,?_⟩) he hpl;exact pR M F hr hb hd hx I1 r q
end
section
variable {X:Cx} {CX:CXT} {k:Nat} {f C:Addr} {fd:G5} {ps ks:List Str} {sp:Sp} {E:XK} {x m:Str} {p pos apos kpos:Pos} {e o:Expr} {es:List Expr} {kws:List Keyword} {te ta:TE} {t tk:TA} {nm:Option Str}
structure KBinds (K:C3) (fd:FuncData) (ps ks:List Str) (g:List Value->List Value->List Value) (gV:List V->List V->List V):Prop where
 to:∀ (s:G3) (us ws:List G7),K.In s.heap->(g us ws).length=ps.length->BindsTo s fd ⟨us,ks.zip ws⟩ (ps.zip (g us ws))
 rel:∀ {vs:List V} {us:List G7} {zs:List V} {ws:List G7},Vals vs us->Vals zs ws->Vals (gV vs zs) (g us ws)
variable {g:List G7->List G7->List G7} {gV:List V->List V->List V}
end
structure FnScope (N P:List Str) (sc:Scope):Prop where
 kind:sc.kind=.function
 co:sc.isCoroutine=false
 gen:sc.isGenerator=false
 nd:N.Nodup
 pre:N.take P.length=P
 par:∀x∈P,sc.names.lookup x=some .local\/sc.names.lookup x=some .cell
 nofree:∀y∈sc.names,y.2≠.free
theorem ir {kindOf:Str->Option NameKind} {x:Str}:∀ {binds:List (Str×G7)} {m:Str->Option G7},(∀v,(x,v)∉binds)->bindL kindOf binds m x=m x
 | [],_,_=>rfl
 | (n,v) :: r,m,h=>by
  unfold bindL;rw [ir λ w hw=>h w (List.mem_cons_of_mem _ hw)]
  split
  ·have:x≠n:=by rintro rfl; exact h v B6
   simp [this]
  ·rfl
theorem iu {kindOf:Str->Option NameKind} {x:Str}:∀ {binds:List (Str×G7)} {m:Str->Option G7},(∀v,(x,v)∉binds)->bindC kindOf binds m x=m x
 | [],_,_=>rfl
 | (n,v) :: r,m,h=>by
  unfold bindC;rw [iu λ w hw=>h w (List.mem_cons_of_mem _ hw)]
  split
  ·rfl
  ·have:x≠n:=by rintro rfl; exact h v B6
   simp [this]
theorem iw {kindOf:Str->Option NameKind} {x:Str} {v:G7}:∀ {P:List Str} {vs:List G7} {i:Nat} {m:Str->Option G7},P.Nodup->P[i]? = some x->vs[i]? = some v->kindOf x=some .local ->
  bindL kindOf (P.zip vs) m x=some v
 | [],_,_,_,_,h,_,_=>by simp at h
 | _ :: _,[],_,_,_,_,h,_=>by simp at h
 | p :: P,w :: vs,0,m,nd,h1,h2,hk=>by simp at h1 h2; subst h1; subst h2;show bindL kindOf ((p,w) :: P.zip vs) m p=_;unfold bindL;rw [ir λ v hv=>(List.nodup_cons.mp nd).1 (List.of_mem_zip hv).1,if_pos hk];simp
 | p :: P,w :: vs,i + 1,m,nd,h1,h2,hk=>by show bindL kindOf ((p,w) :: P.zip vs) m x=_;unfold bindL;exact iw (i:=i) (List.nodup_cons.mp nd).2 (by simpa using h1) (by simpa using h2) hk
theorem ix {kindOf:Str->Option NameKind} {x:Str} {v:G7}:∀ {P:List Str} {vs:List G7} {i:Nat} {m:Str->Option G7},P.Nodup->P[i]? = some x->vs[i]? = some v->kindOf x≠some .local ->
  bindC kindOf (P.zip vs) m x=some v
 | [],_,_,_,_,h,_,_=>by simp at h
 | _ :: _,[],_,_,_,_,h,_=>by simp at h
 | p :: P,w :: vs,0,m,nd,h1,h2,hk=>by simp at h1 h2; subst h1; subst h2;show bindC kindOf ((p,w) :: P.zip vs) m p=_;unfold bindC;rw [iu λ v hv=>(List.nodup_cons.mp nd).1 (List.of_mem_zip hv).1,if_neg hk];simp
 | p :: P,w :: vs,i + 1,m,nd,h1,h2,hk=>by show bindC kindOf ((p,w) :: P.zip vs) m x=_;unfold bindC;exact ix (i:=i) (List.nodup_cons.mp nd).2 (by simpa using h1) (by simpa using h2) hk
def cR (N:List Str) (vs:List V):St:=vs.map some ++ List.replicate (N.length - vs.length) none
def eG (CX:CXT) (P:G4) (w:G6) (K:C3) (mg:Str->Option G7) (base:Heap) (N:List Str) (qual:Str) (scope:Scope) (f:Addr) (cd:G7) (A:Around) (outer:List Env) (s:G3) (H:Hp) (E:XK):Cx where
 prog:=P
 w:=w
 K:=K
 mg:=mg
 base:=base
 A:=A.deeper (envOfC qual scope s.heap.objs.size f cd)
 N:=N
 s₀:=s
 H₀:=H
 env:=envOfC qual scope s.heap.objs.size f cd
 outer:=outer
 stack:=envOfC qual scope s.heap.objs.size f cd :: outer
 ex:=[]
 calm:=true
 fn:=λ _=>true
 pn:=[]
 xe:=λ e s'=>wpAny (model P w) (A.deeper (envOfC qual scope s.heap.objs.size f cd)) (leaving (envOfC qual scope s.heap.objs.size f cd) e) (λ _ s''=>CX outer H s E e s'') (λ e' s''=>CX outer H s E e' s'') s'
theorem jI {sc:Scope} {n:Nat} {x:Str} (h:sc.names.lookup x=some .cell):∃c,(cellsFrom n sc.names []).lookup x=some c:=by have q:=PySem.W.cellsFrom_some sc.names n [] (.inl h);exact Option.isSome_iff_exists.mp q
theorem iy {CX:CXT} {P:G4} {w:G6} {K:C3} {mg:Str->Option G7} {base:Heap} {N ps:List Str} {qual:Str} {scope:Scope} {f:Addr} {cd:G7} {A:Around} {outer:List Env} {s s1:G3} {H:Hp} {E:XK} {us:List G7} {vs:List V}
  (S:FnScope N ps scope) (hd:A.handled=none) (e0:Env0 P w K mg base A outer s H) (hl:vs.length=ps.length) (r:Vals vs us)
  (x:InCallC s s.heap.objs.size (bindL (envOfC qual scope s.heap.objs.size f cd).kindOf (ps.zip us) λ _=>none) (cellsFrom (s.heap.objs.size + 1) scope.names []) (bindC (envOfC qual scope s.heap.objs.size f cd).kindOf (ps.zip us) λ _=>none) s1) :
  Inv (eG CX P w K mg base N qual scope f cd A outer s H E) [] (cR N vs) H s1:=by
 have hpl:ps.length<=N.length:=by have:=congrArg List.length S.pre; rw [List.length_take] at this; omega
 obtain ⟨h1,tk,rfl,hk⟩:=x.done;have noA:∀b:Addr,b∉(eG CX P w K mg base N qual scope f cd A outer s H E).ex:=λ b z=>absurd (show b∈([]:List Addr) from z) (by simp);refine ⟨⟨e0.mod,S.kind,O,O,B2 _,λ y z c h1 h2=>?_,λ y hy=>?_,λ y c _ h=>?_,λ _=>hd,Around.frames_deeper e0.frames,.inr ⟨O,O⟩,λ b z=>absurd z (noA b),e0.bs,e0.bsz,λ b _ _=>noA b,λ b z=>absurd z (noA b),e0.funs,e0.frf⟩,
  rfl,e0.bare,Un.kept hk,⟨_,x.toInCall.ns,λ i y v h1 h2 h3=>?_⟩,λ y c h=>⟨_,x.cell y c h⟩,e0.hok.fresh (B2 _),λ y c h=>?_,λ p hp=>absurd (show p∈([]:List (Addr×Obj)) from hp) (by simp),e0.hok.kept hk,?_⟩
 ·exact name_of_addr x.apart (PySem.mem_of_lookup h1) (PySem.mem_of_lookup h2)
 ·have hy:scope.names.lookup y=some .cell\/scope.names.lookup y=some .free:=hy;rcases hy with hy | hy
  ·exact jI hy
  ·exact absurd rfl (S.nofree _ (PySem.mem_of_lookup hy))
 ·exact Nat.le_of_lt (x.above y c (PySem.mem_of_lookup h))
 ·have hi:i < vs.length:=by
   unfold cR at h2
   by_cases hi:i < vs.length
   ·exact hi
   ·rw [List.getElem?_append_right (by simpa using hi)] at h2;rw [List.getElem?_replicate] at h2
    split at h2 <;> cases h2
  have ha:vs[i]? = some v:=by
   unfold cR at h2;rw [List.getElem?_append_left (by simpa using hi),List.getElem?_map] at h2;cases e:vs[i]? with
   | none=>rw [e] at h2; cases h2
   | some a=>rw [e] at h2; cases h2; rfl
  obtain ⟨u,hu,rv⟩:=r.get ha;have hp:ps[i]? = some y:=by rw [<- S.pre,List.getElem?_take_of_lt (by omega)]; exact h1
  have ndP:ps.Nodup:=by rw [<- S.pre]; exact S.nd.sublist (List.take_sublist _ _)
  refine ⟨u,rv,?_⟩;rcases S.par y (B4 hp) with k | k
  ·exact .inl ⟨k,iw ndP hp hu k⟩
  ·obtain ⟨c,e⟩:=jI (n:=s.heap.objs.size + 1) k;refine .inr ⟨.inl k,c,e,?_⟩;have q:=x.cell y c e;rw [ix ndP hp hu (by show scope.names.lookup y≠_; rw [k]; decide)] at q;exact q
 ·exact e0.hok.fresh (Nat.le_of_lt (x.above y c (PySem.mem_of_lookup h)))
 ·unfold cR;show _=N.length;rw [List.length_append,List.length_map,List.length_replicate];omega
theorem uH {CX:CXT} {P:G4} {w:G6} {K:C3} {mg:Str->Option G7} {base:Heap} {k:Nat} {f:Addr} {name qual:Str} {params:Arguments} {body:List Stmt} {scope:Scope} {dV kV doc pm cdv ct oc:G7} {an od:Option Addr}
  {osl:Array (Option G7)} {N ps:List Str} {sp:Sp} (lk:K.lookup f=some ⟨oc,od,.func (E3 name qual params body scope dV kV doc pm an cdv ct),osl⟩) (hcd:PySem.W.codeIn K cdv qual=true) (S:FnScope N ps scope)
  (len:∀vs H Q E,sp vs H Q E->vs.length=ps.length)
  (hbody:∀ (A:Around) (outer:List Env) (s:G3) (H:Hp) (vs:List V) (Q:VK) (E:XK),Room k (A.deeper (envOfC qual scope s.heap.objs.size f cdv))->sp vs H Q E ->
   ∃t,PSs (eG CX P w K mg base N qual scope f cdv A outer s H E) body t/\t { nx:=λ _ H'=>Q .non H',rt:=Q } (cR N vs) H) :
  FnOk P w K mg base CX (k + 1) f (E3 name qual params body scope dV kV doc pm an cdv ct) ps sp:=by
 refine ⟨len,λ A outer s H args us vs Q E hr e0 hb r hsp=>?_⟩;have hl:=len _ _ _ _ hsp;have KX:K.In s.heap:=e0.mod.kin.keeps λ b o e=>(e0.bs b o e).1;have lim:s.heap.NoLimit:=e0.mod.nolimit.keeps λ b o e=>(e0.bs b o e).1;have hkind:∀y∈ps.zip us,scope.names.lookup y.1=some .local\/(scope.names.lookup y.1=some .cell/\((cellsFrom (s.heap.objs.size + 1) scope.names []).lookup y.1).isSome=true):=λ ⟨n,v⟩ hy=>by
  rcases S.par n (List.of_mem_zip hy).1 with q | q
  ·exact .inl q
  ·exact .inr ⟨q,PySem.W.cellsFrom_some _ _ _ (.inl q)⟩
 refine codeAny_call_function hr.depth (KX _ _ lk) rfl S.co S.gen rfl (PySem.W.codeRec_of KX hcd) (hb _ _ _ _ ?_);refine wpAny_newFunctionEnv_cells S.kind hkind λ env he s1 x=>?_;subst he;refine ⟨lim.keeps x.toInCall.keep,codeAny_func ?_⟩;obtain ⟨t,ht,hq⟩:=hbody A outer s H vs Q E (hr.deeper _) hsp;have I:Inv (eG CX P w K mg base N qual scope f cdv A outer s H E) [] (cR N vs) H s1:=iy S hr.hd e0 hl r x;refine wpAny_mono (ht [] s1 (cR N vs) H _ I hq) (λ fl s' hs=>?_) λ e s' hs=>hs;have fin:∀ {σ':St} {H':Hp} {v:V} {u:G7},Inv (eG CX P w K mg base N qual scope f cdv A outer s H E) [] σ' H' s'->RelV v u->Q v H'->CE outer P w H s Q u s' :=
  λ {σ' H' v u} J rv q=>⟨v,H',J.os,J.bare,J.base,J.hok,rv,q⟩
 cases fl with
 | ret u =>
  obtain ⟨v,σ',H',J,rv,q⟩:=hs;exact fin J rv q
 | next =>
  obtain ⟨σ',H',J,q⟩:=hs;exact fin (v:=V.non) (u:=Value.none) J rfl q
 | brk =>
  obtain ⟨_,_,_,q⟩:=hs;exact E4 q
 | cont =>
  obtain ⟨_,_,_,q⟩:=hs;exact E4 q
section
variable {X:Cx} {x:Str} {p pos:Pos} {e:Expr} {es:List Expr} {t:TA} {id T:String} {r:List V->Hp->VK->Prop}
def tCB (r:List V->Hp->VK->Prop) (t:TA):TE:=λ σ H Q=>t σ H λ vs H1=>r vs H1 Q
theorem ay (hc:cB X (.builtin id) r) (hg:Gl X x) (hm:X.mg x=none) (hv:bootBuiltins x=some (.builtin id)) (ha:PA X (e :: es) t) (hn:x ≠ "__name__" := by decide) (hdb:(x == ("__debug__" : Str))=false:=by decide)
  (he:starEach (e :: es) X.env=(false,eval e X.env) :: starEach es X.env:=by rfl) (hpl:(backTo pos (starEach es X.env)).any (·.1)=false:=by rfl):PE X (.Call (.Name x p) (e :: es) [] pos) (tCB r t):=by
 intro pins s σ H Q I h;refine wpAny_Call_Name_kw (eM I hg hm hv ?_ hn hdb);exact PyProof.Rows.callWith_builtin1 (thn (ha pos pins s σ H _ I h) λ us s1 ⟨vs,H1,I1,r1,q1⟩=>hc pins s1 σ H1 vs us Q I1 r1 q1) he hpl
theorem bG (hc:cB X (.type T) r) (hg:Gl X x) (hm:X.mg x=none) (hv:bootBuiltins x=some (.type T)) (ha:PA X (e :: es) t) (hn:x ≠ "__name__" := by decide) (hdb:(x == ("__debug__" : Str))=false:=by decide)
  (he:starEach (e :: es) X.env=(false,eval e X.env) :: starEach es X.env:=by rfl) (hpl:(backTo pos (starEach es X.env)).any (·.1)=false:=by rfl):PE X (.Call (.Name x p) (e :: es) [] pos) (tCB r t):=by
 intro pins s σ H Q I h;refine wpAny_Call_Name_kw (eM I hg hm hv ?_ hn hdb);exact PyProof.Rows.callWith_type1 (thn (ha pos pins s σ H _ I h) λ us s1 ⟨vs,H1,I1,r1,q1⟩=>hc pins s1 σ H1 vs us Q I1 r1 q1) he hpl
end
end L2
namespace HT
open PySem PyProof.Rows
section
variable {prog:G4} {w:G6} {A:Around} {E:G7->G3->Prop} {s:G3}
theorem cat_tup {t b:Addr} {vs ws:List G7} {Q:G7->G3->Prop} (ht:IsTup s.heap t vs.toArray) (hb:IsTup s.heap b ws.toArray) (hv:vs≠[])
  (h1:ws=[]->Q (.ref t) s) (h2:ws≠[]->Q (.ref s.heap.objs.size) { s with heap:=s.heap.push { cls:=.type "tuple",data:=.seq (vs ++ ws).toArray } })
  (hsz:vs.length + ws.length<=sizeLine):wpAny (model prog w) A (binaryOp .Add (.ref t) (.ref b)) Q E s:=by
 obtain ⟨⟨cls,dd,data,sl⟩,ho,hc,n,hd⟩:=id ht;obtain ⟨⟨cls2,dd2,data2,sl2⟩,ho2,hc2,n2,hd2⟩:=id hb;simp only at hc hd hc2 hd2;subst hc hd hc2 hd2;have e:vs.toArray ++ ws.toArray=(vs ++ ws).toArray:=by simp
 by_cases hw:ws=[]
 ·exact concat_meets ⟨_,ho,rfl⟩ ⟨_,ho2,rfl⟩ noFill_tuple_add seq_tuple_add PySem.F.slot_tuple_add PySem.F.entry_tuple_add (PySem.F.args_tuple_add_2 _ _)
   (tuple_addW1 t b vs.toArray ws.toArray n n2 dd dd2 sl sl2 (by simpa using hv) (by simp [hw])) ⟨ho,ho2,h1 hw⟩
 ·refine concat_meets ⟨_,ho,rfl⟩ ⟨_,ho2,rfl⟩ noFill_tuple_add seq_tuple_add PySem.F.slot_tuple_add PySem.F.entry_tuple_add (PySem.F.args_tuple_add_2 _ _)
   (tuple_addW2 t b vs.toArray ws.toArray n n2 dd dd2 sl sl2 (by simpa using hv) (by simpa using hw) (by rw [List.size_toArray,List.size_toArray]; exact hsz)) ⟨ho,ho2,?_⟩
  rw [e];exact h2 hw
def sIx (n d:Nat):Option Int->Nat
 | none=>d
 | some v=>if v < 0 then (v + (n:Int)).toNat else min v.toNat n
theorem sIx_none (n d:Nat):sIx n d none=d:=rfl
theorem sIx_nat (n d k:Nat):sIx n d (some (k:Int))=min k n:=by show (if (k:Int) < 0 then ((k:Int) + (n:Int)).toNat else min (k:Int).toNat n)=min k n;rw [if_neg (by omega),Int.toNat_natCast]
theorem uW (n d:Nat) (hd:d<=n) (o:Option Int):sIx n d o<=n:=by
 cases o with
 | none=>exact hd
 | some v =>
  show (if v < 0 then (v + (n:Int)).toNat else min v.toNat n)<=n
  by_cases hv:v < 0
  ·rw [if_pos hv]; omega
  ·rw [if_neg hv]; exact Nat.min_le_right _ _
theorem mC (v:Int) (n d:Nat):(if v < 0 then max (v + (n:Int)) 0 else min v (n:Int))=((sIx n d (some v):Nat):Int):=by
 show (if v < 0 then max (v + (n:Int)) 0 else min v (n:Int))=(((if v < 0 then (v + (n:Int)).toNat else min v.toNat n):Nat):Int)
 by_cases hv:v < 0
 ·simp only [if_pos hv]; omega
 ·simp only [if_neg hv]; omega
theorem kN (lo hi:Option Int) (n:Nat):Builtin.Slice.sliceAdjust lo hi 1 (n:Int)=(((sIx n 0 lo:Nat):Int),((sIx n n hi:Nat):Int)):=by
 have h1:¬ ((1:Int) < 0):=by omega
 unfold Builtin.Slice.sliceAdjust;simp only [h1,if_false];refine Prod.ext ?_ ?_
 ·cases lo with
  | none=>rfl
  | some v=>exact mC v n 0
 ·cases hi with
  | none=>rfl
  | some v=>exact mC v n n
theorem kO (i j:Nat):Builtin.Slice.slicePlaces (i:Int) (j:Int) 1=j - i:=by
 unfold Builtin.Slice.slicePlaces;have h1:(1:Int) > 0:=by omega
 simp only [h1,if_true,Int.ediv_one]
 split <;> omega
theorem gL {v:G7} {o:Option Int} {Q:Option Int->G3->Prop} (p:IsPart v o) (h:Q o s):wpAny (model prog w) A (Builtin.Slice.slicePartIndex v) Q E s:=by
 cases p with
 | none=>exact slicePart_none h
 | int i t=>exact slicePart_int h
theorem fO {sl:Addr} {vl vu:G7} {lo hi:Option Int} {n:Nat} {Q:Int×Int×Nat->G3->Prop} (hs:s.heap.IsSliceOf sl vl vu .none) (pl:IsPart vl lo) (pu:IsPart vu hi)
  (h:Q (((sIx n 0 lo:Nat):Int),1,sIx n n hi - sIx n 0 lo) s):wpAny (model prog w) A (Builtin.Slice.sliceApplied (.ref sl) (pure (n:Int))) Q E s:=by
 obtain ⟨os,hos,hcs,hds⟩:=id hs;unfold Builtin.Slice.sliceApplied Builtin.Slice.sliceFields;refine A0 (A0 (wpAny_field hos hds (x:=vl) rfl (A0 (wpAny_field hos hds (x:=vu) rfl (A0 (wpAny_field hos hds (x:=.none) rfl (A1 ?_)))))));refine A0 (slicePart_none ?_);show wpAny _ _ (if ((1:Int) == 0)=true then _ else _) _ _ s;rw [if_neg (by decide)];refine A0 (gL pl (A0 (gL pu (A0 (A1 ?_)))));show wpAny _ _ (match Builtin.Slice.sliceAdjust lo hi 1 (n:Int) with | (lo,hi)=>pure (lo,(1:Int),Builtin.Slice.slicePlaces lo hi 1)) _ _ s;rw [kN lo hi n];show wpAny _ _ (pure (((sIx n 0 lo:Nat):Int),(1:Int),Builtin.Slice.slicePlaces ((sIx n 0 lo:Nat):Int) ((sIx n n hi:Nat):Int) 1)) _ _ s;rw [kO];exact A1 h
theorem pT (xs:Array G7) (i k:Nat):((List.range k).filterMap λ (m:Nat)=>xs[((i:Int) + (m:Int) * 1).toNat]?).toArray=((xs.toList.drop i).take k).toArray:=by
 have e:(λ (m:Nat)=>xs[((i:Int) + (m:Int) * 1).toNat]?)=λ m=>xs[i + m]? := by
  funext m
  have:((i:Int) + (m:Int) * 1).toNat=i + m:=by omega
  rw [this]
 rw [e];have:=pick_run xs i k;rw [List.filterMap_map] at this;have e2:((λ x=>xs[x]?)∘λ x=>i + x)=λ m=>xs[i + m]? := rfl;rw [e2] at this;rw [this]
theorem getItem_tuple_cut {t sl:Addr} {items:Array G7} {vl vu:G7} {lo hi:Option Int} {Q:G7->G3->Prop} (ht:IsTup s.heap t items) (hs:s.heap.IsSliceOf sl vl vu .none) (pl:IsPart vl lo) (pu:IsPart vu hi)
  (hw:¬ (sIx items.size 0 lo=0/\sIx items.size items.size hi=items.size))
  (h:Q (.ref s.heap.objs.size) { s with heap:=s.heap.push { cls:=.type "tuple",data:=.seq ((items.toList.drop (sIx items.size 0 lo)).take (sIx items.size items.size hi - sIx items.size 0 lo)).toArray } })
  (hsz:items.size<=sizeLine):wpAny (model prog w) A (getItem (.ref t) (.ref sl)) Q E s:=by
 have htake:sizeOk (.seq ((items.toList.drop (sIx items.size 0 lo)).take (sIx items.size items.size hi - sIx items.size 0 lo)).toArray):=by show ((items.toList.drop (sIx items.size 0 lo)).take (sIx items.size items.size hi - sIx items.size 0 lo)).toArray.size<=sizeLine;rw [List.size_toArray,List.length_take,List.length_drop,Array.length_toList];omega
 have hj:sIx items.size items.size hi<=items.size:=uW _ _ (B2 _) hi;obtain ⟨os,hos,hcs,hds⟩:=id hs;have hTs:s.TypeIs (.ref sl) "slice" := ⟨os,hos,hcs⟩
 unfold getItem
 try with_reducible refine wpAny_holding ?_
 first | refine A0 (A1 ?_) | skip
 refine A0 (wpAny_sequenceKey ht.typeIs (by decide) ?_);refine A0 (wpAny_callSpecial?_slot (name:=Str.ofString "__getitem__") ht.typeIs PyProof.Rows.slot_tuple_getitem
  (G0 PyProof.Rows.slot_tuple_getitem ht.typeIs entry_tuple_getitem ?_ (args_tuple_getitem _ _)))
 show wpAny _ _ (Builtin.Tuple.tupleItemsOf (.ref t) >>= _) _ _ s;refine A0 (tupleItemsOf_ ht ?_);refine A0 (wpAny_typeOf hTs ?_);rw [if_pos (by decide)];refine A0 (fO hs pl pu ?_);have hno:¬ ((((sIx items.size 0 lo:Nat):Int) == 0 && (1:Int) == 1 && (sIx items.size items.size hi - sIx items.size 0 lo) == items.size)=true):=by intro q;rw [Bool.and_eq_true,Bool.and_eq_true] at q;have q1:((sIx items.size 0 lo:Nat):Int)=0:=eq_of_beq q.1.1;have q2:sIx items.size items.size hi - sIx items.size 0 lo=items.size:=eq_of_beq q.2;exact hw ⟨by omega,by omega⟩
 show wpAny _ _ (if (((sIx items.size 0 lo:Nat):Int) == 0 && (1:Int) == 1 && (sIx items.size items.size hi - sIx items.size 0 lo) == items.size)=true then _ else _) _ _ s;rw [if_neg hno,pT]
 first
  | exact A0 (m:=Builtin.Tuple.tupleExact _) (G1 (A1 ⟨_,rfl,A1 h⟩) htake)
  | exact A0 (m:=Builtin.Tuple.tupleExact _) (G1 (A0 (A1 (A1 ⟨_,rfl,A1 h⟩))) htake)
  | exact A0 (A0 (m:=Builtin.Tuple.tupleExact _) (G1 (A1 (A1 ⟨_,rfl,A1 h⟩)) htake))
  | exact A0 (A0 (m:=Builtin.Tuple.tupleExact _) (G1 (A1 ⟨_,rfl,A1 h⟩) htake))
end
end HT
namespace L2
open PySem PySem.Spec PyProof.Rows
abbrev TO:=St->Hp->(Option Int->Hp->Prop)->Prop
def PO (X:Cx) (e:Option Expr) (t:TO):Prop :=
 ∀ (pins:List (Addr×Obj)) (s:G3) (σ:St) (H:Hp) (Q:Option Int->Hp->Prop),Inv X pins σ H s->t σ H Q ->
  wpAny (model X.prog X.w) X.A (evalPart e X.env) (λ u s'=>∃o H',Inv X pins σ H' s'/\IsPart u o/\Q o H') X.xe s
def ss:TO:=λ _ H Q=>Q none H
def zu (t:TE):TO:=λ σ H Q=>t σ H λ x H1=>∃i,x=.int i/\Q (some i) H1
section
variable {X:Cx} {e:Expr} {te:TE} {lo hi:Option Expr} {tl th:TO} {pos p2:Pos}
theorem fi:PO X none ss:=by intro pins s σ H Q I h;rw [evalPart_none];exact A1 ⟨none,H,I,.none,h⟩
theorem fj (h:PE X e te):PO X (some e) (zu te):=by intro pins s σ H Q I hw;rw [evalPart_some];refine thn (h pins s σ H _ I hw) λ u s1 ⟨x,H1,I1,r1,q1⟩=>?_;obtain ⟨i,rfl,q⟩:=q1;obtain ⟨t,rfl⟩:=r1;exact ⟨some i,H1,I1,.int i t,q⟩
def SlR (X:Cx) (r:V->Option Int->Option Int->Hp->VK->Prop):Prop :=
 ∀ (pins:List (Addr×Obj)) (s:G3) (σ:St) (H:Hp) (x:V) (v vl vu:G7) (lo hi:Option Int) (sl:Addr) (Q:VK),Inv X pins σ H s->RelV x v->s.heap.IsSliceOf sl vl vu .none->IsPart vl lo->IsPart vu hi->r x lo hi H Q ->
  ∃T id,typeLookup (.type T) "__getitem__" = pure (some (.builtin id))/\s.TypeIs v T/\wpAny (model X.prog X.w) X.A (getItem v (.ref sl)) (EP X pins σ Q) X.xe s
theorem SlR.or {r r':V->Option Int->Option Int->Hp->VK->Prop} (h:SlR X r) (h':SlR X r'):SlR X (λ x lo hi H Q=>r x lo hi H Q\/r' x lo hi H Q):=by
 intro pins s σ H x v vl vu lo hi sl Q I rx hs pl pu q;rcases q with q | q
 ·exact h pins s σ H x v vl vu lo hi sl Q I rx hs pl pu q
 ·exact h' pins s σ H x v vl vu lo hi sl Q I rx hs pl pu q
def tSl (r:V->Option Int->Option Int->Hp->VK->Prop) (te:TE) (tl th:TO):TE:=λ σ H Q=>te σ H λ x H1=>tl σ H1 λ l H2=>th σ H2 λ u H3=>r x l u H3 Q
theorem dJ {r:V->Option Int->Option Int->Hp->VK->Prop} (hr:SlR X r) (he:PE X e te) (hl:PO X lo tl) (hu:PO X hi th):PE X (.Subscript e (.Slice lo hi none p2) pos) (tSl r te tl th):=by intro pins s σ H Q I h;refine Subscript_ (thn (he pins s σ H _ I h) λ v s1 ⟨x,H1,I1,r1,q1⟩=>?_);refine wpAny_Slice (thn (hl pins s1 σ H1 _ I1 q1) λ vl s2 ⟨l,H2,I2,pl,q2⟩=>thn (hu pins s2 σ H2 _ I2 q2) λ vu s3 ⟨u,H3,I3,pu,q3⟩=>?_);rw [evalPart_none];refine A1 ?_;have I4:Inv X pins σ H3 { s3 with heap:=s3.heap.push { cls:=.type "slice", data:=.fields #[vl, vu, .none] } }:=I3.kept (t':=s3.toks) λ b ob q=>A6 _ q;obtain ⟨T,id,hT,ht,hg⟩:=hr pins { s3 with heap:=s3.heap.push { cls:=.type "slice",data:=.fields #[vl,vu,.none] } } σ H3 x v vl vu l u s3.heap.objs.size Q I4 r1 (Heap.IsSliceOf.new ..) pl pu q3;show wpAny (model X.prog X.w) X.A (subscriptTail e (.Slice lo hi none p2) v (.ref s3.heap.objs.size)) (EP X pins σ Q) X.xe { s3 with heap:=s3.heap.push { cls:=.type "slice",data:=.fields #[vl,vu,.none] } };exact tail_any (ops:=[.ref s3.heap.objs.size,v]) ht hT hg (by with_unfolding_all rfl)
def gg (xs:List V) (lo hi:Option Int):List V:=(xs.drop (HT.sIx xs.length 0 lo)).take (HT.sIx xs.length xs.length hi - HT.sIx xs.length 0 lo)
theorem fX (xs:List V) (lo hi:Option Int):(gg xs lo hi).length<=xs.length:=by unfold gg;rw [List.length_take,List.length_drop];omega
def Ge (K:C3):V->Option Int->Option Int->Hp->VK->Prop:=λ x lo hi H Q=>∃a xs,x=.ref a/\SqT K H a xs /\
 ¬ (HT.sIx xs.length 0 lo=0/\HT.sIx xs.length xs.length hi=xs.length)/\∀p,H p=none->Q (.ref p) (upd H p (.tup (gg xs lo hi)))
theorem ja:SlR X (Ge X.K):=by
 intro pins s σ H x v vl vu lo hi sl Q I rx hs pl pu h;obtain ⟨a,xs,rfl,hx,hw,q⟩:=h;cases rx;obtain ⟨its,r,ht,hz⟩:=I.tuple hx;have hlen:its.toArray.size=xs.length:=by rw [List.size_toArray]; exact r.length.symm
 refine ⟨"tuple",_,PyProof.Rows.slot_tuple_getitem.lookup,ht.typeIs,?_⟩;refine HT.getItem_tuple_cut ht hs pl pu (by rw [hlen]; exact hw) ?_ (by rw [hlen]; exact hz);rw [hlen];refine ⟨.ref s.heap.objs.size,_,I.laid (t':=s.toks) (o:=.tup (gg xs lo hi)) (λ b ob q=>A6 _ q) (B2 _) ?_,O,q _ (I.hok.fresh (B2 _))⟩;exact ⟨C4 (fX xs lo hi) hz,_,(r.drop (HT.sIx xs.length 0 lo)).take (HT.sIx xs.length xs.length hi - HT.sIx xs.length 0 lo),IsTup.new _ _⟩
def zw (K:C3):R2:=λ x y H Q=>∃a b xs ys,x=.ref a/\y=.ref b/\SqT K H a xs/\SqT K H b ys/\xs≠[]/\xs.length + ys.length<=sizeLine /\
 (ys=[]->Q (.ref a) H)/\(ys≠[]->∀p,H p=none->Q (.ref p) (upd H p (.tup (xs ++ ys))))
theorem Vals.nil_iff {xs:List V} {us:List G7} (r:Vals xs us):us=[]↔xs=[]:=by
 cases r with
 | nil=>simp
 | cons _ _=>simp
theorem jb:OpR X (binaryOp .Add) (zw X.K):=by intro pins s σ H x y v u Q I rx ry h;obtain ⟨a,b,xs,ys,rfl,rfl,ha,hb,hx,hz,q1,q2⟩:=h;cases rx;cases ry;obtain ⟨its,r1,p1,_⟩:=I.tuple ha;obtain ⟨its2,r2,p2,_⟩:=I.tuple hb;refine HT.cat_tup p1 p2 (λ z=>hx (r1.nil_iff.mp z)) (λ z=>⟨.ref a,H,I,O,q1 (r2.nil_iff.mp z)⟩) (λ z=>?_) (by rw [<- r1.length,<- r2.length]; exact hz);refine ⟨.ref s.heap.objs.size,_,I.laid (t':=s.toks) (o:=.tup (xs ++ ys)) (λ b ob q=>A6 _ q) (B2 _) ?_,O,q2 (λ w=>z (r2.nil_iff.mpr w)) _ (I.hok.fresh (B2 _))⟩;exact ⟨by rw [List.length_append]; exact hz,_,r1.append r2,IsTup.new _ _⟩
end
def ixN (n:Nat) (i:Int):Option Nat:=if 0<=i then (if i < n then some i.toNat else none) else if -(n:Int)<=i then some (i + n).toNat else none
def atI {α:Type} (xs:List α) (i:Int):Option α:=(ixN xs.length i).bind λ j=>xs[j]?
theorem mD {n:Nat} {i:Int} {j:Nat} (h:ixN n i=some j):seqIndex? i n=some j/\j < n/\-(n:Int)<=i/\i < n:=by
 unfold ixN at h
 by_cases h0:0<=i
 ·rw [if_pos h0] at h
  by_cases h1:i < n
  ·rw [if_pos h1] at h;have e:i.toNat=j:=B7 h;exact ⟨by rw [seqIndex_of h0 h1,e],by omega,by omega,h1⟩
  ·rw [if_neg h1] at h; cases h
 ·rw [if_neg h0] at h
  by_cases h1:-(n:Int)<=i
  ·rw [if_pos h1] at h;have e:(i + n).toNat=j:=B7 h;exact ⟨by rw [seqIndex_neg (by omega) h1,e],by omega,h1,by omega⟩
  ·rw [if_neg h1] at h; cases h
theorem gp {α:Type} {xs:List α} {i:Int} {v:α} (h:atI xs i=some v):∃j,seqIndex? i xs.length=some j/\xs[j]? = some v/\j < xs.length/\-(xs.length:Int)<=i/\i < xs.length:=by
 unfold atI at h;cases e:ixN xs.length i with
 | none=>rw [e] at h; cases h
 | some j =>
  rw [e] at h;obtain ⟨h1,h2,h3,h4⟩:=mD e;exact ⟨j,h1,h,h2,h3,h4⟩
theorem mE {α:Type} {xs:List α} {j:Nat} {v:α} (h:xs[j]? = some v):atI xs (j:Int)=some v:=by
 have hj:j < xs.length:=(A5.mp h).1;have e:ixN xs.length (j:Int)=some j:=by unfold ixN;rw [if_pos (by omega),if_pos (by omega)]; simp
 unfold atI; rw [e]; exact h
def su (b:Expr):Prop:=∀o i,subscripted b false o i=operate [o,i] (getItem o i)
def IxR (X:Cx) (r:R2):Prop :=
 ∀ (value slice:Expr) (pins:List (Addr×Obj)) (s:G3) (σ:St) (H:Hp) (x y:V) (v u:G7) (Q:VK),Inv X pins σ H s->RelV x v->RelV y u->r x y H Q ->
  subscripted slice false v u=operate [v,u] (getItem v u)->wpAny (model X.prog X.w) X.A (subscriptTail value slice v u) (EP X pins σ Q) X.xe s
def MtR (X:Cx) (id:String) (r:V->List V->Hp->VK->Prop):Prop :=
 ∀ (pins:List (Addr×Obj)) (s:G3) (σ:St) (H:Hp) (x:V) (xs:List V) (v:G7) (us:List G7) (Q:VK),Inv X pins σ H s->RelV x v->Vals xs us->r x xs H Q ->
  wpAny (model X.prog X.w) X.A (call (.builtin id) (v :: us)) (EP X pins σ Q) X.xe s
section
variable {X:Cx} {a b:Expr} {ta tb:TE} {pos:Pos}
theorem IxR.or {r r':R2} (h:IxR X r) (h':IxR X r'):IxR X (λ x y H Q=>r x y H Q\/r' x y H Q):=by
 intro value slice pins s σ H x y v u Q I rx ry q hs;rcases q with q | q
 ·exact h value slice pins s σ H x y v u Q I rx ry q hs
 ·exact h' value slice pins s σ H x y v u Q I rx ry q hs
theorem ax {r:R2} (hr:IxR X r) (ha:PE X a ta) (hb:PE X b tb) (hs:su b):PE X (.Subscript a b pos) (tOp r ta tb):=by intro pins s σ H Q I h;exact Subscript_ (uT ha hb I h λ v u s2 x y H2 I2 rx ry q=>hr a b pins s2 σ H2 x y v u Q I2 rx ry q (hs _ _))
inductive rIxL (K:C3) (x:V) (y:V) (H:Hp) (Q:VK):Prop
 | mk (p:Addr) (xs:List V) (i:Int) (v:V) (e_0:x=.ref p) (e_1:y=.int i) (e_2:SqL K H p xs) (e_3:atI xs i=some v) (e_4:Q v H):rIxL K x y H Q
inductive rIxT (K:C3) (x:V) (y:V) (H:Hp) (Q:VK):Prop
 | mk (p:Addr) (xs:List V) (i:Int) (v:V) (e_0:x=.ref p) (e_1:y=.int i) (e_2:SqT K H p xs) (e_3:atI xs i=some v) (e_4:Q v H):rIxT K x y H Q
def zx:R2:=λ x y H Q=>∃z i c,x=.str z/\y=.int i/\z.length<=sizeLine/\atI z.cps.toList i=some c/\Q (.str ⟨#[c]⟩) H
theorem ix_list:IxR X (rIxL X.K):=by
 intro value slice pins s σ H x y v u Q I rx ry h hs;obtain ⟨p,xs,i,z,rfl,rfl,hq,he,q⟩:=h;cases rx;obtain ⟨t,rfl⟩:=ry;obtain ⟨its,r,pl,hz⟩:=I.list hq;obtain ⟨j,h1,h2,h3,h4,h5⟩:=gp he;obtain ⟨w,ew,rw'⟩:=r.get h2;have hl:=r.length;have hn:=eQ;have fin:EP X pins σ Q w s:=⟨z,H,I,rw',q⟩
 by_cases h0:0<=i
 ·have hj:i.toNat=j:=by rw [seqIndex_of h0 h5] at h1;exact B7 h1
  exact item_listR pl.isList h0 (by omega) (by rw [hj]; simpa using ew) fin hs
 ·have hj:(i + (its.toArray.size:Int)).toNat=j:=by rw [seqIndex_neg (by omega) h4] at h1;rw [List.size_toArray,<- hl];exact B7 h1
  exact subscriptTail_builtinR (x:=w) pl.isList.typeIs slot_list_getitem.lookup
   (wpAny_getItem_list_neg (Q:=λ r s'=>r=w/\EP X pins σ Q r s') pl.isList (by omega) (by rw [List.size_toArray] <;> omega) (by omega) (by rw [hj]; simpa using ew) ⟨rfl,fin⟩) hs
theorem ix_tup:IxR X (rIxT X.K):=by
 intro value slice pins s σ H x y v u Q I rx ry h hs;obtain ⟨p,xs,i,z,rfl,rfl,hq,he,q⟩:=h;cases rx;obtain ⟨t,rfl⟩:=ry;obtain ⟨its,r,pl,hz⟩:=I.tuple hq;obtain ⟨j,h1,h2,h3,h4,h5⟩:=gp he;obtain ⟨w,ew,rw'⟩:=r.get h2;have hl:=r.length;have hn:=eQ;have fin:EP X pins σ Q w s:=⟨z,H,I,rw',q⟩
 exact subscriptTail_builtinR (x:=w) pl.typeIs slot_tuple_getitem.lookup
  (getItem_tuple (j:=j) (Q:=λ r s'=>r=w/\EP X pins σ Q r s') pl (by omega) (by omega) (by rw [List.size_toArray,<- hl]; exact h1) (by simpa using ew) ⟨rfl,fin⟩) hs
theorem uX:IxR X zx:=by
 intro value slice pins s σ H x y v u Q I rx ry h hs;obtain ⟨z,i,c,rfl,rfl,hz,he,q⟩:=h;obtain ⟨t,rfl⟩:=rx;obtain ⟨t',rfl⟩:=ry;obtain ⟨j,h1,h2,h3,h4,h5⟩:=gp he;have hl:z.cps.toList.length=z.length:=by simp [Str.length]
 rw [hl] at h1 h4 h5;have hn:=eQ;exact tail_any (typeIs_str s z t) slot_str_getitem.lookup (getItem_str (c:=c) (by
  have e1:decide (i < -(2 ^ 63:Int))=false:=B0 (by omega);have e2:decide (i≥2 ^ 63)=false:=B0 (by omega);rw [e1,e2,Bool.or_false]) (by rw [h1]; simpa using h2) ⟨.str ⟨#[c]⟩,H,I.tok _,⟨_,rfl⟩,q⟩) hs
def rIx (K:C3):R2:=λ x y H Q=>rIxL K x y H Q\/rIxT K x y H Q\/zx x y H Q
theorem aP:IxR X (rIx X.K):=ix_list.or (ix_tup.or uX)
theorem kP (its:List G7) (n j:Nat) (u:G7):Obj.mapSeq (·.setIfInBounds j u) { cls:=.type "list",data:=.seq its.toArray n }={ cls:=.type "list",data:=.seq (its.set j u).toArray n }:=by simp [Obj.mapSeq]
theorem Inv.lst {pins:List (Addr×Obj)} {σ:St} {H:Hp} {s:G3} {p:Addr} {xs:List V} (I:Inv X pins σ H s) (h:H p=some (.lst xs)) :
  ∃ (its:List G7) (n:Nat),Vals xs its/\s.heap.get? p=some { cls:=.type "list",data:=.seq its.toArray n }/\xs.length<=sizeLine:=by
 obtain ⟨z,its,n,r,e⟩:=I.hok p _ h;exact ⟨its,n,r,e,z⟩
theorem Inv.lstUpd {pins:List (Addr×Obj)} {σ:St} {H:Hp} {s:G3} {p:Addr} {xs ys:List V} {its its':List G7} {n n':Nat} {f:Obj->Obj} (I:Inv X pins σ H s) (h:H p=some (.lst xs))
  (ho:s.heap.get? p=some { cls:=.type "list", data:=.seq its.toArray n }) (hf:f { cls:=.type "list", data:=.seq its.toArray n }={ cls:=.type "list", data:=.seq its'.toArray n' }) (r:Vals ys its') (hz:ys.length<=sizeLine) (t:Nat) :
  Inv X pins σ (upd H p (.lst ys)) { s with heap:=s.heap.update p f,toks:=t }:=by
 have e:(s.heap.update p f).get? p=some { cls:=.type "list", data:=.seq its'.toArray n' }:=by rw [Heap.get?_update_self f ho (by rw [hf] <;> rfl),hf]
 refine I.write (x:=p) (e:=p) (by rw [h]; trivial) (.inl rfl) (λ b u hb q=>(Heap.get?_update_other _ _ (Ne.symm hb)).trans q) ⟨_,e⟩ ?_;exact ⟨hz,its',n',r,e⟩
inductive rSetL (o:V) (i:V) (v:V) (H:Hp) (Q:Hp->Prop):Prop
 | mk (p:Addr) (xs:List V) (k:Int) (j:Nat) (e_0:o=.ref p) (e_1:i=.int k) (e_2:H p=some (.lst xs)) (e_3:ixN xs.length k=some j) (e_4:Q (upd H p (.lst (xs.set j v)))):rSetL o i v H Q
theorem dL:uQ X rSetL:=by
 intro pins s σ H o i v ov iv u Q I ro ri rv h;obtain ⟨p,xs,k,j,rfl,rfl,hp,hj,q⟩:=h;cases ro;obtain ⟨t,rfl⟩:=ri;obtain ⟨its,n,r,ho,hz⟩:=I.lst hp;obtain ⟨h1,h2,h3,h4⟩:=mD hj;have hl:=r.length;have hn:=eQ;have I':Inv X pins σ (upd H p (.lst (xs.set j v))) { s with heap:=s.heap.update p (Obj.mapSeq (·.setIfInBounds j u)) } :=
  I.lstUpd hp ho (kP its n j u) (r.set rv j) (by rw [List.length_set]; exact hz) s.toks
 by_cases h0:0<=k
 ·have hk:k.toNat=j:=by rw [seqIndex_of h0 h4] at h1;exact B7 h1
  exact PySem.W.ki_setAt ho h0 (by omega) (by rw [List.size_toArray,<- hl]; exact h4) (by rw [hk]; exact ⟨_,I',q⟩)
 ·have hk:(k + (its.toArray.size:Int)).toNat=j:=by rw [seqIndex_neg (by omega) h3] at h1;rw [List.size_toArray,<- hl];exact B7 h1
  exact PySem.W.ki_setBack ho (by omega) (by rw [List.size_toArray,<- hl]; exact h3) (by omega) (by rw [hk]; exact ⟨_,I',q⟩)
theorem jc (lo hi:Option Int) (n:Nat):(sliceBounds lo hi none n).1=((HT.sIx n 0 lo:Nat):Int)/\(sliceBounds lo hi none n).2.1=((HT.sIx n n hi:Nat):Int)/\(sliceBounds lo hi none n).2.2=1:=by
 refine ⟨?_,?_,O⟩
 ·cases lo with
  | none=>simp [sliceBounds,HT.sIx]
  | some i =>
   simp only [sliceBounds,HT.sIx,Option.getD_none,show (1:Int) > 0 by decide,if_true]
   by_cases h:i < 0
   ·simp only [h,if_true] <;> omega
   ·simp only [h,if_false] <;> omega
 ·cases hi with
  | none=>simp [sliceBounds,HT.sIx]
  | some i =>
   simp only [sliceBounds,HT.sIx,Option.getD_none,show (1:Int) > 0 by decide,if_true]
   by_cases h:i < 0
   ·simp only [h,if_true] <;> omega
   ·simp only [h,if_false] <;> omega
theorem ik (its:List G7) (lo hi:Option Int):slicePick its.toArray lo hi none=((its.drop (HT.sIx its.length 0 lo)).take (HT.sIx its.length its.length hi - HT.sIx its.length 0 lo)).toArray:=by obtain ⟨h1,h2,h3⟩:=jc lo hi its.toArray.size;unfold slicePick;rw [h1,h2,h3];simp only [sliceRange_one,pick_run,List.size_toArray] <;> rfl
inductive rSlL (K:C3) (x:V) (lo:Option Int) (hi:Option Int) (H:Hp) (Q:VK):Prop
 | mk (a:Addr) (xs:List V) (e_0:x=.ref a) (e_1:SqL K H a xs) (e_2:∀p,H p=none->Q (.ref p) (upd H p (.lst (gg xs lo hi)))):rSlL K x lo hi H Q
theorem FP:SlR X (rSlL X.K):=by intro pins s σ H x v vl vu lo hi sl Q I rx hs pl pu h;obtain ⟨a,xs,rfl,hx,q⟩:=h;cases rx;obtain ⟨its,r,ht,hz⟩:=I.list hx;have hlen:=r.length;refine ⟨"list",_,slot_list_getitem.lookup,ht.isList.typeIs,?_⟩;refine wpAny_getItem_list_slice ht.isList hs pl pu .none (by simp) ?_ (by rw [List.size_toArray] <;> omega);rw [ik,<- hlen];refine ⟨.ref s.heap.objs.size,_,I.laid (t':=s.toks) (o:=.lst (gg xs lo hi)) (λ b ob q=>A6 _ q) (B2 _) ?_,O,q _ (I.hok.fresh (B2 _))⟩;exact ⟨C4 (fX xs lo hi) hz,_,0,(r.drop (HT.sIx xs.length 0 lo)).take (HT.sIx xs.length xs.length hi - HT.sIx xs.length 0 lo),A7 _ rfl⟩
def fY:V->Bool
 | .non=>true
 | .bl _=>true
 | .int _=>true
 | .str _=>true
 | _=>false
def eqV:V->V->Bool
 | .non,.non=>true
 | .bl a,.bl b=>a == b
 | .bl a,.int b=>(if a then 1 else 0) == b
 | .int a,.bl b=>a == (if b then 1 else 0)
 | .int a,.int b=>a == b
 | .str a,.str b=>a == b
 | _,_=>false
theorem uY {A:Around} {s:G3} {y x:V} {u v:G7} (ry:RelV y u) (rx:RelV x v) (fy:fY y=true) (fx:fY x=true):SeqAt.EqAt A s u v (eqV y x):=by
 cases y with
 | non =>
  cases ry;cases x with
  | non=>cases rx; exact SeqAt.EqAt.same _
  | bl b=>cases rx; exact SeqAt.EqAt.none_bool b
  | int b=>obtain ⟨t,rfl⟩:=rx; exact SeqAt.EqAt.none_int b t
  | str b=>obtain ⟨t,rfl⟩:=rx; exact SeqAt.EqAt.none_str b t
  | _=>exact absurd (show false=true from fx) B1
 | bl a =>
  cases ry;cases x with
  | non=>cases rx; exact SeqAt.EqAt.bool_none a
  | bl b=>cases rx; exact SeqAt.EqAt.bool_bool a b
  | int b=>obtain ⟨t,rfl⟩:=rx; exact SeqAt.EqAt.bool_int a b t
  | str b=>obtain ⟨t,rfl⟩:=rx; exact SeqAt.EqAt.bool_str a b t
  | _=>exact absurd (show false=true from fx) B1
 | int a =>
  obtain ⟨t',rfl⟩:=ry;cases x with
  | non=>cases rx; exact SeqAt.EqAt.int_none a t'
  | bl b=>cases rx; exact SeqAt.EqAt.int_bool a t' b
  | int b=>obtain ⟨t,rfl⟩:=rx; exact SeqAt.EqAt.int_int a t' b t
  | str b=>obtain ⟨t,rfl⟩:=rx; exact SeqAt.EqAt.int_str a t' b t
  | _=>exact absurd (show false=true from fx) B1
 | str a =>
  obtain ⟨t',rfl⟩:=ry;cases x with
  | non=>cases rx; exact SeqAt.EqAt.str_none a t'
  | bl b=>cases rx; exact SeqAt.EqAt.str_bool a t' b
  | int b=>obtain ⟨t,rfl⟩:=rx; exact SeqAt.EqAt.str_int a t' b t
  | str b=>obtain ⟨t,rfl⟩:=rx; exact SeqAt.EqAt.str_str a t' b t
  | _=>exact absurd (show false=true from fx) B1
 | _=>exact absurd (show false=true from fy) B1
def eqU (x:V) (u:G7):Bool:=match u with
 | .none=>eqV .non x
 | .bool b=>eqV (.bl b) x
 | .int i _=>eqV (.int i) x
 | .str z _=>eqV (.str z) x
 | _=>false
theorem pU {x y:V} {u:G7} (r:RelV y u) (f:fY y=true):eqU x u=eqV y x:=by
 cases y with
 | non=>cases r; rfl
 | bl b=>cases r; rfl
 | int i=>obtain ⟨t,rfl⟩:=r; rfl
 | str z=>obtain ⟨t,rfl⟩:=r; rfl
 | _=>exact absurd (show false=true from f) B1
theorem fk {x:V}:∀ {xs:List V} {us:List G7},Vals xs us->xs.all fY=true->us.any (eqU x)=xs.any λ y=>eqV y x
 | _,_,.nil,_=>rfl
 | y :: xs,u :: us,.cons r t,f=>by rw [List.all_cons,Bool.and_eq_true] at f;rw [List.any_cons,List.any_cons,pU r f.1,fk t f.2]
theorem dM {A:Around} {s:G3} {x:V} {v:G7} (rx:RelV x v) (fx:fY x=true):∀ {xs:List V} {us:List G7},Vals xs us->xs.all fY=true->∀u∈us,SeqAt.EqAt A s u v (eqU x u)
 | _,_,.nil,_=>λ u hu=>by cases hu
 | y :: xs,u :: us,.cons r t,f=>λ u' hu=>by
  rw [List.all_cons,Bool.and_eq_true] at f;rcases List.mem_cons.mp hu with rfl | hu
  ·rw [pU r f.1]; exact uY r rx f.1 fx
  ·exact dM rx fx t f.2 u' hu
def inV (x:V) (xs:List V):Bool:=xs.any λ y=>eqV y x
def rIn (K:C3) (neg:Bool):R2:=λ x y H Q=>∃p xs,y=.ref p/\(SqL K H p xs\/SqT K H p xs)/\fY x=true/\xs.all fY=true/\Q (.bl (if neg then !inV x xs else inV x xs)) H
theorem nD:OpR X (compareOp .In) (rIn X.K false):=by
 intro pins s σ H x y v u Q I rx ry h;obtain ⟨p,xs,rfl,hq,fx,fs,q⟩:=h;cases ry;rcases hq with hq | hq
 ·obtain ⟨its,r,pl,hz⟩:=I.list hq;refine SeqAt.in_listAt (eqU x) pl.isList (λ w hw=>dM rx fx r fs w (by simpa using hw)) ⟨.bl _,H,I,rfl,?_⟩;rw [show its.toArray.any (eqU x)=its.any (eqU x) by simp,fk r fs];exact q
 ·obtain ⟨its,r,pl,hz⟩:=I.tuple hq;refine SeqAt.in_tupleAt (eqU x) pl (λ w hw=>dM rx fx r fs w (by simpa using hw)) ⟨.bl _,H,I,rfl,?_⟩;rw [show its.toArray.any (eqU x)=its.any (eqU x) by simp,fk r fs];exact q
theorem jd:OpR X (compareOp .NotIn) (rIn X.K true):=by
 intro pins s σ H x y v u Q I rx ry h;obtain ⟨p,xs,rfl,hq,fx,fs,q⟩:=h;cases ry;rcases hq with hq | hq
 ·obtain ⟨its,r,pl,hz⟩:=I.list hq;refine SeqAt.notIn_listAt (eqU x) pl.isList (λ w hw=>dM rx fx r fs w (by simpa using hw)) ⟨.bl _,H,I,rfl,?_⟩;rw [show its.toArray.any (eqU x)=its.any (eqU x) by simp,fk r fs];exact q
 ·obtain ⟨its,r,pl,hz⟩:=I.tuple hq;refine SeqAt.notIn_tupleAt (eqU x) pl (λ w hw=>dM rx fx r fs w (by simpa using hw)) ⟨.bl _,H,I,rfl,?_⟩;rw [show its.toArray.any (eqU x)=its.any (eqU x) by simp,fk r fs];exact q
theorem aN:cB X (.builtin "len") (λ xs H Q=>∃p ys,xs=[.ref p]/\(SqL X.K H p ys\/SqT X.K H p ys)/\Q (.int ys.length) H):=by
 intro pins s σ H xs us Q I r h;obtain ⟨p,ys,rfl,hq,q⟩:=h;obtain ⟨u,rfl,rx⟩:=fW r;cases rx;have hn:=eQ;rcases hq with hq | hq
 ·obtain ⟨its,r',pl,hz⟩:=I.list hq;have hlen:=r'.length;exact Calls.call_len_list pl.isList (by simp only [List.size_toArray] <;> omega) ⟨.int ys.length,H,I.tok _,⟨s.toks + 1,by rw [List.size_toArray,hlen]⟩,q⟩
 ·obtain ⟨its,r',pl,hz⟩:=I.tuple hq;have hlen:=r'.length;exact len_tuple pl (by simp only [List.size_toArray] <;> omega) ⟨.int ys.length,H,I.tok _,⟨s.toks + 1,by rw [List.size_toArray,hlen]⟩,q⟩
theorem je:cB X (.type "list") (λ xs H Q=>∃p ys,xs=[.ref p]/\(SqL X.K H p ys\/SqT X.K H p ys)/\∀l,H l=none->Q (.ref l) (upd H l (.lst ys))):=by
 intro pins s σ H xs us Q I r h;obtain ⟨p,ys,rfl,hq,q⟩:=h;obtain ⟨u,rfl,rx⟩:=fW r;cases rx;have fin:∀ (its:List G7),Vals ys its->ys.length<=sizeLine->∀ (h':Heap) (c':Nat),(∀b o',s.heap.get? b=some o'->h'.get? b=some o') ->
   h'.get? s.heap.objs.size=some { cls:=.type "list", dict:=none, data:=.seq its.toArray c', slots:=#[] }->EP X pins σ Q (.ref s.heap.objs.size) { s with heap:=h' }:=λ its r' hz h' c' kp e =>
  ⟨.ref s.heap.objs.size,_,I.laid (t':=s.toks) kp (B2 _) (show ObjOk X.prog X.w _ h' _ (.lst ys) from ⟨hz,its,c',r',e⟩),rfl,q _ (I.hok.fresh (B2 _))⟩
 rcases hq with hq | hq
 ·obtain ⟨its,r',pl,hz⟩:=I.list hq;have hlen:=r'.length;obtain ⟨o,ho,hc,n,hd⟩:=pl.isList;exact call_list_seq p (.inl rfl) ho hc hd (λ h' c' kp e=>fin its r' hz h' c' kp e) (by simp only [List.size_toArray] <;> omega)
 ·obtain ⟨its,r',pl,hz⟩:=I.tuple hq;have hlen:=r'.length;obtain ⟨o,ho,hc,n,hd⟩:=pl;exact call_list_seq p (.inr rfl) ho hc hd (λ h' c' kp e=>fin its r' hz h' c' kp e) (by simp only [List.size_toArray] <;> omega)
theorem eI:cB X (.type "tuple") (λ xs H Q=>∃p ys,xs=[.ref p]/\((SqL X.K H p ys/\∀l,H l=none->Q (.ref l) (upd H l (.tup ys)))\/(SqT X.K H p ys/\Q (.ref p) H))):=by
 intro pins s σ H xs us Q I r h;obtain ⟨p,ys,rfl,h⟩:=h;obtain ⟨u,rfl,rx⟩:=fW r;cases rx;rcases h with ⟨hq,q⟩ | ⟨hq,q⟩
 ·obtain ⟨its,r',pl,hz⟩:=I.list hq;have hlen:=r'.length;refine call_tuple_list pl.isList (λ h' kp=>?_) (by simp only [List.size_toArray] <;> omega);have I1:Inv X pins σ H { s with heap:=h' }:=I.kept (t':=s.toks) kp;have I2:Inv X pins σ (upd H h'.objs.size (.tup ys)) { s with heap:=h'.push { cls:=.type "tuple", data:=.seq its.toArray } } :=
   I1.laid (t':=s.toks) (λ b o e=>A6 _ e) (B2 _) (show ObjOk X.prog X.w _ _ _ (.tup ys) from ⟨hz,its,r',IsTup.new _ _⟩)
  exact ⟨.ref h'.objs.size,_,I2,O,q _ (I1.hok.fresh (B2 _))⟩
 ·obtain ⟨its,r',pl,hz⟩:=I.tuple hq;exact call_tuple_same pl ⟨.ref p,H,I,rfl,q⟩
def tyV (K:C3) (T:String) (x:V) (H:Hp):Prop:=match x with
 | .str _=>T = "str"
 | .int _=>T = "int"
 | .ref p=>(T = "list" /\ ∃xs,SqL K H p xs)\/(T = "tuple" /\ ∃o,K.lookup p=some o/\o.cls=.type "tuple" /\ o.dict=none) \/
   (T = "dict" /\ ((∃kvs,H p=some (.dK kvs))\/∃kvs,H p=some (.dT kvs)))\/(T = "set" /\ ∃S n,H p=some (.set S n))
 | _=>False
theorem pV {pins:List (Addr×Obj)} {σ:St} {H:Hp} {s:G3} {T:String} {x:V} {v:G7} (I:Inv X pins σ H s) (r:RelV x v) (ty:tyV X.K T x H) :
  s.TypeIs v T/\∀a,v=.ref a->∃ob,s.heap.get? a=some ob/\ob.dict=none:=by
 cases x with
 | str z =>
  obtain ⟨t,rfl⟩:=r;cases (show T = "str" from ty);exact ⟨typeIs_str s z t,λ _ e=>nomatch e⟩
 | int i =>
  obtain ⟨t,rfl⟩:=r;cases (show T = "int" from ty);exact ⟨typeIs_int s i t,λ _ e=>nomatch e⟩
 | ref p =>
  cases r;rcases ty with ⟨rfl,xs,hq⟩ | ⟨rfl,o,hk,hc,hd⟩ | ⟨rfl,hk⟩ | ⟨rfl,S,n,hk⟩
  ·obtain ⟨its,_,pl,_⟩:=I.list hq;refine ⟨pl.isList.typeIs,λ a e=>?_⟩;cases e;obtain ⟨o,n,e,c,hd,_⟩:=pl;exact ⟨o,e,hd⟩
  ·refine ⟨⟨o,I.kIn p o hk,hc⟩,λ a e=>?_⟩;cases e;exact ⟨o,I.kIn _ o hk,hd⟩
  ·have z:∃o,s.heap.get? p=some o/\o.ExactDict:=by
    rcases hk with ⟨kvs,hk⟩ | ⟨kvs,hk⟩
    ·obtain ⟨_,_,_,_,o,_,_,e,ex,_⟩:=I.hok p _ hk;exact ⟨o,e,ex⟩
    ·obtain ⟨_,_,_,_,o,_,_,e,ex,_⟩:=I.hok p _ hk;exact ⟨o,e,ex⟩
   obtain ⟨o,e,ex⟩:=z;refine ⟨⟨o,e,ex.1⟩,λ a e2=>?_⟩;cases e2;exact ⟨o,e,ex.2.1⟩
  ·obtain ⟨o,_,_,_,e,ex,_⟩:=I.hok p _ hk;refine ⟨⟨o,e,ex.1⟩,λ a e2=>?_⟩;cases e2;exact ⟨o,e,ex.2.1⟩
 | _=>exact E4 ty
def Gf (K:C3) (T:String) (r:V->List V->Hp->VK->Prop) (to:TE):TE:=λ σ H Q=>to σ H λ x H1=>tyV K T x H1/\r x [] H1 Q
def tBM (K:C3) (T:String) (r:V->List V->Hp->VK->Prop) (to:TE) (t:TA):TE:=λ σ H Q=>to σ H λ x H1=>tyV K T x H1/\t σ H1 λ xs H2=>r x xs H2 Q
variable {o e:Expr} {es:List Expr} {to:TE} {t:TA} {name:Str} {apos cpos:Pos} {T id:String} {r:V->List V->Hp->VK->Prop}
theorem pW (pa:PlainAttrs T) (slot:Slot T name id) (hty:typeOf (.builtin id)=pure (.type "method_descriptor")) (hm:MtR X id r) (ho:PE X o to)
  (hbase:attributeBase o name X.env (eval o X.env)=eval o X.env:=by rfl) (hline:(apos.endLine == cpos.line)=true:=by rfl):PE X (.Call (.Attribute o name apos) [] [] cpos) (Gf X.K T r to):=by
 intro pins s σ H Q I h;refine wpAny_Call_method0_late hbase hline (thn (ho pins s σ H _ I h) λ v s1 ⟨x,H1,I1,r1,ty,q1⟩=>?_);obtain ⟨h1,h2⟩:=pV I1 r1 ty;exact ⟨T,id,pa,slot,hty,h1,h2,Calls.callWith_builtin rfl (PySem.evalArgs_none (hm pins s1 σ H1 x [] v [] Q I1 r1 .nil q1))⟩
theorem cJ (pa:PlainAttrs T) (slot:Slot T name id) (hty:typeOf (.builtin id)=pure (.type "method_descriptor")) (hm:MtR X id r) (ho:PE X o to) (ha:PA X (e :: es) t)
  (hbase:attributeBase o name X.env (eval o X.env)=eval o X.env:=by rfl)
  (hfew:((backTo cpos (starEach (e :: es) X.env)).all (λ x=>!x.1) && (backToKw cpos (keywordEach [] X.env)).all (λ x=>x.1.isSome)
   && decide ((e :: es).length + ([]:List Keyword).length + (if ([]:List Keyword).isEmpty then 0 else 1) < 30))=true:=by rfl)
  (hline:(apos.endLine == cpos.line)=true:=by rfl) (hs:starEach (e :: es) X.env=(false,eval e X.env) :: starEach es X.env:=by rfl) (hplain:(backTo cpos (starEach es X.env)).any (·.1)=false:=by rfl) :
  PE X (.Call (.Attribute o name apos) (e :: es) [] cpos) (tBM X.K T r to t):=by
 intro pins s σ H Q I h;refine wpAny_Call_method_late hbase hfew hline rfl (thn (ho pins s σ H _ I h) λ v s1 ⟨x,H1,I1,r1,ty,q1⟩=>?_);obtain ⟨h1,h2⟩:=pV I1 r1 ty;refine ⟨T,id,pa,slot,hty,h1,h2,?_⟩;have hA:=ha cpos pins s1 σ H1 _ I1 q1;rw [hs] at hA ⊢;refine Calls.callWith_builtin (by show (false || (backTo cpos (starEach es X.env)).any (·.1))=false; rw [hplain] <;> rfl) (Calls.evalArgs_plain ?_);exact thn hA λ us s2 ⟨vs,H2,I2,r2,q2⟩=>hm pins s2 σ H2 x vs v us Q I2 r1 r2 q2
/- xs.append(e),list.index on a module's tuple .. are MtR facts of 06m -/
end
def MtM (X:Cx) (id:String) (r:V->List V->Hp->VK->Prop):Prop :=
 ∀ (pins:List (Addr×Obj)) (s:G3) (σ:St) (H:Hp) (x:V) (xs:List V) (v:G7) (us:List G7) (Q:VK),Inv X pins σ H s->RelV x v->Vals xs us->r x xs H Q ->
  wpAny (model X.prog X.w) X.A (call (.builtin id) (v :: us)) (EP X pins σ Q) X.xe s
theorem Vals.one:∀ {x:V} {us:List G7},Vals [x] us->∃u,us=[u]/\RelV x u
 | _,_,.cons r .nil=>⟨_,O,r⟩
theorem Vals.zero:∀ {us:List G7},Vals [] us->us=[]
 | _,.nil=>rfl
theorem Vals.dropLast {xs:List V} {us:List G7} (h:Vals xs us):Vals xs.dropLast us.dropLast:=by
 induction h with
 | nil=>exact .nil
 | cons r t ih =>
  cases t with
  | nil=>exact .nil
  | cons q t'=>exact .cons r ih
theorem Vals.reverse {xs:List V} {us:List G7} (h:Vals xs us):Vals xs.reverse us.reverse:=by
 induction h with
 | nil=>exact .nil
 | cons r t ih=>rw [List.reverse_cons,List.reverse_cons]; exact Vals.append ih (.cons r .nil)
theorem Vals.rep {xs:List V} {us:List G7} (h:Vals xs us):∀k:Nat,Vals (List.replicate k xs).flatten (List.replicate k us).flatten
 | 0=>.nil
 | k + 1=>by rw [List.replicate_succ,List.replicate_succ,List.flatten_cons,List.flatten_cons];exact Vals.append h (Vals.rep h k)
theorem kQ {α:Type} (l:List α):l.eraseIdx (l.length - 1)=l.dropLast:=by
 induction l with
 | nil=>rfl
 | cons a r ih =>
  cases r with
  | nil=>rfl
  | cons b r =>
   have e:(a :: b :: r).length - 1=((b :: r).length - 1) + 1:=by have h1:(a :: b :: r).length=r.length + 2:=rfl;have h2:(b :: r).length=r.length + 1:=rfl;omega
   rw [e,List.eraseIdx_cons_succ,ih]
   all_goals rfl
theorem iz (its:List G7):∀ (k:Nat) (acc:List G7),
  List.foldl (λ x1 x2=>x1 ++ x2) acc.toArray (List.replicate k its.toArray)=(acc ++ (List.replicate k its).flatten).toArray
 | 0,acc=>by simp
 | k + 1,acc=>by
  have e:acc.toArray ++ its.toArray=(acc ++ its).toArray:=by simp
  have e2:(acc ++ its) ++ (List.replicate k its).flatten=acc ++ (List.replicate (k + 1) its).flatten:=by rw [List.replicate_succ,List.flatten_cons,List.append_assoc]
  rw [<- e2,<- iz its k (acc ++ its),<- e,List.replicate_succ,List.foldl_cons]
section
variable {X:Cx} {pins:List (Addr×Obj)} {σ:St} {H:Hp} {s:G3} {l b:Addr} {xs ys zs:List V}
theorem Inv.lset {its its':List G7} {n:Nat} {f:Array G7->Array G7} {t':Nat} (I:Inv X pins σ H s) (hH:H l=some (.lst xs))
  (e:s.heap.get? l=some { cls:=.type "list", data:=.seq its.toArray n }) (hf:f its.toArray=its'.toArray) (hv:Vals ys its') (hz:ys.length<=sizeLine) :
  Inv X pins σ (upd H l (.lst ys)) { s with heap:=s.heap.update l (Obj.mapSeq f),toks:=t' }:=by
 have q:=PySem.IsL.update e f;rw [hf] at q;refine I.write (x:=l) (e:=l) (by rw [hH]; exact trivial) (.inl rfl) (λ b' u hb hu=>(Heap.get?_update_other s.heap (Obj.mapSeq f) (Ne.symm hb)).trans hu) ⟨_,q⟩ ?_;exact ⟨hz,its',_,hv,q⟩
theorem Inv.lnew {its:List G7} {t':Nat} (I:Inv X pins σ H s) (hv:Vals ys its) (hz:ys.length<=sizeLine) :
  Inv X pins σ (upd H s.heap.objs.size (.lst ys)) { s with heap:=s.heap.push { cls:=.type "list", data:=.seq its.toArray }, toks:=t' } :=
 I.laid (λ _ _ q=>A6 _ q) (B2 _) ⟨hz,its,0,hv,A7 _ rfl⟩
theorem Inv.fresh (I:Inv X pins σ H s):H s.heap.objs.size=none:=I.hok.fresh (B2 _)
theorem Inv.lstM (I:Inv X pins σ H s) (hH:H l=some (.lst xs)):xs.length<=sizeLine/\∃ (its:List G7) (n:Nat),Vals xs its/\xs.length=its.length/\s.heap.get? l=some { cls:=.type "list",data:=.seq its.toArray n }:=by obtain ⟨z,its,n,r,e⟩:=I.hok l _ hH;exact ⟨z,its,n,r,r.length,e⟩
theorem jJ {n:Nat} (h:n<=sizeLine):Builtin.List.listTooLong n=false:=by unfold Builtin.List.listTooLong;exact B0 (by omega)
end
section
variable {X:Cx}
inductive rAppend (x:V) (vs:List V) (H:Hp) (Q:VK):Prop
 | mk (l:Addr) (xs:List V) (y:V) (e_0:x=.ref l) (e_1:vs=[y]) (e_2:H l=some (.lst xs)) (e_3:xs.length < sizeLine) (e_4:Q .non (upd H l (.lst (xs ++ [y])))):rAppend x vs H Q
theorem bC:MtM X "list.append" rAppend:=by intro pins s σ H x vs v us Q I rx rv h;obtain ⟨l,xs,y,rfl,rfl,hH,hz,q⟩:=h;cases rx;obtain ⟨u,rfl,ru⟩:=rv.one;obtain ⟨z,its,n,r,hl,e⟩:=I.lstM hH;refine call_meets F.slot_list_append ⟨_,e,O⟩ F.entry_list_append (F.args_list_append_2 _ _) (PySem.list_append l its.toArray n u (by rw [List.size_toArray]; omega)) ⟨e,?_⟩;refine ⟨.non,_,I.lset (its':=its ++ [u]) hH e (by simp) (r.append (.cons ru .nil)) ?_,O,q⟩;rw [List.length_append,List.length_singleton];omega
def sv:V->List V->Hp->VK->Prop:=λ x vs H Q=>∃l b xs zs,x=.ref l/\vs=[.ref b]/\H l=some (.lst xs)/\H b=some (.lst zs)/\xs.length + zs.length<=sizeLine/\Q .non (upd H l (.lst (xs ++ zs)))
theorem ek:MtM X "list.extend" sv:=by
 intro pins s σ H x vs v us Q I rx rv h;obtain ⟨l,b,xs,zs,rfl,rfl,hH,hB,hz,q⟩:=h;cases rx;obtain ⟨u,rfl,ru⟩:=rv.one;cases ru;obtain ⟨z,its,n,r,hl,e⟩:=I.lstM hH;obtain ⟨z2,its2,n2,r2,hl2,e2⟩:=I.lstM hB;have hsz:its.toArray.size + its2.toArray.size<=sizeLine:=by rw [List.size_toArray,List.size_toArray]; omega
 have hlong:¬ (!its.toArray.isEmpty && Builtin.List.listTooLong (its.toArray.size + its2.toArray.size))=true:=by rw [jJ hsz,Bool.and_false];exact B1
 refine call_meets F.slot_list_extend ⟨_,e,O⟩ F.entry_list_extend (F.args_list_extend_2 _ _)
  (AutoSeq1.list_extend_list_list_0 l its.toArray n b its2.toArray n2 hlong (by rw [List.size_toArray]; omega) (by omega)) ⟨e,e2,?_⟩
 refine ⟨.non,_,I.lset (its':=its ++ its2) hH e (by simp) (r.append r2) ?_,O,q⟩;rw [List.length_append];omega
def Gg:V->List V->Hp->VK->Prop:=λ x vs H Q=>∃l xs y,x=.ref l/\vs=[]/\H l=some (.lst xs)/\xs[xs.length - 1]? = some y/\Q y (upd H l (.lst xs.dropLast))
theorem pX:MtM X "list.pop" Gg:=by
 intro pins s σ H x vs v us Q I rx rv h;obtain ⟨l,xs,y,rfl,rfl,hH,hy,q⟩:=h;cases rx;have hus:=rv.zero;subst hus;obtain ⟨z,its,n,r,hl,e⟩:=I.lstM hH;obtain ⟨u,hu,ru⟩:=r.get hy;have hy':its.toArray[its.toArray.size - 1]? = some u:=by show its.toArray[its.length - 1]? = some u;rw [<- Array.getElem?_toList,<- hl];exact hu
 refine call_meets F.slot_list_pop ⟨_,e,O⟩ F.entry_list_pop (F.args_list_pop_1 _) (MeetsSeq.list_pop_last l its.toArray n u hy' (by rw [List.size_toArray]; omega)) ⟨e,?_⟩;refine ⟨y,_,I.lset (its':=its.dropLast) hH e ?_ r.dropLast ?_,ru,q⟩
 ·show its.toArray.eraseIdxIfInBounds (its.toArray.size - 1)=its.dropLast.toArray;rw [List.size_toArray,List.eraseIdxIfInBounds_toArray,kQ]
 ·rw [List.length_dropLast];omega
inductive rCat (x:V) (y:V) (H:Hp) (Q:VK):Prop
 | mk (l:Addr) (b:Addr) (xs:List V) (zs:List V) (e_0:x=.ref l) (e_1:y=.ref b) (e_2:H l=some (.lst xs)) (e_3:H b=some (.lst zs)) (e_4:xs.length + zs.length<=sizeLine) (e_5:∀p,H p=none->Q (.ref p) (upd H p (.lst (xs ++ zs)))):rCat x y H Q
theorem uZ:OpR X (binaryOp .Add) rCat:=by
 intro pins s σ H x y v u Q I rx ry h;obtain ⟨l,b,xs,zs,rfl,rfl,hH,hB,hz,q⟩:=h;cases rx;cases ry;obtain ⟨z,its,n,r,hl,e⟩:=I.lstM hH;obtain ⟨z2,its2,n2,r2,hl2,e2⟩:=I.lstM hB;refine PySem.P.add_list e e2 ?_ (by rw [List.size_toArray,List.size_toArray]; omega);have ea:its.toArray ++ its2.toArray=(its ++ its2).toArray:=by simp
 rw [ea];exact ⟨.ref _,_,I.lnew (t':=s.toks) (r.append r2) (by rw [List.length_append]; omega),O,q _ I.fresh⟩
def Gh:R2:=λ x y H Q=>∃l k xs,x=.ref l/\y=.int k/\H l=some (.lst xs)/\-(2 ^ 63)<=k/\k < 2 ^ 63/\xs.length * k.toNat<=sizeLine /\
 ∀p,H p=none->Q (.ref p) (upd H p (.lst (List.replicate k.toNat xs).flatten))
theorem sC {α:Type} (xs:List α) (k:Nat):(List.replicate k xs).flatten.length=k * xs.length:=by
 induction k with
 | zero=>simp
 | succ k ih=>rw [List.replicate_succ,List.flatten_cons,List.length_append,ih,Nat.succ_mul,Nat.add_comm]
theorem va:OpR X (binaryOp .Mult) Gh:=by
 intro pins s σ H x y v u Q I rx ry h;obtain ⟨l,k,xs,rfl,rfl,hH,h1,h2,hz,q⟩:=h;cases rx;obtain ⟨t,rfl⟩:=ry;obtain ⟨z,its,n,r,hl,e⟩:=I.lstM hH;have hlen:its.toArray.size * k.toNat<=sizeLine:=by rw [List.size_toArray,<- hl]; exact hz
 have hcap:¬ its.toArray.size * k.toNat > (2 ^ 63 - 1) / 8:=by
  have:(sizeLine:Nat)<=(2 ^ 63 - 1) / 8:=by decide
  omega
 have hfit:¬ (!Builtin.List.listFitsIndex k)=true:=by rw [fitsIndex_both h1 h2];exact B1
 have hlong:¬ Builtin.List.listTooLong (its.toArray.size * k.toNat)=true:=by rw [jJ hlen];exact B1
 have hnew:List.foldl (λ x1 x2=>x1 ++ x2) #[] (List.replicate (if its.toArray.isEmpty=true then 0 else k.toNat) its.toArray)=(List.replicate k.toNat its).flatten.toArray:=by
  have f0:∀m:Nat,List.foldl (λ x1 x2=>x1 ++ x2) #[] (List.replicate m its.toArray)=(List.replicate m its).flatten.toArray:=λ m=>by have:=iz its m [];rw [List.nil_append] at this;exact this
  rw [f0];cases its with
  | nil=>simp
  | cons a r'=>rw [if_neg (by simp)]
 refine wpAny_binaryOp_repeat_ref (T := "list") (U := "int") (by decide) ⟨_, e, rfl⟩ (λ s'=>typeIs_int s' k t) noFill_list_mul F.fills_int_mul F.slot_int_rmul repeat_list F.slot_int_index.lookup
  (call_meets F.slot_int_rmul (typeIs_int s k t) F.entry_int_rmul (F.args_int_rmul_2 _ _) (int___rmul___int_list k t l its.toArray n)
   ⟨e,rfl,⟨_,e,rfl⟩,call_meets F.slot_list_mul ⟨_,e,rfl⟩ F.entry_list_mul (F.args_list_mul_2 _ _) (AutoListH.list___mul___list_int_3 l its.toArray n k t hfit hcap hlong) ⟨e,?_⟩⟩)
 rw [hnew];exact ⟨.ref _,_,I.lnew (t':=s.toks) (r.rep k.toNat) (by rw [sC,Nat.mul_comm]; exact hz),O,q _ I.fresh⟩
end
end L2
namespace Att
open PySem PySem.W PySem.Calls PyProof.Rows
theorem gh {P:Params} {h:Heap}:∀ (ns:List Int) (vs:List G7),WellAll P h vs (ns.map WData.int)->IntsAre vs ns:=by
 intro ns
 induction ns with
 | nil =>
  intro vs w;rw [List.map_nil] at w;cases w;exact .nil
 | cons n ns ih =>
  intro vs w;rw [List.map_cons] at w;cases w with
  | cons a b =>
   cases a;exact .cons _ _ (ih _ b)
theorem nE {l:OpenLaw} {n:Nat} (hn:l.most=some n) {P:Params} {h:Heap} {args:List WData} {vals:List G7}
  (hpre:l.row.toRowW.claim.pre args=true) (hwl:WellAll P h vals args) :
  ∃a vs ns,vals=[Value.ref a]/\args=[WData.list (ns.map WData.int)]/\h.get? a=some { cls:=.type "list",data:=.seq vs.toArray }/\IntsAre vs ns/\ns.length<=n:=by
 have hsh:WShape.hasAll [] args [.list .int]=true:=(pre_splitW hpre).1;have hc:l.pre.holds [] { args:=args }=true:=(pre_splitW hpre).2;obtain ⟨d,r,rfl,h1,h2⟩:=hasAllW_cons hsh;obtain rfl:=hasAllW_nil h2;obtain ⟨xs,rfl,h3⟩:=hasW_list h1;obtain ⟨ns,rfl⟩:=items_int h3;have hlen:ns.length<=n:=by
  unfold OpenLaw.pre at hc;have h4:(WTm.not (.lt (.lit (.int (n:Int))) (.len (.arg 0)))).holds [] { args:=[.list (ns.map .int)] }=true:=by have h4:=(holds_andW hc).1;rw [hn] at h4;exact h4
  have h5:=condW_of h4 (w_not (w_lt w_lit (w_len_list (w_arg rfl))));rw [List.length_map] at h5;refine Nat.le_of_not_lt λ q=>?_;have q':(n:Int) < ((ns.length:Nat):Int):=by omega
  first
   | (rw [decide_eq_true q'] at h5; exact absurd h5 (by decide))
   | (simp at h5; omega)
 cases hwl with
 | cons w1 w2 =>
  cases w2;cases w1 with
  | list ho hall=>exact ⟨_,_,ns,O,O,ho,gh ns _ hall,hlen⟩
theorem nF (l:OpenLaw) (args:List WData):l.row.toRowW.claim.post args (.bool true) args=true :=
 postW_of (r:=l.row.toRowW) (X:=(true == true))
  (show WShape.has [] (.bool true) .bool=true by first | rfl | decide | simp [WShape.has,WShape.arms,WShape.armsAll])
  (show (WTm.eq .res (.lit (.bool true))).value [] { args:=args,res:=some (.bool true),after:=args }=some (.bool (true == true)) from w_eq_bool (w_res rfl) w_lit) rfl
theorem attach_call {l:OpenLaw} {n:Nat} {q:G4} {loose:List Str} {XP:(Str->Option G7)->Heap->Prop} {YP:G6->Heap->Prop} {d:DefRec}
  (hn:l.most=some n) (hdf:d.params.defaults=[])
  (call:∀ (w:G6) (s₀ s₁:G3) (mg mb:Str->Option G7) (fa:Addr) (o:Obj) (pm cd doc:G7) (a:Addr) (vs:List G7) (ns:List Int),
   Ground q loose [] XP w s₀ mg mb s₁.heap->YP w s₁.heap ->
   s₁.heap.get? fa=some o->o.data=.func (docDef d.name d.params d.body d.scope pm cd doc)->s₁.heap.CodeRec cd d.name->mg d.name=some (.ref fa) ->
   s₁.heap.get? a=some { cls:=.type "list",data:=.seq vs.toArray }->IntsAre vs ns->ns.length<=n->s₁.gens=#[] ->
   codeAny (model l.prog w) callerA (.call (.ref fa) ⟨[.ref a],[]⟩) (λ r s'=>r=.ok (.ret (.bool true))/\OldK s₁.heap s'.heap/\s'.os=s₁.os/\AllBare s'.gens) s₁) :
  WalkO q loose XP YP l.row.toRowW d [] (λ f vs=>PySem.call f vs):=by
 intro w s₀ s₁ mg mb G Y fa o pm cd doc dV kV ho hd hcd hD hmg hg args vals as hpre hlay hrd hwl hlo;obtain rfl:dV=.none:=Dflts.none hD hdf;obtain rfl:kV=.none:=Dflts.noKw hD;obtain ⟨a,vs,ns,rfl,rfl,hobj,hints,hlen⟩:=nE hn hpre hwl;refine enter_call (codeAny_mono (call w s₀ s₁ mg mb fa o pm cd doc a vs ns G Y ho (fd_plain hd) hcd hmg hobj hints hlen hg) λ r s' hq=>?_);obtain ⟨rfl,h2,h3,h4⟩:=hq;exact ⟨.inl ⟨.bool true,.bool true,[],O,λ _=>rfl,.bool true,nF l _,λ _=>⟨List.Pairwise.nil,λ _ hm=>(nomatch hm)⟩⟩,h2,h3,h4⟩
section
variable {prog:G4} {w:G6} {A:Around} {E:G7->G3->Prop} {s:G3} {K:Frag}
def Gi (h:Heap) (L d:Addr):List (Addr×Obj):=(List.range h.objs.size).filterMap λ a=>if a=L\/a=d then none else (h.get? a).map λ o=>(a,o)
end
end Att
namespace L2
open PySem PySem.Spec PyProof.Rows
theorem iA:∀ {vs:List G7} {ns:List Int},IntsAre vs ns->Vals (ns.map V.int) vs
 | _,_,.nil=>.nil
 | _,_,.cons n t h=>.cons ⟨t,O⟩ (iA h)
def vc (H:Hp):Prop:=∀b,H b=none\/∃o xs,H b=some (.frz o (.lst xs))
theorem pY {P:G4} {w:G6} {K:C3} {mg mb:Str->Option G7} {CX:CXT} {k:Nat} {fa a:Addr} {fd:G5} {x:Str} {sp:Sp} {s₁:G3} {vs:List G7} {ns:List Int}
  (KX:K.In s₁.heap) (hns:s₁.heap.Ns mainGlobals mg) (hb:s₁.heap.Ns builtinsNs mb) (hbb:∀x:Str,x ≠ "__name__" -> mb x=bootBuiltins x) (hlim:s₁.heap.NoLimit) (hg:s₁.gens=#[])
  (ha:s₁.heap.get? a=some { cls:=.type "list",data:=.seq vs.toArray }) (hi:IntsAre vs ns) (hl:ns.length<=sizeLine) (hr:Room k callerA)
  (F:∀base:Heap,K.In base->base.Ns mainGlobals mg->FnOk P w K mg base CX k fa fd [x] sp) (hbind:∀ (s:G3) (u:G7),BindsTo s fd ⟨[u],[]⟩ [(x,u)])
  (hsp:∀H:Hp,vc H->SqL K H a (ns.map V.int)->sp [.ref a] H (λ v _=>v=.bl true) λ _ _ _=>False)
  (hCX:∀H e s',CX [] H s₁ (λ _ _ _=>False) e s'->False) :
  codeAny (model P w) callerA (.call (.ref fa) ⟨[.ref a],[]⟩) (λ r s'=>r=.ok (.ret (.bool true))/\OldK s₁.heap s'.heap/\s'.os=s₁.os/\AllBare s'.gens) s₁:=by
 have rv:=iA hi;have lenV:=hi.length;have core:∀H:Hp,vc H->SqL K H a (ns.map V.int)->HOk P w H s₁.heap->(∀b,H b≠none->b=a)->(H a≠none->K.lookup a=none) ->
   codeAny (model P w) callerA (.call (.ref fa) ⟨[.ref a],[]⟩) (λ r s'=>r=.ok (.ret (.bool true))/\OldK s₁.heap s'.heap/\s'.os=s₁.os/\AllBare s'.gens) s₁:=by
  intro H hO hS hok hA hK;have base_of:∀ {b:Addr} {o:Obj},s₁.heap.get? b=some o->H b=none->(iR s₁.heap H).get? b=some o:=λ e n=>pG e n;have noA:∀ {b:Addr} {o:Obj} {es:Array DictEntry} {ep:Nat},s₁.heap.get? b=some o->o.data=.dict es ep->H b=none:=λ {b o es ep} e d=>by
   cases q:H b with
   | none=>rfl
   | some u =>
    have e':b=a:=hA b (by rw [q]; simp);subst e';rw [ha] at e; cases e;have d':Data.seq vs.toArray _=Data.dict es ep:=d;cases d'
  have nsK:∀ {b:Addr} {m:Str->Option G7},s₁.heap.Ns b m->(iR s₁.heap H).Ns b m:=λ {b m} ⟨o,es,ep,e,d,r⟩=>⟨o,es,ep,base_of e (noA e d),d,r⟩
  have hKb:K.In (iR s₁.heap H):=λ b o e=>base_of (KX b o e) (by
   cases q:H b with
   | none=>rfl
   | some u =>
    have e':b=a:=hA b (by rw [q]; simp);subst e';rw [hK (by rw [q]; simp)] at e; cases e)
  have hM:Mod K mg (iR s₁.heap H):=⟨hKb,nsK hns,⟨mb,nsK hb,hbb⟩,let ⟨mc,h1,h2⟩:=hlim; ⟨mc,nsK h1,h2⟩⟩
  have e0:Env0 P w K mg (iR s₁.heap H) callerA [] s₁ H:=⟨O,hM,λ b o e=>rP e,Nat.le_of_eq (nk _ _),trivial,λ b hb=>absurd (show b∈([]:List Addr) from hb) (by simp),hok,.of_eq hg⟩
  refine codeAny_mono ((F _ hKb (nsK hns)).run callerA [] s₁ H ⟨[.ref a],[]⟩ [.ref a] [.ref a] _ _ hr e0 (hbind s₁ (.ref a)) (.cons rfl .nil) (hsp H hO hS)) λ r s' h=>?_;cases r with
  | error e=>exact (hCX H e s' h).elim
  | ok fl =>
   cases fl with
   | next=>exact E4 h
   | brk=>exact E4 h
   | cont=>exact E4 h
   | ret u =>
    obtain ⟨v,H',os,bare,un,hok',r',q⟩:=h;have q':v=.bl true:=q;subst q';obtain rfl:u=Value.bool true:=r';refine ⟨O,OldK.of_keep λ b o e=>?_,os,bare⟩;cases q:H b with
    | none=>exact un.keep b o e q (by intro z; exact absurd (show b∈([]:List Addr) from z) (by simp)) (by simp)
    | some u =>
     rcases hO b with z | ⟨ob,xs,z⟩
     ·rw [q] at z; cases z
     ·have z2:=un.frzs b ob _ z;obtain ⟨e1,_⟩:=hok b _ z;obtain ⟨e2,_⟩:=hok' b _ z2;rw [e] at e1; cases e1;exact e2
 cases hk:K.lookup a with
 | some o =>
  have e:=KX a o hk;rw [ha] at e;cases e;refine core (λ _=>none) (λ _=>.inl rfl) (.inr ⟨_,vs.toArray,_,hk,O,O,O,by rw [List.size_toArray,lenV]; exact hl,by simpa using rv⟩) (λ b u z=>by have z':(none:Option HO)=some u:=z; cases z') (λ b z=>absurd rfl z) λ z=>absurd rfl z
 | none =>
  refine core (λ b=>if b=a then some (.frz { cls:=.type "list",data:=.seq vs.toArray } (.lst (ns.map V.int))) else none) (λ b=>?_) (.inl (.inr ⟨{ cls:=.type "list",data:=.seq vs.toArray },if_pos rfl⟩)) (λ b u z=>?_) (λ b z=>?_) λ _=>hk
  ·by_cases hb:b=a
   ·exact .inr ⟨_,_,if_pos hb⟩
   ·exact .inl (if_neg hb)
  ·by_cases hb:b=a
   ·have z':=(if_pos hb).symm.trans z;cases z';subst hb;exact ⟨ha,by rw [List.length_map]; exact hl,vs,_,rv,ha⟩
   ·have z':=(if_neg hb).symm.trans z;cases z'
  ·by_cases hb:b=a
   ·exact hb
   ·exact absurd (if_neg hb) z
theorem walk_of {l:PySem.W.OpenLaw} {n k:Nat} {q:G4} {loose:List Str} {XP:(Str->Option G7)->Heap->Prop} {YP:G6->Heap->Prop} {d:DefRec} {K:Params->C3} {CX:G6->CXT} {sp:G6->Sp} {x:Str}
  (hn:l.most=some n) (hn2:n<=sizeLine) (hdf:d.params.defaults=[]) (hr:Room k callerA)
  (hY:∀ (w:G6) (h:Heap),YP w h->(K w.params).In h)
  (F:∀ (w:G6) (mg:Str->Option G7) (fa:Addr) (h:Heap),(K w.params).In h->h.Ns mainGlobals mg->mg d.name=some (.ref fa) ->
   ∃fd:G5,(∀ (s:G3) (u:G7),BindsTo s fd ⟨[u],[]⟩ [(x,u)]) /\
    ∀base:Heap,(K w.params).In base->base.Ns mainGlobals mg->FnOk l.prog w (K w.params) mg base (CX w) k fa fd [x] (sp w))
  (hsp:∀ (w:G6) (H:Hp) (a:Addr) (ns:List Int),ns.length<=n->vc H->SqL (K w.params) H a (ns.map V.int)->sp w [.ref a] H (λ v _=>v=.bl true) λ _ _ _=>False)
  (hCX:∀ (w:G6) (H:Hp) (s:G3) (e:G7) (s':G3),CX w [] H s (λ _ _ _=>False) e s'->False) :
  PySem.W.WalkO q loose XP YP l.row.toRowW d [] (λ f vs=>PySem.call f vs):=by
 refine Att.attach_call hn hdf λ w s₀ s₁ mg mb fa o pm cd doc a vs ns G Y ho hd hcd hmg hobj hints hlen hg=>?_;have KX:=hY w _ Y;obtain ⟨fd,hb,hF⟩:=F w mg fa _ KX G.T.g hmg;exact pY KX G.T.g G.T.b G.T.builtins G.T.nolimit hg hobj hints (C4 hlen hn2) hr hF hb (λ H hO hS=>hsp w H a ns hlen hO hS) λ H e s'=>hCX w H s₁ e s'
def inClass (s:Stmt) (j:Nat):Stmt:=match s with
 | .ClassDef _ _ _ body _ _ _ _ _ _ _=>body.getD j (.Pass ⟨0,0,0,0⟩)
 | _=>.Pass ⟨0,0,0,0⟩
def defArgs (s:Stmt):Arguments:=match s with
 | .FunctionDef _ a _ _ _ _ _ _ _ _=>a
 | _=>{ posonlyargs:=[],args:=[],vararg:=none,kwonlyargs:=[],kw_defaults:=[],kwarg:=none,defaults:=[] }
def defBody (s:Stmt):List Stmt:=match s with
 | .FunctionDef _ _ b _ _ _ _ _ _ _=>b
 | _=>[]
def defScope (s:Stmt):Scope:=match s with
 | .FunctionDef _ _ _ _ _ _ sc _ _ _=>sc
 | _=>{ kind:=.function,names:=[],isGenerator:=false,isCoroutine:=false }
abbrev CX0:CXT:=λ _ _ _ _ _ _=>False
abbrev E0:XK:=λ _ _ _=>False
theorem mF {X:Cx}:eU CX0 X E0:=λ _ _ _ _ _ _ _ h=>h.elim
structure Fun (K:C3) (x qual:Str) (st:Stmt) (f:Addr) (fd:FuncData):Prop where
 ex:∃ (oc:G7) (od:Option Addr) (kV doc pm:G7) (an:Option Addr) (cdv ct:G7) (osl:Array (Option G7)),
  fd=E3 x qual (defArgs st) (defBody st) (defScope st) .none kV doc pm an cdv ct/\K.lookup f=some ⟨oc,od,.func fd,osl⟩/\PySem.W.codeIn K cdv qual=true
 kp:PySem.W.keepIn K (.ref f)=true
section
variable {P:G4} {w:G6} {K:C3} {mg:Str->Option G7} {base:Heap}
theorem Fun.ok {x qual:Str} {st:Stmt} {f:Addr} {fd:G5} {N ps:List Str} {k:Nat} {sp:Sp} (F:Fun K x qual st f fd) (S:FnScope N ps (defScope st)) (len:∀vs H Q E,sp vs H Q E->vs.length=ps.length)
  (hbody:∀ (cdv:G7) (A:Around) (outer:List Env) (s:G3) (H:Hp) (vs:List V) (Q:VK) (E:XK),Room k (A.deeper (envOfC qual (defScope st) s.heap.objs.size f cdv))->sp vs H Q E ->
   ∃t,PSs (eG CX0 P w K mg base N qual (defScope st) f cdv A outer s H E).nox (defBody st) t/\t { nx:=λ _ H'=>Q .non H',rt:=Q } (cR N vs) H):FnOk P w K mg base CX0 (k + 1) f fd ps sp:=by
 obtain ⟨oc,od,kV,doc,pm,an,cdv,ct,osl,rfl,lk,hcd⟩:=F.ex;refine uH lk hcd S len λ A outer s H vs Q E hr hsp=>?_;obtain ⟨t,h,q⟩:=hbody cdv A outer s H vs Q E hr hsp;exact ⟨t,h.nox,q⟩
theorem Fun.binds {x qual:Str} {st:Stmt} {f:Addr} {fd:G5} {ps:List Str} (F:Fun K x qual st f fd)
  (h:∀ (kV doc pm:G7) (an:Option Addr) (cdv ct:G7) (us:List G7),us.length=ps.length->bindArgs (E3 x qual (defArgs st) (defBody st) (defScope st) .none kV doc pm an cdv ct) ⟨us,[]⟩=pure (ps.zip us)):Binds K fd ps []:=by
 obtain ⟨oc,od,kV,doc,pm,an,cdv,ct,osl,rfl,lk,hcd⟩:=F.ex;exact .all (h kV doc pm an cdv ct)
theorem kR {x qual:Str} {st:Stmt} {f:Addr} {oc:G7} {od an:Option Addr} {osl:Array (Option G7)} {kV doc pm cdv ct:G7} (l:K.lookup f=some ⟨oc,od,.func (E3 x qual (defArgs st) (defBody st) (defScope st) .none kV doc pm an cdv ct),osl⟩)
  (c:PySem.W.codeIn K cdv qual=true) (k:PySem.W.keepIn K (.ref f)=true):Fun K x qual st f (E3 x qual (defArgs st) (defBody st) (defScope st) .none kV doc pm an cdv ct):=⟨⟨oc,od,kV,doc,pm,an,cdv,ct,osl,O,l,c⟩,k⟩
end
section
variable {X:Cx}
theorem pv (i:Nat) {x:Str} {pos:Pos} (hN:X.N[i]? = some x:=by rfl) (hv:Vis X.env.scope x:=by first | exact Or.inl rfl | exact Or.inr (Or.inl rfl) | exact Or.inr (Or.inr rfl)) (hd:(x == ("__debug__" : Str))=false:=by decide)
  (hcd:(x == ("__classdict__" : Str))=false:=by decide):PE X (.Name x pos) (tVar i):=uP hN hv hd hcd
end
theorem aA {A B:Prop} (h:B):if false=true then A else B:=by rw [if_neg Bool.false_ne_true];exact h
theorem aF {A B:Prop} (h:A):if true=true then A else B:=by rw [if_pos rfl];exact h
theorem bW {c A B:Prop} [Decidable c] (h1:c->A) (h2:¬ c->B):if c then A else B:=by
 by_cases h:c
 ·rw [if_pos h];exact h1 h
 ·rw [if_neg h];exact h2 h
def Same (H H':Hp):Prop:=∀b o,H b=some o->H' b=some o
theorem Same.refl (H:Hp):Same H H:=λ _ _ h=>h
theorem Same.trans {H H1 H2:Hp} (a:Same H H1) (b:Same H1 H2):Same H H2:=λ c o h=>b c o (a c o h)
theorem Same.free {H H':Hp} (e:Same H H') {l:Addr} (h:H' l=Option.none):H l=Option.none:=by
 cases q:H l with
 | none=>rfl
 | some o =>
  rw [e l o q] at h;cases h
theorem Same.seq {K:C3} {H H':Hp} {a:Addr} {xs:List V} (e:Same H H') (h:SqL K H a xs):SqL K H' a xs:=by
 rcases h with (h | ⟨o,h⟩) | h
 ·exact .inl (.inl (e _ _ h))
 ·exact .inl (.inr ⟨o,e _ _ h⟩)
 ·exact .inr h
def bL (env:Env):List (Str×NameKind)->List (Str×Addr)->List (Str×Addr)
 | [],acc=>acc
 | (n,k) :: r,acc=>bL env r (if (k == NameKind.free)=true then (n,(env.cells.lookup n).getD 0) :: acc else acc)
theorem dj (env:Env):∀ (names:List (Str×NameKind)) (acc:List (Str×Addr)) (x:Str) (c:Addr),(∀y∈names,y.2=.free->∃c,env.cells.lookup y.1=some c) ->
  (∀x c,acc.lookup x=some c->env.cells.lookup x=some c)->(bL env names acc).lookup x=some c->env.cells.lookup x=some c
 | [],acc,x,c,_,h,e=>h x c e
 | (n,k) :: r,acc,x,c,hf,h,e=>by
  refine dj env r _ x c (λ y hy=>hf y (B3 _ hy)) (λ x c e'=>?_) e
  by_cases hk:(k == NameKind.free)=true
  ·rw [if_pos hk] at e';obtain ⟨c0,hc0⟩:=hf (n,k) B6 (by simpa using hk);have hc0':env.cells.lookup n=some c0:=hc0;rw [List.lookup_cons] at e';cases hx:x == n with
   | true =>
    rw [hx] at e';have:x=n:=by simpa using hx
    subst this;rw [hc0'] at e' ⊢;simpa using e'
   | false=>rw [hx] at e'; exact h x c e'
  ·rw [if_neg hk] at e'; exact h x c e'
theorem gM (env:Env):∀ (names:List (Str×NameKind)) (acc:List (Str×Addr)) (x:Str),(∃c,acc.lookup x=some c)->∃c,(bL env names acc).lookup x=some c
 | [],acc,x,h=>h
 | (n,k) :: r,acc,x,h=>by
  refine gM env r _ x ?_
  by_cases hk:(k == NameKind.free)=true
  ·rw [if_pos hk,List.lookup_cons];cases hx:x == n with
   | true=>exact ⟨_,O⟩
   | false=>exact h
  ·rw [if_neg hk]; exact h
theorem fP (env:Env):∀ (names:List (Str×NameKind)) (acc:List (Str×Addr)) (x:Str),(x,NameKind.free)∈names->∃c,(bL env names acc).lookup x=some c
 | [],acc,x,h=>by simp at h
 | (n,k) :: r,acc,x,h=>by
  rcases List.mem_cons.mp h with e | e
  ·have e1:x=n:=congrArg Prod.fst e;have e2:NameKind.free=k:=congrArg Prod.snd e;subst e1;subst e2;refine gM env r _ x ?_;rw [if_pos (by simp),List.lookup_cons];simp
  ·exact fP env r _ x e
theorem gN {env:Env} {scope:Scope} (hf:∀y∈scope.names,y.2=.free->∃c,env.cells.lookup y.1=some c):closureFor scope env=pure (bL env scope.names []):=by
 have key:∀ (names:List (Str×NameKind)) (acc:List (Str×Addr)),(∀y∈names,y.2=.free->∃c,env.cells.lookup y.1=some c) ->
   (forIn names acc (λ (x:Str×NameKind) (r:List (Str×Addr))=>(if (x.2 == NameKind.free)=true then do
    let a<-cellOf env x.1
    pure (ForInStep.yield ((x.1,a) :: r)) else pure (ForInStep.yield r)) ):Sem (List (Str×Addr)))=pure (bL env names acc):=by
  intro names
  induction names with
  | nil=>intro acc _; rfl
  | cons y r ih =>
   intro acc h;obtain ⟨n,k⟩:=y;have ih':=λ acc=>ih acc λ z hz=>h z (B3 _ hz);rw [List.forIn_cons]
   by_cases hk:(k == NameKind.free)=true
   ·obtain ⟨c,hc⟩:=h (n,k) B6 (by simpa using hk);have hc':env.cells.lookup n=some c:=hc;have e1:cellOf env n=pure c:=by unfold cellOf; rw [hc']
    have e2:bL env ((n,k) :: r) acc=bL env r ((n,c) :: acc):=by show bL env r _=_;rw [if_pos hk,hc']; rfl
    rw [if_pos hk,e2,<- ih'];show ((cellOf env n >>= λ a=>pure (ForInStep.yield ((n,a) :: acc))) >>= _)=_;rw [e1]
    rfl
   ·have e2:bL env ((n,k) :: r) acc=bL env r acc:=by show bL env r _=_;rw [if_neg hk]
    rw [if_neg hk,e2,<- ih']
    rfl
 have:=key scope.names [] hf;simp only [closureFor];exact (congrArg (λ m=>m >>= λ r=>(pure r:Sem _)) this).trans rfl
theorem jf {env:Env} {scope:Scope} (hcell:∀y∈scope.names,y.2≠.cell) {x:Str}:((relabel scope env).names.lookup x=some .cell\/(relabel scope env).names.lookup x=some .free)->(x,NameKind.free)∈scope.names:=by
  have key:∀names:List (Str×NameKind),(∀y∈names,y.2≠.cell)->∀k,(names.map λ (n,k)=>if (k == NameKind.free && env.scope.kind == .function && env.kindOf n == some .cell) then (n,NameKind.cell) else (n,k)).lookup x=some k ->
      (k=.cell\/k=.free)->(x,NameKind.free)∈names:=by
    intro names
    induction names with
    | nil=>intro _ k h _; simp at h
    | cons y r ih =>
      obtain ⟨n,k'⟩:=y;intro hc k h hk;have nc:k'≠.cell:=hc (n,k') B6;rw [List.map_cons] at h
      by_cases hb:(k' == NameKind.free && env.scope.kind == .function && env.kindOf n == some .cell)=true
      . have hb':k'=.free:=by simp at hb; exact hb.1.1
        dsimp only at h;rw [if_pos hb,List.lookup_cons] at h;cases hx:x == n with
        | true => have : x = n := by simpa using hx
                  subst this; subst hb'; exact B6
        | false=>rw [hx] at h; exact B3 _ (ih (λ y hy=>hc y (B3 _ hy)) k h hk)
      . dsimp only at h
        rw [if_neg hb,List.lookup_cons] at h;cases hx:x == n with
        | true =>
          rw [hx] at h;have:x=n:=by simpa using hx
          subst this;have e:k'=k:=by simpa using h
          rcases hk with q | q
          . exact absurd (e.trans q) nc
          . rw [e,q]; exact B6
        | false=>rw [hx] at h; exact B3 _ (ih (λ y hy=>hc y (B3 _ hy)) k h hk)
  rintro (h | h)
  . exact key _ hcell _ h (.inl rfl)
  . exact key _ hcell _ h (.inr rfl)
def bT (X:Cx) (pins:List (Addr×Obj)) (s2:G3) (H2:Hp) (scope:Scope) (C:Addr) (N':List Str) (fp:List Addr):Cx where
 prog:=X.prog
 w:=X.w
 K:=X.K
 mg:=X.mg
 base:=X.base
 A:=X.A
 N:=N'
 s₀:=s2
 H₀:=H2
 env:=compEnvC scope (bL X.env scope.names []) C X.env
 outer:=X.stack
 stack:=X.stack
 ex:=fp
 fn:=λ _=>false
 calm:=X.calm
 pn:=X.pn ++ pins
 xe:=λ _ _=>False
def bO (σ:St) (cap:List Nat) (k:Nat):St:=List.replicate k none ++ cap.map λ j=>(σ[j]?).join
def leS (σ σ':St):Prop:=σ'.length=σ.length/\∀ (i:Nat) v,σ[i]? = some (some v)->σ'[i]? = some (some v)
theorem leS.set {σ:St} {i:Nat} {v:V} (h:σ[i]? = some none):leS σ (σ.set i (some v)):=by
 refine ⟨by simp,λ j w e=>?_⟩
 by_cases hj:j=i
 ·subst hj; rw [h] at e; cases e
 ·rw [List.getElem?_set_ne (Ne.symm hj)]; exact e
structure CompOk (X:Cx) (scope:Scope) (own:List Str) (cs:List Str) (cap:List Nat):Prop where
 kind:scope.kind=.function
 cell:∀y∈scope.names,y.2≠.cell
 names:∀y∈scope.names,y.2=.local->scope.names.lookup y.1=some .local
 free:∀y∈scope.names,y.2=.free->X.env.kindOf y.1=some .cell\/X.env.kindOf y.1=some .free
 caps:∀ (i:Nat) y,cs[i]? = some y->∃j,cap[i]? = some j/\X.N[j]? = some y/\(y,NameKind.free)∈scope.names
 ownl:∀y∈own,scope.names.lookup y=some .local
 len:cs.length=cap.length
 free2:∀y,(y,NameKind.free)∈scope.names->scope.names.lookup y=some .local->False
def pZ (X:Cx) (ifs:List Expr) (tt:TT):Prop :=
 ∀ (pins:List (Addr×Obj)) (s:G3) (σ:St) (H:Hp) (Q:Bool->Hp->Prop),Inv X pins σ H s->tt σ H Q ->
  wpAny (model X.prog X.w) X.A (forIn ifs true λ c r=>if r=true then do let ok<-isTrue c X.env (eval c X.env); pure (ForInStep.yield ok) else pure (ForInStep.yield r)) (TP X pins σ Q) X.xe s
def zy:TT:=λ _ H Q=>Q true H
theorem dN {X:Cx}:pZ X [] zy:=λ _ _ _ H _ I h=>wpAny_tests_nil ⟨H,I,h⟩
theorem jK {X:Cx} {c:Expr} {tt:TT} (h:PT X c tt):pZ X [c] tt:=λ pins s σ H Q I q=>wpAny_tests_one (h pins s σ H Q I q)
def iB (σ:St) (cap:List Nat) (k:Nat) (J:It) (g:TG) (tt:TT) (te:TE) (Q:List V->Hp->Prop) (W:Nat->Nat->List V->Hp->Prop):Prop :=
 ∀i m ys H,W i m ys H->(J.stop i H/\ys.length<=sizeLine/\Q ys H) \/
  (J.go i H/\ys.length < sizeLine/\∀x H',J.yld i H x H'->g x (bO σ cap k) H' λ σ2 H2=>leS (bO σ cap k) σ2/\tt σ2 H2 λ ok H3 =>
   if ok=true then te σ2 H3 (λ v H4=>∃m',m' < m/\W (i + 1) m' (ys ++ [v]) H4) else ∃m',m' < m/\W (i + 1) m' ys H3)
theorem HOk.but {P:G4} {w:G6} {H:Hp} {h h':Heap} {C:Addr} (x:HOk P w H h) (n:H C=none) (k:Heap.SameBut C h h'):HOk P w H h':=λ b ob e=>by
 refine (x b ob e).stay (λ c w' hc q=>(k.2 c ?_).trans q) (λ _ q=>q) λ _ _ q=>q;rintro rfl;rcases hc with rfl | hc
 ·rw [n] at e; cases e
 ·rw [n] at hc; cases hc
theorem HOk.add {P:G4} {w:G6} {H:Hp} {h:Heap} {a:Addr} {o:HO} (x:HOk P w H h) (n:H a=none) (new:ObjOk P w (upd H a o) h a o):HOk P w (upd H a o) h:=λ b u e=>by
 by_cases hb:b=a
 ·subst hb; rw [ag] at e; cases e; exact new
 ·rw [am hb] at e;exact (x b u e).stay (λ c v _ q=>q) (λ c q=>by rw [am (ap q n)]; exact q) λ c xs q=>by rw [am (ap q n)]; exact q
section
variable {X:Cx} {pins:List (Addr×Obj)} {σ:St} {H2:Hp} {s2:G3} {scope:Scope} {own cs:List Str} {cap:List Nat} {fp:List Addr}
theorem nG {h1:Heap} {C:Addr} {tk:Nat} (I:Inv X pins σ H2 s2) (ok:CompOk X scope own cs cap) (hf:∀b∈fp,fL X pins H2 b) (hfl:∀b∈fp,b < s2.heap.objs.size)
  (hC:s2.heap.objs.size<=C) (hns:h1.Ns C (λ _=>none)) (old:∀b o,s2.heap.get? b=some o->h1.get? b=some o) :
  Inv (bT X pins s2 H2 scope C (own ++ cs) fp) [] (bO σ cap own.length) H2 { s2 with heap:=h1,toks:=tk }:=by
 have hfr:∀y∈scope.names,y.2=.free->∃c,X.env.cells.lookup y.1=some c:=λ y hy e=>I.ok.has y.1 (ok.free y hy e);have sub:∀x c,(bL X.env scope.names []).lookup x=some c->X.env.cells.lookup x=some c:=λ x c e=>dj X.env scope.names [] x c hfr (λ _ _ z=>by simp at z) e;have clt:∀x c,(bL X.env scope.names []).lookup x=some c->c < s2.heap.objs.size:=λ x c e=>by obtain ⟨v,o,ho,_⟩:=I.cell x c (sub x c e);exact A8 ho
 refine ⟨⟨I.ok.mod,ok.kind,I.ok.glob,I.ok.blt,hC,λ y z c h1 h2=>I.ok.inj y z c (sub y c h1) (sub z c h2),λ y hy=>?_,λ y c z=>?_,I.ok.hd,I.ok.frames,.inl rfl,λ b hb=>?_,I.bs,C4 I.ok.bsz I.sz,λ b o e hb=>?_,λ b hb z=>?_,I.stack,I.stkFree⟩,
  rfl,I.bare,Un.kept old,⟨_,hns,λ i y v e1 e2 e3=>?_⟩,λ y c e=>?_,I.hok.fresh hC,λ y c e=>I.freeC y c (sub y c e),λ p hp=>?_,I.hok.kept old,?_⟩
 ·have hm:=jf ok.cell hy;exact fP X.env scope.names [] y hm
 ·exact absurd (show false=true from z) B1
 ·exact ⟨B8 (C0 (hfl b hb) hC),λ x c e=>(hf b hb).2.2.2.2.1 x c (sub x c e)⟩
 ·rcases (hf b hb).2.2.2.1 with z | z
  ·exact I.ok.noex b o e z
  ·exact absurd (C0 (A8 (I.ok.bs b o e).1) z) (C7 _)
 ·rcases List.mem_cons.mp (I.stkSub b z) with q | q
  ·exact (hf b hb).2.1 q
  ·exact (hf b hb).2.2.1 q
 ·have hi:own.length<=i:=by
   refine Nat.le_of_not_lt λ q=>?_;unfold bO at e2;rw [List.getElem?_append_left (by simpa using q),List.getElem?_replicate] at e2
   split at e2 <;> cases e2
  have e1':cs[i - own.length]? = some y:=by have e1:(own ++ cs)[i]? = some y:=e1;rwa [List.getElem?_append_right hi] at e1
  obtain ⟨j,hj,hN,hm⟩:=ok.caps _ y e1';have hk:=ok.free _ hm rfl;have e2':σ[j]? = some (some v):=by
   unfold bO at e2;rw [List.getElem?_append_right (by simpa using hi),List.length_replicate,List.getElem?_map,hj] at e2;have e2:(σ[j]?).join=some v:=by simpa using e2
   cases q:σ[j]? with
   | none=>rw [q] at e2; cases e2
   | some w=>rw [q] at e2; have:w=some v:=e2; rw [this]
  obtain ⟨m,hn,hl⟩:=I.loc;obtain ⟨u,ru,l⟩:=hl j y v hN e2' (by rcases hk with q | q; exact .inr (.inl q); exact .inr (.inr q));refine ⟨u,ru,.inr ?_⟩;obtain ⟨c,hc⟩:=fP X.env scope.names [] y hm;have hc':=sub y c hc;have cellu:h1.IsCell c (some u):=by
   rcases l with ⟨k,_⟩ | ⟨k,c',e,o,ho,hd⟩
   ·rcases hk with q | q <;> (have z:X.env.kindOf y=_:=q; rw [k] at z; cases z)
   ·rw [hc'] at e; cases e;exact ⟨o,old _ _ ho,hd⟩
  refine ⟨?_,c,hc,cellu⟩;rcases e3 with z | z | z
  ·exfalso;have key:∀names:List (Str×NameKind),True:=λ _=>trivial;have z:(relabel scope X.env).names.lookup y=some .local:=z;have zz:scope.names.lookup y=some .local:=by
    unfold relabel at z;dsimp only at z;revert z;generalize scope.names=names
    induction names with
    | nil=>intro z; simp at z
    | cons q r ih =>
     obtain ⟨n,k⟩:=q;intro z;rw [List.map_cons] at z
     by_cases hb:(k == NameKind.free && X.env.scope.kind == .function && X.env.kindOf n == some .cell)=true
     ·dsimp only at z;rw [if_pos hb,List.lookup_cons] at z;rw [List.lookup_cons];cases hx:y == n with
      | true=>rw [hx] at z; cases z
      | false=>rw [hx] at z; exact ih z
     ·dsimp only at z;rw [if_neg hb,List.lookup_cons] at z;rw [List.lookup_cons];cases hx:y == n with
      | true=>rw [hx] at z; exact z
      | false=>rw [hx] at z; exact ih z
   have:=ok.free2 y hm zz;exact this
  ·exact .inl z
  ·exact .inr z
 ·obtain ⟨v,o,ho,hd⟩:=I.cell y c (sub y c e);exact ⟨v,o,old _ _ ho,hd⟩
 ·have hp':p∈X.pn ++ pins:=by have:p∈(X.pn ++ pins) ++ []:=hp;simpa using this
  obtain ⟨e,n,ne,nf,d⟩:=I.pin p hp';refine ⟨old _ _ e,n,B8 (C0 (A8 e) hC),λ z=>?_,d⟩;rcases List.mem_cons.mp (I.stkSub p.1 z) with q | q
  ·exact ne q
  ·exact nf q
 ·show (bO σ cap own.length).length=(own ++ cs).length;unfold bO;rw [List.length_append,List.length_replicate,List.length_map,List.length_append,ok.len]
end
section
variable {X:Cx} {pins:List (Addr×Obj)} {σ:St} {H2:Hp} {s2:G3} {scope:Scope} {own cs:List Str} {cap:List Nat} {fp:List Addr} {it:Addr} {tn:Nat->Heap->Prop}
 {elt tg iter:Expr} {ifs:List Expr} {pos:Pos} {J:It} {g:TG} {tt:TT} {te:TE} {E:G7->G3->Prop} {W:Nat->Nat->List V->Hp->Prop} {Qf:List V->Hp->Prop}
structure BlkEnd (X:Cx) (pins:List (Addr×Obj)) (σ:St) (Qf:List V->Hp->Prop) (D C:Addr) (s':Shared):Prop where
 ex:∃ (ys:List V) (H':Hp),H' D=none/\Qf ys H'/\Inv X pins σ (upd H' D (.lst ys)) s'/\fL X pins (upd H' D (.lst ys)) C
 ns:∃m,s'.heap.Ns C m
theorem Inv.bareP {pins':List (Addr×Obj)} {H:Hp} {s:G3} (I:Inv X pins' σ H s):Inv X [] σ H s:=I.pins_of λ p hp=>absurd hp (by simp)
theorem jL {RR:G7->Addr->Result->G3->Prop} (I:Inv X pins σ H2 s2) (ok:CompOk X scope own cs cap) (hc:X.calm=true) (T:Turn X.prog X.w X.K tg J fp it tn) (st:tn 0 s2.heap) (hf:∀b∈fp,fL X pins H2 b)
  (hg:∀C,PG (bT X pins s2 H2 scope C (own ++ cs) fp) tg g) (hi:∀C,pZ (bT X pins s2 H2 scope C (own ++ cs) fp) ifs tt) (he:∀C,PE (bT X pins s2 H2 scope C (own ++ cs) fp) elt te)
  (w0:∃m,W 0 m [] H2) (turn:iB σ cap own.length J g tt te Qf W)
  (hRR:∀D C s',BlkEnd X pins σ Qf D C s'->RR (.ref D) C (.ok .next) s') :
  wpAny (model X.prog X.w) X.A (newList []) (λ acc s₃=>wpAny (model X.prog X.w) X.A (newFunctionEnv scope X.env.globals (bL X.env scope.names []) [] X.env.qual none .none (some X.env)) (λ cenv s₄ =>
   codeAny (model X.prog X.w) X.A (.compStart (.ListComp elt [⟨tg,iter,ifs,0⟩] scope pos) 0 (.ref it) acc { cenv with scope:=relabel scope X.env }) (RR acc cenv.locals) s₄) E s₃) E s2:=by
 refine G1 (wpAny_newFunctionEnv ok.cell (by intro y hy; simp at hy) (λ h₁ hns₁ hsb₁=>?_) ok.kind);dsimp only at hns₁ hsb₁ ⊢;generalize hHH:s2.heap.push { cls:=.type "list",dict:=none,data:=.seq ([]:List G7).toArray }=HH at hns₁ hsb₁ ⊢;have hCs:HH.objs.size=s2.heap.objs.size + 1:=by rw [<- hHH,Heap.size_push]
 have hDC:s2.heap.objs.size≠HH.objs.size:=by rw [hCs]; exact B8 (E7 _)
 have hCle:s2.heap.objs.size<=HH.objs.size:=by rw [hCs]; exact Nat.le_succ _
 have hfl:∀b∈fp,b < s2.heap.objs.size:=λ b hb=>by obtain ⟨o,e,_⟩:=T.obj 0 _ st b hb;exact A8 e
 have old:∀b o,s2.heap.get? b=some o->h₁.get? b=some o:=λ b o e=>hsb₁.extBut b o (by rw [hCs]; exact B8 (Nat.lt_succ_of_lt (A8 e))) (A6 _ (hHH ▸ A6 _ e));have hacc:h₁.PlainList s2.heap.objs.size #[]:=⟨_,hsb₁.extBut _ _ hDC (A6 _ (hHH ▸ A7 _ rfl))⟩
 generalize hD:s2.heap.objs.size=D at *;generalize hCC:HH.objs.size=C at *;have hns₁':h₁.Ns C (λ _=>none):=hns₁;have I0:Inv (bT X pins s2 H2 scope C (own ++ cs) fp) [] (bO σ cap own.length) H2 { s2 with heap:=h₁,toks:=s2.toks + ([]:List (Str×G7)).length } :=
  nG I ok hf (λ b hb=>by rw [hD]; exact hfl b hb) (by rw [hD]; exact hCle) hns₁' old
 have Dfs:D∉frs X.stack:=λ hb=>by obtain ⟨_,o,ho,_⟩:=I.stack.mem hb;exact absurd (A8 ho) (by rw [hD]; exact C7 _)
 have Dfp:∀b∈fp,D≠b:=λ b hb z=>absurd (hfl b hb) (by rw [<- z]; exact C7 _);have clt:∀x c,(bL X.env scope.names []).lookup x=some c->c < D:=λ x c e=>by have e':=dj X.env scope.names [] x c (λ y hy e=>I.ok.has y.1 (ok.free y hy e)) (λ _ _ z=>by simp at z) e;obtain ⟨v,o,ho,_⟩:=I.cell x c e';have:=A8 ho;rw [hD] at this; exact this
 have plt:∀p∈X.pn ++ pins,p.1 < D:=λ p hp=>by have:=A8 (I.pin p hp).1;rw [hD] at this; exact this
 have stat:∀ {H':Hp} {ob:Obj},(∀b∈fp,H' b=none)->∀b∈fp,fL (bT X pins s2 H2 scope C (own ++ cs) fp) [(D,ob)] H' b:=λ {H' ob} hn b hb=>by
  have q:=I0.ok.exf b hb;refine ⟨hn b hb,q.1,I0.ok.exfs b hb,.inl hb,q.2,λ p hp=>?_⟩;rcases C1.mp hp with z | z
  ·exact (hf b hb).2.2.2.2.2 p z
  ·have:p=(D,ob):=by simpa using z
   subst this;exact Dfp b hb
 have loop:codeAny (model X.prog X.w) X.A (.compLoop (.ListComp elt [⟨tg,iter,ifs,0⟩] scope pos) 0 (.ref it) (.ref D) (compEnvC scope (bL X.env scope.names []) C X.env)) (RR (.ref D) C)
   { s2 with heap:=h₁,toks:=s2.toks + ([]:List (Str×G7)).length }:=by
  obtain ⟨m0,w0⟩:=w0;refine codeAny_loop rfl (λ n s'=>∃i H' its ys,Inv (bT X pins s2 H2 scope C (own ++ cs) fp) [] (bO σ cap own.length) H' s'/\tn i s'.heap/\(∀b∈fp,H' b=none)/\s'.heap.PlainList D its.toArray/\Vals ys its/\H' D=none/\W i n ys H') ?_ m0
   ⟨0,H2,[],[],I0,T.keep 0 _ _ st λ b _ o e=>old b o e,λ b hb=>(hf b hb).1,hacc,.nil,I.hok.fresh (by rw [hD]; exact B2 _),w0⟩
  rintro n s3 ⟨i,H3,its,ys,I3,st3,fr3,⟨nn,pl3⟩,rv3,hD3,w3⟩;show wpAny _ X.A ((compTurn (.ListComp elt [⟨tg,iter,ifs,0⟩] scope pos) 0 (.ref it) (.ref D) (compEnvC scope (bL X.env scope.names []) C X.env)).onRaise (λ x=>do noteFrame x (compEnvC scope (bL X.env scope.names []) C X.env); theTreesLotGoes x)) _ _ s3;refine wpAny_noted ?_;rw [compTurn_list];refine A0 (wpAny_standAt (A0 ?_));have I3':Inv (bT X pins s2 H2 scope C (own ++ cs) fp) [(D, { cls:=.type "list", data:=.seq its.toArray nn })] (bO σ cap own.length) H3 s3 :=
   I3.pins_of λ p hp=>by
    have:p=(D,{ cls:=.type "list",data:=.seq its.toArray nn }):=by simpa using hp
    subst this;exact ⟨pl3,hD3,hDC,Dfs,λ v z=>by cases z⟩
  rcases turn i n ys H3 w3 with ⟨stop,hz,qf⟩ | ⟨go,hz,step⟩
  ·refine thn (T.done (bT X pins s2 H2 scope C (own ++ cs) fp) rfl rfl rfl hc i _ s3 _ H3 _ I3' (stat fr3) st3 stop) λ r s4 ⟨hr,I4⟩=>?_;subst hr;refine A1 (hRR D C s4 ⟨⟨ys,H3,hD3,qf,?_,?_⟩,?_⟩)
   ·have pl4:=(I4.pin (D,_) (A4 _ (C8.mpr rfl))).1;have u4:=I4.base;have Ds2:s2.heap.get? D=none:=Heap.get?_none_of_le (by rw [hD]; exact B2 _);refine I.call' (s':=s4) (ch:=fp) I4.os ⟨u4.keep,u4.slot,λ b o e n hx=>?_,u4.there,λ b xs e=>?_,λ b o u e=>?_,λ b ps e=>?_⟩ ?_ I4.bare λ b hb=>⟨(hf b hb).2.2.2.1,(hf b hb).2.1,(hf b hb).2.2.2.2.1,(hf b hb).2.2.2.2.2⟩
    ·rw [am (λ z=>by rw [z,Ds2] at e; cases e)];exact u4.free b o e n hx
    ·have:=u4.tups b xs e;rw [am (ap this hD3)]; exact this
    ·have:=u4.frzs b o u e;rw [am (ap this hD3)]; exact this
    ·obtain ⟨more,e'⟩:=u4.tbls b ps e;exact ⟨more,by rw [am (ap e' hD3)]; exact e'⟩
    ·exact I4.hok.add hD3 ⟨hz,its,nn,rv3,pl4⟩
   ·have CH:(upd H3 D (.lst ys)) C=none:=by rw [am (Ne.symm hDC)]; exact I4.free
    exact I.fpOk (H':=upd H3 D (.lst ys)) (by rw [hD]; exact hCle) CH
   ·obtain ⟨m,hn,_⟩:=I4.loc;exact ⟨m,hn⟩
  ·refine thn (T.item (bT X pins s2 H2 scope C (own ++ cs) fp) rfl rfl rfl hc i _ s3 _ H3 _ I3' (stat fr3) st3 go) λ r s4 ⟨u,hr,h4⟩=>?_;subst hr;refine A0 (thn h4 λ _ s5 ⟨x,H5,I5,r5,y5,st5,fr5⟩=>?_);have I5':=I5.pinned (stat fr5) (T.obj _ _ st5);refine A0 (wpAny_mono (hg C _ s5 _ H5 x u _ I5' r5 (step x H5 y5)) (λ _ s6 ⟨σ6,H6,I6,le6,q6⟩=>?_) λ _ _ z=>E4 z);refine A0 (wpAny_mono (hi C _ s6 σ6 H6 _ I6 q6) (λ b s7 ⟨H7,I7,q7⟩=>?_) λ _ _ z=>E4 z);have back:∀ {pins':List (Addr×Obj)} {H8:Hp} {s8:G3},Inv (bT X pins s2 H2 scope C (own ++ cs) fp) pins' σ6 H8 s8->Inv (bT X pins s2 H2 scope C (own ++ cs) fp) [] (bO σ cap own.length) H8 s8:=λ I8 =>
    I8.bareP.weak le6.1.symm λ i v e=>le6.2 i v e
   cases b with
   | false =>
    rw [if_neg Bool.false_ne_true] at q7;obtain ⟨m',hm,w7⟩:=q7;refine A1 ⟨rfl,m',hm,i + 1,H7,its,ys,back I7,T.keep _ _ _ st5 λ b hb o e=>?_,λ b hb=>?_,⟨nn,?_⟩,rv3,?_,w7⟩
    ·exact (I7.pin (b,o) (A4 _ (A4 _ (bU hb e)))).1
    ·obtain ⟨o,e,d⟩:=T.obj _ _ st5 b hb;exact (I7.pin (b,o) (A4 _ (A4 _ (bU hb e)))).2.1
    ·exact (I7.pin (D,_) (A4 _ (B5 _ (C8.mpr rfl)))).1
    ·exact (I7.pin (D,_) (A4 _ (B5 _ (C8.mpr rfl)))).2.1
   | true =>
    rw [if_pos rfl] at q7;refine A0 (A0 (wpAny_mono (he C _ s7 σ6 H7 _ I7 q7) (λ y s8 ⟨v,H8,I8,r8,m',hm,w8⟩=>?_) λ _ _ z=>E4 z));have pD:=I8.pin (D,{ cls:=.type "list",data:=.seq its.toArray nn }) (A4 _ (B5 _ (C8.mpr rfl)));have hlen:=rv3.length;refine A0 (wpAny_list_append_plain (hsz:=by rw [List.size_toArray]; omega) ⟨nn,pD.1⟩ λ h9 pl9 sb9=>A1 (A1 ?_));have I8':=back I8;refine ⟨O,m',hm,i + 1,H8,its ++ [y],ys ++ [v],?_,T.keep _ _ _ st5 λ b hb o e=>?_,λ b hb=>?_,?_,rv3.append (.cons r8 .nil),pD.2.1,w8⟩
    ·exact I8'.turned (t':=s8.toks) (λ b o hb e=>sb9.extBut b o hb e) pD.2.1 hDC (.inr (by show s2.heap.objs.size<=D; rw [hD]; exact B2 _)) (λ x c e=>B8 (clt x c e)) λ p hp=>by
      have hp':p∈X.pn ++ pins:=by have:p∈(X.pn ++ pins) ++ []:=hp;simpa using this
      exact B8 (plt p hp')
    ·exact sb9.extBut b o (Ne.symm (Dfp b hb)) (I8.pin (b,o) (A4 _ (A4 _ (bU hb e)))).1
    ·obtain ⟨o,e,d⟩:=T.obj _ _ st5 b hb;exact (I8.pin (b,o) (A4 _ (A4 _ (bU hb e)))).2.1
    ·have e:its.toArray.push y=(its ++ [y]).toArray:=by simp
     rw [<- e]; exact pl9
 exact codeAny_compStart_list loop (T.self _ 0 _ _ _ (T.keep 0 _ _ st λ b _ o e=>old b o e) loop)
def qa (wi:TI) (cap:List Nat) (k:Nat) (g:TG) (tt:TT) (te:TE):TE:=λ σ H Q=>wi σ H λ J H1 =>
 ∃W:Nat->Nat->List V->Hp->Prop,(∃m,W 0 m [] H1)/\iB σ cap k J g tt te (λ ys H'=>∀p,H' p=none->Q (.ref p) (upd H' p (.lst ys))) W
theorem el {wi:TI} (hc:X.calm=true) (hit:PI X tg iter wi) (ok:CompOk X scope own cs cap)
  (hg:∀pins s2 H2 C fp,PG (bT X pins s2 H2 scope C (own ++ cs) fp) tg g) (hi:∀pins s2 H2 C fp,pZ (bT X pins s2 H2 scope C (own ++ cs) fp) ifs tt) (he:∀pins s2 H2 C fp,PE (bT X pins s2 H2 scope C (own ++ cs) fp) elt te)
  (hs:∀x,foldedSetIterable iter X.env x=pure x:=by intro _; rfl):PE X (.ListComp elt [⟨tg,iter,ifs,0⟩] scope pos) (qa wi cap own.length g tt te):=by
 intro pins s σ H Q I h;rw [eval_ListComp];refine wpAny_comprehension_free (use:=none) rfl hs (gN λ y hy e=>I.ok.has y.1 (ok.free y hy e)) ok.kind ok.names (thn (hit pins s σ H _ I h) λ v s1 h1=>thn h1 λ itv s2 h2=>?_);obtain ⟨it,fp,tn,J,H2,e,I2,T,st2,f2,W,w0,turn⟩:=h2;subst e;refine jL (RR:=λ acc C=>compPost (model X.prog X.w) X.A X.xe none (EP X pins σ Q) acc C) I2 ok hc T st2 f2 (λ C=>hg _ _ _ _ _) (λ C=>hi _ _ _ _ _) (λ C=>he _ _ _ _ _) w0 turn λ D C s' B=>?_;obtain ⟨⟨ys,H',hD,q,I',fp'⟩,m,hn⟩:=B;obtain ⟨f0,f1,f2',f3,f4,f5⟩:=fp';exact ⟨m,hn,λ h' sb=>⟨.ref D,_,I'.turned (t':=s'.toks) (λ b o hb e=>sb.extBut b o hb e) f0 f1 f3 f4 f5,O,q D hD⟩⟩
theorem sD {wi:TI} {i:Nat} {y:Str} {py spos:Pos} (hc:X.calm=true) (hN:X.N.Nodup) (hiy:X.N[i]? = some y) (hy:X.env.scope.names.lookup y=some .local)
  (hsw:swapsWith (.ListComp elt [⟨tg,iter,ifs,0⟩] scope pos) (some (.Name y py)) spos.line X.env=pure true) (hit:PI X tg iter wi) (ok:CompOk X scope own cs cap)
  (hg:∀pins s2 H2 C fp,PG (bT X pins s2 H2 scope C (own ++ cs) fp) tg g) (hi:∀pins s2 H2 C fp,pZ (bT X pins s2 H2 scope C (own ++ cs) fp) ifs tt) (he:∀pins s2 H2 C fp,PE (bT X pins s2 H2 scope C (own ++ cs) fp) elt te)
  (hs:∀x,foldedSetIterable iter X.env x=pure x:=by intro _; rfl):PS X (.Assign [.Name y py] (.ListComp elt [⟨tg,iter,ifs,0⟩] scope pos) spos) (uR (qa wi cap own.length g tt te) (cO i)):=by
 intro pins s σ H D0 I h;rw [exec_Assign_Name_used _ _ _ _ hsw];refine A0 (wpAny_standAt (A0 ?_));show wpAny _ X.A (do let _<-comprehension (.ListComp elt [⟨tg,iter,ifs,0⟩] scope pos) scope X.env _ (newList []) false (eval iter X.env) (some (assign (.Name y py) X.env))) _ _ s;refine A0 (wpAny_mono (wpAny_comprehension_free (use:=some (assign (.Name y py) X.env)) (Q:=λ _ s'=>SP X pins D0 .next s') rfl hs (gN λ y hy e=>I.ok.has y.1 (ok.free y hy e)) ok.kind ok.names
  (thn (hit pins s σ H _ I h) λ v s1 h1=>thn h1 λ itv s2 h2=>?_)) (λ _ s' hq=>A1 (A1 hq)) λ _ _ e=>e)
 obtain ⟨it,fp,tn,J,H2,e,I2,T,st2,f2,W,w0,turn⟩:=h2;subst e;refine jL (RR:=λ acc C=>compPost (model X.prog X.w) X.A X.xe (some (assign (.Name y py) X.env)) (λ _ s'=>SP X pins D0 .next s') acc C) I2 ok hc T st2 f2 (λ C=>hg _ _ _ _ _) (λ C=>hi _ _ _ _ _) (λ C=>he _ _ _ _ _) w0 turn λ D C s' B=>?_;obtain ⟨⟨ys,H',hD,q,I',fp'⟩,m,hn⟩:=B;obtain ⟨f0,f1,f2',f3,f4,f5⟩:=fp';show wpAny _ X.A (assign (.Name y py) X.env (.ref D)) _ _ _;refine wpAny_assign_Name (io I' hN hiy (.inl hy) (v:=.ref D) rfl (λ s3 I3 ⟨a,sb,ha⟩=>?_) (.inr hy));have hCa:C≠a:=by
  rcases ha with z | z
  ·rw [z]; exact f1
  ·exact λ q=>f4 y a z q.symm
 refine ⟨m,hn.sameBut sb hCa,λ h' sb'=>⟨_,_,I3.turned (t':=s3.toks) (λ b o hb e=>sb'.extBut b o hb e) f0 f1 f3 f4 f5,q D hD⟩⟩
end
def CDivB (i j:Int):Prop:=0 < j/\j<=10 ^ 60
theorem CDivB.np {i j:Int} (h:CDivB i j):Builtin.divisionGoesByPylong i j=false:=by
 refine PyProof.noPylong_of_log2 ?_;have h1:j.natAbs < 2 ^ 200:=by obtain ⟨a,b⟩:=h;omega
 have h2:j.natAbs.log2 < 200:=(Nat.log2_lt (by have:=h.1; omega)).mpr h1;omega
section
variable {X:Cx}
theorem qb:OpR X (binaryOp .FloorDiv) (rI CDivB λ i j=>.int (i / j)):=opI λ i j _ _ _ _ _ hc q=>by refine floordiv_int (by have:=hc.1; omega) ?_ (.inl hc.np);rw [Int.fdiv_eq_ediv_of_nonneg _ (by have:=hc.1; omega)];exact q
theorem Inv.kitx {pins:List (Addr×Obj)} {σ:St} {H:Hp} {s:G3} {x:V} {u t:G7} (I:Inv X pins σ H s) (rx:RelV x u) (ty:TyOf X.K H x t) :
  ∃P:Heap->Prop,PySem.W.KitX X.K u t P/\P s.heap/\u≠.builtin "__main__.__loader__#opaque" := by
 cases ty with
 | non=>cases (show u=Value.none from rx); exact ⟨_,PySem.W.kitx_none,True.intro,λ z=>nomatch z⟩
 | bl y=>cases (show u=Value.bool y from rx); exact ⟨_,PySem.W.kitx_bool,True.intro,λ z=>nomatch z⟩
 | int i=>obtain ⟨t,q⟩:=(show ∃t,u=Value.int i t from rx); cases q; exact ⟨_,PySem.W.kitx_int,True.intro,λ z=>nomatch z⟩
 | str y=>obtain ⟨t,q⟩:=(show ∃t,u=Value.str y t from rx); cases q; exact ⟨_,PySem.W.kitx_str,True.intro,λ z=>nomatch z⟩
 | flt y=>obtain ⟨t,q⟩:=(show ∃t,u=Value.float y t from rx); cases q; exact ⟨_,PySem.W.kitx_float,True.intro,λ z=>nomatch z⟩
 | @lst a xs ea =>
  cases (show u=Value.ref a from rx);obtain ⟨_,_,n,_,h1⟩:=(show ObjOk X.prog X.w H s.heap a (.lst xs) from I.hok a _ ea)
  exact ⟨_,PySem.W.kitx_list,⟨_,h1,O⟩,λ z=>nomatch z⟩
 | @frz a ob xs ea =>
  cases (show u=Value.ref a from rx);obtain ⟨_,_,_,n,_,h1⟩:=(show ObjOk X.prog X.w H s.heap a (.frz ob (.lst xs)) from I.hok a _ ea)
  exact ⟨_,PySem.W.kitx_list,⟨_,h1,O⟩,λ z=>nomatch z⟩
 | @tup a xs ea =>
  cases (show u=Value.ref a from rx);obtain ⟨_,_,_,p⟩:=(show ObjOk X.prog X.w H s.heap a (.tup xs) from I.hok a _ ea)
  obtain ⟨o,h1,h2,_⟩:=p;exact ⟨_,PySem.W.kitx_tuple,⟨o,h1,h2⟩,λ z=>nomatch z⟩
 | @dK a kvs ea =>
  cases (show u=Value.ref a from rx);obtain ⟨_,_,vs,_,p⟩:=(show ObjOk X.prog X.w H s.heap a (.dK kvs) from I.hok a _ ea)
  obtain ⟨o,es,ep,h1,h2,_⟩:=p;exact ⟨_,PySem.W.kitx_dict,⟨o,h1,h2.1⟩,λ z=>nomatch z⟩
 | @dT a kvs ea =>
  cases (show u=Value.ref a from rx);obtain ⟨_,_,xs,_,o,es,ep,h1,h2,_⟩:=(show ObjOk X.prog X.w H s.heap a (.dT kvs) from I.hok a _ ea)
  exact ⟨_,PySem.W.kitx_dict,⟨o,h1,h2.1⟩,λ z=>nomatch z⟩
 | @ins a C dx fs ea cl ha hn htk hm =>
  cases (show u=Value.ref a from rx);obtain ⟨mA,OO0,_⟩:=fg I.hok ea;obtain ⟨od,J,_⟩:=OO0.look;exact ⟨_,PySem.W.kitx_own (cl.get _) cl.hd ha hn htk hm,J,λ z=>nomatch z⟩
def clV:V->Option Value
 | .ty T=>some (.type T)
 | .ref C=>some (.ref C)
 | _=>none
theorem clV.rel {v:V} {u c:G7} (e:clV v=some c) (r:RelV v u):u=c:=by
 cases v with
 | ty T=>have e':Value.type T=c:=B7 e; rw [<- e']; exact r
 | ref C=>have e':Value.ref C=c:=B7 e; rw [<- e']; exact r
 | _=>cases e
def clVs:List V->Option (List G7)
 | []=>some []
 | v :: r=>match clV v,clVs r with
  | some c,some cs=>some (c :: cs)
  | _,_=>none
theorem clVs.rel:∀ {vs:List V} {us cs:List G7},clVs vs=some cs->Vals vs us->us=cs
 | [],_,_,e,.nil=>B7 e
 | v :: r,_,_,e,.cons r1 r2=>by
  unfold clVs at e
  split at e
  ·rename_i c cs' e1 e2
   cases e;rw [clV.rel e1 r1,clVs.rel e2 r2]
  ·cases e
theorem aW:cB X (.builtin "isinstance") (λ xs H Q=>∃x cv t c b,xs=[x,cv]/\TyOf X.K H x t/\clV cv=some c/\PySem.W.kitOne X.K t c=some b/\Q (.bl b) H):=by
 intro pins s σ H xs us Q I rv h;obtain ⟨x,cv,t,c,b,rfl,ty,e1,e2,q⟩:=h;cases rv with
 | cons r1 rr =>
  cases rr with
  | cons r2 rr =>
   cases rr;rw [clV.rel e1 r2];exact nC I r1 ty e2 λ tk=>⟨.bl b,H,I.tok tk,O,q⟩
theorem fm:cB X (.builtin "isinstance") (λ xs H Q=>∃x p t cvs cs b,xs=[x,.ref p]/\TyOf X.K H x t/\H p=some (.tup cvs)/\clVs cvs=some cs/\PySem.W.kitAny X.K t cs=some b/\Q (.bl b) H):=by
 intro pins s σ H xs us Q I rv h;obtain ⟨x,p,t,cvs,cs,b,rfl,ty,hp,e1,e2,q⟩:=h;cases rv with
 | cons r1 rr =>
  cases rr with
  | cons r2 rr =>
   cases rr;cases r2;obtain ⟨_,its,rits,o,ho,hc,n,hd⟩:=I.hok p _ hp;obtain ⟨P,Z,p1,p2⟩:=I.kitx r1 ty;obtain ⟨oc,od,dt,osl⟩:=o
   replace hc:oc=.type "tuple" := hc
   replace hd:dt=.seq its.toArray n:=hd
   subst hc hd;have e3:=clVs.rel e1 rits;subst e3;exact PySem.W.kia_tup Z I.kIn p1 ho e2 p2 λ tk=>⟨.bl b,H,I.tok tk,O,q⟩
end
mutual
inductive DatV (K:C3) (H:Hp):V->PyData->Prop
 | non:DatV K H .non .none
 | bl (b:Bool):DatV K H (.bl b) (.bool b)
 | int (i:Int):DatV K H (.int i) (.int i)
 | str (x:Str):DatV K H (.str x) (.str x)
 | lst {a:Addr} {xs:List V} {ds:List PyData}:SqL K H a xs->DatVs K H xs ds->DatV K H (.ref a) (.list ds)
 | tup {a:Addr} {xs:List V} {ds:List PyData}:SqT K H a xs->DatVs K H xs ds->DatV K H (.ref a) (.tuple ds)
inductive DatVs (K:C3) (H:Hp):List V->List PyData->Prop
 | nil:DatVs K H [] []
 | cons {x:V} {d:PyData} {xs:List V} {ds:List PyData}:DatV K H x d->DatVs K H xs ds->DatVs K H (x :: xs) (d :: ds)
end
section
variable {X:Cx} {pins:List (Addr×Obj)} {σ:St} {H:Hp} {s:G3}
mutual
theorem Inv.reads (I:Inv X pins σ H s):∀ {v:V} {d:PyData},DatV X.K H v d->∀ {u:G7},RelV v u->∃as,Reads s.heap u d as
 | _,_,.non,u,r=>by cases (show u=Value.none from r); exact ⟨_,.none⟩
 | _,_,.bl b,u,r=>by cases (show u=Value.bool b from r); exact ⟨_,.bool b⟩
 | _,_,.int i,u,r=>by obtain ⟨t,e⟩:=(show ∃t,u=Value.int i t from r); subst e; exact ⟨_,.int i t⟩
 | _,_,.str x,u,r=>by obtain ⟨t,e⟩:=(show ∃t,u=Value.str x t from r); subst e; exact ⟨_,.str x t⟩
 | _,_,.lst (a:=a) h hs,u,r=>by cases (show u=Value.ref a from r);obtain ⟨its,rv,⟨o,n,e,c,_,d⟩,_⟩:=I.list h;obtain ⟨as,ra⟩:=I.readsAll hs rv;exact ⟨_,.list e c d (by simpa using ra)⟩
 | _,_,.tup (a:=a) h hs,u,r=>by cases (show u=Value.ref a from r);obtain ⟨its,rv,⟨o,e,c,n,d⟩,_⟩:=I.tuple h;obtain ⟨as,ra⟩:=I.readsAll hs rv;exact ⟨_,.tuple e c d (by simpa using ra)⟩
theorem Inv.readsAll (I:Inv X pins σ H s):∀ {vs:List V} {ds:List PyData},DatVs X.K H vs ds->∀ {us:List G7},Vals vs us->∃as,ReadsAll s.heap us ds as
 | _,_,.nil,_,.nil=>⟨_,.nil⟩
 | _,_,.cons h hs,_,.cons r rs=>by obtain ⟨as,ra⟩:=I.reads h r;obtain ⟨bs,rb⟩:=I.readsAll hs rs;exact ⟨_,.cons ra rb⟩
end
end
section
variable {X:Cx}
theorem gO (hu:X.A.units + 64 < cLine):OpR X (compareOp .NotEq) (λ x y H Q=>∃da db,DatV X.K H x da/\DatV X.K H y db/\SeqAt.shaped da=true/\SeqAt.shaped db=true/\Q (.bl (!PyData.eqv da db)) H):=by intro pins s σ H x y v u Q I rx ry h;obtain ⟨da,db,hx,hy,s1,s2,q⟩:=h;obtain ⟨as,ra⟩:=I.reads hx rx;obtain ⟨bs,rb⟩:=I.reads hy ry;exact ne_dataH ra rb s1 s2 hu ⟨.bl _,H,I,rfl,q⟩
theorem vd (hu:X.A.units + 64 < cLine):OpR X (compareOp .Eq) (λ x y H Q=>∃da db,DatV X.K H x da/\DatV X.K H y db/\SeqAt.shaped da=true/\SeqAt.shaped db=true/\Q (.bl (PyData.eqv da db)) H):=by intro pins s σ H x y v u Q I rx ry h;obtain ⟨da,db,hx,hy,s1,s2,q⟩:=h;obtain ⟨as,ra⟩:=I.reads hx rx;obtain ⟨bs,rb⟩:=I.reads hy ry;exact eq_dataH ra rb s1 s2 hu ⟨.bl _,H,I,rfl,q⟩
end
section
variable {prog:G4} {w:G6} {A:Around} {E:G7->G3->Prop}
theorem gP {it l:Addr} {items:Array G7} (hne:l≠it):∀ (n i:Nat) (s:G3) (Q:List G7->G3->Prop),s.heap.IsListIter it l i->s.heap.IsList l items->i + n<=items.size ->
  (∀h',h'.IsListIter it l (i + n)->Heap.SameBut it s.heap h'->Q ((items.toList.drop i).take n) { s with heap:=h' })->wpAny (model prog w) A (draw (.ref it) n) Q E s
 | 0,i,s,Q,hit,_,_,hQ=>by show wpAny _ _ (pure []) Q E s;exact A1 (by simpa using hQ s.heap hit (Heap.SameBut.refl ..))
 | n + 1,i,s,Q,hit,ht,hle,hQ=>by
  have hlt:i < items.size:=by omega
  show wpAny _ _ (pyNext (.ref it) >>= _) Q E s;refine A0 (wpAny_pyNext_list_item hit ht (x:=items[i]) (by simp [hlt]) λ h₁ hit₁ hs₁=>?_);refine A0 (wpAny_holding (gP hne n (i + 1) _ _ hit₁ (ht.extBut hs₁.extBut hne) (by omega) λ h₂ hit₂ hs₂=>A1 ?_));have hd:items.toList.drop i=items[i] :: items.toList.drop (i + 1):=by simp [List.drop_eq_getElem_cons,hlt]
  have q:=hQ h₂ (by rw [show i + (n + 1)=i + 1 + n by omega]; exact hit₂) (hs₁.trans hs₂);rw [hd,List.take_succ_cons] at q;exact q
theorem fo {s:G3} {l:Addr} {items:Array G7} {Q:List G7->G3->Prop} (hh:A.handled=none) (ht:s.heap.IsList l items)
  (hQ:∀h',Heap.ExtBut s.heap.objs.size s.heap h'->Q items.toList { s with heap:=h' }):wpAny (model prog w) A (unpackItems (.ref l) items.size none) Q E s:=by
 have hlt:l≠s.heap.objs.size:=by obtain ⟨o,ho,_⟩:=ht; exact B8 (A8 ho)
 have hp:(s.heap.push { cls:=.type "list_iterator",data:=.fields #[.ref l,.int 0 0] }).IsList l items:=by obtain ⟨o,ho,r⟩:=ht; exact ⟨o,A6 _ ho,r⟩
 unfold unpackItems;refine A0 ?_
 ·unfold notIterableAtAll;refine A0 (wpAny_specialOf ht.typeIs PySem.slot_list_iter.lookup ?_);refine A1 ?_;simp only [Bool.false_eq_true,if_false];refine A0 (wpAny_holding (wpAny_pyIter_list ht ?_));refine A0 (wpAny_holding (gP hlt items.size 0 _ _ ⟨_,A7 _ rfl,rfl,rfl⟩ hp (by omega) λ h₁ hit₁ hs₁=>?_));have hall:List.take items.size (List.drop 0 items.toList)=items.toList:=by rw [List.drop_zero]; exact List.take_of_length_le (by simp)
  rw [hall];rw [if_neg (by simp)];have ht₁:h₁.IsList l items:=hp.extBut hs₁.extBut hlt;refine A0 (wpAny_holding (wpAny_pyNext_list_end hh hit₁ ht₁ (by simp) λ h₂ he₂=>?_));simp only [Option.isSome_none,Bool.false_eq_true,if_false];refine A1 (hQ h₂ λ b o hb e=>he₂ b o hb (hs₁.extBut b o hb (A6 _ e)))
theorem eV {s:G3} {env:Env} {elts:List Expr} {x1} {pos:Pos} {l:Addr} {items:Array G7} {Q:Unit->G3->Prop} (hh:A.handled=none) (ht:s.heap.IsList l items)
  (hn:(assignEach elts env).length=items.size) (hstar:(assignEach elts env).findIdx? (·.1)=none)
  (h:∀h',Heap.ExtBut s.heap.objs.size s.heap h'->wpAny (model prog w) A (assignInOrder ((assignEach elts env).map (·.2)) items.toList) Q E { s with heap:=h' }) :
  wpAny (model prog w) A (assign (.Tuple elts x1 pos) env (.ref l)) Q E s:=by
 rw [assign_Tuple];refine A0 (wpAny_standAt ?_);unfold unpack;rw [hn,hstar];exact A0 (wpAny_holding (fo hh ht h))
end
section
variable {X:Cx} {pos:Pos}
def Gj (K:C3) (n:Nat) (t:TGs):TG:=λ v σ H Q=>∃a xs,v=.ref a/\(SqL K H a xs\/SqT K H a xs)/\xs.length=n/\t xs σ H Q
theorem kU {es:List Expr} {k:Nat} {t:TGs} {n:Nat} (hc:X.calm=true) (h:PGs X es t)
  (hn:(assignEach es X.env).length=n:=by rfl) (hst:(assignEach es X.env).findIdx? (·.1)=none:=by rfl):PG X (.Tuple es k pos) (Gj X.K n t):=by
 intro pins s σ H v u Q I r hw;obtain ⟨a,xs,e1,hq,hl,hw⟩:=hw;rcases hq with hq | hq
 ·subst e1;cases r;obtain ⟨its,rv,ht,hz⟩:=I.list hq;refine eV (I.ok.hd hc) ht.isList (by simp [hn,<- hl,rv.length]) hst λ h' hx=>?_;have I1:Inv X pins σ H { s with heap:=h' }:=I.kept (t':=s.toks) λ b o e=>hx b o (B8 (A8 e)) e;exact h pins _ σ H xs _ Q I1 (by simpa using rv) hw
 ·exact bq hc h hn hst pins s σ H v u Q I r ⟨a,xs,e1,hq,hl,hw⟩
end
def Itz (l1 l2:Addr):It :=
  ⟨λ i H=>∃xs ys x y,H l1=some (.lst xs)/\H l2=some (.lst ys)/\xs[i]? = some x/\ys[i]? = some y,
   λ i H v H'=>∃p xs ys x y,H p=none/\v=.ref p/\H'=upd H p (.tup [x,y])/\H l1=some (.lst xs)/\H l2=some (.lst ys)/\xs[i]? = some x/\ys[i]? = some y,
   λ i H=>∃xs ys,H l1=some (.lst xs)/\H l2=some (.lst ys)/\(xs.length<=i\/ys.length<=i)⟩
section
variable {X:Cx}
theorem Inv.turnedN {pins:List (Addr×Obj)} {σ:St} {H:Hp} {s:G3} {h':Heap} {t':Nat} {ch:List Addr} (I:Inv X pins σ H s) (hf:∀b∈ch,fL X pins H b) (k:∀b o,b∉ch->s.heap.get? b=some o->h'.get? b=some o):Inv X pins σ H { s with heap:=h',toks:=t' }:=by
 have hLc:X.env.locals∉ch:=λ z=>(hf _ z).2.1 rfl;have nt:∀b u,H b=some u->b∉ch:=λ b u e z=>by rw [(hf b z).1] at e; cases e
 refine I.step (g':=s.gens) (d':=s.drawn) (ch:=ch) (λ b hb=>⟨(hf b hb).2.2.2.1,(hf b hb).2.1,(hf b hb).2.2.2.2.1,(hf b hb).2.2.2.2.2⟩) (λ b o _ _ hc e _=>k b o hc e) (λ b o _ _ hc e _=>⟨o.slots,k b o hc e⟩) (λ _ _ _ _ n=>n)
  (λ b o hc e=>⟨o,k b o hc e⟩) (λ _ _ e=>e) (λ _ _ _ e=>e) (λ b ps e=>⟨#[],by rw [e]; simp⟩) (λ m hm=>?_) (λ b u e=>?_) I.bare
 ·obtain ⟨o,es,ep,ho,r⟩:=hm;exact ⟨o,es,ep,k _ o hLc ho,r⟩
 ·refine (I.hok b u e).stay (λ c v hc q=>k c v ?_ q) (λ _ q=>q) λ _ _ q=>q;rcases hc with z | z
  ·rw [z]; exact nt b u e
  ·exact nt c _ z
theorem Inv.track {pins:List (Addr×Obj)} {σ:St} {H:Hp} {s:G3} {a:Addr} {o:HO} (I:Inv X pins σ H s) (hf:fL X pins H a) (fa:X.s₀.heap.objs.size<=a) (new:ObjOk X.prog X.w (upd H a o) s.heap a o):Inv X pins σ (upd H a o) s:=by
 obtain ⟨f0,f1,f2,f3,f4,f5⟩:=hf;have s0:∀b o,X.s₀.heap.get? b=some o->b≠a:=λ b o e=>B8 (C0 (A8 e) fa);refine ⟨I.ok,I.os,I.bare,⟨I.base.keep,I.base.slot,λ b o e n hx=>?_,I.base.there,λ b xs e=>?_,λ b o u e=>?_,λ b ps e=>?_⟩,I.loc,I.cell,?_,λ x c e=>?_,λ p hp=>?_,I.hok.add f0 new,I.len⟩
 ·rw [am (s0 b o e)]; exact I.base.free b o e n hx
 ·have q:=I.base.tups b xs e;rw [am (ap q f0)]; exact q
 ·have q:=I.base.frzs b o u e;rw [am (ap q f0)]; exact q
 ·obtain ⟨more,q⟩:=I.base.tbls b ps e;exact ⟨more,by rw [am (ap q f0)]; exact q⟩
 ·rw [am (Ne.symm f1)]; exact I.free
 ·rw [am (f4 x c e)]; exact I.freeC x c e
 ·obtain ⟨e,n,r⟩:=I.pin p hp;exact ⟨e,by rw [am (f5 p hp)]; exact n,r⟩
end
structure ZipAp (z TI TO i1 i2:Addr):Prop where
 nd:[z,TI,TO,i1,i2].Nodup
theorem qc {P:G4} {w:G6} {K:C3} {es:List Expr} {kk:Nat} {tp:Pos} (l1 l2 z TI TO i1 i2:Addr) (D:ZipAp z TI TO i1 i2) :
  Turn P w K (.Tuple es kk tp) (Itz l1 l2) [z,TI,TO,i1,i2] z (λ i h=>IsZip h z TI TO .none/\IsPair h TI (.ref i1) (.ref i2)/\(∃a b,IsPair h TO a b)/\h.IsListIter i1 l1 i/\h.IsListIter i2 l2 i) where
 mem:=by simp
 obj:=λ i h st b hb=>by
  obtain ⟨a1,a2,⟨x,y,a3⟩,⟨o4,a4,_,d4⟩,⟨o5,a5,_,d5⟩⟩:=st;simp only [List.mem_cons,List.not_mem_nil,or_false] at hb;rcases hb with rfl | rfl | rfl | rfl | rfl
  ·exact ⟨_,a1,λ v q=>by cases q⟩
  ·exact ⟨_,a2,λ v q=>by cases q⟩
  ·exact ⟨_,a3,λ v q=>by cases q⟩
  ·exact ⟨_,a4,λ v q=>by rw [d4] at q; cases q⟩
  ·exact ⟨_,a5,λ v q=>by rw [d5] at q; cases q⟩
 keep:=λ i h h' st k=>by obtain ⟨a1,a2,⟨x,y,a3⟩,a4,a5⟩:=st;exact ⟨k z (by simp) _ a1,k TI (by simp) _ a2,⟨x,y,k TO (by simp) _ a3⟩,a4.at λ o e=>k i1 (by simp) o e,a5.at λ o e=>k i2 (by simp) o e⟩
 item:=by
  intro X hP hw hK hc i pins s σ H E I hf st hg;subst hP hw hK;obtain ⟨a1,a2,⟨x0,y0,a3⟩,a4,a5⟩:=st;obtain ⟨xs,ys,x,y,e1,e2,ex,ey⟩:=hg;have tr:∀ {l:Addr} {zs:List V},H l=some (.lst zs)->∀b∈[z,TI,TO,i1,i2],l≠b:=λ e b hb q=>by rw [q,(hf b hb).1] at e; cases e
  have nd:=D.nd;simp only [List.nodup_cons,List.mem_cons,List.not_mem_nil,or_false,not_or,List.nodup_nil,and_true,not_false_eq_true] at nd;obtain ⟨⟨n1,n2,n3,n4⟩,⟨n5,n6,n7⟩,⟨n8,n9⟩,n10⟩:=nd;have A':ZipApart z TI TO i1 i2 l1 l2:=⟨Ne.symm n1,Ne.symm n2,Ne.symm n3,Ne.symm n4,n5,n6,n7,n8,n9,n10,tr e1 z (by simp),tr e1 TO (by simp),tr e1 i1 (by simp),tr e1 i2 (by simp),tr e2 z (by simp),tr e2 TO (by simp),tr e2 i1 (by simp),tr e2 i2 (by simp)⟩
  obtain ⟨its1,rv1,p1,_⟩:=I.list (IV e1);obtain ⟨its2,rv2,p2,_⟩:=I.list (IV e2);obtain ⟨u1,hu1,r1⟩:=rv1.get ex;obtain ⟨u2,hu2,r2⟩:=rv2.get ey;refine wpAny_pyNext_zip_item A' a1 a2 a3 a4 a5 p1.isList p2.isList (x:=u1) (y:=u2) (by simpa using hu1) (by simpa using hu2) λ h' b1 b2 b3 b4 b5 b6 bk=>⟨_,O,?_⟩
  refine wpAny_letOwnedTupleGo_zip b1 λ h'' c1 cs=>?_;have zs:z < s.heap.objs.size:=A8 a1;have k2:∀b o,b∉[z,TI,TO,i1,i2]->s.heap.get? b=some o->h''.get? b=some o:=λ b o hb e=>by simp only [List.mem_cons,List.not_mem_nil,or_false,not_or] at hb;exact cs.extBut b o hb.1 (bk b o hb.1 hb.2.2.1 hb.2.2.2.1 hb.2.2.2.2 e)
  have I1:Inv X pins σ H { s with heap:=h'' }:=I.turnedN (t':=s.toks) hf k2;have hp:h''.get? s.heap.objs.size=some { cls:=.type "tuple", data:=.seq #[u1, u2] }:=cs.extBut _ _ (Nat.ne_of_gt zs) b5;have hn:H s.heap.objs.size=none:=I.hok.fresh (B2 _);have fpk:=I.fpOk (H':=H) (B2 _) hn;have I2:Inv X pins σ (upd H s.heap.objs.size (.tup [x,y])) { s with heap:=h'' }:=I1.track fpk I.sz ⟨by show 2<=sizeLine; decide,[u1,u2],.cons r1 (.cons r2 .nil),_,hp,O,_,O⟩;refine ⟨.ref s.heap.objs.size,_,I2,O,⟨_,xs,ys,x,y,hn,O,O,e1,e2,ex,ey⟩,⟨c1,?_,⟨u1,u2,cs.extBut _ _ (Ne.symm n2) b2⟩,b3.extBut cs.extBut (Ne.symm n3),b4.extBut cs.extBut (Ne.symm n4)⟩,λ b hb=>?_⟩
  ·exact cs.extBut _ _ (Ne.symm n1) (bk _ _ (Ne.symm n1) n5 n6 n7 a2)
  ·have hbl:b < s.heap.objs.size:=by
    simp only [List.mem_cons,List.not_mem_nil,or_false] at hb;obtain ⟨o4,a4',_⟩:=a4;obtain ⟨o5,a5',_⟩:=a5;rcases hb with rfl | rfl | rfl | rfl | rfl
    ·exact zs
    ·exact A8 a2
    ·exact A8 a3
    ·exact A8 a4'
    ·exact A8 a5'
   rw [am (Nat.ne_of_lt hbl)];exact (hf b hb).1
 done:=by
  intro X hP hw hK hc i pins s σ H E I hf st hg;subst hP hw hK;obtain ⟨a1,a2,⟨x0,y0,a3⟩,a4,a5⟩:=st;obtain ⟨xs,ys,e1,e2,ex⟩:=hg;have tr:∀ {l:Addr} {zs:List V},H l=some (.lst zs)->∀b∈[z,TI,TO,i1,i2],l≠b:=λ e b hb q=>by rw [q,(hf b hb).1] at e; cases e
  have nd:=D.nd;simp only [List.nodup_cons,List.mem_cons,List.not_mem_nil,or_false,not_or,List.nodup_nil,and_true,not_false_eq_true] at nd;obtain ⟨⟨n1,n2,n3,n4⟩,⟨n5,n6,n7⟩,⟨n8,n9⟩,n10⟩:=nd;have A':ZipApart z TI TO i1 i2 l1 l2:=⟨Ne.symm n1,Ne.symm n2,Ne.symm n3,Ne.symm n4,n5,n6,n7,n8,n9,n10,tr e1 z (by simp),tr e1 TO (by simp),tr e1 i1 (by simp),tr e1 i2 (by simp),tr e2 z (by simp),tr e2 TO (by simp),tr e2 i1 (by simp),tr e2 i2 (by simp)⟩
  obtain ⟨its1,rv1,p1,_⟩:=I.list (IV e1);obtain ⟨its2,rv2,p2,_⟩:=I.list (IV e2);have l1':=rv1.length;have l2':=rv2.length;refine wpAny_pyNext_zip_end (I.ok.hd hc) A' a1 a2 a3 a4 a5 p1.isList p2.isList (by rcases ex with q | q; exact .inl (by simp; omega); exact .inr (by simp; omega)) λ h' bk=>⟨O,?_⟩
  exact I.turnedN (t':=s.toks) hf λ b o hb e=>by simp only [List.mem_cons,List.not_mem_nil,or_false,not_or] at hb;exact bk b o hb.1 hb.2.2.1 hb.2.2.2.1 hb.2.2.2.2 e
 self:=λ _ _ _ _ _ st h=>wpAny_pyIter_zip st.1 h
def Gk (ta:TA):TI:=λ σ H R=>ta σ H λ vs H1=>∃l1 l2 xs ys,vs=[.ref l1,.ref l2]/\H1 l1=some (.lst xs)/\H1 l2=some (.lst ys)/\R (Itz l1 l2) H1
theorem ve {X:Cx} {a b:Expr} {ta:TA} {p pos tp:Pos} {es:List Expr} {kk:Nat} (hg:Gl X "zip") (hm:X.mg "zip" = none) (ha:PA X [a,b] ta)
  (hs:starEach [a,b] X.env=[(false,eval a X.env),(false,eval b X.env)]:=by rfl) (hs2:starEach [b] X.env=[(false,eval b X.env)]:=by rfl) :
  PI X (.Tuple es kk tp) (.Call (.Name "zip" p) [a,b] [] pos) (Gk ta):=by
 intro pins s σ H R I h;refine Call_ (eM I hg hm PyProof.Rows.boot_zip (PyProof.Rows.callWith_type1 (thn (ha pos pins s σ H _ I h) λ us s1 ⟨vs,H1,I1,r1,q1⟩=>?_) (by rw [hs,hs2]) (by rw [hs2]; rfl)));obtain ⟨l1,l2,xs,ys,rfl,e1,e2,q⟩:=q1;cases r1 with
 | cons r rr =>
  cases rr with
  | cons r' rr =>
   cases rr;cases r;cases r';obtain ⟨its1,rv1,p1,_⟩:=I1.list (IV e1);obtain ⟨its2,rv2,p2,_⟩:=I1.list (IV e2);refine call_zip_2 p1.isList p2.isList λ h' z1 z2 z3 z4 z5 sz keep=>?_;have I2:Inv X pins σ H1 { s1 with heap:=h' }:=I1.kept (t':=s1.toks) keep;refine wpAny_pyIter_zip z1 ⟨s1.heap.objs.size + 4,[s1.heap.objs.size + 4,s1.heap.objs.size + 2,s1.heap.objs.size + 3,s1.heap.objs.size,s1.heap.objs.size + 1],_,_,H1,rfl,I2,qc l1 l2 _ _ _ _ _ ⟨by simp⟩,⟨z1,z2,⟨_,_,z3⟩,z4,z5⟩,λ b hb=>?_,q⟩;have hb':s1.heap.objs.size<=b:=by simp only [List.mem_cons,List.not_mem_nil,or_false] at hb;rcases hb with rfl | rfl | rfl | rfl | rfl <;> omega
   exact I1.fpOk hb' (I1.hok.fresh hb')
end L2
namespace L2
open PySem PySem.Spec PyProof.Rows
def Dn (P:G4) (w:G6) (K:C3) (mg:Str->Option G7) (base:Heap) (x:Str) (ps:List Str) (k:Nat) (sp:Sp):Prop :=
 ∃ (f:Addr) (fd:G5),FnOk P w K mg base CX0 k f fd ps sp/\Binds K fd ps []/\PySem.W.keepIn K (.ref f)=true/\mg x=some (.ref f)
theorem ao {X:Cx} {k:Nat} {ps:List Str} {sp:Sp} {x:Str} {p pos:Pos} {e:Expr} {es:List Expr} {t:TA} (D:Dn X.prog X.w X.K X.mg X.base x ps k sp) (hr:Room k X.A) (hg:Gl X x) (ha:PA X (e :: es) t)
  (hdb:(x == ("__debug__" : Str))=false:=by decide) (he:starEach (e :: es) X.env=(false,eval e X.env) :: starEach es X.env:=by rfl) (hpl:(backTo pos (starEach es X.env)).any (·.1)=false:=by rfl) :
  PE X (.Call (.Name x p) (e :: es) [] pos) (jH sp [] E0 t):=by
 obtain ⟨f,fd,F,hb,hk,hm⟩:=D;exact sj F hr hg hm hk hb .nil mF ha hdb he hpl
def mG (sc:Scope) (N:List Str) (scope:Scope) (own cs:List Str) (cap:List Nat):Bool :=
 decide (scope.kind=.function) && scope.names.all (λ y=>decide (y.2≠.cell)) && scope.names.all (λ y=>decide (y.2=.local->scope.names.lookup y.1=some .local)) &&
 scope.names.all (λ y=>decide (y.2=.free->sc.names.lookup y.1=some .cell\/sc.names.lookup y.1=some .free)) && own.all (λ y=>decide (scope.names.lookup y=some .local)) &&
 decide (cs.length=cap.length) && (cs.zip cap).all (λ y=>decide (N[y.2]? = some y.1) && decide ((y.1,NameKind.free)∈scope.names)) && scope.names.all (λ y=>decide (y.2=.free->scope.names.lookup y.1≠some .local))
theorem bX {X:Cx} {sc:Scope} {N:List Str} {scope:Scope} {own cs:List Str} {cap:List Nat} (h1:X.env.scope=sc) (h2:X.N=N) (h:mG sc N scope own cs cap=true):CompOk X scope own cs cap:=by
 subst h1 h2;unfold mG at h;simp only [Bool.and_eq_true,List.all_eq_true,decide_eq_true_eq] at h;obtain ⟨⟨⟨⟨⟨⟨⟨a1,a2⟩,a3⟩,a4⟩,a5⟩,a6⟩,a7⟩,a8⟩:=h;refine ⟨a1,a2,a3,a4,λ i y e=>?_,a5,a6,λ y hy e=>a8 _ hy rfl e⟩;have hi:i < cs.length:=(A5.mp e).1;have hj:i < cap.length:=by rw [<- a6]; exact hi
 refine ⟨cap[i],E8 hj,?_⟩;have hm:(y,cap[i])∈cs.zip cap:=by
  have:(cs.zip cap)[i]? = some (y,cap[i]):=by rw [List.getElem?_zip_eq_some];exact ⟨e,E8 hj⟩
  exact B4 this
 exact a7 _ hm
theorem dO {σ:St} {H:Hp} {A B:Hp->Prop} (h:A H):zy σ H (λ ok H3=>if ok=true then A H3 else B H3):=by show (if (true:Bool)=true then A H else B H);rw [if_pos rfl];exact h
section
variable {X:Cx} {tg:Expr}
def vf (K:C3) (tl:TE):TI:=λ σ H R=>uC K tl σ H R\/zi K tl σ H R
theorem qd {l:Expr} {tl:TE} (hl:PE X l tl):PI X tg l (vf X.K tl):=by
 intro pins s σ H R I h;rcases h with h | h
 ·exact cj hl pins s σ H R I h
 ·exact iV hl pins s σ H R I h
end
def aD:List String:=["NoneType","bool","int","str","list","tuple","dict"]
theorem mH {K:C3}:∀T∈aD,PySem.W.kitOne K (.type T) (.type "int")=some (T == "int" || T == "bool"):=by intro T h;simp only [aD,List.mem_cons,List.not_mem_nil,or_false] at h;rcases h with rfl | rfl | rfl | rfl | rfl | rfl | rfl <;> kernel_rfl
theorem ft {K:C3}:∀T∈aD,PySem.W.kitOne K (.type T) (.type "bool")=some (T == "bool"):=by intro T h;simp only [aD,List.mem_cons,List.not_mem_nil,or_false] at h;rcases h with rfl | rfl | rfl | rfl | rfl | rfl | rfl <;> kernel_rfl
theorem qg {K:C3}:∀T∈aD,PySem.W.kitOne K (.type T) (.type "list")=some (T == "list"):=by intro T h;simp only [aD,List.mem_cons,List.not_mem_nil,or_false] at h;rcases h with rfl | rfl | rfl | rfl | rfl | rfl | rfl <;> kernel_rfl
theorem bD {K:C3}:∀T∈aD,PySem.W.kitOne K (.type T) (.type "tuple")=some (T == "tuple"):=by intro T h;simp only [aD,List.mem_cons,List.not_mem_nil,or_false] at h;rcases h with rfl | rfl | rfl | rfl | rfl | rfl | rfl <;> kernel_rfl
theorem bA {K:C3}:∀T∈aD,PySem.W.kitOne K (.type T) (.type "str")=some (T == "str"):=by intro T h;simp only [aD,List.mem_cons,List.not_mem_nil,or_false] at h;rcases h with rfl | rfl | rfl | rfl | rfl | rfl | rfl <;> kernel_rfl
theorem jg {K:C3}:∀T∈aD,PySem.W.kitAny K (.type T) [.type "list",.type "tuple"]=some (T == "list" || T == "tuple"):=by
 intro T h;have h1:=qg (K:=K) T h;have h2:=bD (K:=K) T h;unfold PySem.W.kitAny;rw [h1];cases e:(T == "list") with
 | true=>rfl
 | false =>
  show PySem.W.kitAny K (.type T) [.type "tuple"]=_;unfold PySem.W.kitAny;rw [h2];cases e2:(T == "tuple") <;> rfl
def Ty (K:C3) (H:Hp) (x:V) (T:String):Prop:=T∈aD/\TyOf K H x (.type T)
theorem Ty.int {K:C3} {H:Hp} {i:Int}:Ty K H (.int i) "int" := ⟨by simp [aD],.int i⟩
theorem Ty.bl {K:C3} {H:Hp} {b:Bool}:Ty K H (.bl b) "bool" := ⟨by simp [aD],.bl b⟩
theorem Ty.non {K:C3} {H:Hp}:Ty K H .non "NoneType" := ⟨by simp [aD],.non⟩
theorem Ty.str {K:C3} {H:Hp} {x:Str}:Ty K H (.str x) "str" := ⟨by simp [aD],.str x⟩
theorem Ty.lst {K:C3} {H:Hp} {a:Addr} {xs:List V} (e:H a=some (.lst xs)):Ty K H (.ref a) "list" := ⟨by simp [aD],.lst e⟩
theorem Ty.tup {K:C3} {H:Hp} {a:Addr} {xs:List V} (e:H a=some (.tup xs)):Ty K H (.ref a) "tuple" := ⟨by simp [aD],.tup e⟩
theorem Ty.dK {K:C3} {H:Hp} {a:Addr} {xs:List (Key×V)} (e:H a=some (.dK xs)):Ty K H (.ref a) "dict" := ⟨by simp [aD],.dK e⟩
def aK:V->Int->Bool
 | .int i,l=>decide (l<=i)
 | _,_=>false
def jh:V->Bool
 | .bl _=>true
 | _=>false
theorem qh {K:C3} {H:Hp} {x:V} {T:String} (t:TyOf K H x (.type T)) (h:T∈aD):(T == "int")=true->∃i,x=.int i:=by
 intro e;have e':T = "int" := by simpa using e
 subst e';generalize hv:Value.type "int" = tv at t;cases t with
 | int i=>exact ⟨i,O⟩
 | _=>exact absurd hv (by simp)
theorem gq {K:C3} {H:Hp} {x:V} {T:String} (t:TyOf K H x (.type T)):(T == "bool")=jh x:=by
 generalize hv:Value.type T=tv at t;cases t with
 | bl b=>cases hv; rfl
 | non=>cases hv; rfl
 | int i=>cases hv; rfl
 | str i=>cases hv; rfl
 | flt i=>cases hv; rfl
 | lst i=>cases hv; rfl
 | frz i=>cases hv; rfl
 | tup i=>cases hv; rfl
 | dK i=>cases hv; rfl
 | dT i=>cases hv; rfl
 | ins=>cases hv
end L2
local macro_rules|`($a ^^^ $b)=>`(@L2.aa _ _ _ _ _ $a $b rfl)
namespace Pc
open PySem L2
structure Pot (a b:Int):Prop where
 a0:0<=a
 b0:0<=b
 b1:b < 2147483629
def PotAt (H:Hp) (p:Addr):Prop:=∃a b,Pot a b/\H p=some (.lst [.int a,.int b])
def But (p:Addr) (H H':Hp):Prop:=∀b o,b≠p->H b=some o->H' b=some o
theorem But.refl {p:Addr} {H:Hp}:But p H H:=λ _ _ _ e=>e
theorem But.trans {p:Addr} {H H1 H2:Hp} (a:But p H H1) (b:But p H1 H2):But p H H2:=λ c o n e=>b c o n (a c o n e)
theorem But.upd {p:Addr} {H:Hp} {o:HO}:But p H (upd H p o):=λ b u n e=>by rw [am n]; exact e
theorem But.new {p q:Addr} {H:Hp} {o:HO} (h:H q=none):But p H (L2.upd H q o):=λ b u n e=>by rw [am (ap e h)]; exact e
theorem PotAt.new {p q:Addr} {H:Hp} {o:HO} (x:PotAt H p) (h:H q=none):PotAt (L2.upd H q o) p:=by obtain ⟨a,b,h1,h2⟩:=x;exact ⟨a,b,h1,by rw [am (ap h2 h)]; exact h2⟩
theorem PotAt.some {p:Addr} {H:Hp} (x:PotAt H p):H p≠none:=by obtain ⟨a,b,_,h⟩:=x;rw [h]; exact λ z=>nomatch z
theorem But.free {p q:Addr} {H H':Hp} (b:But p H H') (x:PotAt H' p) (h:H' q=none):H q=none:=by
 cases e:H q with
 | none=>rfl
 | some o =>
  by_cases hq:q=p
  ·subst hq; exact absurd h x.some
  ·rw [b q o hq e] at h; cases h
theorem But.same {p:Addr} {H H':Hp} (b:But p H H') (h:H p=none):Same H H':=λ c o e=>b c o (ap e h) e
structure Kd where
 w:Int
 h:Int
 wo:Int
 wa:Int
 tu:Bool
def kdV (k:Kd):List V:=[.int k.w,.int k.h,.int k.wo,.int k.wa,.bl k.tu]
structure Good (k:Kd):Prop where
 w:1<=k.w
 h:1<=k.h
 wo:0<=k.wo
 wa:0<=k.wa
 w':k.w < 10 ^ 60
 h':k.h < 10 ^ 60
 wo':k.wo < 10 ^ 60
 wa':k.wa < 10 ^ 60
def TupAt (H:Hp) (v:V) (k:Kd):Prop:=∃a,v=.ref a/\H a=some (.tup (kdV k))
def zA (H:Hp) (v:V) (k:Kd):Prop:=∃a,v=.ref a/\H a=some (.lst (kdV k))
def RowAt (H:Hp) (v:V) (k:Kd):Prop:=TupAt H v k\/zA H v k
abbrev Tups (H:Hp):List V->List Kd->Prop:=Paired (TupAt H)
theorem Tups.keep {H H':Hp} (k:∀b xs,H b=some (.tup xs)->H' b=some (.tup xs)):∀ {xs:List V} {ks:List Kd},Tups H xs ks->Tups H' xs ks:=λ r =>
 IW r λ v kd ⟨a,e,h⟩=>⟨a,e,k a _ h⟩
def qi (K:C3):Sp:=λ vs H Q _=>∃ (a:Addr) (ns:List Int) (n:Int),vs=[.ref a,.int n]/\SqL K H a (ns.map V.int)/\0<=n/\n<=1000/\ns.length<=63 /\
 ∀ (p:Addr) (H':Hp),H p=none->PotAt H' p->Same H H'->Q (.ref p) H'
def bP:Sp:=λ vs H Q _=>∃ (p:Addr) (m:Int),vs=[.ref p,.int m]/\PotAt H p/\0 < m/\m<=10 ^ 60/\∀ (r:Int) (H':Hp),0<=r->r < m->PotAt H' p->But p H H'->Q (.int r) H'
def dP:Sp:=λ vs H Q _=>∃ (p:Addr) (l:Int),vs=[.ref p,.int l]/\PotAt H p/\0<=l/\l<=1/\∀ (n:Int) (H':Hp),l<=n->n < 10 ^ 60->PotAt H' p->But p H H'->Q (.int n) H'
def kW:Sp:=λ vs H Q _=>∃ (p:Addr),vs=[.ref p]/\PotAt H p/\∀ (t:Addr) (k:Kd) (H':Hp),H t=none->Good k->H' t=some (.tup (kdV k))->PotAt H' p->But p H H'->Q (.ref t) H'
structure ToldAt (H:Hp) (t l:Addr) (bl:Int) (xs:List V) (ks:List Kd):Prop where
 t:H t=some (.tup [.int bl,.ref l])
 l:H l=some (.lst xs)
 r:Tups H xs ks
 b0:0<=bl
 b1:bl < 10 ^ 60
 g:∀k∈ks,Good k
 n0:1<=xs.length
 n1:xs.length<=8
def bB (K:C3):Sp:=λ vs H Q _=>∃ (x:V) (T:String) (l:Int),vs=[x,.int l]/\Ty K H x T/\Q (.bl (aK x l)) H
def gr (K:C3):Sp:=λ vs H Q _=>∃ (x:V) (T:String),vs=[x]/\Ty K H x T/\Q (.bl (jh x)) H
def jM (K:C3):Sp:=λ vs H Q _=>∃ (x:V) (T:String), vs=[x]/\Ty K H x T/\∀H', Same H H'->Q (.bl (T == "list" || T == "tuple")) H'
def iC:List V->Bool
 | [w,h,wo,wa,tu]=>aK w 1 && aK h 1 && aK wo 0 && aK wa 0 && jh tu
 | _=>false
def fu (K:C3):Sp:=λ vs H Q _=>∃ (x:V) (T:String),vs=[x]/\Ty K H x T /\ 
 ((T ≠ "list" /\ T ≠ "tuple" /\ ∀H', Same H H'->Q (.bl false) H')\/∃ (a:Addr) (xs:List V), x=.ref a/\(H a=some (.lst xs)\/H a=some (.tup xs))/\(∀y∈xs, ∃U, Ty K H y U)/\∀H', Same H H'->Q (.bl (iC xs)) H')
theorem gQ {k:Kd} (g:Good k):iC (kdV k)=true:=by
 show (decide (1<=k.w) && decide (1<=k.h) && decide (0<=k.wo) && decide (0<=k.wa) && true)=true;rw [decide_eq_true g.w,decide_eq_true g.h,decide_eq_true g.wo,decide_eq_true g.wa]
 rfl
theorem Ty.same {K:C3} {H H':Hp} {x:V} {T:String} (s:Same H H') (t:Ty K H x T):Ty K H' x T:=by
 refine ⟨t.1,?_⟩;have t2:=t.2;generalize hv:Value.type T=tv at t2 ⊢;cases t2 with
 | non=>exact .non
 | bl b=>exact .bl b
 | int b=>exact .int b
 | str b=>exact .str b
 | flt b=>exact .flt b
 | lst e=>exact .lst (s _ _ e)
 | frz e=>exact .frz (s _ _ e)
 | tup e=>exact .tup (s _ _ e)
 | dK e=>exact .dK (s _ _ e)
 | dT e=>exact .dT (s _ _ e)
 | ins=>cases hv
end Pc
namespace L2
open PySem PySem.Spec PyProof.Rows
def qj (K:C3):List V->Hp->VK->Prop:=λ xs H Q=>∃p ys,xs=[V.ref p]/\((SqL K H p ys/\∀l,H l=none->Q (.ref l) (upd H l (.tup ys)))\/(SqT K H p ys/\Q (.ref p) H))
theorem qk {K:C3} {j:Nat} {a:Addr} {xs:List V} {g:TG} {tb:TS} {D:Ends} {σ:St} {H:Hp} (hσ:σ[j]? = some (some (.ref a))) (hs:H a=some (.lst xs)\/H a=some (.tup xs)) (Pv:Nat->St->Hp->Prop) (h0:Pv 0 σ H)
  (hk:∀i σ H',i<=xs.length->Pv i σ H'->∀o,H a=some o->H' a=some o)
  (ht:∀i x σ H,xs[i]? = some x->Pv i σ H->g x σ H λ σ2 H2=>tb { D with nx:=Pv (i + 1),ct:=Pv (i + 1),bk:=D.nx } σ2 H2) (hd:∀σ H,Pv xs.length σ H->D.nx σ H):zm (vf K (tVar j)) g tb D σ H:=by
 rcases hs with z | z
 ·exact .inl ⟨_,hσ,a,O,⟨xs,IV z⟩,cP (xs:=xs) Pv h0 (λ i σ H' hi p=>IV (hk i σ H' hi p _ z)) ht hd⟩
 ·exact .inr ⟨_,hσ,a,O,⟨xs,IU z⟩,iX (xs:=xs) Pv h0 (λ i σ H' hi p=>IU (hk i σ H' hi p _ z)) ht hd⟩
def Nx (n:Nat) (Pv:Nat->List V->Hp->Prop) (i:Nat) (ys:List V) (H:Hp):Prop:=∃m',m' < n - i/\m'=n - (i + 1)/\i + 1<=n/\Pv (i + 1) ys H
theorem Nx.of {n:Nat} {Pv:Nat->List V->Hp->Prop} {i:Nat} {ys:List V} {H:Hp} (h:i < n) (p:Pv (i + 1) ys H):Nx n Pv i ys H:=⟨n - (i + 1),by omega,O,h,p⟩
theorem dQ {K:C3} {a:Addr} {xs:List V} {σ:St} {cap:List Nat} {k:Nat} {g:TG} {tt:TT} {te:TE} {Q:List V->Hp->Prop} {H:Hp} (hs:H a=some (.lst xs)\/H a=some (.tup xs)) (Pv:Nat->List V->Hp->Prop)
  (hk:∀i ys H',i<=xs.length->Pv i ys H'->∀o,H a=some o->H' a=some o) (h0:Pv 0 [] H)
  (ht:∀i x ys H',xs[i]? = some x->Pv i ys H'->ys.length < sizeLine/\g x (bO σ cap k) H' λ σ2 H2=>leS (bO σ cap k) σ2/\tt σ2 H2 λ ok H3=>if ok=true then te σ2 H3 (λ v H4=>Nx xs.length Pv i (ys ++ [v]) H4) else Nx xs.length Pv i ys H3)
  (hd:∀ys H',Pv xs.length ys H'->ys.length<=sizeLine/\Q ys H') :
  (H a=some (.lst xs)->∃W,(∃m,W 0 m [] H)/\iB σ cap k (Itl K a) g tt te Q W)/\(H a=some (.tup xs)->∃W,(∃m,W 0 m [] H)/\iB σ cap k (Itt K a) g tt te Q W):=by
 refine ⟨λ z=>⟨λ i m ys H'=>m=xs.length - i/\i<=xs.length/\Pv i ys H',⟨_,O,E5 _,h0⟩,?_⟩,λ z=>⟨λ i m ys H'=>m=xs.length - i/\i<=xs.length/\Pv i ys H',⟨_,O,E5 _,h0⟩,?_⟩⟩
 ·rintro i m ys H' ⟨rfl,hi,p⟩;have z':=hk i ys H' hi p _ z
  by_cases hin:i < xs.length
  ·obtain ⟨e,hg⟩:=ht i xs[i] ys H' (by simp [hin]) p;refine .inr ⟨⟨xs,xs[i],IV z',by simp [hin]⟩,e,λ x H2 yl=>?_⟩;obtain ⟨e1,e2⟩:=yl;have e3:=e2 xs (IV z');have e4:x=xs[i]:=by simpa [hin] using e3.symm
   subst e1 e4;exact hg
  ·have e:i=xs.length:=by omega
   subst e;obtain ⟨a1,a2⟩:=hd ys H' p;exact .inl ⟨⟨xs,IV z',B2 _⟩,a1,a2⟩
 ·rintro i m ys H' ⟨rfl,hi,p⟩;have z':=hk i ys H' hi p _ z
  by_cases hin:i < xs.length
  ·obtain ⟨e,hg⟩:=ht i xs[i] ys H' (by simp [hin]) p;refine .inr ⟨⟨xs,xs[i],IU z',by simp [hin]⟩,e,λ x H2 yl=>?_⟩;obtain ⟨e1,e2⟩:=yl;have e3:=e2 xs (IU z');have e4:x=xs[i]:=by simpa [hin] using e3.symm
   subst e1 e4;exact hg
  ·have e:i=xs.length:=by omega
   subst e;obtain ⟨a1,a2⟩:=hd ys H' p;exact .inl ⟨⟨xs,IU z',B2 _⟩,a1,a2⟩
theorem nH {K:C3} {j:Nat} {a:Addr} {xs:List V} {σ:St} {cap:List Nat} {k:Nat} {g:TG} {tt:TT} {te:TE} {Q:VK} {H:Hp} (hσ:σ[j]? = some (some (.ref a))) (hs:H a=some (.lst xs)\/H a=some (.tup xs)) (Pv:Nat->List V->Hp->Prop)
  (hk:∀i ys H',i<=xs.length->Pv i ys H'->∀o,H a=some o->H' a=some o) (h0:Pv 0 [] H)
  (ht:∀i x ys H',xs[i]? = some x->Pv i ys H'->ys.length < sizeLine/\g x (bO σ cap k) H' λ σ2 H2=>leS (bO σ cap k) σ2/\tt σ2 H2 λ ok H3=>if ok=true then te σ2 H3 (λ v H4=>Nx xs.length Pv i (ys ++ [v]) H4) else Nx xs.length Pv i ys H3)
  (hd:∀ys H',Pv xs.length ys H'->ys.length<=sizeLine/\∀p,H' p=none->Q (.ref p) (upd H' p (.lst ys))):qa (vf K (tVar j)) cap k g tt te σ H Q:=by
 obtain ⟨c1,c2⟩:=dQ (K:=K) (σ:=σ) (cap:=cap) (k:=k) (g:=g) (tt:=tt) (te:=te) hs Pv hk h0 ht hd;rcases hs with z | z
 ·exact .inl ⟨_,hσ,a,O,⟨xs,IV z⟩,c1 z⟩
 ·exact .inr ⟨_,hσ,a,O,⟨xs,IU z⟩,c2 z⟩
end L2
namespace Pc
open PySem L2
def kX (b:Int) (r:Addr):List (Str×V):=cI "kind_rows" (.ref r) (cI "blade_width" (.int b) [])
theorem kbw:¬ (("blade_width" : Str) = "kind_rows"):=by decide +kernel
theorem kY (b:Int) (r:Addr):(kX b r).lookup ("blade_width" : Str)=some (.int b):=by unfold kX;rw [bE,if_neg kbw,bE,if_pos rfl]
theorem em (b:Int) (r:Addr):(kX b r).lookup ("kind_rows" : Str)=some (.ref r):=by unfold kX;rw [bE,if_pos rfl]
theorem cK (b:Int) (r:Addr) {m:Str} (h1:¬ m = "kind_rows") (h2:¬ m = "blade_width"):(kX b r).lookup m=none:=by
 unfold kX;rw [bE,if_neg h1,bE,if_neg h2]
 all_goals rfl
def ShopAt (C:Addr) (H:Hp) (x:Addr) (b:Int) (ks:List Kd):Prop:=∃dx r rs,H x=some (.ins C dx (kX b r))/\H r=some (.tup rs)/\Tups H rs ks
theorem ShopAt.keep {C:Addr} {H H':Hp} {x:Addr} {b:Int} {ks:List Kd} (s:ShopAt C H x b ks) (k1:∀b xs,H b=some (.tup xs)->H' b=some (.tup xs)) (k2:∀b C dx fs,H b=some (.ins C dx fs)->H' b=some (.ins C dx fs)):ShopAt C H' x b ks:=by obtain ⟨dx,r,rs,h1,h2,h3⟩:=s;exact ⟨dx,r,rs,k2 _ _ _ _ h1,k1 _ _ h2,Tups.keep k1 h3⟩
def kZ (C:Addr):Sp:=λ vs H Q _=>∃ (x dx ks:Addr) (b:Int) (rs:List V) (kds:List Kd),vs=[.ref x,.int b,.ref ks]/\H x=some (.ins C dx [])/\0<=b/\(H ks=some (.lst rs)\/H ks=some (.tup rs))/\Paired (RowAt H) rs kds/\(∀k∈kds,Good k)/\1<=rs.length/\rs.length<=8 /\
 ∀H':Hp,ShopAt C H' x b kds->(∀c o,c≠x->H c=some o->H' c=some o)->Q .non H'
def gs (C:Addr):Sp:=λ vs H Q _=>∃ (x:Addr) (b:Int) (ks:List Kd),vs=[.ref x]/\ShopAt C H x b ks/\Q (.int b) H
def gt (C:Addr):Sp:=λ vs H Q _=>∃ (x:Addr) (b:Int) (ks:List Kd),vs=[.ref x]/\ShopAt C H x b ks/\∀ (l:Addr) (rs:List V),H l=none->Tups H rs ks->Q (.ref l) (upd H l (.lst rs))
theorem mI {K:C3} {H:Hp} {k:Kd}:∀y∈kdV k,∃U,Ty K H y U:=by
 intro y hy;simp only [kdV,List.mem_cons,List.not_mem_nil,or_false] at hy;rcases hy with rfl | rfl | rfl | rfl | rfl
 ·exact ⟨_,.int⟩
 ·exact ⟨_,.int⟩
 ·exact ⟨_,.int⟩
 ·exact ⟨_,.int⟩
 ·exact ⟨_,.bl⟩
theorem Paired.getR {α β:Type} {F:α->β->Prop}:∀ {l₁:List α} {l₂:List β} {i:Nat} {x:α},Paired F l₁ l₂->l₁[i]? = some x->∃y,l₂[i]? = some y/\F x y
 | _,_,_,_,.nil,e=>by simp at e
 | _,_,0,_,.cons h _,e=>by simp at e; subst e; exact ⟨_,O,h⟩
 | _,_,i + 1,x,.cons _ t,e=>by obtain ⟨y,h1,h2⟩:=Paired.getR (i:=i) (x:=x) t (by simpa using e);exact ⟨y,by simpa using h1,h2⟩
abbrev IX:=@Paired.getR
theorem RowAt.same {H H':Hp} {v:V} {k:Kd} (s:Same H H') (r:RowAt H v k):RowAt H' v k:=by
 rcases r with ⟨a,e,h⟩ | ⟨a,e,h⟩
 ·exact .inl ⟨a,e,s _ _ h⟩
 ·exact .inr ⟨a,e,s _ _ h⟩
theorem nI {K:C3} {H:Hp} {v:V} {k:Kd} {Q:VK} {E:XK} (r:RowAt H v k) (g:Good k) (q:∀H',Same H H'->Q (.bl true) H'):fu K [v] H Q E:=by
 rcases r with ⟨a,rfl,h⟩ | ⟨a,rfl,h⟩
 ·exact ⟨_,_,O,.tup h,.inr ⟨a,_,O,.inr h,mI,λ H' s=>by rw [gQ g]; exact q H' s⟩⟩
 ·exact ⟨_,_,O,.lst h,.inr ⟨a,_,O,.inl h,mI,λ H' s=>by rw [gQ g]; exact q H' s⟩⟩
structure ShopTxt (K:C3) (C:Addr):Prop where
 cl:Cls K C
 nB:NoAttr K C "blade_width"
 nK:NoAttr K C "kind_rows"
end Pc
namespace L2
open PySem PySem.Spec PyProof.Rows
def Mn (P:G4) (w:G6) (K:C3) (mg:Str->Option G7) (base:Heap) (C:Addr) (m:Str) (ps:List Str) (k:Nat) (sp:Sp):Prop :=
 ∃ (f:Addr) (fd:G5),FnOk P w K mg base CX0 k f fd ps sp/\Binds K fd ps []/\Meth K C m f
theorem ji {X:Cx} {k:Nat} {C:Addr} {ps:List Str} {sp:Sp} {m:Str} {o:Expr} {ta:TE} {apos pos:Pos} {pl:Sem Bool} (he:PE X o ta) (c:Cls X.K C) (D:Mn X.prog X.w X.K X.mg X.base C m ps k sp) (hr:Room k X.A)
  (ht:eval (.Call (.Attribute o m apos) [] [] pos) X.env=(do
   let ov<-eval o X.env
   standAt apos.atName
   let (f,first)<-holding [ov] (getMethod ov m pl)
   callWith pos f first (backTo pos (starEach [] X.env)) (backToKw pos (keywordEach [] X.env))):=by rfl):PE X (.Call (.Attribute o m apos) [] [] pos) (mB C m sp [] E0 ta jG):=by
 obtain ⟨f,fd,F,hb,hm⟩:=D;exact pQ he c hm F hr hb .nil mF ht
def Kn (P:G4) (w:G6) (K:C3) (mg:Str->Option G7) (base:Heap) (x:Str) (C:Addr) (ps:List Str) (k:Nat) (sp:Sp):Prop :=
 ∃ (f:Addr) (fd:G5),Mk K C f/\FnOk P w K mg base CX0 k f fd ps sp/\Binds K fd ps []/\mg x=some (.ref C)
theorem zB {X:Cx} {k:Nat} {C:Addr} {ps:List Str} {sp:Sp} {x:Str} {p pos:Pos} {e:Expr} {es:List Expr} {t:TA} (D:Kn X.prog X.w X.K X.mg X.base x C ps k sp) (hr:Room (k + 1) X.A) (hg:Gl X x) (ha:PA X (e :: es) t)
  (hdb:(x == ("__debug__" : Str))=false:=by decide) (he:starEach (e :: es) X.env=(false,eval e X.env) :: starEach es X.env:=by rfl) (hpl:(backTo pos (starEach es X.env)).any (·.1)=false:=by rfl) :
  PE X (.Call (.Name x p) (e :: es) [] pos) (uG C sp [] E0 t):=by
 obtain ⟨f,fd,M,F,hb,hm⟩:=D;exact sr M F hr hg hm hb .nil mF ha hdb he hpl
end L2
namespace Pc
open PySem L2
theorem Same.new {q:Addr} {H:Hp} {o:HO} (h:H q=none):Same H (upd H q o):=λ b u e=>by rw [am (ap e h)]; exact e
abbrev G8:=@Same.new
end Pc
namespace L2
open PySem PySem.Spec PyProof.Rows
def RI (M:Model) (Γ:PySem.Ctx) (p:Pos) (s:G3) (e:End) (s':G3):Sem Fin->Prop
 | .pure (.done f)=>e=.ret (.ok f)/\s=s'
 | .pure (.again c)=>Runs M (Γ.goto c) p (M.den c) [] s e s'
 | .raise x=>e=.ret (.error x)/\s=s'
 | .rule _ k=>Runs M Γ p (k ()) [] s e s'
 | .at p' k=>Runs M Γ p' (k ()) [] s e s'
 | .load a _ k=>∃o,s.heap.get? a=some o/\Runs M Γ p (k o) [] s e s'
 | .update a _ f k=>Runs M Γ p (k ()) [] { s with heap:=s.heap.update a f } e s'
 | .loadIfAlive a k=>Runs M Γ p (k (s.heap.get? a)) [] s e s'
 | .point _ k=>Runs M Γ p (k ()) [] s e s'
 | .alloc o k=>Runs M Γ p (k s.heap.objs.size) [] { s with heap:=s.heap.push o } e s'
 | .fresh k=>Runs M Γ p (k s.toks) [] { s with toks:=s.toks + 1 } e s'
 | .ask k=>Runs M Γ p (k ⟨M.prog,M.w.params⟩) [] s e s'
 | .choose src n k=>Runs M Γ p (k (M.w.draws src (s.drawn.get src) % n)) [] { s with drawn:=s.drawn.bump src } e s'
 | .os q _ k=>Runs M Γ p (k (Os.step s.os q).2) [] { s with os:=(Os.step s.os q).1 } e s'
 | .handled own k=>Runs M Γ p (k (if own then Γ.own else Γ.handled)) [] s e s'
 | .genState g k=>∃st,s.gens[g]? = some st/\Runs M Γ p (k st.seen) [] s e s'
 | .stack k=>Runs M Γ p (k ((Γ.code,p) :: Γ.below)) [] s e s'
 | .thread k=>Runs M Γ p (k 0) [] s e s'
 | .newGen c k=>Runs M Γ p (k s.gens.size) [] { s with gens:=s.gens.push (.fresh c) } e s'
 | .yield v g l k=>e=.susp v g l k Γ.code p []/\s=s'
 | .call c h g l k=>(∃r s₁,Runs M (Γ.enter c h p) p (M.den c) [] s (.ret r) s₁/\Runs M Γ p (k r) [] s₁ e s') \/
   (∃v g₀ l₀ k₀ c₀ p₀ fs,Runs M (Γ.enter c h p) p (M.den c) [] s (.susp v g₀ l₀ k₀ c₀ p₀ fs) s'/\e=.susp v g₀ l₀ k₀ c₀ p₀ (fs ++ [.ret k h g l Γ.code p []]))
 | .resume g r _ k=>(∃c e₁ s₁,r=.send .none/\s.gens[g]? = some (.fresh c)/\Runs M (Γ.wake c p) p (M.den c) [] (s.setGen g .running) e₁ s₁/\Runs M Γ p (k e₁.result) [] (s₁.setGen g e₁.genState) e s') \/
   (∃k₀ l₀ c₀ p₀ fs cl e₁ s₁,s.gens[g]? = some (.suspended k₀ l₀ c₀ p₀ fs cl)/\Runs M (Γ.wake c₀ p) p₀ (k₀ r) fs (s.setGen g .running) e₁ s₁/\Runs M Γ p (k e₁.result) [] (s₁.setGen g e₁.genState) e s') \/
   (∃c v,r=.send v/\v≠.none/\s.gens[g]? = some (.fresh c)/\Runs M Γ p (k .justStarted) [] s e s') \/
   (∃c x,r=.throw x/\s.gens[g]? = some (.fresh c)/\Runs M Γ p (k (.raised x)) [] (s.setGen g .finished) e s') \/
   (s.gens[g]? = some .running/\Runs M Γ p (k .running) [] s e s')\/(s.gens[g]? = some .finished/\Runs M Γ p (k .finished) [] s e s')
 | _=>True
def RJ (M:Model) (Γ:PySem.Ctx) (p:Pos) (t:Sem Fin) (s:G3) (e:End) (s':G3):List Frame->Prop
 | []=>RI M Γ p s e s' t
 | F :: fs=>(∃k h g l c₁ p₁ kp r s₁,F=.ret k h g l c₁ p₁ kp/\Runs M (Γ.over (F :: fs)) p t [] s (.ret r) s₁/\Runs M (Γ.goto c₁) p₁ (k r) fs s₁ e s') \/
   (∃g k l c₁ p₁ r s₁,F=.gen g k l c₁ p₁/\Runs M (Γ.over (F :: fs)) p t [] s (.ret r) s₁/\Runs M (Γ.goto c₁) p₁ (k (End.ret r).result) fs (s₁.setGen g .finished) e s') \/
   (∃v g₀ l₀ k₀ c₀ p₀ fs₀,splitAtGen (F :: fs)=none/\Runs M (Γ.over (F :: fs)) p t [] s (.susp v g₀ l₀ k₀ c₀ p₀ fs₀) s'/\e=.susp v g₀ l₀ k₀ c₀ p₀ (fs₀ ++ F :: fs)) \/
   (∃pre g k c₁ p₁ rest v g₀ l₀ k₀ c₀ p₀ fs₀ s₁,splitAtGen (F :: fs)=some (pre,(g,k,c₁,p₁),rest)/\Runs M (Γ.over (F :: fs)) p t [] s (.susp v g₀ l₀ k₀ c₀ p₀ fs₀) s₁/\Runs M (Γ.goto c₁) p₁ (k (.yielded v)) rest (s₁.setGen g (End.susp v g₀ l₀ k₀ c₀ p₀ (fs₀ ++ pre)).genState) e s')
theorem bF {M:Model} {Γ:PySem.Ctx} {p:Pos} {t:Sem Fin} {fs:List Frame} {s s':G3} {e:End} (h:Runs M Γ p t fs s e s'):RJ M Γ p t s e s' fs:=by
 cases h with
 | done=>exact ⟨O,O⟩
 | raise=>exact ⟨O,O⟩
 | again _ b=>exact b
 | rule b=>exact b
 | «at» b=>exact b
 | load a b=>exact ⟨_,a,b⟩
 | update _ b=>exact b
 | loadIfAlive b=>exact b
 | point b=>exact b
 | alloc b=>exact b
 | fresh b=>exact b
 | ask b=>exact b
 | choose _ b=>exact b
 | os b=>exact b
 | handled b=>exact b
 | genState a b=>exact ⟨_,a,b⟩
 | stack b=>exact b
 | thread b=>exact b
 | newGen b=>exact b
 | call a b=>exact .inl ⟨_,_,a,b⟩
 | callSusp a=>exact .inr ⟨_,_,_,_,_,_,_,a,O⟩
 | yield=>exact ⟨O,O⟩
 | resumeFresh a b _ c=>exact .inl ⟨_,_,_,O,a,b,c⟩
 | resumeSuspended a b _ c=>exact .inr (.inl ⟨_,_,_,_,_,_,_,_,a,b,c⟩)
 | resumeJustStarted a b c=>exact .inr (.inr (.inl ⟨_,_,O,b,a,c⟩))
 | resumeThrowFresh a b=>exact .inr (.inr (.inr (.inl ⟨_,_,O,a,b⟩)))
 | resumeRunning a b=>exact .inr (.inr (.inr (.inr (.inl ⟨a,b⟩))))
 | resumeFinished a b=>exact .inr (.inr (.inr (.inr (.inr ⟨a,b⟩))))
 | segRet a b=>exact .inl ⟨_,_,_,_,_,_,_,_,_,O,a,b⟩
 | segGen a b=>exact .inr (.inl ⟨_,_,_,_,_,_,_,O,a,b⟩)
 | segSuspOut a b=>exact .inr (.inr (.inl ⟨_,_,_,_,_,_,_,a,b,O⟩))
 | segSuspGen a b _ c=>exact .inr (.inr (.inr ⟨_,_,_,_,_,_,_,_,_,_,_,_,_,_,a,b,c⟩))
theorem gR {M:Model} {Γ:PySem.Ctx} {p:Pos} {t:Sem Fin} {fs:List Frame} {s s':G3} {e:End} (h:Runs M Γ p t fs s e s'):∀ {e2:End} {s2:G3},Runs M Γ p t fs s e2 s2->e=e2/\s'=s2:=by
 induction h with
 | done=>exact λ h2=>⟨(bF h2).1.symm,(bF h2).2⟩
 | raise=>exact λ h2=>⟨(bF h2).1.symm,(bF h2).2⟩
 | again _ _ ih=>exact λ h2=>ih (bF h2)
 | rule _ ih=>exact λ h2=>ih (bF h2)
 | «at» _ ih=>exact λ h2=>ih (bF h2)
 | load he _ ih =>
  intro e2 s2 h2;obtain ⟨o,b1,b2⟩:=bF h2;rw [he] at b1; cases b1; exact ih b2
 | update _ _ ih=>exact λ h2=>ih (bF h2)
 | loadIfAlive _ ih=>exact λ h2=>ih (bF h2)
 | point _ ih=>exact λ h2=>ih (bF h2)
 | alloc _ ih=>exact λ h2=>ih (bF h2)
 | fresh _ ih=>exact λ h2=>ih (bF h2)
 | ask _ ih=>exact λ h2=>ih (bF h2)
 | choose _ _ ih=>exact λ h2=>ih (bF h2)
 | os _ ih=>exact λ h2=>ih (bF h2)
 | handled _ ih=>exact λ h2=>ih (bF h2)
 | genState he _ ih =>
  intro e2 s2 h2;obtain ⟨o,b1,b2⟩:=bF h2;rw [he] at b1; cases b1; exact ih b2
 | stack _ ih=>exact λ h2=>ih (bF h2)
 | thread _ ih=>exact λ h2=>ih (bF h2)
 | newGen _ ih=>exact λ h2=>ih (bF h2)
 | call _ _ ih1 ih2 =>
  intro e2 s2 h2;rcases bF h2 with ⟨r,s1,a,b⟩ | ⟨_,_,_,_,_,_,_,a,_⟩
  ·obtain ⟨q1,q2⟩:=ih1 a; cases q1; subst q2; exact ih2 b
  ·obtain ⟨q1,_⟩:=ih1 a; cases q1
 | callSusp _ ih1 =>
  intro e2 s2 h2;rcases bF h2 with ⟨r,s1,a,b⟩ | ⟨_,_,_,_,_,_,_,a,b⟩
  ·obtain ⟨q1,_⟩:=ih1 a; cases q1
  ·obtain ⟨q1,q2⟩:=ih1 a; cases q1; exact ⟨b.symm,q2⟩
 | yield=>exact λ h2=>⟨(bF h2).1.symm,(bF h2).2⟩
 | resumeFresh hg _ _ _ ih1 ih2 =>
  intro e2 s2 h2;rcases bF h2 with ⟨_,_,_,_,g,a,b⟩ | ⟨_,_,_,_,_,_,_,_,g,_⟩ | ⟨_,v,rv,n,_⟩ | ⟨_,_,rv,_⟩ | ⟨g,_⟩ | ⟨g,_⟩
  ·rw [hg] at g; cases g; obtain ⟨q1,q2⟩:=ih1 a; subst q1 q2; exact ih2 b
  ·rw [hg] at g; cases g
  ·cases rv; exact absurd rfl n
  ·cases rv
  ·rw [hg] at g; cases g
  ·rw [hg] at g; cases g
 | resumeSuspended hg _ _ _ ih1 ih2 =>
  intro e2 s2 h2;rcases bF h2 with ⟨_,_,_,_,g,a,b⟩ | ⟨_,_,_,_,_,_,_,_,g,a,b⟩ | ⟨_,v,rv,n,g,_⟩ | ⟨_,_,rv,g,_⟩ | ⟨g,_⟩ | ⟨g,_⟩
  ·rw [hg] at g; cases g
  ·rw [hg] at g; cases g; obtain ⟨q1,q2⟩:=ih1 a; subst q1 q2; exact ih2 b
  ·rw [hg] at g; cases g
  ·rw [hg] at g; cases g
  ·rw [hg] at g; cases g
  ·rw [hg] at g; cases g
 | resumeJustStarted hg n _ ih =>
  intro e2 s2 h2;rcases bF h2 with ⟨_,_,_,rv,_⟩ | ⟨_,_,_,_,_,_,_,_,g,a,b⟩ | ⟨_,v,rv,_,g,b⟩ | ⟨_,_,rv,g,_⟩ | ⟨g,_⟩ | ⟨g,_⟩
  ·cases rv; exact absurd rfl n
  ·rw [hg] at g; cases g
  ·exact ih b
  ·cases rv
  ·rw [hg] at g; cases g
  ·rw [hg] at g; cases g
 | resumeThrowFresh hg _ ih =>
  intro e2 s2 h2;rcases bF h2 with ⟨_,_,_,rv,_⟩ | ⟨_,_,_,_,_,_,_,_,g,a,b⟩ | ⟨_,v,rv,_,g,b⟩ | ⟨_,_,rv,g,b⟩ | ⟨g,_⟩ | ⟨g,_⟩
  ·cases rv
  ·rw [hg] at g; cases g
  ·cases rv
  ·cases rv; exact ih b
  ·rw [hg] at g; cases g
  ·rw [hg] at g; cases g
 | resumeRunning hg _ ih =>
  intro e2 s2 h2;rcases bF h2 with ⟨_,_,_,_,g,_⟩ | ⟨_,_,_,_,_,_,_,_,g,a,b⟩ | ⟨_,v,rv,_,g,b⟩ | ⟨_,_,rv,g,b⟩ | ⟨g,b⟩ | ⟨g,_⟩
  ·rw [hg] at g; cases g
  ·rw [hg] at g; cases g
  ·rw [hg] at g; cases g
  ·rw [hg] at g; cases g
  ·exact ih b
  ·rw [hg] at g; cases g
 | resumeFinished hg _ ih =>
  intro e2 s2 h2;rcases bF h2 with ⟨_,_,_,_,g,_⟩ | ⟨_,_,_,_,_,_,_,_,g,a,b⟩ | ⟨_,v,rv,_,g,b⟩ | ⟨_,_,rv,g,b⟩ | ⟨g,b⟩ | ⟨g,b⟩
  ·rw [hg] at g; cases g
  ·rw [hg] at g; cases g
  ·rw [hg] at g; cases g
  ·rw [hg] at g; cases g
  ·rw [hg] at g; cases g
  ·exact ih b
 | segRet _ _ ih1 ih2 =>
  intro e2 s2 h2;rcases bF h2 with ⟨_,_,_,_,_,_,_,_,_,z,a,b⟩ | ⟨_,_,_,_,_,_,_,z,_⟩ | ⟨_,_,_,_,_,_,_,_,a,_⟩ | ⟨_,_,_,_,_,_,_,_,_,_,_,_,_,_,_,a,_⟩
  ·cases z; obtain ⟨q1,q2⟩:=ih1 a; cases q1; subst q2; exact ih2 b
  ·cases z
  ·obtain ⟨q1,_⟩:=ih1 a; cases q1
  ·obtain ⟨q1,_⟩:=ih1 a; cases q1
 | segGen _ _ ih1 ih2 =>
  intro e2 s2 h2;rcases bF h2 with ⟨_,_,_,_,_,_,_,_,_,z,a,b⟩ | ⟨_,_,_,_,_,_,_,z,a,b⟩ | ⟨_,_,_,_,_,_,_,_,a,_⟩ | ⟨_,_,_,_,_,_,_,_,_,_,_,_,_,_,_,a,_⟩
  ·cases z
  ·cases z; obtain ⟨q1,q2⟩:=ih1 a; cases q1; subst q2; exact ih2 b
  ·obtain ⟨q1,_⟩:=ih1 a; cases q1
  ·obtain ⟨q1,_⟩:=ih1 a; cases q1
 | segSuspOut hn _ ih1 =>
  intro e2 s2 h2;rcases bF h2 with ⟨_,_,_,_,_,_,_,_,_,z,a,b⟩ | ⟨_,_,_,_,_,_,_,z,a,b⟩ | ⟨_,_,_,_,_,_,_,_,a,z⟩ | ⟨_,_,_,_,_,_,_,_,_,_,_,_,_,_,hs,a,_⟩
  ·obtain ⟨q1,_⟩:=ih1 a; cases q1
  ·obtain ⟨q1,_⟩:=ih1 a; cases q1
  ·obtain ⟨q1,q2⟩:=ih1 a; cases q1; exact ⟨z.symm,q2⟩
  ·rw [hn] at hs; cases hs
 | segSuspGen hs _ _ _ ih1 ih2 =>
  intro e2 s2 h2;rcases bF h2 with ⟨_,_,_,_,_,_,_,_,_,z,a,b⟩ | ⟨_,_,_,_,_,_,_,z,a,b⟩ | ⟨_,_,_,_,_,_,_,hn,a,z⟩ | ⟨_,_,_,_,_,_,_,_,_,_,_,_,_,_,hs',a,b⟩
  ·obtain ⟨q1,_⟩:=ih1 a; cases q1
  ·obtain ⟨q1,_⟩:=ih1 a; cases q1
  ·rw [hn] at hs; cases hs
  ·rw [hs] at hs'; cases hs'; obtain ⟨q1,q2⟩:=ih1 a; cases q1; subst q2; exact ih2 b
theorem sE {α:Type} (M:Model) (Γ:PySem.Ctx) (t:Sem α):∀ (Q Q':α->Pos->G3->Prop) (E E':G7->Pos->G3->Prop) (p:Pos) (s:G3),Sem.wp M Γ t Q E p s->Sem.wp M Γ t Q' E' p s ->
  Sem.wp M Γ t (λ a p' s'=>Q a p' s'/\Q' a p' s') (λ e p' s'=>E e p' s'/\E' e p' s') p s:=by
 have det:∀ {Δ:PySem.Ctx} {p:Pos} {s:G3} {r r':Result} {s1 s2:G3},Returns M Δ p s r s1->Returns M Δ p s r' s2->r=r'/\s1=s2:=by intro Δ p s r r' s1 s2 h1 h2;obtain ⟨q1,q2⟩:=gR h1 h2;cases q1;exact ⟨O,q2⟩
 have detW:∀ {Δ:PySem.Ctx} {p:Pos} {g:Nat} {r:Resume} {s:G3} {x x':GenResult} {s1 s2:G3},Wakes M Δ p g r s x s1->Wakes M Δ p g r s x' s2->x=x'/\s1=s2:=by
  intro Δ p g r s x x' s1 s2 h1 h2;unfold Wakes at h1 h2
  split at h1
  ·exact h1.elim
  ·split at h1
   ·obtain ⟨e1,t1,a1,_,rfl,rfl⟩:=h1
    rename_i hg _ _
    simp only [hg] at h2;obtain ⟨e2,t2,a2,_,rfl,rfl⟩:=h2;obtain ⟨q1,q2⟩:=gR a1 a2;subst q1 q2;exact ⟨O,O⟩
   ·rename_i hg _ _ hn
    simp only [hg] at h2;obtain ⟨rfl,rfl⟩:=h1;obtain ⟨rfl,rfl⟩:=h2;exact ⟨O,O⟩
   ·rename_i hg _ _
    simp only [hg] at h2;obtain ⟨rfl,rfl⟩:=h1;obtain ⟨rfl,rfl⟩:=h2;exact ⟨O,O⟩
  ·rename_i hg
   simp only [hg] at h2;obtain ⟨e1,t1,a1,_,rfl,rfl⟩:=h1;obtain ⟨e2,t2,a2,_,rfl,rfl⟩:=h2;obtain ⟨q1,q2⟩:=gR a1 a2;subst q1 q2;exact ⟨O,O⟩
  ·rename_i hg
   simp only [hg] at h2;obtain ⟨rfl,rfl⟩:=h1;obtain ⟨rfl,rfl⟩:=h2;exact ⟨O,O⟩
  ·rename_i hg
   simp only [hg] at h2;obtain ⟨rfl,rfl⟩:=h1;obtain ⟨rfl,rfl⟩:=h2;exact ⟨O,O⟩
 induction t with
 | pure a=>intro Q Q' E E' p s h h'; exact ⟨h,h'⟩
 | raise e=>intro Q Q' E E' p s h h'; exact ⟨h,h'⟩
 | unsupported _=>intro Q Q' E E' p s h _; exact h
 | finish _=>intro Q Q' E E' p s h _; exact h
 | rule _ k ih=>intro Q Q' E E' p s h h'; exact ih () _ _ _ _ p s h h'
 | «at» p' k ih=>intro Q Q' E E' p s h h'; exact ih () _ _ _ _ p' s h h'
 | load a _ k ih =>
  intro Q Q' E E' p s h h'; obtain ⟨o,ho,h⟩:=h; obtain ⟨o',ho',h'⟩:=h';rw [ho] at ho'; cases ho'; exact ⟨o,ho,ih o _ _ _ _ p s h h'⟩
 | update a _ f k ih=>intro Q Q' E E' p s h h'; exact ⟨h.1,ih () _ _ _ _ p _ h.2 h'.2⟩
 | loadIfAlive a k ih=>intro Q Q' E E' p s h h'; exact ih _ _ _ _ _ p s h h'
 | point _ k ih=>intro Q Q' E E' p s h h'; exact ih () _ _ _ _ p s h h'
 | register _ _=>intro Q Q' E E' p s h _; exact h
 | alloc o k ih=>intro Q Q' E E' p s h h'; exact ih _ _ _ _ _ p _ h h'
 | fresh k ih=>intro Q Q' E E' p s h h'; exact ih _ _ _ _ _ p _ h h'
 | ask k ih=>intro Q Q' E E' p s h h'; exact ih _ _ _ _ _ p s h h'
 | choose src m k ih=>intro Q Q' E E' p s h h'; exact ⟨h.1,ih _ _ _ _ _ p _ h.2 h'.2⟩
 | os q _ k ih=>intro Q Q' E E' p s h h'; exact ih _ _ _ _ _ p _ h h'
 | call c hd _ _ k ih =>
  intro Q Q' E E' p s h h'; obtain ⟨r,s',hr,h⟩:=h; obtain ⟨r',s'',hr',h'⟩:=h';obtain ⟨rfl,rfl⟩:=det hr hr';exact ⟨r,s',hr,ih r _ _ _ _ p s' h h'⟩
 | handled own k ih=>intro Q Q' E E' p s h h'; exact ih _ _ _ _ _ p s h h'
 | genState g k ih =>
  intro Q Q' E E' p s h h'; obtain ⟨st,hs,h⟩:=h; obtain ⟨st',hs',h'⟩:=h';rw [hs] at hs'; cases hs'; exact ⟨st,hs,ih _ _ _ _ _ p s h h'⟩
 | newGen c k ih=>intro Q Q' E E' p s h h'; exact ih _ _ _ _ _ p _ h h'
 | resume g r _ k ih =>
  intro Q Q' E E' p s h h'; obtain ⟨x,s',hw,h⟩:=h; obtain ⟨x',s'',hw',h'⟩:=h';obtain ⟨rfl,rfl⟩:=detW hw hw';exact ⟨x,s',hw,ih x _ _ _ _ p s' h h'⟩
 | yield _ _ _ _=>intro Q Q' E E' p s h _; exact h
 | stack k ih=>intro Q Q' E E' p s h h'; exact ih _ _ _ _ _ p s h h'
 | fork _ _=>intro Q Q' E E' p s h _; exact h
 | thread k ih=>intro Q Q' E E' p s h h'; exact ih _ _ _ _ _ p s h h'
 | await _ _ _ _ _=>intro Q Q' E E' p s h _; exact h
theorem cC {α:Type} {M:Model} {A:Around} {t:Sem α} {Q Q':α->G3->Prop} {E E':G7->G3->Prop} {s:G3} (h:wpAny M A t Q E s) (h':wpAny M A t Q' E' s) :
  wpAny M A t (λ a s'=>Q a s'/\Q' a s') (λ e s'=>E e s'/\E' e s') s:=λ Γ p hΓ=>sE M Γ t _ _ _ _ p s (h Γ p hΓ) (h' Γ p hΓ)
def Q2 (e:Addr) (h:Heap):Prop:=∃oe vs,h.get? e=some oe/\oe.data=.fields vs/\vs[2]? = some .none
section
variable {M:Model} {A:Around} {E:G7->G3->Prop} {s:G3} {base:Heap} {env:Env} {outer l:List Env} {L e:Addr} {cls a0 fl:G7} {Q:Unit->G3->Prop}
theorem Q2.set {e c:Addr} {h:Heap} {i:Nat} {v:G7} (hi:i≠2) (q:Q2 e h):Q2 e (h.update c (Obj.mapFields (·.setIfInBounds i v))):=by
 obtain ⟨oe,vs,he,hd,h2⟩:=q
 by_cases z:c=e
 ·subst z;have hd':=Obj.data_mapFields hd (·.setIfInBounds i v);exact ⟨_,_,Heap.get?_update_self _ he (Obj.isFreed_of_fields hd'),hd',by rw [Array.getElem?_setIfInBounds_ne hi]; exact h2⟩
 ·exact ⟨oe,vs,(Heap.get?_update_other _ _ z).trans he,hd,h2⟩
theorem Q2.push {e:Addr} {h:Heap} {o:Obj} (q:Q2 e h):Q2 e (h.push o):=let ⟨oe,vs,he,r⟩:=q; ⟨oe,vs,A6 _ he,r⟩
theorem ql {head:G7} {nx:Bool} (hfr:A.frames=some (env :: outer)) (hl:s.heap.FunFrames base (env :: outer)) (hf:env.frame=some L) (q:Q2 e s.heap)
  (h:∀h₁ o ts,Q2 e h₁->o.data=.fields ts->3 < ts.size->Q () { s with heap:=(h₁.push o).update e (Obj.mapFields (·.setIfInBounds 1 (Value.ref h₁.objs.size))) }) :
  wpAny M A (do let a<-frameOf env; let pl<-entryPlaceOf L nx; let b<-EntryCells.newEntry head a .none (rawInt L) .none pl; setField (.ref e) 1 b) Q E s:=by
 obtain ⟨oe,vs,he,hd,h2⟩:=q;have hene:e∉(env :: outer).filterMap (·.frame):=λ hm=>by obtain ⟨_,o,ho,hnf⟩:=hl.mem hm;rw [he] at ho; injection ho with ho; subst ho; exact hnf vs hd
 refine A0 (wpAny_frameOf_fun hfr hl hf λ h₁ hs₁=>?_);refine A0 (wpAny_entryPlaceOf λ pl hpl=>?_);unfold EntryCells.newEntry newFields;refine A0 (G1 ?_ (hpl.sizeOk5 _ _ _ _ _));have he₁:h₁.get? e=some oe:=(hs₁.2.1 e hene).trans he;have h2s:2 < vs.size:=(Array.getElem?_eq_some_iff.mp h2).1;exact wpAny_setField (A6 _ he₁) hd (by omega) (h h₁ _ _ ⟨oe,vs,he₁,hd,h2⟩ rfl (by simp only [List.size_toArray,List.length_append,List.length_cons,List.length_nil]; omega))
theorem jj (tr:s.heap.TracedAtW base e cls a0 fl) (q:Q2 e s.heap):wpAny M A (setFlight (.ref e) none) (λ _ s'=>Q2 e s'.heap) E s:=by obtain ⟨oe,vs,T,oT,ts,he,hcls,hd,h1,hnT,hTe,hT,hdT,h3⟩:=tr;unfold setFlight;refine A0 (wpAny_field he hd h1 ?_);rw [if_pos (show (Value.ref T != Value.none)=true from by simp)];exact wpAny_setField hT hdT (Array.getElem?_eq_some_iff.mp h3).1 (q.set (by decide))
theorem zC (hfr:A.frames=some (env :: outer)) (hf:env.frame=some L) (f:Heap.FlyingW base (env :: outer) e cls a0 s.heap) (q:Q2 e s.heap):wpAny M A (noteFrame (.ref e) env) (λ _ s'=>Q2 e s'.heap) E s:=by obtain ⟨hkb,hen,hl,oe,vs,T,oT,ts,he,hcls,hd,h1,hnT,hTe,hT,hdT,h3⟩:=f;unfold noteFrame;simp only [hf];refine A0 (wpAny_field he hd h1 ?_);rw [if_pos (show (Value.ref T != Value.none)=true from by simp)];refine A0 (wpAny_field hT hdT h3 ?_);rw [if_neg (show ¬ ((Value.none == rawInt L)=true) from by simp [rawInt])];refine A0 (wpAny_setField hT hdT (Array.getElem?_eq_some_iff.mp h3).1 ?_);refine ql (s:={ s with heap:=s.heap.update T (Obj.mapFields (·.setIfInBounds 3 Value.none)) }) hfr (hl.of_keeps λ b o hb hnf=>⟨o,(Heap.get?_update_other _ _ (λ z=>?_)).trans hb,O⟩) hf (q.set (by decide)) λ h₁ o _ q1 _ _=>q1.push.set (by decide);rw [<- z,hT] at hb; injection hb with hb; subst hb; exact hnf ts hdT
theorem vg {h:Heap} {args:List G7} (hfr:A.frames=some (env :: outer)) (hf:env.frame=some L) (hl:h.FunFrames base (env :: outer)) (hx:Heap.MadeExcOf h s.heap e cls args):wpAny M A (leaving env (.ref e)) (λ _ s'=>Q2 e s'.heap) E s:=by
 obtain ⟨t,he,htn,ht⟩:=hx.there;have q:Q2 e s.heap:=⟨_,_,he,O,O⟩
 unfold leaving noteFrame;simp only [hf];refine A0 (A0 (wpAny_field he rfl (x:=.none) rfl ?_));rw [if_neg (by decide)];refine ql (base:=base) hfr (hl.of_keeps λ b o hb _=>⟨o,hx.keeps b o hb,O⟩) hf q λ h₁ o ts q1 ho h3=>?_;obtain ⟨oe1,vs1,he1,hd1,h21⟩:=q1;have hTe:h₁.objs.size≠e:=Nat.ne_of_gt (A8 he1);have hd3:=Obj.data_mapFields hd1 (·.setIfInBounds 1 (Value.ref h₁.objs.size));have he3:=Heap.get?_update_self (Obj.mapFields (·.setIfInBounds 1 (Value.ref h₁.objs.size))) (A6 o he1) (Obj.isFreed_of_fields hd3);have h2s:2 < vs1.size:=(Array.getElem?_eq_some_iff.mp h21).1;have hT:=(Heap.get?_update_other (h₁.push o) (Obj.mapFields (·.setIfInBounds 1 (Value.ref h₁.objs.size))) (Ne.symm hTe)).trans (A7 h₁ (Obj.isFreed_of_fields ho));unfold setFlight;refine A0 (wpAny_field he3 hd3 (x:=.ref h₁.objs.size) (by rw [Array.getElem?_setIfInBounds_self_of_lt (by omega)]) ?_);rw [if_pos (show (Value.ref h₁.objs.size != Value.none)=true from by simp)];exact wpAny_setField hT ho h3 ((Q2.push (o:=o) ⟨oe1,vs1,he1,hd1,h21⟩).set (i:=1) (by decide) |>.set (by decide))
end
section
variable {M:Model} {A:Around} {E:G7->G3->Prop} {s:G3} {base:Heap} {env:Env} {outer l:List Env} {L e:Addr} {cls a0 fl:G7} {Q:Unit->G3->Prop}
theorem jk {h:Heap} {args:List G7} (hfr:A.frames=some (env :: outer)) (hf:env.frame=some L) (hkb:base.StaysIn h) (hl:h.FunFrames base (env :: outer)) (hx:Heap.MadeExcOf h s.heap e cls args)
  (hQ:∀h' t,Heap.FlyingW base outer e cls (.ref t) h'->h'.TupAt t args->base.get? t=none->s.heap.UpToSlots h'->Q2 e h'->Q () { s with heap:=h' }):wpAny M A (leaving env (.ref e)) Q E s :=
 wpAny_mono (cC (vg (E:=E) hfr hf hl hx) (wpAny_leaves_madeW (Q:=λ _ s'=>Q2 e s'.heap->Q () s') (E:=E) hfr hf hkb hl hx λ h' t a b c d q=>hQ h' t a b c d q)) (λ _ _ z=>z.2 z.1) λ _ _ z=>z.1
theorem iD (hfr:A.frames=some (env :: outer)) (hf:env.frame=some L) (f:Heap.FlyingW base (env :: outer) e cls a0 s.heap) (q:Q2 e s.heap)
  (hQ:∀h',Heap.HeldW base (env :: outer) e cls a0 L h'->s.heap.UpToSlots h'->Q2 e h'->Q () { s with heap:=h' }):wpAny M A (noteFrame (.ref e) env) Q E s :=
 wpAny_mono (cC (zC (E:=E) hfr hf f q) (wpAny_looks_onW (Q:=λ _ s'=>Q2 e s'.heap->Q () s') (E:=E) hfr hf f λ h' a b q=>hQ h' a b q)) (λ _ _ z=>z.2 z.1) λ _ _ z=>z.1
theorem vh (hh:Heap.HeldW base l e cls a0 L s.heap) (q:Q2 e s.heap) (hQ:∀h',Heap.FlyingW base l e cls a0 h'->s.heap.UpToSlots h'->Q2 e h'->Q () { s with heap:=h' }):wpAny M A (setFlight (.ref e) none) Q E s :=
 wpAny_mono (cC (jj (E:=E) hh.2.2.2 q) (wpAny_landsW (Q:=λ _ s'=>Q2 e s'.heap->Q () s') (E:=E) hh λ h' a b q=>hQ h' a b q)) (λ _ _ z=>z.2 z.1) λ _ _ z=>z.1
theorem jl (hh:Heap.FlyingW base l e cls a0 s.heap) (q:Q2 e s.heap) (hQ:∀h',Heap.FlyingW base l e cls a0 h'->s.heap.UpToSlots h'->Q2 e h'->Q () { s with heap:=h' }):wpAny M A (setFlight (.ref e) none) Q E s :=
 wpAny_mono (cC (jj (E:=E) hh.2.2.2.at q) (lands_againW (Q:=λ _ s'=>Q2 e s'.heap->Q () s') (E:=E) hh λ h' a b q=>hQ h' a b q)) (λ _ _ z=>z.2 z.1) λ _ _ z=>z.1
end
theorem ObjOk.ex {P:G4} {w:G6} {H:Hp} {h:Heap} {a:Addr} {o:HO} (x:ObjOk P w H h a o):∃ob,h.get? a=some ob:=by
 cases o with
 | lst xs=>obtain ⟨_,_,_,_,e⟩:=x; exact ⟨_,e⟩
 | tup xs=>obtain ⟨_,_,_,o,e,_⟩:=x; exact ⟨_,e⟩
 | dK kvs=>obtain ⟨_,_,_,_,o,_,_,e,_⟩:=x; exact ⟨_,e⟩
 | dT kvs=>obtain ⟨_,_,_,_,o,_,_,e,_⟩:=x; exact ⟨_,e⟩
 | set S n=>obtain ⟨o,_,_,_,e,_⟩:=x; exact ⟨_,e⟩
 | ins C dx fs=>obtain ⟨_,_,_,e,_⟩:=x; exact ⟨_,e⟩
 | own y=>exact x
 | xd fs=>obtain ⟨_,⟨_,_,_,e,_⟩,_⟩:=x; exact ⟨_,e⟩
 | rng lo hi=>obtain ⟨_,_,_,e⟩:=x; exact ⟨_,e⟩
 | frz ob u=>exact ⟨_,x.1⟩
 | tbl ps=>exact ⟨_,(show h.get? a=some _ from x)⟩
 | met f y=>exact ⟨_,(show h.get? a=some _ from x)⟩
 | ext φ=>exact x.2.1
structure Flew (P:Program) (w:World) (outer:List Env) (H:Hp) (s:Shared) (ea:Addr) (C:Value) (H':Hp) (B:Heap) (s':Shared):Prop where
 os:s'.os=s.os
 bare:AllBare s'.gens
 un:Un (frs outer) [] H H' s.heap s'.heap
 hok:HOk P w H' s'.heap
 fly:∃a0,Heap.FlyingW B outer ea C a0 s'.heap
 ctx:Q2 ea s'.heap
 cov:∀b o,b∉frs outer->(H' b≠none\/∃o',s.heap.get? b=some o')->s'.heap.get? b=some o->B.get? b=some o
 new:s.heap.get? ea=none/\H' ea=none
def CXx (P:G4) (w:G6):CXT:=λ outer H s E e s'=>∃ea C H' B,e=Value.ref ea/\Flew P w outer H s ea C H' B s'/\E C none H'
section
variable {X:Cx} {pins:List (Addr×Obj)} {σ:St} {H:Hp} {s:G3}
theorem Inv.raised {h2:Heap} {ea:Addr} {C:G7} {vs:List G7} {M:Model} {E:G7->G3->Prop} {Q:Unit->G3->Prop} (I:Inv X pins σ H s) (hst:X.stack=X.env :: X.outer) (hfr:X.env.frame=some X.env.locals) (hex:X.ex=[])
  (hx:Heap.MadeExcOf s.heap h2 ea C vs) (hQ:∀B h',Flew X.prog X.w X.outer X.H₀ X.s₀ ea C H B { s with heap:=h' }->Q () { s with heap:=h' }) :
  wpAny M X.A (leaving X.env (.ref ea)) Q E { s with heap:=h2 }:=by
 have fS:frs X.stack=X.env.locals :: X.fs:=by rw [hst]; unfold frs; rw [List.filterMap_cons,hfr]; rfl
 have st:s.heap.FunFrames X.base (X.env :: X.outer):=by rw [<- hst]; exact I.stack
 have hin:∀env∈(X.env :: X.outer),∀b,env.frame=some b->b∈frs X.stack:=λ env he b hb=>by rw [hst]; exact List.mem_filterMap.mpr ⟨env,he,hb⟩
 have s0L:∀b o,X.s₀.heap.get? b=some o->b≠X.env.locals:=λ b o e=>B8 (C0 (A8 e) I.ok.above);have Ubase:Un X.fs [] X.H₀ H X.s₀.heap s.heap:=by have:=I.base; rw [hex] at this; exact this
 have trk:∀b u,H b=some u->b∉frs X.stack:=λ b u e hb=>by rw [I.stkFree b hb] at e; cases e
 have ofd:∀b,b∈X.fs->∃o,s.heap.get? b=some o/\∀vs,o.data≠.fields vs:=λ b hb=>by obtain ⟨_,o,ho,hd⟩:=I.funs.mem hb;exact ⟨o,ho,hd⟩
 refine jk (base:=PySem.W.hideAll s.heap (frs X.stack)) (h:=s.heap) (by rw [<- hst]; exact I.ok.frames) hfr (λ b o q=>PySem.W.of_hideAll _ q) (PySem.W.funFrames_hide st hin) hx λ h' t fl tup hbt sm q2=>hQ (PySem.W.hideAll s.heap (frs X.stack)) h' ?_;have toB:∀b o,b∉frs X.stack->s.heap.get? b=some o->h'.get? b=some o:=λ b o nb e=>fl.1 _ _ (PySem.W.hideAll_get _ e nb);have nfs:∀b o,X.s₀.heap.get? b=some o->b∉X.fs->b∉frs X.stack:=λ b o e nb z=>by
  rw [fS] at z;rcases List.mem_cons.mp z with q | q
  ·exact s0L b o e q
  ·exact nb q
 have slot1:∀b o,b∈X.fs->s.heap.get? b=some o->∃sl,h'.get? b=some { o with slots:=sl }:=λ b o hb e=>by obtain ⟨o',e',hd⟩:=ofd b hb;rw [e] at e'; cases e';exact sm b o (hx.keeps _ _ e) hd
 refine ⟨I.os,I.bare,⟨λ b o e n hb _=>?_,λ b o e n hb _=>?_,λ b o e n _=>Ubase.free b o e n (by simp),λ b o e _=>?_,Ubase.tups,Ubase.frzs,Ubase.tbls⟩,λ b u e=>?_,⟨_,fl⟩,q2,λ b o nb hh e=>?_,?_,?_⟩
 ·exact toB b o (nfs b o e hb) (Ubase.keep b o e n hb (by simp))
 ·obtain ⟨sl,e1⟩:=Ubase.slot b o e n hb (by simp);obtain ⟨sl',e2⟩:=slot1 b _ hb e1;exact ⟨sl',e2⟩
 ·obtain ⟨o',e1⟩:=Ubase.there b o e (by simp)
  by_cases hb:b∈X.fs
  ·obtain ⟨sl,e2⟩:=slot1 b _ hb e1;exact ⟨_,e2⟩
  ·exact ⟨o',toB b o' (nfs b o e hb) e1⟩
 ·refine (I.hok b u e).stay (λ c v hc q=>toB c v ?_ q) (λ _ q=>q) λ _ _ q=>q;rcases hc with z | z
  ·rw [z]; exact trk b u e
  ·exact trk c _ z
 ·rcases hh with z | ⟨o',z⟩
  ·cases q:H b with
   | none=>exact absurd q z
   | some u =>
    obtain ⟨ob,eb⟩:=(I.hok b u q).ex;have eB:=PySem.W.hideAll_get _ eb (trk b u q);have:=fl.1 _ _ eB;rw [e] at this; cases this;exact eB
  ·obtain ⟨o'',e1⟩:=Ubase.there b o' z (by simp);have eB:=PySem.W.hideAll_get _ e1 (nfs b o' z nb);have:=fl.1 _ _ eB;rw [e] at this; cases this;exact eB
 ·cases q:X.s₀.heap.get? ea with
  | none=>rfl
  | some o =>
   obtain ⟨o',e1⟩:=Ubase.there ea o q (by simp);rw [hx.new] at e1; cases e1
 ·cases q:H ea with
  | none=>rfl
  | some u =>
   obtain ⟨ob,eb⟩:=(I.hok ea u q).ex;rw [hx.new] at eb; cases eb
theorem Flew.inv {ea:Addr} {C:G7} {H':Hp} {B h6:Heap} {s':G3} {t:Nat} (I:Inv X pins σ H s) (f:Flew X.prog X.w X.stack H s ea C H' B s') (hB:B.StaysIn h6) (sm:s'.heap.UpToSlots h6):Inv X pins σ H' { s' with heap:=h6,toks:=t }:=by
 have trk:∀b u,H' b=some u->b∉frs X.stack:=λ b u e hb=>by
  obtain ⟨o,ho⟩:∃o,s.heap.get? b=some o:=let ⟨_,o,ho,_⟩:=I.stack.mem hb; ⟨o,ho⟩
  have:=f.un.free b o ho (I.stkFree b hb) (by simp);rw [this] at e; cases e
 have slot1:∀b o,b∈frs X.stack->s'.heap.get? b=some o->∃sl,h6.get? b=some { o with slots:=sl }:=λ b o hb e=>by obtain ⟨a0,fl⟩:=f.fly;obtain ⟨_,o',e',hd⟩:=fl.2.2.1.mem hb;rw [e] at e'; cases e';exact sm b o e hd
 refine I.call' (ch:=[]) f.os ⟨λ b o e n hb _=>?_,λ b o e n hb _=>?_,λ b o e n _=>f.un.free b o e n (by simp),λ b o e _=>?_,f.un.tups,f.un.frzs,f.un.tbls⟩ (λ b u e=>?_) f.bare (λ b z=>absurd z (by simp))
 ·exact hB _ _ (f.cov b o hb (.inr ⟨o,e⟩) (f.un.keep b o e n hb (by simp)))
 ·obtain ⟨sl,e1⟩:=f.un.slot b o e n hb (by simp);obtain ⟨sl',e2⟩:=slot1 b _ hb e1;exact ⟨sl',e2⟩
 ·obtain ⟨o',e1⟩:=f.un.there b o e (by simp)
  by_cases hb:b∈frs X.stack
  ·obtain ⟨sl,e2⟩:=slot1 b _ hb e1;exact ⟨_,e2⟩
  ·exact ⟨o',hB _ _ (f.cov b o' hb (.inr ⟨o,e⟩) e1)⟩
 ·refine (f.hok b u e).stay (λ c v hc q=>?_) (λ _ q=>q) λ _ _ q=>q;have hc':H' c≠none:=by
   rcases hc with z | z
   ·rw [z,e]; exact λ z=>nomatch z
   ·rw [z]; exact λ z=>nomatch z
  have nc:c∉frs X.stack:=by
   cases q':H' c with
   | none=>exact absurd q' hc'
   | some u'=>exact trk c u' q'
  exact hB _ _ (f.cov c v nc (.inl hc') q)
end
@[inline]def bmVE:List G7:=[.type "ValueError",.type "Exception",.type "BaseException",.type "object"]
def ExcC (K:C3) (C:Addr):Prop:=PySem.W.excIn K C bmVE "ValueError.__new__" = true
theorem ExcC.obj {K:C3} {C:Addr} {h:Heap} (X:K.In h) (q:ExcC K C):∃bm N nm qn bs hdct sn sub ab col dd k0 k1 k2 k3 k5 mN,
  h.get? C=some (excClassObj nm qn C N bs bm hdct sn sub ab col dd k0 k1 k2 k3 k5 "ValueError.__new__")/\h.Ns N mN/\mN "__init__" = none/\OwnTail h bmVE bm:=by
 unfold ExcC PySem.W.excIn at q
 split at q
 ·rename_i dd cd sl ho
  split at q
  ·rename_i C' bm k0 k1 k2 k3 n k5 hm hs
   simp only [Bool.and_eq_true,beq_iff_eq,Bool.not_eq_true'] at q;obtain ⟨⟨⟨⟨⟨e1,e2⟩,e3⟩,e4⟩,e5⟩,e6⟩:=q;obtain ⟨nm,bs,mro,ns,qn,hd,sn,sub,ab,col,del⟩:=cd;dsimp only at hm e3 e5 e6;subst e1 e2 hm e3;obtain ⟨l⟩:=sl;simp only at hs;subst hs;exact ⟨bm,ns,nm,qn,bs,hd,sn,sub,ab,col,dd,k0,k1,k2,k3,k5,_,X _ _ ho,.of_isNs (PySem.W.isNs_of_in X e5),PySem.W.nsMap_none_of_in X e5 e6,PySem.W.tail_of_in X e4⟩
  ·cases q
 ·cases q
section
variable {X:Cx} {x:Str} {C:Addr} {e0:Expr} {np cpos pos:Pos} {t:TA}
def vi (R:G7->Hp->Prop) (C:Addr) (t:TA):TS:=λ _ σ H=>t σ H λ vs H1=>vs.length<=sizeLine/\R (.ref C) H1
theorem jN {R:G7->Hp->Prop} (hc:X.calm=true) (hg:Gl X x) (hm:X.mg x=some (.ref C)) (ec:ExcC X.K C) (ha:PA X [e0] t)
  (hR:∀pins σ H s h2 ea vs,Inv X pins σ H s->Heap.MadeExcOf s.heap h2 ea (.ref C) vs->R (.ref C) H->X.xe (.ref ea) { s with heap:=h2 })
  (he:starEach [e0] X.env=[(false,eval e0 X.env)]:=by rfl) (hd:(x == ("__debug__" : Str))=false:=by decide) :
  PS X (.Raise (some (.Call (.Name x np) [e0] [] cpos)) none pos) (vi R C t):=by
 intro pins s σ H D I h;obtain ⟨bm,N,nm,qn,bs,hdct,sn,sub,ab,col,dd,k0,k1,k2,k3,k5,mN,hC,hN,hni,T⟩:=ec.obj I.ok.mod.kin;refine wpAny_Raise_call_subT (C:=C) (nm:=nm) (q:=qn) (N:=N) (bs:=bs) (bm:=bm) (hdct:=hdct) (sn:=sn) (sub:=sub) (ab:=ab) (col:=col) (dd:=dd) (k0:=k0) (k1:=k1) (k2:=k2) (k3:=k3) (k5:=k5)
  PySem.F.excBase_ValueError (mN:=mN) (T.hasType PySem.F.excBase_ValueError.hasBase) (I.ok.hd hc) (by rw [he]; rfl) hni (df I hg hm ⟨rfl,?_⟩ hd)
 have h2:=ha cpos pins s σ H _ I h;rw [he] at h2 ⊢;refine Calls.evalArgs_plain (thn h2 λ us s2 ⟨vs,H1,I1,rv,hl,q⟩=>⟨O,by rw [<- rv.length]; exact hl,I1.bk _ _ hC,hN.keeps I1.bk,T.keeps I1.bk,λ h' ea hx=>?_⟩);exact hR pins σ H1 s2 h' ea us I1 hx q
end
section
variable {P:G4} {w:G6} {K:C3} {mg:Str->Option G7} {base:Heap}
theorem gS {N:List Str} {qual:Str} {scope:Scope} {f:Addr} {cd:G7} {A:Around} {outer:List Env} {s₀:G3} {H₀:Hp} {E:XK} {C:Addr} :
  ∀pins σ H s h2 ea vs,Inv (eG (CXx P w) P w K mg base N qual scope f cd A outer s₀ H₀ E) pins σ H s->Heap.MadeExcOf s.heap h2 ea (.ref C) vs->(λ c H=>E c none H) (Value.ref C) H ->
   (eG (CXx P w) P w K mg base N qual scope f cd A outer s₀ H₀ E).xe (.ref ea) { s with heap:=h2 }:=λ pins σ H s h2 ea vs I hx q =>
 I.raised (E:=λ e' s''=>CXx P w outer H₀ s₀ E e' s'') rfl rfl rfl hx λ B h' f=>⟨ea,_,H,B,O,f,q⟩
theorem Fun.okX {x qual:Str} {st:Stmt} {f:Addr} {fd:G5} {N ps:List Str} {k:Nat} {sp:Sp} (F:Fun K x qual st f fd) (S:FnScope N ps (defScope st)) (len:∀vs H Q E,sp vs H Q E->vs.length=ps.length)
  (hbody:∀ (cdv:G7) (A:Around) (outer:List Env) (s:G3) (H:Hp) (vs:List V) (Q:VK) (E:XK),Room k (A.deeper (envOfC qual (defScope st) s.heap.objs.size f cdv))->sp vs H Q E ->
   ∃t,PSs (eG (CXx P w) P w K mg base N qual (defScope st) f cdv A outer s H E) (defBody st) t/\t { nx:=λ _ H'=>Q .non H',rt:=Q } (cR N vs) H):FnOk P w K mg base (CXx P w) (k + 1) f fd ps sp:=by
 obtain ⟨oc,od,kV,doc,pm,an,cdv,ct,osl,rfl,lk,hcd⟩:=F.ex;exact uH lk hcd S len λ A outer s H vs Q E hr hsp=>hbody cdv A outer s H vs Q E hr hsp
end
def XP (X:Cx) (pins:List (Addr×Obj)) (σ:St) (E:XK) (v:G7) (s':G3):Prop:=∃ea C H H' B s0,v=Value.ref ea/\Inv X pins σ H s0/\Flew X.prog X.w X.stack H s0 ea C H' B s'/\E C none H'
abbrev TX:=St->Hp->VK->XK->Prop
def PEx (X:Cx) (e:Expr) (t:TX):Prop :=
 ∀ (pins:List (Addr×Obj)) (s:G3) (σ:St) (H:Hp) (Q:VK) (E:XK),Inv X pins σ H s->t σ H Q E->wpAny (model X.prog X.w) X.A (eval e X.env) (EP X pins σ Q) (XP X pins σ E) s
section
variable {X:Cx} {k:Nat} {f C:Addr} {fd:G5} {ps:List Str} {sp:Sp} {x m:Str} {p pos apos:Pos} {e o:Expr} {es:List Expr} {ta:TE} {t:TA}
theorem sG {pins:List (Addr×Obj)} {σ:St} {H:Hp} {s:G3} {Q:VK} {E:XK} {us:List G7} {vs:List V} (F:FnOk X.prog X.w X.K X.mg X.base (CXx X.prog X.w) k f fd ps sp) (hr:Room k X.A) (hb:Binds X.K fd ps [])
  (I:Inv X pins σ H s) (r:Vals vs us) (h:sp vs H Q E):wpAny (model X.prog X.w) X.A (call (.ref f) us) (EP X pins σ Q) (XP X pins σ E) s:=by
 have hl:(us ++ []).length=ps.length:=by rw [List.append_nil,<- r.length]; exact F.len _ _ _ _ h
 have b:=hb s us I.kIn hl;rw [List.append_nil] at b;refine wpAny_call (codeAny_mono (F.run X.A X.stack s H ⟨us,[]⟩ us vs Q E hr I.env0 b r h) λ r s' hq=>?_);cases r with
 | error e =>
  obtain ⟨ea,C,H',B,e1,fl,q⟩:=hq;exact ⟨ea,C,H,H',B,s,e1,I,fl,q⟩
 | ok fl =>
  cases fl with
  | ret u=>exact I.after hq
  | next=>exact E4 hq
  | brk=>exact E4 hq
  | cont=>exact E4 hq
end
def Cx.marked (X:Cx) (ea:Addr):Cx:={ X with A:=X.A.mark (some (.ref ea)),calm:=false,xe:=λ _ _=>False }
section
variable {X:Cx} {pins:List (Addr×Obj)} {σ:St} {H:Hp} {s:G3}
theorem Inv.mark (I:Inv X pins σ H s) (ea:Addr):Inv (X.marked ea) pins σ H s :=
 ⟨⟨I.ok.mod,I.ok.kind,I.ok.glob,I.ok.blt,I.ok.above,I.ok.inj,I.ok.has,I.ok.cab,λ z=>absurd (show false=true from z) B1,I.ok.frames,I.ok.stk,I.ok.exf,I.ok.bs,I.ok.bsz,I.ok.noex,I.ok.exfs,I.ok.funs,I.ok.frf⟩,
  I.os,I.bare,I.base,I.loc,I.cell,I.free,I.freeC,I.pin,I.hok,I.len⟩
theorem Inv.unmark {ea:Addr} (ok:X.Ok) (I:Inv (X.marked ea) pins σ H s):Inv X pins σ H s :=
 ⟨ok,I.os,I.bare,I.base,I.loc,I.cell,I.free,I.freeC,I.pin,I.hok,I.len⟩
theorem Inv.track2 {a:Addr} {o:HO} (I:Inv X pins σ H s) (f0:H a=none) (f1:a≠X.env.locals) (hna:X.s₀.heap.get? a=none) (f4:∀x c,X.env.cells.lookup x=some c->c≠a) (f5:∀p∈X.pn ++ pins,p.1≠a)
  (new:ObjOk X.prog X.w (upd H a o) s.heap a o):Inv X pins σ (upd H a o) s:=by
 have s0:∀b o,X.s₀.heap.get? b=some o->b≠a:=λ b o e z=>by rw [z,hna] at e; cases e
 refine ⟨I.ok,I.os,I.bare,⟨I.base.keep,I.base.slot,λ b o e n hx=>?_,I.base.there,λ b xs e=>?_,λ b o u e=>?_,λ b ps e=>?_⟩,I.loc,I.cell,?_,λ x c e=>?_,λ p hp=>?_,I.hok.add f0 new,I.len⟩
 ·rw [am (s0 b o e)]; exact I.base.free b o e n hx
 ·have q:=I.base.tups b xs e;rw [am (ap q f0)]; exact q
 ·have q:=I.base.frzs b o u e;rw [am (ap q f0)]; exact q
 ·obtain ⟨more,q⟩:=I.base.tbls b ps e;exact ⟨more,by rw [am (ap q f0)]; exact q⟩
 ·rw [am (Ne.symm f1)]; exact I.free
 ·rw [am (f4 x c e)]; exact I.freeC x c e
 ·obtain ⟨e,n,r⟩:=I.pin p hp;exact ⟨e,by rw [am (f5 p hp)]; exact n,r⟩
theorem ez {M:Model} {A:Around} {E:G7->G3->Prop} {i:Nat} {x:Str} {pos:Pos} {Q:Unit->G3->Prop} (I:Inv X pins σ H s) (hN:X.N.Nodup) (hi:X.N[i]? = some x) (hk:X.env.scope.names.lookup x=some .local)
  (h:∀s',Inv X pins (σ.set i none) H s'->Q () s'):wpAny M A (do bindName X.env x .none; unbindBehindTheSuite X.env x pos) Q E s:=by
 obtain ⟨m,hn,hl⟩:=id I.loc;have hcls:(X.env.scope.kind == .class || (X.env.scope.kind == .module && X.env.locals != X.env.globals))=false:=by rw [I.ok.kind]; rfl
 refine wpAny_nameGoes_keeps hk hn hcls λ h' v hn' hs=>h _ ?_;obtain ⟨oL,_,_,hoL,_⟩:=id hn;have cne:=I.cne;have hok:HOk X.prog X.w H h':=I.hok.but I.free hs;refine ⟨I.ok,I.os,I.bare,⟨λ b o e n hb hx=>?_,λ b o e n hb hx=>?_,I.base.free,λ b o e hx=>?_,I.base.tups,I.base.frzs,I.base.tbls⟩,⟨_,hn',λ j y v' e1 e2 e3=>?_⟩,λ y c e=>?_,I.free,I.freeC,λ p hp=>?_,hok,by simpa using I.len⟩
 ·exact (hs.2 b (B8 (C0 (A8 e) I.ok.above))).trans (I.base.keep b o e n hb hx)
 ·obtain ⟨sl,e1⟩:=I.base.slot b o e n hb hx;exact ⟨sl,(hs.2 b (B8 (C0 (A8 e) I.ok.above))).trans e1⟩
 ·obtain ⟨o',e1⟩:=I.base.there b o e hx;exact ⟨o',(hs.2 b (B8 (C0 (A8 e) I.ok.above))).trans e1⟩
 ·have hj:j≠i:=λ z=>by
   subst z;have hiσ:j < σ.length:=by rw [I.len]; exact (A5.mp hi).1
   rw [List.getElem?_set_self hiσ] at e2;cases e2
  rw [List.getElem?_set_ne (Ne.symm hj)] at e2;obtain ⟨u',r',q⟩:=hl j y v' e1 e2 e3;refine ⟨u',r',?_⟩;rcases q with ⟨k,e⟩ | ⟨k,c,e,z⟩
  ·refine .inl ⟨k,?_⟩;have:y≠x:=λ e=>hj (gG hN e1 (e ▸ hi));simp [this,e]
  ·exact .inr ⟨k,c,e,z.sameBut hs (cne y c e)⟩
 ·obtain ⟨v',z⟩:=I.cell y c e;exact ⟨v',z.sameBut hs (cne y c e)⟩
 ·obtain ⟨e,n,ne,nf,d⟩:=I.pin p hp;exact ⟨(hs.2 p.1 ne).trans e,n,ne,nf,d⟩
end
def IsA (a:Addr) (C:G7) (h:Heap):Prop:=∃o,h.get? a=some o/\o.cls=C/\∃vs,o.data=.fields vs/\vs[2]? = some .none
theorem IsA.of {a:Addr} {C:G7} {h:Heap} (x:∃o,h.get? a=some o/\o.cls=C) (q:Q2 a h):IsA a C h:=by obtain ⟨o,e,c⟩:=x;obtain ⟨o',vs,e',d,n⟩:=q;rw [e] at e';cases e';exact ⟨o,e,c,vs,d,n⟩
theorem IsA.obj {P:G4} {w:G6} {H:Hp} {h:Heap} {a:Addr} {C:G7} (x:IsA a C h):ObjOk P w H h a (.ext (IsA a C)):=by obtain ⟨o,e,c⟩:=id x;exact ⟨x,⟨o,e⟩,λ h1 h2 ⟨o',e',c'⟩ k=>⟨o',k o' e',c'⟩⟩
structure RoomH (k:Nat) (A:Around):Prop where
 dp:A.depth + 3 * k + 5 < recursionLimit
 un:A.units + 16 * k + 200 < cLine
theorem Room.h {k:Nat} {A:Around} (r:Room k A) (v:Option G7):RoomH k (A.mark v):=⟨r.dp,r.un⟩
theorem RoomH.deeper {k:Nat} {A:Around} (r:RoomH (k + 1) A) (env:Env):RoomH k (A.deeper env) :=
 ⟨by have:=r.dp; show A.depth + 1 + 3 * k + 5 < _; omega,by have:=r.un; show A.units + 3 + 16 * k + 200 < _; omega⟩
structure FnH (P:Program) (w:World) (K:C3) (mg:Str->Option Value) (base:Heap) (k:Nat) (f:Addr) (fd:FuncData) (ps:List Str) (sp:Sp):Prop where
 len:∀vs H Q E,sp vs H Q E->vs.length=ps.length
 run:∀ (A:Around) (outer:List Env) (s:G3) (H:Hp) (args:Args) (us:List G7) (vs:List V) (Q:VK) (E:XK),RoomH k A->Env0 P w K mg base A outer s H->BindsTo s fd args (ps.zip us)->Vals vs us->sp vs H Q E ->
  codeAny (model P w) A (.call (.ref f) args) (CR CX0 outer P w H s Q E) s
def cxH (P:G4) (w:G6) (K:C3) (mg:Str->Option G7) (base:Heap) (N:List Str) (qual:Str) (scope:Scope) (f:Addr) (cd:G7) (A:Around) (outer:List Env) (s:G3) (H:Hp):Cx :=
 { eG CX0 P w K mg base N qual scope f cd A outer s H E0 with calm:=false,xe:=λ _ _=>False }
theorem vj {P:G4} {w:G6} {K:C3} {mg:Str->Option G7} {base:Heap} {k:Nat} {f:Addr} {x qual:Str} {st:Stmt} {fd:G5} {N ps:List Str} {sp:Sp} (F:Fun K x qual st f fd) (S:FnScope N ps (defScope st))
  (len:∀vs H Q E,sp vs H Q E->vs.length=ps.length)
  (hbody:∀ (cdv:G7) (A:Around) (outer:List Env) (s:G3) (H:Hp) (vs:List V) (Q:VK) (E:XK),RoomH k (A.deeper (envOfC qual (defScope st) s.heap.objs.size f cdv))->sp vs H Q E ->
   ∃t,PSs (cxH P w K mg base N qual (defScope st) f cdv A outer s H) (defBody st) t/\t { nx:=λ _ H'=>Q .non H',rt:=Q } (cR N vs) H):FnH P w K mg base (k + 1) f fd ps sp:=by
 obtain ⟨oc,od,kV,doc,pm,an,cdv,ct,osl,rfl,lk,hcd⟩:=F.ex;refine ⟨len,λ A outer s H args us vs Q E hr e0 hb r hsp=>?_⟩;have hl:=len _ _ _ _ hsp;have KX:K.In s.heap:=e0.mod.kin.keeps λ b o e=>(e0.bs b o e).1;have lim:s.heap.NoLimit:=e0.mod.nolimit.keeps λ b o e=>(e0.bs b o e).1;have hkind:∀y∈ps.zip us,(defScope st).names.lookup y.1=some .local\/((defScope st).names.lookup y.1=some .cell/\((cellsFrom (s.heap.objs.size + 1) (defScope st).names []).lookup y.1).isSome=true):=λ ⟨n,v⟩ hy=>by
  rcases S.par n (List.of_mem_zip hy).1 with q | q
  ·exact .inl q
  ·exact .inr ⟨q,PySem.W.cellsFrom_some _ _ _ (.inl q)⟩
 have dep:A.depth < recursionLimit:=by have:=hr.dp; omega
 refine codeAny_call_function dep (KX _ _ lk) rfl S.co S.gen rfl (PySem.W.codeRec_of KX hcd) (hb _ _ _ _ ?_);refine wpAny_newFunctionEnv_cells S.kind hkind λ env he s1 x=>?_;subst he;refine ⟨lim.keeps x.toInCall.keep,codeAny_func ?_⟩;obtain ⟨t,ht,hq⟩:=hbody cdv A outer s H vs Q E (hr.deeper _) hsp;have e0':Env0 P w K mg base { A with handled:=none } outer s H:=⟨e0.frames,e0.mod,e0.bs,e0.bsz,e0.funs,e0.frf,e0.hok,e0.bare⟩
 have J:Inv (eG CX0 P w K mg base N qual (defScope st) f cdv { A with handled:=none } outer s H E0) [] (cR N vs) H s1:=iy S rfl e0' hl r x;have I:Inv (cxH P w K mg base N qual (defScope st) f cdv A outer s H) [] (cR N vs) H s1 :=
  ⟨⟨J.ok.mod,J.ok.kind,J.ok.glob,J.ok.blt,J.ok.above,J.ok.inj,J.ok.has,J.ok.cab,λ z=>absurd (show false=true from z) B1,Around.frames_deeper e0.frames,J.ok.stk,J.ok.exf,J.ok.bs,J.ok.bsz,J.ok.noex,J.ok.exfs,J.ok.funs,J.ok.frf⟩,
   J.os,J.bare,J.base,J.loc,J.cell,J.free,J.freeC,J.pin,J.hok,J.len⟩
 refine wpAny_mono (ht [] s1 (cR N vs) H _ I hq) (λ fl s' hs=>?_) λ e s' hs=>E4 hs;have fin:∀ {σ':St} {H':Hp} {v:V} {u:G7},Inv (cxH P w K mg base N qual (defScope st) f cdv A outer s H) [] σ' H' s'->RelV v u->Q v H'->CE outer P w H s Q u s' :=
  λ {σ' H' v u} J rv q=>⟨v,H',J.os,J.bare,J.base,J.hok,rv,q⟩
 cases fl with
 | ret u =>
  obtain ⟨v,σ',H',J,rv,q⟩:=hs;exact fin J rv q
 | next =>
  obtain ⟨σ',H',J,q⟩:=hs;exact fin (v:=V.non) (u:=Value.none) J rfl q
 | brk =>
  obtain ⟨_,_,_,q⟩:=hs;exact E4 q
 | cont =>
  obtain ⟨_,_,_,q⟩:=hs;exact E4 q
def DnH (P:G4) (w:G6) (K:C3) (mg:Str->Option G7) (base:Heap) (x:Str) (ps:List Str) (k:Nat) (sp:Sp):Prop :=
 ∃ (f:Addr) (fd:G5),FnH P w K mg base k f fd ps sp/\Binds K fd ps []/\PySem.W.keepIn K (.ref f)=true/\mg x=some (.ref f)
theorem zD {X:Cx} {k:Nat} {ps:List Str} {sp:Sp} {x:Str} {p pos:Pos} {e:Expr} {es:List Expr} {t:TA} (D:DnH X.prog X.w X.K X.mg X.base x ps k sp) (hr:RoomH k X.A) (hg:Gl X x) (ha:PA X (e :: es) t)
  (hdb:(x == ("__debug__" : Str))=false:=by decide) (he:starEach (e :: es) X.env=(false,eval e X.env) :: starEach es X.env:=by rfl) (hpl:(backTo pos (starEach es X.env)).any (·.1)=false:=by rfl) :
  PE X (.Call (.Name x p) (e :: es) [] pos) (jH sp [] E0 t):=by
 obtain ⟨f,fd,F,hb,hk,hm⟩:=D;intro pins s σ H Q I h;refine wpAny_Call_Name_kw (df I hg hm ?_ hdb);refine PySem.W.callWith_K (h₀:=X.base) I.ok.mod.kin hk (thn (ha pos pins s σ H _ I h) λ us s1 ⟨vs,H1,I1,r,q⟩=>⟨I1.kIn,?_⟩) he hpl;have q:sp (vs ++ []) H1 Q E0:=q;rw [List.append_nil] at q;have hl:(us ++ []).length=ps.length:=by rw [List.append_nil,<- r.length]; exact F.len _ _ _ _ q
 have b:=hb s1 us I1.kIn hl;rw [List.append_nil] at b;refine wpAny_call (codeAny_mono (F.run X.A X.stack s1 H1 ⟨us,[]⟩ us vs Q E0 hr I1.env0 b r q) λ r s' hq=>?_);cases r with
 | error e=>exact E4 hq
 | ok fl =>
  cases fl with
  | ret u=>exact I1.after hq
  | next=>exact E4 hq
  | brk=>exact E4 hq
  | cont=>exact E4 hq
end L2
namespace PySem
open Sem (wp)
open PySem.W (Frag Looks looks_findIn looks_subIn)
structure ExK (K:Frag) (C:Addr):Prop where
 lkC:PySem.W.findIn K (.ref C) "__class__" = some (some (.builtin "object.__class__"))
 lkG:PySem.W.findIn K (.ref C) "__getattribute__" = some (some (.builtin "BaseException.__getattribute__"))
 lkA:PySem.W.findIn K (.ref C) "__getattr__" = some none
 subB:PySem.W.subIn K (.ref C) (.type "BaseException")=some true
 subO:PySem.W.subIn K (.ref C) (.type "object")=some true
 cls:(PySem.W.clsIn K C).isSome=true
section
variable {prog:G4} {w:G6} {A:Around} {E:G7->G3->Prop} {h:Heap} {g:Array GenState} {d:Drawn} {t:Nat} {os:OsState} {a:Addr} {o:Obj} {K:Frag} {C:Addr}
theorem la {R:Result->G3->Prop} (X:K.In h) (F0:ExK K C) (hx:h.get? a=some o) (hc:o.cls=.ref C) (hq:R (.ok (.ret (.ref C))) ⟨h,g,d,t,os⟩) :
  codeAny (model prog w) A (.call (.builtin "getset_descriptor.__get__") ⟨[.builtin "object.__class__",.ref a,.ref C],[]⟩) R ⟨h,g,d,t,os⟩:=by
 have hT5:(⟨h,g,d,t,os⟩:G3).TypeIs (.builtin "object.__class__") "getset_descriptor" := F.typeOf_object_class;have L:Looks (model prog w) h (isSubtype (.ref C) (.type (".".intercalate ("object.__class__".cutAt '.').dropLast))) true:=by rw [F.owner_object_class]; exact looks_subIn X F0.subO
 refine codeAny_call_builtin F.slot_gs_get.plain F.entry_gs_get (F.slot_gs_get.check _ _ _ _ _ _ _ _ hT5 (F.args_gs_get _ _ _) ?_)
 repeat (any_goals (first | assumption | (with_reducible refine wpAny_loadPart_at hx ?_; rw [hc]) | (with_reducible refine Looks.at L ?_) | wp_step))
 refine ⟨Code.quiet_builtin _ (by decide +kernel),codeAny_builtin F.entry_object_class ?_⟩
 repeat (any_goals (first | assumption | (with_reducible refine wpAny_loadPart_at hx ?_; rw [hc]) | wp_step))
theorem jm {tk:Tok} {Q:Fin->G3->Prop} (X:K.In h) (F0:ExK K C) (hx:h.get? a=some o) (hc:o.cls=.ref C) (hq:Q (.done (.ret (.ref C))) ⟨h,g,d,t,os⟩) :
  wpAny (model prog w) A (Builtin.«object.__getattribute__» ⟨[.ref a,.str "__class__" tk],[]⟩) Q E ⟨h,g,d,t,os⟩:=by
 have hT5:(⟨h,g,d,t,os⟩:G3).TypeIs (.builtin "object.__class__") "getset_descriptor" := F.typeOf_object_class;have f5:=F.typeOf_object_class;have f6:=F.slot_gs_get.lookup;have f7:=F.slot_gs_set.lookup;have L:Looks (model prog w) h (typeLookup (.ref C) "__class__") _:=looks_findIn X F0.lkC
 repeat (any_goals (first | assumption | (with_reducible refine wpAny_loadPart_at hx ?_; rw [hc]) | (with_reducible refine Looks.at L ?_) | wp_step))
 refine la X F0 hx hc ?_
 repeat (any_goals (first | assumption | wp_step))
theorem nJ {nameV:G7} {Q:Unit->G3->Prop} (X:K.In h) (F0:ExK K C) (hx:h.get? a=some o) (hc:o.cls=.ref C) (hq:Q () ⟨h,g,d,t,os⟩) :
  wpAny (model prog w) A (checkBuiltinCall "BaseException.__getattribute__" ⟨[.ref a,nameV],[]⟩) Q E ⟨h,g,d,t,os⟩:=by
 have hk:builtinKind "BaseException.__getattribute__" = some .slot:=by decide +kernel
 have hsplit:splitId "BaseException.__getattribute__" = some ("BaseException","__getattribute__"):=by decide +kernel
 have L:Looks (model prog w) h (isSubtype (.ref C) (.type "BaseException")) true:=looks_subIn X F0.subB;have ha:=F.args_bexc_ga (.ref a) nameV;simp only [checkBuiltinCall,hk,hsplit];refine A0 ?_
 ·unfold isInstance
  repeat (first | (with_reducible refine wpAny_loadPart_at hx ?_; rw [hc]) | (with_reducible refine Looks.at L ?_) | wp_step)
  exact hq
theorem jO {tk:Tok} {R:Result->G3->Prop} (X:K.In h) (F0:ExK K C) (hx:h.get? a=some o) (hc:o.cls=.ref C) (hq:R (.ok (.ret (.ref C))) ⟨h,g,d,t,os⟩) :
  codeAny (model prog w) A (.call (.builtin "BaseException.__getattribute__") ⟨[.ref a,.str "__class__" tk],[]⟩) R ⟨h,g,d,t,os⟩ :=
 codeAny_call_builtin F.attrBase_ValueError.ga.plain F.entry_bexc_ga (nJ X F0 hx hc (jm X F0 hx hc hq))
theorem nL {tk:Tok} {Q:G7->G3->Prop} (X:K.In h) (F0:ExK K C) (hx:h.get? a=some o) (hc:o.cls=.ref C) (hq:Q (.ref C) ⟨h,g,d,t,os⟩) :
  wpAny (model prog w) A (getAttrBy (.ref a) (.str "__class__" tk) false) Q E ⟨h,g,d,t,os⟩:=by
 have LG:Looks (model prog w) h (typeLookup (.ref C) "__getattribute__") _:=looks_findIn X F0.lkG;have LA:Looks (model prog w) h (typeLookup (.ref C) "__getattr__") _:=looks_findIn X F0.lkA;have f3:=F.attrBase_ValueError.ga.bind (.ref a);have hx2:(Value.builtin "BaseException.__getattribute__" == Value.builtin "object.__getattribute__")=false:=by decide +kernel
 have hx1:(onTheHeap (Value.ref C) && Value.builtin "BaseException.__getattribute__" == Value.builtin "object.__getattribute__")=false:=by rw [hx2]; rfl
 repeat (any_goals (first | assumption | (with_reducible refine wpAny_loadPart_at hx ?_; rw [hc]) | (with_reducible refine Looks.at LG ?_) | (with_reducible refine Looks.at LA ?_) | wp_step))
 refine jO X F0 hx hc ?_
 repeat (any_goals (first | assumption | wp_step))
theorem jP {Q:Option G7->G3->Prop} (X:K.In h) (F0:ExK K C) (hx:h.get? a=some o) (hc:o.cls=.ref C) (hq:Q (some (.ref C)) ⟨h,g,d,t + 1,os⟩) :
  wpAny (model prog w) A (getAttr? (.ref a) "__class__") Q E ⟨h,g,d,t,os⟩:=by
 unfold getAttr? getAttrBy?
 repeat (any_goals (first | assumption | with_reducible apply nL X F0 hx hc | wp_step))
end
end PySem
namespace L2
open PySem PySem.Spec PyProof.Rows
theorem mJ {K:C3} {x C:Addr} (F0:ExK K C):PySem.W.KitX K (.ref x) (.ref C) (IsA x (.ref C)) where
 ty:=λ M h _ ⟨o,e,c,_⟩=>by have L:PySem.W.Looks M h (typeOf (.ref x)) o.cls:=(PySem.W.Looks.ld e).andThen .now;rw [c] at L;exact L
 it:=λ _ _ X _=>by
  have z:=F0.cls;unfold PySem.W.clsIn at z
  split at z
  ·rename_i c' d' cd' sl' ho
   intro A' Q' E' s' k q;unfold isType loadHead;exact A0 (wpAny_loadPart (k _ _ (X _ _ ho)) (A1 q))
  ·cases z
 ne:=λ h tp dd its n sl X htp=>by
  have z:=F0.cls;refine Bool.eq_false_iff.mpr λ q=>?_;have e:C=tp:=Value.ref.inj (C2.mp q);subst e;unfold PySem.W.clsIn at z
  split at z
  ·rename_i c' d' cd' sl' ho
   have z:=(X _ _ ho).symm.trans htp;cases z
  ·cases z
 ca:=λ {_ _ _ _ _ s} X p k=>by obtain ⟨h,g,d,t,os⟩:=s;obtain ⟨o,e,c,_⟩:=p;exact jP X F0 e c k
section
variable {X:Cx}
theorem dk {C:Addr} (F0:ExK X.K C):cB X (.builtin "isinstance") (λ xs H Q=>∃a cv c b,xs=[.ref a,cv]/\H a=some (.ext (IsA a (.ref C)))/\clV cv=some c/\PySem.W.kitOne X.K (.ref C) c=some b/\Q (.bl b) H):=by
 intro pins s σ H xs us Q I rv h;obtain ⟨a,cv,c,b,rfl,ha,e1,e2,q⟩:=h;cases rv with
 | cons r1 rr =>
  cases rr with
  | cons r2 rr =>
   cases rr;cases r1;rw [clV.rel e1 r2];exact PySem.W.kia_one (mJ F0) I.kIn (I.hok a _ ha).1 e2 (λ z=>nomatch z) λ tk=>⟨.bl b,H,I.tok tk,O,q⟩
theorem eJ {C:Addr} (F0:ExK X.K C):cB X (.builtin "isinstance") (λ xs H Q=>∃a p cvs cs b,xs=[.ref a,.ref p]/\H a=some (.ext (IsA a (.ref C)))/\H p=some (.tup cvs)/\clVs cvs=some cs/\PySem.W.kitAny X.K (.ref C) cs=some b/\Q (.bl b) H):=by
 intro pins s σ H xs us Q I rv h;obtain ⟨a,p,cvs,cs,b,rfl,ha,hp,e1,e2,q⟩:=h;cases rv with
 | cons r1 rr =>
  cases rr with
  | cons r2 rr =>
   cases rr;cases r1;cases r2;obtain ⟨_,its,rits,o,ho,hc,n,hd⟩:=I.hok p _ hp;obtain ⟨oc,od,dt,osl⟩:=o
   replace hc:oc=.type "tuple" := hc
   replace hd:dt=.seq its.toArray n:=hd
   subst hc hd;have e3:=clVs.rel e1 rits;subst e3;exact PySem.W.kia_tup (mJ F0) I.kIn (I.hok a _ ha).1 ho e2 (λ z=>nomatch z) λ tk=>⟨.bl b,H,I.tok tk,O,q⟩
end
end L2
namespace PySem
open Sem (wp)
open AutoSeq1 (wpAny_loadPart')
section
variable {prog:G4} {w:G6} {A:Around} {E:G7->G3->Prop} {s:G3}
theorem gi {it t:Addr} {i:Nat} {items} {x:G7} {Q:G7->G3->Prop} (hit:s.heap.IsTupleIter it t i)
  (ht:s.heap.IsTuple t items) (hx:items[i]? = some x)
  (hQ:∀h',h'.IsTupleIter it t (i + 1)->Heap.SameBut it s.heap h'->Q x { s with heap:=h' }) :
  wpAny (model prog w) A (Builtin.SmallTypes.nextOf (.ref it)) Q E s:=by
 obtain ⟨o,ho,hc,hd⟩:=id hit;obtain ⟨ol,hol,_,nl,hdl⟩:=ht;unfold Builtin.SmallTypes.nextOf;refine A0 (wpAny_callSpecial?_slot (name:=Str.ofString "__next__") hit.typeIs F.slot_tuple_iterator_next
  (G0 F.slot_tuple_iterator_next hit.typeIs F.entry_tuple_iterator_next ?_ (F.args_tuple_iterator_next_1 _)))
 show wpAny _ _ (field (.ref it) 0 >>= _) _ _ s;refine A0 (wpAny_field ho hd (x:=.ref t) rfl ?_);show wpAny _ _ (if (Value.ref t == Value.none)=true then _ else _) _ _ s;rw [if_neg (show ¬ ((Value.ref t == Value.none)=true) from Bool.false_ne_true)];show wpAny _ _ (field (.ref it) 1 >>= _) _ _ s;refine A0 (wpAny_field ho hd (x:=.int i 0) rfl ?_);show wpAny _ _ (seqItems? (.ref t) >>= _) _ _ s;refine A0 (wpAny_seqItems hol hdl ?_);simp only [Int.toNat_natCast,hx];refine A0 (wpAny_setField ho hd (by simp) (A1 ⟨x,rfl,A1 (hQ _ ?_ (Heap.SameBut.update ..))⟩));exact ⟨_,Heap.get?_update_self _ ho (Obj.isFreed_of_fields (Obj.data_mapFields hd _)),(Obj.cls_mapFields ..).trans hc,by
  rw [Obj.data_mapFields hd]; simp [rawInt]⟩
theorem dR {it t:Addr} {i:Nat} {items} {Q:G7->G3->Prop} (hh:A.handled=none)
  (hit:s.heap.IsTupleIter it t i) (ht:s.heap.IsTuple t items) (hx:items[i]? = none)
  (hE:∀h' e, Heap.ExtBut it s.heap h'->(∃o, h'.get? e=some o/\o.cls=.type "StopIteration")->E (.ref e) { s with heap:=h' }) :
  wpAny (model prog w) A (Builtin.SmallTypes.nextOf (.ref it)) Q E s:=by
 obtain ⟨o,ho,hc,hd⟩:=id hit;obtain ⟨ol,hol,_,nl,hdl⟩:=ht;unfold Builtin.SmallTypes.nextOf;refine A0 (wpAny_callSpecial?_slot (name:=Str.ofString "__next__") hit.typeIs F.slot_tuple_iterator_next
  (G0 F.slot_tuple_iterator_next hit.typeIs F.entry_tuple_iterator_next ?_ (F.args_tuple_iterator_next_1 _)))
 show wpAny _ _ (field (.ref it) 0 >>= _) _ _ s;refine A0 (wpAny_field ho hd (x:=.ref t) rfl ?_);show wpAny _ _ (if (Value.ref t == Value.none)=true then _ else _) _ _ s;rw [if_neg (show ¬ ((Value.ref t == Value.none)=true) from Bool.false_ne_true)];show wpAny _ _ (field (.ref it) 1 >>= _) _ _ s;refine A0 (wpAny_field ho hd (x:=.int i 0) rfl ?_);show wpAny _ _ (seqItems? (.ref t) >>= _) _ _ s;refine A0 (wpAny_seqItems hol hdl ?_);simp only [Int.toNat_natCast,hx];refine A0 (wpAny_rule (A0 (wpAny_setField ho hd (by simp) ?_)));show wpAny _ _ (newExc (.type "StopIteration") [] >>= _) _ _ _;refine A0 ?_;simp only [newExc,newTuple];refine A0 (G1 ?_ (by size_fits));refine A0 (m:=firstArgMember _ _) (wpAny_of_eq (a:=Value.none) (by first | rfl | (simp only [firstArgMember]; rfl)) ?_);refine G1 ?_ (by size_fits);simp only [raiseNew];refine A0 (wpAny_handled ?_)
 first | rw [show A.in1.handled=none from hh] | rw [hh]
 refine A0 (A1 (wpAny_throw ?_));exact hE _ _ (((Heap.SameBut.update ..).extBut.push _).push _) ⟨_,A7 _ rfl,rfl⟩
end
theorem qm {prog:G4} {w:G6} {A:Around} (hh:A.handled=none) (it l:Addr) (hne:l≠it) (items:Array G7) :
  Draws prog w A it [it,l] items.size (λ i v=>items[i]? = some v) (λ i h=>h.IsTupleIter it l i/\h.IsTuple l items) where
 live:=λ _ _ st=>let ⟨o,ho,_⟩:=st.1; ⟨o,ho⟩
 frame:=λ _ _ _ st hk=>⟨st.1.at λ o e=>hk it (by simp) o e,let ⟨o,ho,r⟩:=st.2; ⟨o,hk l (by simp) o ho,r⟩⟩
 item:=λ i s Q E hi st hQ=>by refine gi st.1 st.2 (x:=items[i]) (by simp [hi]) λ h' hit' hs'=>?_;exact hQ _ h' s.toks (by simp [hi]) ⟨hit',st.2.extBut hs'.extBut hne⟩ hs'
 done:=λ s Q E st hE=>dR hh st.1 st.2 (by simp) hE
theorem gT (l:Addr) (items:Array G7) (n:Nat) (dct:Option Addr) (sl:Array (Option G7)) :
  Meets (Builtin.«enumerate.__new__» ⟨[.type "enumerate",.ref l],[]⟩) (λ _ R s=>s.heap.get? l=some { cls:=.type "tuple",dict:=dct,data:=.seq items n,slots:=sl } /\
   R (.ok (.ret (.ref (s.heap.push { cls:=.type "tuple_iterator",data:=.fields #[.ref l,.int 0 0] }).objs.size)))
    { s with heap:=(s.heap.push { cls:=.type "tuple_iterator",data:=.fields #[.ref l,.int 0 0] }).push { cls:=.type "enumerate",data:=.fields #[.none,.bool false,.ref s.heap.objs.size,rawInt 0,.none,.none] } }) :=
 .of_wp λ prog w A R s h=>by
  obtain ⟨hp,g,d,tk,os⟩:=s; obtain ⟨hl,h⟩:=h;have hsub:=sub_enumerate;have hL:Heap.IsTuple (Shared.heap ⟨hp,g,d,tk,os⟩) l items:=⟨_,hl,O,n,O⟩
  wp_walk using wpAny_loadPart' hl
  refine wpAny_stack_any λ st=>A1 ?_
  split
  ·rename_i c _ _ _ _ _
   cases (c == Value.type "enumerate")
   ·wp_walk using wpAny_loadPart' hl,wpAny_pyIter_tuple hL
    exact ⟨_,O,h⟩
   ·wp_walk using wpAny_loadPart' hl,wpAny_pyIter_tuple hL
    exact ⟨_,O,h⟩
  ·wp_walk using wpAny_loadPart' hl,wpAny_pyIter_tuple hL
   exact ⟨_,O,h⟩
section
variable {prog:G4} {w:G6} {A:Around} {E:G7->G3->Prop} {s:G3}
theorem eW {l:Addr} {items:Array G7} {Q:G7->G3->Prop} (hL:s.heap.IsTuple l items)
  (h:∀h',IsEnum h' (s.heap.objs.size + 1) s.heap.objs.size 0 .none->h'.IsTupleIter s.heap.objs.size l 0->h'.objs.size=s.heap.objs.size + 2 ->
   (∀b o,s.heap.get? b=some o->h'.get? b=some o)->Q (.ref (s.heap.objs.size + 1)) { s with heap:=h' }) :
  wpAny (model prog w) A (call (.type "enumerate") [.ref l]) Q E s:=by
 obtain ⟨⟨c,dct,dt,sl⟩,hl,hc,n,hd⟩:=hL
 replace hc:c=.type "tuple" := hc
 replace hd:dt=.seq items n:=hd
 subst hc hd;refine callType_new F.called_enumerate (by decide) (F.typeCall_enumerate_1 _) (F.newCall_enumerate_1 _) (λ obj=>F.args_object_init_2 obj _) F.entry_enumerate_new
  (gT l items n dct sl) ⟨hl,?_⟩
 have hz:(s.heap.push { cls:=.type "tuple_iterator",data:=.fields #[.ref l,.int 0 0] }).objs.size=s.heap.objs.size + 1:=Heap.size_push ..;show _/\_;rw [hz];have he:IsEnum ((s.heap.push { cls:=.type "tuple_iterator",data:=.fields #[.ref l,.int 0 0] }).push
   { cls:=.type "enumerate",data:=.fields #[.none,.bool false,.ref s.heap.objs.size,rawInt 0,.none,.none] }) (s.heap.objs.size + 1) s.heap.objs.size 0 .none:=by
  have:=A7 (s.heap.push { cls:=.type "tuple_iterator",data:=.fields #[.ref l,.int 0 0] })
   (o:={ cls:=.type "enumerate",data:=.fields #[.none,.bool false,.ref s.heap.objs.size,rawInt 0,.none,.none] }) rfl
  rw [hz] at this; exact this
 refine ⟨⟨_,he,O⟩,h _ he ⟨_,A6 _ (A7 _ rfl),O,O⟩ (by rw [Heap.size_push,hz]) λ b o x=>A6 _ (A6 _ x)⟩
end
end PySem
namespace L2
open PySem PySem.Spec PyProof.Rows
def Ite (f:List V->HO) (l:Addr):It :=
  ⟨λ i H=>∃xs x,H l=some (f xs)/\xs[i]? = some x,
   λ i H v H'=>∃p xs x,H p=none/\v=.ref p/\H'=upd H p (.tup [.int i,x])/\H l=some (f xs)/\xs[i]? = some x,
   λ i H=>∃xs,H l=some (f xs)/\xs.length<=i⟩
section
variable {X:Cx} {pins:List (Addr×Obj)} {σ:St} {H:Hp} {s:G3}
theorem iE {f:List V->HO} {tn:Nat->Heap->Prop} {es:List Expr} {kk:Nat} {tp:Pos} {e it l:Addr} {i:Nat} {xs:List V} {x:V} {u:G7} {tk:Nat} {h':Heap} {E:G7->G3->Prop} (hne:e≠it) (I:Inv X pins σ H s) (hf:∀b∈[e,it],fL X pins H b) (hl:H l=some (f xs)) (hx:xs[i]? = some x)
  (ho:∀b∈[e, it], b < s.heap.objs.size) (r:RelV x u) (b1:IsEnumOut h' e it ((i:Int) + 1) u s.heap.objs.size) (b3:h'.get? s.heap.objs.size=some { cls:=.type "tuple", data:=.seq #[.int i tk, u] })
  (bk:∀b o,b≠e->b≠it->s.heap.get? b=some o->h'.get? b=some o) (hn:∀h'',IsEnum h'' e it ((i + 1:Nat):Int) u->Heap.SameBut e h' h''->tn (i + 1) h'') :
  wpAny (model X.prog X.w) X.A (letOwnedTupleGo (.Tuple es kk tp) (.ref e) (.ref s.heap.objs.size)) (λ _ s2=>∃x H',Inv X pins σ H' s2/\RelV x (.ref s.heap.objs.size)/\(Ite f l).yld i H x H'/\tn (i + 1) s2.heap/\∀b∈[e,it],H' b=none) E { s with heap:=h',toks:=tk + 1 }:=by
 refine wpAny_letOwnedTupleGo_enum b1 λ h'' c1 cs=>?_;have es':e < s.heap.objs.size:=ho e (by simp);have k2:∀b o,b∉[e,it]->s.heap.get? b=some o->h''.get? b=some o:=λ b o hb q=>by simp only [List.mem_cons,List.not_mem_nil,or_false,not_or] at hb;exact cs.extBut b o hb.1 (bk b o hb.1 hb.2 q)
 have I1:Inv X pins σ H { s with heap:=h'',toks:=tk + 1 }:=I.turnedN (t':=tk + 1) hf k2;have hp:h''.get? s.heap.objs.size=some { cls:=.type "tuple", data:=.seq #[.int i tk, u] }:=cs.extBut _ _ (Nat.ne_of_gt es') b3;have hn0:H s.heap.objs.size=none:=I.hok.fresh (B2 _);have fpk:=I.fpOk (H':=H) (B2 _) hn0;have I2:Inv X pins σ (upd H s.heap.objs.size (.tup [.int i,x])) { s with heap:=h'',toks:=tk + 1 }:=I1.track fpk I.sz ⟨by show 2<=sizeLine; decide,[.int i tk,u],.cons ⟨tk,O⟩ (.cons r .nil),_,hp,O,_,O⟩;refine ⟨.ref s.heap.objs.size,_,I2,O,⟨_,xs,x,hn0,O,O,hl,hx⟩,hn h'' c1 cs,λ b hb=>?_⟩;rw [am (Nat.ne_of_lt (ho b hb))];exact (hf b hb).1
end
theorem lb {P:G4} {w:G6} {K:C3} {es:List Expr} {kk:Nat} {tp:Pos} (l e it:Addr) (hne:e≠it) :
  Turn P w K (.Tuple es kk tp) (Ite .lst l) [e,it] e (λ i h=>(∃old,IsEnum h e it i old)/\h.IsListIter it l i) where
 mem:=by simp
 obj:=λ i h st b hb=>by
  obtain ⟨⟨old,a1⟩,⟨o2,a2,_,d2⟩⟩:=st;simp only [List.mem_cons,List.not_mem_nil,or_false] at hb;rcases hb with rfl | rfl
  ·exact ⟨_,a1,λ v q=>by cases q⟩
  ·exact ⟨_,a2,λ v q=>by rw [d2] at q; cases q⟩
 keep:=λ i h h' st k=>by obtain ⟨⟨old,a1⟩,a2⟩:=st;exact ⟨⟨old,k e (by simp) _ a1⟩,a2.at λ o q=>k it (by simp) o q⟩
 item:=by
  intro X hP hw hK hc i pins s σ H E I hf st hg;subst hP hw hK;obtain ⟨⟨old,a1⟩,a2⟩:=st;obtain ⟨xs,x,e1,ex⟩:=hg;obtain ⟨its,rv,p1,_⟩:=I.list (IV e1);obtain ⟨u,hu,r⟩:=rv.get ex;have ho:∀b∈[e,it],b < s.heap.objs.size:=λ b hb=>by
   obtain ⟨o2,a2',_⟩:=a2;simp only [List.mem_cons,List.not_mem_nil,or_false] at hb;rcases hb with rfl | rfl
   ·exact A8 a1
   ·exact A8 a2'
  refine wpAny_pyNext_enum_item a1 a2 p1.isList (x:=u) (by simpa using hu) hne λ h' b1 b2 b3 b4 bk=>⟨_,O,?_⟩
  exact iE (tn:=λ i h=>(∃old,IsEnum h e it i old)/\h.IsListIter it l i) hne I hf e1 ex ho r b1 b3 bk λ h'' c1 cs=>⟨⟨u,c1⟩,b2.extBut cs.extBut (Ne.symm hne)⟩
 done:=by
  intro X hP hw hK hc i pins s σ H E I hf st hg;subst hP hw hK;obtain ⟨⟨old,a1⟩,a2⟩:=st;obtain ⟨xs,e1,ex⟩:=hg;obtain ⟨its,rv,p1,_⟩:=I.list (IV e1);have lv:=rv.length;refine wpAny_pyNext_enum_end (I.ok.hd hc) a1 a2 p1.isList (by simp; omega) λ h' bk=>⟨O,?_⟩
  exact I.turnedN (t':=s.toks) hf λ b o hb q=>by simp only [List.mem_cons,List.not_mem_nil,or_false,not_or] at hb;exact bk b o hb.2 q
 self:=λ _ _ _ _ _ st h=>by obtain ⟨⟨old,a1⟩,_⟩:=st; exact wpAny_pyIter_enum a1 h
theorem le {P:G4} {w:G6} {K:C3} {es:List Expr} {kk:Nat} {tp:Pos} (l e it:Addr) (hne:e≠it) :
  Turn P w K (.Tuple es kk tp) (Ite .tup l) [e,it] e (λ i h=>(∃old,IsEnum h e it i old)/\h.IsTupleIter it l i) where
 mem:=by simp
 obj:=λ i h st b hb=>by
  obtain ⟨⟨old,a1⟩,⟨o2,a2,_,d2⟩⟩:=st;simp only [List.mem_cons,List.not_mem_nil,or_false] at hb;rcases hb with rfl | rfl
  ·exact ⟨_,a1,λ v q=>by cases q⟩
  ·exact ⟨_,a2,λ v q=>by rw [d2] at q; cases q⟩
 keep:=λ i h h' st k=>by obtain ⟨⟨old,a1⟩,a2⟩:=st;exact ⟨⟨old,k e (by simp) _ a1⟩,a2.at λ o q=>k it (by simp) o q⟩
 item:=by
  intro X hP hw hK hc i pins s σ H E I hf st hg;subst hP hw hK;obtain ⟨⟨old,a1⟩,a2⟩:=st;obtain ⟨xs,x,e1,ex⟩:=hg;obtain ⟨its,rv,p1,_⟩:=I.tuple (IU e1);obtain ⟨u,hu,r⟩:=rv.get ex;have lt:i < its.toArray.size:=by simp; exact (A5.mp hu).1
  have ho:∀b∈[e,it],b < s.heap.objs.size:=λ b hb=>by
   obtain ⟨o2,a2',_⟩:=a2;simp only [List.mem_cons,List.not_mem_nil,or_false] at hb;rcases hb with rfl | rfl
   ·exact A8 a1
   ·exact A8 a2'
  have nl:∀b∈[e,it],l≠b:=λ b hb q=>by rw [q,(hf b hb).1] at e1; cases e1
  have p1':s.heap.IsTuple l its.toArray:=p1;have DD:Draws X.prog X.w X.A.in1 it [it,l] its.toArray.size (λ i v=>its.toArray[i]? = some v) (λ i h=>h.IsTupleIter it l i/\h.IsTuple l its.toArray):=qm (show X.A.in1.handled=none from I.ok.hd hc) it l (nl it (by simp)) its.toArray;refine wpAny_pyNext_enum_itemD DD a1 ⟨a2,p1'⟩ lt hne (by simp only [List.mem_cons,List.not_mem_nil,or_false,not_or]; exact ⟨hne,Ne.symm (nl e (by simp))⟩) λ x' h' tk px b1 b2 b3 b4 bk=>⟨_,O,?_⟩
  have hu':its.toArray[i]? = some u:=by simpa using hu
  have eu:u=x':=B7 (hu'.symm.trans px);subst eu;exact iE (tn:=λ i h=>(∃old,IsEnum h e it i old)/\h.IsTupleIter it l i) hne I hf e1 ex ho r b1 b3 bk λ h'' c1 cs=>⟨⟨u,c1⟩,b2.1.extBut cs.extBut (Ne.symm hne)⟩
 done:=by
  intro X hP hw hK hc i pins s σ H E I hf st hg;subst hP hw hK;obtain ⟨⟨old,a1⟩,a2⟩:=st;obtain ⟨xs,e1,ex⟩:=hg;obtain ⟨its,rv,p1,_⟩:=I.tuple (IU e1);have lv:=rv.length;have p1':s.heap.IsTuple l its.toArray:=p1;have hT:s.TypeIs (.ref e) "enumerate" := ⟨_,a1,O⟩
  unfold pyNext;refine A0 (wpAny_attempt (wpAny_callSpecial?_slot (name:=Str.ofString "__next__") hT F.slot_enumerate_next
   (G0 F.slot_enumerate_next hT F.entry_enumerate_next ?_ (F.args_enumerate_next_1 _))))
  show wpAny _ _ (field (.ref e) 2 >>= _) _ _ _;refine A0 (wpAny_field a1 rfl (x:=.ref it) rfl ?_);refine A0 (dR (I.ok.hd hc) a2 p1' (by simp; omega) λ h' x he' hx'=>?_);obtain ⟨o,ho,hc⟩:=hx';refine A0 (wpAny_isInstance (T := "StopIteration") (b:=true) ⟨o,ho,hc⟩ isSubtype_stop ?_);refine A1 ⟨rfl,?_⟩;exact I.turnedN (t':=s.toks) hf λ b o hb q=>by simp only [List.mem_cons,List.not_mem_nil,or_false,not_or] at hb;exact he' b o hb.2 q
 self:=λ _ _ _ _ _ st h=>by obtain ⟨⟨old,a1⟩,_⟩:=st; exact wpAny_pyIter_enum a1 h
def zE (ta:TA):TI:=λ σ H R=>ta σ H λ vs H1=>∃l xs,vs=[.ref l]/\((H1 l=some (.lst xs)/\R (Ite .lst l) H1)\/(H1 l=some (.tup xs)/\R (Ite .tup l) H1))
theorem sH {X:Cx} {a:Expr} {ta:TA} {p pos tp:Pos} {es:List Expr} {kk:Nat} (hg:Gl X "enumerate") (hm:X.mg "enumerate" = none) (ha:PA X [a] ta)
  (hs:starEach [a] X.env=[(false,eval a X.env)]:=by rfl) :
  PI X (.Tuple es kk tp) (.Call (.Name "enumerate" p) [a] [] pos) (zE ta):=by
 intro pins s σ H R I h;refine Call_ (eM I hg hm PyProof.Rows.boot_enumerate (PyProof.Rows.callWith_type1 (thn (ha pos pins s σ H _ I h) λ us s1 ⟨vs,H1,I1,r1,q1⟩=>?_) (by rw [hs]; rfl) (by rfl)));obtain ⟨l,xs,rfl,q⟩:=q1;cases r1 with
 | cons r rr =>
  cases rr;cases r;rcases q with ⟨e1,q⟩ | ⟨e1,q⟩
  ·obtain ⟨its1,rv1,p1,_⟩:=I1.list (IV e1);refine call_enumerate_list p1.isList λ h' z1 z2 sz keep=>?_;have I2:Inv X pins σ H1 { s1 with heap:=h' }:=I1.kept (t':=s1.toks) keep;refine wpAny_pyIter_enum z1 ⟨s1.heap.objs.size + 1,[s1.heap.objs.size + 1,s1.heap.objs.size],_,_,H1,rfl,I2,lb l _ _ (Nat.succ_ne_self _),⟨⟨_,z1⟩,z2⟩,λ b hb=>?_,q⟩;have hb':s1.heap.objs.size<=b:=by simp only [List.mem_cons,List.not_mem_nil,or_false] at hb;rcases hb with rfl | rfl <;> omega
   exact I1.fpOk hb' (I1.hok.fresh hb')
  ·obtain ⟨its1,rv1,p1,_⟩:=I1.tuple (IU e1);have p1':s1.heap.IsTuple l its1.toArray:=p1;refine eW p1' λ h' z1 z2 sz keep=>?_;have I2:Inv X pins σ H1 { s1 with heap:=h' }:=I1.kept (t':=s1.toks) keep;refine wpAny_pyIter_enum z1 ⟨s1.heap.objs.size + 1,[s1.heap.objs.size + 1,s1.heap.objs.size],_,_,H1,rfl,I2,le l _ _ (Nat.succ_ne_self _),⟨⟨_,z1⟩,z2⟩,λ b hb=>?_,q⟩;have hb':s1.heap.objs.size<=b:=by simp only [List.mem_cons,List.not_mem_nil,or_false] at hb;rcases hb with rfl | rfl <;> omega
   exact I1.fpOk hb' (I1.hok.fresh hb')
theorem qo {f:List V->HO} (hf:∀xs ys,f xs=f ys->xs=ys) {l:Addr} {xs:List V} {g:TG} {tb:TS} {D:Ends} {σ:St} {H:Hp} (Pv:Nat->St->Hp->Prop) (h0:Pv 0 σ H) (hk:∀i σ H',Pv i σ H'->H' l=some (f xs))
  (ht:∀i x p σ H,xs[i]? = some x->H p=none->Pv i σ H->g (.ref p) σ (upd H p (.tup [.int i,x])) λ σ2 H2=>tb { D with nx:=Pv (i + 1),ct:=Pv (i + 1),bk:=D.nx } σ2 H2) (hd:∀σ H,Pv xs.length σ H->D.nx σ H) :
  ∃W:Nat->Nat->St->Hp->Prop,(∃m,W 0 m σ H)/\∀i m σ H,W i m σ H ->
   ((Ite f l).stop i H/\D.nx σ H)\/((Ite f l).go i H/\∃N:St->Hp->Prop,(∀σ' H',N σ' H'->∃m',m' < m/\W (i + 1) m' σ' H')/\∀x H',(Ite f l).yld i H x H'->g x σ H' λ σ2 H2=>tb { D with nx:=N,ct:=N,bk:=D.nx } σ2 H2):=by
 refine ⟨λ i m σ H=>m=xs.length - i/\i<=xs.length/\Pv i σ H,⟨xs.length,by simp,E5 _,h0⟩,?_⟩;rintro i m σ H ⟨rfl,hi,p⟩;have e1:=hk i σ H p
 by_cases hlt:i < xs.length
 ·refine .inr ⟨⟨xs,xs[i],e1,by simp [hlt]⟩,Pv (i + 1),λ σ' H' p'=>⟨xs.length - (i + 1),by omega,O,hlt,p'⟩,λ v H' y=>?_⟩;obtain ⟨q,xs',x,hq,rfl,rfl,e1',ex⟩:=y;rw [e1] at e1';cases hf _ _ (B7 e1');exact ht i x q σ H ex hq p
 ·have e:i=xs.length:=by omega
  subst e;exact .inl ⟨⟨xs,e1,B2 _⟩,hd σ H p⟩
end L2
namespace Pc
open PySem L2
def be (k:Kd):Bool:=k.tu && !decide (k.w=k.h)
def gU (K:C3):Sp:=λ vs H Q _=>∃ (a:Addr) (k:Kd),vs=[.ref a]/\H a=some (.tup (kdV k))/\Q (.bl (be k)) H
def ce (ks:List Kd) (x t:V):Bool:=match x,t with
 | .int i,.bl b=>decide (0<=i) && match ks[i.toNat]? with
  | some k=>!b || be k
  | none=>false
 | _,_=>false
def eA (K:C3) (C:Addr):Sp:=λ vs H Q _=>∃ (s:Addr) (b:Int) (ks:List Kd) (x t:V) (T U:String),vs=[.ref s,x,t]/\ShopAt C H s b ks/\Ty K H x T/\Ty K H t U/\Q (.bl (ce ks x t)) H
end Pc
namespace L2
open PySem PySem.Spec PyProof.Rows
section
variable {X:Cx}
theorem mK {k:Nat} {C:Addr} {ps:List Str} {sp:Sp} {m:Str} {o:Expr} {e:Expr} {es:List Expr} {ta:TE} {t:TA} {apos pos:Pos} {pl:Sem Bool} (he:PE X o ta) (c:Cls X.K C) (D:Mn X.prog X.w X.K X.mg X.base C m ps k sp) (hr:Room k X.A) (ha:PA X (e :: es) t)
  (hst:starEach (e :: es) X.env=(false,eval e X.env) :: starEach es X.env:=by rfl) (hpl:(backTo pos (starEach es X.env)).any (·.1)=false:=by rfl)
  (ht:eval (.Call (.Attribute o m apos) (e :: es) [] pos) X.env=(do
   let ov<-eval o X.env
   standAt apos.atName
   let (f,first)<-holding [ov] (getMethod ov m pl)
   callWith pos f first (backTo pos (starEach (e :: es) X.env)) (backToKw pos (keywordEach [] X.env))):=by rfl):PE X (.Call (.Attribute o m apos) (e :: es) [] pos) (mB C m sp [] E0 ta t):=by
 obtain ⟨f,fd,F,hb,hm⟩:=D;exact sk he c hm F hr hb .nil mF ha hst hpl ht
end
section
variable {X:Cx}
theorem eX {pos:Pos}:PE X (.Dict [] [] pos) (λ _ H Q=>∀p,H p=none->Q (.ref p) (upd H p (.dK []))):=by intro pins s σ H Q I h;have hb:sysModules < s.heap.objs.size:=Nat.lt_trans (show sysModules < mainGlobals by decide) (I.mod.glob.keeps I.bk).lt;refine wpAny_Dict_empty ⟨.ref s.heap.objs.size,_,?_,rfl,h _ (I.hok.fresh (B2 _))⟩;refine I.laid (a:=s.heap.objs.size) (o:=.dK []) (t':=s.toks) (λ _ _ q=>A6 _ q) (B2 _) ?_;exact ⟨E5 _,beq_eq_false_iff_ne.mpr (Nat.ne_of_gt hb),[],.nil,Heap.DictOf.new _⟩
end
section
variable {K:C3} {C X:Addr}
theorem jn (h:ExcC K C):(PySem.W.clsIn K C).isSome=true/\PySem.W.typeIn K (.ref C)=some (.type "type"):=by
 unfold ExcC PySem.W.excIn at h
 split at h
 ·rename_i e
  refine ⟨?_,?_⟩
  ·unfold PySem.W.clsIn;rw [e]
   rfl
  ·show Option.map (λ x=>x.cls) (List.lookup C K)=_;rw [e]
   rfl
 ·cases h
theorem iF {t:G7} {b:Bool} (hx:ExcC K X) (s:PySem.W.subIn K t (.ref X)=some b):PySem.W.kitCls K t (.ref X)=some b:=by
 obtain ⟨h1,h2⟩:=jn hx;unfold PySem.W.kitCls;simp only [h1,h2,s]
 rfl
theorem jQ:PySem.W.kitOne K (.ref C) (.ref C)=some true:=by unfold PySem.W.kitOne;rw [if_pos (by simp)]
theorem vm {b:Bool} (hx:ExcC K X) (ne:¬ X=C) (s:PySem.W.subIn K (.ref C) (.ref X)=some b):PySem.W.kitOne K (.ref C) (.ref X)=some b:=by unfold PySem.W.kitOne;rw [if_neg (λ z=>ne (Value.ref.inj (beq_iff_eq.mp z)).symm)];exact iF hx s
theorem bg (s0:PySem.W.subIn K (.ref C) (.ref C)=some true) (hx:ExcC K X) (s:PySem.W.subIn K (.ref C) (.ref X)=some false):PySem.W.kitOne K (.ref C) (.ref X)=some false :=
 vm hx (λ z=>by rw [z,s0] at s; cases s) s
theorem qp (s:PySem.W.subIn K (.ref C) (.type "ValueError")=some true):PySem.W.kitOne K (.ref C) (.type "ValueError")=some true:=by unfold PySem.W.kitOne;rw [if_neg (λ z=>by cases (beq_iff_eq.mp z))];show (if PySem.W.kitMeta "ValueError" = true then PySem.W.subIn K (.ref C) (.type "ValueError") else none)=_;rw [if_pos (show PySem.W.kitMeta "ValueError" = true by decide +kernel)];exact s
theorem dq {t:G7}:PySem.W.kitAny K t []=some false:=rfl
theorem aE {t c:G7} {cs:List G7} (h:PySem.W.kitOne K t c=some false) (r:PySem.W.kitAny K t cs=some false):PySem.W.kitAny K t (c :: cs)=some false:=by show (match PySem.W.kitOne K t c with | some true=>some true | some false=>PySem.W.kitAny K t cs | none=>none)=_;rw [h];exact r
theorem qq (hx:ExcC K X) (b:PySem.W.subIn K (.ref X) (.type "BaseException")=some true) (s:PySem.W.subIn K (.ref C) (.ref X)=some true):PySem.W.exmOne K (.ref C) (.ref X)=some true:=by unfold PySem.W.exmOne;rw [b,if_pos (show ((some true == some true)=true) from rfl)];exact iF hx s
end
section
variable {X:Cx}
theorem qr:OpR X (binaryOp .Add) (λ x y H Q=>∃a b ys,x=.ref a/\y=.ref b/\SqT X.K H a []/\SqT X.K H b ys/\Q (.ref b) H):=by
 intro pins s σ H x y v u Q I rx ry h;obtain ⟨a,b,ys,rfl,rfl,ha,hb,q⟩:=h;cases rx;cases ry;obtain ⟨its,r1,p1,_⟩:=I.tuple ha;obtain ⟨its2,r2,p2,_⟩:=I.tuple hb;cases r1;obtain ⟨⟨cls,dd,data,sl⟩,ho,hc,n,hd⟩:=p1;obtain ⟨⟨cls2,dd2,data2,sl2⟩,ho2,hc2,n2,hd2⟩:=p2;simp only at hc hd hc2 hd2;subst hc hd hc2 hd2;exact concat_meets ⟨_,ho,rfl⟩ ⟨_,ho2,rfl⟩ noFill_tuple_add seq_tuple_add PySem.F.slot_tuple_add PySem.F.entry_tuple_add (PySem.F.args_tuple_add_2 _ _)
   (tuple_addW0 a b _ _ n n2 dd dd2 sl sl2 rfl) ⟨ho,ho2,⟨.ref b,H,I,rfl,q⟩⟩
end
section
variable {X:Cx}
def zF:R2:=λ x y H Q=>∃a b xs ys,x=.ref a/\y=.ref b/\H a=some (.tup xs)/\H b=some (.tup ys)/\xs.length + ys.length<=sizeLine /\
 ∀m H',(H'=H/\(m=a\/m=b))\/(H m=none/\H'=upd H m (.tup (xs ++ ys)))->H' m=some (.tup (xs ++ ys))->Q (.ref m) H'
theorem mL:OpR X (binaryOp .Add) zF:=by
 intro pins s σ H x y v u Q I rx ry h;obtain ⟨a,b,xs,ys,rfl,rfl,ha,hb,hz,q⟩:=h
 by_cases hx:xs=[]
 ·subst hx;exact qr pins s σ H _ _ v u Q I rx ry ⟨a,b,ys,rfl,rfl,IU ha,IU hb,q b H (.inl ⟨rfl,.inr rfl⟩) hb⟩
 ·refine jb pins s σ H _ _ v u Q I rx ry ⟨a,b,xs,ys,rfl,rfl,IU ha,IU hb,hx,hz,λ e=>?_,λ e p hp=>q p _ (.inr ⟨hp,rfl⟩) ag⟩;subst e;exact q a H (.inl ⟨O,.inl rfl⟩) (by rw [List.append_nil]; exact ha)
end
theorem mM:∀ {ns:List Int} {its:List G7},Vals (ns.map V.int) its->IntsAre its ns
 | [],_,r=>by cases r; exact .nil
 | n :: ns,_,r=>by
  cases r with
  | cons r1 r2 =>
   obtain ⟨t,e⟩:=r1;subst e;exact .cons n t (mM r2)
section
variable {X:Cx}
theorem nM (hc:X.calm=true):cB X (.builtin "sum") (λ xs H Q=>∃ (p:Addr) (ns:List Int),xs=[.ref p]/\SqL X.K H p (ns.map V.int)/\Q (.int ns.sum) H):=by
 intro pins s σ H xs us Q I r h;obtain ⟨p,ns,rfl,hs,q⟩:=h;obtain ⟨u,rfl,rfl⟩:=fW r;obtain ⟨its,rv,pl,_⟩:=I.list hs;have hi:=mM rv;obtain ⟨xs,e⟩:=hi.allInts.items;have pl':=pl.isList;rw [e] at pl';refine sum_intListG (I.ok.hd hc) pl' λ h' tk t' hk=>?_;have e2:preSum (numAt xs) xs.size=ns.sum:=by rw [preSum_eq,List.take_of_length_le (by simp),<- nums_intItems,<- e,show its.toArray.toList=its from rfl,hi.numsOf]
 rw [e2];exact ⟨.int ns.sum,H,I.kept hk,⟨_,O⟩,q⟩
end
section
variable {X:Cx}
def CMulB (i j:Int):Prop:=i.natAbs < 2 ^ 4096/\j.natAbs < 2 ^ 4096
theorem mO {k:Int} (h:k.natAbs < 2 ^ 4096):Builtin.Int.intBits k<=2 ^ 20:=by
 have e:(2:Nat) ^ 20=1048576:=by decide
 unfold Builtin.Int.intBits
 split
 ·exact E5 _
 ·have:k.natAbs.log2 < 4096:=by
   rcases Nat.eq_zero_or_pos k.natAbs with h0 | hp
   ·rw [h0]; decide
   ·exact (Nat.log2_lt (Nat.ne_of_gt hp)).mpr h
  omega
theorem CMulB.ok {i j:Int} (h:CMulB i j):IntMulOk i j:=.of_bits (mO h.1) (mO h.2)
theorem gu:OpR X (binaryOp .Mult) (rI CMulB λ i j=>.int (i * j)):=opI λ _ _ _ _ _ _ _ hc q=>mul_int q hc.ok
end
theorem aL {α:Type} {xs:List α} {i:Int} {v:α} (h0:0<=i) (h:xs[i.toNat]? = some v):atI xs i=some v:=by
 have e:i=((i.toNat:Nat):Int):=by omega
 have z:atI xs ((i.toNat:Nat):Int)=some v:=mE h;rw [<- e] at z; exact z
section
variable {X:Cx} {k:Nat} {ps:List Str} {sp:Sp} {x:Str} {p pos:Pos} {e:Expr} {es:List Expr} {t:TA}
def DnX (P:G4) (w:G6) (K:C3) (mg:Str->Option G7) (base:Heap) (x:Str) (ps:List Str) (k:Nat) (sp:Sp):Prop :=
 ∃ (f:Addr) (fd:G5),FnOk P w K mg base (CXx P w) k f fd ps sp/\Binds K fd ps []/\PySem.W.keepIn K (.ref f)=true/\mg x=some (.ref f)
def vn (sp:Sp) (t:TA):TX:=λ σ H Q E=>t σ H λ vs H1=>sp vs H1 Q E
theorem bQ (D:DnX X.prog X.w X.K X.mg X.base x ps k sp) (hr:Room k X.A) (hg:Gl X x) (ha:PA X.nox (e :: es) t)
  (hdb:(x == ("__debug__" : Str))=false:=by decide) (he:starEach (e :: es) X.env=(false,eval e X.env) :: starEach es X.env:=by rfl) (hpl:(backTo pos (starEach es X.env)).any (·.1)=false:=by rfl) :
  PEx X (.Call (.Name x p) (e :: es) [] pos) (vn sp t):=by
 obtain ⟨f,fd,F,hb,hk,hm⟩:=D;intro pins s σ H Q E I h;refine wpAny_Call_Name_kw (df I hg hm ?_ hdb);refine PySem.W.callWith_K (h₀:=X.base) I.ok.mod.kin hk (wpAny_mono (ha pos pins s σ H _ (I.wish _) h) (λ us s1 ⟨vs,H1,I1,r,q⟩=>⟨I1.kIn,?_⟩) λ _ _ z=>E4 z) he hpl;exact sG F hr hb I1.unwish r q
end
theorem vo {X:Cx} (K:C3) {x y:Str} {px py pos:Pos} {k:Nat} (hK:X.K=K) (hc:X.calm=true) (hN:X.N.Nodup) (h0:X.N[0]? = some x) (h1:X.N[1]? = some y) (l0:X.env.scope.names.lookup x=some .local) (l1:X.env.scope.names.lookup y=some .local) :
  PG X (.Tuple [.Name x px,.Name y py] k pos) (gTup K 2 (gCons (cO 0) (gCons (cO 1) rT))) :=
 hK ▸ bq hc (ai (aj hN h0 (.inl l0) (.inr l0)) (ai (aj hN h1 (.inl l1) (.inr l1)) aU))
theorem qt {X:Cx} (K:C3) {x y z:Str} {px py pz pos:Pos} {k:Nat} (hK:X.K=K) (hc:X.calm=true) (hN:X.N.Nodup) (h0:X.N[0]? = some x) (h1:X.N[1]? = some y) (h2:X.N[2]? = some z) (l0:X.env.scope.names.lookup x=some .local) (l1:X.env.scope.names.lookup y=some .local) (l2:X.env.scope.names.lookup z=some .local) :
  PG X (.Tuple [.Name x px,.Name y py,.Name z pz] k pos) (gTup K 3 (gCons (cO 0) (gCons (cO 1) (gCons (cO 2) rT)))) :=
 hK ▸ bq hc (ai (aj hN h0 (.inl l0) (.inr l0)) (ai (aj hN h1 (.inl l1) (.inr l1)) (ai (aj hN h2 (.inl l2) (.inr l2)) aU)))
theorem qu {l1 l2:Addr} {xs ys:List V} {σ:St} {cap:List Nat} {k:Nat} {g:TG} {tt:TT} {te:TE} {Q:List V->Hp->Prop} {H:Hp} (Pv:Nat->List V->Hp->Prop) (hn:xs.length=ys.length)
  (hk:∀i zs H',Pv i zs H'->H' l1=some (.lst xs)/\H' l2=some (.lst ys)) (h0:Pv 0 [] H)
  (hz:∀i zs H',i < xs.length->Pv i zs H'->zs.length < sizeLine)
  (ht:∀i x y p zs H',xs[i]? = some x->ys[i]? = some y->H' p=none->Pv i zs H'->g (.ref p) (bO σ cap k) (upd H' p (.tup [x,y])) λ σ2 H2=>leS (bO σ cap k) σ2/\tt σ2 H2 λ ok H3=>if ok=true then te σ2 H3 (λ v H4=>Nx xs.length Pv i (zs ++ [v]) H4) else Nx xs.length Pv i zs H3)
  (hd:∀zs H',Pv xs.length zs H'->zs.length<=sizeLine/\Q zs H'):∃W,(∃m,W 0 m [] H)/\iB σ cap k (Itz l1 l2) g tt te Q W:=by
 refine ⟨λ i m zs H'=>m=xs.length - i/\i<=xs.length/\Pv i zs H',⟨_,O,E5 _,h0⟩,?_⟩;rintro i m zs H' ⟨rfl,hi,p⟩;obtain ⟨e1,e2⟩:=hk i zs H' p
 by_cases hlt:i < xs.length
 ·have hx:xs[i]? = some xs[i]:=by simp [hlt]
  have hy:ys[i]? = some (ys[i]'(by omega)):=by simp [show i < ys.length by omega]
  refine .inr ⟨⟨xs,ys,_,_,e1,e2,hx,hy⟩,hz i zs H' hlt p,λ v H2 yl=>?_⟩
  ·obtain ⟨q,xs',ys',x,y,hq,rfl,rfl,e1',e2',ex,ey⟩:=yl;rw [e1] at e1'; cases e1';rw [e2] at e2'; cases e2';exact ht i x y q zs H' ex ey hq p
 ·have e:i=xs.length:=by omega
  subst e;obtain ⟨a1,a2⟩:=hd zs H' p;exact .inl ⟨⟨xs,ys,e1,e2,.inl (B2 _)⟩,a1,a2⟩
abbrev TXS:=St->Hp->(Hp->Prop)->XK->Prop
def PSx (X:Cx) (b:List Stmt) (t:TXS):Prop :=
 ∀ (pins:List (Addr×Obj)) (s:G3) (σ:St) (H:Hp) (N:Hp->Prop) (E:XK),Inv X pins σ H s->t σ H N E->wpAny (model X.prog X.w) X.A (execs b X.env) (λ fl s'=>fl=Flow.next/\∃H',Inv X pins σ H' s'/\N H') (XP X pins σ E) s
section
variable {X:Cx} {e c:Expr} {a b:List Stmt} {tx:TX} {ta tb:TXS} {tt:TT} {pos:Pos}
theorem qv (he:PEx X e tx) (hs:swapsWith e none pos.line X.env=pure false:=by rfl):PSx X [.Expr e pos] (λ σ H N E=>tx σ H (λ _ H1=>N H1) E):=by intro pins s σ H N E I h;exact wpAny_execs_cons (wpAny_Expr_any (wpAny_mono (he pins s σ H _ _ I h) (λ v s1 ⟨x,H1,I1,r1,q1⟩=>wpAny_execs_nil ⟨rfl,H1,I1,q1⟩) λ v s1 hx=>hx) I.quiet hs)
end
def zG (K:C3) (i:Nat) (CE:Addr) (tx:TXS) (ts:Addr->TS):TS:=λ D σ H=>tx σ H (λ H1=>D.nx σ H1) (λ c _ H1=>PySem.W.exmOne K c (.ref CE)=some true/\∀ea,H1 ea=none ->
 ts ea { nx:=λ σ2 H2=>D.nx (σ2.set i none) H2,rt:=D.rt,bk:=λ σ2 H2=>D.bk (σ2.set i none) H2,ct:=λ σ2 H2=>D.ct (σ2.set i none) H2 } (σ.set i (some (.ref ea))) (upd H1 ea (.ext (IsA ea c))))
section
variable {X:Cx} {body:List Stmt} {tx:TXS} {ts:Addr->TS} {i:Nat} {n y:Str} {CE:Addr} {b₀:Stmt} {suite:List Stmt} {np hpos epos pos:Pos}
theorem sI (hst:X.stack=X.env :: X.outer) (hfr:X.env.frame=some X.env.locals) (hex:X.ex=[]) (he:PSx X body tx) (hN:X.N.Nodup) (hi:X.N[i]? = some n) (hk:X.env.scope.names.lookup n=some .local) (hg:Gl X y) (hm:X.mg y=some (.ref CE))
  (hsu:∀ea,PSs (X.marked ea) (b₀ :: suite) (ts ea)) (hd:(y == ("__debug__" : Str))=false:=by decide) :
  PS X (.Try body [.ExceptHandler (some (.Name y np)) (some n) (b₀ :: suite) hpos] [] [] pos) (zG X.K i CE tx ts):=by
 intro pins s σ H D I h;refine wpAny_Try_except (wpAny_mono (he pins s σ H _ _ I h) (λ fl s1 ⟨e1,H1,I1,q1⟩=>?_) λ v s1 hx=>?_)
 ·subst e1;exact wpAny_execs_nil ⟨σ,H1,I1,q1⟩
 obtain ⟨ea,c,H0,H',B,s0,rfl,I0,f,hm1,q⟩:=hx;obtain ⟨a0,fl⟩:=f.fly;rw [hst] at fl;refine iD (by rw [<- hst]; exact I.ok.frames) hfr fl f.ctx λ h4 held4 sm4 q4=>?_;refine vh held4 q4 λ h5 fl5 sm5 q5=>?_;have I5:Inv X pins σ H' { s1 with heap:=h5 }:=f.inv (t:=s1.toks) I0 fl5.1 (sm4.trans sm5);obtain ⟨ob,hob,hobc⟩:=fl5.there;refine wpAny_handleBy_cons (codeAny_handlers_test (df (X:=X.marked ea) (I5.mark ea) hg hm ?_ hd)) (by intro q; cases q);have LT:PySem.W.Looks (model X.prog X.w) h5 (typeOf (.ref ea)) c:=hobc ▸ (PySem.W.Looks.ld hob).andThen .now;refine (PySem.W.exm_one (M:=model X.prog X.w) I5.kIn LT hm1).here ?_;show codeAny _ _ _ _ _;refine codeAny_handlers_suite_as ?_;refine jl fl5 q5 λ h6 fl6 sm6 q6=>?_;have I6:Inv X pins σ H' { s1 with heap:=h6 }:=f.inv (t:=s1.toks) I0 fl6.1 ((sm4.trans sm5).trans sm6);have I7:Inv X pins σ (upd H' ea (.ext (IsA ea c))) { s1 with heap:=h6 }:=by
  refine I6.track2 f.new.2 (λ z=>?_) ?_ (λ x c' e z=>?_) (λ p hp z=>?_) (IsA.obj (IsA.of fl6.there q6))
  ·obtain ⟨m,⟨o,_,_,ho,_⟩,_⟩:=I0.loc;have:=f.new.1;rw [z,ho] at this; cases this
  ·cases q':X.s₀.heap.get? ea with
   | none=>rfl
   | some o =>
    obtain ⟨o',e1⟩:=I0.base.there ea o q' (by rw [hex]; simp);have:=f.new.1;rw [e1] at this; cases this
  ·obtain ⟨v,o,ho,_⟩:=I0.cell x c' e;have:=f.new.1;rw [<- z,ho] at this; cases this
  ·have:=(I0.pin p hp).1;rw [z,f.new.1] at this; cases this
 refine cz (X:=X.marked ea) (I7.mark ea) hN hi (.inl hk) (v:=.ref ea) rfl (λ s7 I8=>?_) (.inr hk);refine wpAny_mono (hsu ea pins s7 _ _ _ I8 (q ea f.new.2)) (λ fl s8 hq=>?_) λ _ _ z=>E4 z;cases fl with
 | next =>
  obtain ⟨σ',H'',J,q'⟩:=hq;exact ez (J.unmark I.ok) hN hi hk λ s9 J9=>⟨_,_,J9,q'⟩
 | brk =>
  obtain ⟨σ',H'',J,q'⟩:=hq;exact ez (J.unmark I.ok) hN hi hk λ s9 J9=>⟨_,_,J9,q'⟩
 | cont =>
  obtain ⟨σ',H'',J,q'⟩:=hq;exact ez (J.unmark I.ok) hN hi hk λ s9 J9=>⟨_,_,J9,q'⟩
 | ret u =>
  obtain ⟨v,σ',H'',J,r,q'⟩:=hq;exact ez (J.unmark I.ok) hN hi hk λ s9 J9=>⟨_,_,_,J9,r,q'⟩
end
section
variable {M:Model} {A:Around} {E:G7->G3->Prop} {s:G3} {base:Heap} {env:Env} {outer:List Env} {L e:Addr} {cls a0:G7} {Q:Unit->G3->Prop}
theorem vp (hfr:A.frames=some (env :: outer)) (hf:env.frame=some L) (f:Heap.FlyingW base (env :: outer) e cls a0 s.heap) (q:Q2 e s.heap):wpAny M A (leaving env (.ref e)) (λ _ s'=>Q2 e s'.heap) E s:=by unfold leaving;exact A0 (iD hfr hf f q λ h4 held4 sm4 q4=>jj held4.2.2.2 q4)
theorem lg (hfr:A.frames=some (env :: outer)) (hf:env.frame=some L) (f:Heap.FlyingW base (env :: outer) e cls a0 s.heap) (q:Q2 e s.heap)
  (hQ:∀h',Heap.FlyingW base outer e cls a0 h'->s.heap.UpToSlots h'->Q2 e h'->Q () { s with heap:=h' }):wpAny M A (leaving env (.ref e)) Q E s :=
 wpAny_mono (cC (vp (E:=E) hfr hf f q) (wpAny_leaves_onW (Q:=λ _ s'=>Q2 e s'.heap->Q () s') (E:=E) hfr hf f λ h' a b q=>hQ h' a b q)) (λ _ _ z=>z.2 z.1) λ _ _ z=>z.1
end
section
variable {P:G4} {w:G6} {K:C3} {mg:Str->Option G7} {base:Heap} {N:List Str} {qual:Str} {scope:Scope} {f:Addr} {cd:G7} {A:Around} {outer:List Env} {s₀:G3} {H₀:Hp} {E:XK}
theorem sJ {pins:List (Addr×Obj)} {σ:St} {v:G7} {s1:G3} (hx:XP (eG (CXx P w) P w K mg base N qual scope f cd A outer s₀ H₀ E) pins σ E v s1):(eG (CXx P w) P w K mg base N qual scope f cd A outer s₀ H₀ E).xe v s1:=by
 obtain ⟨ea,C,H0,H',B,s0,rfl,I0,fl,q⟩:=hx;obtain ⟨a0,fw⟩:=fl.fly;have I0':=I0;show wpAny (model P w) (A.deeper (envOfC qual scope s₀.heap.objs.size f cd)) (leaving (envOfC qual scope s₀.heap.objs.size f cd) (.ref ea)) _ _ s1;refine lg I0.ok.frames rfl fw fl.ctx λ h' fw' sm q2=>⟨ea,C,H',B,O,?_,q⟩
 have J:Inv (eG (CXx P w) P w K mg base N qual scope f cd A outer s₀ H₀ E) pins σ H' { s1 with heap:=h' }:=fl.inv (t:=s1.toks) I0 fw'.1 sm;have newE:s₀.heap.get? ea=none:=by
  cases z:s₀.heap.get? ea with
  | none=>rfl
  | some o =>
   obtain ⟨o',e1⟩:=I0.base.there ea o z (by show ea∉([]:List Addr); simp);have:=fl.new.1;rw [e1] at this; cases this
 refine ⟨J.os,J.bare,J.base,J.hok,⟨a0,fw'⟩,q2,λ b o nb hh e=>?_,⟨newE,fl.new.2⟩⟩;have nbs:b∉frs (envOfC qual scope s₀.heap.objs.size f cd :: outer):=λ z=>by
  have z':b=s₀.heap.objs.size\/b∈frs outer:=by unfold frs at z ⊢;rw [List.filterMap_cons] at z;exact List.mem_cons.mp z
  rcases z' with z | z
  ·subst z;rcases hh with hh | ⟨o',hh⟩
   ·exact hh J.free
   ·exact absurd (A8 hh) (C7 _)
  ·exact nb z
 have key:∃o1,s1.heap.get? b=some o1/\(H' b≠none\/∃o',s0.heap.get? b=some o'):=by
  rcases hh with hh | ⟨o',hh⟩
  ·cases z:H' b with
   | none=>exact absurd z hh
   | some u =>
    obtain ⟨ob,eb⟩:=(fl.hok b u z).ex;exact ⟨ob,eb,.inl (by rw [<- z] at *; exact hh)⟩
  ·obtain ⟨o1,e1⟩:=I0.base.there b o' hh (by show b∉([]:List Addr); simp);obtain ⟨o2,e2⟩:=fl.un.there b o1 e1 (by simp);exact ⟨o2,e2,.inr ⟨o1,e1⟩⟩
 obtain ⟨o1,e1,hh'⟩:=key;have eB:=fl.cov b o1 nbs hh' e1;have:=fw'.1 b o1 eB;rw [e] at this;cases this;exact eB
end
end L2
namespace PySem
section
variable {prog:G4} {w:G6} {A:Around} {E:G7->G3->Prop} {s:G3}
structure ZipApart3 (z TI TO i1 i2 i3 l1 l2 l3:Addr):Prop where
 TIz:TI≠z
 TOz:TO≠z
 i1z:i1≠z
 i2z:i2≠z
 i3z:i3≠z
 TITO:TI≠TO
 TIi1:TI≠i1
 TOi1:TO≠i1
 TIi2:TI≠i2
 TOi2:TO≠i2
 TIi3:TI≠i3
 TOi3:TO≠i3
 i12:i1≠i2
 i13:i1≠i3
 i23:i2≠i3
 l1z:l1≠z
 l1TO:l1≠TO
 l1i1:l1≠i1
 l1i2:l1≠i2
 l1i3:l1≠i3
 l2z:l2≠z
 l2TO:l2≠TO
 l2i1:l2≠i1
 l2i2:l2≠i2
 l2i3:l2≠i3
 l3z:l3≠z
 l3TO:l3≠TO
 l3i1:l3≠i1
 l3i2:l3≠i2
 l3i3:l3≠i3
end
end PySem
namespace L2
open PySem PySem.Spec PyProof.Rows
theorem sK {X:Cx}:OpR X (compareOp .IsNot) (λ x y H Q=>y=.bl false/\∃b,x=.bl b/\Q (.bl b) H):=by
 intro pins s σ H x y v u Q I rx ry h;obtain ⟨rfl,b,rfl,q⟩:=h;cases ry;cases rx;unfold compareOp isSame;cases b
 ·exact A0 (A1 (A1 (aR I q rfl)))
 ·exact A0 (A1 (A1 (aR I q rfl)))
end L2
namespace HT
open PySem PySem.Spec PyProof.Rows
section
variable {prog:G4} {w:G6} {A:Around} {E:G7->G3->Prop} {s:G3}
theorem lh (n:Nat):Builtin.Slice.sliceAdjust none none (-1) (n:Int)=((n:Int) - 1,-1):=rfl
theorem li (n:Nat):Builtin.Slice.slicePlaces ((n:Int) - 1) (-1) (-1)=n:=by
 unfold Builtin.Slice.slicePlaces;rw [if_neg (by decide)];have e:(-(-1):Int)=1:=by decide
 rw [e,Int.ediv_one]
 split <;> omega
theorem qw (xs:Array G7):((List.range xs.size).filterMap λ (m:Nat)=>xs[(((xs.size:Int) - 1) + (m:Int) * (-1)).toNat]?).toArray=xs.toList.reverse.toArray:=by
 have e1:((List.range xs.size).filterMap λ (m:Nat)=>xs[(((xs.size:Int) - 1) + (m:Int) * (-1)).toNat]?)=(List.range xs.size).filterMap λ m=>xs[xs.size - 1 - m]? := by
  congr 1
  funext m
  have:(((xs.size:Int) - 1) + (m:Int) * (-1)).toNat=xs.size - 1 - m:=by omega
  rw [this]
 rw [e1];have e2:=PySem.W.krv_range xs.size;have e3:((List.range xs.size).filterMap λ m=>xs[xs.size - 1 - m]?)=((List.range xs.size).map λ k=>xs.size - 1 - k).filterMap (xs[·]?):=by rw [List.filterMap_map]; rfl
 rw [e3,e2,List.filterMap_reverse,PySem.W.krv_all]
theorem fQ {sl:Addr} {u:Tok} {n:Nat} {Q:Int×Int×Nat->G3->Prop} (hs:s.heap.IsSliceOf sl .none .none (.int (-1) u)) (h:Q ((n:Int) - 1,-1,n) s):wpAny (model prog w) A (Builtin.Slice.sliceApplied (.ref sl) (pure (n:Int))) Q E s:=by obtain ⟨os,hos,hcs,hds⟩:=id hs;unfold Builtin.Slice.sliceApplied Builtin.Slice.sliceFields;refine A0 (A0 (wpAny_field hos hds (x:=.none) rfl (A0 (wpAny_field hos hds (x:=.none) rfl (A0 (wpAny_field hos hds (x:=.int (-1) u) rfl (A1 ?_)))))));refine A0 (slicePart_int ?_);show wpAny _ _ (if ((-1:Int) == 0)=true then _ else _) _ _ s;rw [if_neg (by decide)];refine A0 (slicePart_none (A0 (slicePart_none (A0 (A1 ?_)))));show wpAny _ _ (match Builtin.Slice.sliceAdjust none none (-1) (n:Int) with | (lo,hi)=>pure (lo,(-1:Int),Builtin.Slice.slicePlaces lo hi (-1))) _ _ s;rw [lh n];show wpAny _ _ (pure ((n:Int) - 1,(-1:Int),Builtin.Slice.slicePlaces ((n:Int) - 1) (-1) (-1))) _ _ s;rw [li];exact A1 h
theorem getItem_tuple_rev {t sl:Addr} {items:Array G7} {u:Tok} {Q:G7->G3->Prop} (ht:IsTup s.heap t items) (hs:s.heap.IsSliceOf sl .none .none (.int (-1) u))
  (h:Q (.ref s.heap.objs.size) { s with heap:=s.heap.push { cls:=.type "tuple",data:=.seq items.toList.reverse.toArray } })
  (hsz:items.size<=sizeLine):wpAny (model prog w) A (getItem (.ref t) (.ref sl)) Q E s:=by
 have htake:sizeOk (.seq items.toList.reverse.toArray):=by show items.toList.reverse.toArray.size<=sizeLine;rw [List.size_toArray,List.length_reverse,Array.length_toList];exact hsz
 obtain ⟨os,hos,hcs,hds⟩:=id hs;have hTs:s.TypeIs (.ref sl) "slice" := ⟨os,hos,hcs⟩
 unfold getItem
 try with_reducible refine wpAny_holding ?_
 first | refine A0 (A1 ?_) | skip
 refine A0 (wpAny_sequenceKey ht.typeIs (by decide) ?_);refine A0 (wpAny_callSpecial?_slot (name:=Str.ofString "__getitem__") ht.typeIs PyProof.Rows.slot_tuple_getitem
  (G0 PyProof.Rows.slot_tuple_getitem ht.typeIs entry_tuple_getitem ?_ (args_tuple_getitem _ _)))
 show wpAny _ _ (Builtin.Tuple.tupleItemsOf (.ref t) >>= _) _ _ s;refine A0 (tupleItemsOf_ ht ?_);refine A0 (wpAny_typeOf hTs ?_);rw [if_pos (by decide)];refine A0 (fQ hs ?_);have hno:¬ ((((items.size:Int) - 1) == 0 && (-1:Int) == 1 && items.size == items.size)=true):=by intro q;rw [Bool.and_eq_true,Bool.and_eq_true] at q;exact absurd q.1.2 (by decide)
 show wpAny _ _ (if (((items.size:Int) - 1) == 0 && (-1:Int) == 1 && items.size == items.size)=true then _ else _) _ _ s;rw [if_neg hno,qw]
 first
  | exact A0 (m:=Builtin.Tuple.tupleExact _) (G1 (A1 ⟨_,rfl,A1 h⟩) htake)
  | exact A0 (m:=Builtin.Tuple.tupleExact _) (G1 (A0 (A1 (A1 ⟨_,rfl,A1 h⟩))) htake)
  | exact A0 (A0 (m:=Builtin.Tuple.tupleExact _) (G1 (A1 (A1 ⟨_,rfl,A1 h⟩)) htake))
  | exact A0 (A0 (m:=Builtin.Tuple.tupleExact _) (G1 (A1 ⟨_,rfl,A1 h⟩) htake))
end
end HT
namespace L2
open PySem PySem.Spec PyProof.Rows
section
variable {X:Cx} {e k:Expr} {te tk:TE} {pos p2:Pos}
theorem lj:SlR X (λ x lo hi H Q=>∃z,x=.str z/\z.length<=sizeLine/\Q (.str (Txt.slice z lo hi)) H):=by
 intro pins s σ H x v vl vu lo hi sl Q I rx hs pl pu h;obtain ⟨z,rfl,hz,q⟩:=h;obtain ⟨t,rfl⟩:=rx;refine ⟨"str",_,F.slot_str_getitem.lookup,typeIs_str _ _ _,?_⟩;cases pl with
 | none=>cases pu with
  | none=>exact wpAny_getItem_str_slice (l:=none) (u:=none) (st:=none) hs rfl (post_val_or_str ⟨C4 (Txt.slice_le z none none) hz,λ t' k=>⟨.str _,H,I.tok k,⟨_,rfl⟩,q⟩⟩)
  | int j tj=>exact wpAny_getItem_str_slice (l:=none) (u:=some (j,tj)) (st:=none) hs rfl (post_val_or_str ⟨C4 (Txt.slice_le z none (some j)) hz,λ t' k=>⟨.str _,H,I.tok k,⟨_,rfl⟩,q⟩⟩)
 | int i ti=>cases pu with
  | none=>exact wpAny_getItem_str_slice (l:=some (i,ti)) (u:=none) (st:=none) hs rfl (post_val_or_str ⟨C4 (Txt.slice_le z (some i) none) hz,λ t' k=>⟨.str _,H,I.tok k,⟨_,rfl⟩,q⟩⟩)
  | int j tj=>exact wpAny_getItem_str_slice (l:=some (i,ti)) (u:=some (j,tj)) (st:=none) hs rfl (post_val_or_str ⟨C4 (Txt.slice_le z (some i) (some j)) hz,λ t' k=>⟨.str _,H,I.tok k,⟨_,rfl⟩,q⟩⟩)
def zH (K:C3) (te tk:TE):TE:=λ σ H Q=>te σ H λ x H1=>tk σ H1 λ y H2=>y=.int (-1)/\∃a xs,x=.ref a/\SqT K H2 a xs/\∀p,H2 p=none->Q (.ref p) (upd H2 p (.tup xs.reverse))
theorem sL (he:PE X e te) (hk:PE X k tk):PE X (.Subscript e (.Slice none none (some k) p2) pos) (zH X.K te tk):=by
 intro pins s σ H Q I h;refine Subscript_ (thn (he pins s σ H _ I h) λ v s1 ⟨x,H1,I1,r1,q1⟩=>?_);refine wpAny_Slice ?_;rw [evalPart_none];refine A1 ?_;refine A1 ?_;rw [evalPart_some];refine thn (hk pins s1 σ H1 _ I1 q1) λ vk s3 ⟨y,H3,I3,r3,q3⟩=>?_;obtain ⟨rfl,a,xs,rfl,hx,q⟩:=q3;cases r1;obtain ⟨u,rfl⟩:=r3;have I4:Inv X pins σ H3 { s3 with heap:=s3.heap.push { cls:=.type "slice", data:=.fields #[.none, .none, .int (-1) u] } }:=I3.kept (t':=s3.toks) λ b ob q=>A6 _ q;obtain ⟨its,r,ht,hz⟩:=I4.tuple hx;have hlen:its.toArray.size=xs.length:=by rw [List.size_toArray]; exact r.length.symm
 show wpAny (model X.prog X.w) X.A (subscriptTail e (.Slice none none (some k) p2) (.ref a) (.ref s3.heap.objs.size)) (EP X pins σ Q) X.xe { s3 with heap:=s3.heap.push { cls:=.type "slice",data:=.fields #[.none,.none,.int (-1) u] } };refine tail_any (ops:=[.ref a,.ref s3.heap.objs.size]) ht.typeIs PyProof.Rows.slot_tuple_getitem.lookup (HT.getItem_tuple_rev ht (Heap.IsSliceOf.new ..) ?_ (by rw [hlen]; exact hz)) (by with_unfolding_all rfl);refine ⟨.ref _,_,I4.laid (t':=s3.toks) (o:=.tup xs.reverse) (λ b ob q=>A6 _ q) (B2 _) ?_,O,q _ (I4.hok.fresh (B2 _))⟩;refine ⟨by rw [List.length_reverse]; exact hz,_,?_,IsTup.new _ _⟩;exact r.reverse
end
end L2
namespace PyProof.Rows
set_option autoImplicit false
open PySem
structure SBaseT (κ0:SortKind) (a₀:Array Keyed) (st:SortSt):Prop where
 perm:(arrOf st).Perm a₀
 kind:kindOf st=κ0
 failed:failedOf st=none
 pend:pendingOf st=#[]
theorem SBaseT.size {κ0:SortKind} {a₀:Array Keyed} {st:SortSt} (h:SBaseT κ0 a₀ st):(arrOf st).size=a₀.size:=h.perm.size_eq
theorem SBaseT.setArr {κ0:SortKind} {a₀:Array Keyed} {st:SortSt} (h:SBaseT κ0 a₀ st) {xs:Array Keyed} (hp:xs.Perm (arrOf st)):SBaseT κ0 a₀ (setArr st xs) :=
 ⟨hp.trans h.perm,h.kind,h.failed,h.pend⟩
theorem SBaseT.atK {κ:KeyKind} {κ0:SortKind} {a₀:Array Keyed} {st:SortSt} (h:SBaseT κ0 a₀ st) (h0:KeysOf κ a₀) {i:Nat} (hi:i < a₀.size) :
  ∃x p a,(arrOf st)[i]? = some (x,p)/\κ.keyOf x=some a/\KK κ (arrOf st) i=a:=by
 have hi':i < (arrOf st).size:=by rw [h.size]; exact hi
 have hm:(arrOf st)[i]∈a₀.toList:=(Array.perm_iff_toList_perm.mp h.perm).mem_iff.mp (by simp);obtain ⟨a,ha⟩:=h0 _ hm;have e:(arrOf st)[i]? = some (arrOf st)[i]:=getElem?_pos _ i hi';refine ⟨(arrOf st)[i].1,(arrOf st)[i].2,a,by rw [e],ha,?_⟩;unfold KK; rw [e]; simp [ha]
def cg (prog:G4) (w:G6) (A:Around) (s:G3) (κ0:SortKind) (κ:KeyKind):Prop :=
 ∀ (E:G7->G3->Prop) (x y:G7) (a b:κ.α) (Q:Bool->G3->Prop),κ.keyOf x=some a->κ.keyOf y=some b->Q (κ.blt a b) s->wpAny (model prog w) A (keyLt' κ0 x y) Q E s
section
variable {prog:G4} {w:G6} {A:Around} {E:G7->G3->Prop} {s:G3} {a₀:Array Keyed} {κ:KeyKind} {κ0:SortKind}
theorem lm (hO:cg prog w A s κ0 κ) {st:SortSt} {i j:Nat} {x y:G7} {a b:κ.α} {p q:G7} {Q:Option Bool->SortSt->Prop} (hk:kindOf st=κ0)
  (hi:(arrOf st)[i]? = some (x,p)) (hj:(arrOf st)[j]? = some (y,q)) (ha:κ.keyOf x=some a) (hb:κ.keyOf y=some b) (h:Q (some (κ.blt a b)) st) :
  wpS (model prog w) A E s (ltAt' i j) Q st:=by
 rw [ltAt'_eq];refine A2 (wpS_get ?_);show wpS _ _ _ _ (do let x<-elem' (arrOf st) i; let y<-elem' (arrOf st) j; lt' x y) Q st;rw [elem'_eq,elem'_eq,hi,hj];refine A2 (A3 (A2 (A3 ?_)));rw [lt'_eq];refine A2 (wpS_get ?_);rw [hk];refine A2 (wpS_lift (wpAny_attempt (hO _ x y a b _ ha hb ⟨rfl,?_⟩)));exact A3 h
theorem cS {st:SortSt} {i j:Nat} {Q:Option Bool->SortSt->Prop} (hO:cg prog w A s κ0 κ) (hB:SBaseT κ0 a₀ st) (h0:KeysOf κ a₀) (hi:i < a₀.size) (hj:j < a₀.size)
  (h:Q (some (κ.blt (KK κ (arrOf st) i) (KK κ (arrOf st) j))) st):wpS (model prog w) A E s (ltAt' i j) Q st:=by
 obtain ⟨x,p,a,e1,ha,ka⟩:=hB.atK h0 hi;obtain ⟨y,q,b,e2,hb,kb⟩:=hB.atK h0 hj;rw [ka,kb] at h;exact lm hO hB.kind e1 e2 ha hb h
theorem fR {st:SortSt} {n ok:Nat} {Q:Bool->SortSt->Prop} (hO:cg prog w A s κ0 κ) (h0:KeysOf κ a₀) (hn:n<=a₀.size) (hok:ok<=n) (hB:SBaseT κ0 a₀ st) (hs:SortedToK κ (arrOf st) ok)
  (h:∀st',SBaseT κ0 a₀ st'->SortedToK κ (arrOf st') n->Q true st'):wpS (model prog w) A E s (binarySort' 0 n ok) Q st:=by
 rw [binarySort'_eq];simp only [Nat.zero_add];refine A2 (wpS_mono (wpS_forRange (I:=λ k c st'=>c=(none,())/\SBaseT κ0 a₀ st'/\SortedToK κ (arrOf st') (min k n))
  (Q:=λ c st'=>c=(none,())/\SBaseT κ0 a₀ st'/\SortedToK κ (arrOf st') n) ?step ?fin ?init) ?post)
 case post =>
  rintro c st' ⟨rfl,hB',hs'⟩;exact A3 (h st' hB' hs')
 case init =>
  refine ⟨O,hB,λ i j hij hj=>?_⟩
  by_cases h1:ok=0
  ·have:i=j:=by omega
   subst this; exact KeyOrd.kle_refl _
  ·exact hs i j hij (by omega)
 case fin =>
  rintro c st' ⟨hc,hB',hs'⟩;refine ⟨hc,hB',?_⟩;rwa [show min (max (max ok 1) n) n=n by omega] at hs'
 case step =>
  rintro k c st' hak hkn ⟨rfl,hB',hs'⟩;rw [show min k n=k by omega] at hs';have hk:k < a₀.size:=by omega
  refine A2 (wpS_mono (wpS_forRange (I:=λ x c st''=>st''=st'/\∃l r,c=(none,l,r)/\l<=r/\r<=k/\r - l<=k - x /\
    (∀i,i < l->κ.kle (KK κ (arrOf st') i) (KK κ (arrOf st') k))/\(∀i,r<=i->i < k->κ.klt (KK κ (arrOf st') k) (KK κ (arrOf st') i)))
   (Q:=λ c st''=>st''=st'/\∃l r,c=(none,l,r)/\l<=k /\
    (∀i,i < l->κ.kle (KK κ (arrOf st') i) (KK κ (arrOf st') k))/\(∀i,l<=i->i < k->κ.klt (KK κ (arrOf st') k) (KK κ (arrOf st') i))) ?istep ?ifin ?iinit) ?ipost)
  case iinit=>exact ⟨O,0,k,O,by omega,by omega,by omega,λ i hi=>by omega,λ i h1 h2=>by omega⟩
  case ifin =>
   rintro c st'' ⟨rfl,l,r,rfl,hlr,hrk,hm,hlo,hhi⟩;have:l=r:=by omega
   subst this;exact ⟨O,l,l,O,hrk,hlo,hhi⟩
  case istep =>
   rintro x c st'' _ hxk ⟨rfl,l,r,rfl,hlr,hrk,hm,hlo,hhi⟩;dsimp only
   by_cases hge:l≥r
   ·rw [if_pos hge];have:l=r:=by omega
    subst this;exact A3 ⟨rfl,l,l,rfl,hrk,hlo,hhi⟩
   ·rw [if_neg hge];refine A2 (cS hO hB' h0 hk (by omega) ?_);cases hless:κ.blt (KK κ (arrOf st'') k) (KK κ (arrOf st'') ((l + r) / 2))
    case true =>
     simp only [if_true];refine A3 ⟨rfl,l,(l + r) / 2,rfl,by omega,by omega,by omega,hlo,λ i h1 h2=>?_⟩;exact KeyOrd.klt_of_klt_of_kle hless (hs' _ _ h1 h2)
    case false =>
     simp only [Bool.false_eq_true,if_false];refine A3 ⟨rfl,(l + r) / 2 + 1,r,rfl,by omega,by omega,by omega,λ i h1=>?_,hhi⟩;exact KeyOrd.kle_trans (hs' i ((l + r) / 2) (by omega) (by omega)) (show κ.kle _ _ from hless)
  case ipost =>
   rintro c st'' ⟨rfl,l,r,rfl,hlk,hlo,hhi⟩;show wpS _ _ _ _ (do moveDown' k l; pure (ForInStep.yield (none,()))) _ _;rw [moveDown'_eq];refine A2 (wpS_modify (A3 ⟨rfl,hB'.setArr (bubble_perm _ _ _),?_⟩));rw [show min (k + 1) n=k + 1 by omega];have hks:k < (arrOf st'').size:=by rw [hB'.size]; exact hk
   intro i j hij hj;show κ.kle (KK κ (bubble (arrOf st'') k (k - l)) i) (KK κ (bubble (arrOf st'') k (k - l)) j);rw [KK_bubble hks (by omega),KK_bubble hks (by omega),show k - (k - l)=l by omega]
   repeat' split
   all_goals first
    | (exfalso; omega)
    | exact KeyOrd.kle_refl _
    | exact hlo _ (by omega)
    | exact KeyOrd.kle_of_klt (hhi _ (by omega) (by omega))
    | exact hs' _ _ (by omega) (by omega)
theorem eK {st:SortSt} {a nrem:Nat} {Q:AscSt->SortSt->Prop} (hO:cg prog w A s κ0 κ) (h0:KeysOf κ a₀) (hn:nrem<=a₀.size) (ha:1<=a) (han:a<=nrem) (hB:SBaseT κ0 a₀ st)
  (hs:SortedToK κ (arrOf st) a)
  (h:∀n,a<=n->n<=nrem->SortedToK κ (arrOf st) n->(n=nrem\/κ.klt (KK κ (arrOf st) n) (KK κ (arrOf st) (n - 1)))->Q (none,n) st) :
  wpS (model prog w) A E s (ascLoop a nrem) Q st:=by
 unfold ascLoop;refine wpS_forRange (I:=λ x c st'=>st'=st/\c=(none,x)/\SortedToK κ (arrOf st) x) ?step ?fin ⟨rfl,rfl,hs⟩
 case fin =>
  rintro c st' ⟨rfl,rfl,hs'⟩;rw [show max a nrem=nrem by omega] at hs' ⊢;exact h nrem han (B2 _) hs' (.inl rfl)
 case step =>
  rintro x c st' hax hxn ⟨rfl,rfl,hs'⟩;dsimp only;refine A2 (cS hO hB h0 (by omega) (by omega) ?_);cases hless:κ.blt (KK κ (arrOf st') x) (KK κ (arrOf st') (x - 1))
  case true =>
   simp only [if_true];exact A3 (h x hax (by omega) hs' (.inr hless))
  case false =>
   simp only [Bool.false_eq_true,if_false];refine A3 ⟨rfl,rfl,λ i j hij hj=>?_⟩
   by_cases hjx:j < x
   ·exact hs' i j hij hjx
   ·have hj':j=x:=by omega
    subst hj'
    by_cases hi':i=j
    ·subst hi'; exact KeyOrd.kle_refl _
    ·exact KeyOrd.kle_trans (hs' i (j - 1) (by omega) (by omega)) hless
theorem fZ {st:SortSt} {n nrem:Nat} {Q:Option Nat->SortSt->Prop} (hO:cg prog w A s κ0 κ) (h0:KeysOf κ a₀) (hn:nrem<=a₀.size) (h1:1<=n) (hnn:n<=nrem) (hB:SBaseT κ0 a₀ st)
  (hs:NonIncK κ (arrOf st) n) (h:∀m st',SBaseT κ0 a₀ st'->1<=m->m<=nrem->SortedToK κ (arrOf st') m->Q (some m) st') :
  wpS (model prog w) A E s (tail3 n nrem) Q st:=by
 unfold tail3;have hsz:n<=(arrOf st).size:=by rw [hB.size]; omega
 refine A2 (wpS_reverse ?_);have hB':SBaseT κ0 a₀ (setArr st (mirror (arrOf st) 0 n ((n - 0) / 2))):=hB.setArr (mirror_perm _ _ _ _);refine A2 (eK hO h0 hn h1 hnn hB' ?_ λ m hm1 hm2 hsm _=>A3 (h m _ hB' (by omega) hm2 hsm));intro i j hij hj;show κ.kle (KK κ (mirror (arrOf st) 0 n ((n - 0) / 2)) i) (KK κ (mirror (arrOf st) 0 n ((n - 0) / 2)) j);rw [KK_mirror hsz,KK_mirror hsz,if_pos (by omega),if_pos (by omega)];exact hs _ _ (by omega) (by omega)
theorem gW {st:SortSt} {n nrem:Nat} {Q:DescSt->SortSt->Prop} (hO:cg prog w A s κ0 κ) (h0:KeysOf κ a₀) (hn:nrem<=a₀.size) (h1:1<=n) (hnn:n<=nrem) (hB:SBaseT κ0 a₀ st)
  (hs:NonIncK κ (arrOf st) n)
  (h:∀m neq st',SBaseT κ0 a₀ st'->n<=m->m<=nrem->NonIncK κ (arrOf st') m->neq + 1<=m->(∀i,m - (neq + 1)<=i->i < m->KK κ (arrOf st') i=KK κ (arrOf st') (m - 1))->Q (none,m,neq) st') :
  wpS (model prog w) A E s (descLoop n nrem) Q st:=by
 unfold descLoop;refine wpS_forRange (I:=λ x c st'=>∃neq,c=(none,x,neq)/\SBaseT κ0 a₀ st'/\NonIncK κ (arrOf st') x/\neq + 1<=x /\
   (∀i,x - (neq + 1)<=i->i < x->KK κ (arrOf st') i=KK κ (arrOf st') (x - 1))) ?step ?fin ⟨0,rfl,hB,hs,by omega,λ i h1 h2=>by congr 1; omega⟩
 case fin =>
  rintro c st' ⟨neq,rfl,hB',hs',hq,he⟩;rw [show max n nrem=nrem by omega] at hs' hq he ⊢;exact h nrem neq st' hB' hnn (B2 _) hs' hq he
 case step =>
  rintro x c st' hax hxn ⟨neq,rfl,hB',hs',hq,he⟩;dsimp only;have hsz:x<=(arrOf st').size:=by rw [hB'.size]; omega
  refine A2 (cS hO hB' h0 (by omega) (by omega) ?_);cases hless:κ.blt (KK κ (arrOf st') x) (KK κ (arrOf st') (x - 1))
  case true =>
   simp only [if_true];have step1:∀xs:Array Keyed,(∀k,KK κ xs k=KK κ (arrOf st') k)->NonIncK κ xs (x + 1):=by
    intro xs hk i j hij hj;rw [hk,hk]
    by_cases hjx:j < x
    ·exact hs' i j hij hjx
    ·have hj':j=x:=by omega
     subst hj'
     by_cases hi':i=j
     ·subst hi'; exact KeyOrd.kle_refl _
     ·exact KeyOrd.kle_trans (KeyOrd.kle_of_klt hless) (hs' i (j - 1) (by omega) (by omega))
   by_cases hneq:neq > 0
   ·rw [if_pos hneq];refine A2 (wpS_reverse (A3 ⟨0,rfl,hB'.setArr (mirror_perm _ _ _ _),step1 _ (KK_mirror_equal hsz he),by omega,λ i h1 h2=>by congr 1; omega⟩))
   ·rw [if_neg hneq];exact A3 ⟨0,rfl,hB',step1 _ (λ _=>rfl),by omega,λ i h1 h2=>by congr 1; omega⟩
  case false =>
   simp only [Bool.false_eq_true,if_false];refine A2 (cS hO hB' h0 (by omega) (by omega) ?_);cases hlarger:κ.blt (KK κ (arrOf st') (x - 1)) (KK κ (arrOf st') x)
   case true =>
    simp only [if_true];exact A3 (h x neq st' hB' hax (by omega) hs' hq he)
   case false =>
    simp only [Bool.false_eq_true,if_false];have heqx:KK κ (arrOf st') x=KK κ (arrOf st') (x - 1):=KeyOrd.kle_antisymm hlarger hless;refine A3 ⟨neq + 1,rfl,hB',λ i j hij hj=>?_,by omega,λ i h1 h2=>?_⟩
    ·by_cases hjx:j < x
     ·exact hs' i j hij hjx
     ·have hj':j=x:=by omega
      subst hj'
      by_cases hi':i=j
      ·subst hi'; exact KeyOrd.kle_refl _
      ·rw [heqx]; exact hs' i (j - 1) (by omega) (by omega)
    ·rw [show x + 1 - 1=x by omega]
     by_cases hix:i=x
     ·subst hix; rfl
     ·rw [heqx]; exact he i (by omega) (by omega)
theorem dU {st:SortSt} {n nrem:Nat} {Q:Option Nat->SortSt->Prop} (hO:cg prog w A s κ0 κ) (h0:KeysOf κ a₀) (hn:nrem<=a₀.size) (hnn:n + 1<=nrem) (hB:SBaseT κ0 a₀ st)
  (hs:NonIncK κ (arrOf st) (n + 1)) (h:∀m st',SBaseT κ0 a₀ st'->1<=m->m<=nrem->SortedToK κ (arrOf st') m->Q (some m) st') :
  wpS (model prog w) A E s (descPart n nrem) Q st:=by
 unfold descPart;refine A2 (wpS_lift (wpAny_rule ⟨rfl,?_⟩));refine A2 (gW hO h0 hn (by omega) hnn hB hs λ m neq st' hB' hm1 hm2 hs' hq he=>?_);dsimp only;have hsz:m<=(arrOf st').size:=by rw [hB'.size]; omega
 by_cases hneq:neq > 0
 ·rw [if_pos hneq];refine A2 (wpS_reverse (fZ hO h0 hn (by omega) hm2 (hB'.setArr (mirror_perm _ _ _ _)) ?_ h));intro i j hij hj;show κ.kle (KK κ (mirror (arrOf st') _ _ _) j) (KK κ (mirror (arrOf st') _ _ _) i);rw [KK_mirror_equal hsz he,KK_mirror_equal hsz he];exact hs' i j hij hj
 ·rw [if_neg hneq];exact fZ hO h0 hn (by omega) hm2 hB' hs' h
theorem gX {st:SortSt} {nrem:Nat} {Q:Option Nat->SortSt->Prop} (hO:cg prog w A s κ0 κ) (h0:KeysOf κ a₀) (hn:nrem<=a₀.size) (h1:1<=nrem) (hB:SBaseT κ0 a₀ st)
  (h:∀m st',SBaseT κ0 a₀ st'->1<=m->m<=nrem->SortedToK κ (arrOf st') m->Q (some m) st') :
  wpS (model prog w) A E s (countRun' 0 nrem) Q st:=by
 rw [countRun0_eq];refine A2 (eK hO h0 hn (B2 1) h1 hB (λ i j hij hj=>by have:i=j:=(by omega); subst this; exact KeyOrd.kle_refl _) λ n hn1 hn2 hsn hor=>?_);dsimp only
 by_cases hnn:n=nrem
 ·rw [if_pos (by simpa using hnn)];exact A3 (h n st hB hn1 hn2 hsn)
 ·rw [if_neg (by simpa using hnn)];have hlt:κ.klt (KK κ (arrOf st) n) (KK κ (arrOf st) (n - 1)):=hor.resolve_left hnn
  by_cases hgt:n > 1
  ·rw [if_pos hgt];refine A2 (cS hO hB h0 (by omega) (by omega) ?_);cases hrose:κ.blt (KK κ (arrOf st) 0) (KK κ (arrOf st) (n - 1))
   case true =>
    simp only [if_true];exact A3 (h n st hB hn1 hn2 hsn)
   case false =>
    simp only [Bool.false_eq_true,if_false];have hsz:n<=(arrOf st).size:=by rw [hB.size]; omega
    have hall:∀k,0<=k->k < n->KK κ (arrOf st) k=KK κ (arrOf st) (n - 1):=by intro k _ hk;have a1:=hsn 0 k (by omega) hk;have a2:=hsn k (n - 1) (by omega) (by omega);exact KeyOrd.kle_antisymm a2 (KeyOrd.kle_trans hrose a1)
    refine A2 (wpS_reverse (dU hO h0 hn (by omega) (hB.setArr (mirror_perm _ _ _ _)) ?_ h));intro i j hij hj;show κ.kle (KK κ (mirror (arrOf st) _ _ _) j) (KK κ (mirror (arrOf st) _ _ _) i);rw [KK_mirror_equal hsz hall,KK_mirror_equal hsz hall]
    by_cases hjn:j < n
    ·rw [hall i (by omega) (by omega),hall j (by omega) hjn]; exact KeyOrd.kle_refl _
    ·have hj':j=n:=by omega
     subst hj'
     by_cases hi':i=j
     ·subst hi'; exact KeyOrd.kle_refl _
     ·rw [hall i (by omega) (by omega)]; exact KeyOrd.kle_of_klt hlt
  ·rw [if_neg hgt];have hn1':n=1:=by omega
   subst hn1';refine dU hO h0 hn (by omega) hB ?_ h;intro i j hij hj
   by_cases hi':i=j
   ·subst hi'; exact KeyOrd.kle_refl _
   ·have hi0:i=0:=by omega
    have hj1:j=1:=by omega
    subst hi0; subst hj1;exact KeyOrd.kle_of_klt hlt
theorem SBaseT.doneK {st:SortSt} (hB:SBaseT κ0 a₀ st) (hs:SortedToK κ (arrOf st) a₀.size):SDoneK κ a₀ (setPending st ((pendingOf st).push (0,a₀.size,0))) :=
 ⟨hB.perm,hB.failed,by show (pendingOf st).push _=_; rw [hB.pend]; rfl,hs⟩
theorem gY {st:SortSt} {Q:Unit->SortSt->Prop} (hO:cg prog w A s κ0 κ) (h0:KeysOf κ a₀) (hB:SBaseT κ0 a₀ st) (h2:2<=a₀.size) (h64:a₀.size < 64)
  (h:∀st',(arrOf st').Perm a₀->failedOf st'=none->SortedToK κ (arrOf st') a₀.size->Q () st'):wpS (model prog w) A E s sortRuns' Q st:=by
 rw [sortRuns'_eq];refine A2 (wpS_get ?_);dsimp only;have hmr:minRun' a₀.size a₀.size 0=a₀.size:=by
  obtain ⟨f,hf⟩:∃f,a₀.size=f + 1:=⟨a₀.size - 1,by omega⟩
  have:minRun' (f + 1) a₀.size 0=a₀.size:=by rw [minRun'_succ,if_pos h64]; rfl
  rwa [<- hf] at this
 simp only [hB.size,hmr];refine A2 (wpS_mono (wpS_forRange
  (I:=λ x c st'=>(x=0/\c=(none,0)/\SBaseT κ0 a₀ st')\/(1<=x/\c=(none,a₀.size)/\SDoneK κ a₀ st'))
  (Q:=λ c st'=>c=(none,a₀.size)/\SDoneK κ a₀ st') ?step ?fin (.inl ⟨O,O,hB⟩)) ?post)
 case fin =>
  rintro c st' (⟨hx,_,_⟩ | ⟨_,hc,hD⟩)
  ·omega
  ·exact ⟨hc,hD⟩
 case step =>
  rintro x c st' _ hx (⟨rfl,rfl,hB'⟩ | ⟨hx1,rfl,hD⟩)
  ·dsimp only;rw [if_neg (by omega)];simp only [Nat.sub_zero,Nat.min_self,Nat.zero_add];refine A2 (gX hO h0 (B2 _) (by omega) hB' λ m st2 hB2 hm1 hm2 hs2=>?_);dsimp only
   by_cases hlt:m < a₀.size
   ·rw [if_pos hlt];refine A2 (wpS_lift (wpAny_rule ⟨rfl,?_⟩));refine A2 (fR hO h0 (B2 _) hm2 hB2 hs2 λ st3 hB3 hs3=>?_);simp only [Bool.not_true,Bool.false_eq_true,if_false];refine A2 (wpS_get ?_);have hb:(pendingOf st3).back? = none:=by rw [hB3.pend]; rfl
    rw [hb];dsimp only;exact A2 (wpS_modify (A3 (.inr ⟨by omega,O,hB3.doneK hs3⟩)))
   ·rw [if_neg hlt];have hm:m=a₀.size:=by omega
    subst hm;refine A2 (wpS_get ?_);have hb:(pendingOf st2).back? = none:=by rw [hB2.pend]; rfl
    rw [hb];dsimp only;exact A2 (wpS_modify (A3 (.inr ⟨by omega,O,hB2.doneK hs2⟩)))
  ·dsimp only;rw [if_pos (Nat.le_refl _)];exact A3 ⟨rfl,hD⟩
 case post =>
  rintro c st' ⟨rfl,hD⟩;dsimp only;refine A2 (wpS_mono (wpS_forRange (I:=λ _ c st''=>st''=st'/\c=(none,())) (Q:=λ c st''=>st''=st'/\c=(none,())) ?_ (λ _ _ hh=>hh) ⟨rfl,rfl⟩) ?_)
  ·rintro x c st'' _ _ ⟨rfl,rfl⟩;refine A2 (wpS_get ?_);rw [if_pos (by rw [hD.2.2.1]; exact Nat.le_refl 1)];exact A3 ⟨rfl,rfl⟩
  ·rintro c st'' ⟨rfl,rfl⟩;exact A3 (h _ hD.1 hD.2.1 hD.2.2.2)
end
section
variable {prog:G4} {w:G6} {A:Around} {E:G7->G3->Prop} {s:G3}
theorem gj {κ:KeyKind} {κ0:SortKind} {a:Addr} {vs:List G7} {n:Nat} {P:Fin->G3->Prop} (ho:s.heap.get? a=some (seqObj "list" vs.toArray n))
  (h0:KeysOf κ (pairsOf vs)) (hkk:∀s':G3,(∀b o,b≠a->s.heap.get? b=some o->s'.heap.get? b=some o)->cg prog w A s' κ0 κ/\∀v₁ v₂ rest,vs=v₁ :: v₂ :: rest->∀ (Q:SortKind->G3->Prop),Q κ0 s'->wpAny (model prog w) A (keyKind' (v₁ :: v₂ :: rest).toArray) Q E s') (h64:vs.length < 64)
  (h:∀st':SortSt,(arrOf st').Perm (pairsOf vs)->SortedToK κ (arrOf st') (pairsOf vs).size->P (.done (.ret .none)) { s with heap:=sortedHeap s.heap a vs ((arrOf st').map (·.2)) }) :
  wpAny (model prog w) A (Builtin.«list.sort» ⟨[.ref a],[]⟩) P E s:=by
 rw [list_sort_plain];have ha:a < s.heap.objs.size:=A8 ho;refine A0 (listItems_at ho rfl ?_);refine A0 (listUpdate_at ho rfl ?_);obtain ⟨e1,ho1⟩:∃e1,(s.heap.update a (Obj.mapSeq λ _=>#[])).get? a=some (seqObj "list" #[] e1):=⟨_,get?_update_seq ho (λ _=>#[])⟩
 refine A0 (seqEpoch_at ho1 rfl ?_);refine A0 (wpAny_newTuple ?_);refine A0 (wpAny_newList ?_);refine wpAny_holding ?_;have ho6:(((s.heap.update a (Obj.mapSeq λ _=>#[])).push (seqObj "tuple" vs.toArray 0)).push (seqObj "list" #[] 0)).get? a=some (seqObj "list" #[] e1):=by rw [Heap.get?_push_ne _ _ _ (by rw [size_push',Heap.size_update]; exact Nat.ne_of_lt (Nat.lt_succ_of_lt ha)),Heap.get?_push_ne _ _ _ (by rw [Heap.size_update]; exact Nat.ne_of_lt ha)];exact ho1
 show wpAny (model prog w) A _ P E { s with heap:=((s.heap.update a (Obj.mapSeq λ _=>#[])).push (seqObj "tuple" vs.toArray 0)).push (seqObj "list" #[] 0) };dsimp only;have hsz:vs.toArray.size=vs.length:=by simp
 have fin:=h
 by_cases h2:vs.toArray.size < 2
 ·rw [if_pos h2,if_pos h2];refine A0 (A1 ?_);rw [StateT.run_pure];refine A0 (A1 ?_);dsimp only;refine A0 (seqEpoch_at ho6 rfl ?_);refine A0 (listUpdate_at ho6 rfl ?_ (hsz2:=by rw [Array.size_map]; show (pairsOf vs).size<=_; rw [pairsOf_size,sizeLine_eq]; omega));simp only [bne_self_eq_false,Bool.false_eq_true,if_false];refine A1 (fin (SortSt.mk' general' (vs.toArray.zip vs.toArray) #[] 7 none) (Array.Perm.refl _) ?_);intro i j hij hj;have:i=j:=by rw [pairsOf_size] at hj; omega
  subst this; exact KeyOrd.kle_refl _
 ·rw [if_neg h2,if_neg h2];obtain ⟨v₁,v₂,rest,rfl⟩:∃v₁ v₂ rest,vs=v₁ :: v₂ :: rest:=by
   match vs,hsz,h2 with
   | [],_,h2=>simp at h2
   | [_],_,h2=>simp at h2
   | v₁ :: v₂ :: rest,_,_=>exact ⟨v₁,v₂,rest,O⟩
  have kp:∀b o,b≠a->s.heap.get? b=some o->(((s.heap.update a (Obj.mapSeq λ _=>#[])).push (seqObj "tuple" (v₁ :: v₂ :: rest).toArray 0)).push (seqObj "list" #[] 0)).get? b=some o:=λ b o nb e =>
   A6 _ (A6 _ (by rw [Heap.get?_update_ne _ _ _ _ nb]; exact e))
  obtain ⟨hO,hK⟩:=hkk { s with heap:=((s.heap.update a (Obj.mapSeq λ _=>#[])).push (seqObj "tuple" (v₁ :: v₂ :: rest).toArray 0)).push (seqObj "list" #[] 0) } kp;refine A0 (hK _ _ _ rfl _ ?_);refine A0 (wpAny_mono (gY (κ:=κ) (κ0:=κ0) hO (a₀:=pairsOf (v₁ :: v₂ :: rest)) (st:=SortSt.mk' κ0 ((v₁ :: v₂ :: rest).toArray.zip (v₁ :: v₂ :: rest).toArray) #[] 7 none)
   (Q:=λ _ st'=>(arrOf st').Perm (pairsOf (v₁ :: v₂ :: rest))/\failedOf st'=none/\SortedToK κ (arrOf st') (pairsOf (v₁ :: v₂ :: rest)).size)
   h0 ⟨Array.Perm.refl _,rfl,rfl,rfl⟩ (by rw [pairsOf_size]; simp) (by rw [pairsOf_size]; exact h64) λ st' a1 a2 a3=>⟨a1,a2,a3⟩) ?_ λ _ _ e=>e)
  rintro ⟨⟨⟩,st'⟩ s' ⟨rfl,hp,hf,hs⟩;dsimp only;refine A0 (seqEpoch_at ho6 rfl ?_);refine A0 (listUpdate_at ho6 rfl ?_ (hsz2:=by refine C4 (Nat.le_of_eq ((Array.size_map ..).trans (hp.size_eq.trans (pairsOf_size _)))) ?_; rw [sizeLine_eq]; omega));rw [hf];simp only [bne_self_eq_false,Bool.false_eq_true,if_false];exact A1 (fin st' hp hs)
theorem sM {κ:KeyKind} {κ0:SortKind} {l:Addr} {vs:List G7} {Q:G7->G3->Prop} (hl:s.heap.IsList l vs.toArray) (h0:KeysOf κ (pairsOf vs)) (hkk:∀ (A':Around) (s':G3),(∀b o,s.heap.get? b=some o->s'.heap.get? b=some o)->cg prog w A' s' κ0 κ/\∀v₁ v₂ rest,vs=v₁ :: v₂ :: rest->∀ (Q:SortKind->G3->Prop) (E':G7->G3->Prop),Q κ0 s'->wpAny (model prog w) A' (keyKind' (v₁ :: v₂ :: rest).toArray) Q E' s') (h64:vs.length < 64)
  (h:∀st':SortSt,(arrOf st').Perm (pairsOf vs)->SortedToK κ (arrOf st') (pairsOf vs).size->Q (.ref (s.heap.objs.size + 1)) { s with heap:=sortedAll s.heap vs ((arrOf st').map (·.2)) }) :
  wpAny (model prog w) A (call (.builtin "sorted") [.ref l]) Q E s:=by
 refine Calls.call_function_entry kind_sorted plain_sorted entry_sorted (args_sorted1 _) ?_;unfold Builtin.«sorted»;refine A0 (m:=checkCount "sorted" 1 1 _) (A1 ?_);refine A0 (collect_list hl ?_);refine A0 (wpAny_newList ?_);have hsz:((s.heap.push (seqObj "list" #[] 0)).update s.heap.objs.size (Obj.mapSeq (· ++ vs.toArray))).objs.size=s.heap.objs.size + 1:=by rw [Heap.size_update,size_push']
 have hoL:(((s.heap.push (seqObj "list" #[] 0)).update s.heap.objs.size (Obj.mapSeq (· ++ vs.toArray))).push (seqObj "list" vs.toArray 0)).get? (s.heap.objs.size + 1)=some (seqObj "list" vs.toArray 0):=by rw [<- hsz]; exact A7 _ rfl
 show wpAny _ _ _ _ _ { s with heap:=((s.heap.push (seqObj "list" #[] 0)).update s.heap.objs.size (Obj.mapSeq (· ++ vs.toArray))).push (seqObj "list" vs.toArray 0) };rw [hsz];refine A0 (wpAny_holding (G0 slot_list_sort ⟨_,hoL,rfl⟩ entry_list_sort (gj hoL h0 (λ s' k=>by obtain ⟨a1,a2⟩:=hkk _ s' (λ b o e=>k b o (B8 (Nat.lt_succ_of_lt (A8 e))) (A6 _ (by rw [Heap.get?_update_ne _ _ _ _ (Nat.ne_of_lt (Heap.lt_size e))]; exact A6 _ e))); exact ⟨a1,λ v1 v2 r e Q q=>a2 v1 v2 r e Q _ q⟩) h64 λ st' a1 a2=>⟨_,O,?_⟩) (args_list_sort _)));exact A1 ⟨_,rfl,h st' a1 a2⟩
end
end PyProof.Rows
namespace L2
open PySem PySem.Spec PyProof.Rows
def bR:List Bool->List G7->Option (List Int)
 | [],[]=>some []
 | false :: r,.int i _ :: vs=>(bR r vs).map (i :: ·)
 | true :: r,.bool b :: vs=>(bR r vs).map ((if b=true then 1 else 0) :: ·)
 | _,_=>none
def jR:List Bool->List V->Option (List Int)
 | [],[]=>some []
 | false :: r,.int i :: vs=>(jR r vs).map (i :: ·)
 | true :: r,.bl b :: vs=>(jR r vs).map ((if b=true then 1 else 0) :: ·)
 | _,_=>none
theorem lp:∀ {sh:List Bool} {vs:List V} {us:List G7} {k:List Int},Vals vs us->jR sh vs=some k->bR sh us=some k
 | [],[],_,_,r,h=>by cases r; exact h
 | [],_ :: _,_,_,_,h=>by cases h
 | false :: r,v :: vs,us,k,rv,h=>by
  cases rv with
  | cons r1 r2 =>
   cases v with
   | int i =>
    obtain ⟨t,rfl⟩:=r1;have h:(jR r vs).map (i :: ·)=some k:=h;show (bR r _).map (i :: ·)=some k;cases e:jR r vs with
    | none=>rw [e] at h; cases h
    | some k'=>rw [e] at h; rw [lp r2 e]; exact h
   | _=>cases h
 | true :: r,v :: vs,us,k,rv,h=>by
  cases rv with
  | cons r1 r2 =>
   cases v with
   | bl b =>
    cases (show _=Value.bool b from r1);have h:(jR r vs).map ((if b=true then 1 else 0) :: ·)=some k:=h;show (bR r _).map ((if b=true then 1 else 0) :: ·)=some k;cases e:jR r vs with
    | none=>rw [e] at h; cases h
    | some k'=>rw [e] at h; rw [lp r2 e]; exact h
   | _=>cases h
 | false :: _,[],_,_,_,h=>by cases h
 | true :: _,[],_,_,_,h=>by cases h
def cD:List Int->List Int->Bool
 | [],[]=>false
 | [],_ :: _=>true
 | _ :: _,[]=>false
 | a :: r,b :: t=>if a=b then cD r t else decide (a < b)
theorem gZ:∀a,cD a a=false
 | []=>rfl
 | a :: r=>by rw [cD,if_pos rfl]; exact gZ r
theorem iG:∀a b c,cD a b=true->cD b c=true->cD a c=true
 | [],[],_,h,_=>by cases h
 | [],_ :: _,[],_,h=>by cases h
 | [],_ :: _,_ :: _,_,_=>rfl
 | _ :: _,[],_,h,_=>by cases h
 | _ :: _,_ :: _,[],_,h=>by cases h
 | a :: r,b :: t,c :: u,h1,h2=>by
  rw [cD] at h1 h2 ⊢
  by_cases e1:a=b
  ·rw [if_pos e1] at h1
   by_cases e2:b=c
   ·rw [if_pos e2] at h2;rw [if_pos (e1.trans e2)];exact iG r t u h1 h2
   ·rw [if_neg e2] at h2;rw [if_neg (by rw [e1]; exact e2),e1]; exact h2
  ·rw [if_neg e1] at h1;have h1:=B9 h1
   by_cases e2:b=c
   ·rw [if_neg (by omega)]; exact A9 (by omega)
   ·rw [if_neg e2] at h2;have h2:=B9 h2;rw [if_neg (by omega)]; exact A9 (by omega)
theorem mQ:∀a b c,cD a c=true->cD a b=true\/cD b c=true
 | [],[],_,h=>.inr h
 | [],_ :: _,_,_=>.inl rfl
 | _ :: _,_,[],h=>by cases h
 | _ :: _,[],_ :: _,_=>.inr rfl
 | a :: r,b :: t,c :: u,h=>by
  rw [cD] at h;rw [cD,cD]
  by_cases e1:a=b
  ·rw [if_pos e1]
   by_cases e2:b=c
   ·rw [if_pos (e1.trans e2)] at h;rw [if_pos e2];exact mQ r t u h
   ·rw [if_neg (by rw [e1]; exact e2)] at h;rw [if_neg e2];exact .inr (by rw [<- e1]; exact h)
  ·rw [if_neg e1]
   by_cases e3:a=c
   ·rw [if_neg (by omega)]
    by_cases z:a < b
    ·exact .inl (A9 z)
    ·exact .inr (A9 (by omega))
   ·rw [if_neg e3] at h;have h:=B9 h
    by_cases z:a < b
    ·exact .inl (A9 z)
    ·rw [if_neg (by omega)]; exact .inr (A9 (by omega))
theorem iH:∀a b,cD a b=false->cD b a=false->a=b
 | [],[],_,_=>rfl
 | [],_ :: _,h,_=>by cases h
 | _ :: _,[],_,h=>by cases h
 | a :: r,b :: t,h1,h2=>by
  rw [cD] at h1 h2
  by_cases e:a=b
  ·rw [if_pos e] at h1;rw [if_pos e.symm] at h2;rw [e,iH r t h1 h2]
  ·rw [if_neg e] at h1;rw [if_neg (Ne.symm e)] at h2;have:=of_decide_eq_false h1;have:=of_decide_eq_false h2;exact absurd (show a=b by omega) e
def nN (h:Heap) (sh:List Bool):KeyKind where
 α:=List Int
 blt:=cD
 irrefl:=gZ
 trans:=iG
 negTrans:=mQ
 total:=iH
 keyOf:=λ v=>match v with
  | .ref a=>match h.get? a with
   | some o=>match o.data with
    | .seq xs _=>bR sh xs.toList
    | _=>none
   | none=>none
  | _=>none
 dflt:=[]
theorem mR {h:Heap} {sh:List Bool} {v:G7} {k:List Int} (e:(nN h sh).keyOf v=some k):∃a o xs n,v=.ref a/\h.get? a=some o/\o.data=.seq xs n/\bR sh xs.toList=some k:=by
 cases v with
 | ref a =>
  have e:(match h.get? a with
   | some o=>match o.data with
    | .seq xs _=>bR sh xs.toList
    | _=>none
   | none=>none)=some k:=e
  cases h1:h.get? a with
  | none=>rw [h1] at e; cases e
  | some o =>
   rw [h1] at e;cases h2:o.data with
   | seq xs n =>
    have e:(match o.data with
     | .seq xs _=>bR sh xs.toList
     | _=>none)=some k:=e
    rw [h2] at e;exact ⟨a,o,xs,n,O,h1,h2,e⟩
   | _ =>
    have e:(match o.data with
     | .seq xs _=>bR sh xs.toList
     | _=>none)=some k:=e
    rw [h2] at e; cases e
 | _=>cases e
theorem fv:∀ {sh:List Bool} {us:List G7} {k:List Int},bR sh us=some k->us.length=sh.length
 | [],[],_,_=>rfl
 | [],_ :: _,_,h=>by cases h
 | false :: r,[],_,h=>by cases h
 | true :: r,[],_,h=>by cases h
 | false :: r,v :: vs,k,h=>by
  cases v with
  | int i t =>
   have h:(bR r vs).map (i :: ·)=some k:=h;cases e:bR r vs with
   | none=>rw [e] at h; cases h
   | some k'=>rw [List.length_cons,List.length_cons,fv e]
  | _=>cases h
 | true :: r,v :: vs,k,h=>by
  cases v with
  | bool b =>
   have h:(bR r vs).map ((if b=true then 1 else 0) :: ·)=some k:=h;cases e:bR r vs with
   | none=>rw [e] at h; cases h
   | some k'=>rw [List.length_cons,List.length_cons,fv e]
  | _=>cases h
section
variable {prog:G4} {w:G6} {A:Around} {E:G7->G3->Prop} {s:G3}
theorem jS {a b:Bool} {Q:Bool->G3->Prop} (h:Q (a == b) s):wpAny (model prog w) A (eqBool (.bool a) (.bool b)) Q E s:=by
 unfold eqBool;show wpAny _ _ (if (Value.bool a == Value.bool b)=true then _ else _) Q E s
 by_cases hab:(Value.bool a == Value.bool b)=true
 ·rw [if_pos hab];have e:a=b:=by have:=eq_of_beq hab; injection this
  subst e;exact A0 (wpAny_rule (A1 (by simpa using h)))
 ·rw [if_neg hab];exact A0 (eq_bool (E9 h))
theorem jo {bb:Bool} {Q:Bool->G3->Prop}:∀ (sh:List Bool) (xs ys:List G7) (a c:List Int) (i:Nat),bR sh xs=some a->bR sh ys=some c->((bb && i == 0)=true->sh.head? = some false\/sh=[])->Q (cD a c) s->PySem.W.KatLex prog w A bb false Q (xs.zip ys) i s
 | [],[],[],a,c,i,h1,h2,_,q=>by cases h1; cases h2; exact PySem.W.kat_nil q
 | [],_ :: _,_,_,_,_,h,_,_,_=>by cases h
 | [],[],_ :: _,_,_,_,_,h,_,_=>by cases h
 | false :: r,[],_,_,_,_,h,_,_,_=>by cases h
 | true :: r,[],_,_,_,_,h,_,_,_=>by cases h
 | false :: r,_ :: _,[],_,_,_,_,h,_,_=>by cases h
 | true :: r,_ :: _,[],_,_,_,_,h,_,_=>by cases h
 | false :: r,v :: vs,u :: us,a,c,i,h1,h2,hb,q=>by
  cases v with
  | int p t=>cases u with
   | int p' t' =>
    have h1:(bR r vs).map (p :: ·)=some a:=h1;have h2:(bR r us).map (p' :: ·)=some c:=h2;cases e1:bR r vs with
    | none=>rw [e1] at h1; cases h1
    | some a' =>
     cases e2:bR r us with
     | none=>rw [e2] at h2; cases h2
     | some c' =>
      rw [e1] at h1; rw [e2] at h2;cases h1; cases h2;rw [cD] at q;refine PySem.W.kat_cons (wpAny_eqBool_int (PySem.W.kat_go (λ e=>PySem.W.kat_yes ?_) (λ e=>PySem.W.kat_no ?_)))
      ·rw [if_pos (by simpa using e)] at q;exact jo r vs us a' c' (i + 1) e1 e2 (λ z=>by simp at z) q
      ·rw [if_neg (by simpa using e)] at q;cases z:(bb && i == 0) with
       | true=>exact oneLt_int q
       | false=>exact PySem.W.kat_one _ _ (PyProof.Rows.lt_int q)
   | _=>cases h2
  | _=>cases h1
 | true :: r,v :: vs,u :: us,a,c,i,h1,h2,hb,q=>by
  cases v with
  | bool p=>cases u with
   | bool p' =>
    have h1:(bR r vs).map ((if p=true then 1 else 0) :: ·)=some a:=h1;have h2:(bR r us).map ((if p'=true then 1 else 0) :: ·)=some c:=h2;cases e1:bR r vs with
    | none=>rw [e1] at h1; cases h1
    | some a' =>
     cases e2:bR r us with
     | none=>rw [e2] at h2; cases h2
     | some c' =>
      rw [e1] at h1; rw [e2] at h2;cases h1; cases h2;rw [cD] at q;refine PySem.W.kat_cons (jS (PySem.W.kat_go (λ e=>PySem.W.kat_yes ?_) (λ e=>PySem.W.kat_no ?_)))
      ·have e:p=p':=by simpa using e
       rw [if_pos (by rw [e])] at q;exact jo r vs us a' c' (i + 1) e1 e2 (λ z=>by simp at z) q
      ·have e:p≠p':=by simpa using e
       rw [if_neg (by cases p <;> cases p' <;> simp_all)] at q;cases z:(bb && i == 0) with
       | true=>rcases hb z with z | z <;> cases z
       | false =>
        refine PySem.W.kat_one _ _ (PyProof.Rows.lt_bool ?_);show Q (decide (b2i p < b2i p')) s;rw [show decide (b2i p < b2i p')=decide ((if p=true then (1:Int) else 0) < (if p'=true then 1 else 0)) by cases p <;> cases p' <;> rfl];exact q
   | _=>cases h2
  | _=>cases h1
theorem nO {h:Heap} {sh:List Bool} (h0:sh.head? = some false) (k:∀b o,h.get? b=some o->s.heap.get? b=some o):cg prog w A s (tuples' true) (nN h sh):=by intro E x y a b Q ha hb q;obtain ⟨x',ox,xs,n,rfl,hx,dx,fx⟩:=mR ha;obtain ⟨y',oy,ys,m,rfl,hy,dy,fy⟩:=mR hb;have l1:=fv fx;have l2:=fv fy;refine PySem.W.kat_lt (k _ _ hx) dx (k _ _ hy) dy ?_;rw [show decide (xs.size < ys.size)=false from decide_eq_false (by rw [<- Array.length_toList,<- Array.length_toList]; omega)];exact jo sh _ _ a b 0 fx fy (λ _=>.inl h0) q
end
theorem iI:∀ {as:List Addr} {its:List G7},Vals (as.map V.ref) its->its=as.map Value.ref
 | [],_,r=>by cases r; rfl
 | a :: as,_,r=>by
  cases r with
  | cons r1 r2 =>
   have e:_=Value.ref a:=r1;subst e;rw [List.map_cons,iI r2]
theorem iJ:∀as:List Addr,Vals (as.map V.ref) (as.map Value.ref)
 | []=>.nil
 | a :: as=>.cons rfl (iJ as)
theorem qx {α β:Type} {f:α->β} (g:β->Option α) (hg:∀a,g (f a)=some a) {l:List β} {as:List α} (h:l.Perm (as.map f)):∃as':List α,l=as'.map f/\as'.Perm as:=by
 refine ⟨l.filterMap g,?_,?_⟩
 ·have all:∀x∈l,∃a,f a=x:=λ x hx=>by obtain ⟨a,_,e⟩:=List.mem_map.mp (h.mem_iff.mp hx);exact ⟨a,e⟩
  clear h
  induction l with
  | nil=>rfl
  | cons x r ih =>
   obtain ⟨a,rfl⟩:=all x B6;rw [List.filterMap_cons,hg a,List.map_cons,<- ih λ y hy=>all y (List.mem_cons_of_mem _ hy)]
 ·have:=h.filterMap g;rw [List.filterMap_map,show (g∘f)=some from funext hg,List.filterMap_some] at this;exact this
theorem gb {h:Heap} {sh:List Bool} {key:Addr->List Int} (h0:sh.head? = some false):∀ (as:List Addr),(∀a∈as,∃o us n,h.get? a=some o/\o.cls=.type "tuple" /\ o.data=.seq (List.toArray us) n/\bR sh us=some (key a))->∃fs,PySem.W.KatTups h (as.map Value.ref) fs/\fs.length=as.length/\∀v∈fs,∃i t,v=Value.int i t
 | [],_=>⟨[],trivial,O,λ v hv=>by cases hv⟩
 | a :: as,H=>by
  obtain ⟨fs,h1,h2,h3⟩:=gb h0 as λ b hb=>H b (B3 _ hb);obtain ⟨o,us,n,e,c,d,f⟩:=H a B6;obtain ⟨r,hr⟩:∃r,sh=false :: r:=by
   cases sh with
   | nil=>cases h0
   | cons x r=>cases h0; exact ⟨r,O⟩
  subst hr;cases us with
  | nil=>cases f
  | cons u us =>
   cases u with
   | int i t=>exact ⟨.int i t :: fs,PySem.W.KatTups.cons e c d (by simp) h1,by rw [List.length_cons,List.length_cons,h2],λ v hv=>(List.mem_cons.mp hv).elim (λ z=>⟨i,t,z⟩) (h3 v)⟩
   | _=>cases f
section
variable {X:Cx}
def vq (K:C3) (xs:List V) (H:Hp) (Q:VK):Prop:=∃ (p:Addr) (as:List Addr) (sh:List Bool) (key:Addr->List Int),xs=[.ref p]/\SqL K H p (as.map V.ref)/\as.length < 64/\sh.head? = some false/\(∀a∈as,∃vs,SqT K H a vs/\jR sh vs=some (key a)) /\
 ∀ (l:Addr) (as':List Addr),H l=none->as'.Perm as->(as'.map key).Pairwise (λ x y=>cD y x=false)->Q (.ref l) (upd H l (.lst (as'.map V.ref)))
theorem fz:cB X (.builtin "sorted") (vq X.K):=by
 intro pins s σ H xs us Q I r h;obtain ⟨p,as,sh,key,rfl,hs,h64,h0,hk,q⟩:=h;obtain ⟨u,rfl,rfl⟩:=fW r;obtain ⟨its,rv,pl,_⟩:=I.list hs;have ei:=iI rv;subst ei;have tu:∀a∈as,∃o us n,s.heap.get? a=some o/\o.cls=.type "tuple" /\ o.data=.seq (List.toArray us) n/\bR sh us=some (key a):=λ a ha=>by obtain ⟨vs,hv,hf⟩:=hk a ha;obtain ⟨us,r,⟨o,e,c,n,d⟩,_⟩:=I.tuple hv;exact ⟨o,us,n,e,c,d,lp r hf⟩
 have kof:∀a∈as,(nN s.heap sh).keyOf (.ref a)=some (key a):=λ a ha=>by
  obtain ⟨o,us,n,e,c,d,f⟩:=tu a ha;show (match s.heap.get? a with
   | some o=>match o.data with
    | .seq xs _=>bR sh xs.toList
    | _=>none
   | none=>none)=some (key a)
  rw [e];show (match o.data with
    | .seq xs _=>bR sh xs.toList
    | _=>none)=some (key a)
  rw [d];exact f
 refine sM (κ:=nN s.heap sh) (κ0:=tuples' true) pl.isList ?keys ?kk (by rw [List.length_map]; exact h64) λ st' hp hs'=>?_
 case keys =>
  intro pr hpr;rw [pairsOf_toList] at hpr;obtain ⟨a,ha,e⟩:=List.mem_map.mp (List.of_mem_zip (show (pr.1,pr.2)∈_ from hpr)).1;exact ⟨key a,by rw [<- e]; exact kof a ha⟩
 case kk =>
  intro A' s' k;refine ⟨nO h0 k,λ v1 v2 rest e Q E' q=>?_⟩;obtain ⟨fs,f1,f2,f3⟩:=gb (h:=s'.heap) (key:=key) h0 as λ a ha=>by obtain ⟨o,us,n,e,c,d,f⟩:=tu a ha;exact ⟨o,us,n,k _ _ e,c,d,f⟩
  rw [e] at f1;have:(as.map Value.ref).length=rest.length + 2:=by rw [e]; rfl
  rw [List.length_map] at this;refine PySem.W.kat_kind (T:=.type "int") f1 (by omega) (λ v hv=>?_) rfl q;obtain ⟨i,t,rfl⟩:=f3 v hv;exact PySem.W.Looks.of_pure rfl
 have pz:∀l:List Addr,(l.map Value.ref).zip (l.map Value.ref)=l.map λ a=>(Value.ref a,Value.ref a):=λ l=>by
  induction l with
  | nil=>rfl
  | cons a l ih=>rw [List.map_cons,List.zip_cons_cons,ih,List.map_cons]
 have hp':=Array.perm_iff_toList_perm.mp hp;rw [pairsOf_toList,pz] at hp';obtain ⟨as',ea,pa⟩:=qx (f:=λ a=>(Value.ref a,Value.ref a)) (λ pr=>match pr.1 with
  | .ref a=>some a
  | _=>none) (λ a=>rfl) hp'
 have eo:((arrOf st').map (·.2)).toList=as'.map Value.ref:=by rw [Array.toList_map,ea,List.map_map]; rfl
 obtain ⟨e,he⟩:=sortedAll_at s.heap (as.map Value.ref) ((arrOf st').map (·.2));have hn:H (s.heap.objs.size + 1)=none:=I.hok.fresh (Nat.le_succ _);refine ⟨.ref (s.heap.objs.size + 1),upd H (s.heap.objs.size + 1) (.lst (as'.map V.ref)),I.laid (o:=.lst (as'.map V.ref)) (t':=s.toks) (λ _ _=>sortedAll_old) (Nat.le_succ _) (show ObjOk _ _ _ _ _ (.lst _) from ⟨?_,((arrOf st').map (·.2)).toList,e,?_,?_⟩),O,q _ as' hn pa ?_⟩
 ·rw [List.length_map,pa.length_eq];have:(64:Nat)<=sizeLine:=by decide
  omega
 ·rw [eo]; exact iJ as'
 ·rw [he]
 ·rw [List.pairwise_iff_getElem];intro i j hi hj hij;rw [List.length_map] at hi hj;have sz:(pairsOf (as.map Value.ref)).size=as.length:=by rw [pairsOf_size,List.length_map]
  have kk:∀i (hi:i < as'.length),KK (nN s.heap sh) (arrOf st') i=key as'[i]:=λ i hi=>by
   have e:(arrOf st')[i]? = some (Value.ref as'[i],Value.ref as'[i]):=by rw [<- Array.getElem?_toList,ea,List.getElem?_map,List.getElem?_eq_getElem hi]; rfl
   unfold KK;rw [e];show ((nN s.heap sh).keyOf (.ref as'[i])).getD _=_;rw [kof _ (pa.mem_iff.mp (List.getElem_mem hi))]; rfl
  have:=hs' i j (by omega) (by rw [sz,<- pa.length_eq]; exact hj);rw [kk i hi,kk j hj] at this;rw [List.getElem_map,List.getElem_map];exact this
end
theorem sN {X:Cx} {i j k:Nat} {x y z:Str} {e:Expr} {te:TE} {p1 p2 p3 pos:Pos} (hN:X.N.Nodup) (hi:X.N[i]? = some x) (hj:X.N[j]? = some y) (hk:X.N[k]? = some z) (lx:X.env.scope.names.lookup x=some .local) (ly:X.env.scope.names.lookup y=some .local) (lz:X.env.scope.names.lookup z=some .local) (he:PE X e te)
  (hs:swapsWithSole [.Name x p1,.Name y p2,.Name z p3] e pos.line X.env=pure false:=by rfl) (hw:swappedStores [.Name x p1,.Name y p2,.Name z p3] e X.env=pure none:=by rfl) :
  PS X (.Assign [.Name x p1,.Name y p2,.Name z p3] e pos) (λ D σ H=>te σ H λ v H1=>D.nx (((σ.set i (some v)).set j (some v)).set k (some v)) H1):=by
 intro pins s σ H D I h;refine wpAny_Assign_stores (thn (he pins s σ H _ I h) λ v s1 ⟨u,H1,I1,r1,q1⟩=>?_) hs hw;show wpAny _ _ (do holding [v] (assign (.Name x p1) X.env v); holding [v] (assign (.Name y p2) X.env v); assign (.Name z p3) X.env v) _ _ _;refine A0 (wpAny_holding (wpAny_assign_Name (cz I1 hN hi (.inl lx) r1 (λ s2 I2=>?_) (.inr lx))));refine A0 (wpAny_holding (wpAny_assign_Name (cz I2 hN hj (.inl ly) r1 (λ s3 I3=>?_) (.inr ly))));exact wpAny_assign_Name (cz I3 hN hk (.inl lz) r1 (λ s4 I4=>⟨_,H1,I4,q1⟩) (.inr lz))
theorem b60 {a:Int} (h0:0<=a) (h:a<=10 ^ 60):a.natAbs < 2 ^ 4096:=by
 have e:(10:Int) ^ 60 < 2 ^ 200:=by decide +kernel
 have e2:(2:Nat) ^ 200<=2 ^ 4096:=Nat.pow_le_pow_right (by decide) (by decide);have e3:((2:Nat) ^ 200:Int)=2 ^ 200:=by decide +kernel
 refine C0 ?_ e2;have:(a.natAbs:Int) < ((2 ^ 200:Nat):Int):=by rw [Int.natAbs_of_nonneg h0]; omega
 exact Int.ofNat_lt.mp this
section
variable {X:Cx}
theorem qy {lo:Int} {n:Nat} {σ:St} {cap:List Nat} {k:Nat} {g:TG} {tt:TT} {te:TE} {Q:List V->Hp->Prop} {H:Hp} (Pv:Nat->List V->Hp->Prop) (h0:Pv 0 [] H)
  (ht:∀i ys H',i < n->Pv i ys H'->ys.length < sizeLine/\g (.int (lo + i)) (bO σ cap k) H' λ σ2 H2=>leS (bO σ cap k) σ2/\tt σ2 H2 λ ok H3=>if ok=true then te σ2 H3 (λ v H4=>Nx n Pv i (ys ++ [v]) H4) else Nx n Pv i ys H3)
  (hd:∀ys H',Pv n ys H'->ys.length<=sizeLine/\Q ys H'):∃W,(∃m,W 0 m [] H)/\iB σ cap k (Itr lo n) g tt te Q W:=by
 refine ⟨λ i m ys H'=>m=n - i/\i<=n/\Pv i ys H',⟨_,O,E5 _,h0⟩,?_⟩;rintro i m ys H' ⟨rfl,hi,p⟩
 by_cases hin:i < n
 ·obtain ⟨e,hg⟩:=ht i ys H' hin p;refine .inr ⟨hin,e,λ x H2 yl=>?_⟩;obtain ⟨e1,e2⟩:=yl;subst e1 e2;exact hg
 ·have e:i=n:=by omega
  subst e;obtain ⟨a1,a2⟩:=hd ys H' p;exact .inl ⟨B2 _,a1,a2⟩
end
section
variable {P:G4} {w:G6} {K:C3} {mg:Str->Option G7} {base:Heap}
theorem FnOk.weak {k:Nat} {f:Addr} {fd:G5} {ps:List Str} {sp:Sp} (F:FnOk P w K mg base CX0 k f fd ps sp):FnOk P w K mg base (CXx P w) k f fd ps sp :=
 ⟨F.len,λ A outer s H args us vs Q E hr he hb hv hs=>codeAny_mono (F.run A outer s H args us vs Q E hr he hb hv hs) λ r s' h=>by
  cases r with
  | ok r=>cases r <;> exact h
  | error e=>exact E4 h⟩
theorem FnOk.or {CX:CXT} {k:Nat} {f:Addr} {fd:G5} {ps:List Str} {sp sp':Sp} (F:FnOk P w K mg base CX k f fd ps sp) (G:FnOk P w K mg base CX k f fd ps sp'):FnOk P w K mg base CX k f fd ps (λ vs H Q E=>sp vs H Q E\/sp' vs H Q E) :=
 ⟨λ vs H Q E h=>h.elim (F.len vs H Q E) (G.len vs H Q E),λ A outer s H args us vs Q E hr he hb hv hs=>hs.elim (F.run A outer s H args us vs Q E hr he hb hv) (G.run A outer s H args us vs Q E hr he hb hv)⟩
variable {N:List Str} {qual:Str} {scope:Scope} {f:Addr} {cd:G7} {A:Around} {outer:List Env} {s₀:G3} {H₀:Hp} {E:XK}
theorem bH {e:Expr} {tx:TX} (he:PEx (eG (CXx P w) P w K mg base N qual scope f cd A outer s₀ H₀ E) e tx):PE (eG (CXx P w) P w K mg base N qual scope f cd A outer s₀ H₀ E) e (λ σ H Q=>tx σ H Q E) :=
 λ pins s σ H Q I h=>wpAny_mono (he pins s σ H Q E I h) (λ _ _ z=>z) λ v s1 hx=>sJ hx
end
theorem qz {X:Cx}:OpR X (compareOp .IsNot) (λ x y H Q=>y=.bl true/\∃b,x=.bl b/\Q (.bl (!b)) H):=by
 intro pins s σ H x y v u Q I rx ry h;obtain ⟨rfl,b,rfl,q⟩:=h;cases ry;cases rx;unfold compareOp isSame;cases b
 ·exact A0 (A1 (A1 (aR I q rfl)))
 ·exact A0 (A1 (A1 (aR I q rfl)))
end L2
namespace Pc
open PySem L2
def top (i:Nat):Stmt:=PySem.Challenge.pw_platecuts_k26_refused_measures.main.body.getD i (.Pass ⟨0,0,0,0⟩)
abbrev zI:Stmt:=top 0
abbrev jp:Stmt:=top 17
abbrev jq:Stmt:=top 18
abbrev sO:Stmt:=top 19
abbrev bM:Stmt:=top 20
abbrev gv:Stmt:=top 25
abbrev eC:Stmt:=top 26
abbrev cL:Stmt:=top 33
abbrev jr:Stmt:=top 34
abbrev gw:Stmt:=top 35
abbrev ck:Stmt:=top 36
abbrev eD:Stmt:=top 37
abbrev bY:Stmt:=top 38
abbrev eE:Stmt:=top 39
abbrev cx:Stmt:=top 41
abbrev cF:Stmt:=top 42
abbrev bZ:Stmt:=top 43
abbrev cG:Stmt:=top 44
abbrev cT:Stmt:=top 45
abbrev gx:Stmt:=top 49
abbrev gy:Stmt:=top 50
abbrev cU:Stmt:=inClass (top 51) 0
abbrev dw:Stmt:=inClass (top 51) 1
abbrev dB:Stmt:=inClass (top 51) 2
abbrev jT:Stmt:=inClass (top 51) 3
abbrev jU:Stmt:=inClass (top 51) 4
abbrev cm:Stmt:=inClass (top 51) 5
abbrev dC:Stmt:=inClass (top 51) 6
abbrev sP:Stmt:=top 53
abbrev mS:Stmt:=top 54
abbrev gz:Stmt:=top 55
abbrev mU:Stmt:=top 56
abbrev mV:Stmt:=top 57
abbrev js:Stmt:=top 58
abbrev dW:Stmt:=top 59
abbrev mW:Stmt:=top 60
abbrev iK:Stmt:=top 61
abbrev jt:Stmt:=top 62
abbrev ju:Stmt:=top 63
abbrev sQ:Stmt:=top 64
abbrev fA:Stmt:=top 65
abbrev fB:Stmt:=top 66
abbrev dD:Stmt:=top 67
abbrev fC:Stmt:=top 68
abbrev fD:Stmt:=top 69
abbrev cV:Stmt:=top 70
abbrev jv:Stmt:=top 71
abbrev eF:Stmt:=top 72
abbrev cW:Stmt:=top 73
abbrev jV:Stmt:=top 74
section
variable {P:G4} {w:G6} {K:C3} {mg:Str->Option G7} {base:Heap}
structure Blt (mg:Str->Option Value):Prop where
 isi:mg "isinstance" = none
 int:mg "int" = none
 bool:mg "bool" = none
 list:mg "list" = none
 tuple:mg "tuple" = none
 len:mg "len" = none
 range:mg "range" = none
 max:mg "max" = none
 min:mg "min" = none
 abs:mg "abs" = none
 divmod:mg "divmod" = none
 sum:mg "sum" = none
 sorted:mg "sorted" = none
 all:mg "all" = none
 repr:mg "repr" = none
 zip:mg "zip" = none
 enumerate:mg "enumerate" = none
 mostk:∃t,mg "MOST_KINDS" = some (.int 8 t)
 fivek:∃t,mg "THINGS_OF_A_KIND" = some (.int 5 t)
end
theorem lq {xs:List V} {i:Int} (h0:0<=i) (h1:i < xs.length):∃v,atI xs i=some v/\v∈xs:=by
 have hk:i.toNat < xs.length:=by omega
 exact ⟨xs[i.toNat],aL h0 (E8 hk),List.getElem_mem hk⟩
theorem dE {H H':Hp} {p:Addr} (s:Same H H'):But p H H':=λ c o _ e=>s c o e
theorem cq {t u:TS} {D:Ends} {σ:St} {H:Hp} (C:(St->Hp->Prop)->Prop) (h1:∀R:St->Hp->Prop,C R->t { D with nx:=R } σ H) (h2:C (u D)):rR t u D σ H:=h1 _ h2
theorem aH {t u:TS} {D:Ends} {σ:St} {H:Hp} (C:(St->Hp->Prop)->Prop) (h1:∀D':Ends,C D'.nx->t D' σ H) (h2:C (u D)):rR t u D σ H:=h1 _ h2
theorem eY {P:Prop} (h:∀G:Prop,(P->G)->G):P:=h P id
theorem bi {t u:TS} {D:Ends} {σ:St} {H:Hp} (J:St->Hp->Prop) (h1:∀R:St->Hp->Prop,(∀σ' H',J σ' H'->R σ' H')->t { D with nx:=R } σ H) (h2:∀σ' H',J σ' H'->u D σ' H'):rR t u D σ H:=h1 _ h2
section
variable {P:G4} {w:G6} {K:C3} {mg:Str->Option G7} {base:Heap}
theorem sR:FnScope ["thing","least"] ["thing","least"] (defScope jp):=⟨O,O,O,by decide +kernel,O,by decide +kernel,by decide +kernel⟩
theorem qA {f:Addr} {fd:G5} (F:Fun K "is_whole" "is_whole" jp f fd) (B:Blt mg):FnOk P w K mg base CX0 1 f fd ["thing","least"] (bB K):=by
 refine F.ok sR (λ vs H Q E h=>?_) (λ cdv A outer s H vs Q E hr h=>?_)
 ·obtain ⟨x,T,l,rfl,_⟩:=h
  rfl
 obtain ⟨x,T,l,rfl,⟨tn,ty⟩,q⟩:=h;refine ⟨_,ah (aq (cA (ay aW rfl B.isi PyProof.Rows.boot_isinstance (aa (pv 0) (aa (bo (v:=.ty "int") rfl B.int PyProof.Rows.boot_int rfl) ad)))
  (cA (kB (ay aW rfl B.isi PyProof.Rows.boot_isinstance (aa (pv 0) (aa (bo (v:=.ty "bool") rfl B.bool PyProof.Rows.boot_bool rfl) ad))))
  (dg (bt ip (pv 0) (pv 1) (av _)))))),?_⟩
 refine ⟨_,O,x,_,_,_,_,O,ty,O,mH T tn,_,O,?_⟩;have tb:=gq ty;refine bW (λ c=>?_) (λ c=>?_)
 ·refine ⟨_,O,x,_,_,_,_,O,ty,O,ft T tn,_,O,_,O,?_⟩;refine bW (λ c2=>?_) (λ c2=>?_)
  ·have hT:(T == "int")=true:=by
    have:(T == "bool")=false:=by simpa using c2
    rw [this,Bool.or_false] at c; exact c
   obtain ⟨i,rfl⟩:=qh ty tn hT;exact ⟨_,O,_,O,_,_,O,O,q⟩
  ·have hT:jh x=true:=by
    rw [<- tb];cases e:(T == "bool") with
    | true=>rfl
    | false=>rw [e] at c2; exact absurd rfl c2
   cases x <;> first | exact q | (exact absurd hT B1)
 ·have hx:aK x l=false:=by
   cases x with
   | int i =>
    exfalso;have ty':=ty;generalize hv:Value.type T=tv at ty';cases ty' with
    | int=>cases hv; exact c rfl
   | _=>rfl
  rw [hx] at q;exact q
theorem sS:FnScope ["thing"] ["thing"] (defScope jq):=⟨O,O,O,by decide +kernel,O,by decide +kernel,by decide +kernel⟩
theorem qB {f:Addr} {fd:G5} (F:Fun K "is_truth" "is_truth" jq f fd) (B:Blt mg):FnOk P w K mg base CX0 1 f fd ["thing"] (gr K):=by
 refine F.ok sS (λ vs H Q E h=>?_) (λ cdv A outer s H vs Q E hr h=>?_)
 ·obtain ⟨x,T,rfl,_⟩:=h
  rfl
 obtain ⟨x,T,rfl,⟨tn,ty⟩,q⟩:=h;refine ⟨_,ah (aq (ay aW rfl B.isi PyProof.Rows.boot_isinstance (aa (pv 0) (aa (bo (v:=.ty "bool") rfl B.bool PyProof.Rows.boot_bool rfl) ad)))),?_⟩;refine ⟨_,O,x,_,_,_,_,O,ty,O,ft T tn,?_⟩;rw [gq ty];exact q
theorem zJ:FnScope ["thing"] ["thing"] (defScope sO):=⟨O,O,O,by decide +kernel,O,by decide +kernel,by decide +kernel⟩
theorem vt {f:Addr} {fd:G5} (F:Fun K "is_row" "is_row" sO f fd) (B:Blt mg):FnOk P w K mg base CX0 1 f fd ["thing"] (jM K):=by
 refine F.ok zJ (λ vs H Q E h=>?_) (λ cdv A outer s H vs Q E hr h=>?_)
 ·obtain ⟨x,T,rfl,_⟩:=h
  rfl
 obtain ⟨x,T,rfl,ty,q⟩:=h;refine ⟨_,ah (aq (ay fm rfl B.isi PyProof.Rows.boot_isinstance (aa (pv 0) (aa (az (aa (bo (v:=.ty "list") rfl B.list PyProof.Rows.boot_list rfl) (aa (bo (v:=.ty "tuple") rfl B.tuple PyProof.Rows.boot_tuple rfl) ad))) ad)))),?_⟩;refine ⟨_,O,zS2,λ p hp=>?_⟩;have s1:Same H (upd H p (.tup [.ty "list",.ty "tuple"])):=λ b o e=>by rw [am (ap e hp)]; exact e
 have t2:=Ty.same s1 ty;exact ⟨x,p,_,_,_,_,O,t2.2,ag,O,jg T ty.1,q _ s1⟩
theorem scIsKind:FnScope ["thing","wide","high","worth","wanted","turns"] ["thing"] (defScope gx):=⟨O,O,O,by decide +kernel,O,by decide +kernel,by decide +kernel⟩
theorem nP {f:Addr} {fd:G5} (F:Fun K "is_kind" "is_kind" gx f fd) (B:Blt mg) (DW:Dn P w K mg base "is_whole" ["thing","least"] 1 (bB K)) (DT:Dn P w K mg base "is_truth" ["thing"] 1 (gr K)) (DR:Dn P w K mg base "is_row" ["thing"] 1 (jM K)) :
  FnOk P w K mg base CX0 2 f fd ["thing"] (fu K):=by
 refine F.ok scIsKind (λ vs H Q E h=>?_) (λ cdv A outer s H vs Q E hr h=>?_)
 ·obtain ⟨x,T,rfl,_⟩:=h
  rfl
 obtain ⟨x,T,rfl,ty,q⟩:=h;obtain ⟨tk,htk⟩:=B.fivek;have nd:=scIsKind.nd;refine ⟨_,af (aG (PW.pt (br (aS (aI (ao DR hr rfl (aa (pv 0) ad)))) (bz (aw gI (ay aN rfl B.len PySem.boot_len (aa (pv 0) ad)) (aO (v:=.int 5) rfl htk ⟨tk,O⟩) (av _))))) (ah (aq aY)) ar)
  (af (bJ (pv 0) (kU rfl (ai (aj (i:=1) nd rfl (Or.inl rfl)) (ai (aj (i:=2) nd rfl (Or.inl rfl)) (ai (aj (i:=3) nd rfl (Or.inl rfl)) (ai (aj (i:=4) nd rfl (Or.inl rfl)) (ai (aj (i:=5) nd rfl (Or.inl rfl)) aU)))))))
  (af (aG (PW.pt (br (aS (aI (ao DW hr rfl (aa (pv 1) (aa ae ad))))) (bz (aS (aI (ao DW hr rfl (aa (pv 2) (aa ae ad)))))))) (ah (aq aY)) ar)
  (ah (aq (cA (ao DW hr rfl (aa (pv 3) (aa ae ad))) (cA (ao DW hr rfl (aa (pv 4) (aa ae ad))) (dg (ao DT hr rfl (aa (pv 5) ad))))))))),?_⟩
 refine ⟨_,O,x,T,O,ty,λ H1 s1=>⟨_,O,?_⟩⟩;rcases q with ⟨n1,n2,q⟩ | ⟨a,xs,rfl,hx,its,q⟩
 ·have e:(T == "list" || T == "tuple")=false:=by simp [n1,n2]
  rw [e];refine aF (aF ?_);exact q H1 s1
 ·have e:(T == "list" || T == "tuple")=true:=by
   have t2:=ty.2;generalize hv:Value.type T=tv at t2;generalize hr:V.ref a=rv at t2;cases t2 with
   | lst _=>cases hv; rfl
   | frz _=>cases hv; rfl
   | tup _=>cases hv; rfl
   | dK e=>cases hr; rcases hx with z | z <;> (rw [z] at e; cases e)
   | dT e=>cases hr; rcases hx with z | z <;> (rw [z] at e; cases e)
   | ins=>cases hv
   | _=>cases hr
  rw [e];have sq:SqL K H1 a xs\/SqT K H1 a xs:=by
   rcases hx with z | z
   ·exact .inl (IV (s1 _ _ z))
   ·exact .inr (IU (s1 _ _ z))
  refine aA ⟨_,rfl,a,xs,rfl,sq,rfl,_,rfl,?_⟩;refine bW (λ c=>?_) (λ c=>?_)
  ·have hl:xs.length≠5:=λ z=>by rw [z] at c; exact absurd c (by decide)
   have:iC xs=false:=by
    unfold iC
    split
    ·exact absurd rfl hl
    ·rfl
   rw [this] at q;exact q H1 s1
  ·have hl:xs.length=5:=by
    by_cases z:xs.length=5
    ·exact z
    ·exfalso;apply c;have:¬ (V.int (xs.length:Int)=V.int 5):=λ h=>z (by have:=V.int.inj h; omega);rw [decide_eq_false this]; rfl
   obtain ⟨x1,x2,x3,x4,x5,rfl⟩:∃x1 x2 x3 x4 x5,xs=[x1,x2,x3,x4,x5]:=by
    match xs,hl with
    | [a,b,c,d,e],_=>exact ⟨a,b,c,d,e,O⟩
   obtain ⟨T1,t1⟩:=its x1 (by simp);obtain ⟨T2,t2⟩:=its x2 (by simp);obtain ⟨T3,t3⟩:=its x3 (by simp);obtain ⟨T4,t4⟩:=its x4 (by simp);obtain ⟨T5,t5⟩:=its x5 (by simp);refine ⟨_,O,a,_,O,sq,O,x1,_,O,x2,_,O,x3,_,O,x4,_,O,x5,_,O,O,?_⟩;refine ⟨_,O,x1,T1,1,O,Ty.same s1 t1,_,O,?_⟩;have q':∀b,iC [x1,x2,x3,x4,x5]=b->Q (.bl b) H1:=λ b e=>by rw [<- e]; exact q H1 s1
   have k5:iC [x1,x2,x3,x4,x5]=(aK x1 1 && aK x2 1 && aK x3 0 && aK x4 0 && jh x5):=rfl;cases w1:aK x1 1 with
   | false =>
    refine aF (aF ?_);exact q' false (by rw [k5,w1]; rfl)
   | true =>
    refine aA ⟨_,rfl,x2,T2,1,rfl,Ty.same s1 t2,_,rfl,?_⟩;cases w2:aK x2 1 with
    | false =>
     refine aF ?_;exact q' false (by rw [k5,w1,w2]; rfl)
    | true =>
     refine aA ⟨_,rfl,x3,T3,0,rfl,Ty.same s1 t3,_,rfl,?_⟩;cases w3:aK x3 0 with
     | false =>
      refine aA ?_;exact q' false (by rw [k5,w1,w2,w3]; rfl)
     | true =>
      refine aF ⟨_,rfl,x4,T4,0,rfl,Ty.same s1 t4,_,rfl,?_⟩;cases w4:aK x4 0 with
      | false =>
       refine aA ?_;exact q' false (by rw [k5,w1,w2,w3,w4]; rfl)
      | true =>
       refine aF ⟨_,rfl,x5,T5,rfl,Ty.same s1 t5,?_⟩;exact q' _ (by rw [k5,w1,w2,w3,w4]; rfl)
end
section
variable {P:G4} {w:G6} {K:C3} {mg:Str->Option G7} {base:Heap}
theorem scInit:FnScope ["self","blade","kinds","kind"] ["self","blade","kinds"] (defScope cU):=⟨O,O,O,by decide +kernel,O,by decide +kernel,by decide +kernel⟩
theorem sT {f C:Addr} {fd:G5} (F:Fun K "__init__" "Shop.__init__" cU f fd) (B:Blt mg) (T:ShopTxt K C) (DW:Dn P w K mg base "is_whole" ["thing","least"] 1 (bB K)) (DR:Dn P w K mg base "is_row" ["thing"] 1 (jM K))
  (DK:Dn P w K mg base "is_kind" ["thing"] 2 (fu K)):FnOk P w K mg base CX0 3 f fd ["self","blade","kinds"] (kZ C):=by
 refine F.ok scInit (λ vs H Q E h=>?_) (λ cdv A outer s H vs Q E hr h=>?_)
 ·obtain ⟨x,dx,ks,b,rs,kds,rfl,_⟩:=h
  rfl
 obtain ⟨x,dx,ks,b,rs,kds,rfl,hx,b0,hks,hrs,hgd,n1,n8,q⟩:=h;have hr1:=hr.mono (show 1<=2 by decide);obtain ⟨tk,htk⟩:=B.mostk;have nd:=scInit.nd;have n8':(8:Nat) < sizeLine:=by decide
 refine ⟨_,af (aG (aS (aI (ao DW hr1 rfl (aa (pv 1) (aa ae ad))))) fK ar)
  (af (aG (PW.pt (br (aS (aI (ao DR hr1 rfl (aa (pv 2) ad)))) (bz (aS (pM fV fV ae (ay aN rfl B.len PySem.boot_len (aa (pv 2) ad)) (aO (v:=.int 8) rfl htk ⟨tk,rfl⟩)))))) fK ar)
  (af (bV E1 rfl (qd (pv 2)) (aj (i:=3) nd rfl (Or.inl rfl)) (ah (aG (aS (aI (ao DK hr rfl (aa (pv 3) ad)))) fK ar)))
  (af (pP (pv 0) (pv 1) rfl)
  (ah (pP (pv 0) (bG eI rfl B.tuple PyProof.Rows.boot_tuple (aa (el (own:=["kind"]) (cs:=[]) (cap:=[]) rfl (qd (pv 2))
   (bX (sc:=defScope cU) (N:=["self","blade","kinds","kind"]) rfl rfl (by decide +kernel))
   (λ _ _ _ _ _=>aj (i:=0) (by show List.Nodup (["kind"]:List Str); decide +kernel) rfl (Or.inl rfl) (Or.inr rfl)) (λ _ _ _ _ _=>dN)
   (λ _ _ _ _ _=>bG (r:=qj K) eI rfl B.tuple PyProof.Rows.boot_tuple (aa (pv 0) ad))) ad)) rfl))))),?_⟩
 refine ⟨_,O,.int b,_,0,O,.int,_,O,?_⟩;have wb:aK (.int b) 0=true:=A9 b0;rw [wb];refine aA ?_;have tyk:∃T,Ty K H (.ref ks) T/\(T == "list" || T == "tuple")=true:=by
  rcases hks with e | e
  ·exact ⟨_,.lst e,O⟩
  ·exact ⟨_,.tup e,O⟩
 obtain ⟨T0,ty0,te0⟩:=tyk;refine ⟨_,O,.ref ks,T0,O,ty0,λ H1 s1=>⟨_,O,?_⟩⟩;rw [te0];have sq:∀ {H2:Hp},Same H H2->SqL K H2 ks rs\/SqT K H2 ks rs:=λ s2=>by
  rcases hks with z | z
  ·exact .inl (IV (s2 _ _ z))
  ·exact .inr (IU (s2 _ _ z))
 refine aA ⟨_,rfl,ks,rs,rfl,sq s1,_,_,rfl,rfl,_,rfl,?_⟩;rw [decide_eq_true (show (1:Int)<=(rs.length:Int) by omega)];refine aF ⟨_,_,rfl,rfl,_,rfl,?_⟩;rw [decide_eq_true (show (rs.length:Int)<=8 by omega)];refine aA ?_;have vG:=C9 hrs;refine qk (j:=2) (a:=ks) (xs:=rs) rfl (hks.imp (λ z=>s1 _ _ z) λ z=>s1 _ _ z) (λ i σ H2=>∃v,σ=[some (.ref x),some (.int b),some (.ref ks),v]/\Same H1 H2) ⟨none,rfl,Same.refl _⟩ (λ i σ H2 _ ⟨_,_,s2⟩ o e=>s2 _ _ e) ?_ ?_
 ·rintro i y σ H2 hi ⟨v,rfl,s2⟩;obtain ⟨k,hk,rk⟩:=IX hrs hi;refine ⟨_,O,?_⟩;simp only [jG,List.append_nil];refine nI ((rk.same s1).same s2) (hgd k (B4 hk)) λ H3 s3=>⟨_,O,aA ?_⟩
  exact ⟨_,O,s2.trans s3⟩
 rintro σ H2 ⟨v,rfl,s12⟩;have s2:Same H H2:=s1.trans s12;refine ⟨_,O,_,O,x,C,dx,[],O,s2 _ _ hx,T.cl,T.nB,(by show 0 < 1000; decide),?_⟩;have k3:∀c o,c≠x->H c=some o->(upd H2 x (.ins C dx (cI "blade_width" (.int b) []))) c=some o:=λ c o n e=>by rw [am n]; exact s2 c o e
 have x3:(upd H2 x (.ins C dx (cI "blade_width" (.int b) []))) x=some (.ins C dx (cI "blade_width" (.int b) [])):=ag;generalize upd H2 x (.ins C dx (cI "blade_width" (.int b) []))=H3 at k3 x3 ⊢;have rx:∀c xs,H c=some (.lst xs)\/H c=some (.tup xs)->c≠x:=λ c xs e z=>by subst z;rcases e with e | e <;> (rw [hx] at e; cases e)
 dsimp only [zr,tCB,fh];refine nH (j:=2) (a:=ks) (xs:=rs) rfl (hks.imp (λ z=>k3 _ _ (rx _ _ (.inl z)) z) λ z=>k3 _ _ (rx _ _ (.inr z)) z) (λ i ys H4=>ys.length=i/\Same H3 H4/\Tups H4 ys (kds.take i)) (λ i ys H4 _ ⟨_,s4,_⟩ o e=>s4 _ _ e) ⟨rfl,Same.refl _,.nil⟩ ?_ ?_
 ·rintro i y ys H4 hi ⟨hy,s4,ty4⟩;have hin:i < rs.length:=(A5.mp hi).1;obtain ⟨k,hk,rk⟩:=IX hrs hi;have tk1:kds.take (i + 1)=kds.take i ++ [k]:=by rw [List.take_add_one,hk]; rfl
  refine ⟨by omega,leS.set rfl,dO ?_⟩;rcases rk with ⟨a,rfl,h⟩ | ⟨a,rfl,h⟩
  ·have h4:=s4 _ _ (k3 _ _ (rx _ _ (.inr h)) h);exact ⟨_,O,a,_,O,.inr ⟨IU h4,Nx.of hin ⟨by rw [List.length_append,hy]; rfl,s4,by rw [tk1]; exact Paired.snoc ty4 ⟨a,O,h4⟩⟩⟩⟩
  ·have h4:=s4 _ _ (k3 _ _ (rx _ _ (.inl h)) h);refine ⟨_,O,a,_,O,.inl ⟨IV h4,λ l hl=>Nx.of hin ⟨by rw [List.length_append,hy]; rfl,λ c o e=>?_,?_⟩⟩⟩
   ·have e4:=s4 c o e;rw [am (ap e4 hl)]; exact e4
   ·rw [tk1];exact Paired.snoc (Tups.keep (λ c xs e=>by rw [am (ap e hl)]; exact e) ty4) ⟨l,rfl,ag⟩
 rintro ys H4 ⟨hy,s4,ty4⟩;refine ⟨by omega,λ p hp=>?_⟩;refine ⟨p,ys,O,.inl ⟨IV ag,λ r hr'=>?_⟩⟩;have hpr:r≠p:=λ z=>by rw [z,ag] at hr'; cases hr'
 have hr4:H4 r=none:=by rw [am hpr] at hr'; exact hr'
 have x4:=s4 _ _ x3;have xp:x≠p:=ap x4 hp;have xr:x≠r:=ap x4 hr4;refine ⟨_,O,x,C,dx,_,O,(by rw [am xr,am xp]; exact x4),T.cl,T.nK,(Nat.lt_of_le_of_lt (dI _ _ _) (by decide)),?_⟩;rw [vG,List.take_length] at ty4;refine q _ ⟨dx,r,ys,ag,by rw [am (Ne.symm xr),ag],?_⟩ λ c o n e=>?_
 ·refine Tups.keep (λ c xs e=>?_) ty4;rw [am (λ z=>by rw [z,x4] at e; cases e),am (ap e hr4),am (ap e hp)];exact e
 ·have e4:=s4 _ _ (k3 c o n e);rw [am n,am (ap e4 hr4),am (ap e4 hp)];exact e4
theorem sU:FnScope ["self"] ["self"] (defScope dw):=⟨O,O,O,by decide +kernel,O,by decide +kernel,by decide +kernel⟩
theorem qD {f C:Addr} {fd:G5} (F:Fun K "blade" "Shop.blade" dw f fd) (T:ShopTxt K C):FnOk P w K mg base CX0 1 f fd ["self"] (gs C):=by
 refine F.ok sU (λ vs H Q E h=>?_) (λ cdv A outer s H vs Q E hr h=>?_)
 ·obtain ⟨x,b,ks,rfl,_⟩:=h
  rfl
 obtain ⟨x,b,ks,rfl,⟨dx,r,rs,h1,h2,h3⟩,q⟩:=h;exact ⟨_,ah (aq (gK (pv 0) rfl)),_,O,x,C,dx,_,_,O,h1,T.cl,T.nB,kY _ _,q⟩
theorem sV:FnScope ["self"] ["self"] (defScope dB):=⟨O,O,O,by decide +kernel,O,by decide +kernel,by decide +kernel⟩
theorem qE {f C:Addr} {fd:G5} (F:Fun K "kinds" "Shop.kinds" dB f fd) (T:ShopTxt K C) (ml:mg "list" = none):FnOk P w K mg base CX0 1 f fd ["self"] (gt C):=by
 refine F.ok sV (λ vs H Q E h=>?_) (λ cdv A outer s H vs Q E hr h=>?_)
 ·obtain ⟨x,b,ks,rfl,_⟩:=h
  rfl
 obtain ⟨x,b,ks,rfl,⟨dx,r,rs,h1,h2,h3⟩,q⟩:=h;refine ⟨_,ah (aq (bG je rfl ml PyProof.Rows.boot_list (aa (gK (pv 0) rfl) ad))),?_⟩;exact ⟨_,O,x,C,dx,_,_,O,h1,T.cl,T.nK,em _ _,r,rs,O,.inr (IU h2),λ l hl=>q l rs hl h3⟩
end
section
variable {P:G4} {w:G6} {K:C3} {mg:Str->Option G7} {base:Heap}
theorem qF:FnScope ["kind"] ["kind"] (defScope gy):=⟨O,O,O,by decide +kernel,O,by decide +kernel,by decide +kernel⟩
theorem nQ {f:Addr} {fd:G5} (F:Fun K "can_lie_turned" "can_lie_turned" gy f fd):FnOk P w K mg base CX0 1 f fd ["kind"] (gU K):=by
 refine F.ok qF (λ vs H Q E h=>?_) (λ cdv A outer s H vs Q E hr h=>?_)
 ·obtain ⟨a,k,rfl,_⟩:=h
  rfl
 obtain ⟨a,k,rfl,ha,q⟩:=h;refine ⟨_,ah (aq (cA (ax ix_tup (pv 0) ae (λ _ _=>rfl)) (dg (bt gI (ax ix_tup (pv 0) ae (λ _ _=>rfl)) (ax ix_tup (pv 0) ae (λ _ _=>rfl)) (av _))))),?_⟩;refine ⟨_,O,a,_,4,_,O,O,IU ha,O,_,O,?_⟩;unfold be at q;refine bW (λ c=>?_) (λ c=>?_)
 ·rw [c,Bool.true_and] at q;refine ⟨_,O,a,_,0,_,O,O,IU ha,O,_,O,a,_,1,_,O,O,IU ha,O,O,?_⟩;rw [iY];rw [show (decide (k.w=k.h))=(k.w == k.h) from rfl] at q;exact q
 ·have c':k.tu=false:=by simpa using c
  rw [c',Bool.false_and] at q;exact q
theorem nR:FnScope ["self","kind","turned"] ["self","kind","turned"] (defScope cm):=⟨O,O,O,by decide +kernel,O,by decide +kernel,by decide +kernel⟩
theorem lr {f C:Addr} {fd:G5} (F:Fun K "is_lying" "Shop.is_lying" cm f fd) (B:Blt mg) (T:ShopTxt K C) (DW:Dn P w K mg base "is_whole" ["thing","least"] 1 (bB K)) (DU:Dn P w K mg base "is_truth" ["thing"] 1 (gr K)) (DT:Dn P w K mg base "can_lie_turned" ["kind"] 1 (gU K)) :
  FnOk P w K mg base CX0 2 f fd ["self","kind","turned"] (eA K C):=by
 refine F.ok nR (λ vs H Q E h=>?_) (λ cdv A outer s H vs Q E hr h=>?_)
 ·obtain ⟨s,b,ks,x,t,T0,U,rfl,_⟩:=h
  rfl
 obtain ⟨s,b,ks,x,t,T0,U,rfl,⟨dx,r,rs,h1,h2,h3⟩,tx,tt,q⟩:=h;have vH:=C9 h3;refine ⟨_,af (aG (PW.pt (br (aS (aI (ao DW hr rfl (aa (pv 1) (aa ae ad))))) (br (aw ip (pv 1) (ay aN rfl B.len PySem.boot_len (aa (gK (pv 0) rfl) ad)) (av _))
   (bz (aS (aI (ao DU hr rfl (aa (pv 2) ad)))))))) (ah (aq aY)) ar)
  (ah (aq (zd (kB (pv 2)) (dg (ao DT hr rfl (aa (ax ix_tup (gK (pv 0) rfl) (pv 1) (λ _ _=>rfl)) ad)))))),?_⟩
 refine ⟨_,O,x,_,0,O,tx,_,O,?_⟩;cases hw:aK x 0 with
 | false =>
  have e:ce ks x t=false:=by
   cases x with
   | int i =>
    have h0:decide (0<=i)=false:=hw;cases t <;> first | rfl | (show (decide (0<=i) && _)=false; rw [h0,Bool.false_and])
   | _=>rfl
  rw [e] at q;exact aF (aF q)
 | true =>
  have ex:∃i,x=.int i/\0<=i:=by
   cases x with
   | int i=>exact ⟨i,O,B9 hw⟩
   | _=>cases hw
  obtain ⟨i,rfl,i0⟩:=ex;refine aA ⟨_,rfl,_,rfl,s,C,dx,_,_,rfl,h1,T.cl,T.nK,em _ _,r,rs,rfl,.inr (IU h2),i,_,rfl,rfl,_,rfl,?_⟩
  by_cases hi:(rs.length:Int)<=i
  ·rw [decide_eq_true hi];have e:ce ks (.int i) t=false:=by have hn:ks[i.toNat]? = none:=C5 (by omega);cases t <;> first | rfl | (show (decide (0<=i) && match ks[i.toNat]? with | some k=>_ | none=>false)=false; rw [hn,Bool.and_false])
   rw [e] at q;exact aF (aF q)
  ·rw [decide_eq_false hi];refine aA ⟨_,rfl,t,_,rfl,tt,_,rfl,?_⟩;have hlt:i.toNat < ks.length:=by omega
   cases hb:jh t with
   | false =>
    have e:ce ks (.int i) t=false:=by cases t <;> first | rfl | cases hb
    rw [e] at q;exact aF q
   | true =>
    have ex:∃c,t=.bl c:=by cases t <;> first | exact ⟨_,O⟩ | cases hb
    obtain ⟨c,rfl⟩:=ex;obtain ⟨y,hy⟩:∃y,rs[i.toNat]? = some y:=⟨rs[i.toNat]'(by omega),by simp [show i.toNat < rs.length by omega]⟩
    obtain ⟨k,hk,a,rfl,ha⟩:=IX h3 hy;have e:ce ks (.int i) (.bl c)=(!c || be k):=by show (decide (0<=i) && match ks[i.toNat]? with | some k=>(!c || be k) | none=>false)=_;rw [hk,decide_eq_true i0,Bool.true_and]
    rw [e] at q;refine aA ⟨_,rfl,c,rfl,_,rfl,?_⟩;refine bW (λ d=>?_) (λ d=>?_)
    ·rw [d,Bool.true_or] at q;exact q
    ·have d':(!c)=false:=by simpa using d
     rw [d',Bool.false_or] at q;have at':atI rs i=some (.ref a):=by
      have en:ixN rs.length i=some i.toNat:=by unfold ixN;rw [if_pos i0,if_pos (by omega)]
      unfold atI;rw [en];exact hy
     exact ⟨_,O,s,C,dx,_,_,O,h1,T.cl,T.nK,em _ _,_,O,r,rs,i,_,O,O,IU h2,at',a,k,O,ha,q⟩
end
def qG (k:Kd) (c:Bool):List V:=if c=true then [.int k.h,.int k.w] else [.int k.w,.int k.h]
inductive spSides (K:C3) (C:Addr) (vs:List V) (H:Hp) (Q:VK) (E_:XK):Prop
 | mk (s:Addr) (b:Int) (ks:List Kd) (x t:V) (T U:String) (e_1:vs=[.ref s,x,t]) (e_2:ShopAt C H s b ks) (e_3:Ty K H x T) (e_4:Ty K H t U) (e_5:ce ks x t=true) (e_6:∀ (i:Int) (c:Bool) (k:Kd) (p:Addr),x=.int i->t=.bl c->ks[i.toNat]? = some k->ce ks x t=true->H p=none->Q (.ref p) (upd H p (.tup (qG k c)))):spSides K C vs H Q E_
theorem fT {ks:List Kd} {x t:V} (h:ce ks x t=true):∃ (i:Int) (c:Bool) (k:Kd),x=.int i/\t=.bl c/\0<=i/\ks[i.toNat]? = some k:=by
 unfold ce at h
 split at h
 ·rename_i i c
  rw [Bool.and_eq_true] at h;obtain ⟨h1,h2⟩:=h
  split at h2
  ·rename_i k hk
   exact ⟨i,c,k,O,O,B9 h1,hk⟩
  ·cases h2
 ·cases h
theorem vv {rs:List V} {i:Int} {v:V} (i0:0<=i) (h:rs[i.toNat]? = some v):atI rs i=some v:=by
 have en:ixN rs.length i=some i.toNat:=by unfold ixN;have:=(A5.mp h).1;rw [if_pos i0,if_pos (by omega)]
 unfold atI;rw [en];exact h
section
variable {P:G4} {w:G6} {K:C3} {mg:Str->Option G7} {base:Heap}
theorem scSides:FnScope ["self","kind","turned","row"] ["self","kind","turned"] (defScope dC):=⟨O,O,O,by decide +kernel,O,by decide +kernel,by decide +kernel⟩
theorem qH {f C:Addr} {fd:G5} (F:Fun K "sides" "Shop.sides" dC f fd) (T:ShopTxt K C) (ML:Mn P w K mg base C "is_lying" ["self","kind","turned"] 2 (eA K C)) :
  FnOk P w K mg base CX0 3 f fd ["self","kind","turned"] (spSides K C):=by
 refine F.ok scSides (λ vs H Q E h=>?_) (λ cdv A outer s H vs Q E hr h=>?_)
 ·obtain ⟨s,b,ks,x,t,T0,U,rfl,_⟩:=h
  rfl
 obtain ⟨s,b,ks,x,t,T0,U,rfl,S,tx,tt,he,hq⟩:=h;have nd:=scSides.nd;refine ⟨_,af (aG (aS (aI (mK (pv 0) T.cl ML hr (aa (pv 1) (aa (pv 2) ad))))) (ah aT) ar)
  (af (aB (i:=3) nd rfl (Or.inl rfl) (ax ix_tup (gK (pv 0) rfl) (pv 1) (λ _ _=>rfl)))
  (af (aG (aI (pv 2)) (ah (aq (az (aa (ax ix_tup (pv 3) ae (λ _ _=>rfl)) (aa (ax ix_tup (pv 3) ae (λ _ _=>rfl)) ad))))) ar)
  (ah (aq (az (aa (ax ix_tup (pv 3) ae (λ _ _=>rfl)) (aa (ax ix_tup (pv 3) ae (λ _ _=>rfl)) ad))))))),?_⟩
 obtain ⟨dx,r,rs,h1,h2,h3⟩:=id S;refine ⟨_,O,s,dx,_,O,h1,cK _ _ (by decide +kernel) (by decide +kernel),_,O,_,O,s,b,ks,x,t,T0,U,O,S,tx,tt,_,O,?_⟩;cases hl:ce ks x t with
 | false=>rw [hl] at he; cases he
 | true =>
  obtain ⟨i,c,k,rfl,rfl,i0,hk⟩:=fT hl;have vH:=C9 h3;have hik:=(A5.mp hk).1;obtain ⟨y,hy⟩:∃y,rs[i.toNat]? = some y:=⟨rs[i.toNat]'(by omega),by simp [show i.toNat < rs.length by omega]⟩
  obtain ⟨k',hk',a,rfl,ha⟩:=IX h3 hy;rw [hk] at hk';obtain rfl:=B7 hk';refine aA ?_;refine ⟨_,O,s,C,dx,_,_,O,h1,T.cl,T.nK,em _ _,_,O,r,rs,i,_,O,O,IU h2,vv i0 hy,?_⟩;refine ⟨_,O,_,O,?_⟩;cases c with
  | true =>
   refine aF ?_;refine ⟨_,O,a,_,1,_,O,O,IU ha,O,_,O,a,_,0,_,O,O,IU ha,O,zS2,λ p hp=>?_⟩;exact hq i true k p rfl rfl hk hl hp
  | false =>
   refine aA ?_;refine ⟨_,O,a,_,0,_,O,O,IU ha,O,_,O,a,_,1,_,O,O,IU ha,O,zS2,λ p hp=>?_⟩;exact hq i false k p rfl rfl hk hl hp
end
mutual
inductive Dt (p:Addr) (H:Hp):V->PyData->Prop
 | non:Dt p H .non .none
 | bl (b:Bool):Dt p H (.bl b) (.bool b)
 | int (i:Int):Dt p H (.int i) (.int i)
 | str (z:Str):Dt p H (.str z) (.str z)
 | lst {a:Addr} {xs:List V} {ds:List PyData}:a≠p->H a=some (.lst xs)->Dts p H xs ds->Dt p H (.ref a) (.list ds)
 | tup {a:Addr} {xs:List V} {ds:List PyData}:H a=some (.tup xs)->Dts p H xs ds->Dt p H (.ref a) (.tuple ds)
 | emp {a:Addr}:H a=some (.dK [])->Dt p H (.ref a) (.dict [])
inductive Dts (p:Addr) (H:Hp):List V->List PyData->Prop
 | nil:Dts p H [] []
 | cons {x:V} {d:PyData} {xs:List V} {ds:List PyData}:Dt p H x d->Dts p H xs ds->Dts p H (x :: xs) (d :: ds)
end
mutual
theorem Dt.same {p:Addr} {H H':Hp} (s:Same H H'):∀ {v:V} {d:PyData},Dt p H v d->Dt p H' v d
 | _,_,.non=>.non
 | _,_,.bl b=>.bl b
 | _,_,.int i=>.int i
 | _,_,.str z=>.str z
 | _,_,.lst n h r=>.lst n (s _ _ h) (r.same s)
 | _,_,.tup h r=>.tup (s _ _ h) (r.same s)
 | _,_,.emp h=>.emp (s _ _ h)
theorem Dts.same {p:Addr} {H H':Hp} (s:Same H H'):∀ {vs:List V} {ds:List PyData},Dts p H vs ds->Dts p H' vs ds
 | _,_,.nil=>.nil
 | _,_,.cons a r=>.cons (a.same s) (r.same s)
end
theorem Dts.length {p:Addr} {H:Hp}:∀ {vs:List V} {ds:List PyData},Dts p H vs ds->vs.length=ds.length
 | _,_,.nil=>rfl
 | _,_,.cons _ r=>by rw [List.length_cons,List.length_cons,r.length]
theorem Dt.ty {K:C3} {p:Addr} {H:Hp} {v:V} {d:PyData} (h:Dt p H v d):∃T,Ty K H v T:=by
 cases h with
 | non=>exact ⟨_,Ty.non⟩
 | bl b=>exact ⟨_,Ty.bl⟩
 | int i=>exact ⟨_,Ty.int⟩
 | str z=>exact ⟨_,Ty.str⟩
 | lst _ h _=>exact ⟨_,Ty.lst h⟩
 | tup h _=>exact ⟨_,Ty.tup h⟩
 | emp h=>exact ⟨_,Ty.dK h⟩
mutual
theorem Dt.but {p:Addr} {H H':Hp} (hp:∃xs,H p=some (.lst xs)) (b:But p H H'):∀ {v:V} {d:PyData},Dt p H v d->Dt p H' v d
 | _,_,.non=>.non
 | _,_,.bl b=>.bl b
 | _,_,.int i=>.int i
 | _,_,.str z=>.str z
 | _,_,.lst n h r=>.lst n (b _ _ n h) (r.but hp b)
 | _,_,.tup h r=>.tup (b _ _ (λ z=>by obtain ⟨_,e⟩:=hp; rw [z,e] at h; cases h) h) (r.but hp b)
 | _,_,.emp h=>.emp (b _ _ (λ z=>by obtain ⟨_,e⟩:=hp; rw [z,e] at h; cases h) h)
theorem Dts.but {p:Addr} {H H':Hp} (hp:∃xs,H p=some (.lst xs)) (b:But p H H'):∀ {vs:List V} {ds:List PyData},Dts p H vs ds->Dts p H' vs ds
 | _,_,.nil=>.nil
 | _,_,.cons a r=>.cons (a.but hp b) (r.but hp b)
end
mutual
def wt:PyData->Nat
 | .str z=>z.length + 1
 | .list ds=>wts ds + 1
 | .tuple ds=>wts ds + 1
 | _=>1
def wts:List PyData->Nat
 | []=>0
 | d :: r=>wt d + wts r
end
theorem mX (d:PyData):1<=wt d:=by cases d <;> simp only [wt] <;> omega
def aQ:PyData->Option (List PyData)
 | .list ds=>some ds
 | .tuple ds=>some ds
 | _=>none
theorem qI {d x:PyData} {ds:List PyData} (h:aQ d=some ds) (hx:x∈ds):sizeOf x < sizeOf d:=by
 have:=List.sizeOf_lt_of_mem hx;cases d <;> simp only [aQ,Option.some.injEq,reduceCtorEq] at h
 ·subst h; simp; omega
 ·subst h; simp; omega
theorem Dt.row {K:C3} {p:Addr} {H:Hp} {v:V} {d:PyData} (h:Dt p H v d):(aQ d=none/\∃T,Ty K H v T/\(T == "list" || T == "tuple")=false)\/∃a xs ds T,aQ d=some ds/\v=.ref a/\(H a=some (.lst xs)\/H a=some (.tup xs))/\Dts p H xs ds/\Ty K H v T/\(T == "list" || T == "tuple")=true:=by
 cases h with
 | non=>exact .inl ⟨O,_,Ty.non,O⟩
 | bl b=>exact .inl ⟨O,_,Ty.bl,O⟩
 | int i=>exact .inl ⟨O,_,Ty.int,O⟩
 | str z=>exact .inl ⟨O,_,Ty.str,O⟩
 | lst _ h r=>exact .inr ⟨_,_,_,_,O,O,.inl h,r,Ty.lst h,O⟩
 | tup h r=>exact .inr ⟨_,_,_,_,O,O,.inr h,r,Ty.tup h,O⟩
 | emp h=>exact .inl ⟨O,_,Ty.dK h,O⟩
def bw (d:PyData) (z:Str) (n:Nat):Bool:=match aQ d with
 | some (.str y :: r)=>decide (r.length + 1=n) && decide (y=z)
 | _=>false
section
variable {P:G4} {w:G6} {K:C3} {mg:Str->Option G7} {base:Heap}
inductive spBegins (vs:List V) (H:Hp) (Q:VK) (E_:XK):Prop
 | mk (pp:Addr) (v:V) (d:PyData) (z:Str) (n:Nat) (e_1:vs=[v,.str z,.int n]) (e_2:1<=n) (e_3:Dt pp H v d) (e_4:∀H',Same H H'->Q (.bl (bw d z n)) H'):spBegins vs H Q E_
theorem scbegins:FnScope ["thing","word","many"] ["thing","word","many"] (defScope cL):=⟨O,O,O,by decide +kernel,O,by decide +kernel,by decide +kernel⟩
theorem nT {f:Addr} {fd:G5} (F:Fun K "begins_with" "begins_with" cL f fd) (B:Blt mg) (bs:mg "str" = none) (DR:Dn P w K mg base "is_row" ["thing"] 1 (jM K)):FnOk P w K mg base CX0 2 f fd ["thing","word","many"] (spBegins):=by
 refine F.ok scbegins (λ vs H Q E h=>?_) (λ cdv A outer s H vs Q E hr h=>?_)
 ·obtain ⟨pp,v,d,z,n,rfl,_⟩:=h
  rfl
 obtain ⟨pp,v,d,z,n,rfl,n1,hd,q⟩:=h;have nd:=scbegins.nd;refine ⟨_,(@af _ _ _ _ _ (@aG _ _ _ _ _ _ _ _ (PW.pt (br (@aS _ _ _ _ (@aI _ _ _ (@ao _ _ _ _ _ _ _ _ _ _ DR hr O ((pv 0)^^^ad) (by decide) O O) (by intro _; rfl))) (bz (@aw _ _ _ _ _ _ _ _ gI (@ay _ _ _ _ _ _ _ _ _ aN O B.len PySem.boot_len ((pv 0)^^^ad) (by decide) (by decide) O O) (pv 2) (av _))))) (@ah _ _ _ (@aq _ _ _ _ aY)) ar) (@ah _ _ _ (@aq _ _ _ _ (cA (@ay _ _ _ _ _ _ _ _ _ aW O B.isi PyProof.Rows.boot_isinstance ((@ax _ _ _ _ _ _ _ aP (pv 0) ae (λ _ _=>O))^^^((bo (v:=.ty "str") O bs PyProof.Rows.boot_str O)^^^ad)) (by decide) (by decide) O O) (dg (@bt _ _ _ _ _ _ _ _ bf (@ax _ _ _ _ _ _ _ aP (pv 0) ae (λ _ _=>O)) (pv 1) (av _))))))),?_⟩;rcases hd.row (K:=K) with ⟨e,T,ty,hT⟩ | ⟨a,xs,ds,T,e,rfl,hx,dx,ty,hT⟩
 ·refine ⟨_,O,v,T,O,ty,λ H1 s1=>⟨_,O,?_⟩⟩;rw [hT];have q1:=q H1 s1;unfold bw at q1;rw [e] at q1;exact aF (aF q1)
 refine ⟨_,O,_,T,O,ty,λ H1 s1=>⟨_,O,?_⟩⟩;rw [hT];have sq:SqL K H1 a xs\/SqT K H1 a xs:=hx.imp (λ z=>IV (s1 _ _ z)) λ z=>IU (s1 _ _ z);refine aA ⟨_,rfl,a,_,rfl,sq,_,rfl,rfl,_,rfl,?_⟩;have q1:=q H1 s1;have len:=dx.length;cases dx with
 | nil =>
  rw [show decide (V.int (([]:List V).length:Int)=V.int (n:Int))=false from decide_eq_false (λ z=>by have:=V.int.inj z; simp at this; omega)];unfold bw at q1;rw [e] at q1;exact aF q1
 | @cons x d1 xs ds hd1 dr =>
  have a0:atI (x :: xs) 0=some x:=aL (E2 _) rfl;have ixs:∀Q':VK,Q' x H1->rIx K (.ref a) (.int 0) H1 Q':=λ Q' h=>sq.elim (λ z=>.inl ⟨a,_,0,x,O,O,z,a0,h⟩) (λ z=>.inr (.inl ⟨a,_,0,x,O,O,z,a0,h⟩));rw [List.length_cons,List.length_cons] at len
  by_cases hn:ds.length + 1=n
  ·rw [show decide (V.int ((x :: xs).length:Int)=V.int (n:Int))=true from decide_eq_true (by rw [List.length_cons,len,hn])];refine aA ⟨_,rfl,ixs _ ?_⟩;cases hd1 with
   | str y =>
    refine ⟨_,_,_,_,_,O,(Ty.str (K:=K)).2,O,bA "str" (by simp [aD]),_,O,aF ?_⟩;refine ⟨_,O,ixs _ ⟨_,O,O,?_⟩⟩;unfold bw at q1;rw [e] at q1;simp only [hn,decide_true,Bool.true_and] at q1;rw [show decide (V.str y=V.str z)=decide (y=z) from decide_eq_decide.mpr ⟨V.str.inj,congrArg _⟩];exact q1
   | non=>exact ⟨_,_,_,_,_,O,(Ty.non (K:=K)).2,O,bA "NoneType" (by simp [aD]),_,O,aA (by unfold bw at q1; rw [e] at q1; exact q1)⟩
   | bl b=>exact ⟨_,_,_,_,_,O,(Ty.bl (K:=K)).2,O,bA "bool" (by simp [aD]),_,O,aA (by unfold bw at q1; rw [e] at q1; exact q1)⟩
   | int i=>exact ⟨_,_,_,_,_,O,(Ty.int (K:=K)).2,O,bA "int" (by simp [aD]),_,O,aA (by unfold bw at q1; rw [e] at q1; exact q1)⟩
   | lst _ h r=>exact ⟨_,_,_,_,_,O,(Ty.lst (s1 _ _ h) (K:=K)).2,O,bA "list" (by simp [aD]),_,O,aA (by unfold bw at q1; rw [e] at q1; exact q1)⟩
   | tup h r=>exact ⟨_,_,_,_,_,O,(Ty.tup (s1 _ _ h) (K:=K)).2,O,bA "tuple" (by simp [aD]),_,O,aA (by unfold bw at q1; rw [e] at q1; exact q1)⟩
   | emp h=>exact ⟨_,_,_,_,_,O,(Ty.dK (s1 _ _ h) (K:=K)).2,O,bA "dict" (by simp [aD]),_,O,aA (by unfold bw at q1; rw [e] at q1; exact q1)⟩
  ·rw [show decide (V.int ((x :: xs).length:Int)=V.int (n:Int))=false from decide_eq_false (λ z=>hn (by have:=V.int.inj z; rw [List.length_cons,len] at this; omega))];refine aF ?_;have z:bw d z n=false:=by unfold bw;rw [e];cases d1 <;> simp [hn]
   rw [z] at q1;exact q1
def sd1 (k:Kd) (c:Bool):Int:=if c=true then k.h else k.w
def sd2 (k:Kd) (c:Bool):Int:=if c=true then k.w else k.h
theorem jW (k:Kd) (c:Bool):qG k c=[.int (sd1 k c),.int (sd2 k c)]:=by cases c <;> rfl
def bN (ks:List Kd) (w h:Int) (kv tv xv yv:V):Bool:=ce ks kv tv && aK xv 0 && aK yv 0 && (match kv,tv,xv,yv with
 | .int i,.bl c,.int x,.int y=>(match ks[i.toNat]? with
  | some k=>decide (x + sd1 k c<=w) && decide (y + sd2 k c<=h)
  | none=>false)
 | _,_,_,_=>false)
inductive spLiesG (K:C3) (C:Addr) (vs:List V) (H:Hp) (Q:VK) (E_:XK):Prop
 | mk (s:Addr) (b:Int) (ks:List Kd) (w h:Int) (kv tv xv yv:V) (T1 T2 T3 T4:String) (e_1:vs=[.ref s,.int w,.int h,kv,tv,xv,yv]) (e_2:ShopAt C H s b ks) (e_3:Ty K H kv T1) (e_4:Ty K H tv T2) (e_5:Ty K H xv T3) (e_6:Ty K H yv T4) (e_7:∀H',Same H H'->Q (.bl (bN ks w h kv tv xv yv)) H'):spLiesG K C vs H Q E_
theorem scliesG:FnScope ["shop","wide","high","kind","turned","x","y","piece_wide","piece_high"] ["shop","wide","high","kind","turned","x","y"] (defScope gv):=⟨O,O,O,by decide +kernel,O,by decide +kernel,by decide +kernel⟩
theorem qJ {f C:Addr} {fd:G5} (F:Fun K "lies_in" "lies_in" gv f fd) (T:ShopTxt K C) (DW:Dn P w K mg base "is_whole" ["thing","least"] 1 (bB K)) (MI:Mn P w K mg base C "is_lying" ["self","kind","turned"] 2 (eA K C)) (MS:Mn P w K mg base C "sides" ["self","kind","turned"] 3 (spSides K C)):FnOk P w K mg base CX0 4 f fd ["shop","wide","high","kind","turned","x","y"] (spLiesG K C):=by
 refine F.ok scliesG (λ vs H Q E h=>?_) (λ cdv A outer s H vs Q E hr h=>?_)
 ·obtain ⟨s,b,ks,w1,h1,kv,tv,xv,yv,T1,T2,T3,T4,rfl,_⟩:=h
  rfl
 obtain ⟨s,b,ks,w1,h1',kv,tv,xv,yv,T1,T2,T3,T4,rfl,S,t1,t2,t3,t4,q⟩:=h;have nd:=scliesG.nd;have hr1:=hr.mono (show 1<=3 by decide);have hr2:=hr.mono (show 2<=3 by decide);refine ⟨_,(@af _ _ _ _ _ (@aG _ _ _ _ _ _ _ _ (PW.pt (br (@aS _ _ _ _ (@aI _ _ _ (mK (pv 0) T.cl MI hr2 ((pv 3)^^^((pv 4)^^^ad))) (by intro _; rfl))) (br (@aS _ _ _ _ (@aI _ _ _ (@ao _ _ _ _ _ _ _ _ _ _ DW hr1 O ((pv 5)^^^(ae^^^ad)) (by decide) O O) (by intro _; rfl))) (bz (@aS _ _ _ _ (@aI _ _ _ (@ao _ _ _ _ _ _ _ _ _ _ DW hr1 O ((pv 6)^^^(ae^^^ad)) (by decide) O O) (by intro _; rfl))))))) (@ah _ _ _ (@aq _ _ _ _ aY)) ar) (@af _ _ _ _ _ (@bJ _ _ _ _ _ _ (mK (pv 0) T.cl MS hr ((pv 3)^^^((pv 4)^^^ad))) (bq O (ai (aj (i:=7) nd O (Or.inl O)) (ai (aj (i:=8) nd O (Or.inl O)) aU))) O O O) (@ah _ _ _ (@aq _ _ _ _ (cA (@bt _ _ _ _ _ _ _ _ fV (@au _ _ _ _ _ _ _ _ aV (pv 5) (pv 7)) (pv 1) (av _)) (dg (@bt _ _ _ _ _ _ _ _ fV (@au _ _ _ _ _ _ _ _ aV (pv 6) (pv 8)) (pv 2) (av _)))))))),?_⟩;obtain ⟨dx,r,rs,h1,h2,h3⟩:=id S;refine ⟨_,O,s,dx,_,O,h1,(cK _ _ (by decide +kernel) (by decide +kernel)),_,O,_,O,s,b,ks,kv,tv,T1,T2,O,S,t1,t2,_,O,?_⟩;cases ly:ce ks kv tv with
 | false =>
  have q1:=q H (Same.refl _);unfold bN at q1;rw [ly] at q1;exact aF (aF q1)
 | true =>
 refine aA ⟨_,rfl,xv,T3,0,rfl,t3,_,rfl,?_⟩;cases hx:aK xv 0 with
 | false =>
  have q1:=q H (Same.refl _);unfold bN at q1;rw [ly,hx] at q1;exact aF (aF q1)
 | true =>
 refine aA ⟨_,rfl,yv,T4,0,rfl,t4,_,rfl,?_⟩;cases hy:aK yv 0 with
 | false =>
  have q1:=q H (Same.refl _);unfold bN at q1;rw [ly,hx,hy] at q1;exact aF q1
 | true =>
 refine aA ?_;obtain ⟨i,c,k,rfl,rfl,i0,hk⟩:=fT ly;obtain ⟨x1,rfl⟩:∃i,xv=.int i:=by cases xv <;> first | exact ⟨_,O⟩ | cases hx
 obtain ⟨y1,rfl⟩:∃i,yv=.int i:=by cases yv <;> first | exact ⟨_,O⟩ | cases hy
 refine ⟨_,O,s,dx,_,O,h1,(cK _ _ (by decide +kernel) (by decide +kernel)),_,O,_,O,s,b,ks,.int i,.bl c,T1,T2,O,S,t1,t2,ly,λ i' c' k' p e1 e2 hk' _ hp=>?_⟩;cases e1;cases e2;rw [hk] at hk';cases hk';rw [jW];have q1:=q _ (G8 hp (o:=.tup [.int (sd1 k c),.int (sd2 k c)]));refine ⟨p,_,O,IU ag,O,_,_,O,_,_,O,O,?_⟩;refine ⟨_,O,_,O,_,_,O,O,_,O,_,_,O,O,_,O,?_⟩;unfold bN at q1;rw [ly,hx,hy] at q1;simp only [hk,Bool.true_and] at q1;refine bW (λ cc=>?_) (λ cc=>?_)
 ·refine ⟨_,O,_,O,_,_,O,O,_,O,_,_,O,O,?_⟩;rw [cc,Bool.true_and] at q1;exact q1
 ·rw [show decide (x1 + sd1 k c<=w1)=false by simpa using cc,Bool.false_and] at q1;exact q1
end
theorem Dts.one {p:Addr} {H:Hp} {xs:List V} {ds:List PyData} {n:Nat} (h:Dts p H xs ds) (hl:ds.length=n + 1):∃x d xs' ds',xs=x :: xs'/\ds=d :: ds'/\Dt p H x d/\Dts p H xs' ds'/\ds'.length=n:=by
 cases h with
 | nil=>cases hl
 | cons a r=>exact ⟨_,_,_,_,O,O,a,r,Nat.succ.inj hl⟩
theorem Dts.zero {p:Addr} {H:Hp} {xs:List V} {ds:List PyData} (h:Dts p H xs ds) (hl:ds.length=0):xs=[]/\ds=[]:=by
 cases h with
 | nil=>exact ⟨O,O⟩
 | cons a r=>cases hl
theorem Dts.three {p:Addr} {H:Hp} {xs:List V} {ds:List PyData} (h:Dts p H xs ds) (hl:ds.length=3):∃x1 x2 x3 d1 d2 d3,xs=[x1,x2,x3]/\ds=[d1,d2,d3]/\Dt p H x1 d1/\Dt p H x2 d2/\Dt p H x3 d3:=by obtain ⟨x1,d1,xs,ds,rfl,rfl,h1,h,hl⟩:=h.one hl;obtain ⟨x2,d2,xs,ds,rfl,rfl,h2,h,hl⟩:=h.one hl;obtain ⟨x3,d3,xs,ds,rfl,rfl,h3,h,hl⟩:=h.one hl;obtain ⟨rfl,rfl⟩:=h.zero hl;exact ⟨_,_,_,_,_,_,O,O,h1,h2,h3⟩
theorem Dts.four {p:Addr} {H:Hp} {xs:List V} {ds:List PyData} (h:Dts p H xs ds) (hl:ds.length=4):∃x1 x2 x3 x4 d1 d2 d3 d4,xs=[x1,x2,x3,x4]/\ds=[d1,d2,d3,d4]/\Dt p H x1 d1/\Dt p H x2 d2/\Dt p H x3 d3/\Dt p H x4 d4:=by obtain ⟨x1,d1,xs,ds,rfl,rfl,h1,h,hl⟩:=h.one hl;obtain ⟨x2,x3,x4,d2,d3,d4,rfl,rfl,h2,h3,h4⟩:=h.three hl;exact ⟨_,_,_,_,_,_,_,_,O,O,h1,h2,h3,h4⟩
section
variable {P:G4} {w:G6} {K:C3} {mg:Str->Option G7} {base:Heap}
structure TrC (K:C3) (mg:Str->Option Value) (wa:Addr):Prop where
 dn:∃t,mg "DOWN" = some (.str "down" t)
 rs:∃t,mg "REST" = some (.str "rest" t)
 pc:∃t,mg "PIECE" = some (.str "piece" t)
 n1:∃t,mg "THINGS_OF_A_REST" = some (.int 1 t)
 n5:∃t,mg "THINGS_OF_A_PIECE" = some (.int 5 t)
 n4:∃t,mg "THINGS_OF_A_CUT" = some (.int 4 t)
 wy:mg "WAYS" = some (.ref wa)
 wq:∀H,SqT K H wa [.str "down",.str "across"]
def sW (b side:Int):PyData->Bool
 | .int p=>decide (1<=p) && decide (p + b < side)
 | _=>false
def eL (b side:Int) (d:PyData):Bool:=match aQ d with
 | some [_,p,_,_]=>sW b side p
 | _=>false
def isC (b w h:Int) (d:PyData):Bool:=if bw d "down" 4=true then eL b w d else if bw d "across" 4=true then eL b h d else false
def eH (ks:List Kd) (w h:Int):PyData->PyData->PyData->PyData->Bool
 | .int i,.bool c,.int x,.int y=>bN ks w h (.int i) (.bl c) (.int x) (.int y)
 | _,_,_,_=>false
def isL (ks:List Kd) (w h:Int) (d:PyData):Bool:=if bw d "piece" 5=true then (match aQ d with
 | some [_,k,t,x,y]=>eH ks w h k t x y
 | _=>false) else bw d "rest" 1
inductive spParts2 (vs:List V) (H:Hp) (Q:VK) (E_:XK):Prop
 | mk (b w h p:Int) (t:Addr) (dn:Bool) (e_1:vs=[.int b, .ref t, .str (if dn=true then "down" else "across"), .int p]) (e_2:H t=some (.tup [.int w, .int h])) (e_3:∀ (u t1 t2:Addr) (H':Hp), H' u=some (.tup [.ref t1, .ref t2])->H' t1=some (.tup (if dn=true then [.int p, .int h] else [.int w, .int p]))->H' t2=some (.tup (if dn=true then [.int (w - p - b), .int h] else [.int w, .int (h - p - b)]))->Same H H'->Q (.ref u) H'):spParts2 vs H Q E_
inductive spCut (vs:List V) (H:Hp) (Q:VK) (E_:XK):Prop
 | mk (pp:Addr) (b x y w h:Int) (sp:Addr) (v:V) (d:PyData) (e_1:vs=[.int b,.ref sp]) (e_2:H sp=some (.tup [.int x,.int y,.int w,.int h,v])) (e_3:Dt pp H v d) (e_4:∀H',Same H H'->Q (.bl (isC b w h d)) H'):spCut vs H Q E_
inductive spLeaf (C:Addr) (vs:List V) (H:Hp) (Q:VK) (E_:XK):Prop
 | mk (pp:Addr) (b' x y w h:Int) (s sp:Addr) (ks:List Kd) (v:V) (d:PyData) (e_1:vs=[.ref s,.ref sp]) (e_2:ShopAt C H s b' ks) (e_3:H sp=some (.tup [.int x,.int y,.int w,.int h,v])) (e_4:Dt pp H v d) (e_5:∀H',Same H H'->Q (.bl (isL ks w h d)) H'):spLeaf C vs H Q E_
inductive spBehind (vs:List V) (H:Hp) (Q:VK) (E_:XK):Prop
 | mk (b x y w h p:Int) (sp a:Addr) (dn:Bool) (l r:V) (e_1:vs=[.int b, .ref sp]) (e_2:H sp=some (.tup [.int x, .int y, .int w, .int h, .ref a])) (e_3:(H a=some (.lst [.str (if dn=true then "down" else "across"), .int p, l, r])\/H a=some (.tup [.str (if dn=true then "down" else "across"), .int p, l, r]))) (e_4:∀ (u t1 t2:Addr) (H':Hp), H u=none->H' u=some (.lst [.ref t1, .ref t2])->H' t1=some (.tup (if dn=true then [.int x, .int y, .int p, .int h, l] else [.int x, .int y, .int w, .int p, l]))->H' t2=some (.tup (if dn=true then [.int (x + (p + b)), .int y, .int (w - p - b), .int h, r] else [.int x, .int (y + (p + b)), .int w, .int (h - p - b), r]))->Same H H'->Q (.ref u) H'):spBehind vs H Q E_
theorem scparts2:FnScope ["blade","part","way","p","wide","high"] ["blade","part","way","p"] (defScope eC):=⟨O,O,O,by decide +kernel,O,by decide +kernel,by decide +kernel⟩
theorem nU {f wa:Addr} {fd:G5} (F:Fun K "cut_parts" "cut_parts" eC f fd) (Z:TrC K mg wa):FnOk P w K mg base CX0 1 f fd ["blade","part","way","p"] (spParts2):=by
 refine F.ok scparts2 (λ vs H Q E h=>?_) (λ cdv A outer s H vs Q E hr h=>?_)
 ·obtain ⟨b,w1,h1,p1,t,dn,rfl,_⟩:=h
  rfl
 obtain ⟨b,w1,h1,p1,t,dn,rfl,ht,q⟩:=h;have nd:=scparts2.nd;obtain ⟨tdn,hdn⟩:=Z.dn;obtain ⟨trs,hrs⟩:=Z.rs;obtain ⟨tpc,hpc⟩:=Z.pc;obtain ⟨tn1,hn1⟩:=Z.n1;obtain ⟨tn5,hn5⟩:=Z.n5;obtain ⟨tn4,hn4⟩:=Z.n4;refine ⟨_,(@af _ _ _ _ _ (@bJ _ _ _ _ _ _ (pv 1) (bq O (ai (aj (i:=4) nd O (Or.inl O)) (ai (aj (i:=5) nd O (Or.inl O)) aU))) O O O) (@af _ _ _ _ _ (@aG _ _ _ _ _ _ _ _ (@aw _ _ _ _ _ _ _ _ bf (pv 2) (aO (v:=.str "down") O hdn ⟨tdn,O⟩) (av _)) (@ah _ _ _ (@aq _ _ _ _ (@az _ _ _ _ _ ((@az _ _ _ _ _ ((pv 3)^^^((pv 5)^^^ad)))^^^((@az _ _ _ _ _ ((@au _ _ _ _ _ _ _ _ aZ (@au _ _ _ _ _ _ _ _ aZ (pv 4) (pv 3)) (pv 0))^^^((pv 5)^^^ad)))^^^ad))))) ar) (@ah _ _ _ (@aq _ _ _ _ (@az _ _ _ _ _ ((@az _ _ _ _ _ ((pv 4)^^^((pv 3)^^^ad)))^^^((@az _ _ _ _ _ ((pv 4)^^^((@au _ _ _ _ _ _ _ _ aZ (@au _ _ _ _ _ _ _ _ aZ (pv 5) (pv 3)) (pv 0))^^^ad)))^^^ad))))))),?_⟩;refine ⟨_,O,t,_,O,IU ht,O,_,_,O,_,_,O,O,?_⟩;cases dn with
 | true =>
  refine ⟨_,O,O,_,O,aF ?_⟩;refine ⟨_,O,_,O,zS2,λ t1 h1'=>?_⟩;have sa:Same H (upd H t1 (.tup [.int p1,.int h1])):=G8 h1';have ka:(upd H t1 (.tup [.int p1,.int h1])) t1=some (.tup [.int p1,.int h1]):=ag;generalize upd H t1 (.tup [.int p1,.int h1])=Ha at sa ka ⊢;refine ⟨_,O,_,O,_,_,O,O,_,O,_,_,O,O,_,O,zS2,λ t2 h2'=>?_⟩;have sb:Same Ha (upd Ha t2 (.tup [.int (w1 - p1 - b),.int h1])):=G8 h2';have kb:(upd Ha t2 (.tup [.int (w1 - p1 - b),.int h1])) t2=some (.tup [.int (w1 - p1 - b),.int h1]):=ag;generalize upd Ha t2 (.tup [.int (w1 - p1 - b),.int h1])=Hb at sb kb ⊢;refine ⟨zS2,λ u hu=>?_⟩;have sc:Same Hb (upd Hb u (.tup [.ref t1,.ref t2])):=G8 hu;have kc:(upd Hb u (.tup [.ref t1,.ref t2])) u=some (.tup [.ref t1,.ref t2]):=ag;generalize upd Hb u (.tup [.ref t1,.ref t2])=Hc at sc kc ⊢;exact q u t1 t2 Hc kc (sc _ _ (sb _ _ ka)) (sc _ _ kb) ((sa.trans sb).trans sc)
 | false =>
  refine ⟨_,O,O,_,O,aA ?_⟩;refine ⟨_,O,_,O,zS2,λ t1 h1'=>?_⟩;have sa:Same H (upd H t1 (.tup [.int w1,.int p1])):=G8 h1';have ka:(upd H t1 (.tup [.int w1,.int p1])) t1=some (.tup [.int w1,.int p1]):=ag;generalize upd H t1 (.tup [.int w1,.int p1])=Ha at sa ka ⊢;refine ⟨_,O,_,O,_,O,_,_,O,O,_,O,_,_,O,O,zS2,λ t2 h2'=>?_⟩;have sb:Same Ha (upd Ha t2 (.tup [.int w1,.int (h1 - p1 - b)])):=G8 h2';have kb:(upd Ha t2 (.tup [.int w1,.int (h1 - p1 - b)])) t2=some (.tup [.int w1,.int (h1 - p1 - b)]):=ag;generalize upd Ha t2 (.tup [.int w1,.int (h1 - p1 - b)])=Hb at sb kb ⊢;refine ⟨zS2,λ u hu=>?_⟩;have sc:Same Hb (upd Hb u (.tup [.ref t1,.ref t2])):=G8 hu;have kc:(upd Hb u (.tup [.ref t1,.ref t2])) u=some (.tup [.ref t1,.ref t2]):=ag;generalize upd Hb u (.tup [.ref t1,.ref t2])=Hc at sc kc ⊢;exact q u t1 t2 Hc kc (sc _ _ (sb _ _ ka)) (sc _ _ kb) ((sa.trans sb).trans sc)
theorem hG {d:PyData} {z:Str} {n:Nat} (h:bw d z n=true):∃r,aQ d=some (.str z :: r)/\r.length + 1=n:=by
 unfold bw at h
 split at h
 ·rename_i y r e
  rw [Bool.and_eq_true] at h;have:=B9 h.2;subst this;exact ⟨r,e,B9 h.1⟩
 ·cases h
theorem Dt.ref_row {p:Addr} {H:Hp} {v:V} {d:PyData} {ds:List PyData} (h:Dt p H v d) (e:aQ d=some ds):∃a xs,v=.ref a/\(H a=some (.lst xs)\/H a=some (.tup xs))/\Dts p H xs ds:=by
 cases h <;> simp only [aQ,Option.some.injEq,reduceCtorEq] at e
 ·subst e; exact ⟨_,_,O,.inl ‹_›,‹_›⟩
 ·subst e; exact ⟨_,_,O,.inr ‹_›,‹_›⟩
theorem ixR {H H1:Hp} {a:Addr} {xs:List V} (s1:Same H H1) (hx:H a=some (.lst xs)\/H a=some (.tup xs)) {i:Int} {x:V} (e:atI xs i=some x) {Q':VK} (h:Q' x H1):rIx K (.ref a) (.int i) H1 Q' :=
 hx.elim (λ z=>.inl ⟨a,_,i,x,O,O,IV (s1 _ _ z),e,h⟩) (λ z=>.inr (.inl ⟨a,_,i,x,O,O,IU (s1 _ _ z),e,h⟩))
theorem sccut:FnScope ["blade","spot","tree","way","side"] ["blade","spot"] (defScope jr):=⟨O,O,O,by decide +kernel,O,by decide +kernel,by decide +kernel⟩
theorem vw {f wa:Addr} {fd:G5} (F:Fun K "is_cut" "is_cut" jr f fd) (Z:TrC K mg wa) (DB:Dn P w K mg base "begins_with" ["thing","word","many"] 2 spBegins) (DW:Dn P w K mg base "is_whole" ["thing","least"] 1 (bB K)):FnOk P w K mg base CX0 3 f fd ["blade","spot"] (spCut):=by
 refine F.ok sccut (λ vs H Q E h=>?_) (λ cdv A outer s H vs Q E hr h=>?_)
 ·obtain ⟨pp,b,x1,y1,w1,h1,sp,v,d,rfl,_⟩:=h
  rfl
 refine eY λ G9 k9=>?_;obtain ⟨pp,b,x0',y0',w1,h1,sp,v,d,rfl,hsp,hd,q⟩:=h;refine k9 ?_;have nd:=sccut.nd;obtain ⟨tdn,hdn⟩:=Z.dn;obtain ⟨trs,hrs⟩:=Z.rs;obtain ⟨tpc,hpc⟩:=Z.pc;obtain ⟨tn1,hn1⟩:=Z.n1;obtain ⟨tn5,hn5⟩:=Z.n5;obtain ⟨tn4,hn4⟩:=Z.n4;have hr1:=hr.mono (show 1<=2 by decide);refine ⟨_,(@af _ _ _ _ _ (@aB _ _ 2 _ _ _ _ nd O (Or.inl O) (@ax _ _ _ _ _ _ _ ix_tup (pv 1) ae (λ _ _=>O)) O (Or.inl O)) (@af _ _ _ _ _ (@bV _ _ _ _ _ _ _ _ E1 O (iV (aO (v:=.ref wa) O Z.wy O)) (aj (i:=3) nd O (Or.inl O)) (@ah _ _ _ (@aG _ _ _ _ _ _ _ _ (@aI _ _ _ (@ao _ _ _ _ _ _ _ _ _ _ DB hr O ((pv 2)^^^((pv 3)^^^((aO (v:=.int 4) O hn4 ⟨tn4,O⟩)^^^ad))) (by decide) O O) (by intro _; rfl)) (@af _ _ _ _ _ (@aB _ _ 4 _ _ _ _ nd O (Or.inl O) (jB (@aw _ _ _ _ _ _ _ _ bf (pv 3) (aO (v:=.str "down") O hdn ⟨tdn,O⟩) (av _)) (@ax _ _ _ _ _ _ _ ix_tup (pv 1) ae (λ _ _=>O)) (@ax _ _ _ _ _ _ _ ix_tup (pv 1) ae (λ _ _=>O))) O (Or.inl O)) (@ah _ _ _ (@aq _ _ _ _ (cA (@ao _ _ _ _ _ _ _ _ _ _ DW hr1 O ((@ax _ _ _ _ _ _ _ aP (pv 2) ae (λ _ _=>O))^^^(ae^^^ad)) (by decide) O O) (dg (@bt _ _ _ _ _ _ _ _ mz (@au _ _ _ _ _ _ _ _ aV (@ax _ _ _ _ _ _ _ aP (pv 2) ae (λ _ _=>O)) (pv 0)) (pv 4) (av _))))))) ar)) (by intro _; rfl)) (@ah _ _ _ (@aq _ _ _ _ aY)))),?_⟩;refine ⟨_,O,sp,_,4,_,O,O,IU hsp,O,?_⟩;refine ⟨wa, O, ⟨_, Z.wq H⟩, iX (xs:=[.str "down", .str "across"]) (λ i σ H'=>(∃v3 v4, σ=[some (.int b), some (.ref sp), some v, v3, v4])/\Same H H'/\(1<=i->bw d "down" 4=false)/\(2<=i->bw d "across" 4=false)) ⟨⟨_, _, O⟩, Same.refl _, λ z=>absurd z (by decide), λ z=>absurd z (by decide)⟩ (λ i σ H' _ _=>Z.wq H') ?_ ?_⟩
 ·rintro i y σ H1 hi ⟨⟨v3,v4,rfl⟩,s1,g1,g2⟩
  match i,hi with
  | 0,hi =>
   cases hi;refine ⟨_,O,_,O,pp,v,d,"down",4,O,by decide,hd.same s1,λ H2 s12=>⟨_,O,?_⟩⟩;have s2:=s1.trans s12;refine bW (λ hb=>?_) (λ hb=>⟨⟨_,_,O⟩,s2,λ _=>by simpa using hb,λ z=>absurd z (by decide)⟩);obtain ⟨r0,er,rl⟩:=hG hb;obtain ⟨a,xs,rfl,hx,dx⟩:=hd.ref_row er;cases dx with
   | @cons x0 _ xs0 _ hd0 dx =>
   obtain ⟨x1,x2,x3,d1,d2,d3,rfl,rfl,hd1,hd2,hd3⟩:=dx.three (by simpa using rl);have sp2:=s2 _ _ hsp;have co:eL b w1 d=sW b w1 d1:=by unfold eL;rw [er]
   refine ⟨_,O,O,_,O,aF ⟨_,O,sp,_,2,_,O,O,IU sp2,O,?_⟩⟩;have at1:atI [x0,x1,x2,x3] 1=some x1:=aL (by decide) rfl;obtain ⟨T1,t1⟩:=(hd1.same s2).ty (K:=K);refine ⟨_,O,ixR s2 hx at1 ⟨x1,T1,1,O,t1,_,O,?_⟩⟩;have q1:=q H2 s2;unfold isC at q1;rw [if_pos hb,co] at q1;cases hd1 with
   | int p =>
    have q1:Q (.bl (decide (1<=p) && decide (p + b < w1))) H2:=q1;refine bW (λ cc=>?_) (λ cc=>?_)
    ·have cc:decide (1<=p)=true:=cc;refine ⟨_,O,ixR s2 hx at1 ⟨_,O,_,_,O,O,_,O,_,_,O,O,?_⟩⟩;rw [cc,Bool.true_and] at q1;exact q1
    ·have cc:¬ decide (1<=p)=true:=cc;rw [show decide (1<=p)=false by simpa using cc,Bool.false_and] at q1;exact q1
   | _=>exact aA q1
  | 1,hi =>
   cases hi;have hb0:=g1 (by decide);refine ⟨_,O,_,O,pp,v,d,"across",4,O,by decide,hd.same s1,λ H2 s12=>⟨_,O,?_⟩⟩;have s2:=s1.trans s12;refine bW (λ hb=>?_) (λ hb=>⟨⟨_,_,O⟩,s2,λ _=>hb0,λ _=>by simpa using hb⟩);obtain ⟨r0,er,rl⟩:=hG hb;obtain ⟨a,xs,rfl,hx,dx⟩:=hd.ref_row er;cases dx with
   | @cons x0 _ xs0 _ hd0 dx =>
   obtain ⟨x1,x2,x3,d1,d2,d3,rfl,rfl,hd1,hd2,hd3⟩:=dx.three (by simpa using rl);have sp2:=s2 _ _ hsp;have co:eL b h1 d=sW b h1 d1:=by unfold eL;rw [er]
   refine ⟨_,O,O,_,O,aA ⟨_,O,sp,_,3,_,O,O,IU sp2,O,?_⟩⟩;have at1:atI [x0,x1,x2,x3] 1=some x1:=aL (by decide) rfl;obtain ⟨T1,t1⟩:=(hd1.same s2).ty (K:=K);refine ⟨_,O,ixR s2 hx at1 ⟨x1,T1,1,O,t1,_,O,?_⟩⟩;have q1:=q H2 s2;unfold isC at q1;rw [if_neg (by rw [hb0]; decide),if_pos hb,co] at q1;cases hd1 with
   | int p =>
    have q1:Q (.bl (decide (1<=p) && decide (p + b < h1))) H2:=q1;refine bW (λ cc=>?_) (λ cc=>?_)
    ·have cc:decide (1<=p)=true:=cc;refine ⟨_,O,ixR s2 hx at1 ⟨_,O,_,_,O,O,_,O,_,_,O,O,?_⟩⟩;rw [cc,Bool.true_and] at q1;exact q1
    ·have cc:¬ decide (1<=p)=true:=cc;rw [show decide (1<=p)=false by simpa using cc,Bool.false_and] at q1;exact q1
   | _=>exact aA q1
 ·rintro σ H1 ⟨⟨v3,v4,rfl⟩,s1,g1,g2⟩;have q1:=q H1 s1;unfold isC at q1;rw [if_neg (by rw [g1 (by decide)]; decide),if_neg (by rw [g2 (by decide)]; decide)] at q1;exact q1
theorem cM {C:Addr} {H H':Hp} {s:Addr} {b:Int} {ks:List Kd} (k:Same H H') (S:ShopAt C H s b ks):ShopAt C H' s b ks:=S.keep (λ c o e=>k _ _ e) (λ c C' d fs e=>k _ _ e)
theorem scleaf:FnScope ["shop","spot","x","y","wide","high","tree"] ["shop","spot"] (defScope gw):=⟨O,O,O,by decide +kernel,O,by decide +kernel,by decide +kernel⟩
theorem sX {f wa C:Addr} {fd:G5} (F:Fun K "is_leaf" "is_leaf" gw f fd) (Z:TrC K mg wa) (DB:Dn P w K mg base "begins_with" ["thing","word","many"] 2 spBegins) (DL:Dn P w K mg base "lies_in" ["shop","wide","high","kind","turned","x","y"] 4 (spLiesG K C)):FnOk P w K mg base CX0 5 f fd ["shop","spot"] (spLeaf C):=by
 refine F.ok scleaf (λ vs H Q E h=>?_) (λ cdv A outer s H vs Q E hr h=>?_)
 ·refine eY λ G9 k9=>?_;obtain ⟨pp,b',x1,y1,w1,h1,s,sp,ks,v,d,rfl,_⟩:=h;refine k9 ?_
  rfl
 refine eY λ G9 k9=>?_;obtain ⟨pp,b',x0',y0',w1,h1,s,sp,ks,v,d,rfl,S,hsp,hd,q⟩:=h;refine k9 ?_;have nd:=scleaf.nd;obtain ⟨tdn,hdn⟩:=Z.dn;obtain ⟨trs,hrs⟩:=Z.rs;obtain ⟨tpc,hpc⟩:=Z.pc;obtain ⟨tn1,hn1⟩:=Z.n1;obtain ⟨tn5,hn5⟩:=Z.n5;obtain ⟨tn4,hn4⟩:=Z.n4;have hr2:=hr.mono (show 2<=4 by decide);refine ⟨_,(@af _ _ _ _ _ (@bJ _ _ _ _ _ _ (pv 1) (bq O (ai (aj (i:=2) nd O (Or.inl O)) (ai (aj (i:=3) nd O (Or.inl O)) (ai (aj (i:=4) nd O (Or.inl O)) (ai (aj (i:=5) nd O (Or.inl O)) (ai (aj (i:=6) nd O (Or.inl O)) aU)))))) O O O) (@af _ _ _ _ _ (@aG _ _ _ _ _ _ _ _ (@aI _ _ _ (@ao _ _ _ _ _ _ _ _ _ _ DB hr2 O ((pv 6)^^^((aO (v:=.str "piece") O hpc ⟨tpc,O⟩)^^^((aO (v:=.int 5) O hn5 ⟨tn5,O⟩)^^^ad))) (by decide) O O) (by intro _; rfl)) (@ah _ _ _ (@aq _ _ _ _ (@ao _ _ _ _ _ _ _ _ _ _ DL hr O ((pv 0)^^^((pv 4)^^^((pv 5)^^^((@ax _ _ _ _ _ _ _ aP (pv 6) ae (λ _ _=>O))^^^((@ax _ _ _ _ _ _ _ aP (pv 6) ae (λ _ _=>O))^^^((@ax _ _ _ _ _ _ _ aP (pv 6) ae (λ _ _=>O))^^^((@ax _ _ _ _ _ _ _ aP (pv 6) ae (λ _ _=>O))^^^ad))))))) (by decide) O O))) ar) (@ah _ _ _ (@aq _ _ _ _ (@ao _ _ _ _ _ _ _ _ _ _ DB hr2 O ((pv 6)^^^((aO (v:=.str "rest") O hrs ⟨trs,O⟩)^^^((aO (v:=.int 1) O hn1 ⟨tn1,O⟩)^^^ad))) (by decide) O O))))),?_⟩;refine ⟨_,O,sp,_,O,IU hsp,O,_,_,O,_,_,O,_,_,O,_,_,O,_,_,O,O,?_⟩;refine ⟨_,O,pp,v,d,"piece",5,O,by decide,hd,λ H1 s1=>⟨_,O,?_⟩⟩;refine bW (λ hb=>?_) (λ hb=>?_)
 ·obtain ⟨r0,er,rl⟩:=hG hb;obtain ⟨a,xs,rfl,hx,dx⟩:=hd.ref_row er;cases dx with
  | @cons x0 _ xs0 _ hd0 dx =>
  refine eY λ G9 k9=>?_;obtain ⟨x1,x2,x3,x4,d1,d2,d3,d4,rfl,rfl,hd1,hd2,hd3,hd4⟩:=dx.four (by simpa using rl);refine k9 ?_;have a1:atI [x0,x1,x2,x3,x4] 1=some x1:=aL (by decide) rfl;have a2:atI [x0,x1,x2,x3,x4] 2=some x2:=aL (by decide) rfl;have a3:atI [x0,x1,x2,x3,x4] 3=some x3:=aL (by decide) rfl;have a4:atI [x0,x1,x2,x3,x4] 4=some x4:=aL (by decide) rfl;obtain ⟨T1,t1⟩:=(hd1.same s1).ty (K:=K);obtain ⟨T2,t2⟩:=(hd2.same s1).ty (K:=K);obtain ⟨T3,t3⟩:=(hd3.same s1).ty (K:=K);obtain ⟨T4,t4⟩:=(hd4.same s1).ty (K:=K);refine ⟨_,O,_,O,_,O,_,O,ixR s1 hx a1 ⟨_,O,ixR s1 hx a2 ⟨_,O,ixR s1 hx a3 ⟨_,O,ixR s1 hx a4 ?_⟩⟩⟩⟩;refine ⟨s,b',ks,w1,h1,x1,x2,x3,x4,T1,T2,T3,T4,O,cM s1 S,t1,t2,t3,t4,λ H2 s2=>?_⟩;have q1:=q H2 (s1.trans s2);unfold isL at q1;rw [if_pos hb,er] at q1;have e:eH ks w1 h1 d1 d2 d3 d4=bN ks w1 h1 x1 x2 x3 x4:=by
   cases hd1 with
   | int i=>cases hd2 with
    | bl c=>cases hd3 with
     | int x=>cases hd4 with
      | int y=>rfl
      | _=>simp [eH,bN,aK]
     | _=>simp [eH,bN,aK]
    | _=>simp [eH,bN,ce]
   | _=>simp [eH,bN,ce]
  have q1:Q (.bl (eH ks w1 h1 d1 d2 d3 d4)) H2:=q1;rw [e] at q1;exact q1
 ·refine ⟨_,O,pp,v,d,"rest",1,O,by decide,hd.same s1,λ H2 s2=>?_⟩;have q1:=q H2 (s1.trans s2);unfold isL at q1;rw [if_neg hb] at q1;exact q1
theorem scbehind:FnScope ["blade","spot","x","y","wide","high","tree","way","p","first","second","wide_ahead","high_ahead","wide_behind","high_behind","step","far_x","far_y"] ["blade","spot"] (defScope ck):=⟨O,O,O,by decide +kernel,O,by decide +kernel,by decide +kernel⟩
theorem nV {f wa:Addr} {fd:G5} (F:Fun K "spots_behind" "spots_behind" ck f fd) (Z:TrC K mg wa) (DP:Dn P w K mg base "cut_parts" ["blade","part","way","p"] 1 spParts2):FnOk P w K mg base CX0 2 f fd ["blade","spot"] (spBehind):=by
 refine F.ok scbehind (λ vs H Q E h=>?_) (λ cdv A outer s H vs Q E hr h=>?_)
 ·refine eY λ G9 k9=>?_;obtain ⟨b,x1,y1,w1,h1,p1,sp,a,dn,l,r,rfl,_⟩:=h;refine k9 ?_
  rfl
 refine eY λ G9 k9=>?_;obtain ⟨b,x1,y1,w1,h1,p1,sp,a,dn,l,r,rfl,hsp,ha,q⟩:=h;refine k9 ?_;have nd:=scbehind.nd;obtain ⟨tdn,hdn⟩:=Z.dn;obtain ⟨trs,hrs⟩:=Z.rs;obtain ⟨tpc,hpc⟩:=Z.pc;obtain ⟨tn1,hn1⟩:=Z.n1;obtain ⟨tn5,hn5⟩:=Z.n5;obtain ⟨tn4,hn4⟩:=Z.n4;refine ⟨_,(@af _ _ _ _ _ (@bJ _ _ _ _ _ _ (pv 1) (bq O (ai (aj (i:=2) nd O (Or.inl O)) (ai (aj (i:=3) nd O (Or.inl O)) (ai (aj (i:=4) nd O (Or.inl O)) (ai (aj (i:=5) nd O (Or.inl O)) (ai (aj (i:=6) nd O (Or.inl O)) aU)))))) O O O) (@af _ _ _ _ _ (@bJ _ _ _ _ _ _ (pv 6) (kU O (ai (aj (i:=7) nd O (Or.inl O)) (ai (aj (i:=8) nd O (Or.inl O)) (ai (aj (i:=9) nd O (Or.inl O)) (ai (aj (i:=10) nd O (Or.inl O)) aU))))) O O O) (@af _ _ _ _ _ (@bJ _ _ _ _ _ _ (@ao _ _ _ _ _ _ _ _ _ _ DP hr O ((pv 0)^^^((@az _ _ _ _ _ ((pv 4)^^^((pv 5)^^^ad)))^^^((pv 7)^^^((pv 8)^^^ad)))) (by decide) O O) (bq O (ai (bq O (ai (aj (i:=11) nd O (Or.inl O)) (ai (aj (i:=12) nd O (Or.inl O)) aU))) (ai (bq O (ai (aj (i:=13) nd O (Or.inl O)) (ai (aj (i:=14) nd O (Or.inl O)) aU))) aU))) O O O) (@af _ _ _ _ _ (@aB _ _ 15 _ _ _ _ nd O (Or.inl O) (@au _ _ _ _ _ _ _ _ aV (pv 8) (pv 0)) O (Or.inl O)) (@af _ _ _ _ _ (@bJ _ _ _ _ _ _ (jB (@aw _ _ _ _ _ _ _ _ bf (pv 7) (aO (v:=.str "down") O hdn ⟨tdn,O⟩) (av _)) (@az _ _ _ _ _ ((@au _ _ _ _ _ _ _ _ aV (pv 2) (pv 15))^^^((pv 3)^^^ad))) (@az _ _ _ _ _ ((pv 2)^^^((@au _ _ _ _ _ _ _ _ aV (pv 3) (pv 15))^^^ad)))) (bq O (ai (aj (i:=16) nd O (Or.inl O)) (ai (aj (i:=17) nd O (Or.inl O)) aU))) O O O) (@ah _ _ _ (@aq _ _ _ _ (@aM _ _ _ _ ((@az _ _ _ _ _ ((pv 2)^^^((pv 3)^^^((pv 11)^^^((pv 12)^^^((pv 9)^^^ad))))))^^^((@az _ _ _ _ _ ((pv 16)^^^((pv 17)^^^((pv 13)^^^((pv 14)^^^((pv 10)^^^ad))))))^^^ad)))))))))),?_⟩;refine ⟨_,O,sp,_,O,IU hsp,O,_,_,O,_,_,O,_,_,O,_,_,O,_,_,O,O,?_⟩;have sq:SqL K H a [.str (if dn=true then "down" else "across"),.int p1,l,r]\/SqT K H a [.str (if dn=true then "down" else "across"),.int p1,l,r]:=ha.imp (λ z=>IV z) λ z=>IU z;refine ⟨_,O,a,_,O,sq,O,_,_,O,_,_,O,_,_,O,_,_,O,O,?_⟩;clear sq;cases dn with
 | true =>
  refine ⟨_,O,_,O,_,O,zS2,λ tp htp=>?_⟩;have sa:Same H (upd H tp (.tup [.int w1,.int h1])):=G8 htp;have ka:(upd H tp (.tup [.int w1,.int h1])) tp=some (.tup [.int w1,.int h1]):=ag;generalize upd H tp (.tup [.int w1,.int h1])=Ha at sa ka ⊢;refine ⟨_,O,_,O,b,w1,h1,p1,tp,true,O,ka,λ u t1 t2 Hb ku k1 k2 sb=>?_⟩;refine ⟨u,_,O,IU ku,O,_,_,O,t1,_,O,IU k1,O,_,_,O,_,_,O,O,_,_,O,t2,_,O,IU k2,O,_,_,O,_,_,O,O,O,?_⟩;refine bi (λ σ' H'=>σ'=[some (.int b), some (.ref sp), some (.int x1), some (.int y1), some (.int w1), some (.int h1), some (.ref a), some (.str "down"), some (.int p1), some l, some r, some (.int p1), some (.int h1), some (.int (w1 - p1 - b)), some (.int h1), none, none, none]/\Hb=H') (λ R hR=>hR _ _ ⟨rfl, rfl⟩) ?_;rintro _ _ ⟨rfl,rfl⟩;refine ⟨_,O,_,O,_,_,O,O,?_⟩;refine ⟨_,O,O,_,O,aF ⟨_,O,_,O,_,_,O,O,_,O,zS2,λ tf hf=>?_⟩⟩;have sd:Same Hb (upd Hb tf (.tup [.int (x1 + (p1 + b)),.int y1])):=G8 hf;have kd:(upd Hb tf (.tup [.int (x1 + (p1 + b)),.int y1])) tf=some (.tup [.int (x1 + (p1 + b)),.int y1]):=ag;generalize upd Hb tf (.tup [.int (x1 + (p1 + b)),.int y1])=Hd at sd kd ⊢;refine ⟨tf,_,O,IU kd,O,_,_,O,_,_,O,O,?_⟩;refine ⟨_,O,_,O,_,O,_,O,_,O,zS5,λ g1 hg1=>?_⟩;have se:Same Hd (upd Hd g1 (.tup [.int x1,.int y1,.int p1,.int h1,l])):=G8 hg1;have ke:(upd Hd g1 (.tup [.int x1,.int y1,.int p1,.int h1,l])) g1=some (.tup [.int x1,.int y1,.int p1,.int h1,l]):=ag;generalize upd Hd g1 (.tup [.int x1,.int y1,.int p1,.int h1,l])=He at se ke ⊢;refine ⟨_,O,_,O,_,O,_,O,_,O,zS5,λ g2 hg2=>?_⟩;have sf:Same He (upd He g2 (.tup [.int (x1 + (p1 + b)),.int y1,.int (w1 - p1 - b),.int h1,r])):=G8 hg2;have kf:(upd He g2 (.tup [.int (x1 + (p1 + b)),.int y1,.int (w1 - p1 - b),.int h1,r])) g2=some (.tup [.int (x1 + (p1 + b)),.int y1,.int (w1 - p1 - b),.int h1,r]):=ag;generalize upd He g2 (.tup [.int (x1 + (p1 + b)),.int y1,.int (w1 - p1 - b),.int h1,r])=Hf at sf kf ⊢;refine ⟨zS2,λ lu hlu=>?_⟩;have sg:Same Hf (upd Hf lu (.lst [.ref g1,.ref g2])):=G8 hlu;have kg:(upd Hf lu (.lst [.ref g1,.ref g2])) lu=some (.lst [.ref g1,.ref g2]):=ag;generalize upd Hf lu (.lst [.ref g1,.ref g2])=Hg at sg kg ⊢;have sA:=((((sa.trans sb).trans sd).trans se).trans sf)
  exact q lu g1 g2 Hg (sA.free hlu) kg (sg _ _ (sf _ _ ke)) (sg _ _ kf) (sA.trans sg)
 | false =>
  refine ⟨_,O,_,O,_,O,zS2,λ tp htp=>?_⟩;have sa:Same H (upd H tp (.tup [.int w1,.int h1])):=G8 htp;have ka:(upd H tp (.tup [.int w1,.int h1])) tp=some (.tup [.int w1,.int h1]):=ag;generalize upd H tp (.tup [.int w1,.int h1])=Ha at sa ka ⊢;refine ⟨_,O,_,O,b,w1,h1,p1,tp,false,O,ka,λ u t1 t2 Hb ku k1 k2 sb=>?_⟩;refine ⟨u,_,O,IU ku,O,_,_,O,t1,_,O,IU k1,O,_,_,O,_,_,O,O,_,_,O,t2,_,O,IU k2,O,_,_,O,_,_,O,O,O,?_⟩;refine bi (λ σ' H'=>σ'=[some (.int b), some (.ref sp), some (.int x1), some (.int y1), some (.int w1), some (.int h1), some (.ref a), some (.str "across"), some (.int p1), some l, some r, some (.int w1), some (.int p1), some (.int w1), some (.int (h1 - p1 - b)), none, none, none]/\Hb=H') (λ R hR=>hR _ _ ⟨rfl, rfl⟩) ?_;rintro _ _ ⟨rfl,rfl⟩;refine ⟨_,O,_,O,_,_,O,O,?_⟩;refine ⟨_,O,O,_,O,aA ⟨_,O,_,O,_,O,_,_,O,O,zS2,λ tf hf=>?_⟩⟩;have sd:Same Hb (upd Hb tf (.tup [.int x1,.int (y1 + (p1 + b))])):=G8 hf;have kd:(upd Hb tf (.tup [.int x1,.int (y1 + (p1 + b))])) tf=some (.tup [.int x1,.int (y1 + (p1 + b))]):=ag;generalize upd Hb tf (.tup [.int x1,.int (y1 + (p1 + b))])=Hd at sd kd ⊢;refine ⟨tf,_,O,IU kd,O,_,_,O,_,_,O,O,?_⟩;refine ⟨_,O,_,O,_,O,_,O,_,O,zS5,λ g1 hg1=>?_⟩;have se:Same Hd (upd Hd g1 (.tup [.int x1,.int y1,.int w1,.int p1,l])):=G8 hg1;have ke:(upd Hd g1 (.tup [.int x1,.int y1,.int w1,.int p1,l])) g1=some (.tup [.int x1,.int y1,.int w1,.int p1,l]):=ag;generalize upd Hd g1 (.tup [.int x1,.int y1,.int w1,.int p1,l])=He at se ke ⊢;refine ⟨_,O,_,O,_,O,_,O,_,O,zS5,λ g2 hg2=>?_⟩;have sf:Same He (upd He g2 (.tup [.int x1,.int (y1 + (p1 + b)),.int w1,.int (h1 - p1 - b),r])):=G8 hg2;have kf:(upd He g2 (.tup [.int x1,.int (y1 + (p1 + b)),.int w1,.int (h1 - p1 - b),r])) g2=some (.tup [.int x1,.int (y1 + (p1 + b)),.int w1,.int (h1 - p1 - b),r]):=ag;generalize upd He g2 (.tup [.int x1,.int (y1 + (p1 + b)),.int w1,.int (h1 - p1 - b),r])=Hf at sf kf ⊢;refine ⟨zS2,λ lu hlu=>?_⟩;have sg:Same Hf (upd Hf lu (.lst [.ref g1,.ref g2])):=G8 hlu;have kg:(upd Hf lu (.lst [.ref g1,.ref g2])) lu=some (.lst [.ref g1,.ref g2]):=ag;generalize upd Hf lu (.lst [.ref g1,.ref g2])=Hg at sg kg ⊢;have sA:=((((sa.trans sb).trans sd).trans se).trans sf)
  exact q lu g1 g2 Hg (sA.free hlu) kg (sg _ _ (sf _ _ ke)) (sg _ _ kf) (sA.trans sg)
end
def isT (b:Int) (ks:List Kd) (w h:Int) (d:PyData):Bool :=
 if isC b w h d=true then
  match e:aQ d with
  | some [_,.int p,l,r]=>if bw d "down" 4=true then isT b ks p h l && isT b ks (w - p - b) h r else isT b ks w p l && isT b ks w (h - p - b) r
  | _=>false
 else isL ks w h d
termination_by sizeOf d
decreasing_by all_goals (apply qI e; simp)
theorem cX {b:Int} {ks:List Kd} {w h:Int} {d:PyData} (hc:isC b w h d=false):isT b ks w h d=isL ks w h d:=by rw [isT,if_neg (by rw [hc]; decide)]
theorem gA {b:Int} {ks:List Kd} {w h:Int} {d:PyData} (hc:isC b w h d=true):∃ (dn:Bool) (p:Int) (l r:PyData),aQ d=some [.str (if dn=true then "down" else "across"),.int p,l,r]/\1<=p/\(dn=true->p + b < w)/\(dn=false->p + b < h) /\
  isT b ks w h d=(if dn=true then isT b ks p h l && isT b ks (w - p - b) h r else isT b ks w p l && isT b ks w (h - p - b) r):=by
 have key:∀side,eL b side d=true->∃x p l r,aQ d=some [x,.int p,l,r]/\1<=p/\p + b < side:=λ side h=>by
  unfold eL at h
  split at h
  ·rename_i x p l r e
   unfold sW at h
   split at h
   ·rename_i p'
    rw [Bool.and_eq_true] at h;exact ⟨x,p',l,r,e,B9 h.1,B9 h.2⟩
   ·cases h
  ·cases h
 have hc':=hc;unfold isC at hc
 by_cases hb:bw d "down" 4=true
 ·rw [if_pos hb] at hc;obtain ⟨x,p,l,r,e,p1,p2⟩:=key _ hc;obtain ⟨r',e',_⟩:=hG hb;rw [e] at e';cases e';refine ⟨true,p,l,r,e,p1,λ _=>p2,λ z=>(by cases z),?_⟩;rw [isT,if_pos hc']
  split
  ·rename_i y p' l' r' e2
   rw [e] at e2;cases e2;rw [if_pos hb]; rfl
  ·rename_i z
   exact absurd e (z _ _ _ _)
 ·rw [if_neg hb] at hc
  by_cases hb2:bw d "across" 4=true
  ·rw [if_pos hb2] at hc;obtain ⟨x,p,l,r,e,p1,p2⟩:=key _ hc;obtain ⟨r',e',_⟩:=hG hb2;rw [e] at e';cases e';refine ⟨false,p,l,r,e,p1,λ z=>(by cases z),λ _=>p2,?_⟩;rw [isT,if_pos hc']
   split
   ·rename_i y p' l' r' e2
    rw [e] at e2;cases e2;rw [if_neg hb]; rfl
   ·rename_i z
    exact absurd e (z _ _ _ _)
  ·rw [if_neg hb2] at hc;cases hc
structure Spot where
 x:Int
 y:Int
 w:Int
 h:Int
 d:PyData
def SpAt (p:Addr) (H0 H:Hp) (v:V) (t:Spot):Prop:=∃a u,v=.ref a/\H a=some (.tup [.int t.x,.int t.y,.int t.w,.int t.h,u])/\Dt p H0 u t.d
theorem SpAt.keep {p:Addr} {H0 H H':Hp} (k:∀a xs,H a=some (.tup xs)->H' a=some (.tup xs)) {v:V} {t:Spot} (h:SpAt p H0 H v t):SpAt p H0 H' v t:=by obtain ⟨a,u,e,h1,h2⟩:=h;exact ⟨a,u,e,k _ _ h1,h2⟩
def fU (ts:List Spot):Nat:=(ts.map λ t=>wt t.d).sum
theorem dX (a b:List Spot):fU (a ++ b)=fU a + fU b:=by unfold fU; rw [List.map_append,List.sum_append]
theorem jX:∀ts:List Spot,ts.length<=fU ts
 | []=>B2 _
 | t :: r=>by have:=jX r;have:=mX t.d;show r.length + 1<=wt t.d + fU r;omega
theorem nW {d x y l r:PyData} (h:aQ d=some [x,y,l,r]):wt l + wt r < wt d:=by
 cases d <;> simp only [aQ,Option.some.injEq,reduceCtorEq] at h
 ·subst h; simp only [wt,wts]; omega
 ·subst h; simp only [wt,wts]; omega
theorem qK {α β:Type} {R:α->β->Prop} {x:α}:∀ {xs:List α} {zs:List β},Paired R (xs ++ [x]) zs->∃ys y,zs=ys ++ [y]/\Paired R xs ys/\R x y
 | [],zs,h=>by
  cases h with
  | cons a t=>cases t; exact ⟨[],_,O,.nil,a⟩
 | z :: xs,zs,h=>by
  cases h with
  | cons a t =>
   obtain ⟨ys,y,rfl,p,r⟩:=qK t;exact ⟨_ :: ys,y,O,.cons a p,r⟩
theorem gl {α β:Type} {R:α->β->Prop}:∀ {xs:List α} {ys:List β} {xs':List α} {ys':List β},Paired R xs ys->Paired R xs' ys'->Paired R (xs ++ xs') (ys ++ ys')
 | _,_,_,_,.nil,h=>h
 | _,_,_,_,.cons a t,h=>.cons a (gl t h)
section
variable {P:G4} {w:G6} {K:C3} {mg:Str->Option G7} {base:Heap}
inductive spCP (vs:List V) (H:Hp) (Q:VK) (E_:XK):Prop
 | mk (w h:Int) (e_1:vs=[.int w,.int h]) (e_2:1<=w) (e_3:1<=h) (e_4:Q .non H):spCP vs H Q E_
inductive spIsTree (C:Addr) (vs:List V) (H:Hp) (Q:VK) (E_:XK):Prop
 | mk (pp s:Addr) (b w h:Int) (ks:List Kd) (v:V) (d:PyData) (e_1:vs=[.ref s,.int w,.int h,v]) (e_2:ShopAt C H s b ks) (e_3:1<=w) (e_4:1<=h) (e_5:Dt pp H v d) (e_6:wt d<=30000) (e_7:∀H',Same H H'->Q (.bl (isT b ks w h d)) H'):spIsTree C vs H Q E_
theorem sccplate:FnScope ["wide","high"] ["wide","high"] (defScope bM):=⟨O,O,O,by decide +kernel,O,by decide +kernel,by decide +kernel⟩
theorem nX {f:Addr} {fd:G5} (F:Fun K "check_plate" "check_plate" bM f fd) (DW:Dn P w K mg base "is_whole" ["thing","least"] 1 (bB K)):FnOk P w K mg base CX0 2 f fd ["wide","high"] (spCP):=by
 refine F.ok sccplate (λ vs H Q E h=>?_) (λ cdv A outer s H vs Q E hr h=>?_)
 ·obtain ⟨w1,h1,rfl,_⟩:=h
  rfl
 obtain ⟨w1,h1,rfl,w0,h0,q⟩:=h;have nd:=sccplate.nd;refine ⟨_,(@ah _ _ _ (@aG _ _ _ _ _ _ _ _ (PW.pt (br (@aS _ _ _ _ (@aI _ _ _ (@ao _ _ _ _ _ _ _ _ _ _ DW hr O ((pv 0)^^^(ae^^^ad)) (by decide) O O) (by intro _; rfl))) (bz (@aS _ _ _ _ (@aI _ _ _ (@ao _ _ _ _ _ _ _ _ _ _ DW hr O ((pv 1)^^^(ae^^^ad)) (by decide) O O) (by intro _; rfl)))))) (@ah _ _ _ aT) ar)),?_⟩;refine ⟨_,O,.int w1,"int",1,O,Ty.int,_,O,?_⟩;rw [show aK (.int w1) 1=true from decide_eq_true w0];refine aA ⟨_,rfl,.int h1,"int",1,rfl,Ty.int,_,rfl,?_⟩;rw [show aK (.int h1) 1=true from decide_eq_true h0];exact aA q
theorem scistree:FnScope ["shop","wide","high","thing","blade","waiting","spot"] ["shop","wide","high","thing"] (defScope eD):=⟨O,O,O,by decide +kernel,O,by decide +kernel,by decide +kernel⟩
theorem iL {f C:Addr} {fd:G5} (F:Fun K "is_tree" "is_tree" eD f fd) (T:ShopTxt K C) (MB:Mn P w K mg base C "blade" ["self"] 1 (gs C)) (DCP:Dn P w K mg base "check_plate" ["wide","high"] 2 (spCP)) (DC:Dn P w K mg base "is_cut" ["blade","spot"] 3 (spCut)) (DF:Dn P w K mg base "is_leaf" ["shop","spot"] 5 (spLeaf C)) (DS:Dn P w K mg base "spots_behind" ["blade","spot"] 2 (spBehind)):FnOk P w K mg base CX0 6 f fd ["shop","wide","high","thing"] (spIsTree C):=by
 refine F.ok scistree (λ vs H Q E h=>?_) (λ cdv A outer s H vs Q E hr h=>?_)
 ·obtain ⟨pp,s,b,w1,h1,ks,v,d,rfl,_⟩:=h
  rfl
 obtain ⟨pp,s,b,w1,h1,ks,v,d,rfl,S,w0,h0,hd,dz,q⟩:=h;have nd:=scistree.nd;have hr1:=hr.mono (show 1<=5 by decide);have hr2:=hr.mono (show 2<=5 by decide);have hr3:=hr.mono (show 3<=5 by decide);refine ⟨_,(@af _ _ _ _ _ (@aX _ _ _ _ (@ao _ _ _ _ _ _ _ _ _ _ DCP hr2 O ((pv 1)^^^((pv 2)^^^ad)) (by decide) O O) O) (@af _ _ _ _ _ (@aB _ _ 4 _ _ _ _ nd O (Or.inl O) (ji (pv 0) T.cl MB hr1) O (Or.inl O)) (@af _ _ _ _ _ (@aB _ _ 5 _ _ _ _ nd O (Or.inl O) (@aM _ _ _ _ ((@az _ _ _ _ _ (ae^^^(ae^^^((pv 1)^^^((pv 2)^^^((pv 3)^^^ad))))))^^^ad)) O (Or.inl O)) (@af _ _ _ _ _ (jC E1 (jE (pv 5) (λ _=>O)) (@af _ _ _ _ _ (@aB _ _ 6 _ _ _ _ nd O (Or.inl O) (pW G2 PySem.F.slot_list_pop PySem.F.type_list_pop pX (pv 5)) O (Or.inl O)) (@ah _ _ _ (@aG _ _ _ _ _ _ _ _ (@aI _ _ _ (@ao _ _ _ _ _ _ _ _ _ _ DC hr3 O ((pv 4)^^^((pv 6)^^^ad)) (by decide) O O) (by intro _; rfl)) (@ah _ _ _ (@aX _ _ _ _ (@cJ _ _ _ _ _ _ _ _ _ _ _ _ G2 PySem.F.slot_list_extend PySem.F.type_list_extend ek (pv 5) ((@ao _ _ _ _ _ _ _ _ _ _ DS hr2 O ((pv 4)^^^((pv 6)^^^ad)) (by decide) O O)^^^ad) O O O O O) O)) (@ah _ _ _ (@aG _ _ _ _ _ _ _ _ (@aS _ _ _ _ (@aI _ _ _ (@ao _ _ _ _ _ _ _ _ _ _ DF hr O ((pv 0)^^^((pv 6)^^^ad)) (by decide) O O) (by intro _; rfl))) (@ah _ _ _ (@aq _ _ _ _ aY)) ar)))))) (@ah _ _ _ (@aq _ _ _ _ aY)))))),?_⟩;have sz:(40000:Nat)<=sizeLine:=by decide
 refine ⟨_,O,_,O,w1,h1,O,w0,h0,?_⟩;obtain ⟨dx,r,rs,S1,S2,S3⟩:=id S;refine ⟨_,O,s,dx,_,O,S1,(cK _ _ (by decide +kernel) (by decide +kernel)),s,b,ks,O,S,?_⟩;refine ⟨_,O,_,O,_,O,zS5,λ t ht=>?_⟩;have sa:Same H (upd H t (.tup [.int 0,.int 0,.int w1,.int h1,v])):=G8 ht;have ka:(upd H t (.tup [.int 0,.int 0,.int w1,.int h1,v])) t=some (.tup [.int 0,.int 0,.int w1,.int h1,v]):=ag;generalize upd H t (.tup [.int 0,.int 0,.int w1,.int h1,v])=Ha at sa ka ⊢;refine ⟨zS1,λ wl hwl=>?_⟩;have sb:Same Ha (upd Ha wl (.lst [.ref t])):=G8 hwl;have kb:(upd Ha wl (.lst [.ref t])) wl=some (.lst [.ref t]):=ag;generalize upd Ha wl (.lst [.ref t])=Hb at sb kb ⊢;have fw:H wl=none:=sa.free hwl;have sab:=sa.trans sb;refine ⟨λ m σ H'=>∃ (vs:List V) (ts:List Spot) (v6:Option V),σ=[some (.ref s),some (.int w1),some (.int h1),some v,some (.int b),some (.ref wl),v6]/\m=fU ts/\H' wl=some (.lst vs)/\Paired (SpAt pp H H') vs ts/\fU ts<=30000/\isT b ks w1 h1 d=ts.all (λ t=>isT b ks t.w t.h t.d)/\Same H H',⟨_,[.ref t],[⟨0,0,w1,h1,d⟩],none,O,O,kb,.cons ⟨t,v,O,sb _ _ ka,hd⟩ .nil,by show wt d + 0<=30000; omega,by rw [List.all_cons,List.all_nil,Bool.and_true],sab⟩,?_⟩;rintro m σ H1 ⟨vs,ts,v6,rfl,rfl,hw,pr,sz1,al,s1⟩;refine ⟨_,O,_,.inl ⟨vs,IV hw,O⟩,?_⟩;rcases List.eq_nil_or_concat vs with rfl | ⟨vs',v0,rfl⟩
 ·have ets:ts=[]:=by
   have:=C9 pr;cases ts with
   | nil=>rfl
   | cons _ _=>simp at this
  subst ets;have q1:=q H1 s1;rw [al] at q1;exact aA q1
 rw [List.concat_eq_append] at pr hw ⊢;obtain ⟨ts',t0,rfl,prp,⟨sp,u,rfl,hsp,hdu⟩⟩:=qK pr;rw [show (!(vs' ++ [V.ref sp]).isEmpty)=true by cases vs' <;> rfl];have ssz:fU (ts' ++ [t0])=fU ts' + wt t0.d:=by rw [dX]; show _ + (wt t0.d + 0)=_; omega
 rw [ssz] at sz1 ⊢;refine aF ⟨λ σ' H'=>∃ (vs:List V) (ts:List Spot) (v6:Option V),σ'=[some (.ref s),some (.int w1),some (.int h1),some v,some (.int b),some (.ref wl),v6]/\fU ts < fU ts' + wt t0.d/\H' wl=some (.lst vs)/\Paired (SpAt pp H H') vs ts/\fU ts<=30000/\isT b ks w1 h1 d=ts.all (λ t=>isT b ks t.w t.h t.d)/\Same H H',λ σ' H' ⟨vs,ts,v6,e,l,r⟩=>⟨_,l,vs,ts,v6,e,rfl,r⟩,?_⟩;rw [List.all_append,List.all_cons,List.all_nil,Bool.and_true] at al;have ml:(vs' ++ [V.ref sp]).length=vs'.length + 1:=by rw [List.length_append]; rfl
 have keep:∀ {Hx:Hp} {o:HO},Same H Hx->Same H (upd Hx wl o):=λ {Hx o} sx c oo e=>by rw [am (λ z=>by rw [z,fw] at e; cases e)];exact sx _ _ e
 refine aH (λ R=>∀ (H':Hp),H' wl=some (.lst vs')->Paired (SpAt pp H H') vs' ts'->H' sp=some (.tup [.int t0.x,.int t0.y,.int t0.w,.int t0.h,u])->Same H H'->R [some (.ref s),some (.int w1),some (.int h1),some v,some (.int b),some (.ref wl),some (.ref sp)] H') (λ Dd hR=>?_) ?_
 ·refine ⟨_,O,.inl ⟨O,_,IV hw⟩,wl,_,.ref sp,O,O,hw,(by rw [ml]; simp),?_⟩;rw [List.dropLast_concat];have kt:∀ {c:Addr} {xs:List V},H1 c=some (.tup xs)->(upd H1 wl (.lst vs')) c=some (.tup xs):=λ {c xs} e=>by rw [am (λ z=>by rw [z,hw] at e; cases e)]; exact e
  exact hR _ ag (IW prp λ v t h=>h.keep λ a xs e=>kt e) (kt hsp) (keep s1)
 rintro H2 hw2 pr2 hsp2 s2;refine ⟨_,O,_,O,pp,b,t0.x,t0.y,t0.w,t0.h,sp,u,t0.d,O,hsp2,hdu.same s2,λ H3 s3=>⟨_,O,?_⟩⟩;have s03:=s2.trans s3;refine bW (λ hc=>?_) (λ hc=>?_)
 ·obtain ⟨dn,p,l,r,er,p1,pw,ph,eT⟩:=gA (ks:=ks) hc;obtain ⟨a,xs,rfl,hx,dxs⟩:=hdu.ref_row er;cases dxs with
  | @cons x0 _ xs0 _ hd0 dxs =>
  cases dxs with
  | @cons x1 _ xs1 _ hd1 dxs =>
  cases dxs with
  | @cons lv _ xs2 _ hdl dxs =>
  cases dxs with
  | @cons rv _ xs3 _ hdr dxs =>
  cases dxs;cases hd0;cases hd1;refine ⟨_,O,.inl ⟨O,_,IV (s3 _ _ hw2)⟩,_,O,_,O,?_⟩;refine ⟨b,t0.x,t0.y,t0.w,t0.h,p,sp,a,dn,lv,rv,O,s3 _ _ hsp2,hx.imp (s03 _ _) (s03 _ _),λ lu t1 t2 H4 hlu ku k1 k2 s4=>?_⟩;have hw4:=s4 _ _ (s3 _ _ hw2);have pl:=C9 pr2;have sl:=jX ts';have two:=nW er;refine ⟨wl,lu,_,_,O,O,hw4,ku,by show _ + 2<=_; omega,?_⟩;have kt:∀ {c:Addr} {xs:List V},H4 c=some (.tup xs)->(upd H4 wl (.lst (vs' ++ [.ref t1,.ref t2]))) c=some (.tup xs):=λ {c xs} e=>by rw [am (λ z=>by rw [z,hw4] at e; cases e)]; exact e
  have pr4:Paired (SpAt pp H (upd H4 wl (.lst (vs' ++ [.ref t1,.ref t2])))) vs' ts':=IW pr2 λ v t h=>h.keep λ a xs e=>kt (s4 _ _ (s3 _ _ e));cases dn with
  | true =>
   have k1:H4 t1=some (.tup [.int t0.x,.int t0.y,.int p,.int t0.h,lv]):=k1;have k2:H4 t2=some (.tup [.int (t0.x + (p + b)),.int t0.y,.int (t0.w - p - b),.int t0.h,rv]):=k2;refine ⟨vs' ++ [.ref t1,.ref t2],ts' ++ [⟨t0.x,t0.y,p,t0.h,l⟩,⟨t0.x + (p + b),t0.y,t0.w - p - b,t0.h,r⟩],_,O,?_,ag,gl pr4 (.cons ⟨t1,lv,O,kt k1,hdl⟩ (.cons ⟨t2,rv,O,kt k2,hdr⟩ .nil)),?_,?_,keep (s03.trans s4)⟩
   ·rw [dX]; show _ + (wt l + (wt r + 0)) < _; omega
   ·rw [dX]; show _ + (wt l + (wt r + 0))<=_; omega
   ·rw [al,eT,List.all_append];simp only [if_true,List.all_cons,List.all_nil,Bool.and_true]
  | false =>
   have k1:H4 t1=some (.tup [.int t0.x,.int t0.y,.int t0.w,.int p,lv]):=k1;have k2:H4 t2=some (.tup [.int t0.x,.int (t0.y + (p + b)),.int t0.w,.int (t0.h - p - b),rv]):=k2;refine ⟨vs' ++ [.ref t1,.ref t2],ts' ++ [⟨t0.x,t0.y,t0.w,p,l⟩,⟨t0.x,t0.y + (p + b),t0.w,t0.h - p - b,r⟩],_,O,?_,ag,gl pr4 (.cons ⟨t1,lv,O,kt k1,hdl⟩ (.cons ⟨t2,rv,O,kt k2,hdr⟩ .nil)),?_,?_,keep (s03.trans s4)⟩
   ·rw [dX]; show _ + (wt l + (wt r + 0)) < _; omega
   ·rw [dX]; show _ + (wt l + (wt r + 0))<=_; omega
   ·rw [al,eT,List.all_append];simp only [Bool.false_eq_true,if_false,List.all_cons,List.all_nil,Bool.and_true]
 ·have hc:isC b t0.w t0.h t0.d=false:=by simpa using hc
  have lf:=cX (ks:=ks) hc;refine ⟨_,O,_,O,pp,b,t0.x,t0.y,t0.w,t0.h,s,sp,ks,u,t0.d,O,cM s03 S,s3 _ _ hsp2,hdu.same s03,λ H4 s4=>⟨_,O,?_⟩⟩;have s04:=s03.trans s4;have sp0:=mX t0.d;cases hl:isL ks t0.w t0.h t0.d with
  | true =>
   rw [lf,hl,Bool.and_true] at al;exact aA ⟨vs',ts',_,rfl,by omega,s4 _ _ (s3 _ _ hw2),IW pr2 λ v t h=>h.keep λ a xs e=>s4 _ _ (s3 _ _ e),by omega,al,s04⟩
  | false =>
   rw [lf,hl,Bool.and_false] at al;have q1:=q H4 s04;rw [al] at q1;exact aF q1
end
section
variable {P:G4} {w:G6} {K:C3} {mg:Str->Option G7} {base:Heap}
theorem scPot:FnScope ["_law_script","_law_place","_law_cell"] ["_law_script","_law_place"] (defScope sP):=⟨O,O,O,by decide +kernel,O,by decide +kernel,by decide +kernel⟩
theorem vx {f:Addr} {fd:G5} (F:Fun K "_law_pot" "_law_pot" sP f fd) (ml:mg "len" = none) (mi:mg "int" = none):FnOk P w K mg base CX0 1 f fd ["_law_script","_law_place"] (qi K):=by
 refine F.ok scPot (λ vs H Q E h=>?_) (λ cdv A outer s H vs Q E hr h=>?_)
 ·obtain ⟨a,ns,n,rfl,_⟩:=h
  rfl
 obtain ⟨a,ns,n,rfl,hS,n0,n1,h63,q⟩:=h;refine ⟨_,af (aB (i:=2) scPot.nd rfl (Or.inl rfl) ae)
  (af (aG (aw mz (pv 1) (ay aN rfl ml PySem.boot_len (aa (pv 0) ad)) (av _)) (ah (aB (i:=2) scPot.nd rfl (Or.inl rfl) (ax ix_list (pv 0) (pv 1) (λ _ _=>rfl)))) ar)
  (ah (aq (aM (aa (au eN (pv 2) (bG cQ rfl mi PyProof.Rows.boot_int (aa (bt ip (pv 2) (au dh ae ae) (av _)) ad)))
   (aa (au fM (au aV (au aV (au eN (pv 2) ae) (au eN ae (pv 1))) ae) ae) ad)))))),?_⟩
 have hl:(ns.map V.int).length=ns.length:=List.length_map _;have fin:∀c:Int,Pot (c * (if decide ((10:Int) ^ (18:Int).toNat<=c)=true then 1 else 0)) ((c * 48271 + 7919 * n + 12345) % 2147483629):=λ c=>by
  refine ⟨?_,Int.emod_nonneg _ (by decide),Int.emod_lt_of_pos _ (by decide)⟩
  by_cases hc:(10:Int) ^ (18:Int).toNat<=c
  ·rw [decide_eq_true hc,if_pos rfl];have:(0:Int)<=(10:Int) ^ (18:Int).toNat:=by decide
   omega
  ·rw [decide_eq_false hc,if_neg Bool.false_ne_true]; omega
 refine ⟨_,O,_,O,a,_,O,.inl hS,_,_,O,O,_,O,?_⟩;refine bW (λ c=>?_) (λ c=>?_)
 ·have c':n < ((ns.map V.int).length:Int):=B9 c;rw [hl] at c';have hk:n.toNat < ns.length:=by omega
  have hv:atI (ns.map V.int) n=some (.int ns[n.toNat]):=by
   have e:n=((n.toNat:Nat):Int):=by omega
   have z:atI (ns.map V.int) ((n.toNat:Nat):Int)=some (.int ns[n.toNat]):=mE (by rw [List.getElem?_map,List.getElem?_eq_getElem hk]; rfl);rw [<- e] at z; exact z
  refine ⟨_,O,_,O,a,_,_,_,O,O,hS,hv,?_⟩;refine ⟨_,O,_,O,_,_,O,O,⟨by decide,by decide,by decide⟩,_,_,O,O,.inr ⟨_,O,_,_,O,O,.inr ⟨by split <;> decide,by split <;> decide⟩,_,O,_,_,O,O,.inr ⟨by decide,by decide⟩,_,O,_,_,O,O,.inl ⟨by decide,by decide⟩,_,_,O,O,_,_,O,O,_,_,O,O,(by show (0:Int) < 2147483629; decide),zS2,λ p hp=>?_⟩⟩;exact q p _ hp ⟨_,_,fin _,ag⟩ (λ b o e=>by rw [am (ap e hp)]; exact e)
 ·refine ⟨_,O,_,O,_,_,O,O,⟨by decide,by decide,by decide⟩,_,_,O,O,.inr ⟨_,O,_,_,O,O,.inr ⟨by split <;> decide,by split <;> decide⟩,_,O,_,_,O,O,.inr ⟨by decide,by decide⟩,_,O,_,_,O,O,.inl ⟨by decide,by decide⟩,_,_,O,O,_,_,O,O,_,_,O,O,(by show (0:Int) < 2147483629; decide),zS2,λ p hp=>?_⟩⟩;exact q p _ hp ⟨_,_,fin _,ag⟩ (λ b o e=>by rw [am (ap e hp)]; exact e)
theorem scDraw:FnScope ["_law_pot_here","_law_many","_law_found"] ["_law_pot_here","_law_many"] (defScope mS):=⟨O,O,O,by decide +kernel,O,by decide +kernel,by decide +kernel⟩
theorem sY {f:Addr} {fd:G5} (F:Fun K "_law_draw" "_law_draw" mS f fd):FnOk P w K mg base CX0 1 f fd ["_law_pot_here","_law_many"] bP:=by
 refine F.ok scDraw (λ vs H Q E h=>?_) (λ cdv A outer s H vs Q E hr h=>?_)
 ·obtain ⟨p,m,rfl,_⟩:=h
  rfl
 obtain ⟨p,m,rfl,⟨a,b,pt,hp⟩,m0,m1,q⟩:=h;refine ⟨_,af (aG (aw pL (ax ix_list (pv 0) ae (λ _ _=>rfl)) ae (av _))
   (af (aB (i:=2) scDraw.nd rfl (Or.inl rfl) (au fM (ax ix_list (pv 0) ae (λ _ _=>rfl)) (pv 1)))
   (af (bJ (au qb (ax ix_list (pv 0) ae (λ _ _=>rfl)) (pv 1)) (iT (pv 0) ae dL))
   (ah (aq (pv 2))))) ar)
  (af (bJ (au fM (au aV (au eN (ax ix_list (pv 0) ae (λ _ _=>rfl)) ae) ae) ae) (iT (pv 0) ae dL))
  (ah (aq (au fM (au rX (au fM (au eN (ax ix_list (pv 0) ae (λ _ _=>rfl)) (ax ix_list (pv 0) ae (λ _ _=>rfl))) ae) ae) (pv 1))))),?_⟩
 have at0:atI [V.int a,V.int b] 0=some (.int a):=rfl;have at1:atI [V.int a,V.int b] 1=some (.int b):=rfl;refine ⟨_,O,p,_,_,_,O,O,IV hp,at0,_,_,O,O,_,O,?_⟩;refine bW (λ c=>?_) (λ c=>?_)
 ·have c':0 < a:=B9 c;refine ⟨_,O,p,_,_,_,O,O,IV hp,at0,_,O,_,_,O,O,m0,?_⟩;refine ⟨_,O,p,_,_,_,O,O,IV hp,at0,_,O,_,_,O,O,⟨m0,m1⟩,_,O,p,_,_,_,O,O,hp,O,?_⟩;refine ⟨_,O,q _ _ (Int.emod_nonneg _ (by omega)) (Int.emod_lt_of_pos _ m0) ⟨a / m,b,⟨Int.ediv_nonneg pt.a0 (by omega),pt.b0,pt.b1⟩,ag⟩ But.upd⟩
 ·refine ⟨_,O,p,_,_,_,O,O,IV hp,at1,_,_,O,O,.inr ⟨by decide,by decide⟩,_,_,O,O,_,_,O,O,(by show (0:Int) < 2147483629; decide),_,O,p,_,_,_,O,O,hp,O,?_⟩;have n0:0<=(b * 39373 + 611953) % 2147483629:=Int.emod_nonneg _ (by decide);have n1:(b * 39373 + 611953) % 2147483629 < 2147483629:=Int.emod_lt_of_pos _ (by decide);refine ⟨_,O,p,_,_,_,O,O,IV ag,O,_,O,p,_,_,_,O,O,IV ag,O,_,_,O,O,.inl ⟨by omega,by omega⟩,_,_,O,O,(by show (0:Int) < 2147483563; decide),_,_,O,O,⟨by decide,by decide⟩,_,O,_,_,O,O,m0,?_⟩;exact q _ _ (Int.emod_nonneg _ (by omega)) (Int.emod_lt_of_pos _ m0) ⟨a,_,⟨pt.a0,n0,n1⟩,ag⟩ But.upd
theorem scNumber:FnScope ["_law_pot_here","_law_least","_law_way"] ["_law_pot_here","_law_least"] (defScope gz):=⟨O,O,O,by decide +kernel,O,by decide +kernel,by decide +kernel⟩
theorem nY {f:Addr} {fd:G5} (F:Fun K "_law_number" "_law_number" gz f fd) (D:Dn P w K mg base "_law_draw" ["_law_pot_here","_law_many"] 1 bP):FnOk P w K mg base CX0 2 f fd ["_law_pot_here","_law_least"] dP:=by
 refine F.ok scNumber (λ vs H Q E h=>?_) (λ cdv A outer s H vs Q E hr h=>?_)
 ·obtain ⟨p,l,rfl,_⟩:=h
  rfl
 obtain ⟨p,l,rfl,pt,l0,l1,q⟩:=h;refine ⟨_,af (aB (i:=2) scNumber.nd rfl (Or.inl rfl) (ao D hr rfl (aa (pv 0) (aa ae ad))))
  (af (aG (aw mz (pv 2) ae (av _)) (ah (aq (au aV (pv 1) (ao D hr rfl (aa (pv 0) (aa ae ad)))))) ar)
  (af (aG (aw bf (pv 2) ae (av _)) (ah (aq (au aV (pv 1) (ao D hr rfl (aa (pv 0) (aa (au aZ (au dh ae ae) (pv 1)) ad)))))) ar)
  (ah (aq (au aV (au aV (au dh ae ae) (au eN (ao D hr rfl (aa (pv 0) (aa (au dh ae ae) ad))) (au dh ae ae)))
   (ao D hr rfl (aa (pv 0) (aa (au dh ae ae) ad)))))))),?_⟩
 have pw:∀ {i j:Int},i=10->0<=j->j<=60->zo i j:=λ {i j} a b c=>⟨b,by omega,by subst a; decide⟩
 refine ⟨_,O,p,4,O,pt,by decide,by decide,λ y H1 y0 y1 pt1 b1=>?_⟩;refine ⟨_,O,_,_,O,O,_,O,?_⟩;refine bW (λ c=>?_) (λ c=>?_)
 ·refine ⟨_,O,_,O,p,12,O,pt1,by decide,by decide,λ r H2 r0 r1 pt2 b2=>⟨_,_,O,O,?_⟩⟩;exact q _ _ (by omega) (by omega) pt2 (b1.trans b2)
 ·refine ⟨_,O,O,_,O,?_⟩;refine bW (λ c2=>?_) (λ c2=>?_)
  ·refine ⟨_,O,_,O,_,_,O,O,pw rfl (by decide) (by decide),_,O,_,_,O,O,p,_,O,pt1,?_,?_,λ r H2 r0 r1 pt2 b2=>⟨_,_,O,O,?_⟩⟩
   ·show (0:Int) < 10 ^ 60 - l;omega
   ·show (10 ^ 60:Int) - l<=10 ^ 60;omega
   ·have r1':r < 10 ^ 60 - l:=r1;exact q _ _ (by omega) (by omega) pt2 (b1.trans b2)
  ·refine ⟨_,_,O,O,pw rfl (by decide) (by decide),_,O,_,_,O,O,pw rfl (by decide) (by decide),p,_,O,pt1,by decide,by decide,λ r H2 r0 r1 pt2 b2=>?_⟩;have r1':r < 10 ^ 9:=r1;refine ⟨_,_,O,O,pw rfl (by decide) (by decide),_,_,O,O,.inl ⟨by omega,by omega⟩,_,_,O,O,_,O,_,_,O,O,pw rfl (by decide) (by decide),p,_,O,pt2,by decide,by decide,λ r' H3 r0' r1'' pt3 b3=>⟨_,_,O,O,?_⟩⟩;have r2':r' < 10 ^ 9:=r1'';refine q _ _ ?_ ?_ pt3 (b1.trans (b2.trans b3))
   ·show l<=10 ^ 59 + r * 10 ^ 40 + r';omega
   ·show 10 ^ 59 + r * 10 ^ 40 + r' < 10 ^ 60;omega
theorem scKind:FnScope ["_law_pot_here","_law_wide","_law_high"] ["_law_pot_here"] (defScope mU):=⟨O,O,O,by decide +kernel,O,by decide +kernel,by decide +kernel⟩
theorem tm {f:Addr} {fd:G5} (F:Fun K "_law_kind" "_law_kind" mU f fd) (D:Dn P w K mg base "_law_draw" ["_law_pot_here","_law_many"] 1 bP) (N:Dn P w K mg base "_law_number" ["_law_pot_here","_law_least"] 2 dP) (mi:mg "int" = none) :
  FnOk P w K mg base CX0 3 f fd ["_law_pot_here"] kW:=by
 refine F.ok scKind (λ vs H Q E h=>?_) (λ cdv A outer s H vs Q E hr h=>?_)
 ·obtain ⟨p,rfl,_⟩:=h
  rfl
 obtain ⟨p,rfl,pt,q⟩:=h;have hr1:=hr.mono (show 1<=2 by decide);refine ⟨_,af (aB (i:=1) scKind.nd rfl (Or.inl rfl) (ao N hr rfl (aa (pv 0) (aa ae ad))))
  (af (aB (i:=2) scKind.nd rfl (Or.inl rfl) (ax ix_list (aM (aa (pv 1) (aa (ao N hr rfl (aa (pv 0) (aa ae ad))) ad)))
   (bG cQ rfl mi PyProof.Rows.boot_int (aa (bt pL (ao D hr1 rfl (aa (pv 0) (aa ae ad))) ae (av _)) ad)) (λ _ _=>rfl)))
  (ah (aq (az (aa (pv 1) (aa (pv 2) (aa (ao N hr rfl (aa (pv 0) (aa ae ad))) (aa (ao N hr rfl (aa (pv 0) (aa ae ad)))
   (aa (bt bf (ao D hr1 rfl (aa (pv 0) (aa ae ad))) ae (av _)) ad))))))))),?_⟩
 refine ⟨_,O,p,1,O,pt,by decide,by decide,λ wd H1 w0 w1 pt1 b1=>?_⟩;refine ⟨_,O,_,O,p,1,O,pt1,by decide,by decide,λ hg H2 h0 h1 pt2 b2=>⟨zS2,λ l hl=>?_⟩⟩;refine ⟨_,O,p,4,O,pt2.new hl,by decide,by decide,λ y H3 y0 y1 pt3 b3=>?_⟩;have hlp:l≠p:=λ z=>by rw [z] at hl; exact pt2.some hl
 have hl3:H3 l=some (.lst [.int wd,.int hg]):=b3 l _ hlp ag;refine ⟨_,_,O,O,.inr ⟨_,O,?_⟩⟩;obtain ⟨hh,hv,hh0,hh1⟩:∃hh:Int,atI [V.int wd,V.int hg] (if decide (0 < y)=true then (1:Int) else 0)=some (.int hh)/\1<=hh/\hh < 10 ^ 60:=by
  by_cases c:0 < y
  ·exact ⟨hg,by rw [decide_eq_true c,if_pos rfl]; rfl,h0,h1⟩
  ·exact ⟨wd,by rw [decide_eq_false c,if_neg Bool.false_ne_true]; rfl,w0,w1⟩
 refine ⟨l,_,_,_,O,O,IV hl3,hv,?_⟩;refine ⟨_,O,_,O,_,O,p,0,O,pt3,by decide,by decide,λ wo H4 o0 o1 pt4 b4=>?_⟩;refine ⟨_,O,p,0,O,pt4,by decide,by decide,λ wa H5 a0 a1 pt5 b5=>?_⟩;refine ⟨_,O,p,2,O,pt5,by decide,by decide,λ z H6 z0 z1 pt6 b6=>⟨O,zS5,λ t ht=>?_⟩⟩;have b:=(((((b1.trans b2).trans (But.new hl)).trans b3).trans b4).trans b5).trans b6;exact q t ⟨wd,hh,wo,wa,decide (V.int z=V.int 1)⟩ _ (b.free pt6 ht) ⟨w0,hh0,o0,a0,w1,hh1,o1,a1⟩ ag (pt6.new ht) (b.trans (But.new ht))
end
theorem PotAt.ne {p q:Addr} {H:Hp} (x:PotAt H p) (h:H q=none):p≠q:=λ z=>x.some (z ▸ h)
theorem PotAt.same {p:Addr} {H H':Hp} (x:PotAt H p) (s:Same H H'):PotAt H' p:=by obtain ⟨a,b,h,e⟩:=x;exact ⟨a,b,h,s _ _ e⟩
theorem bu {H:Hp} {p:Addr} (h:PotAt H p):∃xs,H p=some (.lst xs):=by obtain ⟨_,_,_,e⟩:=h;exact ⟨_,e⟩
theorem bh {p c:Addr} {H0 H:Hp} {o:HO} (b:But p H0 H) (pt:PotAt H p) (h:H c=none):∃H',upd H c o=H'/\H' c=some o/\c≠p/\Same H H'/\But p H0 H'/\PotAt H' p :=
 ⟨_,rfl,ag,Ne.symm (pt.ne h),G8 h,b.trans (But.new h),pt.new h⟩
theorem cY {p:Addr} {rs:List V} {ks:List Kd} {H H':Hp} (b:But p H H') (pt:PotAt H p) (h:Tups H rs ks):Tups H' rs ks:=by obtain ⟨_,hp⟩:=bu pt;exact Tups.keep (λ x xs e=>b _ _ (λ z=>by rw [z,hp] at e; cases e) e) h
def eZ (k:Kd) (c:Bool) (w h:Int):Bool:=decide (sd1 k c<=w) && decide (sd2 k c<=h)
def bK (k:Kd):List Bool:=if be k=true then [false,true] else [false]
section
variable {P:G4} {w:G6} {K:C3} {mg:Str->Option G7} {base:Heap}
inductive spShopL (vs:List V) (H:Hp) (Q:VK) (E_:XK):Prop
 | mk (p:Addr) (e_1:vs=[.ref p]) (e_2:PotAt H p) (e_3:∀ (t l:Addr) (b:Int) (rs:List V) (ks:List Kd) (H':Hp),H' t=some (.tup [.int b,.ref l])->H' l=some (.lst rs)->l≠p->Tups H' rs ks->(∀k∈ks,Good k)->1<=rs.length->rs.length<=8->0<=b->PotAt H' p->But p H H'->Q (.ref t) H'):spShopL vs H Q E_
inductive spPlateL (vs:List V) (H:Hp) (Q:VK) (E_:XK):Prop
 | mk (p:Addr) (e_1:vs=[.ref p]) (e_2:PotAt H p) (e_3:∀ (t:Addr) (w h:Int) (H':Hp),H' t=some (.tup [.int w,.int h])->1<=w->w < 10 ^ 60->1<=h->h < 10 ^ 60->PotAt H' p->But p H H'->Q (.ref t) H'):spPlateL vs H Q E_
theorem scplate:FnScope ["_law_pot_here"] ["_law_pot_here"] (defScope js):=⟨O,O,O,by decide +kernel,O,by decide +kernel,by decide +kernel⟩
theorem qL {f:Addr} {fd:G5} (F:Fun K "_law_plate" "_law_plate" js f fd) (B:Blt mg) (DD:Dn P w K mg base "_law_draw" ["_law_pot_here","_law_many"] 1 (bP)) (DN:Dn P w K mg base "_law_number" ["_law_pot_here","_law_least"] 2 (dP)):FnOk P w K mg base CX0 3 f fd ["_law_pot_here"] (spPlateL):=by
 refine F.ok scplate (λ vs H Q E h=>?_) (λ cdv A outer s H vs Q E hr h=>?_)
 ·obtain ⟨p,rfl,_⟩:=h
  rfl
 obtain ⟨p,rfl,pt,q⟩:=h;have nd:=scplate.nd;have hr1:=hr.mono (show 1<=2 by decide);refine ⟨_,(@af _ _ _ _ _ (@aG _ _ _ _ _ _ _ _ (@aw _ _ _ _ _ _ _ _ bf (@ao _ _ _ _ _ _ _ _ _ _ DD hr1 O ((pv 0)^^^(ae^^^ad)) (by decide) O O) ae (av _)) (@ah _ _ _ (@aq _ _ _ _ (@az _ _ _ _ _ ((@ao _ _ _ _ _ _ _ _ _ _ DN hr O ((pv 0)^^^(ae^^^ad)) (by decide) O O)^^^((@ao _ _ _ _ _ _ _ _ _ _ DN hr O ((pv 0)^^^(ae^^^ad)) (by decide) O O)^^^ad))))) ar) (@ah _ _ _ (@aq _ _ _ _ (@az _ _ _ _ _ ((@au _ _ _ _ _ _ _ _ aV ae (@ao _ _ _ _ _ _ _ _ _ _ DD hr1 O ((pv 0)^^^(ae^^^ad)) (by decide) O O))^^^((@au _ _ _ _ _ _ _ _ aV ae (@ao _ _ _ _ _ _ _ _ _ _ DD hr1 O ((pv 0)^^^(ae^^^ad)) (by decide) O O))^^^ad)))))),?_⟩;have e60:(100:Int) < 10 ^ 60:=by decide
 refine ⟨_,O,p,4,O,pt,by decide,by decide,λ z H1 z0 z1 pt1 b1=>⟨O,_,O,?_⟩⟩;refine bW (λ cc=>?_) (λ cc=>?_)
 ·refine ⟨_,O,p,1,O,pt1,by decide,by decide,λ w1 H2 wl wh pt2 b2=>⟨_,O,p,1,O,pt2,by decide,by decide,λ h1 H3 hl hh pt3 b3=>?_⟩⟩;refine ⟨zS2,λ t ht=>?_⟩;obtain ⟨H4,e4,k4,n4,s4,b4,pt4⟩:=bh (o:=.tup [.int w1,.int h1]) ((b1.trans b2).trans b3) pt3 ht;rw [e4];exact q t w1 h1 H4 k4 wl wh hl hh pt4 b4
 ·refine ⟨_,O,p,24,O,pt1,by decide,by decide,λ w1 H2 wl wh pt2 b2=>⟨_,_,O,O,_,O,p,24,O,pt2,by decide,by decide,λ h1 H3 hl hh pt3 b3=>⟨_,_,O,O,?_⟩⟩⟩;refine ⟨zS2,λ t ht=>?_⟩;obtain ⟨H4,e4,k4,n4,s4,b4,pt4⟩:=bh (o:=.tup [.int (1 + w1),.int (1 + h1)]) ((b1.trans b2).trans b3) pt3 ht;rw [show upd H3 t _=H4 from e4];exact q t _ _ H4 k4 (by omega) (by omega) (by omega) (by omega) pt4 b4
theorem scshop:FnScope ["_law_pot_here","_law_blade","_law_kinds","_law_k","_law_wide","_law_high"] ["_law_pot_here"] (defScope mV):=⟨O,O,O,by decide +kernel,O,by decide +kernel,by decide +kernel⟩
theorem tq {f:Addr} {fd:G5} (F:Fun K "_law_shop" "_law_shop" mV f fd) (B:Blt mg) (DD:Dn P w K mg base "_law_draw" ["_law_pot_here","_law_many"] 1 (bP)) (DN:Dn P w K mg base "_law_number" ["_law_pot_here","_law_least"] 2 (dP)) (DK:Dn P w K mg base "_law_kind" ["_law_pot_here"] 3 (kW)):FnOk P w K mg base CX0 4 f fd ["_law_pot_here"] (spShopL):=by
 refine F.ok scshop (λ vs H Q E h=>?_) (λ cdv A outer s H vs Q E hr h=>?_)
 ·obtain ⟨p,rfl,_⟩:=h
  rfl
 obtain ⟨p,rfl,pt,q⟩:=h;have nd:=scshop.nd;have hr1:=hr.mono (show 1<=3 by decide);have hr2:=hr.mono (show 2<=3 by decide);refine ⟨_,(@af _ _ _ _ _ (@aB _ _ 1 _ _ _ _ nd O (Or.inl O) (@ao _ _ _ _ _ _ _ _ _ _ DD hr1 O ((pv 0)^^^(ae^^^ad)) (by decide) O O) O (Or.inl O)) (@af _ _ _ _ _ (@aB _ _ 2 _ _ _ _ nd O (Or.inl O) (@aM _ _ _ _ ad) O (Or.inl O)) (@af _ _ _ _ _ (@bV _ _ _ _ _ _ _ _ E1 O (eh O B.range ((@au _ _ _ _ _ _ _ _ aV ae (@ao _ _ _ _ _ _ _ _ _ _ DD hr1 O ((pv 0)^^^(ae^^^ad)) (by decide) O O))^^^ad)) (aj (i:=3) nd O (Or.inl O)) (@af _ _ _ _ _ (@aB _ _ 4 _ _ _ _ nd O (Or.inl O) (@au _ _ _ _ _ _ _ _ aV ae (@ao _ _ _ _ _ _ _ _ _ _ DD hr1 O ((pv 0)^^^(ae^^^ad)) (by decide) O O)) O (Or.inl O)) (@af _ _ _ _ _ (@aB _ _ 5 _ _ _ _ nd O (Or.inl O) (@au _ _ _ _ _ _ _ _ aV ae (@ao _ _ _ _ _ _ _ _ _ _ DD hr1 O ((pv 0)^^^(ae^^^ad)) (by decide) O O)) O (Or.inl O)) (@ah _ _ _ (@aX _ _ _ _ (@cJ _ _ _ _ _ _ _ _ _ _ _ _ G2 PySem.F.slot_list_append PySem.F.type_list_append bC (pv 2) ((@az _ _ _ _ _ ((pv 4)^^^((pv 5)^^^((@ao _ _ _ _ _ _ _ _ _ _ DN hr2 O ((pv 0)^^^(ae^^^ad)) (by decide) O O)^^^((@ao _ _ _ _ _ _ _ _ _ _ DN hr2 O ((pv 0)^^^(ae^^^ad)) (by decide) O O)^^^((@bt _ _ _ _ _ _ _ _ bf (@ao _ _ _ _ _ _ _ _ _ _ DD hr1 O ((pv 0)^^^(ae^^^ad)) (by decide) O O) ae (av _))^^^ad))))))^^^ad) O O O O O) O)))) (by intro _; rfl)) (@af _ _ _ _ _ (@aG _ _ _ _ _ _ _ _ (@aw _ _ _ _ _ _ _ _ bf (@ao _ _ _ _ _ _ _ _ _ _ DD hr1 O ((pv 0)^^^(ae^^^ad)) (by decide) O O) ae (av _)) (@ah _ _ _ (@bJ _ _ _ _ _ _ (@ao _ _ _ _ _ _ _ _ _ _ DK hr O ((pv 0)^^^ad) (by decide) O O) (iT (pv 2) ae dL) O O O)) ar) (@af _ _ _ _ _ (@aG _ _ _ _ _ _ _ _ (@aw _ _ _ _ _ _ _ _ bf (@ao _ _ _ _ _ _ _ _ _ _ DD hr1 O ((pv 0)^^^(ae^^^ad)) (by decide) O O) ae (av _)) (@ah _ _ _ (@aB _ _ 1 _ _ _ _ nd O (Or.inl O) (@ao _ _ _ _ _ _ _ _ _ _ DN hr2 O ((pv 0)^^^(ae^^^ad)) (by decide) O O) O (Or.inl O))) ar) (@ah _ _ _ (@aq _ _ _ _ (@az _ _ _ _ _ ((pv 1)^^^((pv 2)^^^ad)))))))))),?_⟩;have e60:(100:Int) < 10 ^ 60:=by decide
 have sz:(100:Nat) < sizeLine:=by decide
 refine ⟨_,O,p,4,O,pt,by decide,by decide,λ b0 H1 b00 b01 pt1 bt1=>?_⟩;refine ⟨by decide,λ l hl=>?_⟩;obtain ⟨H2,e2,k2,n2,s2,bt2,pt2⟩:=bh (o:=.lst []) bt1 pt1 hl;rw [e2]; clear e2;refine bi (λ σ' H'=>σ'=[some (.ref p),some (.int b0),some (.ref l),none,none,none]/\H2=H') (λ R hR=>hR _ _ ⟨rfl,rfl⟩) ?_;rintro _ _ ⟨rfl,rfl⟩;refine aH (λ R=>∀ (v3 v4 v5:Option V) (rs:List V) (ks:List Kd) (H':Hp),H' l=some (.lst rs)->Tups H' rs ks->(∀k∈ks,Good k)->1<=rs.length->rs.length<=8->PotAt H' p->But p H H'->R [some (.ref p),some (.int b0),some (.ref l),v3,v4,v5] H') (λ Dd hR=>?_) ?_
 ·refine ⟨_,O,p,8,O,pt2,by decide,by decide,λ m H3 m0 m1 pt3 bt3=>⟨_,_,O,O,_,O,by omega,by omega,?_⟩⟩;have fl:H l=none:=by
   cases e:H l with
   | none=>rfl
   | some o=>rw [bt1 _ _ n2 e] at hl; cases hl
  refine ej (n:=(1 + m).toNat) (λ i σ' H'=>∃ (v3 v4 v5:Option V) (rs:List V) (ks:List Kd),σ'=[some (.ref p),some (.int b0),some (.ref l),v3,v4,v5]/\H' l=some (.lst rs)/\Tups H' rs ks/\(∀k∈ks,Good k)/\rs.length=i/\PotAt H' p/\But p H H') ⟨_,_,_,[],[],rfl,bt3 _ _ n2 k2,.nil,λ k hk=>by simp at hk,rfl,pt3,bt2.trans bt3⟩ ?_ ?_
  ·intro i _ H4 hi hI9;refine eY λ G9 k9=>?_;obtain ⟨v3,v4,v5,rs,ks,rfl,hl4,tp4,gk4,rl4,pt4,bt4⟩:=hI9;refine k9 ?_;refine ⟨_,O,p,6,O,pt4,by decide,by decide,λ w1 H5 w0 w1' pt5 b5=>⟨_,_,O,O,?_⟩⟩;refine ⟨_,O,p,6,O,pt5,by decide,by decide,λ h1 H6 h0 h1' pt6 b6=>⟨_,_,O,O,?_⟩⟩;have hl6:=b6 _ _ n2 (b5 _ _ n2 hl4);refine ⟨_,O,.inl ⟨O,_,IV hl6⟩,_,O,_,O,_,O,p,0,O,pt6,by decide,by decide,λ wo H7 wo0 wo1 pt7 b7=>?_⟩;refine ⟨_,O,p,0,O,pt7,by decide,by decide,λ wa H8 wa0 wa1 pt8 b8=>?_⟩;refine ⟨_,O,p,2,O,pt8,by decide,by decide,λ tu H9 tu0 tu1 pt9 b9=>⟨O,zS5,λ t ht=>?_⟩⟩;have b49:=(((b5.trans b6).trans b7).trans b8).trans b9;obtain ⟨Ha,ea,ka,na,sa,ba,pta⟩:=bh (o:=.tup [.int (1 + w1),.int (1 + h1),.int wo,.int wa,.bl (decide (V.int tu=V.int 1))]) (bt4.trans b49) pt9 ht;rw [show upd H9 t _=Ha from ea]; clear ea;have ka:Ha t=some (.tup (kdV ⟨1 + w1,1 + h1,wo,wa,decide (V.int tu=V.int 1)⟩)):=ka;have hla:=sa _ _ (b49 _ _ n2 hl4);refine ⟨l,_,_,O,O,hla,(by have:i < (1 + m).toNat:=hi; omega),?_⟩;have kt:∀ {c:Addr} {xs:List V} {o:HO},Ha c=some (.tup xs)->(upd Ha l (.lst (rs ++ [.ref t]))) c=some (.tup xs):=λ {c xs o} e=>by rw [am (λ z=>by rw [z,hla] at e; cases e)]; exact e
   refine ⟨_,_,_,rs ++ [.ref t],ks ++ [⟨1 + w1,1 + h1,wo,wa,decide (V.int tu=V.int 1)⟩],O,ag,?_,λ k hk=>?_,by rw [List.length_append,rl4]; rfl,?_,λ c o n e=>?_⟩
   ·refine gl (Tups.keep (λ c xs e=>kt (o:=.own 0) (sa _ _ e)) (cY b49 pt4 tp4)) (.cons ⟨t,O,kt (o:=.own 0) ka⟩ .nil)
   ·rcases C1.mp hk with hk | hk
    ·exact gk4 k hk
    ·rw [List.mem_singleton.mp hk];exact ⟨by show (1:Int)<=1 + w1; omega,by show (1:Int)<=1 + h1; omega,wo0,wa0,by show 1 + w1 < _; omega,by show 1 + h1 < _; omega,wo1,wa1⟩
   ·obtain ⟨x,y,hxy,e⟩:=pta;exact ⟨x,y,hxy,by rw [am (Ne.symm n2)]; exact e⟩
   ·rw [am (λ z=>by rw [z,fl] at e; cases e)];exact ba _ _ n e
  ·intro _ H4 hI9;refine eY λ G9 k9=>?_;obtain ⟨v3,v4,v5,rs,ks,rfl,hl4,tp4,gk4,rl4,pt4,bt4⟩:=hI9;refine k9 ?_;exact hR _ _ _ rs ks _ hl4 tp4 gk4 (by omega) (by omega) pt4 bt4
 rintro v3 v4 v5 rs ks H3 hl3 tp3 gk3 r1 r8 pt3 bt3;have fl:H l=none:=by
  cases e:H l with
  | none=>rfl
  | some o=>rw [bt1 _ _ n2 e] at hl; cases hl
 refine aH (λ R=>∀ (rs:List V) (ks:List Kd) (H':Hp),H' l=some (.lst rs)->Tups H' rs ks->(∀k∈ks,Good k)->1<=rs.length->rs.length<=8->PotAt H' p->But p H H'->R [some (.ref p),some (.int b0),some (.ref l),v3,v4,v5] H') (λ Dd hR=>?_) ?_
 ·refine ⟨_,O,p,4,O,pt3,by decide,by decide,λ z H4 z0 z1 pt4 b4=>⟨O,_,O,?_⟩⟩;refine bW (λ cc=>?_) (λ cc=>?_)
  ·refine ⟨_,O,p,O,pt4,λ t k H5 ht gk kt pt5 b5=>?_⟩;have b35:=b4.trans b5;have hl5:=b35 _ _ n2 hl3;refine ⟨_,O,l,_,0,0,O,O,hl5,(by unfold ixN; rw [if_pos (by decide),if_pos (by omega)]; rfl),?_⟩;have kt5:∀ {c:Addr} {xs:List V},H5 c=some (.tup xs)->(upd H5 l (.lst (rs.set 0 (.ref t)))) c=some (.tup xs):=λ {c xs} e=>by rw [am (λ z=>by rw [z,hl5] at e; cases e)]; exact e
   have tp5:=Tups.keep (λ c xs e=>kt5 e) (cY b35 pt3 tp3);refine hR (rs.set 0 (.ref t)) (ks.set 0 k) _ ag ?_ (λ k' hk'=>?_) (by rw [List.length_set]; exact r1) (by rw [List.length_set]; exact r8) ?_ (λ c o n e=>?_)
   ·cases tp5 with
    | nil=>exact absurd r1 (by decide)
    | cons a r=>exact .cons ⟨t,O,kt5 kt⟩ r
   ·rcases List.mem_or_eq_of_mem_set hk' with hk' | rfl
    ·exact gk3 k' hk'
    ·exact gk
   ·obtain ⟨x,y,hxy,e⟩:=pt5;exact ⟨x,y,hxy,by rw [am (Ne.symm n2)]; exact e⟩
   ·rw [am (λ z=>by rw [z,fl] at e; cases e)];exact b35 _ _ n (bt3 _ _ n e)
  ·exact hR rs ks _ (b4 _ _ n2 hl3) (cY b4 pt3 tp3) gk3 r1 r8 pt4 (bt3.trans b4)
 rintro rs' ks' H4 hl4 tp4 gk4 r1' r8' pt4 bt4;refine aH (λ R=>∀ (b:Int) (H':Hp),0<=b->PotAt H' p->But p H4 H'->R [some (.ref p),some (.int b),some (.ref l),v3,v4,v5] H') (λ Dd hR=>?_) ?_
 ·refine ⟨_,O,p,8,O,pt4,by decide,by decide,λ z H5 z0 z1 pt5 b5=>⟨O,_,O,?_⟩⟩;refine bW (λ cc=>?_) (λ cc=>?_)
  ·exact ⟨_,O,p,0,O,pt5,by decide,by decide,λ n H6 n0 n1 pt6 b6=>hR n _ n0 pt6 (b5.trans b6)⟩
  ·exact hR b0 _ b00 pt5 b5
 rintro b H5 bn pt5 b45;refine ⟨_,O,_,O,zS2,λ t ht=>?_⟩;obtain ⟨H6,e6,k6,n6,s6,b6,pt6⟩:=bh (o:=.tup [.int b,.ref l]) (bt4.trans b45) pt5 ht;rw [e6];exact q t l b rs' ks' H6 k6 (s6 _ _ (b45 _ _ n2 hl4)) n2 (Tups.keep (λ c xs e=>s6 _ _ e) (cY b45 pt4 tp4)) gk4 r1' r8' bn pt6 b6
end
def fq1 (ks:List Kd) (w h:Int) (i:Nat):List (Nat×Bool):=match ks[i]? with
 | some k=>((bK k).filter λ c=>eZ k c w h).map λ c=>(i,c)
 | none=>[]
def fq (ks:List Kd) (w h:Int) (n:Nat):List (Nat×Bool):=(List.range n).flatMap (fq1 ks w h)
theorem mY (ks:List Kd) (w h:Int) (n:Nat):fq ks w h (n + 1)=fq ks w h n ++ fq1 ks w h n:=by unfold fq;rw [List.range_succ,List.flatMap_append,List.flatMap_cons,List.flatMap_nil,List.append_nil]
theorem qM {ks:List Kd} {w h:Int} {n i:Nat} {c:Bool} (hm:(i,c)∈fq ks w h n):∃k,ks[i]? = some k/\c∈bK k/\eZ k c w h=true:=by
 unfold fq at hm;rw [List.mem_flatMap] at hm;obtain ⟨j,_,hj⟩:=hm;unfold fq1 at hj;cases e:ks[j]? with
 | none=>rw [e] at hj; cases hj
 | some k =>
  rw [e] at hj;obtain ⟨c',hc',e2⟩:=List.mem_map.mp hj;cases e2;rw [List.mem_filter] at hc';exact ⟨k,e,hc'.1,hc'.2⟩
theorem vy {ks:List Kd} {w h:Int} {i:Nat} {c:Bool} {k:Kd} (hk:ks[i]? = some k) (hc:c∈bK k) (hf:eZ k c w h=true):(i,c)∈fq ks w h ks.length:=by unfold fq;rw [List.mem_flatMap];refine ⟨i,List.mem_range.mpr (A5.mp hk).1,?_⟩;unfold fq1;rw [hk];exact List.mem_map.mpr ⟨c,List.mem_filter.mpr ⟨hc,hf⟩,O⟩
theorem mZ (ks:List Kd) (w h:Int) (i:Nat):(fq1 ks w h i).length<=2:=by
 unfold fq1
 split
 ·rw [List.length_map];refine C4 (List.length_filter_le _ _) ?_;unfold bK
  split <;> decide
 ·decide
theorem ls (ks:List Kd) (w h:Int):∀n,(fq ks w h n).length<=2 * n
 | 0=>B2 _
 | n + 1=>by rw [mY,List.length_append];have:=ls ks w h n;have:=mZ ks w h n;omega
theorem lw {a b c:St} (h1:leS a b) (h2:leS b c):leS a c:=⟨h2.1.trans h1.1,λ i v e=>h2.2 i v (h1.2 i v e)⟩
def QAt (ks:List Kd) (H:Hp) (v:V) (q:Nat×Bool):Prop:=∃a k,v=.ref a/\ks[q.1]? = some k/\H a=some (.tup [.int q.1,.bl q.2,.int (sd1 k q.2),.int (sd2 k q.2)])
theorem QAt.keep {ks:List Kd} {H H':Hp} (k:∀a xs,H a=some (.tup xs)->H' a=some (.tup xs)) {v:V} {q:Nat×Bool} (h:QAt ks H v q):QAt ks H' v q:=by obtain ⟨a,kk,e,e2,h⟩:=h;exact ⟨a,kk,e,e2,k _ _ h⟩
def Gm (k:Kd) (H:Hp) (v:V) (c:Bool):Prop:=∃a,v=.ref a/\H a=some (.tup [.int (sd1 k c),.int (sd2 k c),.bl c])
section
variable {P:G4} {w:G6} {K:C3} {mg:Str->Option G7} {base:Heap}
inductive spFitQ (vs:List V) (H:Hp) (Q:VK) (E_:XK):Prop
 | mk (kl:Addr) (rs:List V) (ks:List Kd) (w h:Int) (e_1:vs=[.ref kl,.int w,.int h]) (e_2:H kl=some (.lst rs)) (e_3:Tups H rs ks) (e_4:rs.length<=8) (e_5:∀ (l:Addr) (ys:List V) (H':Hp),H l=none->H' l=some (.lst ys)->Paired (QAt ks H') ys (fq ks w h ks.length)->Same H H'->Q (.ref l) H'):spFitQ vs H Q E_
theorem scfitq:FnScope ["_law_kinds","_law_wide","_law_high","_law_found","_law_number_here","_law_kind_here","_law_sides"] ["_law_kinds","_law_wide","_law_high"] (defScope dW):=⟨O,O,O,by decide +kernel,O,by decide +kernel,by decide +kernel⟩
theorem tD {f:Addr} {fd:G5} (F:Fun K "_law_fitting" "_law_fitting" dW f fd) (B:Blt mg):FnOk P w K mg base CX0 1 f fd ["_law_kinds","_law_wide","_law_high"] (spFitQ):=by
 refine F.ok scfitq (λ vs H Q E h=>?_) (λ cdv A outer s H vs Q E hr h=>?_)
 ·obtain ⟨kl,rs,ks,w1,h1,rfl,_⟩:=h
  rfl
 obtain ⟨kl,rs,ks,w1,h1,rfl,hk0,tp,r8,q⟩:=h;have nd:=scfitq.nd;refine ⟨_,(@af _ _ _ _ _ (@aB _ _ 3 _ _ _ _ nd O (Or.inl O) (@aM _ _ _ _ ad) O (Or.inl O)) (@af _ _ _ _ _ (@bV _ _ _ _ _ _ _ _ E1 O (sH O B.enumerate ((pv 0)^^^ad)) (bq O (ai (aj (i:=4) nd O (Or.inr O)) (ai (aj (i:=5) nd O (Or.inl O)) aU))) (@af _ _ _ _ _ (@aB _ _ 6 _ _ _ _ nd O (Or.inl O) (@aM _ _ _ _ ((@az _ _ _ _ _ ((@ax _ _ _ _ _ _ _ ix_tup (pv 5) ae (λ _ _=>O))^^^((@ax _ _ _ _ _ _ _ ix_tup (pv 5) ae (λ _ _=>O))^^^(aY^^^ad))))^^^ad)) O (Or.inl O)) (@af _ _ _ _ _ (@aG _ _ _ _ _ _ _ _ (PW.pt (iS (@aI _ _ _ (@ax _ _ _ _ _ _ _ ix_tup (pv 5) ae (λ _ _=>O)) (by intro _; rfl)) (gn (@aw _ _ _ _ _ _ _ _ gI (@ax _ _ _ _ _ _ _ ix_tup (pv 5) ae (λ _ _=>O)) (@ax _ _ _ _ _ _ _ ix_tup (pv 5) ae (λ _ _=>O)) (av _))))) (@ah _ _ _ (@aX _ _ _ _ (@cJ _ _ _ _ _ _ _ _ _ _ _ _ G2 PySem.F.slot_list_append PySem.F.type_list_append bC (pv 6) ((@az _ _ _ _ _ ((@ax _ _ _ _ _ _ _ ix_tup (pv 5) ae (λ _ _=>O))^^^((@ax _ _ _ _ _ _ _ ix_tup (pv 5) ae (λ _ _=>O))^^^(aY^^^ad))))^^^ad) O O O O O) O)) ar) (@ah _ _ _ (@aX _ _ _ _ (@cJ _ _ _ _ _ _ _ _ _ _ _ _ G2 PySem.F.slot_list_extend PySem.F.type_list_extend ek (pv 3) ((el (own:=["_law_a","_law_b","_law_turned"]) (cs:=["_law_wide","_law_high","_law_number_here"]) (cap:=[1,2,4]) O (cj (pv 6)) (bX (sc:=defScope dW) (N:=["_law_kinds","_law_wide","_law_high","_law_found","_law_number_here","_law_kind_here","_law_sides"]) O O (by decide +kernel)) (λ _ _ _ _ _=>qt K O O (by show List.Nodup (["_law_a","_law_b","_law_turned","_law_wide","_law_high","_law_number_here"]:List Str) ; decide +kernel) O O O O O O) (λ _ _ _ _ _=>(jK (PW.pt (iS (@aw _ _ _ _ _ _ _ _ fV (pv 0) (pv 3) (av _)) (gn (@aw _ _ _ _ _ _ _ _ fV (pv 1) (pv 4) (av _))))))) (λ _ _ _ _ _=>(@az _ _ _ _ _ ((pv 5)^^^((pv 2)^^^((pv 0)^^^((pv 1)^^^ad)))))))^^^ad) O O O O O) O)))) (by intro _; rfl)) (@ah _ _ _ (@aq _ _ _ _ (pv 3))))),?_⟩;have sz:(100:Nat) < sizeLine:=by decide
 refine ⟨by decide,λ l hl=>?_⟩;have s1:Same H (upd H l (.lst [])):=G8 hl;have l1:(upd H l (.lst ([]:List V))) l=some (.lst []):=ag;generalize upd H l (.lst ([]:List V))=H1 at s1 l1 ⊢;have kl1:=s1 _ _ hk0;have nkl:kl≠l:=λ e=>by rw [e,hl] at hk0; cases hk0
 have len:=C9 tp;refine ⟨_,O,kl,rs,O,.inl ⟨kl1,qo (f:=.lst) (λ _ _ e=>by cases e; rfl) (xs:=rs) (λ i σ H'=>(∃v4 v5 v6,σ=[some (.ref kl),some (.int w1),some (.int h1),some (.ref l),v4,v5,v6])/\(∃ys,H' l=some (.lst ys)/\Paired (QAt ks H') ys (fq ks w1 h1 i))/\But l H1 H') ⟨⟨_,_,_,O⟩,⟨[],l1,.nil⟩,But.refl⟩ (λ i σ H' ⟨_,_,b4⟩=>b4 _ _ nkl kl1) ?_ ?_⟩⟩
 ·rintro i x pp σ H2 hx hp ⟨⟨v4,v5,v6,rfl⟩,⟨ys,l2,py⟩,b2⟩;obtain ⟨k,hk',ka,rfl,hka⟩:=IX tp hx;have hin:i < rs.length:=(A5.mp hx).1;have nka:ka≠l:=λ e=>by rw [e,hl] at hka; cases hka
  have s3:Same H2 (upd H2 pp (.tup [.int i,.ref ka])):=G8 hp;have p3:(upd H2 pp (.tup [.int i,.ref ka])) pp=some (.tup [.int i,.ref ka]):=ag;generalize upd H2 pp (.tup [.int i,.ref ka])=H3 at s3 p3 ⊢;have ka3:H3 ka=some (.tup (kdV k)):=s3 _ _ (b2 _ _ nka (s1 _ _ hka));refine ⟨pp,_,O,IU p3,O,_,_,O,_,_,O,O,?_⟩;refine aH (λ R=>∀sl a (H':Hp),H3 sl=none->H' sl=some (.lst [.ref a])->H' a=some (.tup [.int k.w,.int k.h,.bl false])->Same H3 H'->R [some (.ref kl),some (.int w1),some (.int h1),some (.ref l),some (.int i),some (.ref ka),some (.ref sl)] H') (λ Dd hR=>?_) ?_
  ·refine ⟨_,O,ka,_,0,_,O,O,IU ka3,O,_,O,ka,_,1,_,O,O,IU ka3,O,zS3,λ a ha=>?_⟩;have s4:Same H3 (upd H3 a (.tup [.int k.w,.int k.h,.bl false])):=G8 ha;have k4:(upd H3 a (.tup [.int k.w,.int k.h,.bl false])) a=some (.tup [.int k.w,.int k.h,.bl false]):=ag;generalize upd H3 a (.tup [.int k.w,.int k.h,.bl false])=H4 at s4 k4 ⊢;exact ⟨zS1,λ sl hsl=>hR sl a _ (s4.free hsl) ag (G8 hsl _ _ k4) (s4.trans (G8 hsl))⟩
  rintro sl a0 H4 fsl hs4 ha4 s34;have nsl:sl≠l:=λ e=>by rw [e,s3 _ _ l2] at fsl; cases fsl
  have ka4:=s34 _ _ ka3;refine cq (λ R=>∀zs (H':Hp),H' sl=some (.lst zs)->Paired (Gm k H') zs (bK k)->But sl H4 H'->R [some (.ref kl),some (.int w1),some (.int h1),some (.ref l),some (.int i),some (.ref ka),some (.ref sl)] H') (λ R hR=>?_) ?_
  ·have no:be k=false->R [some (.ref kl),some (.int w1),some (.int h1),some (.ref l),some (.int i),some (.ref ka),some (.ref sl)] H4:=λ ht=>hR _ _ hs4 (by unfold bK; rw [ht]; exact .cons ⟨a0,O,ha4⟩ .nil) But.refl;refine ⟨_,O,ka,_,4,_,O,O,IU ka4,O,_,O,?_⟩;cases htu:k.tu with
   | false=>exact aA (no (by unfold be; rw [htu]; rfl))
   | true =>
    refine aF ⟨_,rfl,ka,_,0,_,rfl,rfl,IU ka4,rfl,_,rfl,ka,_,1,_,rfl,rfl,IU ka4,rfl,rfl,_,rfl,?_⟩
    by_cases hwh:k.w=k.h
    ·rw [show decide (V.int k.w=V.int k.h)=true from decide_eq_true (by rw [hwh])];exact aA (no (by unfold be; rw [decide_eq_true hwh]; simp))
    ·rw [show decide (V.int k.w=V.int k.h)=false from decide_eq_false (λ z=>hwh (V.int.inj z))];refine aF ⟨_,rfl,.inl ⟨rfl,_,IV hs4⟩,_,rfl,ka,_,1,_,rfl,rfl,IU ka4,rfl,_,rfl,ka,_,0,_,rfl,rfl,IU ka4,rfl,zS3,λ a ha=>?_⟩;have s5:Same H4 (upd H4 a (.tup [.int k.h,.int k.w,.bl true])):=G8 ha;have k5:(upd H4 a (.tup [.int k.h,.int k.w,.bl true])) a=some (.tup [.int k.h,.int k.w,.bl true]):=ag;generalize upd H4 a (.tup [.int k.h,.int k.w,.bl true])=H5 at s5 k5 ⊢;have hs5:=s5 _ _ hs4;refine ⟨sl,_,_,O,O,hs5,(by show 1 < sizeLine; decide),?_⟩;have kt:∀ {c:Addr} {xs:List V},H5 c=some (.tup xs)->(upd H5 sl (.lst ([.ref a0] ++ [.ref a]))) c=some (.tup xs):=λ {c xs} e=>by rw [am (λ z=>by rw [z,hs5] at e; cases e)]; exact e
     refine hR ([.ref a0,.ref a]) _ ag ?_ (λ c o n e=>by rw [am n]; exact s5 _ _ e);have ht:be k=true:=by unfold be; rw [htu,decide_eq_false hwh]; rfl
     unfold bK;rw [ht];exact .cons ⟨a0,O,kt (s5 _ _ ha4)⟩ (.cons ⟨a,O,kt k5⟩ .nil)
  rintro zs H5 hs5 pz5 b5;have l5:H5 l=some (.lst ys):=b5 _ _ (Ne.symm nsl) (s34 _ _ (s3 _ _ l2));have zl:=C9 pz5;have ll:(bK k).length<=2:=by unfold bK; split <;> decide
  have yl:=C9 py;have fl:=ls ks w1 h1 i;refine ⟨_,O,.inl ⟨O,_,IV l5⟩,?_⟩;have fe:fq1 ks w1 h1 i=((bK k).filter λ c=>eZ k c w1 h1).map λ c=>(i,c):=by unfold fq1; rw [hk']
  refine ⟨_,O,sl,O,⟨_,IV hs5⟩,(dQ (K:=K) (.inl hs5) (λ j us Hx=>Same H5 Hx/\Paired (QAt ks Hx) us ((((bK k).take j).filter λ c=>eZ k c w1 h1).map λ c=>(i,c))) (λ j us Hx _ ⟨sx,_⟩ o e=>sx _ _ e) ⟨Same.refl _,.nil⟩ ?_ ?_).1 hs5⟩
  ·rintro j y us Hx hj ⟨sx,pu⟩;have hjn:j < zs.length:=(A5.mp hj).1;obtain ⟨cc,hc',t,rfl,ht⟩:=IX pz5 hj;have htx:=sx _ _ ht;have pul:=C9 pu;have tk:(bK k).take (j + 1)=(bK k).take j ++ [cc]:=by rw [List.take_add_one,hc']; rfl
   have pl:us.length<=2:=by rw [pul,List.length_map];exact C4 (List.length_filter_le _ _) (by rw [List.length_take]; omega)
   refine ⟨by omega,?_⟩;refine ⟨t,_,O,IU htx,O,_,_,O,_,_,O,_,_,O,O,lw (lw (leS.set rfl) (leS.set rfl)) (leS.set rfl),?_⟩;refine ⟨_,O,_,O,_,_,O,O,_,O,?_⟩;have pn:=List.filter_append (p:=λ c=>eZ k c w1 h1) ((bK k).take j) [cc];rw [<- tk] at pn;refine bW (λ c1=>?_) (λ c1=>?_)
   ·refine ⟨_,O,_,O,_,_,O,O,_,O,?_⟩;refine bW (λ c2=>?_) (λ c2=>?_)
    ·have ff:eZ k cc w1 h1=true:=by unfold eZ; rw [c1,c2]; rfl
     refine ⟨_,O,_,O,_,O,_,O,zS4,λ z hz=>?_⟩;refine Nx.of hjn ⟨sx.trans (G8 hz),?_⟩;rw [pn,List.filter_cons,if_pos ff,List.filter_nil,List.map_append];exact gl (IW pu λ v q h=>h.keep λ a xs e=>G8 hz _ _ e) (.cons ⟨z,k,O,hk',ag⟩ .nil)
    ·have ff:¬ eZ k cc w1 h1=true:=λ z=>c2 (by unfold eZ at z; exact (Bool.and_eq_true_iff.mp z).2);refine Nx.of hjn ⟨sx,?_⟩;rw [pn,List.filter_cons,if_neg ff,List.filter_nil,List.append_nil];exact pu
   ·have ff:¬ eZ k cc w1 h1=true:=λ z=>c1 (by unfold eZ at z; exact (Bool.and_eq_true_iff.mp z).1);refine aA (Nx.of hjn ⟨sx,?_⟩);rw [pn,List.filter_cons,if_neg ff,List.filter_nil,List.append_nil];exact pu
  ·rintro us Hx ⟨sx,pu⟩;rw [zl,List.take_length,<- fe] at pu;have pul:=C9 pu;have f1:=mZ ks w1 h1 i;refine ⟨by omega,λ xl hxl=>?_⟩;have sy:Same Hx (upd Hx xl (.lst us)):=G8 hxl;have ky:(upd Hx xl (.lst us)) xl=some (.lst us):=ag;generalize upd Hx xl (.lst us)=Hy at sy ky ⊢;have ly:=sy _ _ (sx _ _ l5);refine ⟨l,xl,_,_,O,O,ly,ky,by omega,?_⟩;have kt:∀ {c:Addr} {xs:List V},Hy c=some (.tup xs)->(upd Hy l (.lst (ys ++ us))) c=some (.tup xs):=λ {c xs} e=>by rw [am (λ z=>by rw [z,ly] at e; cases e)]; exact e
   have up:∀ {c:Addr} {xs:List V},H2 c=some (.tup xs)->Hy c=some (.tup xs):=λ {c xs} e=>sy _ _ (sx _ _ (b5 _ _ (λ z=>by rw [z] at e; rw [s34 _ _ (s3 _ _ e)] at hs4; cases hs4) (s34 _ _ (s3 _ _ e))));refine ⟨⟨_,_,_,O⟩,⟨ys ++ us,ag,?_⟩,λ c o n e=>?_⟩
   ·rw [mY];exact gl (IW py λ v q h=>h.keep λ a xs e=>kt (up e)) (IW pu λ v q h=>h.keep λ a xs e=>kt (sy _ _ e))
   ·rw [am n];have e4:=s34 _ _ (s3 _ _ (b2 _ _ n e));refine sy _ _ (sx _ _ (b5 _ _ (λ z=>?_) e4));rw [z] at e;have:=s3 _ _ (b2 _ _ nsl e);rw [fsl] at this;cases this
 ·rintro σ H3 ⟨⟨v4,v5,v6,rfl⟩,⟨ys,l3,py⟩,b3⟩;rw [len] at py;exact ⟨_,O,q l ys H3 hl l3 py (λ x o e=>b3 _ _ (λ z=>by rw [z,hl] at e; cases e) (s1 _ _ e))⟩
end
inductive Tr where
 | rest
 | piece (i:Nat) (c:Bool) (x y:Int)
 | cut (dn:Bool) (p:Int) (l r:Tr)
def toD:Tr->PyData
 | .rest=>.tuple [.str "rest"]
 | .piece i c x y=>.tuple [.str "piece",.int i,.bool c,.int x,.int y]
 | .cut dn p l r=>.tuple [.str (if dn=true then "down" else "across"),.int p,toD l,toD r]
def lvN:Tr->Nat
 | .cut _ _ l r=>lvN l + lvN r
 | _=>1
theorem tE:∀t:Tr,1<=(toD t).depth
 | .rest=>by decide +kernel
 | .piece .. => by show 1<=PyData.depthAll _ + 1; omega
 | .cut .. => by show 1<=PyData.depthAll _ + 1; omega
theorem jw:∀t:Tr,(toD t).depth<=1->lvN t=1
 | .rest,_=>rfl
 | .piece ..,_=>rfl
 | .cut dn p l r,h=>by exfalso;have h:PyData.depthAll [.str (if dn=true then "down" else "across"),.int p,toD l,toD r] + 1<=1:=h;have:=tE l;simp only [PyData.depthAll,PyData.depth] at h;omega
def TrV (H:Hp):Tr->V->Prop
 | .rest,v=>∃a,v=.ref a/\H a=some (.tup [.str "rest"])
 | .piece i c x y,v=>∃a,v=.ref a/\H a=some (.tup [.str "piece",.int i,.bl c,.int x,.int y])
 | .cut dn p l r,v=>∃a x y,v=.ref a/\H a=some (.tup [.str (if dn=true then "down" else "across"),.int p,x,y])/\TrV H l x/\TrV H r y
theorem TrV.keep {H H':Hp} (k:∀a xs,H a=some (.tup xs)->H' a=some (.tup xs)):∀ (t:Tr) {v:V},TrV H t v->TrV H' t v
 | .rest,_,⟨a,e,h⟩=>⟨a,e,k _ _ h⟩
 | .piece ..,_,⟨a,e,h⟩=>⟨a,e,k _ _ h⟩
 | .cut _ _ l r,_,⟨a,x,y,e,h,h1,h2⟩=>⟨a,x,y,e,k _ _ h,TrV.keep k l h1,TrV.keep k r h2⟩
theorem TrV.dt {p:Addr} {H:Hp}:∀ (t:Tr) {v:V},TrV H t v->Dt p H v (toD t)
 | .rest,_,⟨a,e,h⟩=>by subst e; exact .tup h (.cons (.str _) .nil)
 | .piece ..,_,⟨a,e,h⟩=>by subst e; exact .tup h (.cons (.str _) (.cons (.int _) (.cons (.bl _) (.cons (.int _) (.cons (.int _) .nil)))))
 | .cut _ _ l r,_,⟨a,x,y,e,h,h1,h2⟩=>by subst e; exact .tup h (.cons (.str _) (.cons (.int _) (.cons (TrV.dt l h1) (.cons (TrV.dt r h2) .nil))))
def okT (b:Int) (ks:List Kd):Int->Int->Tr->Prop
 | _,_,.rest=>True
 | w,h,.piece i c x y=>∃k,ks[i]? = some k/\c∈bK k/\0<=x/\0<=y/\x + sd1 k c<=w/\y + sd2 k c<=h
 | w,h,.cut dn p l r=>1<=p/\(if dn=true then p + b < w/\okT b ks p h l/\okT b ks (w - p - b) h r else p + b < h/\okT b ks w p l/\okT b ks w (h - p - b) r)
theorem gB {ks:List Kd} {i:Nat} {c:Bool} {k:Kd} (hk:ks[i]? = some k) (hc:c∈bK k):ce ks (.int i) (.bl c)=true:=by
 unfold ce;simp only [Int.toNat_natCast,hk];rw [decide_eq_true (show (0:Int)<=i by omega),Bool.true_and];cases c with
 | false=>rfl
 | true =>
  unfold bK at hc;cases t:be k with
  | true=>rfl
  | false=>rw [t] at hc; simp at hc
theorem hI {b:Int} {ks:List Kd}:∀ (t:Tr) (w h:Int),okT b ks w h t->isT b ks w h (toD t)=true
 | .rest,w,h,_=>by
  rw [cX (by rfl)]
  rfl
 | .piece i c x y,w,h,⟨k,hk,hc,x0,y0,hx,hy⟩=>by
  rw [cX (by rfl)];show bN ks w h (.int i) (.bl c) (.int x) (.int y)=true;unfold bN;rw [gB hk hc];simp only [Int.toNat_natCast,hk];rw [show aK (.int x) 0=true from decide_eq_true x0,show aK (.int y) 0=true from decide_eq_true y0,decide_eq_true hx,decide_eq_true hy]
  rfl
 | .cut true p l r,w,h,⟨p1,hp,hl,hr⟩=>by
  have hc:isC b w h (toD (.cut true p l r))=true:=by show (decide (1<=p) && decide (p + b < w))=true;rw [decide_eq_true p1,decide_eq_true hp]; rfl
  obtain ⟨dn,p',l',r',e,_,_,_,eT⟩:=gA (ks:=ks) hc;cases dn with
  | true =>
   cases e;rw [eT,if_pos rfl,hI l p h hl,hI r _ h hr]; rfl
  | false =>
   exfalso;have:(PyData.str "down")=.str "across" := by have:=B7 e;exact (List.cons.inj this).1
   exact absurd (PyData.str.inj this) (by decide +kernel)
 | .cut false p l r,w,h,⟨p1,hp,hl,hr⟩=>by
  have hc:isC b w h (toD (.cut false p l r))=true:=by show (decide (1<=p) && decide (p + b < h))=true;rw [decide_eq_true p1,decide_eq_true hp]; rfl
  obtain ⟨dn,p',l',r',e,_,_,_,eT⟩:=gA (ks:=ks) hc;cases dn with
  | false =>
   cases e;rw [eT,if_neg Bool.false_ne_true,hI l w p hl,hI r w _ hr]; rfl
  | true =>
   exfalso;have:(PyData.str "across")=.str "down" := by have:=B7 e;exact (List.cons.inj this).1
   exact absurd (PyData.str.inj this) (by decide +kernel)
def But2 (p q:Addr) (H H':Hp):Prop:=∀c o,c≠p->c≠q->H c=some o->H' c=some o
theorem But2.trans {p q:Addr} {H H' H'':Hp} (a:But2 p q H H') (b:But2 p q H' H''):But2 p q H H'':=λ c o n1 n2 e=>b c o n1 n2 (a c o n1 n2 e)
theorem But2.but {p q:Addr} {H H':Hp} (a:But p H H'):But2 p q H H':=λ c o n1 _ e=>a c o n1 e
section
variable {P:G4} {w:G6} {K:C3} {mg:Str->Option G7} {base:Heap}
inductive spLeafL (vs:List V) (H:Hp) (Q:VK) (E_:XK):Prop
 | mk (p kl:Addr) (rs:List V) (ks:List Kd) (w h:Int) (e_1:vs=[.ref p,.ref kl,.int w,.int h]) (e_2:kl≠p) (e_3:H kl=some (.lst rs)) (e_4:Tups H rs ks) (e_5:rs.length<=8) (e_6:(∀k∈ks,Good k)) (e_7:1<=w) (e_8:w < 10 ^ 60) (e_9:1<=h) (e_10:h < 10 ^ 60) (e_11:PotAt H p) (e_12:∀ (v:V) (t:Tr) (H':Hp),TrV H' t v->(∀b,okT b ks w h t)->wt (toD t)<=11->(toD t).depth<=1->PotAt H' p->But p H H'->Q v H'):spLeafL vs H Q E_
inductive spTreeL (n:Nat) (vs:List V) (H:Hp) (Q:VK) (E_:XK):Prop
 | mk (p st l lf:Addr) (b:Int) (rs:List V) (ks:List Kd) (w h left:Int) (deep:Nat) (e_1:vs=[.ref p,.ref st,.int w,.int h,.ref lf,.int deep]) (e_2:H st=some (.tup [.int b,.ref l])) (e_3:H l=some (.lst rs)) (e_4:l≠p) (e_5:l≠lf) (e_6:lf≠p) (e_7:Tups H rs ks) (e_8:rs.length<=8) (e_9:(∀k∈ks,Good k)) (e_10:0<=b) (e_11:1<=w) (e_12:w < 10 ^ 60) (e_13:1<=h) (e_14:h < 10 ^ 60) (e_15:H lf=some (.lst [.int left])) (e_16:0<=left) (e_17:deep < n) (e_18:PotAt H p) (e_19:∀ (v:V) (t:Tr) (left':Int) (H':Hp),TrV H' t v->okT b ks w h t->0<=left'->left'<=left->(wt (toD t):Int)<=20 * (left - left') + 11->(toD t).depth<=deep + 1->(lvN t:Int)<=left - left' + 1->H' lf=some (.lst [.int left'])->PotAt H' p->But2 p lf H H'->Q v H'):spTreeL n vs H Q E_
theorem zK {ks:List Kd} {H:Hp}:∀ {ys:List V} {qs:List (Nat×Bool)},Paired (QAt ks H) ys qs->∃ds,DatVs K H ys ds/\ds.length=qs.length/\PyData.canLayAll0 ds=true/\PyData.depthAll ds<=1
 | _,_,.nil=>⟨[],.nil,O,O,E5 _⟩
 | _,_,.cons ⟨a,k,e,e2,h⟩ r=>by
  subst e;obtain ⟨ds,d1,d2,d3,d4⟩:=zK r;refine ⟨_ :: ds,.cons (.tup (IU h) (.cons (.int _) (.cons (.bl _) (.cons (.int _) (.cons (.int _) .nil))))) d1,by rw [List.length_cons,List.length_cons,d2],?_,?_⟩
  ·simp [PyData.canLayAll0,PyData.canLay0,d3]
  ·simp only [PyData.depthAll,PyData.depth]; omega
theorem scleafl:FnScope ["_law_pot_here","_law_kinds","_law_wide","_law_high","_law_some","_law_number_here","_law_turned","_law_a","_law_b"] ["_law_pot_here","_law_kinds","_law_wide","_law_high"] (defScope mW):=⟨O,O,O,by decide +kernel,O,by decide +kernel,by decide +kernel⟩
theorem qN {f:Addr} {fd:G5} (F:Fun K "_law_leaf" "_law_leaf" mW f fd) (B:Blt mg) (DD:Dn P w K mg base "_law_draw" ["_law_pot_here","_law_many"] 1 (bP)) (DF:Dn P w K mg base "_law_fitting" ["_law_kinds","_law_wide","_law_high"] 1 (spFitQ)):FnOk P w K mg base CX0 2 f fd ["_law_pot_here","_law_kinds","_law_wide","_law_high"] (spLeafL):=by
 refine F.ok scleafl (λ vs H Q E h=>?_) (λ cdv A outer s H vs Q E hr h=>?_)
 ·obtain ⟨p,kl,rs,ks,w1,h1,rfl,_⟩:=h
  rfl
 obtain ⟨p,kl,rs,ks,w1,h1,rfl,nkp,hk0,tp,r8,gk,w0,w60,h0,h60,pt,q⟩:=h;have nd:=scleafl.nd;have hu:=hr.units;refine ⟨_,(@af _ _ _ _ _ (@aB _ _ 4 _ _ _ _ nd O (Or.inl O) (@ao _ _ _ _ _ _ _ _ _ _ DF hr O ((pv 1)^^^((pv 2)^^^((pv 3)^^^ad))) (by decide) O O) O (Or.inl O)) (@af _ _ _ _ _ (@aG _ _ _ _ _ _ _ _ (PW.pt (br (@aw _ _ _ _ _ _ _ _ (vd hu) (pv 4) (@aM _ _ _ _ ad) (av _)) (bz (@aw _ _ _ _ _ _ _ _ bf (@ao _ _ _ _ _ _ _ _ _ _ DD hr O ((pv 0)^^^(ae^^^ad)) (by decide) O O) ae (av _))))) (@ah _ _ _ (@aq _ _ _ _ (@az _ _ _ _ _ (aJ^^^ad)))) ar) (@af _ _ _ _ _ (@bJ _ _ _ _ _ _ (@ax _ _ _ _ _ _ _ ix_list (pv 4) (@ao _ _ _ _ _ _ _ _ _ _ DD hr O ((pv 0)^^^((@ay _ _ _ _ _ _ _ _ _ aN O B.len PySem.boot_len ((pv 4)^^^ad) (by decide) (by decide) O O)^^^ad)) (by decide) O O) (λ _ _=>O)) (bq O (ai (aj (i:=5) nd O (Or.inl O)) (ai (aj (i:=6) nd O (Or.inl O)) (ai (aj (i:=7) nd O (Or.inl O)) (ai (aj (i:=8) nd O (Or.inl O)) aU))))) O O O) (@ah _ _ _ (@aq _ _ _ _ (@az _ _ _ _ _ (aJ^^^((pv 5)^^^((pv 6)^^^((@ao _ _ _ _ _ _ _ _ _ _ DD hr O ((pv 0)^^^((@au _ _ _ _ _ _ _ _ aV (@au _ _ _ _ _ _ _ _ aZ (pv 2) (pv 7)) ae)^^^ad)) (by decide) O O)^^^((@ao _ _ _ _ _ _ _ _ _ _ DD hr O ((pv 0)^^^((@au _ _ _ _ _ _ _ _ aV (@au _ _ _ _ _ _ _ _ aZ (pv 3) (pv 8)) ae)^^^ad)) (by decide) O O)^^^ad))))))))))),?_⟩;have e60:(100:Int) < 10 ^ 60:=by decide
 have sz:(100:Nat) < sizeLine:=by decide
 have len:=C9 tp;refine ⟨_,O,_,O,_,O,kl,rs,ks,w1,h1,O,hk0,tp,r8,λ l ys H1 hl l1 py s1=>?_⟩;have pt1:=pt.same s1;have nlp:l≠p:=Ne.symm (pt.ne hl);have yl:=C9 py;have fl:=ls ks w1 h1 ks.length;have rest:∀Hx, But p H Hx->PotAt Hx p->rS (zt (fh (tC (.str "rest")) jG)) { nx:=λ x H'=>Q V.non H', rt:=Q } [some (.ref p), some (.ref kl), some (.int w1), some (.int h1), some (.ref l), none, none, none, none] Hx:=λ Hx bx ptx=>by refine ⟨zS1,λ t ht=>?_⟩;obtain ⟨Hy, ey, ky, ny, sy, by', pty⟩:=bh (o:=.tup [.str "rest"]) bx ptx ht;rw [ey];exact q _ .rest Hy ⟨t,rfl,ky⟩ (λ b=>trivial) (by decide +kernel) (by decide +kernel) pty by'
 refine bi (λ σ' H'=>σ'=[some (.ref p),some (.ref kl),some (.int w1),some (.int h1),some (.ref l),none,none,none,none]/\H1=H') (λ R hR=>hR _ _ ⟨rfl,rfl⟩) ?_;rintro _ _ ⟨rfl,rfl⟩;refine cq (λ R=>∀ (H':Hp),ys≠[]->H' l=some (.lst ys)->Paired (QAt ks H') ys (fq ks w1 h1 ks.length)->PotAt H' p->But p H H'->R [some (.ref p),some (.ref kl),some (.int w1),some (.int h1),some (.ref l),none,none,none,none] H') (λ R hR=>?_) ?_
 ·refine ⟨_,O,by decide,λ e0 he0=>?_⟩;obtain ⟨H2,e2,k2,n2,s2,b2,pt2⟩:=bh (o:=.lst []) (But.refl (p:=p) (H:=H1)) pt1 he0;rw [e2]; clear e2;have s12:=s1.trans s2;have py2:Paired (QAt ks H2) ys (fq ks w1 h1 ks.length):=IW py λ v q h=>h.keep λ a xs e=>s2 _ _ e;obtain ⟨ds,d1,d2,d3,d4⟩:=zK (K:=K) py2;refine ⟨.list ds,.list [],.lst (IV (s2 _ _ l1)) d1,.lst (IV k2) .nil,?_,by decide +kernel,_,O,?_⟩
  ·simp [SeqAt.shaped,PyData.canLay0,PyData.depth,d3];omega
  cases ys with
  | nil =>
   have:ds=[]:=by cases ds with
    | nil=>rfl
    | cons _ _=>simp at d2; rw [<- yl] at d2; simp at d2
   subst this;exact aF (aF (rest _ (dE s12) pt2))
  | cons y0 yr =>
   have hne:PyData.eqv (.list ds) (.list [])=false:=by
    cases ds with
    | nil=>rw [<- yl] at d2; simp at d2
    | cons _ _=>rfl
   rw [hne];refine aA ⟨_,rfl,p,5,rfl,pt2,by decide,by decide,λ z H3 z0 z1 pt3 b3=>⟨rfl,_,rfl,?_⟩⟩;refine bW (λ cc=>?_) (λ cc=>?_)
   ·exact rest _ ((dE s12).trans b3) pt3
   ·refine hR _ (List.cons_ne_nil _ _) (b3 _ _ nlp (s2 _ _ l1)) ?_ pt3 ((dE s12).trans b3);obtain ⟨_,hp⟩:=bu pt2;exact IW py2 λ v q h=>h.keep λ a xs e=>b3 _ _ (λ z=>by rw [z,hp] at e; cases e) e
 rintro H2 ne l2 py2 pt2 b2;have y1:1<=ys.length:=by cases ys with
  | nil=>exact absurd rfl ne
  | cons _ _=>rw [List.length_cons]; omega
 refine ⟨_,O,_,O,_,O,l,_,O,.inl (IV l2),p,_,O,pt2,by omega,by omega,λ r H3 r0 r1 pt3 b3=>?_⟩;have l3:=b3 _ _ nlp l2;obtain ⟨x,hx,hm⟩:=lq (xs:=ys) r0 r1;obtain ⟨j,hj⟩:=List.mem_iff_getElem?.mp hm;obtain ⟨⟨i,c⟩,hq,a,k,rfl,hk',ha⟩:=IX py2 hj;obtain ⟨k',hk2,hcl,hf⟩:=qM (B4 hq);rw [show ks[i]? = some k from hk'] at hk2;cases hk2;have ha3:H3 a=some (.tup [.int i,.bl c,.int (sd1 k c),.int (sd2 k c)]):=by obtain ⟨_,hp⟩:=bu pt2;exact b3 _ _ (λ z=>by rw [z,hp] at ha; cases ha) ha
 have fits':sd1 k c<=w1/\sd2 k c<=h1:=by unfold eZ at hf;rw [Bool.and_eq_true] at hf;exact ⟨B9 hf.1,B9 hf.2⟩
 have g:=gk k (B4 hk');have sp:1<=sd1 k c/\1<=sd2 k c:=by have:=g.w; have:=g.h; cases c <;> exact ⟨by assumption,by assumption⟩
 refine ⟨l,_,_,_,O,O,IV l3,hx,a,_,O,IU ha3,O,_,_,O,_,_,O,_,_,O,_,_,O,O,?_⟩;refine ⟨_,O,_,O,_,O,_,O,_,O,_,_,O,O,_,_,O,O,p,_,O,pt3,(by show 0 < w1 - sd1 k c + 1; omega),(by show w1 - sd1 k c + 1<=_; omega),λ x1 H4 x0 x1' pt4 b4=>?_⟩;refine ⟨_,O,_,O,_,O,_,_,O,O,_,_,O,O,p,_,O,pt4,(by show 0 < h1 - sd2 k c + 1; omega),(by show h1 - sd2 k c + 1<=_; omega),λ y1' H5 y0 y1'' pt5 b5=>?_⟩;refine ⟨zS5,λ t ht=>?_⟩;obtain ⟨H6, e6, k6, n6, s6, b6, pt6⟩:=bh (o:=.tup [.str "piece", .int i, .bl c, .int x1, .int y1']) (((b2.trans b3).trans b4).trans b5) pt5 ht;rw [show upd H5 t _=H6 from e6];refine q _ (.piece i c x1 y1') H6 ⟨t, rfl, k6⟩ (λ b=>⟨k, hk', hcl, x0, y0, by omega, by omega⟩) (by show wt (.str "piece") + (1 + (1 + (1 + (1 + 0)))) + 1<=11; decide +kernel) (by simp [toD, PyData.depth, PyData.depthAll]) pt6 b6
theorem sctreel:FnScope ["_law_pot_here","_law_shop_here","_law_wide","_law_high","_law_left","_law_deep","_law_down","_law_room","_law_place","_law_behind","_law_first"] ["_law_pot_here","_law_shop_here","_law_wide","_law_high","_law_left","_law_deep"] (defScope iK):=⟨O,O,O,by decide +kernel,O,by decide +kernel,by decide +kernel⟩
theorem qO {f:Addr} {fd:G5} (F:Fun K "_law_tree" "_law_tree" iK f fd) (B:Blt mg) (n:Nat) (DD:Dn P w K mg base "_law_draw" ["_law_pot_here","_law_many"] 1 (bP)) (DL:Dn P w K mg base "_law_leaf" ["_law_pot_here","_law_kinds","_law_wide","_law_high"] 2 (spLeafL)) (DT:Dn P w K mg base "_law_tree" ["_law_pot_here","_law_shop_here","_law_wide","_law_high","_law_left","_law_deep"] (3 + n) (spTreeL n)):FnOk P w K mg base CX0 (3 + (n + 1)) f fd ["_law_pot_here","_law_shop_here","_law_wide","_law_high","_law_left","_law_deep"] (spTreeL (n + 1)):=by
 refine F.ok sctreel (λ vs H Q E h=>?_) (λ cdv A outer s H vs Q E hr h=>?_)
 ·obtain ⟨p,st,l,lf,b,rs,ks,w1,h1,left,deep,rfl,_⟩:=h
  rfl
 obtain ⟨p,st,l,lf,b,rs,ks,w1,h1,left,deep,rfl,hst,hl0,nlp,nll,nfp,tp,r8,gk,b0,w0,w60,h0,h60,hlf,lf0,dn0,pt,q⟩:=h;have nd:=sctreel.nd;refine ⟨_,(@af _ _ _ _ _ (@aB _ _ 6 _ _ _ _ nd O (Or.inl O) (@bt _ _ _ _ _ _ _ _ bf (@ao _ _ _ _ _ _ _ _ _ _ DD (hr.mono (show 1<=3 + n by omega)) O ((pv 0)^^^(ae^^^ad)) (by decide) O O) ae (av _)) O (Or.inl O)) (@af _ _ _ _ _ (@aB _ _ 7 _ _ _ _ nd O (Or.inl O) (@au _ _ _ _ _ _ _ _ aZ (@au _ _ _ _ _ _ _ _ aZ (@ax _ _ _ _ _ _ _ ix_list (@aM _ _ _ _ ((pv 3)^^^((pv 2)^^^ad))) (@bG _ _ _ _ _ _ _ _ _ cQ O B.int PyProof.Rows.boot_int ((pv 6)^^^ad) (by decide) (by decide) O O) (λ _ _=>O)) (@ax _ _ _ _ _ _ _ ix_tup (pv 1) ae (λ _ _=>O))) ae) O (Or.inl O)) (@af _ _ _ _ _ (@aG _ _ _ _ _ _ _ _ (PW.pt (br (@aw _ _ _ _ _ _ _ _ bf (@ax _ _ _ _ _ _ _ ix_list (pv 4) ae (λ _ _=>O)) ae (av _)) (br (@aw _ _ _ _ _ _ _ _ bf (pv 5) ae (av _)) (br (@aw _ _ _ _ _ _ _ _ mz (pv 7) ae (av _)) (bz (@aw _ _ _ _ _ _ _ _ bf (@ao _ _ _ _ _ _ _ _ _ _ DD (hr.mono (show 1<=3 + n by omega)) O ((pv 0)^^^(ae^^^ad)) (by decide) O O) ae (av _))))))) (@ah _ _ _ (@aq _ _ _ _ (@ao _ _ _ _ _ _ _ _ _ _ DL (hr.mono (show 2<=3 + n by omega)) O ((pv 0)^^^((@ax _ _ _ _ _ _ _ ix_tup (pv 1) ae (λ _ _=>O))^^^((pv 2)^^^((pv 3)^^^ad)))) (by decide) O O))) ar) (@af _ _ _ _ _ (@bJ _ _ _ _ _ _ (@au _ _ _ _ _ _ _ _ aZ (@ax _ _ _ _ _ _ _ ix_list (pv 4) ae (λ _ _=>O)) ae) (iT (pv 4) ae dL) O O O) (@af _ _ _ _ _ (@aB _ _ 8 _ _ _ _ nd O (Or.inl O) (@au _ _ _ _ _ _ _ _ aV ae (@ao _ _ _ _ _ _ _ _ _ _ DD (hr.mono (show 1<=3 + n by omega)) O ((pv 0)^^^((pv 7)^^^ad)) (by decide) O O)) O (Or.inl O)) (@af _ _ _ _ _ (@aB _ _ 9 _ _ _ _ nd O (Or.inl O) (@au _ _ _ _ _ _ _ _ aV (pv 8) (@ax _ _ _ _ _ _ _ ix_tup (pv 1) ae (λ _ _=>O))) O (Or.inl O)) (@af _ _ _ _ _ (@aG _ _ _ _ _ _ _ _ (@aI _ _ _ (pv 6) (by intro _; rfl)) (@af _ _ _ _ _ (@aB _ _ 10 _ _ _ _ nd O (Or.inl O) (@ao _ _ _ _ _ _ _ _ _ _ DT hr O ((pv 0)^^^((pv 1)^^^((pv 8)^^^((pv 3)^^^((pv 4)^^^((@au _ _ _ _ _ _ _ _ aZ (pv 5) ae)^^^ad)))))) (by decide) O O) O (Or.inl O)) (@ah _ _ _ (@aq _ _ _ _ (@az _ _ _ _ _ (aJ^^^((pv 8)^^^((pv 10)^^^((@ao _ _ _ _ _ _ _ _ _ _ DT hr O ((pv 0)^^^((pv 1)^^^((@au _ _ _ _ _ _ _ _ aZ (pv 2) (pv 9))^^^((pv 3)^^^((pv 4)^^^((@au _ _ _ _ _ _ _ _ aZ (pv 5) ae)^^^ad)))))) (by decide) O O)^^^ad)))))))) ar) (@af _ _ _ _ _ (@aB _ _ 10 _ _ _ _ nd O (Or.inl O) (@ao _ _ _ _ _ _ _ _ _ _ DT hr O ((pv 0)^^^((pv 1)^^^((pv 2)^^^((pv 8)^^^((pv 4)^^^((@au _ _ _ _ _ _ _ _ aZ (pv 5) ae)^^^ad)))))) (by decide) O O) O (Or.inl O)) (@ah _ _ _ (@aq _ _ _ _ (@az _ _ _ _ _ (aJ^^^((pv 8)^^^((pv 10)^^^((@ao _ _ _ _ _ _ _ _ _ _ DT hr O ((pv 0)^^^((pv 1)^^^((pv 2)^^^((@au _ _ _ _ _ _ _ _ aZ (pv 3) (pv 9))^^^((pv 4)^^^((@au _ _ _ _ _ _ _ _ aZ (pv 5) ae)^^^ad)))))) (by decide) O O)^^^ad))))))))))))))),?_⟩;have e60:(100:Int) < 10 ^ 60:=by decide
 have hr1:=hr.mono (show 1<=3 + n by omega);have hr2:=hr.mono (show 2<=3 + n by omega);have keepT:∀ {Ha Hb:Hp} {x:Int},But2 p lf Ha Hb->PotAt Ha p->Ha lf=some (.lst [.int x])->∀a xs,Ha a=some (.tup xs)->Hb a=some (.tup xs):=λ {Ha Hb x} bb pp hh a xs e=>by obtain ⟨_,hp⟩:=bu pp;exact bb _ _ (λ z=>by rw [z,hp] at e; cases e) (λ z=>by rw [z,hh] at e; cases e) e
 refine aH (λ R=>∀ (dn:Bool) (H':Hp),PotAt H' p->But p H H'->R [some (.ref p),some (.ref st),some (.int w1),some (.int h1),some (.ref lf),some (.int deep),some (.bl dn),none,none,none,none] H') (λ Dd hR=>?_) ?_
 ·exact ⟨_,O,p,2,O,pt,by decide,by decide,λ z H1 z0 z1 pt1 b1=>⟨O,hR _ _ pt1 b1⟩⟩
 rintro dn H1 pt1 b1;have hst1:H1 st=some (.tup [.int b,.ref l]):=keepT (But2.but b1) pt hlf _ _ hst;refine aH (λ R=>∀ (H':Hp),Same H1 H'->R [some (.ref p),some (.ref st),some (.int w1),some (.int h1),some (.ref lf),some (.int deep),some (.bl dn),some (.int ((if dn=true then w1 else h1) - b - 1)),none,none,none] H') (λ Dd hR=>?_) ?_
 ·refine ⟨_,O,_,O,zS2,λ rl hrl=>?_⟩;have s2:Same H1 (upd H1 rl (.lst [.int h1,.int w1])):=G8 hrl;have k2:(upd H1 rl (.lst [.int h1,.int w1])) rl=some (.lst [.int h1,.int w1]):=ag;generalize upd H1 rl (.lst [.int h1,.int w1])=H2 at s2 k2 ⊢;refine ⟨_,O,.inr ⟨dn,O,rl,_,_,.int (if dn=true then w1 else h1),O,O,IV k2,(by cases dn <;> rfl),?_⟩⟩;exact ⟨_,O,st,_,0,_,O,O,IU (s2 _ _ hst1),O,_,_,O,O,_,_,O,O,hR _ s2⟩
 rintro H2 s12;have pt2:=pt1.same s12;have b2:=b1.trans (dE s12);have hst2:=s12 _ _ hst1;have lf2:=b2 _ _ nfp hlf;have l2:=b2 _ _ nlp hl0;have tp2:Tups H2 rs ks:=cY b2 pt tp;obtain ⟨room,hroom⟩:∃room,(if dn=true then w1 else h1) - b - 1=room:=⟨_,O⟩
 rw [hroom];have leaf:∀Hx,But p H2 Hx->PotAt Hx p->rS (jH spLeafL [] E0 (fh (tVar 0) (fh (tOp (rIxT K) (tVar 1) (tC (.int 1))) (fh (tVar 2) (fh (tVar 3) jG))))) { nx:=λ x H'=>Q V.non H',rt:=Q } [some (.ref p),some (.ref st),some (.int w1),some (.int h1),some (.ref lf),some (.int deep),some (.bl dn),some (.int room),none,none,none] Hx:=λ Hx bx ptx=>by have stx:=keepT (But2.but bx) pt2 lf2 _ _ hst2;refine ⟨_,O,_,O,st,_,1,_,O,O,IU stx,O,_,O,_,O,p,l,rs,ks,w1,h1,O,nlp,bx _ _ nlp l2,cY bx pt2 tp2,r8,gk,w0,w60,h0,h60,ptx,λ v t H' tv ok wl dl pt' b'=>?_⟩;exact q v t left H' tv (ok b) lf0 (E2 _) (by omega) (by omega) (by have:=jw t dl; omega) (b' _ _ nfp (bx _ _ nfp lf2)) pt' (But2.but ((b2.trans bx).trans b'))
 refine cq (λ R=>∀ (H':Hp),1<=left->1<=deep->1<=room->PotAt H' p->But p H2 H'->R [some (.ref p),some (.ref st),some (.int w1),some (.int h1),some (.ref lf),some (.int deep),some (.bl dn),some (.int room),none,none,none] H') (λ R hR=>?_) ?_
 ·refine ⟨_,O,lf,_,0,_,O,O,IV lf2,O,O,_,O,?_⟩
  by_cases c1:left=0
  ·rw [show decide (V.int left=V.int 0)=true from decide_eq_true (by rw [c1])];exact aF (aF (leaf _ But.refl pt2))
  rw [show decide (V.int left=V.int 0)=false from decide_eq_false (λ z=>c1 (V.int.inj z))];refine aA ⟨_,rfl,rfl,_,rfl,?_⟩
  by_cases c2:deep=0
  ·rw [show decide (V.int (deep:Int)=V.int 0)=true from decide_eq_true (by rw [c2]; rfl)];exact aF (aF (leaf _ But.refl pt2))
  rw [show decide (V.int (deep:Int)=V.int 0)=false from decide_eq_false (λ z=>c2 (by have:=V.int.inj z; omega))];refine aA ⟨_,rfl,_,_,rfl,rfl,_,rfl,?_⟩
  by_cases c3:room < 1
  ·rw [decide_eq_true c3];exact aF (aF (leaf _ But.refl pt2))
  rw [decide_eq_false c3];refine aA ⟨_,rfl,p,6,rfl,pt2,by decide,by decide,λ z H3 z0 z1 pt3 b3=>⟨rfl,_,rfl,?_⟩⟩;refine bW (λ cc=>?_) (λ cc=>?_)
  ·exact leaf _ b3 pt3
  ·exact hR _ (by omega) (by omega) (by omega) pt3 b3
 rintro H3 left1 deep1 room1 pt3 b3;have lf3:=b3 _ _ nfp lf2;obtain ⟨d',hd'⟩:∃d',deep=d' + 1:=⟨deep - 1,by omega⟩
 have ed:((deep:Int) - 1)=(d':Int):=by omega
 refine aH (λ R=>∀ (H':Hp),H' lf=some (.lst [.int (left - 1)])->PotAt H' p->But2 p lf H H'->R [some (.ref p),some (.ref st),some (.int w1),some (.int h1),some (.ref lf),some (.int deep),some (.bl dn),some (.int room),none,none,none] H') (λ Dd hR=>?_) ?_
 ·refine ⟨_,O,lf,_,0,_,O,O,IV lf3,O,_,_,O,O,_,O,lf,_,0,0,O,O,lf3,O,hR _ ag ?_ (λ c o n1 n2 e=>?_)⟩
  ·obtain ⟨x,y,hxy,e⟩:=pt3;exact ⟨x,y,hxy,by rw [am (Ne.symm nfp)]; exact e⟩
  ·rw [am n2];exact b3 _ _ n1 (b2 _ _ n1 e)
 rintro H4 lf4 pt4 b14;have rmost:room < 10 ^ 60:=by rw [<- hroom]; cases dn <;> simp only [if_true,Bool.false_eq_true,if_false] <;> omega
 refine aH (λ R=>∀ (pl:Int) (H':Hp),0<=pl->pl < room->PotAt H' p->But p H4 H'->R [some (.ref p),some (.ref st),some (.int w1),some (.int h1),some (.ref lf),some (.int deep),some (.bl dn),some (.int room),some (.int (1 + pl)),none,none] H') (λ Dd hR=>?_) ?_
 ·exact ⟨_,O,_,O,p,room,O,pt4,by omega,by omega,λ pl H5 pl0 pl1 pt5 b5=>⟨_,_,O,O,hR pl _ pl0 pl1 pt5 b5⟩⟩
 rintro pl H5 pl0 pl1 pt5 b45;have b15:=b14.trans (But2.but b45);have lf5:=b45 _ _ nfp lf4;have st5:=keepT b15 pt hlf _ _ hst;have l5:=b15 _ _ nlp nll hl0;have tp5:Tups H5 rs ks:=Tups.keep (keepT b15 pt hlf) tp;refine aH (λ R=>R [some (.ref p),some (.ref st),some (.int w1),some (.int h1),some (.ref lf),some (.int deep),some (.bl dn),some (.int room),some (.int (1 + pl)),some (.int (1 + pl + b)),none] H5) (λ Dd hR=>?_) ?_
 ·exact ⟨_,O,_,O,st,_,0,_,O,O,IU st5,O,_,_,O,O,hR⟩
 skip
 cases dn with
 | true =>
  have hroom:w1 - b - 1=room:=hroom;refine ⟨_,O,_,O,aF ?_⟩;refine ⟨_,O,_,O,_,O,_,O,_,O,_,O,_,_,O,O,p,st,l,lf,b,rs,ks,_,_,left - 1,d',(by rw [<- ed]; rfl),st5,l5,nlp,nll,nfp,tp5,r8,gk,b0,(by omega),(by omega),(by omega),(by omega),lf5,(by omega),(by omega),pt5,λ v1 t1 lt1 H6 tv1 ok1 a1 a2 wt1 dp1 ln1 lf6 pt6 b56=>?_⟩;have st6:=keepT b56 pt5 lf5 _ _ st5;have tp6:Tups H6 rs ks:=Tups.keep (keepT b56 pt5 lf5) tp5;refine ⟨_,O,_,O,_,O,_,O,_,O,_,O,_,_,O,O,_,O,_,O,_,O,_,_,O,O,p,st,l,lf,b,rs,ks,_,_,lt1,d',(by rw [<- ed]; rfl),st6,b56 _ _ nlp nll l5,nlp,nll,nfp,tp6,r8,gk,b0,(by omega),(by omega),(by omega),(by omega),lf6,a1,(by omega),pt6,λ v2 t2 lt2 H7 tv2 ok2 c1 c2 wt2 dp2 ln2 lf7 pt7 b67=>?_⟩;refine ⟨zS4,λ t ht=>?_⟩;have s8:Same H7 (upd H7 t (.tup [.str "down",.int (1 + pl),v1,v2])):=G8 ht;have k8:(upd H7 t (.tup [.str "down",.int (1 + pl),v1,v2])) t=some (.tup [.str "down",.int (1 + pl),v1,v2]):=ag;rw [show upd H7 t _=upd H7 t (.tup [.str "down",.int (1 + pl),v1,v2]) from rfl];generalize upd H7 t (.tup [.str "down",.int (1 + pl),v1,v2])=H8 at s8 k8 ⊢;have e8:w1 - (1 + pl + b)=w1 - (1 + pl) - b:=by omega
  refine q _ (.cut true (1 + pl) t1 t2) lt2 H8 ⟨t,v1,v2,rfl,k8,TrV.keep (λ a xs e=>s8 _ _ (keepT b67 pt6 lf6 _ _ e)) t1 tv1,TrV.keep (λ a xs e=>s8 _ _ e) t2 tv2⟩ ⟨by omega,?_⟩ c1 (by omega) ?_ ?_ (by show ((lvN t1 + lvN t2:Nat):Int)<=_; omega) (s8 _ _ lf7) (pt7.same s8) (b15.trans (b56.trans (b67.trans (λ c o _ _ e=>s8 _ _ e))))
  ·rw [e8] at ok2;exact ⟨by omega,ok1,ok2⟩
  ·have:wt (.str "down")<=7:=by decide +kernel
   show ((wt (.str "down") + (1 + (wt (toD t1) + (wt (toD t2) + 0))) + 1:Nat):Int)<=_;omega
  ·show PyData.depthAll [.str "down",.int (1 + pl),toD t1,toD t2] + 1<=_;simp only [PyData.depthAll,PyData.depth];omega
 | false =>
  have hroom:h1 - b - 1=room:=hroom;refine ⟨_,O,_,O,aA ?_⟩;refine ⟨_,O,_,O,_,O,_,O,_,O,_,O,_,_,O,O,p,st,l,lf,b,rs,ks,_,_,left - 1,d',(by rw [<- ed]; rfl),st5,l5,nlp,nll,nfp,tp5,r8,gk,b0,(by omega),(by omega),(by omega),(by omega),lf5,(by omega),(by omega),pt5,λ v1 t1 lt1 H6 tv1 ok1 a1 a2 wt1 dp1 ln1 lf6 pt6 b56=>?_⟩;have st6:=keepT b56 pt5 lf5 _ _ st5;have tp6:Tups H6 rs ks:=Tups.keep (keepT b56 pt5 lf5) tp5;refine ⟨_,O,_,O,_,O,_,O,_,O,_,O,_,O,_,_,O,O,_,O,_,O,_,_,O,O,p,st,l,lf,b,rs,ks,_,_,lt1,d',(by rw [<- ed]; rfl),st6,b56 _ _ nlp nll l5,nlp,nll,nfp,tp6,r8,gk,b0,(by omega),(by omega),(by omega),(by omega),lf6,a1,(by omega),pt6,λ v2 t2 lt2 H7 tv2 ok2 c1 c2 wt2 dp2 ln2 lf7 pt7 b67=>?_⟩;refine ⟨zS4,λ t ht=>?_⟩;have s8:Same H7 (upd H7 t (.tup [.str "across",.int (1 + pl),v1,v2])):=G8 ht;have k8:(upd H7 t (.tup [.str "across",.int (1 + pl),v1,v2])) t=some (.tup [.str "across",.int (1 + pl),v1,v2]):=ag;rw [show upd H7 t _=upd H7 t (.tup [.str "across",.int (1 + pl),v1,v2]) from rfl];generalize upd H7 t (.tup [.str "across",.int (1 + pl),v1,v2])=H8 at s8 k8 ⊢;have e8:h1 - (1 + pl + b)=h1 - (1 + pl) - b:=by omega
  refine q _ (.cut false (1 + pl) t1 t2) lt2 H8 ⟨t,v1,v2,rfl,k8,TrV.keep (λ a xs e=>s8 _ _ (keepT b67 pt6 lf6 _ _ e)) t1 tv1,TrV.keep (λ a xs e=>s8 _ _ e) t2 tv2⟩ ⟨by omega,?_⟩ c1 (by omega) ?_ ?_ (by show ((lvN t1 + lvN t2:Nat):Int)<=_; omega) (s8 _ _ lf7) (pt7.same s8) (b15.trans (b56.trans (b67.trans (λ c o _ _ e=>s8 _ _ e))))
  ·rw [e8] at ok2;exact ⟨by omega,ok1,ok2⟩
  ·have:wt (.str "across")<=7:=by decide +kernel
   show ((wt (.str "across") + (1 + (wt (toD t1) + (wt (toD t2) + 0))) + 1:Nat):Int)<=_;omega
  ·show PyData.depthAll [.str "across",.int (1 + pl),toD t1,toD t2] + 1<=_;simp only [PyData.depthAll,PyData.depth];omega
theorem qQ {f:Addr} {fd:G5} (F:Fun K "_law_tree" "_law_tree" iK f fd):FnOk P w K mg base CX0 3 f fd ["_law_pot_here","_law_shop_here","_law_wide","_law_high","_law_left","_law_deep"] (spTreeL 0):=by
 refine F.ok sctreel (λ vs H Q E h=>?_) (λ cdv A outer s H vs Q E hr h=>?_)
 ·obtain ⟨p,st,l,lf,b,rs,ks,w1,h1,left,deep,rfl,_⟩:=h
  rfl
 ·obtain ⟨p,st,l,lf,b,rs,ks,w1,h1,left,deep,_,_,_,_,_,_,_,_,_,_,_,_,_,_,_,_,z,_⟩:=h;exact absurd z (E6 _)
theorem jY {f:Addr} {fd:G5} (F:Fun K "_law_tree" "_law_tree" iK f fd) (B:Blt mg) (DD:Dn P w K mg base "_law_draw" ["_law_pot_here","_law_many"] 1 (bP)) (DL:Dn P w K mg base "_law_leaf" ["_law_pot_here","_law_kinds","_law_wide","_law_high"] 2 (spLeafL)) (mk:∀n,FnOk P w K mg base CX0 (3 + n) f fd ["_law_pot_here","_law_shop_here","_law_wide","_law_high","_law_left","_law_deep"] (spTreeL n)->Dn P w K mg base "_law_tree" ["_law_pot_here","_law_shop_here","_law_wide","_law_high","_law_left","_law_deep"] (3 + n) (spTreeL n)):∀n,FnOk P w K mg base CX0 (3 + n) f fd ["_law_pot_here","_law_shop_here","_law_wide","_law_high","_law_left","_law_deep"] (spTreeL n)
 | 0=>qQ F
 | n + 1=>qO F B n DD DL (mk n (jY F B DD DL mk n))
end
theorem gc {d:PyData} {y:Str} {r:List PyData} (e:aQ d=some (.str y :: r)) (z:Str) (n:Nat):bw d z n=(decide (r.length + 1=n) && decide (y=z)):=by unfold bw;rw [e]
theorem ng {d:PyData} (h:∀y r,aQ d≠some (.str y :: r)) (z:Str) (n:Nat):bw d z n=false:=by
 unfold bw
 split
 ·rename_i y r e
  exact absurd e (h y r)
 ·rfl
def pcD (ks:List Kd) (w h:Int):List PyData->Bool
 | [k,t,x,y]=>eH ks w h k t x y
 | _=>false
theorem ci {b:Int} {ks:List Kd} {w h:Int} {d:PyData} (hd:∀y r,aQ d≠some (.str y :: r)):isT b ks w h d=false:=by
 have hc:isC b w h d=false:=by unfold isC; rw [ng hd,ng hd]; rfl
 rw [cX hc];unfold isL;rw [ng hd,ng hd]
 rfl
theorem bI {b:Int} {ks:List Kd} {w h:Int} {d:PyData} {y:Str} {r:List PyData} (e:aQ d=some (.str y :: r)) (h1:(decide (y = "down"))=false) (h2:(decide (y = "across"))=false):isT b ks w h d=(if decide (y = "rest")=true then decide (r.length + 1=1) else if decide (y = "piece")=true then pcD ks w h r else false):=by
 have hc:isC b w h d=false:=by
  unfold isC;rw [gc e,gc e,h1,h2];simp only [Bool.and_false]
  rfl
 rw [cX hc];unfold isL;rw [gc e,gc e,e]
 by_cases hr:y = "rest"
 ·subst hr;rw [show decide ((Str.ofString "rest")=(Str.ofString "piece"))=false by decide +kernel,Bool.and_false,if_neg Bool.false_ne_true,decide_eq_true (rfl:(Str.ofString "rest")=Str.ofString "rest"),if_pos rfl,Bool.and_true]
 ·rw [decide_eq_false hr,if_neg Bool.false_ne_true]
  by_cases hp:y = "piece"
  ·subst hp;rw [decide_eq_true (rfl:(Str.ofString "piece")=Str.ofString "piece"),Bool.and_true,if_pos (rfl:true=true),Bool.and_false]
   match r with
   | []=>rfl
   | [_]=>rfl
   | [_,_]=>rfl
   | [_,_,_]=>rfl
   | [_,_,_,_]=>rfl
   | _ :: _ :: _ :: _ :: _ :: r=>simp [pcD]
  ·rw [decide_eq_false hp,Bool.and_false,Bool.and_false,if_neg Bool.false_ne_true,if_neg Bool.false_ne_true]
theorem dF {b:Int} {ks:List Kd} {w h:Int} {d:PyData} {dn:Bool} {r:List PyData} (e:aQ d=some (.str (if dn=true then "down" else "across") :: r)):isT b ks w h d=(match r with
  | [.int p,l,r']=>decide (1<=p) && (if dn=true then decide (p + b < w) && (isT b ks p h l && isT b ks (w - p - b) h r') else decide (p + b < h) && (isT b ks w p l && isT b ks w (h - p - b) r'))
  | _=>false):=by
 have leafF:isC b w h d=false->isT b ks w h d=false:=λ hc=>by
  rw [cX hc];unfold isL;rw [gc e,gc e];cases dn
  ·rw [show decide ((if false=true then (Str.ofString "down") else Str.ofString "across")=Str.ofString "piece")=false by decide +kernel,show decide ((if false=true then (Str.ofString "down") else Str.ofString "across")=Str.ofString "rest")=false by decide +kernel,Bool.and_false,Bool.and_false,if_neg Bool.false_ne_true]
  ·rw [show decide ((if true=true then (Str.ofString "down") else Str.ofString "across")=Str.ofString "piece")=false by decide +kernel,show decide ((if true=true then (Str.ofString "down") else Str.ofString "across")=Str.ofString "rest")=false by decide +kernel,Bool.and_false,Bool.and_false,if_neg Bool.false_ne_true]
 cases hc:isC b w h d with
 | false =>
  rw [leafF hc]
  split
  ·rename_i p l r' e
   unfold isC at hc;rw [gc e,gc e] at hc;cases dn
   ·rw [show decide ((if false=true then (Str.ofString "down") else Str.ofString "across")=Str.ofString "down")=false by decide +kernel,show decide ((if false=true then (Str.ofString "down") else Str.ofString "across")=Str.ofString "across")=true by decide +kernel] at hc;unfold eL at hc;rw [e] at hc;have hc:(decide (1<=p) && decide (p + b < h))=false:=hc;rw [if_neg Bool.false_ne_true,<- Bool.and_assoc,hc,Bool.false_and]
   ·rw [show decide ((if true=true then (Str.ofString "down") else Str.ofString "across")=Str.ofString "down")=true by decide +kernel] at hc;unfold eL at hc;rw [e] at hc;have hc:(decide (1<=p) && decide (p + b < w))=false:=hc;rw [if_pos rfl,<- Bool.and_assoc,hc,Bool.false_and]
  ·rfl
 | true =>
  obtain ⟨dn',p,l,r',e',p1,pw,ph,eT⟩:=gA (ks:=ks) hc;rw [e] at e';have hdn:dn=dn':=by have:=PyData.str.inj (List.cons.inj (B7 e')).1;cases dn <;> cases dn' <;> first | rfl | exact absurd this (by decide +kernel)
  subst hdn;cases e';rw [eT];cases dn
  ·simp only [Bool.false_eq_true,if_false];rw [decide_eq_true p1,decide_eq_true (ph rfl)]; rfl
  ·simp only [if_true];rw [decide_eq_true p1,decide_eq_true (pw rfl)]; rfl
section
variable {P:G4} {w:G6} {K:C3} {mg:Str->Option G7} {base:Heap}
theorem qR:FnScope ["_law_thing","_law_least"] ["_law_thing","_law_least"] (defScope fC):=⟨O,O,O,by decide +kernel,O,by decide +kernel,by decide +kernel⟩
theorem nZ {f:Addr} {fd:G5} (F:Fun K "_law_is_whole" "_law_is_whole" fC f fd) (B:Blt mg):FnOk P w K mg base CX0 1 f fd ["_law_thing","_law_least"] (bB K):=by
 refine F.ok qR (λ vs H Q E h=>?_) (λ cdv A outer s H vs Q E hr h=>?_)
 ·obtain ⟨x,T,l,rfl,_⟩:=h
  rfl
 obtain ⟨x,T,l,rfl,⟨tn,ty⟩,q⟩:=h;refine ⟨_,(@ah _ _ _ (@aq _ _ _ _ (cA (@ay _ _ _ _ _ _ _ _ _ aW O B.isi PyProof.Rows.boot_isinstance ((pv 0)^^^((bo (v:=.ty "int") O B.int PyProof.Rows.boot_int O)^^^ad)) (by decide) (by decide) O O) (cA (kB (@ay _ _ _ _ _ _ _ _ _ aW O B.isi PyProof.Rows.boot_isinstance ((pv 0)^^^((bo (v:=.ty "bool") O B.bool PyProof.Rows.boot_bool O)^^^ad)) (by decide) (by decide) O O)) (dg (@bt _ _ _ _ _ _ _ _ ip (pv 0) (pv 1) (av _))))))),?_⟩;refine ⟨_,O,x,_,_,_,_,O,ty,O,mH T tn,_,O,?_⟩;have tb:=gq ty;refine bW (λ c=>?_) (λ c=>?_)
 ·refine ⟨_,O,x,_,_,_,_,O,ty,O,ft T tn,_,O,_,O,?_⟩;refine bW (λ c2=>?_) (λ c2=>?_)
  ·have hT:(T == "int")=true:=by
    have:(T == "bool")=false:=by simpa using c2
    rw [this,Bool.or_false] at c; exact c
   obtain ⟨i,rfl⟩:=qh ty tn hT;exact ⟨_,O,_,O,_,_,O,O,q⟩
  ·have hT:jh x=true:=by
    rw [<- tb];cases e:(T == "bool") with
    | true=>rfl
    | false=>rw [e] at c2; exact absurd rfl c2
   cases x <;> first | exact q | (exact absurd hT B1)
 ·have hx:aK x l=false:=by
   cases x with
   | int i =>
    exfalso;have ty':=ty;generalize hv:Value.type T=tv at ty';cases ty' with
    | int=>cases hv; exact c rfl
   | _=>rfl
  rw [hx] at q;exact q
theorem uI {p:Addr} {H:Hp} {ks:List Kd} {w h:Int} {x1 x2 x3 x4:V} {d1 d2 d3 d4:PyData} (hd1:Dt p H x1 d1) (hd2:Dt p H x2 d2) (hd3:Dt p H x3 d3) (hd4:Dt p H x4 d4):eH ks w h d1 d2 d3 d4=bN ks w h x1 x2 x3 x4:=by
 cases hd1 with
 | int i=>cases hd2 with
  | bl c=>cases hd3 with
   | int x=>cases hd4 with
    | int y=>rfl
    | _=>simp [eH,bN,aK]
   | _=>simp [eH,bN,aK]
  | _=>simp [eH,bN,ce]
 | _=>simp [eH,bN,ce]
theorem vz {ks:List Kd} {x t:V} (h:aK x 0=false):ce ks x t=false:=by
 cases x with
 | int i =>
  have h:decide (0<=i)=false:=h;cases t <;> simp only [ce];rw [h,Bool.false_and]
 | _=>rfl
theorem vA {ks:List Kd} {x t:V} (h:jh t=false):ce ks x t=false:=by
 cases t with
 | bl c=>cases h
 | _=>cases x <;> rfl
theorem tF {ks:List Kd} {i:Int} {c:Bool} (h:ce ks (.int i) (.bl c)=true):∃k,ks[i.toNat]? = some k/\c∈bK k:=by
 unfold ce at h;rw [Bool.and_eq_true] at h;obtain ⟨_,h⟩:=h;cases e:ks[i.toNat]? with
 | none=>rw [e] at h; cases h
 | some k =>
  rw [e] at h;refine ⟨k,O,?_⟩;unfold bK;cases c with
  | false=>split <;> simp
  | true =>
   have h:be k=true:=h;rw [h]; simp
structure ShL (H:Hp) (st l:Addr) (b:Int) (rs:List V) (ks:List Kd):Prop where
 t:H st=some (.tup [.int b,.ref l])
 l:H l=some (.lst rs)
 k:Tups H rs ks
 n:rs.length<=8
 g:∀k∈ks,Good k
theorem ShL.same {H H':Hp} {st l:Addr} {b:Int} {rs:List V} {ks:List Kd} (h:ShL H st l b rs ks) (s:Same H H'):ShL H' st l b rs ks:=⟨s _ _ h.t,s _ _ h.l,Tups.keep (λ c xs e=>s _ _ e) h.k,h.n,h.g⟩
inductive spPieceL (K:C3) (vs:List V) (H:Hp) (Q:VK) (E_:XK):Prop
 | mk (pp st l a:Addr) (b w h:Int) (rs:List V) (ks:List Kd) (x0:V) (xs:List V) (ds:List PyData) (e_1:vs=[.ref st,.int w,.int h,.ref a]) (e_2:ShL H st l b rs ks) (e_3:(H a=some (.lst (x0 :: xs))\/H a=some (.tup (x0 :: xs)))) (e_4:Dts pp H xs ds) (e_5:∀H',Same H H'->Q (.bl (pcD ks w h ds)) H'):spPieceL K vs H Q E_
theorem scpiecel:FnScope ["_law_shop_here","_law_wide","_law_high","_law_tree_here","_law_number_here","_law_turned","_law_a","_law_b"] ["_law_shop_here","_law_wide","_law_high","_law_tree_here"] (defScope fD):=⟨O,O,O,by decide +kernel,O,by decide +kernel,by decide +kernel⟩
theorem oa {f:Addr} {fd:G5} (F:Fun K "_law_is_piece" "_law_is_piece" fD f fd) (B:Blt mg) (DF:Dn P w K mg base "_law_fitting" ["_law_kinds","_law_wide","_law_high"] 1 (spFitQ)) (DW:Dn P w K mg base "_law_is_whole" ["_law_thing","_law_least"] 1 (bB K)):FnOk P w K mg base CX0 2 f fd ["_law_shop_here","_law_wide","_law_high","_law_tree_here"] (spPieceL K):=by
 refine F.ok scpiecel (λ vs H Q E h=>?_) (λ cdv A outer s H vs Q E hr h=>?_)
 ·obtain ⟨pp,st,l,a,b,w1,h1,rs,ks,x0,xs,ds,rfl,_⟩:=h
  rfl
 obtain ⟨pp,st,l,a,b,w1,h1,rs,ks,x0,xs,ds,rfl,sh,hx,dx,q⟩:=h;have nd:=scpiecel.nd;refine ⟨_,(@af _ _ _ _ _ (@aG _ _ _ _ _ _ _ _ (PW.pt (br (@aw _ _ _ _ _ _ _ _ gI (@ay _ _ _ _ _ _ _ _ _ aN O B.len PySem.boot_len ((pv 3)^^^ad) (by decide) (by decide) O O) ae (av _)) (br (@aS _ _ _ _ (@aI _ _ _ (@ao _ _ _ _ _ _ _ _ _ _ DW hr O ((@ax _ _ _ _ _ _ _ aP (pv 3) ae (λ _ _=>O))^^^(ae^^^ad)) (by decide) O O) (by intro _; rfl))) (bz (@aS _ _ _ _ (@aI _ _ _ (@ay _ _ _ _ _ _ _ _ _ aW O B.isi PyProof.Rows.boot_isinstance ((@ax _ _ _ _ _ _ _ aP (pv 3) ae (λ _ _=>O))^^^((bo (v:=.ty "bool") O B.bool PyProof.Rows.boot_bool O)^^^ad)) (by decide) (by decide) O O) (by intro _; rfl))))))) (@ah _ _ _ (@aq _ _ _ _ aY)) ar) (@af _ _ _ _ _ (@aG _ _ _ _ _ _ _ _ (PW.pt (br (@aS _ _ _ _ (@aI _ _ _ (@ao _ _ _ _ _ _ _ _ _ _ DW hr O ((@ax _ _ _ _ _ _ _ aP (pv 3) ae (λ _ _=>O))^^^(ae^^^ad)) (by decide) O O) (by intro _; rfl))) (bz (@aS _ _ _ _ (@aI _ _ _ (@ao _ _ _ _ _ _ _ _ _ _ DW hr O ((@ax _ _ _ _ _ _ _ aP (pv 3) ae (λ _ _=>O))^^^(ae^^^ad)) (by decide) O O) (by intro _; rfl)))))) (@ah _ _ _ (@aq _ _ _ _ aY)) ar) (@af _ _ _ _ _ (@bV _ _ _ _ _ _ _ _ E1 O (cj (@ao _ _ _ _ _ _ _ _ _ _ DF hr O ((@ax _ _ _ _ _ _ _ ix_tup (pv 0) ae (λ _ _=>O))^^^((pv 1)^^^((pv 2)^^^ad))) (by decide) O O)) (bq O (ai (aj (i:=4) nd O (Or.inl O)) (ai (aj (i:=5) nd O (Or.inl O)) (ai (aj (i:=6) nd O (Or.inl O)) (ai (aj (i:=7) nd O (Or.inl O)) aU))))) (@ah _ _ _ (@aG _ _ _ _ _ _ _ _ (PW.pt (iS (@aw _ _ _ _ _ _ _ _ bf (pv 4) (@ax _ _ _ _ _ _ _ aP (pv 3) ae (λ _ _=>O)) (av _)) (gn (@aw _ _ _ _ _ _ _ _ bf (pv 5) (@ax _ _ _ _ _ _ _ aP (pv 3) ae (λ _ _=>O)) (av _))))) (@ah _ _ _ (@aq _ _ _ _ (cA (@bt _ _ _ _ _ _ _ _ fV (@au _ _ _ _ _ _ _ _ aV (@ax _ _ _ _ _ _ _ aP (pv 3) ae (λ _ _=>O)) (pv 6)) (pv 1) (av _)) (dg (@bt _ _ _ _ _ _ _ _ fV (@au _ _ _ _ _ _ _ _ aV (@ax _ _ _ _ _ _ _ aP (pv 3) ae (λ _ _=>O)) (pv 7)) (pv 2) (av _)))))) ar)) (by intro _; rfl)) (@ah _ _ _ (@aq _ _ _ _ aY))))),?_⟩;have sq:∀ {Hx},Same H Hx->SqL K Hx a (x0 :: xs)\/SqT K Hx a (x0 :: xs):=λ {Hx} s=>hx.imp (λ z=>IV (s _ _ z)) λ z=>IU (s _ _ z);refine ⟨_,O,a,_,O,sq (Same.refl _),O,_,O,?_⟩;have len:=dx.length;have q0:=q H (Same.refl _)
 by_cases h5:xs.length=4
 ·rw [show decide (V.int ((x0 :: xs).length:Int)=V.int 5)=true from decide_eq_true (by rw [List.length_cons,h5]; rfl)]
  match xs,ds,h5,dx with
  | [x1,x2,x3,x4],[d1,d2,d3,d4],_,.cons hd1 (.cons hd2 (.cons hd3 (.cons hd4 .nil))) =>
  have a1:atI [x0,x1,x2,x3,x4] 1=some x1:=aL (by decide) rfl;have a2:atI [x0,x1,x2,x3,x4] 2=some x2:=aL (by decide) rfl;have a3:atI [x0,x1,x2,x3,x4] 3=some x3:=aL (by decide) rfl;have a4:atI [x0,x1,x2,x3,x4] 4=some x4:=aL (by decide) rfl;have q0:Q (.bl (eH ks w1 h1 d1 d2 d3 d4)) H:=q0;have q:∀H',Same H H'->Q (.bl (eH ks w1 h1 d1 d2 d3 d4)) H':=q;obtain ⟨T1,t1⟩:=hd1.ty (K:=K);obtain ⟨T3,t3⟩:=hd3.ty (K:=K);obtain ⟨T4,t4⟩:=hd4.ty (K:=K);refine aA ⟨_,rfl,ixR (Same.refl _) hx a1 ⟨x1,T1,0,rfl,t1,_,rfl,?_⟩⟩;rw [uI hd1 hd2 hd3 hd4] at q;rw [uI hd1 hd2 hd3 hd4] at q0;obtain ⟨T2,t2⟩:=hd2.ty (K:=K);cases hw1:aK x1 0 with
  | false =>
   unfold bN at q0;rw [vz hw1] at q0;exact aF (aF q0)
  | true =>
  refine aA ⟨_,rfl,ixR (Same.refl _) hx a2 ⟨x2,_,_,_,_,rfl,t2.2,rfl,ft T2 t2.1,_,rfl,?_⟩⟩;have tb:=gq t2.2;rw [tb];cases hb2:jh x2 with
  | false =>
   unfold bN at q0;rw [vA hb2] at q0;exact aF q0
  | true =>
  refine aA ?_;refine ⟨_,O,ixR (Same.refl _) hx a3 ⟨x3,T3,0,O,t3,_,O,?_⟩⟩;cases hw3:aK x3 0 with
  | false =>
   unfold bN at q0;rw [hw3,Bool.and_false] at q0;exact aF (aF q0)
  | true =>
  refine aA ⟨_,rfl,ixR (Same.refl _) hx a4 ⟨x4,T4,0,rfl,t4,_,rfl,?_⟩⟩;cases hw4:aK x4 0 with
  | false =>
   unfold bN at q0;rw [hw4,Bool.and_false] at q0;exact aF q0
  | true =>
  refine aA ?_;obtain ⟨i1,rfl⟩:∃i,x1=.int i:=by cases x1 <;> first | exact ⟨_,O⟩ | cases hw1
  obtain ⟨c2,rfl⟩:∃c,x2=.bl c:=by cases x2 <;> first | exact ⟨_,O⟩ | cases hb2
  obtain ⟨i3,rfl⟩:∃i,x3=.int i:=by cases x3 <;> first | exact ⟨_,O⟩ | cases hw3
  obtain ⟨i4,rfl⟩:∃i,x4=.int i:=by cases x4 <;> first | exact ⟨_,O⟩ | cases hw4
  have i10:0<=i1:=B9 hw1;have i30:0<=i3:=B9 hw3;have i40:0<=i4:=B9 hw4;have lv:bN ks w1 h1 (.int i1) (.bl c2) (.int i3) (.int i4)=(ce ks (.int i1) (.bl c2) && (match ks[i1.toNat]? with
   | some k=>decide (i3 + sd1 k c2<=w1) && decide (i4 + sd2 k c2<=h1)
   | none=>false)):=by
   unfold bN;rw [hw3,hw4,Bool.and_true,Bool.and_true]
   all_goals rfl
  refine ⟨_,O,st,_,1,_,O,O,IU sh.t,O,_,O,_,O,l,rs,ks,w1,h1,O,sh.l,sh.k,sh.n,λ fl ys H1 hfl fl1 py s1=>?_⟩;refine ⟨fl,O,⟨_,IV fl1⟩,cP (xs:=ys) (λ j σ H'=>(∃v4 v5 v6 v7,σ=[some (.ref st),some (.int w1),some (.int h1),some (.ref a),v4,v5,v6,v7])/\Same H1 H'/\∀m,m < j->(fq ks w1 h1 ks.length)[m]?≠some (i1.toNat,c2)) ⟨⟨_,_,_,_,O⟩,Same.refl _,λ m hm=>absurd hm (E6 _)⟩ (λ j σ H' _ ⟨_,s',_⟩=>IV (s' _ _ fl1)) ?_ ?_⟩
  ·rintro j y σ H2 hj ⟨⟨v4,v5,v6,v7,rfl⟩,s2,no⟩;obtain ⟨⟨i',c'⟩,hq,t,k,rfl,hk',ht⟩:=IX py hj;have ht2:=s2 _ _ ht;have s02:=s1.trans s2;refine ⟨t,_,O,IU ht2,O,_,_,O,_,_,O,_,_,O,_,_,O,O,?_⟩;refine ⟨_,O,_,O,ixR s02 hx a1 ⟨O,_,O,?_⟩⟩;have nxt:¬ (i'=i1.toNat/\c'=c2)->∀m,m < j + 1->(fq ks w1 h1 ks.length)[m]?≠some (i1.toNat,c2):=λ hn m hm e=>by
    by_cases z:m < j
    ·exact no m z e
    ·have:m=j:=by omega
     subst this;rw [hq] at e;cases e;exact hn ⟨rfl,rfl⟩
   by_cases e1:(i':Int)=i1
   ·rw [show decide (V.int ((i':Nat):Int)=V.int i1)=true from decide_eq_true (by rw [e1])];refine aF ⟨_,rfl,_,rfl,ixR s02 hx a2 ⟨rfl,_,rfl,?_⟩⟩
    by_cases e2:c'=c2
    ·rw [show decide (V.bl c'=V.bl c2)=true from decide_eq_true (by rw [e2])];refine aF ?_;subst e2;obtain ⟨k2,hk2,hcl,hf⟩:=qM (B4 hq);have hk':ks[i']? = some k:=hk';rw [hk'] at hk2;cases hk2;have q1:=q H2 s02;rw [lv] at q1;rw [<- e1,gB hk' hcl] at q1;simp only [Int.toNat_natCast,hk',Bool.true_and] at q1;refine ⟨_,O,ixR s02 hx a3 ⟨_,O,_,_,O,O,_,O,_,_,O,O,_,O,?_⟩⟩;show (if decide (i3 + sd1 k c'<=w1)=true then _ else _);refine bW (λ cc=>?_) (λ cc=>?_)
     ·refine ⟨_,O,ixR s02 hx a4 ⟨_,O,_,_,O,O,_,O,_,_,O,O,?_⟩⟩;rw [cc,Bool.true_and] at q1;exact q1
     ·rw [show decide (i3 + sd1 k c'<=w1)=false by simpa using cc,Bool.false_and] at q1;exact q1
    ·rw [show decide (V.bl c'=V.bl c2)=false from decide_eq_false (λ z=>e2 (V.bl.inj z))];exact aA ⟨⟨_,_,_,_,rfl⟩,s2,nxt (λ z=>e2 z.2)⟩
   ·rw [show decide (V.int ((i':Nat):Int)=V.int i1)=false from decide_eq_false (λ z=>e1 (V.int.inj z))];exact aA (aA ⟨⟨_,_,_,_,rfl⟩,s2,nxt (λ z=>e1 (by rw [z.1]; omega))⟩)
  ·rintro σ H2 ⟨⟨v4,v5,v6,v7,rfl⟩,s2,no⟩;have q1:=q H2 (s1.trans s2);have lf:bN ks w1 h1 (.int i1) (.bl c2) (.int i3) (.int i4)=false:=by
    rw [lv];cases hl:ce ks (.int i1) (.bl c2) with
    | false=>rfl
    | true =>
     obtain ⟨k,hk,hc⟩:=tF hl;rw [hk,Bool.true_and];show (decide (i3 + sd1 k c2<=w1) && decide (i4 + sd2 k c2<=h1))=false;cases hz:(decide (i3 + sd1 k c2<=w1) && decide (i4 + sd2 k c2<=h1)) with
     | false=>rfl
     | true =>
      rw [Bool.and_eq_true] at hz;have z1:=B9 hz.1;have z2:=B9 hz.2;have hf:eZ k c2 w1 h1=true:=by unfold eZ;rw [decide_eq_true (show sd1 k c2<=w1 by omega),decide_eq_true (show sd2 k c2<=h1 by omega)]; rfl
      obtain ⟨m,hm⟩:=List.mem_iff_getElem?.mp (vy hk hc hf);have ml:=(A5.mp hm).1;rw [<- Paired.length py] at ml;exact absurd hm (no m ml)
   rw [lf] at q1;exact q1
 ·rw [show decide (V.int ((x0 :: xs).length:Int)=V.int 5)=false from decide_eq_false (λ z=>h5 (by have:=V.int.inj z; rw [List.length_cons] at this; omega))];have:pcD ks w1 h1 ds=false:=by
   unfold pcD
   split
   ·simp at len; omega
   ·rfl
  rw [this] at q0;exact aF (aF q0)
end
theorem cZ {x:PyData}:∀ {ds:List PyData},x∈ds->x.depth<=PyData.depthAll ds
 | d :: r,h=>by
  rw [PyData.depthAll];rcases List.mem_cons.mp h with h | h
  ·rw [h]; omega
  ·have:=cZ h; omega
theorem ge {d x:PyData} {ds:List PyData} (h:aQ d=some ds) (hx:x∈ds):x.depth < d.depth:=by
 have:=cZ hx;cases d <;> simp only [aQ,Option.some.injEq,reduceCtorEq] at h
 ·subst h; rw [PyData.depth]; omega
 ·subst h; rw [PyData.depth]; omega
section
variable {P:G4} {w:G6} {K:C3} {mg:Str->Option G7} {base:Heap}
inductive spIsTreeQ (n:Nat) (vs:List V) (H:Hp) (Q:VK) (E_:XK):Prop
 | mk (pp st l:Addr) (b w h:Int) (rs:List V) (ks:List Kd) (v:V) (d:PyData) (e_1:vs=[.ref st,.int w,.int h,v]) (e_2:ShL H st l b rs ks) (e_3:Dt pp H v d) (e_4:d.depth < n) (e_5:∀H',Same H H'->Q (.bl (isT b ks w h d)) H'):spIsTreeQ n vs H Q E_
theorem scistreeq:FnScope ["_law_shop_here","_law_wide","_law_high","_law_tree_here","_law_behind"] ["_law_shop_here","_law_wide","_law_high","_law_tree_here"] (defScope cV):=⟨O,O,O,by decide +kernel,O,by decide +kernel,by decide +kernel⟩
theorem lA {f:Addr} {fd:G5} (F:Fun K "_law_is_tree" "_law_is_tree" cV f fd) (B:Blt mg) (bs:mg "str" = none) (n:Nat) (DW:Dn P w K mg base "_law_is_whole" ["_law_thing","_law_least"] 1 (bB K)) (DPc:Dn P w K mg base "_law_is_piece" ["_law_shop_here","_law_wide","_law_high","_law_tree_here"] 2 (spPieceL K)) (DI:Dn P w K mg base "_law_is_tree" ["_law_shop_here","_law_wide","_law_high","_law_tree_here"] (3 + n) (spIsTreeQ n)):FnOk P w K mg base CX0 (3 + (n + 1)) f fd ["_law_shop_here","_law_wide","_law_high","_law_tree_here"] (spIsTreeQ (n + 1)):=by
 refine F.ok scistreeq (λ vs H Q E h=>?_) (λ cdv A outer s H vs Q E hr h=>?_)
 ·refine eY λ G9 k9=>?_;obtain ⟨pp,st,l,b,w1,h1,rs,ks,v,d,rfl,_⟩:=h;refine k9 ?_
  rfl
 refine eY λ G9 k9=>?_;obtain ⟨pp,st,l,b,w1,h1,rs,ks,v,d,rfl,sh,hd,hn,q⟩:=h;refine k9 ?_;have nd:=scistreeq.nd;refine ⟨_,(@af _ _ _ _ _ (@aG _ _ _ _ _ _ _ _ (PW.pt (br (@aS _ _ _ _ (@aI _ _ _ (@ay _ _ _ _ _ _ _ _ _ fm O B.isi PyProof.Rows.boot_isinstance ((pv 3)^^^((@az _ _ _ _ _ ((bo (v:=.ty "list") O B.list PyProof.Rows.boot_list O)^^^((bo (v:=.ty "tuple") O B.tuple PyProof.Rows.boot_tuple O)^^^ad)))^^^ad)) (by decide) (by decide) O O) (by intro _; rfl))) (br (@aw _ _ _ _ _ _ _ _ bf (@ay _ _ _ _ _ _ _ _ _ aN O B.len PySem.boot_len ((pv 3)^^^ad) (by decide) (by decide) O O) ae (av _)) (bz (@aS _ _ _ _ (@aI _ _ _ (@ay _ _ _ _ _ _ _ _ _ aW O B.isi PyProof.Rows.boot_isinstance ((@ax _ _ _ _ _ _ _ aP (pv 3) ae (λ _ _=>O))^^^((bo (v:=.ty "str") O bs PyProof.Rows.boot_str O)^^^ad)) (by decide) (by decide) O O) (by intro _; rfl))))))) (@ah _ _ _ (@aq _ _ _ _ aY)) ar) (@af _ _ _ _ _ (@aG _ _ _ _ _ _ _ _ (@aw _ _ _ _ _ _ _ _ bf (@ax _ _ _ _ _ _ _ aP (pv 3) ae (λ _ _=>O)) aJ (av _)) (@ah _ _ _ (@aq _ _ _ _ (@bt _ _ _ _ _ _ _ _ bf (@ay _ _ _ _ _ _ _ _ _ aN O B.len PySem.boot_len ((pv 3)^^^ad) (by decide) (by decide) O O) ae (av _)))) ar) (@af _ _ _ _ _ (@aG _ _ _ _ _ _ _ _ (@aw _ _ _ _ _ _ _ _ bf (@ax _ _ _ _ _ _ _ aP (pv 3) ae (λ _ _=>O)) aJ (av _)) (@ah _ _ _ (@aq _ _ _ _ (@ao _ _ _ _ _ _ _ _ _ _ DPc (hr.mono (show 2<=3 + n by omega)) O ((pv 0)^^^((pv 1)^^^((pv 2)^^^((pv 3)^^^ad)))) (by decide) O O))) ar) (@af _ _ _ _ _ (@aG _ _ _ _ _ _ _ _ (PW.pt (br (@aw _ _ _ _ _ _ _ _ jd (@ax _ _ _ _ _ _ _ aP (pv 3) ae (λ _ _=>O)) (@az _ _ _ _ _ (aJ^^^(aJ^^^ad))) O) (br (@aw _ _ _ _ _ _ _ _ gI (@ay _ _ _ _ _ _ _ _ _ aN O B.len PySem.boot_len ((pv 3)^^^ad) (by decide) (by decide) O O) ae (av _)) (bz (@aS _ _ _ _ (@aI _ _ _ (@ao _ _ _ _ _ _ _ _ _ _ DW (hr.mono (show 1<=3 + n by omega)) O ((@ax _ _ _ _ _ _ _ aP (pv 3) ae (λ _ _=>O))^^^(ae^^^ad)) (by decide) O O) (by intro _; rfl))))))) (@ah _ _ _ (@aq _ _ _ _ aY)) ar) (@af _ _ _ _ _ (@aB _ _ 4 _ _ _ _ nd O (Or.inl O) (@au _ _ _ _ _ _ _ _ aV (@ax _ _ _ _ _ _ _ aP (pv 3) ae (λ _ _=>O)) (@ax _ _ _ _ _ _ _ ix_tup (pv 0) ae (λ _ _=>O))) O (Or.inl O)) (@af _ _ _ _ _ (@aG _ _ _ _ _ _ _ _ (@aw _ _ _ _ _ _ _ _ bf (@ax _ _ _ _ _ _ _ aP (pv 3) ae (λ _ _=>O)) aJ (av _)) (@af _ _ _ _ _ (@aG _ _ _ _ _ _ _ _ (PW.pt (br (@aw _ _ _ _ _ _ _ _ ip (pv 4) (pv 1) (av _)) (bz (@aS _ _ _ _ (@aI _ _ _ (@ao _ _ _ _ _ _ _ _ _ _ DI hr O ((pv 0)^^^((@ax _ _ _ _ _ _ _ aP (pv 3) ae (λ _ _=>O))^^^((pv 2)^^^((@ax _ _ _ _ _ _ _ aP (pv 3) ae (λ _ _=>O))^^^ad)))) (by decide) O O) (by intro _; rfl)))))) (@ah _ _ _ (@aq _ _ _ _ aY)) ar) (@ah _ _ _ (@aq _ _ _ _ (@ao _ _ _ _ _ _ _ _ _ _ DI hr O ((pv 0)^^^((@au _ _ _ _ _ _ _ _ aZ (pv 1) (pv 4))^^^((pv 2)^^^((@ax _ _ _ _ _ _ _ aP (pv 3) ae (λ _ _=>O))^^^ad)))) (by decide) O O)))) ar) (@af _ _ _ _ _ (@aG _ _ _ _ _ _ _ _ (PW.pt (br (@aw _ _ _ _ _ _ _ _ ip (pv 4) (pv 2) (av _)) (bz (@aS _ _ _ _ (@aI _ _ _ (@ao _ _ _ _ _ _ _ _ _ _ DI hr O ((pv 0)^^^((pv 1)^^^((@ax _ _ _ _ _ _ _ aP (pv 3) ae (λ _ _=>O))^^^((@ax _ _ _ _ _ _ _ aP (pv 3) ae (λ _ _=>O))^^^ad)))) (by decide) O O) (by intro _; rfl)))))) (@ah _ _ _ (@aq _ _ _ _ aY)) ar) (@ah _ _ _ (@aq _ _ _ _ (@ao _ _ _ _ _ _ _ _ _ _ DI hr O ((pv 0)^^^((pv 1)^^^((@au _ _ _ _ _ _ _ _ aZ (pv 2) (pv 4))^^^((@ax _ _ _ _ _ _ _ aP (pv 3) ae (λ _ _=>O))^^^ad)))) (by decide) O O)))))))))),?_⟩;have hr1:=hr.mono (show 1<=3 + n by omega);have hr2:=hr.mono (show 2<=3 + n by omega);refine cq (λ R=>∀ (H':Hp),Same H H'->(∃a y xs ds,v=.ref a/\aQ d=some (.str y :: ds)/\(H a=some (.lst (.str y :: xs))\/H a=some (.tup (.str y :: xs)))/\Dts pp H xs ds)->R [some (.ref st),some (.int w1),some (.int h1),some (v),none] H') (λ R hR=>?_) ?_
 ·refine ⟨_,O,zS2,λ tp htp=>?_⟩;have s1:Same H (upd H tp (.tup [.ty "list",.ty "tuple"])):=G8 htp;have k1:(upd H tp (.tup [.ty "list",.ty "tuple"])) tp=some (.tup [.ty "list",.ty "tuple"]):=ag;rw [show upd H tp _=upd H tp (.tup [.ty "list",.ty "tuple"]) from rfl];generalize upd H tp (.tup [.ty "list",.ty "tuple"])=H1 at s1 k1 ⊢;have q1:=q _ s1;rcases hd.row (K:=K) with ⟨e,T,ty,hT⟩ | ⟨a,xs,ds,T,e,rfl,hx,dx,ty,hT⟩
  ·refine ⟨v,tp,_,_,_,_,O,(Ty.same s1 ty).2,k1,O,jg T ty.1,_,O,?_⟩;rw [hT];rw [ci (λ y r z=>by rw [e] at z; cases z)] at q1;exact aF (aF q1)
  ·refine ⟨_,tp,_,_,_,_,O,(Ty.same s1 ty).2,k1,O,jg T ty.1,_,O,?_⟩;rw [hT];have sq:SqL K H1 a xs\/SqT K H1 a xs:=hx.imp (λ z=>IV (s1 _ _ z)) λ z=>IU (s1 _ _ z);refine aA ⟨_,rfl,a,_,rfl,sq,rfl,_,rfl,?_⟩;cases dx with
   | nil =>
    rw [ci (λ y r z=>by rw [e] at z; cases z)] at q1;exact aF (aF q1)
   | @cons x d1 xs ds hd1 dr =>
    have a0:atI (x :: xs) 0=some x:=aL (E2 _) rfl;rw [show decide (V.int ((x :: xs).length:Int)=V.int 0)=false from decide_eq_false (λ z=>by have:=V.int.inj z; rw [List.length_cons] at this; omega)];refine aA ⟨_,rfl,ixR s1 hx a0 ?_⟩;cases hd1 with
    | str y=>exact ⟨_,_,_,_,_,O,(Ty.str (K:=K)).2,O,bA "str" (by simp [aD]),_,O,aA (hR _ s1 ⟨a,y,xs,ds,O,e,hx,dr⟩)⟩
    | non=>exact ⟨_,_,_,_,_,O,(Ty.non (K:=K)).2,O,bA "NoneType" (by simp [aD]),_,O,aF (by rw [ci (λ y r z=>by rw [e] at z; cases z)] at q1; exact q1)⟩
    | bl b=>exact ⟨_,_,_,_,_,O,(Ty.bl (K:=K)).2,O,bA "bool" (by simp [aD]),_,O,aF (by rw [ci (λ y r z=>by rw [e] at z; cases z)] at q1; exact q1)⟩
    | int i=>exact ⟨_,_,_,_,_,O,(Ty.int (K:=K)).2,O,bA "int" (by simp [aD]),_,O,aF (by rw [ci (λ y r z=>by rw [e] at z; cases z)] at q1; exact q1)⟩
    | lst _ h r=>exact ⟨_,_,_,_,_,O,(Ty.lst (s1 _ _ h) (K:=K)).2,O,bA "list" (by simp [aD]),_,O,aF (by rw [ci (λ y r z=>by rw [e] at z; cases z)] at q1; exact q1)⟩
    | tup h r=>exact ⟨_,_,_,_,_,O,(Ty.tup (s1 _ _ h) (K:=K)).2,O,bA "tuple" (by simp [aD]),_,O,aF (by rw [ci (λ y r z=>by rw [e] at z; cases z)] at q1; exact q1)⟩
    | emp h=>exact ⟨_,_,_,_,_,O,(Ty.dK (s1 _ _ h) (K:=K)).2,O,bA "dict" (by simp [aD]),_,O,aF (by rw [ci (λ y r z=>by rw [e] at z; cases z)] at q1; exact q1)⟩
 intro H1 s1 hI9;refine eY λ G9 k9=>?_;obtain ⟨a,y,xs,ds,rfl,e,hx,dx⟩:=hI9;refine k9 ?_;have len:=dx.length;have sq:∀ {Hx},Same H Hx->SqL K Hx a (.str y :: xs)\/SqT K Hx a (.str y :: xs):=λ {Hx} s=>hx.imp (λ z=>IV (s _ _ z)) λ z=>IU (s _ _ z);have a0:atI (.str y :: xs) 0=some (.str y):=aL (E2 _) rfl;have q1:=q H1 s1;refine cq (λ R=>y ≠ "rest" -> R [some (.ref st),some (.int w1),some (.int h1),some (.ref a),none] H1) (λ R hR=>?_) ?_
 ·refine ⟨_,O,ixR s1 hx a0 ⟨O,_,O,?_⟩⟩
  by_cases hy:y = "rest"
  ·rw [show decide (V.str y=V.str "rest")=true from decide_eq_true (by rw [hy])];rw [bI e (by rw [hy]; decide +kernel) (by rw [hy]; decide +kernel),if_pos (decide_eq_true hy),<- len] at q1;refine aF ⟨_,rfl,a,_,rfl,sq s1,rfl,?_⟩;rw [show decide (V.int ((V.str y :: xs).length:Int)=V.int 1)=decide (xs.length + 1=1) from decide_eq_decide.mpr ⟨λ z=>by have:=V.int.inj z; rw [List.length_cons] at this; omega,λ z=>by rw [List.length_cons,z]; rfl⟩];exact q1
  ·rw [show decide (V.str y=V.str "rest")=false from decide_eq_false (λ z=>hy (V.str.inj z))];exact aA (hR hy)
 rintro yr;refine cq (λ R=>y ≠ "piece" -> R [some (.ref st),some (.int w1),some (.int h1),some (.ref a),none] H1) (λ R hR=>?_) ?_
 ·refine ⟨_,O,ixR s1 hx a0 ⟨O,_,O,?_⟩⟩
  by_cases hy:y = "piece"
  ·rw [show decide (V.str y=V.str "piece")=true from decide_eq_true (by rw [hy])];refine aF ⟨_,rfl,_,rfl,_,rfl,_,rfl,pp,st,l,a,b,w1,h1,rs,ks,.str y,xs,ds,rfl,sh.same s1,hx.imp (λ z=>s1 _ _ z) (λ z=>s1 _ _ z),dx.same s1,λ H2 s2=>?_⟩;have q2:=q H2 (s1.trans s2);rw [bI e (by rw [hy]; decide +kernel) (by rw [hy]; decide +kernel),if_neg (by rw [decide_eq_false yr]; decide),if_pos (decide_eq_true hy)] at q2;exact q2
  ·rw [show decide (V.str y=V.str "piece")=false from decide_eq_false (λ z=>hy (V.str.inj z))];exact aA (hR hy)
 rintro yp;refine cq (λ R=>∀ (H':Hp), Same H H'->(∃ (dn:Bool) (p:Int) (x2 x3:V) (d2 d3:PyData), y=(if dn=true then (Str.ofString "down") else Str.ofString "across")/\xs=[.int p, x2, x3]/\ds=[.int p, d2, d3]/\1<=p)->R [some (.ref st), some (.int w1), some (.int h1), some (.ref a), none] H') (λ R hR=>?_) ?_
 ·refine ⟨_,O,ixR s1 hx a0 ⟨zS2,λ tp htp=>?_⟩⟩;have s12:Same H1 (upd H1 tp (.tup [.str "down",.str "across"])):=G8 htp;have k2:(upd H1 tp (.tup [.str "down",.str "across"])) tp=some (.tup [.str "down",.str "across"]):=ag;rw [show upd H1 tp _=upd H1 tp (.tup [.str "down",.str "across"]) from rfl];generalize upd H1 tp (.tup [.str "down",.str "across"])=H2 at s12 k2 ⊢;have s2:=s1.trans s12;have q2:=q H2 s2;refine ⟨tp,_,O,.inr (IU k2),O,O,_,O,?_⟩;have contF:∀dn:Bool,y=(if dn=true then (Str.ofString "down") else Str.ofString "across")->(xs.length≠3\/∃x1 xr,xs=x1 :: xr/\aK x1 1=false)->isT b ks w1 h1 d=false:=λ dn hy hh=>by
   rw [dF (dn:=dn) (by rw [e,hy])]
   split
   ·rename_i p l' r' _
    rcases hh with hh | ⟨x1,xr,hh,hw⟩
    ·exact absurd len hh
    ·subst hh;cases dx with
     | cons c1 _ =>
      cases c1;have hw:decide (1<=p)=false:=hw;rw [hw,Bool.false_and]
   ·rfl
  have isway:y = "down" \/ y = "across" -> (if true=true then !inV (V.str y) [V.str "down",V.str "across"] else inV (V.str y) [V.str "down",V.str "across"])=false:=λ z=>by rcases z with z | z <;> subst z <;> decide +kernel
  by_cases hway:y = "down" \/ y = "across"
  ·rw [isway hway];obtain ⟨dn,hdn⟩:∃dn:Bool,y=(if dn=true then (Str.ofString "down") else Str.ofString "across"):=hway.elim (λ z=>⟨true,z⟩) λ z=>⟨false,z⟩
   refine aA ⟨_,rfl,a,_,rfl,sq s2,rfl,_,rfl,?_⟩
   by_cases h3:xs.length=3
   ·rw [show decide (V.int ((V.str y :: xs).length:Int)=V.int 4)=true from decide_eq_true (by rw [List.length_cons,h3]; rfl)]
    match xs,ds,h3,dx with
    | [x1,x2,x3],[d1,d2,d3],_,.cons hd1 (.cons hd2 (.cons hd3 .nil)) =>
    have a1:atI [.str y,x1,x2,x3] 1=some x1:=aL (by decide) rfl;obtain ⟨T1,t1⟩:=hd1.ty (K:=K);refine aA ⟨_,rfl,ixR s2 hx a1 ⟨x1,T1,1,rfl,Ty.same s2 t1,_,rfl,?_⟩⟩;cases hw:aK x1 1 with
    | false =>
     rw [contF dn hdn (.inr ⟨_,_,O,hw⟩)] at q2;exact aF q2
    | true =>
     cases hd1 with
     | int p=>exact aA (hR _ s2 ⟨dn,p,x2,x3,d2,d3,hdn,rfl,rfl,B9 hw⟩)
     | _=>cases hw
   ·rw [show decide (V.int ((V.str y :: xs).length:Int)=V.int 4)=false from decide_eq_false (λ z=>h3 (by have:=V.int.inj z; rw [List.length_cons] at this; omega))];rw [contF dn hdn (.inl h3)] at q2;exact aF (aF q2)
  have yd:y ≠ "down" := λ z=>hway (.inl z);have ya:y ≠ "across" := λ z=>hway (.inr z);have ni:(if true=true then !inV (V.str y) [V.str "down",V.str "across"] else inV (V.str y) [V.str "down",V.str "across"])=true:=by
   show (!(eqV (.str "down") (.str y) || (eqV (.str "across") (.str y) || false)))=true;have z1:eqV (.str "down") (.str y)=false:=by
    cases z:eqV (.str "down") (.str y) with
    | false=>rfl
    | true=>exact absurd (by simpa [eqV] using z) (Ne.symm yd)
   have z2:eqV (.str "across") (.str y)=false:=by
    cases z:eqV (.str "across") (.str y) with
    | false=>rfl
    | true=>exact absurd (by simpa [eqV] using z) (Ne.symm ya)
   rw [z1,z2]; rfl
  rw [ni];rw [bI e (decide_eq_false yd) (decide_eq_false ya),if_neg (by rw [decide_eq_false yr]; decide),if_neg (by rw [decide_eq_false yp]; decide)] at q2;exact aF (aF q2)
 intro H2 s2 hI9;refine eY λ G9 k9=>?_;obtain ⟨dn,p,x2,x3,d2,d3,rfl,rfl,rfl,p1⟩:=hI9;refine k9 ?_;have a1:atI [.str (if dn=true then "down" else "across"),.int p,x2,x3] 1=some (.int p):=aL (by decide) rfl;have a2:atI [.str (if dn=true then "down" else "across"),.int p,x2,x3] 2=some x2:=aL (by decide) rfl;have a3:atI [.str (if dn=true then "down" else "across"),.int p,x2,x3] 3=some x3:=aL (by decide) rfl;have dp2:=ge e (x:=d2) (by simp);have dp3:=ge e (x:=d3) (by simp);cases dx with
 | cons hd1 dx =>
 cases dx with
 | cons hd2 dx =>
 cases dx with
 | cons hd3 dx =>
 have eT:isT b ks w1 h1 d=(decide (1<=p) && (if dn=true then decide (p + b < w1) && (isT b ks p h1 d2 && isT b ks (w1 - p - b) h1 d3) else decide (p + b < h1) && (isT b ks w1 p d2 && isT b ks w1 (h1 - p - b) d3))):=dF (dn:=dn) (r:=[.int p,d2,d3]) e;rw [decide_eq_true p1,Bool.true_and] at eT;refine aH (λ R=>R [some (.ref st),some (.int w1),some (.int h1),some (.ref a),some (.int (p + b))] H2) (λ Dd hR=>?_) ?_
 ·exact ⟨_,O,ixR s2 hx a1 ⟨_,O,st,_,0,_,O,O,IU (s2 _ _ sh.t),O,_,_,O,O,hR⟩⟩
 skip
 refine ⟨_,O,ixR s2 hx a0 ⟨O,_,O,?_⟩⟩;cases dn with
 | true =>
  rw [show decide (V.str (if true=true then (Str.ofString "down") else Str.ofString "across")=V.str (Str.ofString "down"))=true by decide +kernel];rw [if_pos rfl] at eT;refine aF ?_;refine ⟨_,O,_,O,_,_,O,O,_,O,?_⟩
  by_cases cb:p + b < w1
  ·rw [show decide (w1<=p + b)=false from decide_eq_false (by omega)];refine aA ⟨_,rfl,_,rfl,ixR s2 hx a1 ⟨_,rfl,_,rfl,ixR s2 hx a2 ⟨pp,st,l,b,_,_,rs,ks,x2,d2,rfl,sh.same s2,hd2.same s2,by omega,?_⟩⟩⟩;intro H3 s23;have s3:=s2.trans s23;rw [decide_eq_true cb,Bool.true_and] at eT;refine ⟨_,O,?_⟩;cases hl:isT b ks p h1 d2 with
   | false =>
    rw [hl,Bool.false_and] at eT;have q3:=q H3 s3;rw [eT] at q3;exact aF q3
   | true =>
   rw [hl,Bool.true_and] at eT;refine aA ⟨_,rfl,_,rfl,_,rfl,_,_,rfl,rfl,_,rfl,_,rfl,ixR s3 hx a3 ⟨pp,st,l,b,_,_,rs,ks,x3,d3,rfl,sh.same s3,hd3.same s3,by omega,?_⟩⟩;intro H4 s34;have q4:=q H4 (s3.trans s34);rw [eT] at q4;rw [show w1 - (p + b)=w1 - p - b by omega];exact q4
  ·rw [show decide (w1<=p + b)=true from decide_eq_true (by omega)];rw [decide_eq_false cb,Bool.false_and] at eT;have q2:=q H2 s2;rw [eT] at q2;exact aF (aF q2)
 | false =>
  rw [show decide (V.str (if false=true then (Str.ofString "down") else Str.ofString "across")=V.str (Str.ofString "down"))=false by decide +kernel];rw [if_neg Bool.false_ne_true] at eT;refine aA ?_;refine ⟨_,O,_,O,_,_,O,O,_,O,?_⟩
  by_cases cb:p + b < h1
  ·rw [show decide (h1<=p + b)=false from decide_eq_false (by omega)];refine aA ⟨_,rfl,_,rfl,_,rfl,ixR s2 hx a1 ⟨_,rfl,ixR s2 hx a2 ⟨pp,st,l,b,_,_,rs,ks,x2,d2,rfl,sh.same s2,hd2.same s2,by omega,?_⟩⟩⟩;intro H3 s23;have s3:=s2.trans s23;rw [decide_eq_true cb,Bool.true_and] at eT;refine ⟨_,O,?_⟩;cases hl:isT b ks w1 p d2 with
   | false =>
    rw [hl,Bool.false_and] at eT;have q3:=q H3 s3;rw [eT] at q3;exact aF q3
   | true =>
   rw [hl,Bool.true_and] at eT;refine aA ⟨_,rfl,_,rfl,_,rfl,_,rfl,_,_,rfl,rfl,_,rfl,ixR s3 hx a3 ⟨pp,st,l,b,_,_,rs,ks,x3,d3,rfl,sh.same s3,hd3.same s3,by omega,?_⟩⟩;intro H4 s34;have q4:=q H4 (s3.trans s34);rw [eT] at q4;rw [show h1 - (p + b)=h1 - p - b by omega];exact q4
  ·rw [show decide (h1<=p + b)=true from decide_eq_true (by omega)];rw [decide_eq_false cb,Bool.false_and] at eT;have q2:=q H2 s2;rw [eT] at q2;exact aF (aF q2)
theorem lB {f:Addr} {fd:G5} (F:Fun K "_law_is_tree" "_law_is_tree" cV f fd):FnOk P w K mg base CX0 3 f fd ["_law_shop_here","_law_wide","_law_high","_law_tree_here"] (spIsTreeQ 0):=by
 refine F.ok scistreeq (λ vs H Q E h=>?_) (λ cdv A outer s H vs Q E hr h=>?_)
 ·refine eY λ G9 k9=>?_;obtain ⟨pp,st,l,b,w1,h1,rs,ks,v,d,rfl,_⟩:=h;refine k9 ?_
  rfl
 ·refine eY λ G9 k9=>?_;obtain ⟨pp,st,l,b,w1,h1,rs,ks,v,d,_,_,_,z,_⟩:=h;refine k9 ?_;exact absurd z (E6 _)
theorem hJ {f:Addr} {fd:G5} (F:Fun K "_law_is_tree" "_law_is_tree" cV f fd) (B:Blt mg) (bs:mg "str" = none) (DW:Dn P w K mg base "_law_is_whole" ["_law_thing","_law_least"] 1 (bB K)) (DPc:Dn P w K mg base "_law_is_piece" ["_law_shop_here","_law_wide","_law_high","_law_tree_here"] 2 (spPieceL K)) (mk:∀n,FnOk P w K mg base CX0 (3 + n) f fd ["_law_shop_here","_law_wide","_law_high","_law_tree_here"] (spIsTreeQ n)->Dn P w K mg base "_law_is_tree" ["_law_shop_here","_law_wide","_law_high","_law_tree_here"] (3 + n) (spIsTreeQ n)):∀n,FnOk P w K mg base CX0 (3 + n) f fd ["_law_shop_here","_law_wide","_law_high","_law_tree_here"] (spIsTreeQ n)
 | 0=>lB F
 | n + 1=>lA F B bs n DW DPc (mk n (hJ F B bs DW DPc mk n))
end
mutual
def lsD:PyData->PyData
 | .tuple ds=>.list (dG ds)
 | .none=>.none
 | .bool b=>.bool b
 | .int i=>.int i
 | .str z=>.str z
 | .list ds=>.list ds
 | .dict k=>.dict k
def dG:List PyData->List PyData
 | []=>[]
 | d :: r=>lsD d :: dG r
end
mutual
theorem iM:∀d:PyData,(lsD d).depth=d.depth
 | .tuple ds=>by rw [lsD,PyData.depth,PyData.depth,hU ds]
 | .none=>rfl
 | .bool _=>rfl
 | .int _=>rfl
 | .str _=>rfl
 | .list _=>rfl
 | .dict _=>rfl
theorem hU:∀ds:List PyData,PyData.depthAll (dG ds)=PyData.depthAll ds
 | []=>rfl
 | d :: r=>by rw [dG,PyData.depthAll,PyData.depthAll,iM d,hU r]
end
mutual
theorem qS:∀d:PyData,wt (lsD d)=wt d
 | .tuple ds=>by rw [lsD,wt,wt,nh ds]
 | .none=>rfl
 | .bool _=>rfl
 | .int _=>rfl
 | .str _=>rfl
 | .list _=>rfl
 | .dict _=>rfl
theorem nh:∀ds:List PyData,wts (dG ds)=wts ds
 | []=>rfl
 | d :: r=>by rw [dG,wts,wts,qS d,nh r]
end
mutual
theorem tG:∀d:PyData,(lsD d).canLay0=d.canLay0
 | .tuple ds=>by rw [lsD,PyData.canLay0,PyData.canLay0,jZ ds]
 | .none=>rfl
 | .bool _=>rfl
 | .int _=>rfl
 | .str _=>rfl
 | .list _=>rfl
 | .dict _=>rfl
theorem jZ:∀ds:List PyData,PyData.canLayAll0 (dG ds)=PyData.canLayAll0 ds
 | []=>rfl
 | d :: r=>by rw [dG,PyData.canLayAll0,PyData.canLayAll0,tG d,jZ r]
end
theorem kh:∀a b:List PyData,dG (a ++ b)=dG a ++ dG b
 | [],_=>rfl
 | d :: r,b=>by rw [List.cons_append,dG,dG,kh r b]; rfl
theorem hV:∀a:List PyData,(dG a).length=a.length
 | []=>rfl
 | d :: r=>by rw [dG,List.length_cons,List.length_cons,hV r]
theorem gC:∀ds:List PyData,ds.length<=wts ds
 | []=>B2 _
 | d :: r=>by have:=gC r; have:=mX d; rw [List.length_cons,wts]; omega
theorem gD {x:PyData}:∀ {ds:List PyData},x∈ds->wt x<=wts ds
 | d :: r,h=>by
  rw [wts];rcases List.mem_cons.mp h with h | h
  ·rw [h]; omega
  ·have:=gD h; omega
theorem cr:∀a b:List PyData,wts (a ++ b)=wts a + wts b
 | [],b=>by rw [List.nil_append,wts]; omega
 | d :: r,b=>by rw [List.cons_append,wts,wts,cr r b]; omega
mutual
theorem Dt.dat {K:C3} {p:Addr} {H:Hp}:∀ {v:V} {d:PyData},Dt p H v d->d.canLay0=true->DatV K H v d
 | _,_,.non,_=>.non
 | _,_,.bl b,_=>.bl b
 | _,_,.int i,_=>.int i
 | _,_,.str z,_=>.str z
 | _,_,.lst n h r,c=>.lst (IV h) (r.dat c)
 | _,_,.tup h r,c=>.tup (IU h) (r.dat c)
 | _,_,.emp h,c=>nomatch c
theorem Dts.dat {K:C3} {p:Addr} {H:Hp}:∀ {vs:List V} {ds:List PyData},Dts p H vs ds->PyData.canLayAll0 ds=true->DatVs K H vs ds
 | _,_,.nil,_=>.nil
 | _,_,.cons a r,c=>.cons (a.dat (C6.mp c).1) (r.dat (C6.mp c).2)
end
theorem Dts.get {p:Addr} {H:Hp}:∀ {vs:List V} {ds:List PyData} {i:Nat} {x:V},Dts p H vs ds->vs[i]? = some x->∃d,ds[i]? = some d/\Dt p H x d
 | _,_,0,_,.cons a _,e=>⟨_,O,by cases e; exact a⟩
 | _,_,i + 1,_,.cons _ r,e=>by obtain ⟨d,h1,h2⟩:=r.get (i:=i) (by simpa using e);exact ⟨d,by simpa using h1,h2⟩
theorem Dts.app {p:Addr} {H:Hp}:∀ {vs us:List V} {ds es:List PyData},Dts p H vs ds->Dts p H us es->Dts p H (vs ++ us) (ds ++ es)
 | _,_,_,_,.nil,h=>h
 | _,_,_,_,.cons a r,h=>.cons a (r.app h)
theorem Dts.take {p:Addr} {H:Hp}:∀ {vs:List V} {ds:List PyData} (n:Nat),Dts p H vs ds->Dts p H (vs.take n) (ds.take n)
 | _,_,0,_=>.nil
 | _,_,n + 1,.nil=>.nil
 | _,_,n + 1,.cons a r=>.cons a (r.take n)
theorem Dts.drop {p:Addr} {H:Hp}:∀ {vs:List V} {ds:List PyData} (n:Nat),Dts p H vs ds->Dts p H (vs.drop n) (ds.drop n)
 | _,_,0,h=>h
 | _,_,n + 1,.nil=>.nil
 | _,_,n + 1,.cons a r=>r.drop n
theorem Dts.rev {p:Addr} {H:Hp}:∀ {vs:List V} {ds:List PyData},Dts p H vs ds->Dts p H vs.reverse ds.reverse
 | _,_,.nil=>.nil
 | _,_,.cons a r=>by rw [List.reverse_cons,List.reverse_cons];exact r.rev.app (.cons a .nil)
section
variable {P:G4} {w:G6} {K:C3} {mg:Str->Option G7} {base:Heap}
inductive spListed (n:Nat) (vs:List V) (H:Hp) (Q:VK) (E_:XK):Prop
 | mk (pp:Addr) (v:V) (d:PyData) (e_1:vs=[v]) (e_2:Dt pp H v d) (e_3:d.depth < n) (e_4:wt d<=40000) (e_5:(∃xs,H pp=some (.lst xs))) (e_6:∀v' H',Dt pp H' v' (lsD d)->Same H H'->Q v' H'):spListed n vs H Q E_
theorem sclisted:FnScope ["_law_thing"] ["_law_thing"] (defScope dD):=⟨O,O,O,by decide +kernel,O,by decide +kernel,by decide +kernel⟩
theorem og {f:Addr} {fd:G5} (F:Fun K "_law_listed" "_law_listed" dD f fd) (B:Blt mg) (n:Nat) (DLs:Dn P w K mg base "_law_listed" ["_law_thing"] (1 + n) (spListed n)):FnOk P w K mg base CX0 (1 + (n + 1)) f fd ["_law_thing"] (spListed (n + 1)):=by
 refine F.ok sclisted (λ vs H Q E h=>?_) (λ cdv A outer s H vs Q E hr h=>?_)
 ·obtain ⟨pp,v,d,rfl,_⟩:=h
  rfl
 obtain ⟨pp,v,d,rfl,hd,hn,wd,hpp,q⟩:=h;have nd:=sclisted.nd;refine ⟨_,(@af _ _ _ _ _ (@aG _ _ _ _ _ _ _ _ (@aI _ _ _ (@ay _ _ _ _ _ _ _ _ _ aW O B.isi PyProof.Rows.boot_isinstance ((pv 0)^^^((bo (v:=.ty "tuple") O B.tuple PyProof.Rows.boot_tuple O)^^^ad)) (by decide) (by decide) O O) (by intro _; rfl)) (@ah _ _ _ (@aq _ _ _ _ (el (own:=["_law_one"]) (cs:=[]) (cap:=[]) O (iV (pv 0)) (bX (sc:=defScope dD) (N:=["_law_thing"]) O O (by decide +kernel)) (λ _ _ _ _ _=>aj (i:=0) (by show List.Nodup (["_law_one"]:List Str) ; decide +kernel) O (Or.inl O) (Or.inr O)) (λ _ _ _ _ _=>dN) (λ _ _ _ _ _=>(@ao _ _ _ _ _ _ _ _ _ _ DLs hr O ((pv 0)^^^ad) (by decide) O O))))) ar) (@ah _ _ _ (@aq _ _ _ _ (pv 0)))),?_⟩;cases hd with
 | @tup a xs ds h r =>
  have hl:=r.length;have wl:=gC ds;have wd':wts ds + 1<=40000:=wd;have sz:40000 < sizeLine:=by decide
  refine ⟨_,O,_,_,_,_,_,O,(Ty.tup h (K:=K)).2,O,bD "tuple" (by simp [aD]),_,O,aF ?_⟩;refine ⟨_,O,a,O,⟨_,IU h⟩,(dQ (K:=K) (.inr h) (λ i ys Hx=>Same H Hx/\Dts pp Hx ys (dG (ds.take i))) (λ i ys Hx _ ⟨sx,_⟩ o e=>sx _ _ e) ⟨Same.refl _,.nil⟩ ?_ ?_).2 h⟩
  ·rintro i x ys H1 hi ⟨s1,py⟩;have hin:i < xs.length:=(A5.mp hi).1;obtain ⟨d,hd,hx⟩:=r.get hi;have yl:=py.length;rw [hV,List.length_take] at yl;have dm:=B4 hd;have d1:=cZ dm;have w1:=gD dm;have hn:PyData.depthAll ds + 1 < n + 1:=hn;obtain ⟨us,hu⟩:=hpp;refine ⟨by omega,leS.set rfl,dO ?_⟩;refine ⟨_,O,pp,x,d,O,hx.same s1,by omega,by omega,⟨us,s1 _ _ hu⟩,λ v' H2 hv s2=>Nx.of hin ⟨s1.trans s2,?_⟩⟩;rw [List.take_add_one,hd,kh];exact (py.same s2).app (.cons hv .nil)
  ·rintro ys H1 ⟨s1,py⟩;have yl:=py.length;rw [hV,List.length_take] at yl;obtain ⟨us,hu⟩:=hpp;refine ⟨by omega,λ t ht=>?_⟩;rw [hl,List.take_length] at py;refine q _ _ (.lst (Ne.symm (ap (s1 _ _ hu) ht)) ag (py.same (G8 ht))) (s1.trans (G8 ht))
 | non=>exact ⟨_,O,_,_,_,_,_,O,(Ty.non (K:=K)).2,O,bD "NoneType" (by simp [aD]),_,O,aA ⟨_,O,q _ _ (.non) (Same.refl _)⟩⟩
 | bl b=>exact ⟨_,O,_,_,_,_,_,O,(Ty.bl (K:=K)).2,O,bD "bool" (by simp [aD]),_,O,aA ⟨_,O,q _ _ (.bl b) (Same.refl _)⟩⟩
 | int i=>exact ⟨_,O,_,_,_,_,_,O,(Ty.int (K:=K)).2,O,bD "int" (by simp [aD]),_,O,aA ⟨_,O,q _ _ (.int i) (Same.refl _)⟩⟩
 | str z=>exact ⟨_,O,_,_,_,_,_,O,(Ty.str (K:=K)).2,O,bD "str" (by simp [aD]),_,O,aA ⟨_,O,q _ _ (.str z) (Same.refl _)⟩⟩
 | lst n h r=>exact ⟨_,O,_,_,_,_,_,O,(Ty.lst h (K:=K)).2,O,bD "list" (by simp [aD]),_,O,aA ⟨_,O,q _ _ (.lst n h r) (Same.refl _)⟩⟩
 | emp h=>exact ⟨_,O,_,_,_,_,_,O,(Ty.dK h (K:=K)).2,O,bD "dict" (by simp [aD]),_,O,aA ⟨_,O,q _ _ (.emp h) (Same.refl _)⟩⟩
theorem lC {f:Addr} {fd:G5} (F:Fun K "_law_listed" "_law_listed" dD f fd):FnOk P w K mg base CX0 1 f fd ["_law_thing"] (spListed 0):=by
 refine F.ok sclisted (λ vs H Q E h=>?_) (λ cdv A outer s H vs Q E hr h=>?_)
 ·obtain ⟨pp,v,d,rfl,_⟩:=h
  rfl
 ·obtain ⟨pp,v,d,_,_,z,_⟩:=h;exact absurd z (E6 _)
theorem hW {f:Addr} {fd:G5} (F:Fun K "_law_listed" "_law_listed" dD f fd) (B:Blt mg) (mk:∀n,FnOk P w K mg base CX0 (1 + n) f fd ["_law_thing"] (spListed n)->Dn P w K mg base "_law_listed" ["_law_thing"] (1 + n) (spListed n)):∀n,FnOk P w K mg base CX0 (1 + n) f fd ["_law_thing"] (spListed n)
 | 0=>lC F
 | n + 1=>og F B n (mk n (hW F B mk n))
end
def uJ:PyData->Bool
 | .str _=>true
 | _=>false
def qT:PyData->Bool
 | .tuple _=>true
 | _=>false
theorem Dt.kind {K:C3} {p:Addr} {H:Hp} {v:V} {d:PyData} (h:Dt p H v d):∃T,Ty K H v T/\(T == "str")=uJ d/\(T == "tuple")=qT d:=by
 cases h with
 | non=>exact ⟨_,Ty.non,O,O⟩
 | bl b=>exact ⟨_,Ty.bl,O,O⟩
 | int i=>exact ⟨_,Ty.int,O,O⟩
 | str z=>exact ⟨_,Ty.str,O,O⟩
 | lst _ h r=>exact ⟨_,Ty.lst h,O,O⟩
 | tup h r=>exact ⟨_,Ty.tup h,O,O⟩
 | emp h=>exact ⟨_,Ty.dK h,O,O⟩
mutual
def rwN:PyData->Nat
 | .list ds=>bv ds + 1
 | .tuple ds=>bv ds + 1
 | _=>0
def bv:List PyData->Nat
 | []=>0
 | d :: r=>rwN d + bv r
end
theorem bS:∀a b:List PyData,bv (a ++ b)=bv a + bv b
 | [],b=>by rw [List.nil_append,bv]; omega
 | d :: r,b=>by rw [List.cons_append,bv,bv,bS r b]; omega
theorem kj {x:PyData}:∀ {ds:List PyData},x∈ds->rwN x<=bv ds
 | d :: r,h=>by
  rw [bv];rcases List.mem_cons.mp h with e | e
  ·subst e; omega
  ·have:=kj e; omega
theorem qU (ds:List PyData):bv ds.reverse=bv ds:=by
 induction ds with
 | nil=>rfl
 | cons d r ih=>rw [List.reverse_cons,bS,ih,bv,bv,bv]; omega
theorem oh (n:Nat) (ds:List PyData):bv (ds.take n)<=bv ds:=by have:=bS (ds.take n) (ds.drop n);rw [List.take_append_drop] at this;omega
theorem oi (n:Nat) (ds:List PyData):bv (ds.drop n)<=bv ds:=by have:=bS (ds.take n) (ds.drop n);rw [List.take_append_drop] at this;omega
def Lot (p l:Addr) (n W D N:Nat) (H:Hp):Prop:=∃xs ds,H l=some (.lst xs)/\xs.length=n/\Dts p H xs ds/\(∀d∈ds,wt d<=W/\d.depth<=D/\rwN d<=N)/\l≠p
theorem Lot.pick {p l:Addr} {n W D N:Nat} {H H':Hp} (h:Lot p l n W D N H) (pt:PotAt H p) (b:But p H H') {z:Int} (z0:0<=z) (z1:z < n):∃xs x d,H' l=some (.lst xs)/\atI xs z=some x/\Dt p H' x d/\wt d<=W/\d.depth<=D/\rwN d<=N:=by obtain ⟨xs,ds,hl,hn,hd,hw,ne⟩:=h;obtain ⟨x,hx,hm⟩:=lq (xs:=xs) z0 (by omega);obtain ⟨j,hj⟩:=List.mem_iff_getElem?.mp hm;obtain ⟨d,e,h2⟩:=hd.get hj;have:=hw d (B4 e);exact ⟨xs,x,d,b _ _ ne hl,hx,h2.but (bu pt) b,this.1,this.2⟩
theorem tH (ds:List PyData):wts ds.reverse=wts ds:=by
 induction ds with
 | nil=>rfl
 | cons d r ih=>rw [List.reverse_cons,cr,ih,wts,wts,wts]; omega
theorem qV (n:Nat):∀ds:List PyData,wts (ds.take n)<=wts ds:=λ ds=>by have:=cr (ds.take n) (ds.drop n);rw [List.take_append_drop] at this;omega
theorem qW (n:Nat):∀ds:List PyData,wts (ds.drop n)<=wts ds:=λ ds=>by have:=cr (ds.take n) (ds.drop n);rw [List.take_append_drop] at this;omega
theorem cu:∀a b:List PyData,PyData.depthAll (a ++ b)=max (PyData.depthAll a) (PyData.depthAll b)
 | [],b=>by rw [List.nil_append,PyData.depthAll]; omega
 | d :: r,b=>by rw [List.cons_append,PyData.depthAll,PyData.depthAll,cu r b]; omega
theorem tI (ds:List PyData):PyData.depthAll ds.reverse=PyData.depthAll ds:=by
 induction ds with
 | nil=>rfl
 | cons d r ih=>rw [List.reverse_cons,cu,ih,PyData.depthAll,PyData.depthAll,PyData.depthAll]; omega
theorem qX (n:Nat):∀ds:List PyData,PyData.depthAll (ds.take n)<=PyData.depthAll ds:=λ ds=>by have:=cu (ds.take n) (ds.drop n);rw [List.take_append_drop] at this;omega
theorem qY (n:Nat):∀ds:List PyData,PyData.depthAll (ds.drop n)<=PyData.depthAll ds:=λ ds=>by have:=cu (ds.take n) (ds.drop n);rw [List.take_append_drop] at this;omega
theorem tJ {k:Int} (h0:0<=k) (h1:k < 10):(Str.ofString (toString k)).length<=1:=by
 have:k=0\/k=1\/k=2\/k=3\/k=4\/k=5\/k=6\/k=7\/k=8\/k=9:=by omega
 rcases this with rfl | rfl | rfl | rfl | rfl | rfl | rfl | rfl | rfl | rfl <;> decide +kernel
theorem dY (a b:Str):(a ++ b).length=a.length + b.length:=by show (a.cps ++ b.cps).size=_;rw [Array.size_append]; rfl
section
variable {P:G4} {w:G6} {K:C3} {mg:Str->Option G7} {base:Heap}
inductive spOther (vs:List V) (H:Hp) (Q:VK) (E_:XK):Prop
 | mk (p:Addr) (v:V) (d:PyData) (e_1:vs=[.ref p,v]) (e_2:Dt p H v d) (e_3:wt d<=39000) (e_4:PotAt H p) (e_5:∀v' d' H',Dt p H' v' d'->wt d'<=wt d + 20->d'.depth<=d.depth + 1->rwN d'<=rwN d + 1->PotAt H' p->But p H H'->Q v' H'):spOther vs H Q E_
inductive spSpoilt (n:Nat) (vs:List V) (H:Hp) (Q:VK) (E_:XK):Prop
 | mk (p:Addr) (v:V) (d:PyData) (deep:Nat) (e_1:vs=[.ref p,v,.int deep]) (e_2:Dt p H v d) (e_3:wt d<=39000) (e_4:deep < n) (e_5:PotAt H p) (e_6:∀v' d' H',Dt p H' v' d'->wt d'<=wt d + 20->d'.depth<=d.depth + 1->rwN d'<=rwN d + 1->PotAt H' p->But p H H'->Q v' H'):spSpoilt n vs H Q E_
theorem scother:FnScope ["_law_pot_here","_law_thing","_law_some"] ["_law_pot_here","_law_thing"] (defScope jv):=⟨O,O,O,by decide +kernel,O,by decide +kernel,by decide +kernel⟩
theorem qZ {f:Addr} {fd:G5} (F:Fun K "_law_other" "_law_other" jv f fd) (B:Blt mg) (bs:mg "str" = none) (DD:Dn P w K mg base "_law_draw" ["_law_pot_here","_law_many"] 1 (bP)) (DW:Dn P w K mg base "_law_is_whole" ["_law_thing","_law_least"] 1 (bB K)):FnOk P w K mg base CX0 2 f fd ["_law_pot_here","_law_thing"] (spOther):=by
 refine F.ok scother (λ vs H Q E h=>?_) (λ cdv A outer s H vs Q E hr h=>?_)
 ·obtain ⟨p,v,d,rfl,_⟩:=h
  rfl
 obtain ⟨p,v,d,rfl,hd,wd,pt,q⟩:=h;have nd:=scother.nd;refine ⟨_,(@af _ _ _ _ _ (@aG _ _ _ _ _ _ _ _ (@aI _ _ _ (@ao _ _ _ _ _ _ _ _ _ _ DW (hr.mono (by decide)) O ((pv 1)^^^(ae^^^ad)) (by decide) O O) (by intro _; rfl)) (@af _ _ _ _ _ (@aB _ _ 2 _ _ _ _ nd O (Or.inl O) (@aM _ _ _ _ ((@ay _ _ _ _ _ _ _ _ _ (iq O) O B.min PyProof.Rows.boot_min ((@au _ _ _ _ _ _ _ _ aV (pv 1) ae)^^^((@au _ _ _ _ _ _ _ _ aZ (@au _ _ _ _ _ _ _ _ dh ae ae) ae)^^^ad)) (by decide) (by decide) O O)^^^((@au _ _ _ _ _ _ _ _ aZ (pv 1) ae)^^^(ae^^^((@gH _ _ _ _ _ _ eO ae)^^^((@au _ _ _ _ _ _ _ _ aZ (@au _ _ _ _ _ _ _ _ dh ae ae) ae)^^^(aY^^^(fJ^^^((@bG _ _ _ _ _ _ _ _ _ iZ O bs PyProof.Rows.boot_str ((@au _ _ _ _ _ _ _ _ fM (pv 1) ae)^^^ad) (by decide) (by decide) O O)^^^((@az _ _ _ _ _ ((pv 1)^^^ad))^^^ad)))))))))) O (Or.inl O)) (@ah _ _ _ (@aq _ _ _ _ (@ax _ _ _ _ _ _ _ ix_list (pv 2) (@ao _ _ _ _ _ _ _ _ _ _ DD (hr.mono (by decide)) O ((pv 0)^^^(ae^^^ad)) (by decide) O O) (λ _ _=>O))))) ar) (@af _ _ _ _ _ (@aG _ _ _ _ _ _ _ _ (@aI _ _ _ (@ay _ _ _ _ _ _ _ _ _ aW O B.isi PyProof.Rows.boot_isinstance ((pv 1)^^^((bo (v:=.ty "str") O bs PyProof.Rows.boot_str O)^^^ad)) (by decide) (by decide) O O) (by intro _; rfl)) (@af _ _ _ _ _ (@aB _ _ 2 _ _ _ _ nd O (Or.inl O) (@aM _ _ _ _ (aJ^^^(aJ^^^(aJ^^^(aJ^^^(aJ^^^(aJ^^^(ae^^^(fJ^^^((@az _ _ _ _ _ (aJ^^^ad))^^^((@au _ _ _ _ _ _ _ _ eR (pv 1) aJ)^^^((@dJ _ _ _ _ _ _ _ _ _ _ (SlR.or lj ja) (pv 1) fi (fj (@gH _ _ _ _ _ _ eO ae)))^^^((@dJ _ _ _ _ _ _ _ _ _ _ lj (pv 1) fi (fj ae))^^^ad))))))))))))) O (Or.inl O)) (@ah _ _ _ (@aq _ _ _ _ (@ax _ _ _ _ _ _ _ ix_list (@au _ _ _ _ _ _ _ _ uZ (pv 2) (@aM _ _ _ _ ((@au _ _ _ _ _ _ _ _ eR aJ (pv 1))^^^((@au _ _ _ _ _ _ _ _ eR (pv 1) aJ)^^^ad)))) (@ao _ _ _ _ _ _ _ _ _ _ DD (hr.mono (by decide)) O ((pv 0)^^^(ae^^^ad)) (by decide) O O) (λ _ _=>O))))) ar) (@af _ _ _ _ _ (@aG _ _ _ _ _ _ _ _ (PW.pt (iS (@aI _ _ _ (@ay _ _ _ _ _ _ _ _ _ aW O B.isi PyProof.Rows.boot_isinstance ((pv 1)^^^((bo (v:=.ty "tuple") O B.tuple PyProof.Rows.boot_tuple O)^^^ad)) (by decide) (by decide) O O) (by intro _; rfl)) (gn (@aw _ _ _ _ _ _ _ _ pL (@ay _ _ _ _ _ _ _ _ _ aN O B.len PySem.boot_len ((pv 1)^^^ad) (by decide) (by decide) O O) ae (av _))))) (@af _ _ _ _ _ (@aB _ _ 2 _ _ _ _ nd O (Or.inl O) (@aM _ _ _ _ ((@dJ _ _ _ _ _ _ _ _ _ _ (SlR.or lj ja) (pv 1) fi (fj (@gH _ _ _ _ _ _ eO ae)))^^^((@au _ _ _ _ _ _ _ _ jb (pv 1) (@az _ _ _ _ _ (ae^^^ad)))^^^((@au _ _ _ _ _ _ _ _ jb (pv 1) (@az _ _ _ _ _ ((@az _ _ _ _ _ (aJ^^^ad))^^^ad)))^^^((@az _ _ _ _ _ (aJ^^^ad))^^^((@az _ _ _ _ _ ad)^^^((sL (pv 1) (@gH _ _ _ _ _ _ eO ae))^^^(fJ^^^(eX^^^((@aM _ _ _ _ (aJ^^^ad))^^^ad)))))))))) O (Or.inl O)) (@af _ _ _ _ _ (@aX _ _ _ _ (@cJ _ _ _ _ _ _ _ _ _ _ _ _ G2 PySem.F.slot_list_append PySem.F.type_list_append bC (pv 2) ((@ax _ _ _ _ _ _ _ ix_tup (pv 1) ae (λ _ _=>O))^^^ad) O O O O O) O) (@ah _ _ _ (@aq _ _ _ _ (@ax _ _ _ _ _ _ _ ix_list (pv 2) (@ao _ _ _ _ _ _ _ _ _ _ DD (hr.mono (by decide)) O ((pv 0)^^^(ae^^^ad)) (by decide) O O) (λ _ _=>O)))))) ar) (@ah _ _ _ (@aq _ _ _ _ (@ax _ _ _ _ _ _ _ ix_list (@aM _ _ _ _ (aY^^^(aY^^^(ae^^^(ae^^^(fJ^^^(aJ^^^((@az _ _ _ _ _ (aJ^^^ad))^^^ad)))))))) (@ao _ _ _ _ _ _ _ _ _ _ DD (hr.mono (by decide)) O ((pv 0)^^^(ae^^^ad)) (by decide) O O) (λ _ _=>O))))))),?_⟩;have sz:40000 < sizeLine:=by decide
 obtain ⟨T,ty,kS,kT⟩:=hd.kind (K:=K);have fin:∀ {l:Addr} {n:Nat} {Hx Hy:Hp} {z:Int},Lot p l n (wt d + 20) (d.depth + 1) (rwN d + 1) Hx->PotAt Hx p->Same H Hx->But p Hx Hy->PotAt Hy p->0<=z->z < n->rIxL K (.ref l) (.int z) Hy Q:=λ {l n Hx Hy z} lot ptx sx b pty z0 z1=>by obtain ⟨xs,x,d',h1,h2,h3,h4,h5,h6⟩:=lot.pick ptx b z0 z1;exact ⟨l,xs,z,x,O,O,IV h1,h2,q _ _ _ h3 h4 h5 h6 pty ((dE sx).trans b)⟩
 refine bi (λ σ' H'=>σ'=[some (.ref p),some (v),none]/\H=H'/\aK v 0=false) (λ R hR=>?_) ?_
 ·refine ⟨_,O,v,T,0,O,ty,_,O,?_⟩;cases hw:aK v 0 with
  | false=>exact aA (hR _ _ ⟨rfl,rfl,hw⟩)
  | true =>
  obtain ⟨i,rfl⟩:∃i,v=.int i:=by cases v <;> first | exact ⟨_,O⟩ | cases hw
  cases hd;refine aF ?_;have m0:=Int.emod_nonneg i (show (10:Int)≠0 by decide);have m1:=Int.emod_lt_of_pos i (show (0:Int) < 10 by decide);refine ⟨_,O,_,_,O,O,_,_,O,O,⟨by decide,by decide,by decide⟩,_,_,O,O,_,_,O,?_⟩;refine ⟨_,O,_,_,O,O,_,O,_,_,O,O,⟨by decide,by decide,by decide⟩,_,_,O,O,?_⟩;refine ⟨_,O,_,_,O,O,(by show (0:Int) < 10; decide),_,O,Nat.lt_of_le_of_lt (Nat.log2_le_self _) (by show (i % 10).natAbs < 1920; omega),?_⟩;refine ⟨_,O,(by show 1<=sizeLine; omega),λ t ht=>?_⟩;obtain ⟨H1,e1,k1,n1,s1,b1,pt1⟩:=bh (o:=.tup [.int i]) (But.refl (p:=p) (H:=H)) pt ht;rw [e1]; clear e1;refine ⟨(by show 9<=sizeLine; omega),λ l hl=>?_⟩;refine bi (λ σ' H'=>σ'=[some (.ref p),some (.int i),some (.ref l)]/\Lot p l 9 (wt (.int i) + 20) ((PyData.int i).depth + 1) (rwN (.int i) + 1) H'/\Same H H') (λ R hR=>hR _ _ ⟨rfl,?_,s1.trans (G8 hl)⟩) ?_
  ·refine ⟨_,[.int _,.int _,.int 0,.int _,.int _,.bool true,.none,.str _,.tuple [.int i]],ag,O,.cons (.int _) (.cons (.int _) (.cons (.int _) (.cons (.int _) (.cons (.int _) (.cons (.bl _) (.cons .non (.cons (.str _) (.cons (.tup (G8 hl _ _ k1) (.cons (.int _) .nil)) .nil)))))))),?_,Ne.symm (pt1.ne hl)⟩;have:=tJ m0 m1;simp only [List.forall_mem_cons,List.forall_mem_nil,wt,wts,rwN,bv,PyData.depth,PyData.depthAll];refine ⟨by omega,by omega,by omega,by omega,by omega,by omega,by omega,⟨?_,by omega⟩,by omega,λ _ z=>by cases z⟩;show (Str.ofString (toString (i % 10))).length + 1<=1 + 20;omega
  ·rintro _ H2 ⟨rfl,lot,s2⟩;have pt2:=pt.same s2;exact ⟨_,O,_,O,p,9,O,pt2,by decide,by decide,λ z H3 z0 z1 pt3 b3=>fin lot pt2 s2 b3 pt3 z0 z1⟩
 rintro _ _ ⟨rfl,rfl,_⟩;refine bi (λ σ' H'=>σ'=[some (.ref p),some (v),none]/\H=H') (λ R hR=>?_) ?_
 ·refine ⟨_,O,_,_,_,_,_,O,ty.2,O,bA T ty.1,_,O,?_⟩;rw [kS];cases hs:uJ d with
  | false=>exact aA (hR _ _ ⟨rfl,rfl⟩)
  | true =>
  cases hd with
  | str z =>
   have hz:z.length + 1<=39000:=wd;refine aF ?_;refine ⟨(by show 1<=sizeLine; omega),λ t ht=>?_⟩;obtain ⟨H1,e1,k1,n1,s1,b1,pt1⟩:=bh (o:=.tup [.str "rest"]) (But.refl (p:=p) (H:=H)) pt ht;rw [show upd H t _=H1 from e1]; clear e1;refine ⟨_,O,_,_,O,O,(by show z.length + 1<=sizeLine; omega),?_⟩;refine ⟨_,O,_,O,_,O,.inl ⟨_,O,by omega,?_⟩⟩;refine ⟨_,O,_,O,_,O,by omega,?_⟩;refine ⟨(by show 12<=sizeLine; omega),λ l hl=>?_⟩;have l1:=Txt.slice_le z none (some (-1));have l2:=Txt.slice_le z none (some 1);refine bi (λ σ' H'=>σ'=[some (.ref p),some (.str z),some (.ref l)]/\Lot p l 12 (wt (.str z) + 20) ((PyData.str z).depth + 1) (rwN (.str z) + 1) H'/\Same H H') (λ R hR=>hR _ _ ⟨rfl,?_,s1.trans (G8 hl)⟩) ?_
   ·refine ⟨_,[.str _,.str _,.str _,.str _,.str _,.str _,.int _,.none,.tuple [.str "rest"],.str _,.str _,.str _],ag,O,.cons (.str _) (.cons (.str _) (.cons (.str _) (.cons (.str _) (.cons (.str _) (.cons (.str _) (.cons (.int _) (.cons .non (.cons (.tup (G8 hl _ _ k1) (.cons (.str _) .nil)) (.cons (.str _) (.cons (.str _) (.cons (.str _) .nil))))))))))),?_,Ne.symm (pt1.ne hl)⟩;have w1:(Str.ofString "rest").length=4:=by decide +kernel
    have w2:(Str.ofString "piece").length=5:=by decide +kernel
    have w3:(Str.ofString "down").length=4:=by decide +kernel
    have w4:(Str.ofString "across").length=6:=by decide +kernel
    have w5:(Str.ofString "Down").length=4:=by decide +kernel
    have w6:(Str.ofString "").length=0:=by decide +kernel
    have w7:(Str.ofString "s").length=1:=by decide +kernel
    have w8:=dY z (Str.ofString "s");simp only [List.forall_mem_cons,List.forall_mem_nil,wt,wts,rwN,bv,PyData.depth,PyData.depthAll];exact ⟨by omega,by omega,by omega,by omega,by omega,by omega,by omega,by omega,by omega,by omega,by omega,by omega,λ _ z=>by cases z⟩
   ·rintro _ H2 ⟨rfl,lot,s2⟩;have pt2:=pt.same s2;obtain ⟨xs,ds,hl2,hn,hd2,hw2,ne2⟩:=lot;have ws:(Str.ofString " ").length=1:=by decide +kernel
    refine ⟨_,O,_,O,_,_,O,O,(by show (Str.ofString " ").length + z.length<=sizeLine; omega),_,O,_,_,O,O,(by show z.length + (Str.ofString " ").length<=sizeLine; omega),?_⟩;refine ⟨(by show 2<=sizeLine; omega),λ l3 hl3=>?_⟩;obtain ⟨H3,e3,k3,n3,s3,b3,pt3⟩:=bh (o:=.lst [.str (Str.ofString " " ++ z),.str (z ++ Str.ofString " ")]) (But.refl (p:=p) (H:=H2)) pt2 hl3;rw [show upd H2 l3 _=H3 from e3]; clear e3;refine ⟨l,l3,xs,_,O,O,s3 _ _ hl2,k3,(by rw [hn]; show 12 + 2<=sizeLine; omega),λ l4 hl4=>?_⟩;have s4:=G8 hl4 (o:=.lst (xs ++ [.str (Str.ofString " " ++ z),.str (z ++ Str.ofString " ")]));have k4:(upd H3 l4 (.lst (xs ++ [.str (Str.ofString " " ++ z),.str (z ++ Str.ofString " ")]))) l4=_:=ag;have n4:=pt3.ne hl4;generalize upd H3 l4 (.lst (xs ++ [.str (Str.ofString " " ++ z),.str (z ++ Str.ofString " ")]))=H4 at s4 k4 ⊢;have s24:=s3.trans s4;have pt4:=pt2.same s24;have lot4:Lot p l4 14 (wt (.str z) + 20) ((PyData.str z).depth + 1) (rwN (.str z) + 1) H4:=by
     refine ⟨_,ds ++ [.str (Str.ofString " " ++ z),.str (z ++ Str.ofString " ")],k4,by rw [List.length_append,hn]; rfl,(hd2.same s24).app (.cons (.str _) (.cons (.str _) .nil)),?_,Ne.symm n4⟩;intro d' hd';rcases C1.mp hd' with hd' | hd'
     ·exact hw2 d' hd'
     ·have w1:(Str.ofString " ").length=1:=by decide +kernel
      have w8:=dY z (Str.ofString " ");have w9:=dY (Str.ofString " ") z;rcases List.mem_cons.mp hd' with rfl | hd'
      ·simp only [wt,rwN,PyData.depth]; omega
      ·rw [List.mem_singleton] at hd';subst hd';simp only [wt,rwN,PyData.depth]; omega
    exact ⟨_,O,p,14,O,pt4,by decide,by decide,λ y H5 z0 z1 pt5 b5=>fin lot4 pt4 (s2.trans s24) b5 pt5 z0 z1⟩
  | _=>cases hs
 rintro _ _ ⟨rfl,rfl⟩;refine cq (λ R=>R [some (.ref p),some (v),none] H) (λ R hR=>?_) ?_
 ·refine ⟨_,O,_,_,_,_,_,O,ty.2,O,bD T ty.1,_,O,?_⟩;rw [kT];cases hs:qT d with
  | false=>exact aA (aA (hR))
  | true =>
  cases hd with
  | @tup a xs ds h r =>
   have hlen:=r.length;have wl:=gC ds;have wd':wts ds + 1<=39000:=wd;refine aF ⟨_,rfl,a,_,rfl,.inr (IU h),_,_,rfl,rfl,_,rfl,?_⟩
   by_cases x0:xs.length=0
   ·rw [show decide ((0:Int) < (xs.length:Int))=false from decide_eq_false (by omega)];exact aA (hR)
   rw [show decide ((0:Int) < (xs.length:Int))=true from decide_eq_true (by omega)];refine aF ?_
   match xs,ds,x0,r,h with
   | x1 :: xr,d1 :: dr,_,.cons hd1 rr,h =>
   have r:Dts p H (x1 :: xr) (d1 :: dr):=.cons hd1 rr;rw [List.length_cons] at hlen;refine ⟨_,O,_,O,_,O,.inr ⟨a,_,O,IU h,(λ z=>?_),λ t1 ht1=>?_⟩⟩
   ·have:=z.2;have:(if (-1:Int) < 0 then ((-1:Int) + ((x1 :: xr).length:Int)).toNat else min (-1:Int).toNat (x1 :: xr).length)=(x1 :: xr).length:=this;rw [if_pos (by decide),List.length_cons] at this;omega
   obtain ⟨J1,e1,k1,n1,s1,b1,pu1⟩:=bh (o:=.tup (gg (x1 :: xr) none (some (-1)))) (But.refl (p:=p) (H:=H)) pt ht1;rw [show upd H t1 _=J1 from e1]; clear e1;refine ⟨_,O,(by show 1<=sizeLine; omega),λ t2 ht2=>?_⟩;obtain ⟨J2,e2,k2,n2,s2,b2,pu2⟩:=bh (o:=.tup [.int 0]) (But.refl (p:=p) (H:=J1)) pu1 ht2;rw [show upd J1 t2 _=J2 from e2]; clear e2;refine ⟨a,t2,_,_,O,O,IU ((s1.trans s2) _ _ h),IU k2,List.cons_ne_nil _ _,(by show xr.length + 1 + 1<=sizeLine; omega),(λ z=>by cases z),λ _ t3 ht3=>?_⟩;obtain ⟨J3,e3,k3,n3,s3,b3,pu3⟩:=bh (o:=.tup (x1 :: xr ++ [.int 0])) (But.refl (p:=p) (H:=J2)) pu2 ht3;rw [show upd J2 t3 _=J3 from e3]; clear e3;refine ⟨_,O,(by show 1<=sizeLine; omega),λ t4 ht4=>?_⟩;obtain ⟨J4,e4,k4,n4,s4,b4,pu4⟩:=bh (o:=.tup [.str "rest"]) (But.refl (p:=p) (H:=J3)) pu3 ht4;rw [show upd J3 t4 _=J4 from e4]; clear e4;refine ⟨(by show 1<=sizeLine; omega),λ t5 ht5=>?_⟩;obtain ⟨J5,e5,k5,n5,s5,b5,pu5⟩:=bh (o:=.tup [.ref t4]) (But.refl (p:=p) (H:=J4)) pu4 ht5;rw [show upd J4 t5 _=J5 from e5]; clear e5;refine ⟨a,t5,_,_,O,O,IU (((((s1.trans s2).trans s3).trans s4).trans s5) _ _ h),IU k5,List.cons_ne_nil _ _,(by show xr.length + 1 + 1<=sizeLine; omega),(λ z=>by cases z),λ _ t6 ht6=>?_⟩;obtain ⟨J6,e6,k6,n6,s6,b6,pu6⟩:=bh (o:=.tup (x1 :: xr ++ [.ref t4])) (But.refl (p:=p) (H:=J5)) pu5 ht6;rw [show upd J5 t6 _=J6 from e6]; clear e6;refine ⟨(by show 1<=sizeLine; omega),λ t7 ht7=>?_⟩;obtain ⟨J7,e7,k7,n7,s7,b7,pu7⟩:=bh (o:=.tup [.str "rest"]) (But.refl (p:=p) (H:=J6)) pu6 ht7;rw [show upd J6 t7 _=J7 from e7]; clear e7;refine ⟨(by show 0<=sizeLine; omega),λ t8 ht8=>?_⟩;obtain ⟨J8,e8,k8,n8,s8,b8,pu8⟩:=bh (o:=.tup []) (But.refl (p:=p) (H:=J7)) pu7 ht8;rw [show upd J7 t8 _=J8 from e8]; clear e8;refine ⟨_,O,_,O,O,a,_,O,IU ((((((((s1.trans s2).trans s3).trans s4).trans s5).trans s6).trans s7).trans s8) _ _ h),λ t9 ht9=>?_⟩;obtain ⟨J9,e9,k9,n9,s9,b9,pu9⟩:=bh (o:=.tup (x1 :: xr).reverse) (But.refl (p:=p) (H:=J8)) pu8 ht9;rw [show upd J8 t9 _=J9 from e9]; clear e9;refine λ t10 ht10=>?_;obtain ⟨J10,e10,k10,n10,s10,b10,pu10⟩:=bh (o:=.dK []) (But.refl (p:=p) (H:=J9)) pu9 ht10;rw [show upd J9 t10 _=J10 from e10]; clear e10;refine ⟨(by show 1<=sizeLine; omega),λ t11 ht11=>?_⟩;obtain ⟨J11,e11,k11,n11,s11,b11,pu11⟩:=bh (o:=.lst [.str "rest"]) (But.refl (p:=p) (H:=J10)) pu10 ht11;rw [show upd J10 t11 _=J11 from e11]; clear e11;refine ⟨(by show 9<=sizeLine; omega),λ l hl=>?_⟩;refine ⟨_,O,.inl ⟨O,_,IV ag⟩,_,O,a,_,0,_,O,O,IU (G8 hl _ _ (((((((((((s1.trans s2).trans s3).trans s4).trans s5).trans s6).trans s7).trans s8).trans s9).trans s10).trans s11) _ _ h)),(aL (xs:=x1 :: xr) (E2 _) rfl),l,_,_,O,O,ag,(by show 9 + 1<=sizeLine; omega),?_⟩;have nl:=pu11.ne hl;have sl:∀o1 o2,Same J11 (upd (upd J11 l o1) l o2):=λ o1 o2 c o e=>by rw [am (ap e hl),am (ap e hl)]; exact e
   have sl:=sl (.lst [.ref t1,.ref t3,.ref t6,.ref t7,.ref t8,.ref t9,.non,.ref t10,.ref t11]) (.lst ([.ref t1,.ref t3,.ref t6,.ref t7,.ref t8,.ref t9,.non,.ref t10,.ref t11] ++ [x1]));have kl:(upd (upd J11 l (.lst [.ref t1,.ref t3,.ref t6,.ref t7,.ref t8,.ref t9,.non,.ref t10,.ref t11])) l (.lst ([.ref t1,.ref t3,.ref t6,.ref t7,.ref t8,.ref t9,.non,.ref t10,.ref t11] ++ [x1]))) l=_:=ag;rw [show upd (upd J11 l _) l _=upd (upd J11 l (.lst [.ref t1,.ref t3,.ref t6,.ref t7,.ref t8,.ref t9,.non,.ref t10,.ref t11])) l (.lst ([.ref t1,.ref t3,.ref t6,.ref t7,.ref t8,.ref t9,.non,.ref t10,.ref t11] ++ [x1])) from rfl];generalize upd (upd J11 l (.lst [.ref t1,.ref t3,.ref t6,.ref t7,.ref t8,.ref t9,.non,.ref t10,.ref t11])) l (.lst ([.ref t1,.ref t3,.ref t6,.ref t7,.ref t8,.ref t9,.non,.ref t10,.ref t11] ++ [x1]))=JL at sl kl ⊢;have f11:Same J11 JL:=sl;have f10:Same J10 JL:=s11.trans f11;have f9:Same J9 JL:=s10.trans f10;have f8:Same J8 JL:=s9.trans f9;have f7:Same J7 JL:=s8.trans f8;have f6:Same J6 JL:=s7.trans f7;have f5:Same J5 JL:=s6.trans f6;have f4:Same J4 JL:=s5.trans f5;have f3:Same J3 JL:=s4.trans f4;have f2:Same J2 JL:=s3.trans f3;have f1:Same J1 JL:=s2.trans f2;have f0:Same H JL:=s1.trans f1;have pl:=pt.same f0;have rL:=r.same f0;have lot:Lot p l 10 (wt (.tuple (d1 :: dr)) + 20) ((PyData.tuple (d1 :: dr)).depth + 1) (rwN (.tuple (d1 :: dr)) + 1) JL:=by
    refine ⟨_,[.tuple (((d1 :: dr).drop (HT.sIx (x1 :: xr).length 0 none)).take (HT.sIx (x1 :: xr).length (x1 :: xr).length (some (-1)) - HT.sIx (x1 :: xr).length 0 none)),.tuple ((d1 :: dr) ++ [.int 0]),.tuple ((d1 :: dr) ++ [.tuple [.str "rest"]]),.tuple [.str "rest"],.tuple [],.tuple (d1 :: dr).reverse,.none,.dict [],.list [.str "rest"],d1],kl,O,?_,?_,Ne.symm nl⟩
    ·refine .cons (.tup (f1 _ _ k1) ((rL.drop _).take _)) (.cons (.tup (f3 _ _ k3) (rL.app (.cons (.int _) .nil))) (.cons (.tup (f6 _ _ k6) (rL.app (.cons (.tup (f4 _ _ k4) (.cons (.str _) .nil)) .nil))) (.cons (.tup (f7 _ _ k7) (.cons (.str _) .nil)) (.cons (.tup (f8 _ _ k8) .nil) (.cons (.tup (f9 _ _ k9) rL.rev) (.cons .non (.cons (.emp (f10 _ _ k10)) (.cons (.lst n11 (f11 _ _ k11) (.cons (.str _) .nil)) (.cons (hd1.same f0) .nil)))))))))
    ·have w1:(Str.ofString "rest").length=4:=by decide +kernel
     have a1:=qV (HT.sIx (x1 :: xr).length (x1 :: xr).length (some (-1)) - HT.sIx (x1 :: xr).length 0 none) ((d1 :: dr).drop (HT.sIx (x1 :: xr).length 0 none));have a2:=qW (HT.sIx (x1 :: xr).length 0 none) (d1 :: dr);have a3:=qX (HT.sIx (x1 :: xr).length (x1 :: xr).length (some (-1)) - HT.sIx (x1 :: xr).length 0 none) ((d1 :: dr).drop (HT.sIx (x1 :: xr).length 0 none));have a4:=qY (HT.sIx (x1 :: xr).length 0 none) (d1 :: dr);have a5:=cr (d1 :: dr) [.int 0];have a6:=cr (d1 :: dr) [.tuple [.str "rest"]];have a7:=cu (d1 :: dr) [.int 0];have a8:=cu (d1 :: dr) [.tuple [.str "rest"]];have a9:=tH (d1 :: dr);have b1:=tI (d1 :: dr);have b2:=gD (x:=d1) (ds:=d1 :: dr) B6;have b3:=cZ (x:=d1) (ds:=d1 :: dr) B6;have c1:=oh (HT.sIx (x1 :: xr).length (x1 :: xr).length (some (-1)) - HT.sIx (x1 :: xr).length 0 none) ((d1 :: dr).drop (HT.sIx (x1 :: xr).length 0 none));have c2:=oi (HT.sIx (x1 :: xr).length 0 none) (d1 :: dr);have c5:=bS (d1 :: dr) [.int 0];have c6:=bS (d1 :: dr) [.tuple [.str "rest"]];have c9:=qU (d1 :: dr);have c7:=kj (x:=d1) (ds:=d1 :: dr) B6;generalize hD:d1 :: dr=DD0 at *;simp only [wt,wts,rwN,bv,PyData.depth,PyData.depthAll] at a5 a6 a7 a8 c5 c6;simp only [List.forall_mem_cons,List.forall_mem_nil,wt,wts,rwN,bv,PyData.depth,PyData.depthAll,PyData.depthKv];exact ⟨by omega,by omega,by omega,by omega,by omega,by omega,by omega,by omega,by omega,by omega,λ _ z=>by cases z⟩
   exact ⟨_,O,_,O,p,10,O,pl,by decide,by decide,λ y H5 z0 z1 pt5 b5=>fin lot pl f0 b5 pt5 z0 z1⟩
  | _=>cases hs
 skip
 refine ⟨(by show 1<=sizeLine; omega),λ t ht=>?_⟩;obtain ⟨H1,e1,k1,n1,s1,b1,pt1⟩:=bh (o:=.tup [.str "rest"]) (But.refl (p:=p) (H:=H)) pt ht;rw [show upd H t _=H1 from e1]; clear e1;refine ⟨(by show 7<=sizeLine; omega),λ l hl=>?_⟩;have s2:=G8 hl (o:=.lst [.bl true,.bl false,.int 0,.int 1,.non,.str "",.ref t]);have k2:(upd H1 l (.lst [.bl true,.bl false,.int 0,.int 1,.non,.str "",.ref t])) l=_:=ag;have n2:=pt1.ne hl;rw [show upd H1 l _=upd H1 l (.lst [.bl true,.bl false,.int 0,.int 1,.non,.str "",.ref t]) from rfl];generalize upd H1 l (.lst [.bl true,.bl false,.int 0,.int 1,.non,.str "",.ref t])=H2 at s2 k2 ⊢;have s12:=s1.trans s2;have pt2:=pt.same s12;have lot:Lot p l 7 (wt d + 20) (d.depth + 1) (rwN d + 1) H2:=by
  refine ⟨_,[.bool true,.bool false,.int 0,.int 1,.none,.str "",.tuple [.str "rest"]],k2,O,.cons (.bl _) (.cons (.bl _) (.cons (.int _) (.cons (.int _) (.cons .non (.cons (.str _) (.cons (.tup (s2 _ _ k1) (.cons (.str _) .nil)) .nil)))))),?_,Ne.symm n2⟩;have w1:(Str.ofString "rest").length=4:=by decide +kernel
  have w6:(Str.ofString "").length=0:=by decide +kernel
  simp only [List.forall_mem_cons,List.forall_mem_nil,wt,wts,rwN,bv,PyData.depth,PyData.depthAll];exact ⟨by omega,by omega,by omega,by omega,by omega,by omega,by omega,λ _ z=>by cases z⟩
 exact ⟨_,O,p,7,O,pt2,by decide,by decide,λ y H5 z0 z1 pt5 b5=>fin lot pt2 s12 b5 pt5 z0 z1⟩
theorem scspoilt:FnScope ["_law_pot_here","_law_thing","_law_deep","_law_at"] ["_law_pot_here","_law_thing","_law_deep"] (defScope eF):=⟨O,O,O,by decide +kernel,O,by decide +kernel,by decide +kernel⟩
theorem oj {f:Addr} {fd:G5} (F:Fun K "_law_spoilt" "_law_spoilt" eF f fd) (B:Blt mg) (n:Nat) (DD:Dn P w K mg base "_law_draw" ["_law_pot_here","_law_many"] 1 (bP)) (DO:Dn P w K mg base "_law_other" ["_law_pot_here","_law_thing"] 2 (spOther)) (DS:Dn P w K mg base "_law_spoilt" ["_law_pot_here","_law_thing","_law_deep"] (3 + n) (spSpoilt n)):FnOk P w K mg base CX0 (3 + (n + 1)) f fd ["_law_pot_here","_law_thing","_law_deep"] (spSpoilt (n + 1)):=by
 refine F.ok scspoilt (λ vs H Q E h=>?_) (λ cdv A outer s H vs Q E hr h=>?_)
 ·obtain ⟨p,v,d,deep,rfl,_⟩:=h
  rfl
 obtain ⟨p,v,d,deep,rfl,hd,wd,hn,pt,q⟩:=h;have nd:=scspoilt.nd;refine ⟨_,(@af _ _ _ _ _ (@aG _ _ _ _ _ _ _ _ (PW.pt (br (@aS _ _ _ _ (@aI _ _ _ (@ay _ _ _ _ _ _ _ _ _ aW O B.isi PyProof.Rows.boot_isinstance ((pv 1)^^^((bo (v:=.ty "tuple") O B.tuple PyProof.Rows.boot_tuple O)^^^ad)) (by decide) (by decide) O O) (by intro _; rfl))) (br (@aw _ _ _ _ _ _ _ _ bf (@ay _ _ _ _ _ _ _ _ _ aN O B.len PySem.boot_len ((pv 1)^^^ad) (by decide) (by decide) O O) ae (av _)) (br (@aw _ _ _ _ _ _ _ _ bf (pv 2) ae (av _)) (bz (@aw _ _ _ _ _ _ _ _ bf (@ao _ _ _ _ _ _ _ _ _ _ DD (hr.mono (show 1<=3 + n by omega)) O ((pv 0)^^^(ae^^^ad)) (by decide) O O) ae (av _))))))) (@ah _ _ _ (@aq _ _ _ _ (@ao _ _ _ _ _ _ _ _ _ _ DO (hr.mono (show 2<=3 + n by omega)) O ((pv 0)^^^((pv 1)^^^ad)) (by decide) O O))) ar) (@af _ _ _ _ _ (@aB _ _ 3 _ _ _ _ nd O (Or.inl O) (@ao _ _ _ _ _ _ _ _ _ _ DD (hr.mono (show 1<=3 + n by omega)) O ((pv 0)^^^((@ay _ _ _ _ _ _ _ _ _ aN O B.len PySem.boot_len ((pv 1)^^^ad) (by decide) (by decide) O O)^^^ad)) (by decide) O O) O (Or.inl O)) (@ah _ _ _ (@aq _ _ _ _ (@au _ _ _ _ _ _ _ _ mL (@au _ _ _ _ _ _ _ _ mL (@dJ _ _ _ _ _ _ _ _ _ _ ja (pv 1) fi (fj (pv 3))) (@az _ _ _ _ _ ((@ao _ _ _ _ _ _ _ _ _ _ DS hr O ((pv 0)^^^((@ax _ _ _ _ _ _ _ ix_tup (pv 1) (pv 3) (λ _ _=>O))^^^((@au _ _ _ _ _ _ _ _ aZ (pv 2) ae)^^^ad))) (by decide) O O)^^^ad))) (@dJ _ _ _ _ _ _ _ _ _ _ ja (pv 1) (fj (@au _ _ _ _ _ _ _ _ aV (pv 3) ae)) fi)))))),?_⟩;have sz:40000 < sizeLine:=by decide
 have hr1:=hr.mono (show 1<=3 + n by omega);have hr2:=hr.mono (show 2<=3 + n by omega);obtain ⟨T,ty,kS,kT⟩:=hd.kind (K:=K);have other:∀Hx,But p H Hx->PotAt Hx p->rS (jH spOther [] E0 (fh (tVar 0) (fh (tVar 1) jG))) { nx:=λ x H'=>Q V.non H',rt:=Q } [some (.ref p),some v,some (.int deep),none] Hx:=λ Hx bx ptx=>by exact ⟨_,O,_,O,p,v,d,O,hd.but (bu pt) bx,wd,ptx,λ v' d' H' h1 h2 h3 h6 h4 h5=>q v' d' H' h1 h2 h3 h6 h4 (bx.trans h5)⟩
 refine cq (λ R=>∀ (H':Hp),1<=deep->PotAt H' p->But p H H'->(∃a xs ds,v=.ref a/\d=.tuple ds/\H a=some (.tup xs)/\Dts p H xs ds/\1<=xs.length)->R [some (.ref p),some v,some (.int deep),none] H') (λ R hR=>?_) ?_
 ·refine ⟨_,O,_,_,_,_,_,O,ty.2,O,bD T ty.1,_,O,?_⟩;rw [kT];cases hs:qT d with
  | false=>exact aF (aF (other _ But.refl pt))
  | true =>
  cases hd with
  | @tup a xs ds h r =>
   refine aA ⟨_,rfl,a,_,rfl,.inr (IU h),rfl,_,rfl,?_⟩
   by_cases x0:xs.length=0
   ·rw [show decide (V.int (xs.length:Int)=V.int 0)=true from decide_eq_true (by rw [x0]; rfl)];exact aF (aF (other _ But.refl pt))
   rw [show decide (V.int (xs.length:Int)=V.int 0)=false from decide_eq_false (λ z=>x0 (by have:=V.int.inj z; omega))];refine aA ⟨_,rfl,rfl,_,rfl,?_⟩
   by_cases c2:deep=0
   ·rw [show decide (V.int (deep:Int)=V.int 0)=true from decide_eq_true (by rw [c2]; rfl)];exact aF (aF (other _ But.refl pt))
   rw [show decide (V.int (deep:Int)=V.int 0)=false from decide_eq_false (λ z=>c2 (by have:=V.int.inj z; omega))];refine aA ⟨_,rfl,p,4,rfl,pt,by decide,by decide,λ z H3 z0 z1 pt3 b3=>⟨rfl,_,rfl,?_⟩⟩;refine bW (λ cc=>?_) (λ cc=>?_)
   ·exact other _ b3 pt3
   ·exact hR _ (by omega) pt3 b3 ⟨a,xs,ds,rfl,rfl,h,r,by omega⟩
  | _=>cases hs
 intro H1 dp pt1 b1 hI9;refine eY λ G9 k9=>?_;obtain ⟨a,xs,ds,rfl,rfl,ha,r,x1⟩:=hI9;refine k9 ?_;have keepT:∀ {Ha Hb:Hp},But p Ha Hb->PotAt Ha p->∀a xs,Ha a=some (.tup xs)->Hb a=some (.tup xs):=λ {Ha Hb} bb pp a xs e=>by obtain ⟨_,hp⟩:=bu pp;exact bb _ _ (λ z=>by rw [z,hp] at e; cases e) e
 have hlen:=r.length;have wl:=gC ds;have wd':wts ds + 1<=39000:=wd;have ha1:=keepT b1 pt _ _ ha;have e60:(40000:Int) < 10 ^ 60:=by decide
 have r1:Dts p H1 xs ds:=Dts.but (bu pt) b1 r;refine ⟨_,O,_,O,a,_,O,.inr (IU ha1),p,_,O,pt1,by omega,(by omega),λ z H2 z0 z1 pt2 b2=>?_⟩;have ha2:=keepT b2 pt1 _ _ ha1;have r2:Dts p H2 xs ds:=Dts.but (bu pt1) b2 r1;obtain ⟨i,rfl⟩:∃i:Nat,z=i:=⟨z.toNat,by omega⟩
 have hi:i < xs.length:=by omega
 have hid:i < ds.length:=by omega
 refine ⟨_,O,_,O,_,O,a,_,O,IU ha2,(λ z=>?_),λ t1 ht1=>?_⟩
 ·have:=z.2;rw [HT.sIx_nat] at this;omega
 obtain ⟨J1,e1,k1,n1,s1,c1,pu1⟩:=bh (o:=.tup (gg xs none (some (i:Int)))) (But.refl (p:=p) (H:=H2)) pt2 ht1;rw [show upd H2 t1 _=J1 from e1]; clear e1;have ei:atI xs i=some xs[i]:=aL (by omega) (by rw [Int.toNat_natCast]; exact E8 hi);obtain ⟨di,hdi,hxi⟩:=r2.get (E8 hi);have dm:=B4 hdi;have wi:=gD dm;have pi:=cZ dm;obtain ⟨dp',hdp⟩:∃d',deep=d' + 1:=⟨deep - 1,by omega⟩
 refine ⟨_,O,_,O,_,O,a,_,(i:Int),_,O,O,IU (s1 _ _ ha2),ei,_,O,_,_,O,O,p,xs[i],di,dp',(by rw [hdp]; show [V.ref p,xs[i],V.int (((dp' + 1:Nat):Int) - 1)]=_; rw [show (((dp' + 1:Nat):Int) - 1)=dp' by omega]),hxi.same s1,by omega,by omega,pu1,λ v' d' J2 hv wv dv nv pu2 c2=>?_⟩;have t1':=keepT c2 pu1 _ _ k1;have a2:=keepT c2 pu1 _ _ (s1 _ _ ha2);have r2':Dts p J2 xs ds:=Dts.but (bu pu1) c2 (r2.same s1);have cut1:gg xs none (some (i:Int))=xs.take i:=by unfold gg;rw [HT.sIx_none,HT.sIx_nat,List.drop_zero,Nat.sub_zero,Nat.min_eq_left (by omega)]
 have cut2:gg xs (some ((i:Int) + 1)) none=xs.drop (i + 1):=by unfold gg;rw [show ((i:Int) + 1)=((i + 1:Nat):Int) by omega,HT.sIx_none,HT.sIx_nat,Nat.min_eq_left (by omega),List.take_of_length_le (by rw [List.length_drop]; exact Nat.le_refl _)]
 rw [cut1] at t1';refine ⟨(by show 1<=sizeLine; omega),λ t3 ht3=>?_⟩;obtain ⟨J3,e3,k3,n3,s3,c3,pu3⟩:=bh (o:=.tup [v']) (But.refl (p:=p) (H:=J2)) pu2 ht3;rw [e3]; clear e3;have tl:(xs.take i).length=i:=by rw [List.length_take]; omega
 refine ⟨t1,t3,_,_,O,O,s3 _ _ t1',k3,(by rw [tl]; show i + 1<=sizeLine; omega),λ m J4 hm km=>?_⟩;have s4:Same J3 J4:=by
  rcases hm with ⟨rfl,_⟩ | ⟨hm,rfl⟩
  ·exact Same.refl _
  ·exact G8 hm
 clear hm;have s24:=s3.trans s4;refine ⟨_,O,_,O,_,_,O,O,_,O,a,_,O,IU (s24 _ _ a2),(λ z=>?_),λ t5 ht5=>?_⟩
 ·have:=z.1;rw [show ((i:Int) + 1)=((i + 1:Nat):Int) by omega,HT.sIx_nat] at this;omega
 rw [cut2];have pu4:=pu2.same s24;obtain ⟨J5,e5,k5,n5,s5,c5,pu5⟩:=bh (o:=.tup (xs.drop (i + 1))) (But.refl (p:=p) (H:=J4)) pu4 ht5;rw [e5]; clear e5;refine ⟨m,t5,_,_,O,O,s5 _ _ km,k5,(by rw [List.length_append,tl,List.length_drop]; show i + 1 + (xs.length - (i + 1))<=sizeLine; omega),λ m2 J6 hm2 km2=>?_⟩;have s6:Same J5 J6:=by
  rcases hm2 with ⟨rfl,_⟩ | ⟨hm2,rfl⟩
  ·exact Same.refl _
  ·exact G8 hm2
 clear hm2;have s26:=s24.trans (s5.trans s6);have spl:ds=ds.take i ++ di :: ds.drop (i + 1):=by
  have e1:=List.drop_eq_getElem_cons hid;have e2:ds[i]=di:=by have:=E8 hid;rw [hdi] at this;exact (B7 this).symm
  rw [e2] at e1;rw [<- e1,List.take_append_drop]
 have w0:wts ds=wts (ds.take i) + (wt di + wts (ds.drop (i + 1))):=by
  conv=>lhs; rw [spl]
  rw [cr,wts]
 have p0:PyData.depthAll ds=max (PyData.depthAll (ds.take i)) (PyData.depthAll (di :: ds.drop (i + 1))):=by
  conv=>lhs; rw [spl]
  rw [cu]
 rw [PyData.depthAll] at p0;have r6:=r2'.same s26;refine q _ (.tuple (ds.take i ++ [d'] ++ ds.drop (i + 1))) J6 (.tup km2 (((r6.take i).app (.cons (hv.same s26) .nil)).app (r6.drop (i + 1)))) ?_ ?_ ?_ (pu2.same s26) ((b1.trans b2).trans ((dE s1).trans (c2.trans (dE s26))))
 ·show wts _ + 1<=wts ds + 1 + 20;rw [cr,cr,wts,wts,w0];omega
 ·show PyData.depthAll _ + 1<=PyData.depthAll ds + 1 + 1;rw [cu,cu,PyData.depthAll,PyData.depthAll,p0];omega
 ·show bv _ + 1<=bv ds + 1 + 1;have n0:bv ds=bv (ds.take i) + (rwN di + bv (ds.drop (i + 1))):=by
   conv=>lhs; rw [spl]
   rw [bS,bv]
  rw [bS,bS,bv,bv,n0];omega
theorem lD {f:Addr} {fd:G5} (F:Fun K "_law_spoilt" "_law_spoilt" eF f fd):FnOk P w K mg base CX0 3 f fd ["_law_pot_here","_law_thing","_law_deep"] (spSpoilt 0):=by
 refine F.ok scspoilt (λ vs H Q E h=>?_) (λ cdv A outer s H vs Q E hr h=>?_)
 ·obtain ⟨p,v,d,deep,rfl,_⟩:=h
  rfl
 ·obtain ⟨p,v,d,deep,_,_,_,z,_⟩:=h;exact absurd z (E6 _)
theorem hX {f:Addr} {fd:G5} (F:Fun K "_law_spoilt" "_law_spoilt" eF f fd) (B:Blt mg) (DD:Dn P w K mg base "_law_draw" ["_law_pot_here","_law_many"] 1 (bP)) (DO:Dn P w K mg base "_law_other" ["_law_pot_here","_law_thing"] 2 (spOther)) (mk:∀n,FnOk P w K mg base CX0 (3 + n) f fd ["_law_pot_here","_law_thing","_law_deep"] (spSpoilt n)->Dn P w K mg base "_law_spoilt" ["_law_pot_here","_law_thing","_law_deep"] (3 + n) (spSpoilt n)):∀n,FnOk P w K mg base CX0 (3 + n) f fd ["_law_pot_here","_law_thing","_law_deep"] (spSpoilt n)
 | 0=>lD F
 | n + 1=>oj F B n DD DO (mk n (hX F B DD DO mk n))
end
def TrD:Tr->PyData->Prop
 | .rest,d=>aQ d=some [.str "rest"]
 | .piece i c x y,d=>aQ d=some [.str "piece",.int i,.bool c,.int x,.int y]
 | .cut dn p l r,d=>∃dl dr,aQ d=some [.str (if dn=true then "down" else "across"),.int p,dl,dr]/\TrD l dl/\TrD r dr
theorem TrD.to:∀t:Tr,TrD t (toD t)
 | .rest=>rfl
 | .piece .. => rfl
 | .cut _ _ l r=>⟨toD l,toD r,O,TrD.to l,TrD.to r⟩
theorem TrD.good {b:Int} {ks:List Kd}:∀ (t:Tr) (d:PyData) (w h:Int),TrD t d->okT b ks w h t->isT b ks w h d=true
 | .rest,d,w,h,e,_=>by have e:aQ d=some (.str "rest" :: []):=e;rw [bI e (by decide +kernel) (by decide +kernel),if_pos (by decide +kernel)]; rfl
 | .piece i c x y,d,w,h,e,⟨k,hk,hc,x0,y0,hx,hy⟩=>by
  have e:aQ d=some (.str "piece" :: [.int i,.bool c,.int x,.int y]):=e;rw [bI e (by decide +kernel) (by decide +kernel),if_neg (by decide +kernel),if_pos (by decide +kernel)];show bN ks w h (.int i) (.bl c) (.int x) (.int y)=true;unfold bN;rw [gB hk hc];simp only [Int.toNat_natCast,hk];rw [show aK (.int x) 0=true from decide_eq_true x0,show aK (.int y) 0=true from decide_eq_true y0,decide_eq_true hx,decide_eq_true hy]
  rfl
 | .cut true p l r,d,w,h,⟨dl,dr,e,tl,tr⟩,⟨p1,hp,hl,hr⟩=>by have eT:isT b ks w h d=(decide (1<=p) && (decide (p + b < w) && (isT b ks p h dl && isT b ks (w - p - b) h dr))):=dF (dn:=true) (r:=[.int p,dl,dr]) e;rw [eT,decide_eq_true p1,decide_eq_true hp,TrD.good l dl p h tl hl,TrD.good r dr _ h tr hr]; rfl
 | .cut false p l r,d,w,h,⟨dl,dr,e,tl,tr⟩,⟨p1,hp,hl,hr⟩=>by have eT:isT b ks w h d=(decide (1<=p) && (decide (p + b < h) && (isT b ks w p dl && isT b ks w (h - p - b) dr))):=dF (dn:=false) (r:=[.int p,dl,dr]) e;rw [eT,decide_eq_true p1,decide_eq_true hp,TrD.good l dl w p tl hl,TrD.good r dr w _ tr hr]; rfl
structure Lf where
 x:Int
 y:Int
 w:Int
 h:Int
 t:Tr
def lvs (b:Int):Tr->Int->Int->Int->Int->List Lf
 | .cut true p l r,x,y,w,h=>lvs b r (x + (p + b)) y (w - p - b) h ++ lvs b l x y p h
 | .cut false p l r,x,y,w,h=>lvs b r x (y + (p + b)) w (h - p - b) ++ lvs b l x y w p
 | .rest,x,y,w,h=>[⟨x,y,w,h,.rest⟩]
 | .piece i c u v,x,y,w,h=>[⟨x,y,w,h,.piece i c u v⟩]
def szT:Tr->Nat
 | .cut _ _ l r=>szT l + szT r + 1
 | _=>1
def LfAt (p:Addr) (H0 H:Hp) (v:V) (t:Lf):Prop:=∃a u d,v=.ref a/\H a=some (.tup [.int t.x,.int t.y,.int t.w,.int t.h,u])/\Dt p H0 u d/\TrD t.t d
theorem LfAt.keep {p:Addr} {H0 H H':Hp} (k:∀a xs,H a=some (.tup xs)->H' a=some (.tup xs)) {v:V} {t:Lf} (h:LfAt p H0 H v t):LfAt p H0 H' v t:=by obtain ⟨a,u,d,e,h1,h2,h3⟩:=h;exact ⟨a,u,d,e,k _ _ h1,h2,h3⟩
def lsz (ts:List Lf):Nat:=(ts.map λ t=>szT t.t).sum
theorem cw (a b:List Lf):lsz (a ++ b)=lsz a + lsz b:=by unfold lsz; rw [List.map_append,List.sum_append]
theorem zL (t:Tr):1<=szT t:=by cases t <;> simp only [szT] <;> omega
theorem gE:∀ts:List Lf,ts.length<=lsz ts
 | []=>B2 _
 | t :: r=>by have:=gE r;have:=zL t.t;show r.length + 1<=szT t.t + lsz r;omega
def om (b:Int) (ts:List Lf):List Lf:=ts.reverse.flatMap λ t=>lvs b t.t t.x t.y t.w t.h
theorem de (b:Int) (ts:List Lf) (t:Lf):om b (ts ++ [t])=lvs b t.t t.x t.y t.w t.h ++ om b ts:=by
 unfold om;rw [List.reverse_append]
 rfl
section
variable {P:G4} {w:G6} {K:C3} {mg:Str->Option G7} {base:Heap}
inductive spLeaves (C:Addr) (vs:List V) (H:Hp) (Q:VK) (E_:XK):Prop
 | mk (pp s:Addr) (b w h:Int) (ks:List Kd) (v:V) (d:PyData) (t:Tr) (e_1:vs=[.ref s,.int w,.int h,v]) (e_2:ShopAt C H s b ks) (e_3:Dt pp H v d) (e_4:TrD t d) (e_5:szT t<=10000) (e_6:∀ (l:Addr) (us:List V) (H':Hp),H l=none->H' l=some (.lst us)->Paired (LfAt pp H H') us (lvs b t 0 0 w h)->Same H H'->Q (.ref l) H'):spLeaves C vs H Q E_
inductive spCheckT (C:Addr) (vs:List V) (H:Hp) (Q:VK) (E_:XK):Prop
 | mk (pp s:Addr) (b w h:Int) (ks:List Kd) (v:V) (d:PyData) (e_1:vs=[.ref s,.int w,.int h,v]) (e_2:ShopAt C H s b ks) (e_3:1<=w) (e_4:1<=h) (e_5:Dt pp H v d) (e_6:wt d<=30000) (e_7:isT b ks w h d=true) (e_8:∀H',Same H H'->Q .non H'):spCheckT C vs H Q E_
theorem scleaves:FnScope ["shop","wide","high","tree","leaves","waiting","spot"] ["shop","wide","high","tree"] (defScope eE):=⟨O,O,O,by decide +kernel,O,by decide +kernel,by decide +kernel⟩
theorem oq {f C wa:Addr} {fd:G5} (F:Fun K "leaves_of" "leaves_of" eE f fd) (T:ShopTxt K C) (Z:TrC K mg wa) (MB:Mn P w K mg base C "blade" ["self"] 1 (gs C)) (DS:Dn P w K mg base "spots_behind" ["blade","spot"] 2 (spBehind)):FnOk P w K mg base CX0 3 f fd ["shop","wide","high","tree"] (spLeaves C):=by
 refine F.ok scleaves (λ vs H Q E h=>?_) (λ cdv A outer s H vs Q E hr h=>?_)
 ·obtain ⟨pp,s,b,w1,h1,ks,v,d,t,rfl,_⟩:=h
  rfl
 obtain ⟨pp,s,b,w1,h1,ks,v,d,t,rfl,SH,hd,td,tz,q⟩:=h;have nd:=scleaves.nd;refine ⟨_,(@af _ _ _ _ _ (@aB _ _ 4 _ _ _ _ nd O (Or.inl O) (@aM _ _ _ _ ad) O (Or.inl O)) (@af _ _ _ _ _ (@aB _ _ 5 _ _ _ _ nd O (Or.inl O) (@aM _ _ _ _ ((@az _ _ _ _ _ (ae^^^(ae^^^((pv 1)^^^((pv 2)^^^((pv 3)^^^ad))))))^^^ad)) O (Or.inl O)) (@af _ _ _ _ _ (jC E1 (jE (pv 5) (λ _=>O)) (@af _ _ _ _ _ (@aB _ _ 6 _ _ _ _ nd O (Or.inl O) (pW G2 PySem.F.slot_list_pop PySem.F.type_list_pop pX (pv 5)) O (Or.inl O)) (@ah _ _ _ (@aG _ _ _ _ _ _ _ _ (@aw _ _ _ _ _ _ _ _ nD (@ax _ _ _ _ _ _ _ aP (@ax _ _ _ _ _ _ _ ix_tup (pv 6) ae (λ _ _=>O)) ae (λ _ _=>O)) (aO (v:=.ref wa) O Z.wy O) O) (@ah _ _ _ (@aX _ _ _ _ (@cJ _ _ _ _ _ _ _ _ _ _ _ _ G2 PySem.F.slot_list_extend PySem.F.type_list_extend ek (pv 5) ((@ao _ _ _ _ _ _ _ _ _ _ DS hr O ((ji (pv 0) T.cl MB (hr.mono (by decide)))^^^((pv 6)^^^ad)) (by decide) O O)^^^ad) O O O O O) O)) (@ah _ _ _ (@aX _ _ _ _ (@cJ _ _ _ _ _ _ _ _ _ _ _ _ G2 PySem.F.slot_list_append PySem.F.type_list_append bC (pv 4) ((pv 6)^^^ad) O O O O O) O)))))) (@ah _ _ _ (@aq _ _ _ _ (pv 4)))))),?_⟩;have sz:(40000:Nat)<=sizeLine:=by decide
 obtain ⟨dx,r,rs,S1,S2,S3⟩:=id SH;refine ⟨by decide,λ ll hll=>?_⟩;have s0:Same H (upd H ll (.lst [])):=G8 hll;have k0:(upd H ll (.lst [])) ll=some (.lst []):=ag;generalize upd H ll (.lst [])=H0 at s0 k0 ⊢;refine ⟨_,O,_,O,_,O,zS5,λ t' ht=>?_⟩;have sa:Same H0 (upd H0 t' (.tup [.int 0,.int 0,.int w1,.int h1,v])):=G8 ht;have ka:(upd H0 t' (.tup [.int 0,.int 0,.int w1,.int h1,v])) t'=some (.tup [.int 0,.int 0,.int w1,.int h1,v]):=ag;generalize upd H0 t' (.tup [.int 0,.int 0,.int w1,.int h1,v])=Ha at sa ka ⊢;refine ⟨zS1,λ wl hwl=>?_⟩;have sb:Same Ha (upd Ha wl (.lst [.ref t'])):=G8 hwl;have kb:(upd Ha wl (.lst [.ref t'])) wl=some (.lst [.ref t']):=ag;generalize upd Ha wl (.lst [.ref t'])=Hb at sb kb ⊢;have fw:H wl=none:=(s0.trans sa).free hwl;have nlw:ll≠wl:=λ z=>by rw [<- z,sa _ _ k0] at hwl; cases hwl
 have sab:=(s0.trans sa).trans sb;refine ⟨λ m σ H'=>∃ (vs us:List V) (ts L:List Lf) (v6:Option V),σ=[some (.ref s),some (.int w1),some (.int h1),some v,some (.ref ll),some (.ref wl),v6]/\m=lsz ts/\H' wl=some (.lst vs)/\H' ll=some (.lst us)/\Paired (LfAt pp H H') vs ts/\Paired (LfAt pp H H') us L/\lsz ts + L.length<=10000/\L ++ om b ts=lvs b t 0 0 w1 h1/\Same H H',⟨_,[.ref t'],[],[⟨0,0,w1,h1,t⟩],[],none,O,O,kb,sb _ _ (sa _ _ k0),.cons ⟨t',v,d,O,sb _ _ ka,hd,td⟩ .nil,.nil,(by show szT t + 0 + 0<=10000; omega),(by show [] ++ (lvs b t 0 0 w1 h1 ++ [])=_; rw [List.append_nil]; rfl),sab⟩,?_⟩;rintro m σ H1 ⟨vs,us,ts,L,v6,rfl,rfl,hw,hl,pr,pu,sz1,al,s1⟩;refine ⟨_,O,_,.inl ⟨vs,IV hw,O⟩,?_⟩;rcases List.eq_nil_or_concat vs with rfl | ⟨vs',v0,rfl⟩
 ·have ets:ts=[]:=by
   have:=C9 pr;cases ts with
   | nil=>rfl
   | cons _ _=>simp at this
  subst ets;rw [show om b []=[] from rfl,List.append_nil] at al;rw [al] at pu;exact aA ⟨_,rfl,q ll us H1 hll hl pu s1⟩
 rw [List.concat_eq_append] at pr hw ⊢;obtain ⟨ts',t0,rfl,prp,⟨sp,u,du,rfl,hsp,hdu,tdu⟩⟩:=qK pr;rw [show (!(vs' ++ [V.ref sp]).isEmpty)=true by cases vs' <;> rfl];have ssz:lsz (ts' ++ [t0])=lsz ts' + szT t0.t:=by rw [cw]; show _ + (szT t0.t + 0)=_; omega
 rw [ssz] at sz1 ⊢;refine aF ⟨λ σ' H'=>∃ (vs us:List V) (ts L:List Lf) (v6:Option V),σ'=[some (.ref s),some (.int w1),some (.int h1),some v,some (.ref ll),some (.ref wl),v6]/\lsz ts < lsz ts' + szT t0.t/\H' wl=some (.lst vs)/\H' ll=some (.lst us)/\Paired (LfAt pp H H') vs ts/\Paired (LfAt pp H H') us L/\lsz ts + L.length<=10000/\L ++ om b ts=lvs b t 0 0 w1 h1/\Same H H',λ σ' H' ⟨vs,us,ts,L,v6,e,l,r⟩=>⟨_,l,vs,us,ts,L,v6,e,rfl,r⟩,?_⟩;rw [de] at al;have ml:(vs' ++ [V.ref sp]).length=vs'.length + 1:=by rw [List.length_append]; rfl
 have keep:∀ {Hx:Hp} {o:HO},Same H Hx->Same H (upd Hx wl o):=λ {Hx o} sx c oo e=>by rw [am (λ z=>by rw [z,fw] at e; cases e)];exact sx _ _ e
 have keepL:∀ {Hx:Hp} {o:HO},Same H Hx->Same H (upd Hx ll o):=λ {Hx o} sx c oo e=>by rw [am (λ z=>by rw [z,hll] at e; cases e)];exact sx _ _ e
 refine aH (λ R=>∀ (H':Hp),H' wl=some (.lst vs')->H' ll=some (.lst us)->Paired (LfAt pp H H') vs' ts'->Paired (LfAt pp H H') us L->H' sp=some (.tup [.int t0.x,.int t0.y,.int t0.w,.int t0.h,u])->Same H H'->R [some (.ref s),some (.int w1),some (.int h1),some v,some (.ref ll),some (.ref wl),some (.ref sp)] H') (λ Dd hR=>?_) ?_
 ·refine ⟨_,O,.inl ⟨O,_,IV hw⟩,wl,_,.ref sp,O,O,hw,(by rw [ml]; simp),?_⟩;rw [List.dropLast_concat];have kt:∀ {c:Addr} {xs:List V},H1 c=some (.tup xs)->(upd H1 wl (.lst vs')) c=some (.tup xs):=λ {c xs} e=>by rw [am (λ z=>by rw [z,hw] at e; cases e)]; exact e
  exact hR _ ag (by rw [am nlw]; exact hl) (IW prp λ v t h=>h.keep λ a xs e=>kt e) (IW pu λ v t h=>h.keep λ a xs e=>kt e) (kt hsp) (keep s1)
 rintro H2 hw2 hl2 pr2 pu2 hsp2 s02;have a4:atI [.int t0.x,.int t0.y,.int t0.w,.int t0.h,u] 4=some u:=aL (by decide) rfl;have inT:∀z:Str,(z = "down" \/ z = "across")->inV (V.str z) [V.str "down",V.str "across"]=true:=λ z hz=>by rcases hz with e | e <;> subst e <;> decide +kernel
 have go:∀ (y:Str) (ys:List PyData),aQ du=some (.str y :: ys)->∃a xs,u=.ref a/\(H a=some (.lst (.str y :: xs))\/H a=some (.tup (.str y :: xs)))/\Dts pp H xs ys:=λ y ys er=>by
  obtain ⟨a,xs,e,hx,dxs⟩:=hdu.ref_row er;cases dxs with
  | cons hd0 dxs =>
   cases hd0;exact ⟨a,_,e,hx,dxs⟩
 refine ⟨_,O,sp,_,4,_,O,O,IU hsp2,a4,?_⟩;obtain ⟨tt,et⟩:∃tt,t0.t=tt:=⟨_,O⟩
 cases tt with
 | cut dn p l r =>
  rw [et] at tdu;obtain ⟨dl,dr,er,tl,tr⟩:=tdu;obtain ⟨a,xs,eu,hx,dxs⟩:=go _ _ er;have hx0:=hx;cases dxs with
  | @cons x1 _ xs1 _ hd1 dxs =>
  cases dxs with
  | @cons lv _ xs2 _ hdl dxs =>
  cases dxs with
  | @cons rv _ xs3 _ hdr dxs =>
  cases dxs;cases hd1;subst eu;show rIx K (.ref a) (.int 0) H2 _;refine ixR s02 hx (aL (E2 _) rfl) ?_;refine ⟨wa,_,O,.inr (Z.wq _),O,O,_,O,?_⟩;show (if (inV (V.str (if dn=true then "down" else "across")) [V.str "down",V.str "across"])=true then _ else _);rw [inT _ (by cases dn <;> first | exact .inl rfl | exact .inr rfl)];have SH2:=cM s02 SH;obtain ⟨dx',r',rs',S1',S2',S3'⟩:=id SH2;refine aF ⟨_,rfl,.inl ⟨rfl,_,IV hw2⟩,_,rfl,s,dx',_,rfl,S1',(cK _ _ (by decide +kernel) (by decide +kernel)),s,b,ks,rfl,SH2,_,rfl,?_⟩;refine ⟨b,t0.x,t0.y,t0.w,t0.h,p,sp,a,dn,lv,rv,O,hsp2,hx.imp (s02 _ _) (s02 _ _),λ lu t1 t2 H4 hlu ku k1 k2 s4=>?_⟩;have hw4:=s4 _ _ hw2;have pl:=C9 pr2;have sl:=gE ts';have sz0:szT t0.t=szT l + szT r + 1:=by rw [et]; rfl
  refine ⟨wl,lu,_,_,O,O,hw4,ku,by show _ + 2<=_; omega,?_⟩;have kt:∀ {c:Addr} {xs:List V},H4 c=some (.tup xs)->(upd H4 wl (.lst (vs' ++ [.ref t1,.ref t2]))) c=some (.tup xs):=λ {c xs} e=>by rw [am (λ z=>by rw [z,hw4] at e; cases e)]; exact e
  have kl4:(upd H4 wl (.lst (vs' ++ [.ref t1,.ref t2]))) ll=some (.lst us):=by rw [am nlw]; exact s4 _ _ hl2
  have pr4:Paired (LfAt pp H (upd H4 wl (.lst (vs' ++ [.ref t1,.ref t2])))) vs' ts':=IW pr2 λ v t h=>h.keep λ a xs e=>kt (s4 _ _ e);have pu4:Paired (LfAt pp H (upd H4 wl (.lst (vs' ++ [.ref t1,.ref t2])))) us L:=IW pu2 λ v t h=>h.keep λ a xs e=>kt (s4 _ _ e);cases dn with
  | true =>
   have k1:H4 t1=some (.tup [.int t0.x,.int t0.y,.int p,.int t0.h,lv]):=k1;have k2:H4 t2=some (.tup [.int (t0.x + (p + b)),.int t0.y,.int (t0.w - p - b),.int t0.h,rv]):=k2;refine ⟨vs' ++ [.ref t1,.ref t2],us,ts' ++ [⟨t0.x,t0.y,p,t0.h,l⟩] ++ [⟨t0.x + (p + b),t0.y,t0.w - p - b,t0.h,r⟩],L,_,O,?_,ag,kl4,?_,pu4,?_,?_,keep (s02.trans s4)⟩
   ·rw [cw,cw]; show _ + (szT l + 0) + (szT r + 0) < _; rw [sz0]; omega
   ·rw [List.append_assoc]; exact gl pr4 (.cons ⟨t1,lv,dl,O,kt k1,hdl,tl⟩ (.cons ⟨t2,rv,dr,O,kt k2,hdr,tr⟩ .nil))
   ·rw [cw,cw]; show _ + (szT l + 0) + (szT r + 0) + _<=_; rw [sz0] at sz1; omega
   ·rw [de,de,<- al,et,lvs,List.append_assoc]
  | false =>
   have k1:H4 t1=some (.tup [.int t0.x,.int t0.y,.int t0.w,.int p,lv]):=k1;have k2:H4 t2=some (.tup [.int t0.x,.int (t0.y + (p + b)),.int t0.w,.int (t0.h - p - b),rv]):=k2;refine ⟨vs' ++ [.ref t1,.ref t2],us,ts' ++ [⟨t0.x,t0.y,t0.w,p,l⟩] ++ [⟨t0.x,t0.y + (p + b),t0.w,t0.h - p - b,r⟩],L,_,O,?_,ag,kl4,?_,pu4,?_,?_,keep (s02.trans s4)⟩
   ·rw [cw,cw]; show _ + (szT l + 0) + (szT r + 0) < _; rw [sz0]; omega
   ·rw [List.append_assoc]; exact gl pr4 (.cons ⟨t1,lv,dl,O,kt k1,hdl,tl⟩ (.cons ⟨t2,rv,dr,O,kt k2,hdr,tr⟩ .nil))
   ·rw [cw,cw]; show _ + (szT l + 0) + (szT r + 0) + _<=_; rw [sz0] at sz1; omega
   ·rw [de,de,<- al,et,lvs,List.append_assoc]
 | rest =>
  rw [et] at tdu;obtain ⟨a,xs,eu,hx,dxs⟩:=go _ _ tdu;subst eu;show rIx K (.ref a) (.int 0) H2 _;refine ixR s02 hx (aL (E2 _) rfl) ?_;refine ⟨wa,_,O,.inr (Z.wq _),O,O,_,O,?_⟩;show (if (inV (V.str "rest") [V.str "down",V.str "across"])=true then _ else _);rw [show inV (V.str "rest") [V.str "down",V.str "across"]=false by decide +kernel];have sl:=gE ts';have ul:=C9 pu2;have SZ:szT t0.t=1:=by rw [et]; rfl
  refine aA ⟨_,rfl,.inl ⟨rfl,_,IV hl2⟩,_,rfl,ll,us,_,rfl,rfl,hl2,by omega,?_⟩;have kt:∀ {c:Addr} {xs:List V},H2 c=some (.tup xs)->(upd H2 ll (.lst (us ++ [.ref sp]))) c=some (.tup xs):=λ {c xs} e=>by rw [am (λ z=>by rw [z,hl2] at e; cases e)]; exact e
  refine ⟨vs',us ++ [.ref sp],ts',L ++ [t0],_,O,by omega,by rw [am (Ne.symm nlw)]; exact hw2,ag,IW pr2 λ v t h=>h.keep λ a xs e=>kt e,gl (IW pu2 λ v t h=>h.keep λ a xs e=>kt e) (.cons ⟨sp,.ref a,du,O,kt hsp2,hdu,by rw [et]; exact tdu⟩ .nil),?_,?_,keepL s02⟩
  ·rw [List.length_append]; show _ + (_ + 1)<=_; omega
  ·rw [<- al,List.append_assoc];congr 2;rw [et];cases t0;cases et
   rfl
 | piece i c x y =>
  rw [et] at tdu;obtain ⟨a,xs,eu,hx,dxs⟩:=go _ _ tdu;subst eu;show rIx K (.ref a) (.int 0) H2 _;refine ixR s02 hx (aL (E2 _) rfl) ?_;refine ⟨wa,_,O,.inr (Z.wq _),O,O,_,O,?_⟩;show (if (inV (V.str "piece") [V.str "down",V.str "across"])=true then _ else _);rw [show inV (V.str "piece") [V.str "down",V.str "across"]=false by decide +kernel];have sl:=gE ts';have ul:=C9 pu2;have SZ:szT t0.t=1:=by rw [et]; rfl
  refine aA ⟨_,rfl,.inl ⟨rfl,_,IV hl2⟩,_,rfl,ll,us,_,rfl,rfl,hl2,by omega,?_⟩;have kt:∀ {c:Addr} {xs:List V},H2 c=some (.tup xs)->(upd H2 ll (.lst (us ++ [.ref sp]))) c=some (.tup xs):=λ {c xs} e=>by rw [am (λ z=>by rw [z,hl2] at e; cases e)]; exact e
  refine ⟨vs',us ++ [.ref sp],ts',L ++ [t0],_,O,by omega,by rw [am (Ne.symm nlw)]; exact hw2,ag,IW pr2 λ v t h=>h.keep λ a xs e=>kt e,gl (IW pu2 λ v t h=>h.keep λ a xs e=>kt e) (.cons ⟨sp,.ref a,du,O,kt hsp2,hdu,by rw [et]; exact tdu⟩ .nil),?_,?_,keepL s02⟩
  ·rw [List.length_append]; show _ + (_ + 1)<=_; omega
  ·rw [<- al,List.append_assoc];congr 2;rw [et];cases t0;cases et
   rfl
theorem sccheckt:FnScope ["shop","wide","high","thing"] ["shop","wide","high","thing"] (defScope bY):=⟨O,O,O,by decide +kernel,O,by decide +kernel,by decide +kernel⟩
theorem ot {f C:Addr} {fd:G5} (F:Fun K "check_tree" "check_tree" bY f fd) (DI:Dn P w K mg base "is_tree" ["shop","wide","high","thing"] 6 (spIsTree C)):FnOk P w K mg base CX0 7 f fd ["shop","wide","high","thing"] (spCheckT C):=by
 refine F.ok sccheckt (λ vs H Q E h=>?_) (λ cdv A outer s H vs Q E hr h=>?_)
 ·obtain ⟨pp,s,b,w1,h1,ks,v,d,rfl,_⟩:=h
  rfl
 obtain ⟨pp,s,b,w1,h1,ks,v,d,rfl,SH,w0,h0,hd,dz,ht,q⟩:=h;have nd:=sccheckt.nd;refine ⟨_,(@ah _ _ _ (@aG _ _ _ _ _ _ _ _ (@aS _ _ _ _ (@aI _ _ _ (@ao _ _ _ _ _ _ _ _ _ _ DI hr O ((pv 0)^^^((pv 1)^^^((pv 2)^^^((pv 3)^^^ad)))) (by decide) O O) (by intro _; rfl))) (@ah _ _ _ aT) ar)),?_⟩;refine ⟨_,O,_,O,_,O,_,O,pp,s,b,w1,h1,ks,v,d,O,SH,w0,h0,hd,dz,λ H1 s1=>⟨_,O,?_⟩⟩;rw [ht];exact aA (q _ s1)
end
theorem dZ {d:PyData} {ds:List PyData} (h:aQ d=some ds):wt d=wts ds + 1:=by
 cases d <;> simp only [aQ,Option.some.injEq,reduceCtorEq] at h
 ·subst h; rw [wt]
 ·subst h; rw [wt]
theorem TrD.many {b:Int}:∀ (t:Tr) (d:PyData) (x y w h:Int),TrD t d->(lvs b t x y w h).length=lvN t/\szT t<=wt d
 | .rest,d,_,_,_,_,e=>by
  have:=dZ (show aQ d=some [.str "rest"] from e);have w1:wts [.str "rest"]=5:=by decide +kernel
  refine ⟨O,?_⟩;show 1<=wt d;omega
 | .piece i c u v,d,_,_,_,_,e=>by
  have:=dZ (show aQ d=some [.str "piece",.int i,.bool c,.int u,.int v] from e);have w1:wts [.str "piece",.int i,.bool c,.int u,.int v]=10:=by
   show wt (.str "piece") + (1 + (1 + (1 + (1 + 0))))=10
   decide +kernel
  refine ⟨O,?_⟩;show 1<=wt d;omega
 | .cut true p l r,d,x,y,w,h,⟨dl,dr,e,tl,tr⟩=>by
  have h0:=dZ e;have w1:wts [.str (if true=true then "down" else "across"),.int p,dl,dr]=5 + (1 + (wt dl + (wt dr + 0))):=by show wt (.str "down") + (1 + (wt dl + (wt dr + 0)))=_;rw [show wt (.str "down")=5 by decide +kernel]
  have h1:=TrD.many (b:=b) r dr (x + (p + b)) y (w - p - b) h tr;have h2:=TrD.many (b:=b) l dl x y p h tl;rw [lvs,List.length_append,szT,lvN];omega
 | .cut false p l r,d,x,y,w,h,⟨dl,dr,e,tl,tr⟩=>by
  have h0:=dZ e;have w1:wts [.str (if false=true then "down" else "across"),.int p,dl,dr]=7 + (1 + (wt dl + (wt dr + 0))):=by show wt (.str "across") + (1 + (wt dl + (wt dr + 0)))=_;rw [show wt (.str "across")=7 by decide +kernel]
  have h1:=TrD.many (b:=b) r dr x (y + (p + b)) w (h - p - b) tr;have h2:=TrD.many (b:=b) l dl x y w p tl;rw [lvs,List.length_append,szT,lvN];omega
theorem cf (b:Int):∀ (t:Tr) (x y w h:Int),∀f∈lvs b t x y w h,f.t=.rest\/∃i c u v,f.t=.piece i c u v
 | .rest,_,_,_,_,f,hf=>by cases C8.mp hf; exact .inl rfl
 | .piece i c u v,_,_,_,_,f,hf=>by cases C8.mp hf; exact .inr ⟨i,c,u,v,O⟩
 | .cut true p l r,x,y,w,h,f,hf=>by rw [lvs] at hf;exact (C1.mp hf).elim (cf b r _ _ _ _ f) (cf b l _ _ _ _ f)
 | .cut false p l r,x,y,w,h,f,hf=>by rw [lvs] at hf;exact (C1.mp hf).elim (cf b r _ _ _ _ f) (cf b l _ _ _ _ f)
mutual
theorem Dt.fresh {p q:Addr} {H:Hp} (hq:H q=none):∀ {v:V} {d:PyData},Dt p H v d->Dt q H v d
 | _,_,.non=>.non
 | _,_,.bl b=>.bl b
 | _,_,.int i=>.int i
 | _,_,.str z=>.str z
 | _,_,.lst n h r=>.lst (ap h hq) h (r.fresh hq)
 | _,_,.tup h r=>.tup h (r.fresh hq)
 | _,_,.emp h=>.emp h
theorem Dts.fresh {p q:Addr} {H:Hp} (hq:H q=none):∀ {vs:List V} {ds:List PyData},Dts p H vs ds->Dts q H vs ds
 | _,_,.nil=>.nil
 | _,_,.cons a r=>.cons (a.fresh hq) (r.fresh hq)
end
structure TrH (C pp s:Addr) (b w h:Int) (ks:List Kd) (v:V) (d:PyData) (t:Tr) (H:Hp):Prop where
 sh:ShopAt C H s b ks
 w1:1<=w
 h1:1<=h
 dt:Dt pp H v d
 td:TrD t d
 ok:okT b ks w h t
 wd:wt d<=2000
 ln:lvN t<=63
theorem TrH.same {C pp s:Addr} {b w h:Int} {ks:List Kd} {v:V} {d:PyData} {t:Tr} {H H':Hp} (x:TrH C pp s b w h ks v d t H) (k:Same H H'):TrH C pp s b w h ks v d t H':=⟨cM k x.sh,x.w1,x.h1,x.dt.same k,x.td,x.ok,x.wd,x.ln⟩
structure Pce where
 k:Nat
 c:Bool
 x:Int
 y:Int
def Gn (p:Pce):List V:=[.int p.k,.bl p.c,.int p.x,.int p.y]
def zM (p:Pce):List Int:=[(p.k:Int),if p.c=true then 1 else 0,p.x,p.y]
def lfP (f:Lf):Option Pce:=match f.t with
 | .piece i c u v=>some ⟨i,c,f.x + u,f.y + v⟩
 | _=>none
def pcs (b:Int) (t:Tr) (w h:Int):List Pce:=(lvs b t 0 0 w h).filterMap lfP
def PA (H:Hp) (a:Addr) (p:Pce):Prop:=H a=some (.tup (Gn p))
def gf (H:Hp) (a:Addr):Pce:=match H a with
 | some (.tup [.int k,.bl c,.int x,.int y])=>⟨k.toNat,c,x,y⟩
 | _=>⟨0,false,0,0⟩
theorem PA.of {H:Hp} {a:Addr} {p:Pce} (h:PA H a p):gf H a=p:=by unfold gf;rw [show H a=some (.tup [.int p.k,.bl p.c,.int p.x,.int p.y]) from h];show (⟨(p.k:Int).toNat,p.c,p.x,p.y⟩:Pce)=p;rw [Int.toNat_natCast]
theorem PA.map {H:Hp}:∀ {as:List Addr} {ps:List Pce},Paired (PA H) as ps->as.map (gf H)=ps
 | _,_,.nil=>rfl
 | _,_,.cons h r=>by rw [List.map_cons,h.of,PA.map r]
theorem PA.mem {H:Hp}:∀ {as:List Addr} {ps:List Pce},Paired (PA H) as ps->∀a∈as,PA H a (gf H a)
 | _,_,.nil,a,h=>by cases h
 | _,_,.cons h r,a,hm=>by
  rcases List.mem_cons.mp hm with e | e
  ·subst e; rw [h.of]; exact h
  ·exact PA.mem r a e
theorem PA.back {H:Hp}:∀ {as:List Addr},(∀a∈as,PA H a (gf H a))->Paired (PA H) as (as.map (gf H))
 | [],_=>.nil
 | a :: as,h=>.cons (h a B6) (PA.back λ b hb=>h b (B3 _ hb))
theorem PA.keep {H H':Hp} (k:∀a xs,H a=some (.tup xs)->H' a=some (.tup xs)) {as:List Addr} {ps:List Pce} (h:Paired (PA H) as ps):Paired (PA H') as ps:=IW h λ a p e=>k _ _ e
section
variable {P:G4} {w:G6} {K:C3} {mg:Str->Option G7} {base:Heap}
inductive spPieces (C:Addr) (vs:List V) (H:Hp) (Q:VK) (E_:XK):Prop
 | mk (pp s:Addr) (b w h:Int) (ks:List Kd) (v:V) (d:PyData) (t:Tr) (e_1:vs=[.ref s,.int w,.int h,v]) (e_2:TrH C pp s b w h ks v d t H) (e_3:∀ (l:Addr) (as:List Addr) (ps:List Pce) (H':Hp),H l=none->H' l=some (.lst (as.map V.ref))->Paired (PA H') as ps->ps.Perm (pcs b t w h)->(ps.map zM).Pairwise (λ x y=>cD y x=false)->Same H H'->Q (.ref l) H'):spPieces C vs H Q E_
theorem scpieces:FnScope ["shop","wide","high","tree","pieces","x","y","part_wide","part_high","leaf","word","kind","turned","piece_x","piece_y"] ["shop","wide","high","tree"] (defScope cx):=⟨O,O,O,by decide +kernel,O,by decide +kernel,by decide +kernel⟩
theorem iN {f C wa:Addr} {fd:G5} (F:Fun K "pieces_of" "pieces_of" cx f fd) (B:Blt mg) (Z:TrC K mg wa) (DC:Dn P w K mg base "check_tree" ["shop","wide","high","thing"] 7 (spCheckT C)) (DL:Dn P w K mg base "leaves_of" ["shop","wide","high","tree"] 3 (spLeaves C)):FnOk P w K mg base CX0 8 f fd ["shop","wide","high","tree"] (spPieces C):=by
 refine F.ok scpieces (λ vs H Q E h=>?_) (λ cdv A outer s H vs Q E hr h=>?_)
 ·obtain ⟨pp,s,b,w1,h1,ks,v,d,t,rfl,_⟩:=h
  rfl
 obtain ⟨pp,s,b,w1,h1,ks,v,d,t,rfl,th,q⟩:=h;have nd:=scpieces.nd;obtain ⟨trs,hrs⟩:=Z.rs;refine ⟨_,(@af _ _ _ _ _ (@aX _ _ _ _ (@ao _ _ _ _ _ _ _ _ _ _ DC hr O ((pv 0)^^^((pv 1)^^^((pv 2)^^^((pv 3)^^^ad)))) (by decide) O O) O) (@af _ _ _ _ _ (@aB _ _ 4 _ _ _ _ nd O (Or.inl O) (@aM _ _ _ _ ad) O (Or.inl O)) (@af _ _ _ _ _ (@bV _ _ _ _ _ _ _ _ E1 O (cj (@ao _ _ _ _ _ _ _ _ _ _ DL (hr.mono (by decide)) O ((pv 0)^^^((pv 1)^^^((pv 2)^^^((pv 3)^^^ad)))) (by decide) O O)) (bq O (ai (aj (i:=5) nd O (Or.inl O)) (ai (aj (i:=6) nd O (Or.inl O)) (ai (aj (i:=7) nd O (Or.inl O)) (ai (aj (i:=8) nd O (Or.inl O)) (ai (aj (i:=9) nd O (Or.inl O)) aU)))))) (@ah _ _ _ (@aG _ _ _ _ _ _ _ _ (@aw _ _ _ _ _ _ _ _ gI (@ax _ _ _ _ _ _ _ aP (pv 9) ae (λ _ _=>O)) (aO (v:=.str "rest") O hrs ⟨trs,O⟩) (av _)) (@af _ _ _ _ _ (@bJ _ _ _ _ _ _ (pv 9) (kU O (ai (aj (i:=10) nd O (Or.inl O)) (ai (aj (i:=11) nd O (Or.inl O)) (ai (aj (i:=12) nd O (Or.inl O)) (ai (aj (i:=13) nd O (Or.inl O)) (ai (aj (i:=14) nd O (Or.inl O)) aU)))))) O O O) (@ah _ _ _ (@aX _ _ _ _ (@cJ _ _ _ _ _ _ _ _ _ _ _ _ G2 PySem.F.slot_list_append PySem.F.type_list_append bC (pv 4) ((@az _ _ _ _ _ ((pv 11)^^^((pv 12)^^^((@au _ _ _ _ _ _ _ _ aV (pv 5) (pv 13))^^^((@au _ _ _ _ _ _ _ _ aV (pv 6) (pv 14))^^^ad)))))^^^ad) O O O O O) O))) ar)) (by intro _; rfl)) (@ah _ _ _ (@aq _ _ _ _ (@ay _ _ _ _ _ _ _ _ _ fz O B.sorted PyProof.Rows.boot_sorted ((pv 4)^^^ad) (by decide) (by decide) O O)))))),?_⟩;have sz:(40000:Nat)<=sizeLine:=by decide
 obtain ⟨m1,m2⟩:=TrD.many (b:=b) t d 0 0 w1 h1 th.td;have wd:=th.wd;have ln:=th.ln;refine ⟨_,O,_,O,_,O,_,O,pp,s,b,w1,h1,ks,v,d,O,th.sh,th.w1,th.h1,th.dt,by omega,TrD.good t d w1 h1 th.td th.ok,λ H1 s1=>?_⟩;refine ⟨by decide,λ pl hpl=>?_⟩;have s2:Same H1 (upd H1 pl (.lst [])):=G8 hpl;have k2:(upd H1 pl (.lst [])) pl=some (.lst []):=ag;generalize upd H1 pl (.lst [])=H2 at s2 k2 ⊢;have s02:=s1.trans s2;have th2:=th.same s02;have fp:H pl=none:=s1.free hpl;have dp:Dt pl H2 v d:=(th.dt.fresh fp).same s02;refine bi (λ σ' H'=>σ'=[some (.ref s),some (.int w1),some (.int h1),some v,some (.ref pl),none,none,none,none,none,none,none,none,none,none]/\H2=H') (λ R hR=>hR _ _ ⟨rfl,rfl⟩) ?_;rintro _ _ ⟨rfl,rfl⟩;refine aH (λ R=>∀v5 v6 v7 v8 v9 v10 v11 v12 v13 v14 (H':Hp),(∃as,H' pl=some (.lst (as.map V.ref))/\Paired (PA H') as (pcs b t w1 h1)/\as.length<=63)->Same H H'->R [some (.ref s),some (.int w1),some (.int h1),some v,some (.ref pl),v5,v6,v7,v8,v9,v10,v11,v12,v13,v14] H') (λ Dd hR=>?_) ?_
 ·refine ⟨_,O,_,O,_,O,_,O,pl,s,b,w1,h1,ks,v,d,t,O,th2.sh,dp,th2.td,by omega,λ ll us H3 hll l3 pu s23=>?_⟩;have s03:=s02.trans s23;have ul:=C9 pu;have npl:ll≠pl:=λ z=>by rw [z,k2] at hll; cases hll
  refine ⟨ll,O,⟨_,IV l3⟩,cP (xs:=us) (λ i σ' H'=>(∃v5 v6 v7 v8 v9 v10 v11 v12 v13 v14,σ'=[some (.ref s),some (.int w1),some (.int h1),some v,some (.ref pl),v5,v6,v7,v8,v9,v10,v11,v12,v13,v14])/\(∃as,H' pl=some (.lst (as.map V.ref))/\Paired (PA H') as (((lvs b t 0 0 w1 h1).take i).filterMap lfP))/\H' ll=some (.lst us)/\Paired (LfAt pl H2 H') us (lvs b t 0 0 w1 h1)/\But pl H2 H'/\Same H H') ⟨⟨_,_,_,_,_,_,_,_,_,_,O⟩,⟨[],s23 _ _ k2,.nil⟩,l3,pu,dE s23,s03⟩ (λ i σ H' _ h=>IV h.2.2.1) ?_ ?_⟩
  ·rintro i x σ H4 hi ⟨⟨v5,v6,v7,v8,v9,v10,v11,v12,v13,v14,rfl⟩,⟨as,hp4,pa4⟩,l4,pu4,b4,s4⟩;have hin:i < us.length:=(A5.mp hi).1;obtain ⟨f,hf,a,u,du,rfl,ha,hdu,tdu⟩:=IX pu4 hi;have pal:=C9 pa4;have fml:(((lvs b t 0 0 w1 h1).take i).filterMap lfP).length<=i:=C4 (List.length_filterMap_le _ _) (by rw [List.length_take]; omega);have tk:(lvs b t 0 0 w1 h1).take (i + 1)=(lvs b t 0 0 w1 h1).take i ++ [f]:=by rw [List.take_add_one,hf]; rfl
   refine ⟨a,_,O,IU ha,O,_,_,O,_,_,O,_,_,O,_,_,O,_,_,O,O,?_⟩;have hdu4:Dt pl H4 u du:=hdu.but ⟨_,k2⟩ b4;rcases cf b t 0 0 w1 h1 f (B4 hf) with et | ⟨ki,c,px,py,et⟩
   ·rw [et] at tdu;obtain ⟨a', xs, rfl, hx, dxs⟩:=hdu4.ref_row (show aQ du=some [.str "rest"] from tdu);cases dxs with
    | cons hd0 dxs =>
    cases hd0;cases dxs;refine ⟨_,O,ixR (Same.refl _) hx (aL (E2 _) rfl) ⟨O,_,O,?_⟩⟩;refine aA ⟨⟨_,_,_,_,_,_,_,_,_,_,rfl⟩,⟨as,hp4,?_⟩,l4,pu4,b4,s4⟩;rw [tk,List.filterMap_append,show [f].filterMap lfP=[] by rw [List.filterMap_cons,show lfP f=none by unfold lfP; rw [et]]; rfl,List.append_nil];exact pa4
   ·rw [et] at tdu;obtain ⟨a', xs, rfl, hx, dxs⟩:=hdu4.ref_row (show aQ du=some [.str "piece", .int ki, .bool c, .int px, .int py] from tdu);cases dxs with
    | cons hd0 dxs =>
    cases dxs with
    | cons hd1 dxs =>
    cases dxs with
    | cons hd2 dxs =>
    cases dxs with
    | cons hd3 dxs =>
    cases dxs with
    | cons hd4 dxs =>
    cases dxs;cases hd0; cases hd1; cases hd2; cases hd3; cases hd4;refine ⟨_,O,ixR (Same.refl _) hx (aL (E2 _) rfl) ⟨O,_,O,?_⟩⟩;refine aF ?_;refine ⟨_,O,a',_,O,hx.imp (λ z=>IV z) (λ z=>IU z),O,_,_,O,_,_,O,_,_,O,_,_,O,_,_,O,O,?_⟩;refine ⟨_,O,.inl ⟨O,_,IV hp4⟩,_,O,_,O,_,O,_,O,_,_,O,O,_,O,_,O,_,_,O,O,zS4,λ tp htp=>?_⟩;have s5:=G8 htp (o:=.tup [.int ki,.bl c,.int (f.x + px),.int (f.y + py)]);have k5:(upd H4 tp (.tup [.int ki,.bl c,.int (f.x + px),.int (f.y + py)])) tp=some (.tup [.int ki,.bl c,.int (f.x + px),.int (f.y + py)]):=ag;rw [show upd H4 tp _=upd H4 tp (.tup [.int ki,.bl c,.int (f.x + px),.int (f.y + py)]) from rfl];generalize upd H4 tp (.tup [.int ki,.bl c,.int (f.x + px),.int (f.y + py)])=H5 at s5 k5 ⊢;have hp5:=s5 _ _ hp4;refine ⟨pl,_,_,O,O,hp5,(by rw [List.length_map]; omega),?_⟩;have kt:∀ (a:Addr) (xs:List V),H4 a=some (.tup xs)->(upd H5 pl (.lst (as.map V.ref ++ [.ref tp]))) a=some (.tup xs):=λ a xs e=>by rw [am (λ z=>by rw [z,hp4] at e; cases e)]; exact s5 _ _ e
    refine ⟨⟨_,_,_,_,_,_,_,_,_,_,O⟩,⟨as ++ [tp],by rw [ag,List.map_append]; rfl,?_⟩,by rw [am npl]; exact s5 _ _ l4,IW pu4 λ v f h=>h.keep kt,b4.trans (λ cc o n e=>by rw [am n]; exact s5 _ _ e),λ cc o e=>by rw [am (λ z=>by rw [z,fp] at e; cases e)]; exact s5 _ _ (s4 _ _ e)⟩;rw [tk,List.filterMap_append,show [f].filterMap lfP=[⟨ki,c,f.x + px,f.y + py⟩] by rw [List.filterMap_cons,show lfP f=some ⟨ki,c,f.x + px,f.y + py⟩ by unfold lfP; rw [et]]; rfl];exact gl (PA.keep kt pa4) (.cons (show _=_ by rw [am (λ z=>by rw [z,hp5] at k5; cases k5)]; exact k5) .nil)
  ·rintro σ H4 ⟨⟨v5,v6,v7,v8,v9,v10,v11,v12,v13,v14,rfl⟩,⟨as,hp4,pa4⟩,l4,pu4,b4,s4⟩;rw [ul,List.take_length] at pa4;have:=C9 pa4;have fml:((lvs b t 0 0 w1 h1).filterMap lfP).length<=(lvs b t 0 0 w1 h1).length:=List.length_filterMap_le _ _;exact hR _ _ _ _ _ _ _ _ _ _ _ ⟨as,hp4,pa4,by omega⟩ s4
 rintro v5 v6 v7 v8 v9 v10 v11 v12 v13 v14 H3 ⟨as,hp3,pa3,al⟩ s3;have mem:=PA.mem pa3;have mp:=PA.map pa3;refine ⟨_,O,pl,as,[false,true,false,false],λ a=>zM (gf H3 a),O,IV hp3,by omega,O,λ a ha=>⟨_,IU (mem a ha),O⟩,λ l as' hl pa so=>?_⟩;have s4:=G8 hl (o:=.lst (as'.map V.ref));refine q l as' (as'.map (gf H3)) _ (s3.free hl) ag (PA.keep (λ a xs e=>s4 _ _ e) (PA.back λ a ha=>mem a (pa.mem_iff.mp ha))) ?_ ?_ (s3.trans s4)
 ·rw [<- mp]; exact pa.map _
 ·rw [List.map_map]; exact so
end
theorem rc {X:Cx}:zh X (λ o i H Q=>∃p xs k x,o=.ref p/\i=.int k/\0<=k/\H p=some (.lst xs)/\atI xs k=some x/\Q x H):=by
 intro pins s σ H o i ov iv Q I ro ri h;obtain ⟨p,xs,k,x,rfl,rfl,k0,hp,hx,q⟩:=h;cases ro;obtain ⟨t,rfl⟩:=ri;obtain ⟨its,r,pl,hz⟩:=I.list (IV hp);obtain ⟨j,h1,h2,h3,h4,h5⟩:=gp hx;obtain ⟨w,ew,rw'⟩:=r.get h2;have hl:=r.length;have hn:=eQ;have hj:k.toNat=j:=by rw [seqIndex_of k0 h5] at h1;exact B7 h1
 exact wpAny_getItem_list pl.isList k0 (by omega) (by rw [hj]; simpa using ew) ⟨x,H,I,rw',q⟩
def cN (ps:List Pce) (n:Nat):List Int:=(List.range n).map λ k=>((ps.filter λ p=>p.k == k).length:Int)
theorem eg (ps:List Pce) (n:Nat):(cN ps n).length=n:=by unfold cN; rw [List.length_map,List.length_range]
theorem gF {ps:List Pce} {n k:Nat} (h:k < n):(cN ps n)[k]? = some ((ps.filter λ p=>p.k == k).length:Int):=by unfold cN;rw [List.getElem?_map,List.getElem?_range h]; rfl
theorem ou {ps qs:List Pce} (h:ps.Perm qs) (n:Nat):cN ps n=cN qs n:=by unfold cN;apply List.map_congr_left;intro k _;rw [(h.filter _).length_eq]
theorem re {ps:List Pce} {p:Pce} {n:Nat} (h:p.k < n):((cN ps n).map V.int).set p.k (.int (((ps.filter λ q=>q.k == p.k).length:Int) + 1))=(cN (ps ++ [p]) n).map V.int:=by
 apply List.ext_getElem?;intro j;rw [List.getElem?_set]
 by_cases hj:j < n
 ·rw [List.getElem?_map,List.getElem?_map,gF hj,gF hj,List.length_map,eg]
  by_cases e:p.k=j
  ·subst e;rw [if_pos rfl,if_pos h,List.filter_append,List.length_append];simp
  ·rw [if_neg e,List.filter_append,List.length_append];have:([p].filter λ q=>q.k == j)=[]:=by simp [e]
   rw [this]; rfl
 ·have h1:((cN ps n).map V.int)[j]? = none:=C5 (by rw [List.length_map,eg]; omega);have h2:((cN (ps ++ [p]) n).map V.int)[j]? = none:=C5 (by rw [List.length_map,eg]; omega);rw [h1,h2,if_neg (by omega)]
theorem hZ {b:Int} {ks:List Kd}:∀ (t:Tr) (x y w h:Int),okT b ks w h t->∀f∈lvs b t x y w h,∀i c u v,f.t=.piece i c u v->i < ks.length
 | .rest,_,_,_,_,_,f,hf,i,c,u,v,e=>by cases C8.mp hf; cases e
 | .piece ..,_,_,_,_,⟨k,hk,_⟩,f,hf,i,c,u,v,e=>by cases C8.mp hf;cases e;exact (A5.mp hk).1
 | .cut true p l r,x,y,w,h,⟨_,_,hl,hr⟩,f,hf,i,c,u,v,e=>by rw [lvs] at hf;exact (C1.mp hf).elim (λ z=>hZ r _ _ _ _ hr f z i c u v e) (λ z=>hZ l _ _ _ _ hl f z i c u v e)
 | .cut false p l r,x,y,w,h,⟨_,_,hl,hr⟩,f,hf,i,c,u,v,e=>by rw [lvs] at hf;exact (C1.mp hf).elim (λ z=>hZ r _ _ _ _ hr f z i c u v e) (λ z=>hZ l _ _ _ _ hl f z i c u v e)
theorem vB {b:Int} {ks:List Kd} {t:Tr} {w h:Int} (ok:okT b ks w h t) {p:Pce} (hp:p∈pcs b t w h):p.k < ks.length:=by
 obtain ⟨f,hf,e⟩:=List.mem_filterMap.mp hp;rcases cf b t 0 0 w h f hf with et | ⟨i,c,u,v,et⟩
 ·unfold lfP at e; rw [et] at e; cases e
 ·have:=hZ t 0 0 w h ok f hf i c u v et;unfold lfP at e; rw [et] at e; cases e; exact this
section
variable {P:G4} {w:G6} {K:C3} {mg:Str->Option G7} {base:Heap}
inductive spCountsO (C:Addr) (vs:List V) (H:Hp) (Q:VK) (E_:XK):Prop
 | mk (pp s:Addr) (b w h:Int) (ks:List Kd) (v:V) (d:PyData) (t:Tr) (e_1:vs=[.ref s,.int w,.int h,v]) (e_2:TrH C pp s b w h ks v d t H) (e_3:ks.length<=8) (e_4:∀ (l:Addr) (H':Hp),H l=none->H' l=some (.lst ((cN (pcs b t w h) ks.length).map V.int))->Same H H'->Q (.ref l) H'):spCountsO C vs H Q E_
inductive spWorthO (C:Addr) (vs:List V) (H:Hp) (Q:VK) (E_:XK):Prop
 | mk (pp s:Addr) (b w h:Int) (ks:List Kd) (v:V) (d:PyData) (t:Tr) (e_1:vs=[.ref s,.int w,.int h,v]) (e_2:TrH C pp s b w h ks v d t H) (e_3:ks.length<=8) (e_4:(∀k∈ks,Good k)) (e_5:∀ (H':Hp),Same H H'->Q (.int (((cN (pcs b t w h) ks.length).zip ks).map λ z=>z.1 * z.2.wo).sum) H'):spWorthO C vs H Q E_
theorem sccountso:FnScope ["shop","wide","high","tree","pieces","counts","kind","turned","x","y"] ["shop","wide","high","tree"] (defScope bZ):=⟨O,O,O,by decide +kernel,O,by decide +kernel,by decide +kernel⟩
theorem ia {f C:Addr} {fd:G5} (F:Fun K "counts_of" "counts_of" bZ f fd) (B:Blt mg) (T:ShopTxt K C) (MK:Mn P w K mg base C "kinds" ["self"] 1 (gt C)) (DP:Dn P w K mg base "pieces_of" ["shop","wide","high","tree"] 8 (spPieces C)):FnOk P w K mg base CX0 9 f fd ["shop","wide","high","tree"] (spCountsO C):=by
 refine F.ok sccountso (λ vs H Q E h=>?_) (λ cdv A outer s H vs Q E hr h=>?_)
 ·obtain ⟨pp,s,b,w1,h1,ks,v,d,t,rfl,_⟩:=h
  rfl
 obtain ⟨pp,s,b,w1,h1,ks,v,d,t,rfl,th,k8,q⟩:=h;have nd:=sccountso.nd;refine ⟨_,(@af _ _ _ _ _ (@aB _ _ 4 _ _ _ _ nd O (Or.inl O) (@ao _ _ _ _ _ _ _ _ _ _ DP hr O ((pv 0)^^^((pv 1)^^^((pv 2)^^^((pv 3)^^^ad)))) (by decide) O O) O (Or.inl O)) (@af _ _ _ _ _ (sD (i:=5) (own:=["kind"]) (cs:=[]) (cap:=[]) O nd O O O (cj (ji (pv 0) T.cl MK (hr.mono (by decide)))) (bX (sc:=defScope bZ) (N:=["shop","wide","high","tree","pieces","counts","kind","turned","x","y"]) O O (by decide +kernel)) (λ _ _ _ _ _=>aj (i:=0) (by show List.Nodup (["kind"]:List Str) ; decide +kernel) O (Or.inl O) (Or.inr O)) (λ _ _ _ _ _=>dN) (λ _ _ _ _ _=>ae)) (@af _ _ _ _ _ (@bV _ _ _ _ _ _ _ _ E1 O (cj (pv 4)) (bq O (ai (aj (i:=6) nd O (Or.inl O)) (ai (aj (i:=7) nd O (Or.inl O)) (ai (aj (i:=8) nd O (Or.inl O)) (ai (aj (i:=9) nd O (Or.inl O)) aU))))) (@ah _ _ _ (rV (pv 5) (pv 6) rc ae iU dL)) (by intro _; rfl)) (@ah _ _ _ (@aq _ _ _ _ (pv 5)))))),?_⟩;have sz:(40000:Nat)<=sizeLine:=by decide
 refine aH (λ R=>∀pl as ps (H':Hp),H' pl=some (.lst (as.map V.ref))->Paired (PA H') as ps->ps.Perm (pcs b t w1 h1)->Same H H'->R [some (.ref s),some (.int w1),some (.int h1),some v,some (.ref pl),none,none,none,none,none] H') (λ Dd hR=>?_) ?_
 ·exact ⟨_,O,_,O,_,O,_,O,pp,s,b,w1,h1,ks,v,d,t,O,th,λ l as ps H1 hl l1 pa pe so s1=>hR l as ps _ l1 pa pe s1⟩
 rintro pl as ps H1 hp1 pa1 pe s1;have th1:=th.same s1;refine aH (λ R=>∀cl (H':Hp),H1 cl=none->H' cl=some (.lst ((cN [] ks.length).map V.int))->Same H1 H'->R [some (.ref s),some (.int w1),some (.int h1),some v,some (.ref pl),some (.ref cl),none,none,none,none] H') (λ Dd hR=>?_) ?_
 ·obtain ⟨dx,r,rs,S1,S2,S3⟩:=id th1.sh;refine ⟨_,O,s,dx,_,O,S1,(cK _ _ (by decide +kernel) (by decide +kernel)),s,b,ks,O,th1.sh,λ l rs' hl tp=>?_⟩;have s2:=G8 hl (o:=.lst rs');have k2:(upd H1 l (.lst rs')) l=some (.lst rs'):=ag;generalize upd H1 l (.lst rs')=H2 at s2 k2 ⊢;have tl:=C9 tp;refine ⟨l,O,⟨_,IV k2⟩,(dQ (K:=K) (.inl k2) (λ i ys Hx=>Same H2 Hx/\ys=List.replicate i (.int 0)) (λ i ys Hx _ ⟨sx,_⟩ o e=>sx _ _ e) ⟨Same.refl _,O⟩ ?_ ?_).1 k2⟩
  ·rintro i x ys Hx hi ⟨sx,rfl⟩;have hin:i < rs'.length:=(A5.mp hi).1;refine ⟨by rw [List.length_replicate]; omega,leS.set rfl,dO ?_⟩;show Nx rs'.length (λ i ys Hx=>Same H2 Hx/\ys=List.replicate i (V.int 0)) i (List.replicate i (V.int 0) ++ [.int 0]) Hx;refine Nx.of hin ?_;exact ⟨sx,(List.replicate_succ' ..).symm⟩
  ·rintro ys Hx ⟨sx,rfl⟩;refine ⟨by rw [List.length_replicate]; omega,λ cl hcl=>hR cl _ ((s2.trans sx).free hcl) ?_ ((s2.trans sx).trans (G8 hcl))⟩;rw [ag];congr 2;rw [tl];unfold cN;apply List.ext_getElem
   ·simp
   ·intro j h1 h2;simp
 rintro cl H2 hcl hc2 s2;have fc:H cl=none:=s1.free hcl;have npc:pl≠cl:=λ z=>by rw [<- z,hp1] at hcl; cases hcl
 have pal:=C9 pa1;have pa2:Paired (PA H2) as ps:=PA.keep (λ a xs e=>s2 _ _ e) pa1;have hp2:=s2 _ _ hp1;refine aH (λ R=>∀v6 v7 v8 v9 (H':Hp),H' cl=some (.lst ((cN ps ks.length).map V.int))->Same H H'->R [some (.ref s),some (.int w1),some (.int h1),some v,some (.ref pl),some (.ref cl),v6,v7,v8,v9] H') (λ Dd hR=>?_) ?_
 ·refine ⟨_,O,pl,O,⟨_,IV hp2⟩,cP (xs:=as.map V.ref) (λ i σ' H'=>(∃v6 v7 v8 v9,σ'=[some (.ref s),some (.int w1),some (.int h1),some v,some (.ref pl),some (.ref cl),v6,v7,v8,v9])/\H' cl=some (.lst ((cN (ps.take i) ks.length).map V.int))/\H' pl=some (.lst (as.map V.ref))/\Paired (PA H') as ps/\Same H H') ⟨⟨_,_,_,_,O⟩,hc2,hp2,pa2,s1.trans s2⟩ (λ i σ H' _ h=>IV h.2.2.1) ?_ ?_⟩
  ·rintro i x σ H3 hi ⟨⟨v6,v7,v8,v9,rfl⟩,hc3,hp3,pa3,s3⟩;rw [List.getElem?_map] at hi;obtain ⟨a,ha,rfl⟩:=Option.map_eq_some_iff.mp hi;obtain ⟨p,hpi,pA⟩:=IX pa3 ha;have hk:=vB th.ok (pe.mem_iff.mp (B4 hpi));have pA:H3 a=some (.tup [.int p.k,.bl p.c,.int p.x,.int p.y]):=pA;refine ⟨a,_,O,IU pA,O,_,_,O,_,_,O,_,_,O,_,_,O,O,?_⟩;have hat:atI ((cN (ps.take i) ks.length).map V.int) (p.k:Int)=some (.int (((ps.take i).filter λ q=>q.k == p.k).length:Int)):=aL (by omega) (by rw [Int.toNat_natCast,List.getElem?_map,gF hk]; rfl);have hix:ixN ((cN (ps.take i) ks.length).map V.int).length (p.k:Int)=some p.k:=by unfold ixN;rw [if_pos (by omega),List.length_map,eg,if_pos (by omega),Int.toNat_natCast]
   refine ⟨_,O,_,O,cl,_,_,_,O,O,by omega,hc3,hat,_,_,O,O,cl,_,_,p.k,O,O,hc3,hix,?_⟩;have kt:∀ (o:HO) (a:Addr) (xs:List V),H3 a=some (.tup xs)->(upd H3 cl o) a=some (.tup xs):=λ o a xs e=>by rw [am (λ z=>by rw [z,hc3] at e; cases e)]; exact e
   refine ⟨⟨_,_,_,_,O⟩,?_,by rw [am npc]; exact hp3,PA.keep (kt _) pa3,λ c o e=>by rw [am (λ z=>by rw [z,fc] at e; cases e)]; exact s3 _ _ e⟩;rw [ag,re hk,List.take_add_one,hpi]; rfl
  ·rintro σ H3 ⟨⟨v6,v7,v8,v9,rfl⟩,hc3,hp3,pa3,s3⟩;rw [List.length_map,pal,List.take_length] at hc3;exact hR _ _ _ _ _ hc3 s3
 rintro v6 v7 v8 v9 H3 hc3 s3;rw [ou pe] at hc3;exact ⟨_,O,q cl H3 fc hc3 s3⟩
end
section
variable {P:G4} {w:G6} {K:C3} {mg:Str->Option G7} {base:Heap}
theorem scwortho:FnScope ["shop","wide","high","tree","counts"] ["shop","wide","high","tree"] (defScope cG):=⟨O,O,O,by decide +kernel,O,by decide +kernel,by decide +kernel⟩
theorem iO {f C:Addr} {fd:G5} (F:Fun K "worth_of" "worth_of" cG f fd) (B:Blt mg) (T:ShopTxt K C) (MK:Mn P w K mg base C "kinds" ["self"] 1 (gt C)) (DCo:Dn P w K mg base "counts_of" ["shop","wide","high","tree"] 9 (spCountsO C)):FnOk P w K mg base CX0 10 f fd ["shop","wide","high","tree"] (spWorthO C):=by
 refine F.ok scwortho (λ vs H Q E h=>?_) (λ cdv A outer s H vs Q E hr h=>?_)
 ·obtain ⟨pp,s,b,w1,h1,ks,v,d,t,rfl,_⟩:=h
  rfl
 obtain ⟨pp,s,b,w1,h1,ks,v,d,t,rfl,th,k8,gk,q⟩:=h;have nd:=scwortho.nd;refine ⟨_,(@af _ _ _ _ _ (@aB _ _ 4 _ _ _ _ nd O (Or.inl O) (@ao _ _ _ _ _ _ _ _ _ _ DCo hr O ((pv 0)^^^((pv 1)^^^((pv 2)^^^((pv 3)^^^ad)))) (by decide) O O) O (Or.inl O)) (@ah _ _ _ (@aq _ _ _ _ (@ay _ _ _ _ _ _ _ _ _ (nM O) O B.sum PyProof.Rows.boot_sum ((el (own:=["count","kind"]) (cs:=[]) (cap:=[]) O (ve O B.zip ((pv 4)^^^((ji (pv 0) T.cl MK (hr.mono (by decide)))^^^ad))) (bX (sc:=defScope cG) (N:=["shop","wide","high","tree","counts"]) O O (by decide +kernel)) (λ _ _ _ _ _=>vo K O O (by show List.Nodup (["count","kind"]:List Str) ; decide +kernel) O O O O) (λ _ _ _ _ _=>dN) (λ _ _ _ _ _=>(@au _ _ _ _ _ _ _ _ eN (pv 0) (ax (r:=rIxT K) ix_tup (pv 1) ae (λ _ _=>O)))))^^^ad) (by decide) (by decide) O O)))),?_⟩;have sz:(40000:Nat)<=sizeLine:=by decide
 refine aH (λ R=>∀cl (H':Hp),H' cl=some (.lst ((cN (pcs b t w1 h1) ks.length).map V.int))->Same H H'->R [some (.ref s),some (.int w1),some (.int h1),some v,some (.ref cl)] H') (λ Dd hR=>?_) ?_
 ·exact ⟨_,O,_,O,_,O,_,O,pp,s,b,w1,h1,ks,v,d,t,O,th,k8,λ l H1 hl l1 s1=>hR l _ l1 s1⟩
 rintro cl H1 hc1 s1;have th1:=th.same s1;obtain ⟨dx,r,rs,S1,S2,S3⟩:=id th1.sh;obtain ⟨m1,m2⟩:=TrD.many (b:=b) t d 0 0 w1 h1 th.td;have wd:=th.wd;have ln:=th.ln;have pl54:(pcs b t w1 h1).length<=63:=C4 (List.length_filterMap_le _ _) (by omega);refine ⟨_,O,_,O,s,dx,_,O,S1,(cK _ _ (by decide +kernel) (by decide +kernel)),s,b,ks,O,th1.sh,λ l rs' hl tp=>?_⟩;have s2:=G8 hl (o:=.lst rs');have k2:(upd H1 l (.lst rs')) l=some (.lst rs'):=ag;have tp2:Tups (upd H1 l (.lst rs')) rs' ks:=Tups.keep (λ c xs e=>s2 _ _ e) tp;generalize upd H1 l (.lst rs')=H2 at s2 k2 tp2 ⊢;have tl:=C9 tp;have hc2:=s2 _ _ hc1;have e60:(100:Int) < 10 ^ 60:=by decide
 generalize hcn:cN (pcs b t w1 h1) ks.length=cn at *;have cl0:cn.length=ks.length:=by rw [<- hcn,eg]
 have cb:∀ (i:Nat) (c:Int),cn[i]? = some c->0<=c/\c<=63:=λ i c hi=>by
  have hlt:i < ks.length:=by rw [<- cl0]; exact (A5.mp hi).1
  rw [<- hcn,gF hlt] at hi;cases hi;have:=List.length_filter_le (λ p:Pce=>p.k == i) (pcs b t w1 h1);omega
 refine ⟨cl,l,_,_,O,hc2,k2,qu (xs:=cn.map V.int) (ys:=rs') (λ i zs H4=>Same H2 H4/\zs=(((cn.zip ks).take i).map λ z=>z.1 * z.2.wo).map V.int) (by rw [List.length_map,cl0]; exact tl.symm) (λ i zs H4 ⟨s4,_⟩=>⟨s4 _ _ hc2,s4 _ _ k2⟩) ⟨Same.refl _,O⟩ (λ i zs H4 hi ⟨_,e⟩=>by rw [e,List.length_map,List.length_map,List.length_take]; rw [List.length_map] at hi; omega) ?_ ?_⟩
 ·rintro i x y tz zs H4 hx hy htz ⟨s4,rfl⟩;rw [List.getElem?_map] at hx;obtain ⟨c,hc,rfl⟩:=Option.map_eq_some_iff.mp hx;obtain ⟨k,hk,ak,rfl,hak⟩:=IX tp2 hy;have g:=gk k (B4 hk);have hcb:=cb i c hc;have s5:=G8 htz (o:=.tup [.int c,.ref ak]);have k5:(upd H4 tz (.tup [.int c,.ref ak])) tz=some (.tup [.int c,.ref ak]):=ag;generalize upd H4 tz (.tup [.int c,.ref ak])=H5 at s5 k5 ⊢;have ak5:H5 ak=some (.tup [.int k.w,.int k.h,.int k.wo,.int k.wa,.bl k.tu]):=s5 _ _ (s4 _ _ hak);refine ⟨tz,_,O,IU k5,O,_,_,O,_,_,O,O,lw (leS.set rfl) (leS.set rfl),dO ?_⟩;refine ⟨_,O,_,O,ak,_,2,_,O,O,IU ak5,O,_,_,O,O,?_,Nx.of (by rw [List.length_map,cl0]; exact (A5.mp hk).1) ⟨s4.trans s5,?_⟩⟩
  ·exact .inl ⟨by omega,by omega⟩
  ·have hzz:(cn.zip ks)[i]? = some (c,k):=by rw [List.getElem?_zip_eq_some]; exact ⟨hc,hk⟩
   rw [List.take_add_one,hzz];simp only [Option.toList_some,List.map_append,List.map_cons,List.map_nil]
 ·rintro zs H4 ⟨s4,rfl⟩;refine ⟨by rw [List.length_map,List.length_map,List.length_take,List.length_zip]; omega,λ p hp=>?_⟩;rw [List.length_map,List.take_of_length_le (by rw [List.length_zip]; omega)];exact ⟨p,_,O,IV ag,q _ (((s1.trans s2).trans s4).trans (G8 hp))⟩
end
theorem tK {X:Cx} (K:C3) {x y z u t:Str} {px py pz pu pt pos:Pos} {k:Nat} (hK:X.K=K) (hc:X.calm=true) (hN:X.N.Nodup) (h0:X.N[0]? = some x) (h1:X.N[1]? = some y) (h2:X.N[2]? = some z) (h3:X.N[3]? = some u) (h4:X.N[4]? = some t) (l0:X.env.scope.names.lookup x=some .local) (l1:X.env.scope.names.lookup y=some .local) (l2:X.env.scope.names.lookup z=some .local) (l3:X.env.scope.names.lookup u=some .local) (l4:X.env.scope.names.lookup t=some .local) :
  PG X (.Tuple [.Name x px,.Name y py,.Name z pz,.Name u pu,.Name t pt] k pos) (gTup K 5 (gCons (cO 0) (gCons (cO 1) (gCons (cO 2) (gCons (cO 3) (gCons (cO 4) rT)))))) :=
 hK ▸ bq hc (ai (aj hN h0 (.inl l0) (.inr l0)) (ai (aj hN h1 (.inl l1) (.inr l1)) (ai (aj hN h2 (.inl l2) (.inr l2)) (ai (aj hN h3 (.inl l3) (.inr l3)) (ai (aj hN h4 (.inl l4) (.inr l4)) aU)))))
structure Rst where
 x:Int
 y:Int
 w:Int
 h:Int
def Go (p:Rst):List V:=[.int p.x,.int p.y,.int p.w,.int p.h]
def zN (p:Rst):List Int:=[p.x,p.y,p.w,p.h]
def lfR (f:Lf):Option Rst:=match f.t with
 | .rest=>some ⟨f.x,f.y,f.w,f.h⟩
 | _=>none
def zO (b:Int) (t:Tr) (w h:Int):List Rst:=(lvs b t 0 0 w h).filterMap lfR
def RA (H:Hp) (a:Addr) (p:Rst):Prop:=H a=some (.tup (Go p))
def fE (H:Hp) (a:Addr):Rst:=match H a with
 | some (.tup [.int k,.int c,.int x,.int y])=>⟨k,c,x,y⟩
 | _=>⟨0,0,0,0⟩
theorem RA.of {H:Hp} {a:Addr} {p:Rst} (h:RA H a p):fE H a=p:=by unfold fE;rw [show H a=some (.tup [.int p.x,.int p.y,.int p.w,.int p.h]) from h]
theorem RA.map {H:Hp}:∀ {as:List Addr} {ps:List Rst},Paired (RA H) as ps->as.map (fE H)=ps
 | _,_,.nil=>rfl
 | _,_,.cons h r=>by rw [List.map_cons,h.of,RA.map r]
theorem RA.mem {H:Hp}:∀ {as:List Addr} {ps:List Rst},Paired (RA H) as ps->∀a∈as,RA H a (fE H a)
 | _,_,.nil,a,h=>by cases h
 | _,_,.cons h r,a,hm=>by
  rcases List.mem_cons.mp hm with e | e
  ·subst e; rw [h.of]; exact h
  ·exact RA.mem r a e
theorem RA.back {H:Hp}:∀ {as:List Addr},(∀a∈as,RA H a (fE H a))->Paired (RA H) as (as.map (fE H))
 | [],_=>.nil
 | a :: as,h=>.cons (h a B6) (RA.back λ b hb=>h b (B3 _ hb))
theorem RA.keep {H H':Hp} (k:∀a xs,H a=some (.tup xs)->H' a=some (.tup xs)) {as:List Addr} {ps:List Rst} (h:Paired (RA H) as ps):Paired (RA H') as ps:=IW h λ a p e=>k _ _ e
section
variable {P:G4} {w:G6} {K:C3} {mg:Str->Option G7} {base:Heap}
inductive spRests (C:Addr) (vs:List V) (H:Hp) (Q:VK) (E_:XK):Prop
 | mk (pp s:Addr) (b w h:Int) (ks:List Kd) (v:V) (d:PyData) (t:Tr) (e_1:vs=[.ref s,.int w,.int h,v]) (e_2:TrH C pp s b w h ks v d t H) (e_3:∀ (l:Addr) (as:List Addr) (ps:List Rst) (H':Hp),H l=none->H' l=some (.lst (as.map V.ref))->Paired (RA H') as ps->ps.Perm (zO b t w h)->(ps.map zN).Pairwise (λ x y=>cD y x=false)->Same H H'->Q (.ref l) H'):spRests C vs H Q E_
theorem scrests:FnScope ["shop","wide","high","tree","leaves"] ["shop","wide","high","tree"] (defScope cF):=⟨O,O,O,by decide +kernel,O,by decide +kernel,by decide +kernel⟩
theorem ko {f C wa:Addr} {fd:G5} (F:Fun K "rests_of" "rests_of" cF f fd) (B:Blt mg) (Z:TrC K mg wa) (DC:Dn P w K mg base "check_tree" ["shop","wide","high","thing"] 7 (spCheckT C)) (DL:Dn P w K mg base "leaves_of" ["shop","wide","high","tree"] 3 (spLeaves C)):FnOk P w K mg base CX0 8 f fd ["shop","wide","high","tree"] (spRests C):=by
 refine F.ok scrests (λ vs H Q E h=>?_) (λ cdv A outer s H vs Q E hr h=>?_)
 ·obtain ⟨pp,s,b,w1,h1,ks,v,d,t,rfl,_⟩:=h
  rfl
 obtain ⟨pp,s,b,w1,h1,ks,v,d,t,rfl,th,q⟩:=h;have nd:=scrests.nd;obtain ⟨trs,hrs⟩:=Z.rs;refine ⟨_,(@af _ _ _ _ _ (@aX _ _ _ _ (@ao _ _ _ _ _ _ _ _ _ _ DC hr O ((pv 0)^^^((pv 1)^^^((pv 2)^^^((pv 3)^^^ad)))) (by decide) O O) O) (@af _ _ _ _ _ (@aB _ _ 4 _ _ _ _ nd O (Or.inl O) (@ao _ _ _ _ _ _ _ _ _ _ DL (hr.mono (by decide)) O ((pv 0)^^^((pv 1)^^^((pv 2)^^^((pv 3)^^^ad)))) (by decide) O O) O (Or.inl O)) (@ah _ _ _ (@aq _ _ _ _ (@ay _ _ _ _ _ _ _ _ _ fz O B.sorted PyProof.Rows.boot_sorted ((el (own:=["x","y","part_wide","part_high","leaf"]) (cs:=[]) (cap:=[]) O (cj (pv 4)) (bX (sc:=defScope cF) (N:=["shop","wide","high","tree","leaves"]) O O (by decide +kernel)) (λ _ _ _ _ _=>tK K O O (by show List.Nodup (["x","y","part_wide","part_high","leaf"]:List Str) ; decide +kernel) O O O O O O O O O O) (λ _ _ _ _ _=>(jK (@aw _ _ _ _ _ _ _ _ bf (ax (r:=rIx K) aP (pv 4) ae (λ _ _=>O)) (aO (v:=.str "rest") O hrs ⟨trs,O⟩) (av _)))) (λ _ _ _ _ _=>(@az _ _ _ _ _ ((pv 0)^^^((pv 1)^^^((pv 2)^^^((pv 3)^^^ad)))))))^^^ad) (by decide) (by decide) O O))))),?_⟩;have sz:(40000:Nat)<=sizeLine:=by decide
 obtain ⟨m1,m2⟩:=TrD.many (b:=b) t d 0 0 w1 h1 th.td;have wd:=th.wd;have ln:=th.ln;refine ⟨_,O,_,O,_,O,_,O,pp,s,b,w1,h1,ks,v,d,O,th.sh,th.w1,th.h1,th.dt,by omega,TrD.good t d w1 h1 th.td th.ok,λ H1 s1=>?_⟩;have th1:=th.same s1;refine bi (λ σ' H'=>σ'=[some (.ref s),some (.int w1),some (.int h1),some v,none]/\H1=H') (λ R hR=>hR _ _ ⟨rfl,rfl⟩) ?_;rintro _ _ ⟨rfl,rfl⟩;refine aH (λ R=>∀ll us (H':Hp),H' ll=some (.lst us)->Paired (LfAt pp H1 H') us (lvs b t 0 0 w1 h1)->Same H1 H'->R [some (.ref s),some (.int w1),some (.int h1),some v,some (.ref ll)] H') (λ Dd hR=>?_) ?_
 ·exact ⟨_,O,_,O,_,O,_,O,pp,s,b,w1,h1,ks,v,d,t,O,th1.sh,th1.dt,th1.td,by omega,λ ll us H3 hll l3 pu s23=>hR ll us _ l3 pu s23⟩
 rintro ll us H2 l2 pu s2;have ul:=C9 pu;have s02:=s1.trans s2;refine ⟨_,O,ll,O,⟨_,IV l2⟩,(dQ (K:=K) (.inl l2) (λ i ys Hx=>Same H2 Hx/\∃as,ys=as.map V.ref/\Paired (RA Hx) as (((lvs b t 0 0 w1 h1).take i).filterMap lfR)) (λ i ys Hx _ ⟨sx,_⟩ o e=>sx _ _ e) ⟨Same.refl _,[],O,.nil⟩ ?_ ?_).1 l2⟩
 ·rintro i x ys Hx hi ⟨sx,as,rfl,px⟩;have hin:i < us.length:=(A5.mp hi).1;obtain ⟨f,hf,a,u,du,rfl,ha,hdu,tdu⟩:=IX pu hi;have yl:=C9 px;have fml:(((lvs b t 0 0 w1 h1).take i).filterMap lfR).length<=i:=C4 (List.length_filterMap_le _ _) (by rw [List.length_take]; omega);have tk:(lvs b t 0 0 w1 h1).take (i + 1)=(lvs b t 0 0 w1 h1).take i ++ [f]:=by rw [List.take_add_one,hf]; rfl
  have hdx:Dt pp Hx u du:=hdu.same (s2.trans sx);refine ⟨by rw [List.length_map]; omega,a,_,O,IU (sx _ _ ha),O,_,_,O,_,_,O,_,_,O,_,_,O,_,_,O,O,lw (lw (lw (lw (leS.set rfl) (leS.set rfl)) (leS.set rfl)) (leS.set rfl)) (leS.set rfl),?_⟩;rcases cf b t 0 0 w1 h1 f (B4 hf) with et | ⟨ki,c,px',py',et⟩
  ·rw [et] at tdu;obtain ⟨a', xs, rfl, hx, dxs⟩:=hdx.ref_row (show aQ du=some [.str "rest"] from tdu);cases dxs with
   | cons hd0 dxs =>
   cases hd0;cases dxs;refine ⟨_,O,ixR (Same.refl _) hx (aL (E2 _) rfl) ⟨O,_,O,?_⟩⟩;refine aF ⟨_,rfl,_,rfl,_,rfl,_,rfl,zS4,λ tp htp=>Nx.of hin ⟨sx.trans (G8 htp),as ++ [tp],by rw [List.map_append]; rfl,?_⟩⟩;rw [tk,List.filterMap_append,show [f].filterMap lfR=[⟨f.x,f.y,f.w,f.h⟩] by rw [List.filterMap_cons,show lfR f=some ⟨f.x,f.y,f.w,f.h⟩ by unfold lfR; rw [et]]; rfl];exact gl (RA.keep (λ a xs e=>G8 htp _ _ e) px) (.cons ag .nil)
  ·rw [et] at tdu;obtain ⟨a', xs, rfl, hx, dxs⟩:=hdx.ref_row (show aQ du=some [.str "piece", .int ki, .bool c, .int px', .int py'] from tdu);cases dxs with
   | cons hd0 dxs =>
   cases hd0;refine ⟨_,O,ixR (Same.refl _) hx (aL (E2 _) rfl) ⟨O,_,O,?_⟩⟩;refine aA (Nx.of hin ⟨sx,as,rfl,?_⟩);rw [tk,List.filterMap_append,show [f].filterMap lfR=[] by rw [List.filterMap_cons,show lfR f=none by unfold lfR; rw [et]]; rfl,List.append_nil];exact px
 ·rintro ys Hx ⟨sx,as,rfl,px⟩;have yl:=C9 px;rw [ul,List.take_length] at px yl;have fml:((lvs b t 0 0 w1 h1).filterMap lfR).length<=(lvs b t 0 0 w1 h1).length:=List.length_filterMap_le _ _;refine ⟨by rw [List.length_map]; omega,λ cl hcl=>?_⟩;have s4:=G8 hcl (o:=.lst (as.map V.ref));have k4:(upd Hx cl (.lst (as.map V.ref))) cl=some (.lst (as.map V.ref)):=ag;generalize upd Hx cl (.lst (as.map V.ref))=H4 at s4 k4 ⊢;have pa4:Paired (RA H4) as ((lvs b t 0 0 w1 h1).filterMap lfR):=RA.keep (λ a xs e=>s4 _ _ e) px;have mem:=RA.mem pa4;have mp:=RA.map pa4;refine ⟨cl,as,[false,false,false,false],λ a=>zN (fE H4 a),O,IV k4,by omega,O,λ a ha=>⟨_,IU (mem a ha),O⟩,λ l as' hl pa so=>?_⟩;have s5:=G8 hl (o:=.lst (as'.map V.ref));have s05:=(s02.trans sx).trans s4;refine q l as' (as'.map (fE H4)) _ (s05.free hl) ag (RA.keep (λ a xs e=>s5 _ _ e) (RA.back λ a ha=>mem a (pa.mem_iff.mp ha))) ?_ ?_ (s05.trans s5)
  ·rw [show zO b t w1 h1=as.map (fE H4) from mp.symm]; exact pa.map _
  ·rw [List.map_map]; exact so
end
def pcA (ks:List Kd) (f:Lf):Int:=match f.t with
 | .piece i c _ _=>(match ks[i]? with
  | some k=>sd1 k c * sd2 k c
  | none=>0)
 | _=>0
def rsA (f:Lf):Int:=match f.t with
 | .rest=>f.w * f.h
 | _=>0
def mgA (ks:List Kd) (f:Lf):Int:=match f.t with
 | .piece _ _ _ _=>f.w * f.h - pcA ks f
 | _=>0
def fb (g:Lf->Int) (fs:List Lf):Int:=(fs.map g).sum
theorem cy (g:Lf->Int) (fs:List Lf) (f:Lf):fb g (fs ++ [f])=fb g fs + g f:=by unfold fb; rw [List.map_append,List.sum_append]; simp
theorem fF {b:Int} {ks:List Kd} (b0:0<=b):∀ (t:Tr) (x y w h:Int),1<=w->1<=h->okT b ks w h t->∀f∈lvs b t x y w h,1<=f.w/\f.w<=w/\1<=f.h/\f.h<=h/\okT b ks f.w f.h f.t
 | .rest,x,y,w,h,w0,h0,ok,f,hf=>by cases C8.mp hf; exact ⟨w0,E2 _,h0,E2 _,ok⟩
 | .piece ..,x,y,w,h,w0,h0,ok,f,hf=>by cases C8.mp hf; exact ⟨w0,E2 _,h0,E2 _,ok⟩
 | .cut true p l r,x,y,w,h,w0,h0,⟨p1,hp,hl,hr⟩,f,hf=>by
  rw [lvs] at hf;rcases C1.mp hf with z | z
  ·have:=fF b0 r _ _ _ _ (by omega) h0 hr f z;exact ⟨this.1,by omega,this.2.2.1,this.2.2.2.1,this.2.2.2.2⟩
  ·have:=fF b0 l _ _ _ _ p1 h0 hl f z;exact ⟨this.1,by omega,this.2.2.1,this.2.2.2.1,this.2.2.2.2⟩
 | .cut false p l r,x,y,w,h,w0,h0,⟨p1,hp,hl,hr⟩,f,hf=>by
  rw [lvs] at hf;rcases C1.mp hf with z | z
  ·have:=fF b0 r _ _ _ _ w0 (by omega) hr f z;exact ⟨this.1,this.2.1,this.2.2.1,by omega,this.2.2.2.2⟩
  ·have:=fF b0 l _ _ _ _ w0 p1 hl f z;exact ⟨this.1,this.2.1,this.2.2.1,by omega,this.2.2.2.2⟩
section
variable {P:G4} {w:G6} {K:C3} {mg:Str->Option G7} {base:Heap}
inductive spAreas (C:Addr) (vs:List V) (H:Hp) (Q:VK) (E_:XK):Prop
 | mk (pp s:Addr) (b w h:Int) (ks:List Kd) (v:V) (d:PyData) (t:Tr) (e_1:vs=[.ref s,.int w,.int h,v]) (e_2:TrH C pp s b w h ks v d t H) (e_3:0<=b) (e_4:w<=10 ^ 60) (e_5:h<=10 ^ 60) (e_6:(∀k∈ks,Good k)) (e_7:∀ (l:Addr) (A R M:Int) (H':Hp),A=fb (pcA ks) (lvs b t 0 0 w h)->R=fb rsA (lvs b t 0 0 w h)->M=fb (mgA ks) (lvs b t 0 0 w h)->H l=none->H' l=some (.tup [.int A,.int R,.int M,.int (w * h - A - R - M)])->Same H H'->Q (.ref l) H'):spAreas C vs H Q E_
theorem scareas:FnScope ["shop","wide","high","tree","pieces","rests","margins","x","y","part_wide","part_high","leaf","cells","piece_wide","piece_high"] ["shop","wide","high","tree"] (defScope cT):=⟨O,O,O,by decide +kernel,O,by decide +kernel,by decide +kernel⟩
theorem kq {f C wa:Addr} {fd:G5} (F:Fun K "areas_of" "areas_of" cT f fd) (B:Blt mg) (T:ShopTxt K C) (Z:TrC K mg wa) (MS:Mn P w K mg base C "sides" ["self","kind","turned"] 3 (spSides K C)) (DC:Dn P w K mg base "check_tree" ["shop","wide","high","thing"] 7 (spCheckT C)) (DL:Dn P w K mg base "leaves_of" ["shop","wide","high","tree"] 3 (spLeaves C)):FnOk P w K mg base CX0 8 f fd ["shop","wide","high","tree"] (spAreas C):=by
 refine F.ok scareas (λ vs H Q E h=>?_) (λ cdv A outer s H vs Q E hr h=>?_)
 ·obtain ⟨pp,s,b,w1,h1,ks,v,d,t,rfl,_⟩:=h
  rfl
 obtain ⟨pp,s,b,w1,h1,ks,v,d,t,rfl,th,b0,w60,h60,gk,q⟩:=h;have nd:=scareas.nd;obtain ⟨trs,hrs⟩:=Z.rs;refine ⟨_,(@af _ _ _ _ _ (@aX _ _ _ _ (@ao _ _ _ _ _ _ _ _ _ _ DC hr O ((pv 0)^^^((pv 1)^^^((pv 2)^^^((pv 3)^^^ad)))) (by decide) O O) O) (@af _ _ _ _ _ (sN (i:=4) (j:=5) (k:=6) nd O O O O O O ae) (@af _ _ _ _ _ (@bV _ _ _ _ _ _ _ _ E1 O (cj (@ao _ _ _ _ _ _ _ _ _ _ DL (hr.mono (by decide)) O ((pv 0)^^^((pv 1)^^^((pv 2)^^^((pv 3)^^^ad)))) (by decide) O O)) (bq O (ai (aj (i:=7) nd O (Or.inl O)) (ai (aj (i:=8) nd O (Or.inl O)) (ai (aj (i:=9) nd O (Or.inl O)) (ai (aj (i:=10) nd O (Or.inl O)) (ai (aj (i:=11) nd O (Or.inl O)) aU)))))) (@af _ _ _ _ _ (@aB _ _ 12 _ _ _ _ nd O (Or.inl O) (@au _ _ _ _ _ _ _ _ gu (pv 9) (pv 10)) O (Or.inl O)) (@ah _ _ _ (@aG _ _ _ _ _ _ _ _ (@aw _ _ _ _ _ _ _ _ bf (@ax _ _ _ _ _ _ _ aP (pv 11) ae (λ _ _=>O)) (aO (v:=.str "rest") O hrs ⟨trs,O⟩) (av _)) (@ah _ _ _ (kC (i:=5) nd O (Or.inl O) (pv 12) iU)) (@af _ _ _ _ _ (@bJ _ _ _ _ _ _ (mK (pv 0) T.cl MS (hr.mono (by decide)) ((@ax _ _ _ _ _ _ _ aP (pv 11) ae (λ _ _=>O))^^^((@ax _ _ _ _ _ _ _ aP (pv 11) ae (λ _ _=>O))^^^ad))) (bq O (ai (aj (i:=13) nd O (Or.inl O)) (ai (aj (i:=14) nd O (Or.inl O)) aU))) O O O) (@af _ _ _ _ _ (kC (i:=4) nd O (Or.inl O) (@au _ _ _ _ _ _ _ _ gu (pv 13) (pv 14)) iU) (@ah _ _ _ (kC (i:=6) nd O (Or.inl O) (@au _ _ _ _ _ _ _ _ aZ (pv 12) (@au _ _ _ _ _ _ _ _ gu (pv 13) (pv 14))) iU))))))) (by intro _; rfl)) (@ah _ _ _ (@aq _ _ _ _ (@az _ _ _ _ _ ((pv 4)^^^((pv 5)^^^((pv 6)^^^((@au _ _ _ _ _ _ _ _ aZ (@au _ _ _ _ _ _ _ _ aZ (@au _ _ _ _ _ _ _ _ aZ (@au _ _ _ _ _ _ _ _ gu (pv 1) (pv 2)) (pv 4)) (pv 5)) (pv 6))^^^ad)))))))))),?_⟩;have sz:(40000:Nat)<=sizeLine:=by decide
 obtain ⟨m1,m2⟩:=TrD.many (b:=b) t d 0 0 w1 h1 th.td;have wd:=th.wd;have ln:=th.ln;refine ⟨_,O,_,O,_,O,_,O,pp,s,b,w1,h1,ks,v,d,O,th.sh,th.w1,th.h1,th.dt,by omega,TrD.good t d w1 h1 th.td th.ok,λ H1 s1=>?_⟩;have th1:=th.same s1;refine bi (λ σ' H'=>σ'=[some (.ref s),some (.int w1),some (.int h1),some v,none,none,none,none,none,none,none,none,none,none,none]/\H1=H') (λ R hR=>hR _ _ ⟨rfl,rfl⟩) ?_;rintro _ _ ⟨rfl,rfl⟩;refine bi (λ σ' H'=>σ'=[some (.ref s),some (.int w1),some (.int h1),some v,some (.int 0),some (.int 0),some (.int 0),none,none,none,none,none,none,none,none]/\H1=H') (λ R hR=>hR _ _ ⟨rfl,rfl⟩) ?_;rintro _ _ ⟨rfl,rfl⟩;refine aH (λ R=>∀v7 v8 v9 v10 v11 v12 v13 v14 (H':Hp),Same H H'->R [some (.ref s),some (.int w1),some (.int h1),some v,some (.int (fb (pcA ks) (lvs b t 0 0 w1 h1))),some (.int (fb rsA (lvs b t 0 0 w1 h1))),some (.int (fb (mgA ks) (lvs b t 0 0 w1 h1))),v7,v8,v9,v10,v11,v12,v13,v14] H') (λ Dd hR=>?_) ?_
 ·refine ⟨_,O,_,O,_,O,_,O,pp,s,b,w1,h1,ks,v,d,t,O,th1.sh,th1.dt,th1.td,by omega,λ ll us H3 hll l3 pu s13=>?_⟩;have s03:=s1.trans s13;have ul:=C9 pu;refine ⟨ll,O,⟨_,IV l3⟩,cP (xs:=us) (λ i σ' H'=>(∃v7 v8 v9 v10 v11 v12 v13 v14,σ'=[some (.ref s),some (.int w1),some (.int h1),some v,some (.int (fb (pcA ks) ((lvs b t 0 0 w1 h1).take i))),some (.int (fb rsA ((lvs b t 0 0 w1 h1).take i))),some (.int (fb (mgA ks) ((lvs b t 0 0 w1 h1).take i))),v7,v8,v9,v10,v11,v12,v13,v14])/\Same H3 H') ⟨⟨_,_,_,_,_,_,_,_,O⟩,Same.refl _⟩ (λ i σ H' _ h=>IV (h.2 _ _ l3)) ?_ ?_⟩
  ·rintro i x σ H4 hi ⟨⟨v7,v8,v9,v10,v11,v12,v13,v14,rfl⟩,s34⟩;obtain ⟨f,hf,a,u,du,rfl,ha,hdu,tdu⟩:=IX pu hi;have tk:(lvs b t 0 0 w1 h1).take (i + 1)=(lvs b t 0 0 w1 h1).take i ++ [f]:=by rw [List.take_add_one,hf]; rfl
   obtain ⟨fw0,fw1,fh0,fh1,okf⟩:=fF b0 t 0 0 w1 h1 th.w1 th.h1 th.ok f (B4 hf);refine ⟨a,_,O,IU (s34 _ _ ha),O,_,_,O,_,_,O,_,_,O,_,_,O,_,_,O,O,?_⟩;refine ⟨_,O,_,O,_,_,O,O,⟨b60 (by omega) (by omega),b60 (by omega) (by omega)⟩,?_⟩;have s04:=s03.trans s34;have hdu4:Dt pp H4 u du:=hdu.same (s13.trans s34);rcases cf b t 0 0 w1 h1 f (B4 hf) with et | ⟨ki,c,px,py,et⟩
   ·rw [et] at tdu;obtain ⟨a', xs, rfl, hx, dxs⟩:=hdu4.ref_row (show aQ du=some [.str "rest"] from tdu);cases dxs with
    | cons hd0 dxs =>
    cases hd0;cases dxs;have e1:pcA ks f=0:=by unfold pcA; rw [et]
    have e2:rsA f=f.w * f.h:=by unfold rsA; rw [et]
    have e3:mgA ks f=0:=by unfold mgA; rw [et]
    refine ⟨_,O,ixR (Same.refl _) hx (aL (E2 _) rfl) ⟨O,_,O,?_⟩⟩;refine aF ⟨_,rfl,_,rfl,_,_,rfl,rfl,?_⟩;refine ⟨?_,s34⟩;rw [tk,cy,cy,cy,e1,e2,e3,Int.add_zero,Int.add_zero];exact ⟨_,_,_,_,_,_,_,_,O⟩
   ·rw [et] at tdu okf;obtain ⟨k,hk,hc,x0,y0,hxw,hyh⟩:=okf;have gk1:=gk k (B4 hk);have sw:=gk1.w;have sh:=gk1.h;have sb:1<=sd1 k c/\1<=sd2 k c:=by cases c <;> exact ⟨by assumption,by assumption⟩
    obtain ⟨a', xs, rfl, hx, dxs⟩:=hdu4.ref_row (show aQ du=some [.str "piece", .int ki, .bool c, .int px, .int py] from tdu);cases dxs with
    | cons hd0 dxs =>
    cases dxs with
    | cons hd1 dxs =>
    cases dxs with
    | cons hd2 dxs =>
    cases dxs with
    | cons hd3 dxs =>
    cases dxs with
    | cons hd4 dxs =>
    cases dxs;cases hd0; cases hd1; cases hd2; cases hd3; cases hd4;have e1:pcA ks f=sd1 k c * sd2 k c:=by unfold pcA; rw [et]; dsimp only; rw [hk]
    have e2:rsA f=0:=by unfold rsA; rw [et]
    have e3:mgA ks f=f.w * f.h - sd1 k c * sd2 k c:=by unfold mgA; rw [et]; dsimp only; rw [e1]
    refine ⟨_,O,ixR (Same.refl _) hx (aL (E2 _) rfl) ⟨O,_,O,?_⟩⟩;refine aA ?_;have SH4:=cM s04 th.sh;obtain ⟨dx,r,rs,S1,S2,S3⟩:=id SH4;refine ⟨_,O,s,dx,_,O,S1,(cK _ _ (by decide +kernel) (by decide +kernel)),_,O,ixR (Same.refl _) hx (aL (by decide) rfl) ⟨_,O,ixR (Same.refl _) hx (aL (by decide) rfl) ?_⟩⟩;refine ⟨s,b,ks,.int ki,.bl c,_,_,O,SH4,Ty.int,Ty.bl,gB hk hc,λ i' c' k' p e1' e2' hk' _ hp=>?_⟩;cases e1';cases e2';rw [Int.toNat_natCast,hk] at hk';cases hk';rw [jW];have s5:=G8 hp (o:=.tup [.int (sd1 k c),.int (sd2 k c)]);have k5:(upd H4 p (.tup [.int (sd1 k c),.int (sd2 k c)])) p=some (.tup [.int (sd1 k c),.int (sd2 k c)]):=ag;generalize upd H4 p (.tup [.int (sd1 k c),.int (sd2 k c)])=H5 at s5 k5 ⊢;refine ⟨p,_,O,IU k5,O,_,_,O,_,_,O,O,?_⟩;have q1:=b60 (show 0<=sd1 k c by omega) (by omega);have q2:=b60 (show 0<=sd2 k c by omega) (by omega);refine ⟨_,O,_,O,_,O,_,_,O,O,⟨q1,q2⟩,_,_,O,O,?_⟩;refine ⟨_,O,_,O,_,O,_,O,_,_,O,O,⟨q1,q2⟩,_,_,O,O,_,_,O,O,?_⟩;refine ⟨?_,s34.trans s5⟩;rw [tk,cy,cy,cy,e1,e2,e3,Int.add_zero];exact ⟨_,_,_,_,_,_,_,_,O⟩
  ·rintro σ H4 ⟨⟨v7,v8,v9,v10,v11,v12,v13,v14,rfl⟩,s34⟩;rw [ul,List.take_length];exact hR _ _ _ _ _ _ _ _ _ (s03.trans s34)
 rintro v7 v8 v9 v10 v11 v12 v13 v14 H3 s3;obtain ⟨A,hA⟩:∃A,A=fb (pcA ks) (lvs b t 0 0 w1 h1):=⟨_,O⟩
 obtain ⟨R,hR⟩:∃R,R=fb rsA (lvs b t 0 0 w1 h1):=⟨_,O⟩
 obtain ⟨M,hM⟩:∃M,M=fb (mgA ks) (lvs b t 0 0 w1 h1):=⟨_,O⟩
 rw [<- hA,<- hR,<- hM];have w0:=th.w1;have h0:=th.h1;refine ⟨_,O,_,O,_,O,_,O,_,O,_,_,O,O,⟨b60 (by omega) (by omega),b60 (by omega) (by omega)⟩,_,O,_,_,O,O,_,O,_,_,O,O,_,O,_,_,O,O,zS4,λ l hl=>?_⟩;exact q l A R M _ hA hR hM (s3.free hl) ag (s3.trans (G8 hl))
end
def BadPl (K:C3) (H:Hp) (wv hv:V):Prop:=(∃T,Ty K H wv T)/\(∃T,Ty K H hv T)/\(aK wv 1 && aK hv 1)=false
theorem BadPl.same {K:C3} {H H':Hp} {wv hv:V} (h:BadPl K H wv hv) (s:Same H H'):BadPl K H' wv hv:=⟨h.1.imp λ _ t=>Ty.same s t,h.2.1.imp λ _ t=>Ty.same s t,h.2.2⟩
section
variable {P:G4} {w:G6} {K:C3} {mg:Str->Option G7} {base:Heap}
def rf (K:C3) (NP:Addr):Sp:=λ vs H Q E=>∃ (wv hv:V),vs=[wv,hv]/\(∃T,Ty K H wv T)/\(∃T,Ty K H hv T)/\((aK wv 1 && aK hv 1)=false->E (.ref NP) none H)/\((aK wv 1 && aK hv 1)=true->Q .non H)
def ib (K:C3) (NP:Addr):Sp:=λ vs H Q E=>∃ (s:Addr) (wv hv v:V),vs=[.ref s,wv,hv,v]/\BadPl K H wv hv/\E (.ref NP) none H
inductive spRef (K:C3) (C NP NT:Addr):List V->Hp->VK->XK->Prop
 | pl {s:Addr} {wv hv v:V} {H:Hp} {Q:VK} {E:XK} (b:BadPl K H wv hv) (e:E (.ref NP) none H):spRef K C NP NT [.ref s,wv,hv,v] H Q E
 | tr {pp s:Addr} {b w h:Int} {ks:List Kd} {v:V} {d:PyData} {H:Hp} {Q:VK} {E:XK} (sh:ShopAt C H s b ks) (w1:1<=w) (h1:1<=h) (dt:Dt pp H v d) (wd:wt d<=30000) (no:isT b ks w h d=false) (e:∀H',Same H H'->E (.ref NT) none H'):spRef K C NP NT [.ref s,.int w,.int h,v] H Q E
theorem spRef.to {C NP NT:Addr} {vs:List V} {H:Hp} {Q Q':VK} {E:XK} (h:spRef K C NP NT vs H Q E):spRef K C NP NT vs H Q' E:=by
 cases h with
 | pl b e=>exact .pl b e
 | tr a b c d e f g=>exact .tr a b c d e f g
theorem spRef.four {C NP NT:Addr} {vs:List V} {H:Hp} {Q:VK} {E:XK} (h:spRef K C NP NT vs H Q E):∃a b c d,vs=[a,b,c,d]:=by cases h <;> exact ⟨_,_,_,_,O⟩
theorem sccplateX:FnScope ["wide","high"] ["wide","high"] (defScope bM):=⟨O,O,O,by decide +kernel,O,by decide +kernel,by decide +kernel⟩
theorem lE {f NP:Addr} {fd:G5} (F:Fun K "check_plate" "check_plate" bM f fd) (mP:mg "NoPlate" = some (.ref NP)) (eP:ExcC K NP) (DW:Dn P w K mg base "is_whole" ["thing","least"] 1 (bB K)):FnOk P w K mg base (CXx P w) 2 f fd ["wide","high"] (rf K NP):=by
 refine F.okX sccplateX (λ vs H Q E h=>?_) (λ cdv A outer s H vs Q E hr h=>?_)
 ·obtain ⟨wv,hv,rfl,_⟩:=h
  rfl
 obtain ⟨wv,hv,rfl,⟨Tw,tw⟩,⟨Th,th⟩,qe,q⟩:=h;have nd:=sccplateX.nd;refine ⟨_,(@ah _ _ _ (@aG _ _ _ _ _ _ _ _ (PW.pt (br (@aS _ _ _ _ (@aI _ _ _ (@ao _ _ _ _ _ _ _ _ _ _ DW hr O ((pv 0)^^^(ae^^^ad)) (by decide) O O) (by intro _; rfl))) (bz (@aS _ _ _ _ (@aI _ _ _ (@ao _ _ _ _ _ _ _ _ _ _ DW hr O ((pv 1)^^^(ae^^^ad)) (by decide) O O) (by intro _; rfl)))))) (@ah _ _ _ (jN (R:=λ c H=>E c none H) O O mP eP (aJ^^^ad) gS)) ar)),?_⟩;refine ⟨_,O,wv,_,1,O,tw,_,O,?_⟩;cases hw:aK wv 1 with
 | false=>exact aF (aF ⟨zS1,qe (by rw [hw]; rfl)⟩)
 | true =>
  refine aA ⟨_,rfl,hv,_,1,rfl,th,_,rfl,?_⟩;cases hh:aK hv 1 with
  | false=>exact aF ⟨zS1,qe (by rw [hw,hh]; rfl)⟩
  | true=>exact aA (q (by rw [hw,hh]; rfl))
theorem scistreeP:FnScope ["shop","wide","high","thing","blade","waiting","spot"] ["shop","wide","high","thing"] (defScope eD):=⟨O,O,O,by decide +kernel,O,by decide +kernel,by decide +kernel⟩
theorem lF {f NP:Addr} {fd:G5} (F:Fun K "is_tree" "is_tree" eD f fd) (DCP:DnX P w K mg base "check_plate" ["wide","high"] 2 (rf K NP)):FnOk P w K mg base (CXx P w) 3 f fd ["shop","wide","high","thing"] (ib K NP):=by
 refine F.okX scistreeP (λ vs H Q E h=>?_) (λ cdv A outer s H vs Q E hr h=>?_)
 ·obtain ⟨s,wv,hv,v,rfl,_⟩:=h
  rfl
 obtain ⟨s,wv,hv,v,rfl,bp,e⟩:=h;have nd:=scistreeP.nd;refine ⟨_,(@af _ _ _ _ _ (@aX _ _ _ _ (bH (bQ DCP (hr.mono (by decide)) O ((pv 1)^^^((pv 2)^^^ad)))) O) (@af _ _ _ _ _ aT (@af _ _ _ _ _ aT (@af _ _ _ _ _ aT (@ah _ _ _ aT))))),?_⟩;refine bi (λ σ' H'=>False) (λ R hR=>?_) (λ _ _ z=>z.elim);exact ⟨_,O,_,O,wv,hv,O,bp.1,bp.2.1,λ _=>e,λ g=>by rw [bp.2.2] at g; cases g⟩
theorem scchecktR:FnScope ["shop","wide","high","thing"] ["shop","wide","high","thing"] (defScope bY):=⟨O,O,O,by decide +kernel,O,by decide +kernel,by decide +kernel⟩
theorem lG {f C NP NT:Addr} {fd:G5} (F:Fun K "check_tree" "check_tree" bY f fd) (mT:mg "NoTree" = some (.ref NT)) (eT:ExcC K NT) (DI:DnX P w K mg base "is_tree" ["shop","wide","high","thing"] 6 (λ vs H Q E=>spIsTree C vs H Q E\/ib K NP vs H Q E)):FnOk P w K mg base (CXx P w) 7 f fd ["shop","wide","high","thing"] (spRef K C NP NT):=by
 refine F.okX scchecktR (λ vs H Q E h=>?_) (λ cdv A outer s H vs Q E hr h=>?_)
 ·obtain ⟨_,_,_,_,rfl⟩:=h.four
  rfl
 obtain ⟨v1,v2,v3,v4,rfl⟩:=h.four;have nd:=scchecktR.nd;refine ⟨_,(@ah _ _ _ (@aG _ _ _ _ _ _ _ _ (@aS _ _ _ _ (@aI _ _ _ (bH (bQ DI hr O ((pv 0)^^^((pv 1)^^^((pv 2)^^^((pv 3)^^^ad)))))) (by intro _; rfl))) (@ah _ _ _ (jN (R:=λ c H=>E c none H) O O mT eT (aJ^^^ad) gS)) ar)),?_⟩;refine ⟨_,O,_,O,_,O,_,O,?_⟩;cases h with
 | pl b e=>exact .inr ⟨_,_,_,_,O,b,e⟩
 | tr sh w1 h1 dt wd no e =>
  refine .inl ⟨_,_,_,_,_,_,_,_,O,sh,w1,h1,dt,wd,λ H1 s1=>⟨_,O,?_⟩⟩;rw [no];exact aF ⟨zS1,e _ s1⟩
theorem scpiecesR:FnScope ["shop","wide","high","tree","pieces","x","y","part_wide","part_high","leaf","word","kind","turned","piece_x","piece_y"] ["shop","wide","high","tree"] (defScope cx):=⟨O,O,O,by decide +kernel,O,by decide +kernel,by decide +kernel⟩
theorem ic {f C NP NT:Addr} {fd:G5} (F:Fun K "pieces_of" "pieces_of" cx f fd) (DC:DnX P w K mg base "check_tree" ["shop","wide","high","thing"] 7 (spRef K C NP NT)):FnOk P w K mg base (CXx P w) 8 f fd ["shop","wide","high","tree"] (spRef K C NP NT):=by
 refine F.okX scpiecesR (λ vs H Q E h=>?_) (λ cdv A outer s H vs Q E hr h=>?_)
 ·obtain ⟨_,_,_,_,rfl⟩:=h.four
  rfl
 obtain ⟨v1,v2,v3,v4,rfl⟩:=h.four;have nd:=scpiecesR.nd;refine ⟨_,(@af _ _ _ _ _ (@aX _ _ _ _ (bH (bQ DC hr O ((pv 0)^^^((pv 1)^^^((pv 2)^^^((pv 3)^^^ad)))))) O) (@af _ _ _ _ _ aT (@af _ _ _ _ _ aT (@ah _ _ _ aT)))),?_⟩;refine bi (λ σ' H'=>False) (λ R hR=>?_) (λ _ _ z=>z.elim);exact ⟨_,O,_,O,_,O,_,O,h.to⟩
theorem screstsR:FnScope ["shop","wide","high","tree","leaves"] ["shop","wide","high","tree"] (defScope cF):=⟨O,O,O,by decide +kernel,O,by decide +kernel,by decide +kernel⟩
theorem ow {f C NP NT:Addr} {fd:G5} (F:Fun K "rests_of" "rests_of" cF f fd) (DC:DnX P w K mg base "check_tree" ["shop","wide","high","thing"] 7 (spRef K C NP NT)):FnOk P w K mg base (CXx P w) 8 f fd ["shop","wide","high","tree"] (spRef K C NP NT):=by
 refine F.okX screstsR (λ vs H Q E h=>?_) (λ cdv A outer s H vs Q E hr h=>?_)
 ·obtain ⟨_,_,_,_,rfl⟩:=h.four
  rfl
 obtain ⟨v1,v2,v3,v4,rfl⟩:=h.four;have nd:=screstsR.nd;refine ⟨_,(@af _ _ _ _ _ (@aX _ _ _ _ (bH (bQ DC hr O ((pv 0)^^^((pv 1)^^^((pv 2)^^^((pv 3)^^^ad)))))) O) (@af _ _ _ _ _ aT (@ah _ _ _ aT))),?_⟩;refine bi (λ σ' H'=>False) (λ R hR=>?_) (λ _ _ z=>z.elim);exact ⟨_,O,_,O,_,O,_,O,h.to⟩
theorem scareasR:FnScope ["shop","wide","high","tree","pieces","rests","margins","x","y","part_wide","part_high","leaf","cells","piece_wide","piece_high"] ["shop","wide","high","tree"] (defScope cT):=⟨O,O,O,by decide +kernel,O,by decide +kernel,by decide +kernel⟩
theorem oz {f C NP NT:Addr} {fd:G5} (F:Fun K "areas_of" "areas_of" cT f fd) (DC:DnX P w K mg base "check_tree" ["shop","wide","high","thing"] 7 (spRef K C NP NT)):FnOk P w K mg base (CXx P w) 8 f fd ["shop","wide","high","tree"] (spRef K C NP NT):=by
 refine F.okX scareasR (λ vs H Q E h=>?_) (λ cdv A outer s H vs Q E hr h=>?_)
 ·obtain ⟨_,_,_,_,rfl⟩:=h.four
  rfl
 obtain ⟨v1,v2,v3,v4,rfl⟩:=h.four;have nd:=scareasR.nd;refine ⟨_,(@af _ _ _ _ _ (@aX _ _ _ _ (bH (bQ DC hr O ((pv 0)^^^((pv 1)^^^((pv 2)^^^((pv 3)^^^ad)))))) O) (@af _ _ _ _ _ aT (@af _ _ _ _ _ aT (@ah _ _ _ aT)))),?_⟩;refine bi (λ σ' H'=>False) (λ R hR=>?_) (λ _ _ z=>z.elim);exact ⟨_,O,_,O,_,O,_,O,h.to⟩
theorem sccountsR:FnScope ["shop","wide","high","tree","pieces","counts","kind","turned","x","y"] ["shop","wide","high","tree"] (defScope bZ):=⟨O,O,O,by decide +kernel,O,by decide +kernel,by decide +kernel⟩
theorem ie {f C NP NT:Addr} {fd:G5} (F:Fun K "counts_of" "counts_of" bZ f fd) (DP:DnX P w K mg base "pieces_of" ["shop","wide","high","tree"] 8 (spRef K C NP NT)):FnOk P w K mg base (CXx P w) 9 f fd ["shop","wide","high","tree"] (spRef K C NP NT):=by
 refine F.okX sccountsR (λ vs H Q E h=>?_) (λ cdv A outer s H vs Q E hr h=>?_)
 ·obtain ⟨_,_,_,_,rfl⟩:=h.four
  rfl
 obtain ⟨v1,v2,v3,v4,rfl⟩:=h.four;have nd:=sccountsR.nd;refine ⟨_,(@af _ _ _ _ _ (@aB _ _ 4 _ _ _ _ nd O (Or.inl O) (bH (bQ DP hr O ((pv 0)^^^((pv 1)^^^((pv 2)^^^((pv 3)^^^ad)))))) O (Or.inl O)) (@af _ _ _ _ _ aT (@af _ _ _ _ _ aT (@ah _ _ _ aT)))),?_⟩;refine bi (λ σ' H'=>False) (λ R hR=>?_) (λ _ _ z=>z.elim);exact ⟨_,O,_,O,_,O,_,O,h.to⟩
theorem scworthR:FnScope ["shop","wide","high","tree","counts"] ["shop","wide","high","tree"] (defScope cG):=⟨O,O,O,by decide +kernel,O,by decide +kernel,by decide +kernel⟩
theorem oA {f C NP NT:Addr} {fd:G5} (F:Fun K "worth_of" "worth_of" cG f fd) (DCo:DnX P w K mg base "counts_of" ["shop","wide","high","tree"] 9 (spRef K C NP NT)):FnOk P w K mg base (CXx P w) 10 f fd ["shop","wide","high","tree"] (spRef K C NP NT):=by
 refine F.okX scworthR (λ vs H Q E h=>?_) (λ cdv A outer s H vs Q E hr h=>?_)
 ·obtain ⟨_,_,_,_,rfl⟩:=h.four
  rfl
 obtain ⟨v1,v2,v3,v4,rfl⟩:=h.four;have nd:=scworthR.nd;refine ⟨_,(@af _ _ _ _ _ (@aB _ _ 4 _ _ _ _ nd O (Or.inl O) (bH (bQ DCo hr O ((pv 0)^^^((pv 1)^^^((pv 2)^^^((pv 3)^^^ad)))))) O (Or.inl O)) (@ah _ _ _ aT)),?_⟩;refine bi (λ σ' H'=>False) (λ R hR=>?_) (λ _ _ z=>z.elim);exact ⟨_,O,_,O,_,O,_,O,h.to⟩
end
section
variable {P:G4} {w:G6} {K:C3} {mg:Str->Option G7} {base:Heap}
theorem FnH.or {k:Nat} {f:Addr} {fd:G5} {ps:List Str} {sp sp':Sp} (a:FnH P w K mg base k f fd ps sp) (b:FnH P w K mg base k f fd ps sp') :
  FnH P w K mg base k f fd ps (λ vs H Q E=>sp vs H Q E\/sp' vs H Q E) :=
 ⟨λ vs H Q E h=>h.elim (a.len vs H Q E) (b.len vs H Q E),λ A outer s H args us vs Q E hr e0 hb r hsp=>hsp.elim (a.run A outer s H args us vs Q E hr e0 hb r) (b.run A outer s H args us vs Q E hr e0 hb r)⟩
theorem vC:bootBuiltins "ValueError" = some (.type "ValueError"):=by decide +kernel
theorem zP {H:Hp} {l ea:Addr} {xs:List V} {c:Addr} (h:H l=some (.lst xs)) (he:H ea=some (.ext (IsA ea (.ref c)))) (x:V):∃H',upd H l (.lst (xs ++ [x]))=H'/\H' l=some (.lst (xs ++ [x]))/\H' ea=some (.ext (IsA ea (.ref c)))/\But l H H' :=
 ⟨_,rfl,ag,by rw [am (λ z=>by rw [z,h] at he; cases he)]; exact he,λ a o n e=>by rw [am n]; exact e⟩
structure Cl (mg:Str->Option Value) (x0 x1 x2 x3 x4 x5 x6 x7 x8 x9 x10 x11 x12:Addr):Prop where
 m0:mg "NoPlate" = some (.ref x0)
 m1:mg "NoTree" = some (.ref x1)
 m2:mg "NoBlade" = some (.ref x2)
 m3:mg "NoKind" = some (.ref x3)
 m4:mg "NoKinds" = some (.ref x4)
 m5:mg "NoLaying" = some (.ref x5)
 m6:mg "NoLying" = some (.ref x6)
 m7:mg "NoNumber" = some (.ref x7)
 m8:mg "NoTable" = some (.ref x8)
 m9:mg "NoTelling" = some (.ref x9)
 m10:mg "NoText" = some (.ref x10)
 m11:mg "NoWeights" = some (.ref x11)
 m12:mg "TooLarge" = some (.ref x12)
 mv:mg "ValueError" = none
structure Ec (K:C3) (CE c x0 x1 x2 x3 x4 x5 x6 x7 x8 x9 x10 x11 x12:Addr) (b1 b2:Bool):Prop where
 F0:ExK K c
 k0:PySem.W.kitOne K (.ref c) (.ref x0)=some b1
 k1:PySem.W.kitOne K (.ref c) (.ref x1)=some b2
 kv:PySem.W.kitOne K (.ref c) (.type "ValueError")=some true
 a1:PySem.W.kitAny K (.ref c) [.ref x2,.ref x3,.ref x4,.ref x5,.ref x6,.ref x7]=some false
 a2:PySem.W.kitAny K (.ref c) [.ref x8,.ref x9,.ref x10,.ref x11,.ref x12]=some false
 xm:PySem.W.exmOne K (.ref c) (.ref CE)=some true
def fG (c:Addr) (ans:List V):Sp:=λ vs H Q _=>∃a,vs=[.ref a]/\H a=some (.ext (IsA a (.ref c)))/\∀ (l:Addr) (H':Hp),H l=none->H' l=some (.lst ans)->Same H H'->Q (.ref l) H'
inductive TrA (C:Addr) (H:Hp):V->V->V->V->Prop
 | mk {pp s:Addr} {b w h:Int} {ks:List Kd} {v:V} {d:PyData} {t:Tr} (th:TrH C pp s b w h ks v d t H) (b0:0<=b) (w60:w<=10 ^ 60) (h60:h<=10 ^ 60) (k8:ks.length<=8) (g:∀k∈ks,Good k):TrA C H (.ref s) (.int w) (.int h) v
inductive spAsk (K:C3) (C NP NT:Addr):List V->Hp->VK->XK->Prop
 | ref {i:Int} {v1 v2 v3 v4:V} {H:Hp} {Q:VK} {E:XK} (i0:0<=i) (i4:i<=4) (r:spRef K C NP NT [v1,v2,v3,v4] H Q E):spAsk K C NP NT [.int i,v1,v2,v3,v4] H Q E
 | told {i:Int} {v1 v2 v3 v4:V} {H:Hp} {Q:VK} {E:XK} (i0:0<=i) (i4:i<=4) (t:TrA C H v1 v2 v3 v4) (q:∀v H',Same H H'->Q v H'):spAsk K C NP NT [.int i,v1,v2,v3,v4] H Q E
 | is {v1 v2 v3 v4:V} {H:Hp} {Q:VK} {E:XK} (t:spIsTree C [v1,v2,v3,v4] H Q E\/ib K NP [v1,v2,v3,v4] H Q E):spAsk K C NP NT [.int 5,v1,v2,v3,v4] H Q E
theorem spAsk.five {C NP NT:Addr} {vs:List V} {H:Hp} {Q:VK} {E:XK} (h:spAsk K C NP NT vs H Q E):∃i b c d e,vs=[.int i,b,c,d,e]/\0<=i/\i<=5:=by
 cases h with
 | ref i0 i4 r=>exact ⟨_,_,_,_,_,O,i0,by omega⟩
 | told i0 i4 r=>exact ⟨_,_,_,_,_,O,i0,by omega⟩
 | is t=>exact ⟨_,_,_,_,_,O,by decide,by decide⟩
inductive Why (K:C3) (C:Addr) (H:Hp):Int->V->V->V->V->List V->Prop
 | pl {i:Int} {s:Addr} {wv hv v:V} (i0:0<=i) (i5:i<=5) (b:BadPl K H wv hv):Why K C H i (.ref s) wv hv v [.str "plate"]
 | no {i:Int} {pp s:Addr} {b w h:Int} {ks:List Kd} {v:V} {d:PyData} (i0:0<=i) (i4:i<=4) (sh:ShopAt C H s b ks) (w1:1<=w) (h1:1<=h) (dt:Dt pp H v d) (wd:wt d<=30000) (no:isT b ks w h d=false):Why K C H i (.ref s) (.int w) (.int h) v [.str "tree"]
 | is {pp s:Addr} {b w h:Int} {ks:List Kd} {v:V} {d:PyData} (sh:ShopAt C H s b ks) (w1:1<=w) (h1:1<=h) (dt:Dt pp H v d) (wd:wt d<=30000):Why K C H 5 (.ref s) (.int w) (.int h) v []
 | told {i:Int} {v1 v2 v3 v4:V} (i0:0<=i) (i4:i<=4) (t:TrA C H v1 v2 v3 v4):Why K C H i v1 v2 v3 v4 []
inductive spWhy (K:C3) (C:Addr) (vs:List V) (H:Hp) (Q:VK) (E_:XK):Prop
 | mk (i:Int) (v1 v2 v3 v4:V) (ans:List V) (e_1:vs=[.int i,v1,v2,v3,v4]) (e_2:Why K C H i v1 v2 v3 v4 ans) (e_3:∀ (l:Addr) (H':Hp),H l=none->H' l=some (.lst ans)->Same H H'->Q (.ref l) H'):spWhy K C vs H Q E_
theorem scwhich:FnScope ["_law_e","_law_found"] ["_law_e"] (defScope jt):=⟨O,O,O,by decide +kernel,O,by decide +kernel,by decide +kernel⟩
theorem kr {f c CE x0 x1 x2 x3 x4 x5 x6 x7 x8 x9 x10 x11 x12:Addr} {b1 b2:Bool} {ans:List V} {fd:G5} (F:Fun K "_law_which" "_law_which" jt f fd) (B:Blt mg) (Z:Cl mg x0 x1 x2 x3 x4 x5 x6 x7 x8 x9 x10 x11 x12) (Y:Ec K CE c x0 x1 x2 x3 x4 x5 x6 x7 x8 x9 x10 x11 x12 b1 b2) (hb:(b1=true/\b2=false/\ans=[.str "plate"])\/(b1=false/\b2=true/\ans=[.str "tree"])):FnH P w K mg base 1 f fd ["_law_e"] (fG c ans):=by
 refine vj F scwhich (λ vs H Q E h=>?_) (λ cdv A outer s H vs Q E hr h=>?_)
 ·obtain ⟨a,rfl,_⟩:=h
  rfl
 obtain ⟨a,rfl,ha,q⟩:=h;have nd:=scwhich.nd;refine ⟨_,(@af _ _ _ _ _ (@aB _ _ 1 _ _ _ _ nd O (Or.inl O) (@aM _ _ _ _ ad) O (Or.inl O)) (@af _ _ _ _ _ (@aG _ _ _ _ _ _ _ _ (@aI _ _ _ (@ay _ _ _ _ _ _ _ _ _ (dk Y.F0) O B.isi PyProof.Rows.boot_isinstance ((pv 0)^^^((aO (v:=.ref x0) O Z.m0 O)^^^ad)) (by decide) (by decide) O O) (by intro _; rfl)) (@ah _ _ _ (@aX _ _ _ _ (@cJ _ _ _ _ _ _ _ _ _ _ _ _ G2 PySem.F.slot_list_append PySem.F.type_list_append bC (pv 1) (aJ^^^ad) O O O O O) O)) ar) (@af _ _ _ _ _ (@aG _ _ _ _ _ _ _ _ (@aI _ _ _ (@ay _ _ _ _ _ _ _ _ _ (dk Y.F0) O B.isi PyProof.Rows.boot_isinstance ((pv 0)^^^((aO (v:=.ref x1) O Z.m1 O)^^^ad)) (by decide) (by decide) O O) (by intro _; rfl)) (@ah _ _ _ (@aX _ _ _ _ (@cJ _ _ _ _ _ _ _ _ _ _ _ _ G2 PySem.F.slot_list_append PySem.F.type_list_append bC (pv 1) (aJ^^^ad) O O O O O) O)) ar) (@af _ _ _ _ _ (@aG _ _ _ _ _ _ _ _ (PW.pt (br (@aI _ _ _ (@ay _ _ _ _ _ _ _ _ _ (eJ Y.F0) O B.isi PyProof.Rows.boot_isinstance ((pv 0)^^^((@az _ _ _ _ _ ((aO (v:=.ref x2) O Z.m2 O)^^^((aO (v:=.ref x3) O Z.m3 O)^^^((aO (v:=.ref x4) O Z.m4 O)^^^((aO (v:=.ref x5) O Z.m5 O)^^^((aO (v:=.ref x6) O Z.m6 O)^^^((aO (v:=.ref x7) O Z.m7 O)^^^ad)))))))^^^ad)) (by decide) (by decide) O O) (by intro _; rfl)) (bz (@aS _ _ _ _ (@aI _ _ _ (@ay _ _ _ _ _ _ _ _ _ (dk Y.F0) O B.isi PyProof.Rows.boot_isinstance ((pv 0)^^^((bo (v:=.ty "ValueError") O Z.mv vC O)^^^ad)) (by decide) (by decide) O O) (by intro _; rfl)))))) (@ah _ _ _ (@aX _ _ _ _ (@cJ _ _ _ _ _ _ _ _ _ _ _ _ G2 PySem.F.slot_list_append PySem.F.type_list_append bC (pv 1) (aJ^^^ad) O O O O O) O)) ar) (@af _ _ _ _ _ (@aG _ _ _ _ _ _ _ _ (@aI _ _ _ (@ay _ _ _ _ _ _ _ _ _ (eJ Y.F0) O B.isi PyProof.Rows.boot_isinstance ((pv 0)^^^((@az _ _ _ _ _ ((aO (v:=.ref x8) O Z.m8 O)^^^((aO (v:=.ref x9) O Z.m9 O)^^^((aO (v:=.ref x10) O Z.m10 O)^^^((aO (v:=.ref x11) O Z.m11 O)^^^((aO (v:=.ref x12) O Z.m12 O)^^^ad))))))^^^ad)) (by decide) (by decide) O O) (by intro _; rfl)) (@ah _ _ _ (@aX _ _ _ _ (@cJ _ _ _ _ _ _ _ _ _ _ _ _ G2 PySem.F.slot_list_append PySem.F.type_list_append bC (pv 1) (aJ^^^ad) O O O O O) O)) ar) (@ah _ _ _ (@aq _ _ _ _ (pv 1)))))))),?_⟩;refine aH (λ R=>∀l (H':Hp),H l=none->H' l=some (.lst [])->Same H H'->R [some (.ref a),some (.ref l)] H') (λ Dd hR=>?_) ?_
 ·exact ⟨by decide,λ l hl=>hR l _ hl ag (G8 hl)⟩
 rintro l H1 hl k1 s1;have ha1:=s1 _ _ ha;refine aH (λ R=>∀ (H':Hp), H' l=some (.lst (if b1=true then [.str "plate"] else []))->H' a=some (.ext (IsA a (.ref c)))->But l H1 H'->R [some (.ref a), some (.ref l)] H') (λ Dd hR=>?_) ?_
 ·refine ⟨_,O,a,_,_,_,O,ha1,O,Y.k0,_,O,?_⟩;cases b1 with
  | false=>exact aA (hR _ k1 ha1 But.refl)
  | true =>
   obtain ⟨Hn,en,kn,kne,bn⟩:=zP k1 ha1 (.str "plate");refine aF ⟨_,rfl,.inl ⟨rfl,_,IV k1⟩,l,_,_,rfl,rfl,k1,(by show 0 < sizeLine; decide),?_⟩;rw [show upd H1 l _=Hn from en];exact hR _ kn kne bn
 rintro H2 k2 ha2 bt2;have ln:(if b1=true then [V.str "plate"] else []).length<=1:=by cases b1 <;> decide
 have z3:100<=sizeLine:=by decide
 refine aH (λ R=>∀ (H':Hp), H' l=some (.lst ((if b1=true then [.str "plate"] else []) ++ (if b2=true then [.str "tree"] else [])))->H' a=some (.ext (IsA a (.ref c)))->But l H2 H'->R [some (.ref a), some (.ref l)] H') (λ Dd hR=>?_) ?_
 ·refine ⟨_,O,a,_,_,_,O,ha2,O,Y.k1,_,O,?_⟩;cases b2 with
  | false=>exact aA (hR _ (by rw [show (if false=true then [V.str "tree"] else [])=([]:List V) from rfl,List.append_nil]; exact k2) ha2 But.refl)
  | true =>
   obtain ⟨Hn,en,kn,kne,bn⟩:=zP k2 ha2 (.str "tree");refine aF ⟨_,rfl,.inl ⟨rfl,_,IV k2⟩,l,_,_,rfl,rfl,k2,(by omega),?_⟩;rw [show upd H2 l _=Hn from en];exact hR _ kn kne bn
 rintro H3 k3 ha3 bt3;have an:((if b1=true then [V.str "plate"] else []) ++ (if b2=true then [V.str "tree"] else []))=ans:=by rcases hb with ⟨rfl,rfl,rfl⟩ | ⟨rfl,rfl,rfl⟩ <;> rfl
 rw [an] at k3;refine ⟨_,O,zS6,λ t ht=>?_⟩;obtain ⟨H4,e4,k4,s4⟩:∃H',upd H3 t (.tup [.ref x2,.ref x3,.ref x4,.ref x5,.ref x6,.ref x7])=H'/\H' t=some (.tup [.ref x2,.ref x3,.ref x4,.ref x5,.ref x6,.ref x7])/\Same H3 H':=⟨_,O,ag,G8 ht⟩
 rw [show upd H3 t _=H4 from e4]; clear e4;refine ⟨a,t,_,_,_,O,s4 _ _ ha3,k4,O,Y.a1,_,O,aA ?_⟩;refine ⟨_,O,a,_,_,_,O,s4 _ _ ha3,O,Y.kv,_,O,aA ?_⟩;refine ⟨_,O,zS5,λ u hu=>?_⟩;obtain ⟨H5,e5,k5,s5⟩:∃H',upd H4 u (.tup [.ref x8,.ref x9,.ref x10,.ref x11,.ref x12])=H'/\H' u=some (.tup [.ref x8,.ref x9,.ref x10,.ref x11,.ref x12])/\Same H4 H':=⟨_,O,ag,G8 hu⟩
 rw [show upd H4 u _=H5 from e5]; clear e5;refine ⟨a,u,_,_,_,O,s5 _ _ (s4 _ _ ha3),k5,O,Y.a2,_,O,aA ?_⟩;exact ⟨_,O,q l H5 hl (s5 _ _ (s4 _ _ k3)) λ c o e=>s5 _ _ (s4 _ _ (bt3 _ _ (ap e hl) (bt2 _ _ (ap e hl) (s1 _ _ e))))⟩
theorem zQ {C pp s:Addr} {b w h:Int} {ks:List Kd} {v:V} {d:PyData} {t:Tr} {H:Hp} {Q:VK} {E:XK} (th:TrH C pp s b w h ks v d t H) (b0:0<=b) (w60:w<=10 ^ 60) (h60:h<=10 ^ 60) (k8:ks.length<=8) (g:∀k∈ks,Good k) (q:∀v H',Same H H'->Q v H'):spPieces C [.ref s,.int w,.int h,v] H Q E:=⟨_,_,_,_,_,_,_,_,_,O,th,by intros; apply q; assumption⟩
theorem zR {C pp s:Addr} {b w h:Int} {ks:List Kd} {v:V} {d:PyData} {t:Tr} {H:Hp} {Q:VK} {E:XK} (th:TrH C pp s b w h ks v d t H) (b0:0<=b) (w60:w<=10 ^ 60) (h60:h<=10 ^ 60) (k8:ks.length<=8) (g:∀k∈ks,Good k) (q:∀v H',Same H H'->Q v H'):spRests C [.ref s,.int w,.int h,v] H Q E:=⟨_,_,_,_,_,_,_,_,_,O,th,by intros; apply q; assumption⟩
theorem zS {C pp s:Addr} {b w h:Int} {ks:List Kd} {v:V} {d:PyData} {t:Tr} {H:Hp} {Q:VK} {E:XK} (th:TrH C pp s b w h ks v d t H) (b0:0<=b) (w60:w<=10 ^ 60) (h60:h<=10 ^ 60) (k8:ks.length<=8) (g:∀k∈ks,Good k) (q:∀v H',Same H H'->Q v H'):spCountsO C [.ref s,.int w,.int h,v] H Q E:=⟨_,_,_,_,_,_,_,_,_,O,th,k8,by intros; apply q; assumption⟩
theorem zT {C pp s:Addr} {b w h:Int} {ks:List Kd} {v:V} {d:PyData} {t:Tr} {H:Hp} {Q:VK} {E:XK} (th:TrH C pp s b w h ks v d t H) (b0:0<=b) (w60:w<=10 ^ 60) (h60:h<=10 ^ 60) (k8:ks.length<=8) (g:∀k∈ks,Good k) (q:∀v H',Same H H'->Q v H'):spWorthO C [.ref s,.int w,.int h,v] H Q E:=⟨_,_,_,_,_,_,_,_,_,O,th,k8,g,by intros; apply q; assumption⟩
theorem zU {C pp s:Addr} {b w h:Int} {ks:List Kd} {v:V} {d:PyData} {t:Tr} {H:Hp} {Q:VK} {E:XK} (th:TrH C pp s b w h ks v d t H) (b0:0<=b) (w60:w<=10 ^ 60) (h60:h<=10 ^ 60) (k8:ks.length<=8) (g:∀k∈ks,Good k) (q:∀v H',Same H H'->Q v H'):spAreas C [.ref s,.int w,.int h,v] H Q E:=⟨_,_,_,_,_,_,_,_,_,O,th,b0,w60,h60,g,by intros; apply q; assumption⟩
theorem scasked:FnScope ["_law_what","_law_shop_here","_law_wide","_law_high","_law_tree_here"] ["_law_what","_law_shop_here","_law_wide","_law_high","_law_tree_here"] (defScope ju):=⟨O,O,O,by decide +kernel,O,by decide +kernel,by decide +kernel⟩
theorem rg {f C NP NT:Addr} {fd:G5} (F:Fun K "_law_asked" "_law_asked" ju f fd) (DP:DnX P w K mg base "pieces_of" ["shop","wide","high","tree"] 8 (λ vs H Q E=>spPieces C vs H Q E\/spRef K C NP NT vs H Q E)) (DR:DnX P w K mg base "rests_of" ["shop","wide","high","tree"] 8 (λ vs H Q E=>spRests C vs H Q E\/spRef K C NP NT vs H Q E)) (DCo:DnX P w K mg base "counts_of" ["shop","wide","high","tree"] 9 (λ vs H Q E=>spCountsO C vs H Q E\/spRef K C NP NT vs H Q E)) (DWo:DnX P w K mg base "worth_of" ["shop","wide","high","tree"] 10 (λ vs H Q E=>spWorthO C vs H Q E\/spRef K C NP NT vs H Q E)) (DAr:DnX P w K mg base "areas_of" ["shop","wide","high","tree"] 8 (λ vs H Q E=>spAreas C vs H Q E\/spRef K C NP NT vs H Q E)) (DI:DnX P w K mg base "is_tree" ["shop","wide","high","thing"] 6 (λ vs H Q E=>spIsTree C vs H Q E\/ib K NP vs H Q E)):FnOk P w K mg base (CXx P w) 11 f fd ["_law_what","_law_shop_here","_law_wide","_law_high","_law_tree_here"] (spAsk K C NP NT):=by
 refine F.okX scasked (λ vs H Q E h=>?_) (λ cdv A outer s H vs Q E hr h=>?_)
 ·obtain ⟨_,_,_,_,_,rfl,_⟩:=h.five
  rfl
 obtain ⟨i,v1,v2,v3,v4,rfl,i0,i5⟩:=h.five;have nd:=scasked.nd;refine ⟨_,(@af _ _ _ _ _ (@aG _ _ _ _ _ _ _ _ (@aw _ _ _ _ _ _ _ _ bf (pv 0) ae (av _)) (@ah _ _ _ (@aq _ _ _ _ (bH (bQ DP (hr.mono (by decide)) O ((pv 1)^^^((pv 2)^^^((pv 3)^^^((pv 4)^^^ad)))))))) ar) (@af _ _ _ _ _ (@aG _ _ _ _ _ _ _ _ (@aw _ _ _ _ _ _ _ _ bf (pv 0) ae (av _)) (@ah _ _ _ (@aq _ _ _ _ (bH (bQ DR (hr.mono (by decide)) O ((pv 1)^^^((pv 2)^^^((pv 3)^^^((pv 4)^^^ad)))))))) ar) (@af _ _ _ _ _ (@aG _ _ _ _ _ _ _ _ (@aw _ _ _ _ _ _ _ _ bf (pv 0) ae (av _)) (@ah _ _ _ (@aq _ _ _ _ (bH (bQ DCo (hr.mono (by decide)) O ((pv 1)^^^((pv 2)^^^((pv 3)^^^((pv 4)^^^ad)))))))) ar) (@af _ _ _ _ _ (@aG _ _ _ _ _ _ _ _ (@aw _ _ _ _ _ _ _ _ bf (pv 0) ae (av _)) (@ah _ _ _ (@aq _ _ _ _ (bH (bQ DWo (hr.mono (by decide)) O ((pv 1)^^^((pv 2)^^^((pv 3)^^^((pv 4)^^^ad)))))))) ar) (@af _ _ _ _ _ (@aG _ _ _ _ _ _ _ _ (@aw _ _ _ _ _ _ _ _ bf (pv 0) ae (av _)) (@ah _ _ _ (@aq _ _ _ _ (bH (bQ DAr (hr.mono (by decide)) O ((pv 1)^^^((pv 2)^^^((pv 3)^^^((pv 4)^^^ad)))))))) ar) (@ah _ _ _ (@aq _ _ _ _ (bH (bQ DI (hr.mono (by decide)) O ((pv 1)^^^((pv 2)^^^((pv 3)^^^((pv 4)^^^ad))))))))))))),?_⟩;rcases (by omega:i=0\/i=1\/i=2\/i=3\/i=4\/i=5) with rfl | rfl | rfl | rfl | rfl | rfl
 ·refine ⟨_,O,O,_,O,aF ⟨_,O,_,O,_,O,_,O,?_⟩⟩;cases h with
  | ref _ _ r=>exact .inr r.to
  | told _ _ t q =>
   cases t with
   | mk th b0 w60 h60 k8 g=>exact .inl (zQ th b0 w60 h60 k8 g q)
 ·refine ⟨_,O,O,_,O,aA ⟨_,O,O,_,O,aF ⟨_,O,_,O,_,O,_,O,?_⟩⟩⟩;cases h with
  | ref _ _ r=>exact .inr r.to
  | told _ _ t q =>
   cases t with
   | mk th b0 w60 h60 k8 g=>exact .inl (zR th b0 w60 h60 k8 g q)
 ·refine ⟨_,O,O,_,O,aA ⟨_,O,O,_,O,aA ⟨_,O,O,_,O,aF ⟨_,O,_,O,_,O,_,O,?_⟩⟩⟩⟩;cases h with
  | ref _ _ r=>exact .inr r.to
  | told _ _ t q =>
   cases t with
   | mk th b0 w60 h60 k8 g=>exact .inl (zS th b0 w60 h60 k8 g q)
 ·refine ⟨_,O,O,_,O,aA ⟨_,O,O,_,O,aA ⟨_,O,O,_,O,aA ⟨_,O,O,_,O,aF ⟨_,O,_,O,_,O,_,O,?_⟩⟩⟩⟩⟩;cases h with
  | ref _ _ r=>exact .inr r.to
  | told _ _ t q =>
   cases t with
   | mk th b0 w60 h60 k8 g=>exact .inl (zT th b0 w60 h60 k8 g q)
 ·refine ⟨_,O,O,_,O,aA ⟨_,O,O,_,O,aA ⟨_,O,O,_,O,aA ⟨_,O,O,_,O,aA ⟨_,O,O,_,O,aF ⟨_,O,_,O,_,O,_,O,?_⟩⟩⟩⟩⟩⟩;cases h with
  | ref _ _ r=>exact .inr r.to
  | told _ _ t q =>
   cases t with
   | mk th b0 w60 h60 k8 g=>exact .inl (zU th b0 w60 h60 k8 g q)
 ·refine ⟨_,O,O,_,O,aA ⟨_,O,O,_,O,aA ⟨_,O,O,_,O,aA ⟨_,O,O,_,O,aA ⟨_,O,O,_,O,aA ⟨_,O,_,O,_,O,_,O,?_⟩⟩⟩⟩⟩⟩;cases h with
  | ref _ z r=>exact absurd z (by decide)
  | told _ z t q=>exact absurd z (by decide)
  | is t=>exact t
theorem scwhy:FnScope ["_law_what","_law_shop_here","_law_wide","_law_high","_law_tree_here","_law_e"] ["_law_what","_law_shop_here","_law_wide","_law_high","_law_tree_here"] (defScope sQ):=⟨O,O,O,by decide +kernel,O,by decide +kernel,by decide +kernel⟩
theorem vD {f C CE x0 x1 x2 x3 x4 x5 x6 x7 x8 x9 x10 x11 x12:Addr} {fd:G5} (F:Fun K "_law_why" "_law_why" sQ f fd) (Y0:Ec K CE x0 x0 x1 x2 x3 x4 x5 x6 x7 x8 x9 x10 x11 x12 true false) (Y1:Ec K CE x1 x0 x1 x2 x3 x4 x5 x6 x7 x8 x9 x10 x11 x12 false true) (mp:mg "PlateError" = some (.ref CE)) (DW:DnH P w K mg base "_law_which" ["_law_e"] 1 (λ vs H Q E=>fG x0 [.str "plate"] vs H Q E\/fG x1 [.str "tree"] vs H Q E)) (DA:DnX P w K mg base "_law_asked" ["_law_what","_law_shop_here","_law_wide","_law_high","_law_tree_here"] 11 (spAsk K C x0 x1)):FnOk P w K mg base CX0 12 f fd ["_law_what","_law_shop_here","_law_wide","_law_high","_law_tree_here"] (spWhy K C):=by
 refine F.ok scwhy (λ vs H Q E h=>?_) (λ cdv A outer s0 H vs Q E hr h=>?_)
 ·obtain ⟨i,v1,v2,v3,v4,ans,rfl,_⟩:=h
  rfl
 obtain ⟨i,v1,v2,v3,v4,ans,rfl,h,q⟩:=h;have nd:=scwhy.nd;have hr1:=hr.mono (show 1<=11 by decide);refine ⟨_,(@af _ _ _ _ _ (sI (i:=5) O O O (qv (bQ DA hr O ((pv 0)^^^((pv 1)^^^((pv 2)^^^((pv 3)^^^((pv 4)^^^ad))))))) nd O O O mp (λ ea=>(@ah _ _ _ (@aq _ _ _ _ (zD DW (hr1.h _) O ((pv 5)^^^ad)))))) (@ah _ _ _ (@aq _ _ _ _ (@aM _ _ _ _ ad)))),?_⟩;refine ⟨_,O,_,O,_,O,_,O,_,O,?_⟩;dsimp only [jG];cases h with
 | @pl _ s wv hv v i0 i5 b =>
  by_cases c4:i<=4
  ·refine .ref i0 c4 (.pl b ⟨Y0.xm,λ ea hea=>?_⟩);exact ⟨_,O,.inl ⟨ea,O,ag,λ l H' hl kl s'=>q l H' ((G8 hea).free hl) kl ((G8 hea).trans s')⟩⟩
  ·have e5:i=5:=by omega
   subst e5;refine .is (.inr ⟨_,_,_,_,O,b,Y0.xm,λ ea hea=>?_⟩);exact ⟨_,O,.inl ⟨ea,O,ag,λ l H' hl kl s'=>q l H' ((G8 hea).free hl) kl ((G8 hea).trans s')⟩⟩
 | no i0 i4 sh w1 h1 dt wd no =>
  refine .ref i0 i4 (.tr sh w1 h1 dt wd no λ H1 s1=>⟨Y1.xm,λ ea hea=>?_⟩);exact ⟨_,O,.inr ⟨ea,O,ag,λ l H' hl kl s'=>q l H' ((s1.trans (G8 hea)).free hl) kl ((s1.trans (G8 hea)).trans s')⟩⟩
 | is sh w1 h1 dt wd =>
  exact .is (.inl ⟨_,_,_,_,_,_,_,_,O,sh,w1,h1,dt,wd,λ H1 s1=>⟨by decide,λ l hl=>q l _ (s1.free hl) ag (s1.trans (G8 hl))⟩⟩)
 | told i0 i4 t =>
  exact .told i0 i4 t λ v H1 s1=>⟨by decide,λ l hl=>q l _ (s1.free hl) ag (s1.trans (G8 hl))⟩
end
theorem zV {ks:List Kd} {w h:Int} {r:List PyData} (e:pcD ks w h r=true):∃ (n:Nat) (c:Bool) (x y:Int) (k:Kd),r=[.int n,.bool c,.int x,.int y]/\ks[n]? = some k/\c∈bK k/\0<=x/\0<=y/\x + sd1 k c<=w/\y + sd2 k c<=h:=by
 unfold pcD at e
 split at e
 ·unfold eH at e
  split at e
  ·rename_i i c x y
   unfold bN at e;rw [Bool.and_eq_true,Bool.and_eq_true,Bool.and_eq_true] at e;obtain ⟨⟨⟨l,hx⟩,hy⟩,m⟩:=e;obtain ⟨i',c',k',e1,e2,i0,hk⟩:=fT l;cases e1;cases e2;simp only [hk] at m;rw [Bool.and_eq_true] at m;refine ⟨i.toNat,c,x,y,k',by rw [Int.toNat_of_nonneg i0],hk,?_,B9 hx,B9 hy,B9 m.1,B9 m.2⟩;have l':(decide (0<=i) && match ks[i.toNat]? with | some k=>(!c || be k) | none=>false)=true:=l;rw [hk,Bool.and_eq_true] at l';have l2:(!c || be k')=true:=l'.2;unfold bK;cases c with
   | false=>split <;> simp
   | true=>rw [show be k'=true from l2]; simp
  ·cases e
 ·cases e
theorem ig {b:Int} {ks:List Kd}:∀ (n:Nat) (d:PyData) (w h:Int),wt d<=n->isT b ks w h d=true->∃t,TrD t d/\okT b ks w h t
 | 0,d,_,_,hn,_=>absurd (mX d) (by omega)
 | n + 1,d,w,h,hn,e=>by
  cases er:aQ d with
  | none=>rw [ci (λ y r z=>by rw [er] at z; cases z)] at e; cases e
  | some ds =>
   cases ds with
   | nil=>rw [ci (λ y r z=>by rw [er] at z; cases z)] at e; cases e
   | cons x r =>
    have hw:=dZ er;cases x with
    | str y =>
     by_cases hy:∃dn:Bool,y=(if dn=true then Str.ofString "down" else Str.ofString "across")
     ·obtain ⟨dn,rfl⟩:=hy;rw [dF er] at e
      split at e
      ·rename_i p l r' er
       rw [Bool.and_eq_true] at e;have hw1:wt d=wt (.str (if dn=true then "down" else "across")) + (1 + (wt l + (wt r' + 0))) + 1:=hw;cases dn with
       | true =>
        have e2:(decide (p + b < w) && (isT b ks p h l && isT b ks (w - p - b) h r'))=true:=e.2;rw [Bool.and_eq_true,Bool.and_eq_true] at e2;obtain ⟨tl,h1,h2⟩:=ig n l _ _ (by omega) e2.2.1;obtain ⟨tr,h3,h4⟩:=ig n r' _ _ (by omega) e2.2.2;exact ⟨.cut true p tl tr,⟨_,_,er,h1,h3⟩,B9 e.1,B9 e2.1,h2,h4⟩
       | false =>
        have e2:(decide (p + b < h) && (isT b ks w p l && isT b ks w (h - p - b) r'))=true:=e.2;rw [Bool.and_eq_true,Bool.and_eq_true] at e2;obtain ⟨tl,h1,h2⟩:=ig n l _ _ (by omega) e2.2.1;obtain ⟨tr,h3,h4⟩:=ig n r' _ _ (by omega) e2.2.2;exact ⟨.cut false p tl tr,⟨_,_,er,h1,h3⟩,B9 e.1,B9 e2.1,h2,h4⟩
      ·cases e
     ·rw [bI er (decide_eq_false λ z=>hy ⟨true,z⟩) (decide_eq_false λ z=>hy ⟨false,z⟩)] at e
      by_cases hr:y = "rest"
      ·rw [decide_eq_true hr,if_pos rfl] at e;have e1:=B9 e;cases r with
       | nil=>subst hr; exact ⟨.rest,er,trivial⟩
       | cons _ _=>simp at e1
      ·rw [decide_eq_false hr,if_neg Bool.false_ne_true] at e
       by_cases hp:y = "piece"
       ·rw [decide_eq_true hp,if_pos rfl] at e;obtain ⟨i,c,x,y',k,rfl,hk,hc,x0,y0,hx,hy'⟩:=zV e;subst hp;exact ⟨.piece i c x y',er,k,hk,hc,x0,y0,hx,hy'⟩
       ·rw [decide_eq_false hp,if_neg Bool.false_ne_true] at e; cases e
    | _=>rw [ci (λ y r z=>by rw [er] at z; cases z)] at e; cases e
theorem ii {d:PyData} {ds:List PyData} (h:aQ d=some ds):rwN d=bv ds + 1:=by
 cases d <;> simp only [aQ,Option.some.injEq,reduceCtorEq] at h
 ·subst h; rw [rwN]
 ·subst h; rw [rwN]
theorem TrD.rows:∀ (t:Tr) (d:PyData),TrD t d->lvN t<=rwN d
 | .rest,d,e=>by rw [ii (show aQ d=some [.str "rest"] from e)];show 1<=bv _ + 1;omega
 | .piece i c x y,d,e=>by rw [ii (show aQ d=some [.str "piece",.int i,.bool c,.int x,.int y] from e)];show 1<=bv _ + 1;omega
 | .cut dn p l r,d,⟨dl,dr,e,tl,tr⟩=>by have h1:=TrD.rows l dl tl;have h2:=TrD.rows r dr tr;rw [ii e,lvN];show lvN l + lvN r<=0 + (0 + (rwN dl + (rwN dr + 0))) + 1;omega
theorem ij:∀t:Tr,rwN (toD t) + 1=2 * lvN t
 | .rest=>rfl
 | .piece .. => rfl
 | .cut dn p l r=>by have h1:=ij l;have h2:=ij r;show 0 + (0 + (rwN (toD l) + (rwN (toD r) + 0))) + 1 + 1=2 * (lvN l + lvN r);omega
mutual
theorem kx:∀d:PyData,rwN (lsD d)=rwN d
 | .tuple ds=>by rw [lsD,rwN,rwN,iP ds]
 | .none=>rfl
 | .bool _=>rfl
 | .int _=>rfl
 | .str _=>rfl
 | .list _=>rfl
 | .dict _=>rfl
theorem iP:∀ds:List PyData,bv (dG ds)=bv ds
 | []=>rfl
 | d :: r=>by rw [dG,bv,bv,kx d,iP r]
end
theorem tL:∀t:Tr,∃es,toD t=.tuple es
 | .rest=>⟨_,O⟩
 | .piece .. => ⟨_,O⟩
 | .cut .. => ⟨_,O⟩
def noSd:PyData->Bool
 | .int i=>decide (i < 1)
 | _=>true
theorem Dt.noSd {p:Addr} {H:Hp} {v:V} {d:PyData} (h:Dt p H v d) (e:noSd d=true):aK v 1=false:=by
 cases h with
 | int i =>
  have:=B9 (show decide (i < 1)=true from e);exact B0 (by omega)
 | _=>rfl
theorem Dts.pick {p l:Addr} {xs:List V} {ds:List PyData} {H H':Hp} (hl:H l=some (.lst xs)) (hd:Dts p H xs ds) (ne:l≠p) (pt:PotAt H p) (b:But p H H') {z:Int} (z0:0<=z) (z1:z < xs.length):∃x d,H' l=some (.lst xs)/\atI xs z=some x/\Dt p H' x d/\d∈ds:=by obtain ⟨x,hx,hm⟩:=lq (xs:=xs) z0 (by omega);obtain ⟨j,hj⟩:=List.mem_iff_getElem?.mp hm;obtain ⟨d,e,h2⟩:=hd.get hj;exact ⟨x,d,b _ _ ne hl,hx,h2.but (bu pt) b,B4 e⟩
def NoT (d:PyData):Prop:=∀ (b:Int) (ks:List Kd) (w h:Int),ks.length<=8->isT b ks w h d=false
theorem lH {r:List PyData} (hr:∀ (ks:List Kd) (w h:Int),ks.length<=8->pcD ks w h r=false):NoT (.tuple (.str "piece" :: r)):=λ b ks w h k8=>by rw [bI (y := "piece") (r:=r) rfl (by decide +kernel) (by decide +kernel),if_neg (by decide +kernel),if_pos (by decide +kernel),hr ks w h k8]
theorem vE {d:PyData} (hd:∀y r,aQ d≠some (.str y :: r)):NoT d:=λ _ _ _ _ _=>ci hd
theorem rh:NoT (.tuple [.str "piece",.int 9,.bool false,.int 0,.int 0]):=lH λ ks w h k8=>by
 show bN ks w h (.int 9) (.bl false) (.int 0) (.int 0)=false;have e:ks[(9:Int).toNat]? = none:=C5 (by show ks.length<=9; omega);have l:ce ks (.int 9) (.bl false)=false:=by show (decide ((0:Int)<=9) && match ks[(9:Int).toNat]? with | some k=>(!false || be k) | none=>false)=false;rw [e]; rfl
 unfold bN;rw [l]; rfl
theorem tM:NoT (.tuple [.str "piece",.int (-1),.bool false,.int 0,.int 0]):=lH λ ks w h k8=>rfl
theorem tN:NoT (.tuple [.str "piece",.int 0,.bool false,.int 0]):=lH λ ks w h k8=>rfl
theorem oB:NoT (.tuple [.str "rest",.str "rest"]):=λ b ks w h k8=>by
 rw [bI (y := "rest") (r:=[.str "rest"]) rfl (by decide +kernel) (by decide +kernel),if_pos (by decide +kernel)]
 rfl
theorem rj:NoT (.tuple [.str "Rest"]):=λ b ks w h k8=>by rw [bI (y := "Rest") (r:=[]) rfl (by decide +kernel) (by decide +kernel),if_neg (by decide +kernel),if_neg (by decide +kernel)]
theorem rm {d e:PyData}:NoT (.tuple [.str "down",.int 0,d,e]):=λ b ks w h k8=>by
 rw [dF (dn:=true) (r:=[.int 0,d,e]) rfl]
 rfl
theorem lI {d e:PyData}:NoT (.tuple [.str "across",.bool true,d,e]):=λ b ks w h k8=>by rw [dF (dn:=false) (r:=[.bool true,d,e]) rfl]
mutual
theorem Dt.but2 {p q:Addr} {H H':Hp} (hp:∃xs,H p=some (.lst xs)) (b:But p H H'):∀ {v:V} {d:PyData},Dt p H v d->Dt q H v d->Dt q H' v d
 | _,_,.non,_=>.non
 | _,_,.bl b,_=>.bl b
 | _,_,.int i,_=>.int i
 | _,_,.str z,_=>.str z
 | _,_,.lst n h r,h2=>by
  cases h2 with
  | lst n' h' r' =>
   rw [h] at h';cases h';exact .lst n' (b _ _ n h) (r.but2 hp b r')
 | _,_,.tup h r,h2=>by
  cases h2 with
  | tup h' r' =>
   rw [h] at h';cases h';exact .tup (b _ _ (λ z=>by obtain ⟨_,e⟩:=hp; rw [z,e] at h; cases h) h) (r.but2 hp b r')
 | _,_,.emp h,_=>.emp (b _ _ (λ z=>by obtain ⟨_,e⟩:=hp; rw [z,e] at h; cases h) h)
theorem Dts.but2 {p q:Addr} {H H':Hp} (hp:∃xs,H p=some (.lst xs)) (b:But p H H'):∀ {vs:List V} {ds:List PyData},Dts p H vs ds->Dts q H vs ds->Dts q H' vs ds
 | _,_,.nil,_=>.nil
 | _,_,.cons a r,h2=>by
  cases h2 with
  | cons a' r'=>exact .cons (a.but2 hp b a') (r.but2 hp b r')
end
section
variable {P:G4} {w:G6} {K:C3} {mg:Str->Option G7} {base:Heap}
inductive spBadS (vs:List V) (H:Hp) (Q:VK) (E_:XK):Prop
 | mk (p:Addr) (e_1:vs=[.ref p]) (e_2:PotAt H p) (e_3:∀v d H',Dt p H' v d->aK v 1=false->PotAt H' p->But p H H'->Q v H'):spBadS vs H Q E_
inductive spBadT (vs:List V) (H:Hp) (Q:VK) (E_:XK):Prop
 | mk (p:Addr) (v:V) (es:List PyData) (e_1:vs=[.ref p,v]) (e_2:Dt p H v (.tuple es)) (e_3:wt (.tuple es)<=10000) (e_4:PotAt H p) (e_5:∀v' d' H',Dt p H' v' d'->wt d'<=2 * wt (.tuple es) + 30->NoT d'->PotAt H' p->But p H H'->Q v' H'):spBadT vs H Q E_
theorem scbads:FnScope ["_law_pot_here","_law_some"] ["_law_pot_here"] (defScope fA):=⟨O,O,O,by decide +kernel,O,by decide +kernel,by decide +kernel⟩
theorem tO {f:Addr} {fd:G5} (F:Fun K "_law_bad_side" "_law_bad_side" fA f fd) (B:Blt mg) (DD:Dn P w K mg base "_law_draw" ["_law_pot_here","_law_many"] 1 (bP)):FnOk P w K mg base CX0 2 f fd ["_law_pot_here"] (spBadS):=by
 refine F.ok scbads (λ vs H Q E h=>?_) (λ cdv A outer s H vs Q E hr h=>?_)
 ·obtain ⟨p,rfl,_⟩:=h
  rfl
 obtain ⟨p,rfl,pt,q⟩:=h;have nd:=scbads.nd;refine ⟨_,(@af _ _ _ _ _ (@aB _ _ 1 _ _ _ _ nd O (Or.inl O) (@aM _ _ _ _ (ae^^^((@gH _ _ _ _ _ _ eO ae)^^^((@au _ _ _ _ _ _ _ _ aZ (@gH _ _ _ _ _ _ eO ae) (@ao _ _ _ _ _ _ _ _ _ _ DD hr O ((pv 0)^^^((@au _ _ _ _ _ _ _ _ dh ae ae)^^^ad)) (by decide) O O))^^^(aY^^^(aY^^^(fJ^^^(aJ^^^((@aM _ _ _ _ (ae^^^ad))^^^((@az _ _ _ _ _ ad)^^^(eX^^^ad))))))))))) O (Or.inl O)) (@ah _ _ _ (@aq _ _ _ _ (@ax _ _ _ _ _ _ _ ix_list (pv 1) (@ao _ _ _ _ _ _ _ _ _ _ DD hr O ((pv 0)^^^(ae^^^ad)) (by decide) O O) (λ _ _=>O))))),?_⟩;refine ⟨_,O,_,O,_,O,_,_,O,O,⟨by decide,by decide,by decide⟩,p,_,O,pt,(by show (0:Int) < 10 ^ (59:Int).toNat; decide),(by show (10:Int) ^ (59:Int).toNat<=10 ^ 60; decide),λ r H0 r0 _ pt0 b0=>?_⟩;refine ⟨_,_,O,O,zS1,λ l1 hl1=>?_⟩;obtain ⟨H1,e1,k1,n1,s1,b1,pt1⟩:=bh (o:=.lst [.int 3]) b0 pt0 hl1;rw [show upd H0 l1 _=H1 from e1]; clear e1;refine ⟨zS0,λ t2 ht2=>?_⟩;obtain ⟨H2,e2,k2,n2,s2,b2,pt2⟩:=bh (o:=.tup []) b1 pt1 ht2;rw [show upd H1 t2 _=H2 from e2]; clear e2;refine λ d3 hd3=>?_;obtain ⟨H3,e3,k3,n3,s3,b3,pt3⟩:=bh (o:=.dK []) b2 pt2 hd3;rw [show upd H2 d3 _=H3 from e3]; clear e3;refine ⟨zS10,λ l hl=>?_⟩;refine aH (λ R=>∀ (H':Hp), H' l=some (.lst [.int 0, .int (-1), .int (-1 - r), .bl true, .bl false, .non, .str "3", .ref l1, .ref t2, .ref d3])->l≠p->Dts p H' [.int 0, .int (-1), .int (-1 - r), .bl true, .bl false, .non, .str "3", .ref l1, .ref t2, .ref d3] [.int 0, .int (-1), .int (-1 - r), .bool true, .bool false, .none, .str "3", .list [.int 3], .tuple [], .dict []]->PotAt H' p->But p H H'->R [some (.ref p), some (.ref l)] H') (λ Dd hR=>?_) ?_
 ·skip
  obtain ⟨H4,e4,k4,n4,s4,b4,pt4⟩:=bh (o:=.lst [.int 0,.int (-1),.int (-1 - r),.bl true,.bl false,.non,.str "3",.ref l1,.ref t2,.ref d3]) b3 pt3 hl;rw [show upd H3 l _=H4 from e4]; clear e4;exact hR _ k4 n4 (.cons (.int _) (.cons (.int _) (.cons (.int _) (.cons (.bl _) (.cons (.bl _) (.cons .non (.cons (.str _) (.cons (.lst n1 (s4 _ _ (s3 _ _ (s2 _ _ k1))) (.cons (.int _) .nil)) (.cons (.tup (s4 _ _ (s3 _ _ k2)) .nil) (.cons (.emp (s4 _ _ k3)) .nil)))))))))) pt4 b4
 rintro H5 k5 n5 d5 pt5 b5;refine ⟨_,O,_,O,p,10,O,pt5,by decide,by decide,λ z H6 z0 z1 pt6 b6=>?_⟩;obtain ⟨x,d,h1,h2,h3,h4⟩:=d5.pick k5 n5 pt5 b6 z0 z1;refine ⟨l,_,z,x,O,O,IV h1,h2,q x d H6 h3 (h3.noSd ?_) pt6 (b5.trans b6)⟩;have al:∀d∈([.int 0,.int (-1),.int (-1 - r),.bool true,.bool false,.none,.str "3",.list [.int 3],.tuple [],.dict []]:List PyData),noSd d=true:=by simp only [List.forall_mem_cons,List.forall_mem_nil,noSd];exact ⟨by decide,by decide,A9 (by omega),trivial,trivial,trivial,trivial,trivial,trivial,trivial,λ _ z=>by cases z⟩
 exact al d h4
theorem scbadt:FnScope ["_law_pot_here","_law_tree_here","_law_some"] ["_law_pot_here","_law_tree_here"] (defScope fB):=⟨O,O,O,by decide +kernel,O,by decide +kernel,by decide +kernel⟩
theorem tP {f:Addr} {fd:G5} (F:Fun K "_law_bad_tree" "_law_bad_tree" fB f fd) (B:Blt mg) (DD:Dn P w K mg base "_law_draw" ["_law_pot_here","_law_many"] 1 (bP)):FnOk P w K mg base CX0 2 f fd ["_law_pot_here","_law_tree_here"] (spBadT):=by
 refine F.ok scbadt (λ vs H Q E h=>?_) (λ cdv A outer s H vs Q E hr h=>?_)
 ·obtain ⟨p,v,es,rfl,_⟩:=h
  rfl
 obtain ⟨p,v,es,rfl,hd,wd,pt,q⟩:=h;have nd:=scbadt.nd;refine ⟨_,(@af _ _ _ _ _ (@aB _ _ 2 _ _ _ _ nd O (Or.inl O) (@aM _ _ _ _ (fJ^^^(ae^^^(aJ^^^((@az _ _ _ _ _ ad)^^^((@aM _ _ _ _ ad)^^^(eX^^^((@az _ _ _ _ _ (aJ^^^(aJ^^^ad)))^^^((@az _ _ _ _ _ (aJ^^^ad))^^^((@az _ _ _ _ _ ((pv 1)^^^ad))^^^((@az _ _ _ _ _ (aJ^^^(ae^^^((pv 1)^^^((pv 1)^^^ad)))))^^^((@aM _ _ _ _ ((pv 1)^^^((pv 1)^^^ad)))^^^ad)))))))))))) O (Or.inl O)) (@af _ _ _ _ _ (@aX _ _ _ _ (@cJ _ _ _ _ _ _ _ _ _ _ _ _ G2 PySem.F.slot_list_extend PySem.F.type_list_extend ek (pv 2) ((@aM _ _ _ _ ((@az _ _ _ _ _ (aJ^^^(ae^^^(aY^^^(ae^^^ad)))))^^^((@az _ _ _ _ _ (aJ^^^((@gH _ _ _ _ _ _ eO ae)^^^(aY^^^(ae^^^(ae^^^ad))))))^^^((@az _ _ _ _ _ (aJ^^^(ae^^^(aY^^^(ae^^^(ae^^^ad))))))^^^ad))))^^^ad) O O O O O) O) (@af _ _ _ _ _ (@aX _ _ _ _ (@cJ _ _ _ _ _ _ _ _ _ _ _ _ G2 PySem.F.slot_list_append PySem.F.type_list_append bC (pv 2) ((@az _ _ _ _ _ (aJ^^^(aY^^^((pv 1)^^^((pv 1)^^^ad)))))^^^ad) O O O O O) O) (@ah _ _ _ (@aq _ _ _ _ (@ax _ _ _ _ _ _ _ ix_list (pv 2) (@ao _ _ _ _ _ _ _ _ _ _ DD hr O ((pv 0)^^^(ae^^^ad)) (by decide) O O) (λ _ _=>O))))))),?_⟩;refine ⟨zS0,λ t1 ht1=>?_⟩;obtain ⟨H1,e1,k1,n1,s1,b1,pt1⟩:=bh (o:=.tup []) ((But.refl (p:=p) (H:=H))) pt ht1;rw [show upd H t1 _=H1 from e1]; clear e1;refine ⟨zS0,λ l2 hl2=>?_⟩;obtain ⟨H2,e2,k2,n2,s2,b2,pt2⟩:=bh (o:=.lst []) (b1) pt1 hl2;rw [show upd H1 l2 _=H2 from e2]; clear e2;refine λ d3 hd3=>?_;obtain ⟨H3,e3,k3,n3,s3,b3,pt3⟩:=bh (o:=.dK []) (b2) pt2 hd3;rw [show upd H2 d3 _=H3 from e3]; clear e3;refine ⟨zS2,λ t4 ht4=>?_⟩;obtain ⟨H4,e4,k4,n4,s4,b4,pt4⟩:=bh (o:=.tup [.str "rest",.str "rest"]) (b3) pt3 ht4;rw [show upd H3 t4 _=H4 from e4]; clear e4;refine ⟨zS1,λ t5 ht5=>?_⟩;obtain ⟨H5,e5,k5,n5,s5,b5,pt5⟩:=bh (o:=.tup [.str "Rest"]) (b4) pt4 ht5;rw [show upd H4 t5 _=H5 from e5]; clear e5;refine ⟨_,O,zS1,λ t6 ht6=>?_⟩;obtain ⟨H6,e6,k6,n6,s6,b6,pt6⟩:=bh (o:=.tup [v]) (b5) pt5 ht6;rw [show upd H5 t6 _=H6 from e6]; clear e6;refine ⟨_,O,_,O,zS4,λ t7 ht7=>?_⟩;obtain ⟨H7,e7,k7,n7,s7,b7,pt7⟩:=bh (o:=.tup [.str "down",.int 0,v,v]) (b6) pt6 ht7;rw [show upd H6 t7 _=H7 from e7]; clear e7;refine ⟨_,O,_,O,zS2,λ l8 hl8=>?_⟩;obtain ⟨H8,e8,k8,n8,s8,b8,pt8⟩:=bh (o:=.lst [v,v]) (b7) pt7 hl8;rw [show upd H7 l8 _=H8 from e8]; clear e8;refine ⟨zS11,λ l hl=>?_⟩;have f0:Same H H8:=((((((s1.trans s2).trans s3).trans s4).trans s5).trans s6).trans s7).trans s8;have hv:=hd.same f0;have dd:Dts p H8 [.non,.int 5,.str "rest",.ref t1,.ref l2,.ref d3,.ref t4,.ref t5,.ref t6,.ref t7,.ref l8] [.none,.int 5,.str "rest",.tuple [],.list [],.dict [],.tuple [.str "rest",.str "rest"],.tuple [.str "Rest"],.tuple [.tuple es],.tuple [.str "down",.int 0,.tuple es,.tuple es],.list [.tuple es,.tuple es]]:=by have f7:Same H7 H8:=s8;have f6:Same H6 H8:=s7.trans f7;have f5:Same H5 H8:=s6.trans f6;have f4:Same H4 H8:=s5.trans f5;have f3:Same H3 H8:=s4.trans f4;have f2:Same H2 H8:=s3.trans f3;have f1:Same H1 H8:=s2.trans f2;exact .cons .non (.cons (.int _) (.cons (.str _) (.cons (.tup (f1 _ _ k1) .nil) (.cons (.lst n2 (f2 _ _ k2) .nil) (.cons (.emp (f3 _ _ k3)) (.cons (.tup (f4 _ _ k4) (.cons (.str _) (.cons (.str _) .nil))) (.cons (.tup (f5 _ _ k5) (.cons (.str _) .nil)) (.cons (.tup (f6 _ _ k6) (.cons hv .nil)) (.cons (.tup (f7 _ _ k7) (.cons (.str _) (.cons (.int _) (.cons hv (.cons hv .nil))))) (.cons (.lst n8 k8 (.cons hv (.cons hv .nil))) .nil))))))))))
 have npl:l≠p:=Ne.symm (pt8.ne hl);refine aH (λ R=>∀xs (H':Hp), xs.length=11->H' l=some (.lst xs)->(Dts p H' xs ([.none, .int 5, .str "rest", .tuple [], .list [], .dict [], .tuple [.str "rest", .str "rest"], .tuple [.str "Rest"], .tuple [.tuple es], .tuple [.str "down", .int 0, .tuple es, .tuple es], .list [.tuple es, .tuple es]])/\Dts l H' xs ([.none, .int 5, .str "rest", .tuple [], .list [], .dict [], .tuple [.str "rest", .str "rest"], .tuple [.str "Rest"], .tuple [.tuple es], .tuple [.str "down", .int 0, .tuple es, .tuple es], .list [.tuple es, .tuple es]]))->(Dt p H' v (.tuple es)/\Dt l H' v (.tuple es))->PotAt H' p->But p H H'->R [some (.ref p), some v, some (.ref l)] H') (λ Dd hR=>?_) ?_
 ·skip
  obtain ⟨H9,e9,k9,n9,s9,b9,pt9⟩:=bh (o:=.lst [.non,.int 5,.str "rest",.ref t1,.ref l2,.ref d3,.ref t4,.ref t5,.ref t6,.ref t7,.ref l8]) b8 pt8 hl;rw [show upd H8 l _=H9 from e9]; clear e9;exact hR _ _ rfl k9 ⟨dd.same s9,(dd.fresh hl).same s9⟩ ⟨hv.same s9,(hv.fresh hl).same s9⟩ pt9 b9
 rintro xs9 H9 xl9 k9 ⟨d9,e9⟩ ⟨hv9,hw9⟩ pt9 b9;have hlH:H l=none:=f0.free hl;clear hd dd hv f0 hl;have grow:∀ {Hx Hy:Hp} {xs ys:List V} {ds es':List PyData},Hx l=some (.lst xs)->Dts p Hx xs ds->Dts l Hx xs ds->Dt p Hx v (.tuple es)->Dt l Hx v (.tuple es)->Dts p Hx ys es'->Dts l Hx ys es'->PotAt Hx p->upd Hx l (.lst (xs ++ ys))=Hy->Hy l=some (.lst (xs ++ ys))/\(Dts p Hy (xs ++ ys) (ds ++ es')/\Dts l Hy (xs ++ ys) (ds ++ es'))/\(Dt p Hy v (.tuple es)/\Dt l Hy v (.tuple es))/\PotAt Hy p:=λ {Hx Hy xs ys ds es'} h1 h2 h3 h4 h5 h6 h7 h8 e=>by subst e;have bl:But l Hx (upd Hx l (.lst (xs ++ ys))):=But.upd;refine ⟨ag,⟨(h3.app h7).but2 ⟨_,h1⟩ bl (h2.app h6),(h3.app h7).but ⟨_,h1⟩ bl⟩,⟨h5.but2 ⟨_,h1⟩ bl h4,h5.but ⟨_,h1⟩ bl⟩,?_⟩;obtain ⟨a,b,hh,e⟩:=h8;exact ⟨a,b,hh,bl _ _ (Ne.symm npl) e⟩
 refine aH (λ R=>∀xs (H':Hp), xs.length=14->H' l=some (.lst xs)->(Dts p H' xs ([.none, .int 5, .str "rest", .tuple [], .list [], .dict [], .tuple [.str "rest", .str "rest"], .tuple [.str "Rest"], .tuple [.tuple es], .tuple [.str "down", .int 0, .tuple es, .tuple es], .list [.tuple es, .tuple es]] ++ [.tuple [.str "piece", .int 0, .bool false, .int 0], .tuple [.str "piece", .int (-1), .bool false, .int 0, .int 0], .tuple [.str "piece", .int 9, .bool false, .int 0, .int 0]])/\Dts l H' xs ([.none, .int 5, .str "rest", .tuple [], .list [], .dict [], .tuple [.str "rest", .str "rest"], .tuple [.str "Rest"], .tuple [.tuple es], .tuple [.str "down", .int 0, .tuple es, .tuple es], .list [.tuple es, .tuple es]] ++ [.tuple [.str "piece", .int 0, .bool false, .int 0], .tuple [.str "piece", .int (-1), .bool false, .int 0, .int 0], .tuple [.str "piece", .int 9, .bool false, .int 0, .int 0]]))->(Dt p H' v (.tuple es)/\Dt l H' v (.tuple es))->PotAt H' p->But p H H'->R [some (.ref p), some v, some (.ref l)] H') (λ Dd hR=>?_) ?_
 ·refine ⟨_,O,.inl ⟨O,_,IV k9⟩,zS4,λ a1 ha1=>?_⟩;obtain ⟨H1,e1,k1,n1,s1,b1,pt1⟩:=bh (o:=.tup [.str "piece",.int 0,.bl false,.int 0]) (But.refl (p:=p) (H:=H9)) pt9 ha1;rw [show upd H9 a1 _=H1 from e1]; clear e1;refine ⟨_,O,zS5,λ a2 ha2=>?_⟩;obtain ⟨H2,e2,k2,n2,s2,b2,pt2⟩:=bh (o:=.tup [.str "piece",.int (-1),.bl false,.int 0,.int 0]) (b1) pt1 ha2;rw [show upd H1 a2 _=H2 from e2]; clear e2;refine ⟨zS5,λ a3 ha3=>?_⟩;obtain ⟨H3,e3,k3,n3,s3,b3,pt3⟩:=bh (o:=.tup [.str "piece",.int 9,.bl false,.int 0,.int 0]) (b2) pt2 ha3;rw [show upd H2 a3 _=H3 from e3]; clear e3;refine ⟨zS3,λ l4 hl4=>?_⟩;obtain ⟨H4,e4,k4,n4,s4,b4,pt4⟩:=bh (o:=.lst [.ref a1,.ref a2,.ref a3]) (b3) pt3 hl4;rw [show upd H3 l4 _=H4 from e4]; clear e4;have f9:Same H9 H4:=((s1.trans s2).trans s3).trans s4;refine ⟨l,l4,_,_,O,O,f9 _ _ k9,k4,(by rw [xl9]; show 14<=sizeLine; decide),?_⟩;have dn:∀q,Dts q H4 [.ref a1,.ref a2,.ref a3] [.tuple [.str "piece",.int 0,.bool false,.int 0],.tuple [.str "piece",.int (-1),.bool false,.int 0,.int 0],.tuple [.str "piece",.int 9,.bool false,.int 0,.int 0]]:=λ q=>.cons (.tup (s4 _ _ (s3 _ _ (s2 _ _ k1))) (.cons (.str _) (.cons (.int _) (.cons (.bl _) (.cons (.int _) .nil))))) (.cons (.tup (s4 _ _ (s3 _ _ k2)) (.cons (.str _) (.cons (.int _) (.cons (.bl _) (.cons (.int _) (.cons (.int _) .nil)))))) (.cons (.tup (s4 _ _ k3) (.cons (.str _) (.cons (.int _) (.cons (.bl _) (.cons (.int _) (.cons (.int _) .nil)))))) .nil));obtain ⟨g1,g2,g3,g4⟩:=grow (f9 _ _ k9) (d9.same f9) (e9.same f9) (hv9.same f9) (hw9.same f9) (dn p) (dn l) pt4 rfl;exact hR _ _ (by rw [List.length_append,xl9]; rfl) g1 g2 g3 g4 (λ c o n e=>by rw [am (λ z=>by rw [z,hlH] at e; cases e)]; exact (b9.trans b4) _ _ n e)
 rintro xs10 H10 xl10 k10 ⟨d10,e10⟩ ⟨hv10,hw10⟩ pt10 b10;refine aH (λ R=>∀xs (H':Hp), xs.length=15->H' l=some (.lst xs)->(Dts p H' xs (([.none, .int 5, .str "rest", .tuple [], .list [], .dict [], .tuple [.str "rest", .str "rest"], .tuple [.str "Rest"], .tuple [.tuple es], .tuple [.str "down", .int 0, .tuple es, .tuple es], .list [.tuple es, .tuple es]] ++ [.tuple [.str "piece", .int 0, .bool false, .int 0], .tuple [.str "piece", .int (-1), .bool false, .int 0, .int 0], .tuple [.str "piece", .int 9, .bool false, .int 0, .int 0]]) ++ [.tuple [.str "across", .bool true, .tuple es, .tuple es]])/\Dts l H' xs (([.none, .int 5, .str "rest", .tuple [], .list [], .dict [], .tuple [.str "rest", .str "rest"], .tuple [.str "Rest"], .tuple [.tuple es], .tuple [.str "down", .int 0, .tuple es, .tuple es], .list [.tuple es, .tuple es]] ++ [.tuple [.str "piece", .int 0, .bool false, .int 0], .tuple [.str "piece", .int (-1), .bool false, .int 0, .int 0], .tuple [.str "piece", .int 9, .bool false, .int 0, .int 0]]) ++ [.tuple [.str "across", .bool true, .tuple es, .tuple es]]))->(Dt p H' v (.tuple es)/\Dt l H' v (.tuple es))->PotAt H' p->But p H H'->R [some (.ref p), some v, some (.ref l)] H') (λ Dd hR=>?_) ?_
 ·refine ⟨_,O,.inl ⟨O,_,IV k10⟩,_,O,_,O,zS4,λ a1 ha1=>?_⟩;obtain ⟨H1,e1,k1,n1,s1,b1,pt1⟩:=bh (o:=.tup [.str "across",.bl true,v,v]) (But.refl (p:=p) (H:=H10)) pt10 ha1;rw [show upd H10 a1 _=H1 from e1]; clear e1;refine ⟨l,_,_,O,O,s1 _ _ k10,(by rw [xl10]; show 14 < sizeLine; decide),?_⟩;obtain ⟨g1, g2, g3, g4⟩:=grow (s1 _ _ k10) (d10.same s1) (e10.same s1) (hv10.same s1) (hw10.same s1) (ys:=[.ref a1]) (es':=[.tuple [.str "across", .bool true, .tuple es, .tuple es]]) (.cons (.tup k1 (.cons (.str _) (.cons (.bl _) (.cons (hv10.same s1) (.cons (hv10.same s1) .nil))))) .nil) (.cons (.tup k1 (.cons (.str _) (.cons (.bl _) (.cons (hw10.same s1) (.cons (hw10.same s1) .nil))))) .nil) pt1 rfl;exact hR _ _ (by rw [List.length_append,xl10]; rfl) g1 g2 g3 g4 (λ c o n e=>by rw [am (λ z=>by rw [z,hlH] at e; cases e)]; exact (b10.trans b1) _ _ n e)
 rintro xs11 H11 xl11 k11 ⟨d11,e11⟩ _ pt11 b11;refine ⟨_,O,_,O,p,15,O,pt11,by decide,by decide,λ z H12 z0 z1 pt12 b12=>?_⟩;obtain ⟨x,d,h1,h2,h3,h4⟩:=d11.pick k11 npl pt11 b12 z0 (by rw [xl11]; exact z1);have al:∀d∈(([.none,.int 5,.str "rest",.tuple [],.list [],.dict [],.tuple [.str "rest",.str "rest"],.tuple [.str "Rest"],.tuple [.tuple es],.tuple [.str "down",.int 0,.tuple es,.tuple es],.list [.tuple es,.tuple es]] ++ [.tuple [.str "piece",.int 0,.bool false,.int 0],.tuple [.str "piece",.int (-1),.bool false,.int 0,.int 0],.tuple [.str "piece",.int 9,.bool false,.int 0,.int 0]]) ++ [.tuple [.str "across",.bool true,.tuple es,.tuple es]]:List PyData),wt d<=2 * wt (.tuple es) + 30/\NoT d:=by
  have w1:(Str.ofString "rest").length=4:=by decide +kernel
  have w2:(Str.ofString "piece").length=5:=by decide +kernel
  have w3:(Str.ofString "down").length=4:=by decide +kernel
  have w4:(Str.ofString "across").length=6:=by decide +kernel
  have w5:(Str.ofString "Rest").length=4:=by decide +kernel
  have nn:∀ {d:PyData},(∀y r,aQ d≠some (.str y :: r))->NoT d:=λ h=>vE h;simp only [List.cons_append,List.nil_append,List.forall_mem_cons,List.forall_mem_nil];refine ⟨⟨?_,nn λ y r e=>by cases e⟩,⟨?_,nn λ y r e=>by cases e⟩,⟨?_,nn λ y r e=>by cases e⟩,⟨?_,nn λ y r e=>by cases e⟩,⟨?_,nn λ y r e=>by cases e⟩,⟨?_,nn λ y r e=>by cases e⟩,⟨?_,oB⟩,⟨?_,rj⟩,⟨?_,nn λ y r e=>by cases e⟩,⟨?_,rm⟩,⟨?_,nn λ y r e=>by cases e⟩,⟨?_,tN⟩,⟨?_,tM⟩,⟨?_,rh⟩,⟨?_,lI⟩,λ _ z=>by cases z⟩
  all_goals simp only [wt,wts]; omega
 exact ⟨l,_,z,x,O,O,IV h1,h2,q x d H12 h3 (al d h4).1 (al d h4).2 pt12 (b11.trans b12)⟩
end
theorem zW {K:C3} {C p s:Addr} {b w h i:Int} {ks:List Kd} {H:Hp} {x:V} {d:PyData} (i0:0<=i) (i4:i<=4) (sh:ShopAt C H s b ks) (w0:1<=w) (w60:w < 10 ^ 60) (h0:1<=h) (h60:h < 10 ^ 60) (b0:0<=b) (k8:ks.length<=8) (g:∀k∈ks,Good k) (dt:Dt p H x d) (wd:wt d<=2000) (rw:rwN d<=63) {due:Bool} (e:isT b ks w h d=due):Why K C H i (.ref s) (.int w) (.int h) x (if due=true then [] else [.str "tree"]):=by
 cases due with
 | true =>
  obtain ⟨t,td,ok⟩:=ig _ d w h (B2 _) e;exact .told i0 i4 (.mk ⟨sh,w0,h0,dt,td,ok,wd,C4 (TrD.rows t d td) rw⟩ b0 (by omega) (by omega) k8 g)
 | false=>exact .no i0 i4 sh w0 h0 dt (by omega) e
def HV:V->PyData
 | .str z=>.str z
 | _=>.none
theorem nj {q:Addr} {H:Hp} (due:Bool):Dts q H (if due=true then [] else [.str "tree"]) (if due=true then [] else [.str "tree"]):=by
 cases due
 ·exact .cons (.str _) .nil
 ·exact .nil
section
variable {P:G4} {w:G6} {K:C3} {mg:Str->Option G7} {base:Heap}
inductive spMeas (C:Addr) (vs:List V) (H:Hp) (Q:VK) (E_:XK):Prop
 | mk (H0:Hp) (p st sa l:Addr) (b w h:Int) (rs:List V) (ks:List Kd) (v:V) (d:PyData) (e_1:vs=[.ref p,.ref st,.ref sa,.int w,.int h,v]) (e_2:H0 p=none) (e_3:Same H0 H) (e_4:ShL H0 st l b rs ks) (e_5:ShopAt C H0 sa b ks) (e_6:0<=b) (e_7:1<=w) (e_8:w < 10 ^ 60) (e_9:1<=h) (e_10:h < 10 ^ 60) (e_11:Dt p H v d) (e_12:wt d<=611) (e_13:d.depth<=11) (e_14:rwN d<=61) (e_15:PotAt H p) (e_16:∀H',PotAt H' p->But p H H'->Q (.bl true) H'):spMeas C vs H Q E_
theorem scmeas:FnScope ["_law_pot_here","_law_told","_law_shop_here","_law_wide","_law_high","_law_tree_here","_law_k","_law_spoilt_here","_law_thing","_law_due"] ["_law_pot_here","_law_told","_law_shop_here","_law_wide","_law_high","_law_tree_here"] (defScope cW):=⟨O,O,O,by decide +kernel,O,by decide +kernel,by decide +kernel⟩
theorem tQ {f C:Addr} {fd:G5} (F:Fun K "_law_measured" "_law_measured" cW f fd) (B:Blt mg) (DSp:Dn P w K mg base "_law_spoilt" ["_law_pot_here","_law_thing","_law_deep"] 15 (spSpoilt 12)) (DLs:Dn P w K mg base "_law_listed" ["_law_thing"] 16 (spListed 15)) (DI:Dn P w K mg base "_law_is_tree" ["_law_shop_here","_law_wide","_law_high","_law_tree_here"] 18 (spIsTreeQ 15)) (DW:Dn P w K mg base "_law_why" ["_law_what","_law_shop_here","_law_wide","_law_high","_law_tree_here"] 12 (spWhy K C)):FnOk P w K mg base CX0 19 f fd ["_law_pot_here","_law_told","_law_shop_here","_law_wide","_law_high","_law_tree_here"] (spMeas C):=by
 refine F.ok scmeas (λ vs H Q E h=>?_) (λ cdv A outer s H vs Q E hr h=>?_)
 ·obtain ⟨H0,p,st,sa,l,b,w1,h1,rs,ks,v,d,rfl,_⟩:=h
  rfl
 obtain ⟨H0,p,st,sa,l,b,w1,h1,rs,ks,v,d,rfl,hp,s0,sh,sA,b0,w0,w60,h0,h60,hd,wd,dp,rd,pt,q⟩:=h;have nd:=scmeas.nd;have hu:=hr.units;refine ⟨_,(@af _ _ _ _ _ (@bV _ _ _ _ _ _ _ _ E1 O (eh O B.range (ae^^^ad)) (aj (i:=6) nd O (Or.inl O)) (@af _ _ _ _ _ (@aB _ _ 7 _ _ _ _ nd O (Or.inl O) (@ao _ _ _ _ _ _ _ _ _ _ DSp (hr.mono (by decide)) O ((pv 0)^^^((pv 5)^^^(ae^^^ad))) (by decide) O O) O (Or.inl O)) (@ah _ _ _ (@bV _ _ _ _ _ _ _ _ E1 O (iV (@az _ _ _ _ _ ((pv 7)^^^((@ao _ _ _ _ _ _ _ _ _ _ DLs (hr.mono (by decide)) O ((pv 7)^^^ad) (by decide) O O)^^^ad)))) (aj (i:=8) nd O (Or.inr O)) (@af _ _ _ _ _ (@aB _ _ 9 _ _ _ _ nd O (Or.inl O) (@ax _ _ _ _ _ _ _ ix_list (@aM _ _ _ _ ((@aM _ _ _ _ (aJ^^^ad))^^^((@aM _ _ _ _ ad)^^^ad))) (@bG _ _ _ _ _ _ _ _ _ cQ O B.int PyProof.Rows.boot_int ((@ao _ _ _ _ _ _ _ _ _ _ DI hr O ((pv 1)^^^((pv 3)^^^((pv 4)^^^((pv 8)^^^ad)))) (by decide) O O)^^^ad) (by decide) (by decide) O O) (λ _ _=>O)) O (Or.inl O)) (@ah _ _ _ (@aG _ _ _ _ _ _ _ _ (@aw _ _ _ _ _ _ _ _ (gO hu) (el (own:=["_law_what"]) (cs:=["_law_shop_here","_law_wide","_law_high","_law_thing"]) (cap:=[2,3,4,8]) O (eh O B.range (ae^^^ad)) (bX (sc:=defScope cW) (N:=["_law_pot_here","_law_told","_law_shop_here","_law_wide","_law_high","_law_tree_here","_law_k","_law_spoilt_here","_law_thing","_law_due"]) O O (by decide +kernel)) (λ _ _ _ _ _=>aj (i:=0) (by show List.Nodup (["_law_what","_law_shop_here","_law_wide","_law_high","_law_thing"]:List Str) ; decide +kernel) O (Or.inl O) (Or.inr O)) (λ _ _ _ _ _=>dN) (λ _ _ _ _ _=>(@ao _ _ _ _ _ _ _ _ _ _ DW (hr.mono (by decide)) O ((pv 0)^^^((pv 1)^^^((pv 2)^^^((pv 3)^^^((pv 4)^^^ad))))) (by decide) O O))) (@au _ _ _ _ _ _ _ _ va (@aM _ _ _ _ ((pv 9)^^^ad)) ae) (av _)) (@ah _ _ _ (@aq _ _ _ _ aY)) ar))) (by intro _; rfl)))) (by intro _; rfl)) (@ah _ _ _ (@aq _ _ _ _ aY))),?_⟩;have k8:ks.length<=8:=by have:=C9 sh.k; have:=sh.n; omega
 have sz:(40000:Nat)<=sizeLine:=by decide
 have old:∀ {Hx:Hp},But p H Hx->Same H0 Hx:=λ bx=>But.same ((dE s0).trans bx) hp;refine bi (λ σ' H'=>(∃v6 v7 v8 v9,σ'=[some (.ref p),some (.ref st),some (.ref sa),some (.int w1),some (.int h1),some v,v6,v7,v8,v9])/\PotAt H' p/\But p H H') (λ R hR=>?_) ?_
 ·refine ⟨_,O,by decide,by decide,?_⟩;refine ej (lo:=0) (n:=2) (λ i σ' H'=>(∃v6 v7 v8 v9,σ'=[some (.ref p),some (.ref st),some (.ref sa),some (.int w1),some (.int h1),some v,v6,v7,v8,v9])/\PotAt H' p/\But p H H') ⟨⟨_,_,_,_,rfl⟩,pt,But.refl⟩ ?_ (λ σ' H' e=>hR _ _ e);rintro i _ H1 hi ⟨⟨v6,v7,v8,v9,rfl⟩,pt1,b1⟩;have d1:=hd.but (bu pt) b1;refine aH (λ R=>∀vs ds v8 v9 (H':Hp),Dt p H' vs ds->wt ds<=631->ds.depth<=12->rwN ds<=62->PotAt H' p->But p H H'->R [some (.ref p),some (.ref st),some (.ref sa),some (.int w1),some (.int h1),some v,some (.int (0 + (i:Int))),some vs,v8,v9] H') (λ Dd hR=>?_) ?_
  ·exact ⟨_,O,_,O,p,v,d,11,O,d1,by omega,by decide,pt1,λ v' d' H2 hv wv dv nv pt2 b2=>hR v' d' _ _ _ hv (by omega) (by omega) (by omega) pt2 (b1.trans b2)⟩
  rintro vs ds v8 v9 H2 dS wS pS nS pt2 b2;clear d1 pt1 b1;refine ⟨_,O,_,O,p,vs,ds,O,dS,by omega,by omega,bu pt2,λ vl H3 hvl s3=>⟨zS2,λ t2 ht2=>?_⟩⟩;obtain ⟨H4,e4,k4,s4⟩:∃H',upd H3 t2 (.tup [vs,vl])=H'/\H' t2=some (.tup [vs,vl])/\Same H3 H':=⟨_,O,ag,G8 ht2⟩
  rw [show upd H3 t2 _=H4 from e4]; clear e4;have s24:=s3.trans s4;refine ⟨t2,O,⟨_,IU k4⟩,iX (xs:=[vs,vl]) (λ j σ' H'=>(∃v8 v9,σ'=[some (.ref p),some (.ref st),some (.ref sa),some (.int w1),some (.int h1),some v,some (.int (0 + (i:Int))),some vs,v8,v9])/\Same H4 H') ⟨⟨_,_,O⟩,Same.refl _⟩ (λ j σ H' _ ⟨_,s5⟩=>IU (s5 _ _ k4)) ?_ (λ σ' H' ⟨⟨v8,v9,e⟩,sx⟩=>⟨⟨_,_,_,_,e⟩,pt2.same (s24.trans sx),b2.trans (dE (s24.trans sx))⟩)⟩;rintro j x σ H5 hj ⟨⟨v8,v9,rfl⟩,s5⟩;obtain ⟨dx,hx,wx,px,nx⟩:∃dx,Dt p H4 x dx/\wt dx<=631/\dx.depth<=12/\rwN dx<=62:=by
   rcases List.mem_cons.mp (B4 hj) with e | e
   ·subst e; exact ⟨ds,dS.same s24,wS,pS,nS⟩
   ·have e:=C8.mp e;subst e; exact ⟨lsD ds,hvl.same s4,by rw [qS]; exact wS,by rw [iM]; exact pS,by rw [kx]; exact nS⟩
  have s25:=s24.trans s5;have o5:Same H0 H5:=old (b2.trans (dE s25));have pt5:=pt2.same s25;have hx5:=hx.same s5;clear hvl dS hx hj;obtain ⟨due,hdue⟩:∃due,isT b ks w1 h1 dx=due:=⟨_,O⟩
  refine aH (λ R=>∀du (H':Hp), H' du=some (.lst (if due=true then [] else [.str "tree"]))->du≠p->Same H5 H'->R [some (.ref p), some (.ref st), some (.ref sa), some (.int w1), some (.int h1), some v, some (.int (0 + (i:Int))), some vs, some x, some (.ref du)] H') (λ Dd hR=>?_) ?_
  ·refine ⟨zS1,λ l1 hl1=>?_⟩;obtain ⟨H6, e6, k6, s6⟩:∃H', upd H5 l1 (.lst [.str "tree"])=H'/\H' l1=some (.lst [.str "tree"])/\Same H5 H':=⟨_, O, ag, G8 hl1⟩
   rw [show upd H5 l1 _=H6 from e6]; clear e6;refine ⟨zS0,λ l2 hl2=>?_⟩;obtain ⟨H7,e7,k7,s7⟩:∃H',upd H6 l2 (.lst [])=H'/\H' l2=some (.lst [])/\Same H6 H':=⟨_,O,ag,G8 hl2⟩
   rw [show upd H6 l2 _=H7 from e7]; clear e7;refine ⟨zS2,λ l3 hl3=>?_⟩;obtain ⟨H8,e8,k8',s8⟩:∃H',upd H7 l3 (.lst [.ref l1,.ref l2])=H'/\H' l3=some (.lst [.ref l1,.ref l2])/\Same H7 H':=⟨_,O,ag,G8 hl3⟩
   rw [show upd H7 l3 _=H8 from e8]; clear e8;have s58:=(s6.trans s7).trans s8;have n1:l1≠p:=Ne.symm (pt5.ne hl1);have n2:l2≠p:=Ne.symm ((pt5.same s6).ne hl2);refine ⟨_,O,_,O,_,O,_,O,p,st,l,b,w1,h1,rs,ks,x,dx,O,sh.same (o5.trans s58),hx5.same s58,by omega,λ H9 s9=>.inr ⟨_,O,?_⟩⟩;rw [hdue];cases due with
   | true=>exact ⟨l3,_,1,.ref l2,O,O,IV (s9 _ _ k8'),O,hR l2 _ (s9 _ _ (s8 _ _ k7)) n2 (s58.trans s9)⟩
   | false=>exact ⟨l3,_,0,.ref l1,O,O,IV (s9 _ _ k8'),O,hR l1 _ (s9 _ _ (s8 _ _ (s7 _ _ k6))) n1 (s58.trans s9)⟩
  rintro du H6 kdu ndu s6;have o6:=o5.trans s6;have pt6:=pt5.same s6;have hx6:=hx5.same s6;refine ⟨_,O,by decide,by decide,qy (lo:=0) (n:=5) (λ i us Hx=>Dts p Hx us (List.replicate i (.list (if due=true then [] else [.str "tree"])))/\Same H6 Hx) ⟨.nil,Same.refl _⟩ ?_ ?_⟩
  ·rintro m us Hx hm ⟨dA,sx⟩;have ul:=dA.length;rw [List.length_replicate] at ul;refine ⟨by omega,leS.set rfl,dO ?_⟩;refine ⟨_,O,_,O,_,O,_,O,_,O,_,_,_,_,_,_,O,zW (by omega) (by omega) (cM (o6.trans sx) sA) w0 w60 h0 h60 b0 k8 sh.g (hx6.same sx) (by omega) (by omega) hdue,λ l' H' hl' kl' s'=>Nx.of hm ⟨?_,sx.trans s'⟩⟩;rw [List.replicate_succ'];exact (dA.same s').app (.cons (.lst (Ne.symm ((pt6.same sx).ne hl')) kl' (nj due)) .nil)
  ·rintro us Hx ⟨dA,sx⟩;have ul:=dA.length;rw [List.length_replicate] at ul;refine ⟨by omega,λ lc hlc=>?_⟩;obtain ⟨H7,e7,k7,s7⟩:∃H',upd Hx lc (.lst us)=H'/\H' lc=some (.lst us)/\Same Hx H':=⟨_,O,ag,G8 hlc⟩
   rw [show upd Hx lc _=H7 from e7]; clear e7;refine ⟨_,O,zS1,λ l8 hl8=>?_⟩;obtain ⟨H8,e8,k8',s8⟩:∃H',upd H7 l8 (.lst [.ref du])=H'/\H' l8=some (.lst [.ref du])/\Same H7 H':=⟨_,O,ag,G8 hl8⟩
   rw [show upd H7 l8 _=H8 from e8]; clear e8;refine ⟨l8,5,_,O,O,k8',by decide,by decide,zS5,λ l9 hl9=>?_⟩;obtain ⟨H9,e9,k9,s9⟩:∃H',upd H8 l9 (.lst (List.replicate (Int.toNat 5) [V.ref du]).flatten)=H'/\H' l9=some (.lst (List.replicate (Int.toNat 5) [V.ref du]).flatten)/\Same H8 H':=⟨_,O,ag,G8 hl9⟩
   rw [show upd H8 l9 _=H9 from e9]; clear e9;have k9:H9 l9=some (.lst [.ref du,.ref du,.ref du,.ref du,.ref du]):=k9;have ptx:=pt6.same sx;have one:Dt p H9 (.ref du) (.list (if due=true then [] else [.str "tree"])):=.lst ndu (s9 _ _ (s8 _ _ (s7 _ _ (sx _ _ kdu)))) (nj due);have DA:Dt p H9 (.ref lc) (.list (List.replicate 5 (.list (if due=true then [] else [.str "tree"])))):=.lst (Ne.symm (ptx.ne hlc)) (s9 _ _ (s8 _ _ k7)) (dA.same ((s7.trans s8).trans s9));have DB:Dt p H9 (.ref l9) (.list (List.replicate 5 (.list (if due=true then [] else [.str "tree"])))):=.lst (Ne.symm ((ptx.same (s7.trans s8)).ne hl9)) k9 (.cons one (.cons one (.cons one (.cons one (.cons one .nil)))));have cl:PyData.canLay0 (.list (List.replicate 5 (.list (if due=true then [] else [.str "tree"]))))=true:=by cases due <;> decide +kernel
   have shp:SeqAt.shaped (.list (List.replicate 5 (.list (if due=true then [] else [.str "tree"]))))=true:=by cases due <;> decide +kernel
   refine ⟨_,_,DA.dat cl,DB.dat cl,shp,shp,_,O,?_⟩;rw [PySem.SeqAt.eqv_refl _ cl];exact aA ⟨⟨_,_,rfl⟩,(((s5.trans s6).trans sx).trans s7).trans (s8.trans s9)⟩
 rintro _ H1 ⟨⟨v6,v7,v8,v9,rfl⟩,pt1,b1⟩;exact q H1 pt1 b1
end
theorem oC {C x dx:Addr} {H:Hp} (hx:H x=none) (hd:H dx=none):Same H (upd (upd H dx (.own x)) x (.ins C dx [])):=λ c o e=>by rw [am (ap e hx),am (ap e hd)]; exact e
theorem fH (K:C3) {p l1 l2:Addr} {H:Hp} {xs:List V} {ds:List PyData} (k1:H l1=some (.lst xs)) (k2:H l2=some (.lst xs)) (n1:l1≠p) (n2:l2≠p) (d:Dts p H xs ds) (c:PyData.canLay0 (.list ds)=true) (s:SeqAt.shaped (.list ds)=true):∃da,DatV K H (.ref l1) da/\DatV K H (.ref l2) da/\SeqAt.shaped da=true/\PyData.eqv da da=true :=
 ⟨_,(Dt.lst n1 k1 d).dat c,(Dt.lst n2 k2 d).dat c,s,PySem.SeqAt.eqv_refl _ c⟩
def SdV (K:C3) (H:Hp) (v:V):Prop:=∃t x y,v=.ref t/\H t=some (.tup [x,y])/\BadPl K H x y
theorem SdV.same {K:C3} {H H':Hp} {v:V} (h:SdV K H v) (s:Same H H'):SdV K H' v:=by obtain ⟨t,x,y,e,h1,h2⟩:=h;exact ⟨t,x,y,e,s _ _ h1,h2.same s⟩
section
variable {P:G4} {w:G6} {K:C3} {mg:Str->Option G7} {base:Heap}
inductive spLaw (K:C3) (vs:List V) (H:Hp) (Q:VK) (E_:XK):Prop
 | mk (a:Addr) (ns:List Int) (e_1:vs=[.ref a]) (e_2:SqL K H a (ns.map V.int)) (e_3:ns.length<=63) (e_4:∀H',Q (.bl true) H'):spLaw K vs H Q E_
theorem sclaw:FnScope ["_law_script","_law_told","_law_shop_here","_law_place","_law_pot_here","_law_wide","_law_high","_law_tree_here","_law_bad","_law_sides","_law_what","_law_one","_law_other_here"] ["_law_script"] (defScope jV):=⟨O,O,O,by decide +kernel,O,by decide +kernel,by decide +kernel⟩
theorem vF {f C:Addr} {fd:G5} (F:Fun K "law" "law" jV f fd) (B:Blt mg) (DP:Dn P w K mg base "_law_pot" ["_law_script","_law_place"] 1 (qi K)) (DSh:Dn P w K mg base "_law_shop" ["_law_pot_here"] 4 (spShopL)) (DPl:Dn P w K mg base "_law_plate" ["_law_pot_here"] 3 (spPlateL)) (DTr:Dn P w K mg base "_law_tree" ["_law_pot_here","_law_shop_here","_law_wide","_law_high","_law_left","_law_deep"] 14 (spTreeL 11)) (DBt:Dn P w K mg base "_law_bad_tree" ["_law_pot_here","_law_tree_here"] 2 (spBadT)) (DBs:Dn P w K mg base "_law_bad_side" ["_law_pot_here"] 2 (spBadS)) (DT:Dn P w K mg base "is_tree" ["shop","wide","high","thing"] 6 (spIsTree C)) (DW:Dn P w K mg base "_law_why" ["_law_what","_law_shop_here","_law_wide","_law_high","_law_tree_here"] 12 (spWhy K C)) (DM:Dn P w K mg base "_law_measured" ["_law_pot_here","_law_told","_law_shop_here","_law_wide","_law_high","_law_tree_here"] 19 (spMeas C)) (DS:Kn P w K mg base "Shop" C ["self","blade","kinds"] 3 (kZ C)):FnOk P w K mg base CX0 20 f fd ["_law_script"] (spLaw K):=by
 refine F.ok sclaw (λ vs H Q E h=>?_) (λ cdv A outer s H vs Q E hr h=>?_)
 ·obtain ⟨a,ns,rfl,_⟩:=h
  rfl
 obtain ⟨a,ns,rfl,hS,h63,q⟩:=h;have nd:=sclaw.nd;have hu:=hr.units;refine ⟨_,(@af _ _ _ _ _ (@aB _ _ 1 _ _ _ _ nd O (Or.inl O) (@ao _ _ _ _ _ _ _ _ _ _ DSh (hr.mono (by decide)) O ((@ao _ _ _ _ _ _ _ _ _ _ DP (hr.mono (by decide)) O ((pv 0)^^^(ae^^^ad)) (by decide) O O)^^^ad) (by decide) O O) O (Or.inl O)) (@af _ _ _ _ _ (@aB _ _ 2 _ _ _ _ nd O (Or.inl O) (zB DS (hr.mono (by decide)) O ((@ax _ _ _ _ _ _ _ ix_tup (pv 1) ae (λ _ _=>O))^^^((@ax _ _ _ _ _ _ _ ix_tup (pv 1) ae (λ _ _=>O))^^^ad))) O (Or.inl O)) (@af _ _ _ _ _ (@bV _ _ _ _ _ _ _ _ E1 O (nr O B.range (ae^^^((@ay _ _ _ _ _ _ _ _ _ (nw O) O B.max PyProof.Rows.boot_max (ae^^^((@ay _ _ _ _ _ _ _ _ _ (iq O) O B.min PyProof.Rows.boot_min (ae^^^((@ay _ _ _ _ _ _ _ _ _ aN O B.len PySem.boot_len ((pv 0)^^^ad) (by decide) (by decide) O O)^^^ad)) (by decide) (by decide) O O)^^^ad)) (by decide) (by decide) O O)^^^ad))) (aj (i:=3) nd O (Or.inl O)) (@af _ _ _ _ _ (@aB _ _ 4 _ _ _ _ nd O (Or.inl O) (@ao _ _ _ _ _ _ _ _ _ _ DP (hr.mono (by decide)) O ((pv 0)^^^((pv 3)^^^ad)) (by decide) O O) O (Or.inl O)) (@af _ _ _ _ _ (@bJ _ _ _ _ _ _ (@ao _ _ _ _ _ _ _ _ _ _ DPl (hr.mono (by decide)) O ((pv 4)^^^ad) (by decide) O O) (bq O (ai (aj (i:=5) nd O (Or.inl O)) (ai (aj (i:=6) nd O (Or.inl O)) aU))) O O O) (@af _ _ _ _ _ (@aB _ _ 7 _ _ _ _ nd O (Or.inl O) (@ao _ _ _ _ _ _ _ _ _ _ DTr (hr.mono (by decide)) O ((pv 4)^^^((pv 1)^^^((pv 5)^^^((pv 6)^^^((@aM _ _ _ _ (ae^^^ad))^^^(ae^^^ad)))))) (by decide) O O) O (Or.inl O)) (@af _ _ _ _ _ (@aB _ _ 8 _ _ _ _ nd O (Or.inl O) (@ao _ _ _ _ _ _ _ _ _ _ DBt (hr.mono (by decide)) O ((pv 4)^^^((pv 7)^^^ad)) (by decide) O O) O (Or.inl O)) (@af _ _ _ _ _ (@aB _ _ 9 _ _ _ _ nd O (Or.inl O) (@aM _ _ _ _ ((@az _ _ _ _ _ ((@ao _ _ _ _ _ _ _ _ _ _ DBs (hr.mono (by decide)) O ((pv 4)^^^ad) (by decide) O O)^^^((pv 6)^^^ad)))^^^((@az _ _ _ _ _ ((pv 5)^^^((@ao _ _ _ _ _ _ _ _ _ _ DBs (hr.mono (by decide)) O ((pv 4)^^^ad) (by decide) O O)^^^ad)))^^^((@az _ _ _ _ _ ((@ao _ _ _ _ _ _ _ _ _ _ DBs (hr.mono (by decide)) O ((pv 4)^^^ad) (by decide) O O)^^^((@ao _ _ _ _ _ _ _ _ _ _ DBs (hr.mono (by decide)) O ((pv 4)^^^ad) (by decide) O O)^^^ad)))^^^ad)))) O (Or.inl O)) (@af _ _ _ _ _ (@bV _ _ _ _ _ _ _ _ E1 O (eh O B.range (ae^^^ad)) (aj (i:=10) nd O (Or.inl O)) (@af _ _ _ _ _ (@bV _ _ _ _ _ _ _ _ E1 O (cj (pv 9)) (bq O (ai (aj (i:=11) nd O (Or.inl O)) (ai (aj (i:=12) nd O (Or.inl O)) aU))) (@af _ _ _ _ _ (@aG _ _ _ _ _ _ _ _ (@aw _ _ _ _ _ _ _ _ (gO hu) (@ao _ _ _ _ _ _ _ _ _ _ DW (hr.mono (by decide)) O ((pv 10)^^^((pv 2)^^^((pv 11)^^^((pv 12)^^^((pv 7)^^^ad))))) (by decide) O O) (@aM _ _ _ _ (aJ^^^ad)) (av _)) (@ah _ _ _ (@aq _ _ _ _ aY)) ar) (@ah _ _ _ (@aG _ _ _ _ _ _ _ _ (@aw _ _ _ _ _ _ _ _ (gO hu) (@ao _ _ _ _ _ _ _ _ _ _ DW (hr.mono (by decide)) O ((pv 10)^^^((pv 2)^^^((pv 11)^^^((pv 12)^^^((pv 8)^^^ad))))) (by decide) O O) (@aM _ _ _ _ (aJ^^^ad)) (av _)) (@ah _ _ _ (@aq _ _ _ _ aY)) ar))) (by intro _; rfl)) (@af _ _ _ _ _ (@aG _ _ _ _ _ _ _ _ (@aw _ _ _ _ _ _ _ _ (gO hu) (@ao _ _ _ _ _ _ _ _ _ _ DW (hr.mono (by decide)) O ((pv 10)^^^((pv 2)^^^((pv 5)^^^((pv 6)^^^((pv 8)^^^ad))))) (by decide) O O) (@ax _ _ _ _ _ _ _ ix_list (@aM _ _ _ _ ((@aM _ _ _ _ (aJ^^^ad))^^^((@aM _ _ _ _ ad)^^^ad))) (@bG _ _ _ _ _ _ _ _ _ cQ O B.int PyProof.Rows.boot_int ((@bt _ _ _ _ _ _ _ _ bf (pv 10) ae (av _))^^^ad) (by decide) (by decide) O O) (λ _ _=>O)) (av _)) (@ah _ _ _ (@aq _ _ _ _ aY)) ar) (@ah _ _ _ (@aG _ _ _ _ _ _ _ _ (@aw _ _ _ _ _ _ _ _ (gO hu) (@ao _ _ _ _ _ _ _ _ _ _ DW (hr.mono (by decide)) O ((pv 10)^^^((pv 2)^^^((pv 5)^^^((pv 6)^^^((pv 7)^^^ad))))) (by decide) O O) (@aM _ _ _ _ ad) (av _)) (@ah _ _ _ (@aq _ _ _ _ aY)) ar)))) (by intro _; rfl)) (@af _ _ _ _ _ (@aG _ _ _ _ _ _ _ _ (PW.pt (br (@aw _ _ _ _ _ _ _ _ sK (@ao _ _ _ _ _ _ _ _ _ _ DT (hr.mono (by decide)) O ((pv 2)^^^((pv 5)^^^((pv 6)^^^((pv 8)^^^ad)))) (by decide) O O) aY (av _)) (bz (@aw _ _ _ _ _ _ _ _ qz (@ao _ _ _ _ _ _ _ _ _ _ DT (hr.mono (by decide)) O ((pv 2)^^^((pv 5)^^^((pv 6)^^^((pv 7)^^^ad)))) (by decide) O O) aY (av _))))) (@ah _ _ _ (@aq _ _ _ _ aY)) ar) (@ah _ _ _ (@aG _ _ _ _ _ _ _ _ (@aS _ _ _ _ (@aI _ _ _ (@ao _ _ _ _ _ _ _ _ _ _ DM hr O ((pv 4)^^^((pv 1)^^^((pv 2)^^^((pv 5)^^^((pv 6)^^^((pv 7)^^^ad)))))) (by decide) O O) (by intro _; rfl))) (@ah _ _ _ (@aq _ _ _ _ aY)) ar))))))))) (by intro _; rfl)) (@ah _ _ _ (@aq _ _ _ _ aY))))),?_⟩
 have e60:(100:Int) < 10 ^ 60:=by decide
 refine aH (λ R=>∀st l b rs ks (H':Hp),ShL H' st l b rs ks->1<=rs.length->0<=b->Same H H'->R [some (.ref a),some (.ref st),none,none,none,none,none,none,none,none,none,none,none] H') (λ Dd hR=>?_) ?_
 ·refine ⟨_,O,a,ns,0,O,hS,by decide,by decide,h63,λ p H1 hp pt1 s1=>⟨p,O,pt1,λ t l b rs ks H2 ht hl nlp tp gk r1 r8 b0 pt2 b2=>?_⟩⟩;exact hR t l b rs ks _ ⟨ht,hl,tp,r8,gk⟩ r1 b0 (But.same ((dE s1).trans b2) hp)
 rintro st l b rs ks H1 sh r1 b0 s01;refine aH (λ R=>∀sa (H':Hp),ShopAt C H' sa b ks->Same H1 H'->R [some (.ref a),some (.ref st),some (.ref sa),none,none,none,none,none,none,none,none,none,none] H') (λ Dd hR=>?_) ?_
 ·refine ⟨_,O,st,_,0,_,O,O,IU sh.t,O,_,O,st,_,1,_,O,O,IU sh.t,O,λ x dx hx hdx ne0=>?_⟩;have sm:Same H1 (upd (upd H1 dx (.own x)) x (.ins C dx [])):=oC hx hdx;refine ⟨x,dx,l,b,rs,ks,O,ag,b0,.inl (sm _ _ sh.l),IW (Tups.keep (λ c xs e=>sm _ _ e) sh.k) (λ v k h=>.inl h),sh.g,r1,sh.n,λ Hb Sb kb=>⟨O,hR x _ Sb (λ c o e=>kb c o (ap e hx) (sm _ _ e))⟩⟩
 rintro sa H2 sA s12;have sh:=sh.same s12;have s02:=s01.trans s12;clear s01 s12;have k8:ks.length<=8:=by have:=C9 sh.k; have:=sh.n; omega
 have ln:(ns.map V.int).length=ns.length:=List.length_map _;refine bi (λ σ' H'=>True) (λ R hR=>?_) (λ σ' H' _=>q _);refine ⟨_,O,a,_,O,.inl (s02.seq hS),_,_,O,_,_,O,_,_,O,⟨by decide,by decide,?_,?_⟩,?_⟩
 ·rw [ln]; split <;> split <;> omega
 ·rw [ln]; split <;> split <;> omega
 generalize hm:(Int.toNat _)=m;have m13:m<=12:=by rw [<- hm,ln]; split <;> split <;> omega
 refine ej (n:=m) (λ i σ' H'=>(∃v3 v4 v5 v6 v7 v8 v9 v10 v11 v12,σ'=[some (.ref a),some (.ref st),some (.ref sa),v3,v4,v5,v6,v7,v8,v9,v10,v11,v12])/\Same H2 H') ⟨⟨_,_,_,_,_,_,_,_,_,_,rfl⟩,Same.refl _⟩ ?_ (λ σ' H' _=>hR _ _ trivial);rintro i _ H4 hi ⟨⟨v3,v4,v5,v6,v7,v8,v9,v10,v11,v12,rfl⟩,s24⟩;have sA4:=cM s24 sA;have sh4:=sh.same s24;refine aH (λ R=>∀p v5 v6 v7 v8 v9 v10 v11 v12 (H':Hp),H4 p=none->PotAt H' p->Same H4 H'->R [some (.ref a),some (.ref st),some (.ref sa),some (.int (1 + i)),some (.ref p),v5,v6,v7,v8,v9,v10,v11,v12] H') (λ Dd hR=>?_) ?_
 ·exact ⟨_,O,_,O,a,ns,_,O,s24.seq (s02.seq hS),by omega,by omega,h63,λ p H5 hp pt5 s5=>hR p _ _ _ _ _ _ _ _ _ hp pt5 s5⟩
 rintro p v5 v6 v7 v8 v9 v10 v11 v12 H5 hp pt5 s45;refine aH (λ R=>∀w1 h1 v7 v8 v9 v10 v11 v12 (H':Hp),1<=w1->w1 < 10 ^ 60->1<=h1->h1 < 10 ^ 60->PotAt H' p->Same H4 H'->R [some (.ref a),some (.ref st),some (.ref sa),some (.int (1 + i)),some (.ref p),some (.int w1),some (.int h1),v7,v8,v9,v10,v11,v12] H') (λ Dd hR=>?_) ?_
 ·refine ⟨_,O,p,O,pt5,λ t w1 h1 H6 ht w0 w60 h0 h60 pt6 b6=>?_⟩;exact ⟨t,_,O,IU ht,O,_,_,O,_,_,O,O,hR w1 h1 _ _ _ _ _ _ _ w0 w60 h0 h60 pt6 (But.same ((dE s45).trans b6) hp)⟩
 rintro w1 h1 v7 v8 v9 v10 v11 v12 H6 w0 w60 h0 h60 pt6 s46;clear pt5 s45;refine aH (λ R=>∀ (v:V) (t:Tr) v8 v9 v10 v11 v12 (H':Hp),TrV H' t v->okT b ks w1 h1 t->wt (toD t)<=611->(toD t).depth<=11->lvN t<=31->PotAt H' p->Same H4 H'->R [some (.ref a),some (.ref st),some (.ref sa),some (.int (1 + i)),some (.ref p),some (.int w1),some (.int h1),some v,v8,v9,v10,v11,v12] H') (λ Dd hR=>?_) ?_
 ·refine ⟨_,O,_,O,_,O,_,O,zS1,λ lf hlf=>?_⟩;have s7:Same H6 (upd H6 lf (.lst [.int 30])):=G8 hlf;have k7:(upd H6 lf (.lst [.int 30])) lf=some (.lst [.int 30]):=ag;rw [show upd H6 lf _=upd H6 lf (.lst [.int 30]) from rfl];generalize upd H6 lf (.lst [.int 30])=H7 at s7 k7 ⊢;have s47:=s46.trans s7;have sh7:=sh4.same s47;refine ⟨p,st,l,lf,b,rs,ks,w1,h1,30,10,O,sh7.t,sh7.l,ap sh4.l hp,ap (s46 _ _ sh4.l) hlf,Ne.symm (pt6.ne hlf),sh7.k,sh7.n,sh7.g,b0,w0,w60,h0,h60,k7,by decide,by decide,pt6.same s7,λ v t lt H8 tv okt l0 l1 wtt dpt lvt lf8 pt8 b78=>?_⟩;refine hR v t _ _ _ _ _ _ tv okt (by omega) dpt (by omega) pt8 (λ c o e=>b78 _ _ (ap e hp) (ap (s46 _ _ e) hlf) (s47 _ _ e))
 rintro v t v8 v9 v10 v11 v12 H7 tv okt wtt dpt lvt pt7 s47;clear pt6 s46;have dT:Dt p H7 v (toD t):=TrV.dt t tv;have okT1:=hI t w1 h1 okt;have rwt:=ij t;clear tv;refine aH (λ R=>∀vb db v9 v10 v11 v12 (H':Hp),Dt p H' v (toD t)->Dt p H' vb db->wt db<=1300->NoT db->PotAt H' p->Same H4 H'->R [some (.ref a),some (.ref st),some (.ref sa),some (.int (1 + i)),some (.ref p),some (.int w1),some (.int h1),some v,some vb,v9,v10,v11,v12] H') (λ Dd hR=>?_) ?_
 ·obtain ⟨es,he⟩:=tL t;refine ⟨_,O,_,O,p,v,es,O,he ▸ dT,by rw [<- he]; omega,pt7,λ vb db H8 hb wb nb pt8 b8=>?_⟩;rw [<- he] at wb;exact hR vb db _ _ _ _ _ (dT.but (bu pt7) b8) hb (by omega) nb pt8 (But.same ((dE s47).trans b8) hp)
 rintro vb db v9 v10 v11 v12 H8 dT8 dB8 wdb nob pt8 s48;clear dT pt7 s47;refine aH (λ R=>∀sl ts v10 v11 v12 (H':Hp),H' sl=some (.lst ts)->(∀x∈ts,SdV K H' x)->Dt p H' v (toD t)->Dt p H' vb db->PotAt H' p->Same H4 H'->R [some (.ref a),some (.ref st),some (.ref sa),some (.int (1 + i)),some (.ref p),some (.int w1),some (.int h1),some v,some vb,some (.ref sl),v10,v11,v12] H') (λ Dd hR=>?_) ?_
 ·refine ⟨_,O,p,O,pt8,λ x1 y1 Ha hx1 nx1 pta ba=>⟨_,O,zS2,λ t1 ht1=>?_⟩⟩;obtain ⟨HH1,e1,k1,n1,s1,b1,pt1⟩:=bh (o:=.tup [x1,.int h1]) (ba) pta ht1;rw [show upd Ha t1 _=HH1 from e1]; clear e1;refine ⟨_,O,_,O,p,O,pt1,λ x2 y2 Hb hx2 nx2 ptb bb=>⟨zS2,λ t2 ht2=>?_⟩⟩;obtain ⟨HH2,e2,k2,n2,s2,b2,pt2⟩:=bh (o:=.tup [.int w1,x2]) (b1.trans bb) ptb ht2;rw [show upd Hb t2 _=HH2 from e2]; clear e2;refine ⟨_,O,p,O,pt2,λ x3 y3 Hc hx3 nx3 ptc bc=>⟨_,O,p,O,ptc,λ x4 y4 Hd hx4 nx4 ptd bd=>⟨zS2,λ t3 ht3=>?_⟩⟩⟩;obtain ⟨HH3,e3,k3,n3,s3,b3,pt3⟩:=bh (o:=.tup [x3,x4]) ((b2.trans bc).trans bd) ptd ht3;rw [show upd Hd t3 _=HH3 from e3]; clear e3;refine ⟨zS3,λ sl hsl=>?_⟩;obtain ⟨HH4,e4,k4,n4,s4,b4,pt4⟩:=bh (o:=.lst [.ref t1,.ref t2,.ref t3]) (b3) pt3 hsl;rw [show upd HH3 sl _=HH4 from e4]; clear e4;have d3:But p Hd HH4:=(dE s3).trans (dE s4);have d2:But p HH2 HH4:=(bc.trans bd).trans d3;have d1:But p HH1 HH4:=(bb.trans (dE s2)).trans d2;refine hR sl _ _ _ _ _ k4 ?_ (dT8.but (bu pt8) b4) (dB8.but (bu pt8) b4) pt4 (But.same ((dE s48).trans b4) hp);have u1:=((hx1.same s1).but (bu pt1) d1).ty (K:=K);have u2:=((hx2.same s2).but (bu pt2) d2).ty (K:=K);have u3:=(hx3.but (bu ptc) (bd.trans d3)).ty (K:=K);have u4:=(hx4.but (bu ptd) d3).ty (K:=K);intro x hx;simp only [List.mem_cons,List.not_mem_nil,or_false] at hx;rcases hx with rfl | rfl | rfl
  ·exact ⟨t1,_,_,O,d1 _ _ n1 k1,u1,⟨_,Ty.int⟩,by rw [nx1]; rfl⟩
  ·exact ⟨t2,_,_,O,d2 _ _ n2 k2,⟨_,Ty.int⟩,u2,by rw [nx2,Bool.and_false]⟩
  ·exact ⟨t3,_,_,O,s4 _ _ k3,u3,u4,by rw [nx3]; rfl⟩
 rintro sl ts v10 v11 v12 H9 hsl sds dT9 dB9 pt9 s49;clear dT8 dB8 pt8 s48;have sA9:=cM s49 sA4;have trA:∀ {Hx:Hp},Same H9 Hx->TrA C Hx (.ref sa) (.int w1) (.int h1) v:=λ sx=>.mk ⟨cM sx sA9,w0,h0,dT9.same sx,TrD.to t,okt,by omega,by omega⟩ b0 (by omega) (by omega) k8 sh.g;refine bi (λ σ' H'=>(∃v10 v11 v12,σ'=[some (.ref a),some (.ref st),some (.ref sa),some (.int (1 + i)),some (.ref p),some (.int w1),some (.int h1),some v,some vb,some (.ref sl),v10,v11,v12])/\Same H9 H') (λ R hR=>?_) ?_
 ·refine ⟨_,O,by decide,by decide,?_⟩;refine ej (lo:=0) (n:=6) (λ j σ' H'=>(∃v10 v11 v12,σ'=[some (.ref a),some (.ref st),some (.ref sa),some (.int (1 + i)),some (.ref p),some (.int w1),some (.int h1),some v,some vb,some (.ref sl),v10,v11,v12])/\Same H9 H') ⟨⟨_,_,_,rfl⟩,Same.refl _⟩ ?_ (λ σ' H' e=>hR _ _ e);rintro j _ Ha hj ⟨⟨v10,v11,v12,rfl⟩,sa9⟩;refine bi (λ σ' H'=>(∃v11 v12,σ'=[some (.ref a),some (.ref st),some (.ref sa),some (.int (1 + i)),some (.ref p),some (.int w1),some (.int h1),some v,some vb,some (.ref sl),some (.int (0 + (j:Int))),v11,v12])/\Same H9 H') (λ R hR=>?_) ?_
  ·refine ⟨_,O,sl,O,⟨_,IV (sa9 _ _ hsl)⟩,cP (xs:=ts) (λ k σ' H'=>(∃v11 v12,σ'=[some (.ref a),some (.ref st),some (.ref sa),some (.int (1 + i)),some (.ref p),some (.int w1),some (.int h1),some v,some vb,some (.ref sl),some (.int (0 + (j:Int))),v11,v12])/\Same H9 H') ⟨⟨_,_,O⟩,sa9⟩ (λ k σ H' _ h=>IV (h.2 _ _ hsl)) ?_ (λ σ' H' e=>hR _ _ e)⟩;rintro k x σ Hb hk ⟨⟨v11,v12,rfl⟩,sb⟩;obtain ⟨tt,x1,x2,rfl,htt,bp⟩:=(sds x (B4 hk)).same sb;refine ⟨tt,_,O,IU htt,O,_,_,O,_,_,O,O,?_⟩;refine aH (λ R=>∀ (H':Hp),Same Hb H'->R [some (.ref a),some (.ref st),some (.ref sa),some (.int (1 + i)),some (.ref p),some (.int w1),some (.int h1),some v,some vb,some (.ref sl),some (.int (0 + (j:Int))),some x1,some x2] H') (λ Dd hR=>?_) ?_
   ·refine ⟨_,O,_,O,_,O,_,O,_,O,_,_,_,_,_,_,O,.pl (by omega) (by omega) bp,λ l1 Hc hl1 kl1 sc=>⟨zS1,λ l2 hl2=>?_⟩⟩;obtain ⟨Hd, ed, kd, sd⟩:∃H', upd Hc l2 (.lst [.str "plate"])=H'/\H' l2=some (.lst [.str "plate"])/\Same Hc H':=⟨_, O, ag, G8 hl2⟩
    rw [show upd Hc l2 _=Hd from ed]; clear ed;obtain ⟨dd,g1,g2,g3,g4⟩:=fH K (sd _ _ kl1) kd (Ne.symm ((pt9.same sb).ne hl1)) (Ne.symm ((pt9.same (sb.trans sc)).ne hl2)) (.cons (.str _) .nil) (by decide +kernel) (by decide +kernel);refine ⟨dd,dd,g1,g2,g3,g3,?_⟩;rw [g4];exact ⟨_,O,aA (hR _ (sc.trans sd))⟩
   rintro Hc sc;have sbc:=sb.trans sc;refine ⟨_,O,_,O,_,O,_,O,_,O,_,_,_,_,_,_,O,.pl (by omega) (by omega) (bp.same sc),λ l1 Hd hl1 kl1 sd=>⟨zS1,λ l2 hl2=>?_⟩⟩;obtain ⟨He, ee, ke, se⟩:∃H', upd Hd l2 (.lst [.str "plate"])=H'/\H' l2=some (.lst [.str "plate"])/\Same Hd H':=⟨_, O, ag, G8 hl2⟩
   rw [show upd Hd l2 _=He from ee]; clear ee;obtain ⟨dd,g1,g2,g3,g4⟩:=fH K (se _ _ kl1) ke (Ne.symm ((pt9.same sbc).ne hl1)) (Ne.symm ((pt9.same (sbc.trans sd)).ne hl2)) (.cons (.str _) .nil) (by decide +kernel) (by decide +kernel);refine ⟨dd,dd,g1,g2,g3,g3,?_⟩;rw [g4];exact ⟨_,O,aA ⟨⟨_,_,O⟩,(sbc.trans sd).trans se⟩⟩
  rintro _ Hb ⟨⟨v11,v12,rfl⟩,sb⟩;refine aH (λ R=>∀v11 v12 (H':Hp),Same H9 H'->R [some (.ref a),some (.ref st),some (.ref sa),some (.int (1 + i)),some (.ref p),some (.int w1),some (.int h1),some v,some vb,some (.ref sl),some (.int (0 + (j:Int))),v11,v12] H') (λ Dd hR=>?_) ?_
  ·by_cases c5:j=5
   ·subst c5;refine ⟨_,O,_,O,_,O,_,O,_,O,_,_,_,_,_,_,O,.is (cM sb sA9) w0 h0 (dB9.same sb) (by omega),λ l1 Hc hl1 kl1 sc=>⟨zS1,λ l2 hl2=>?_⟩⟩;obtain ⟨Hd, ed, kd, sd⟩:∃H', upd Hc l2 (.lst [.str "tree"])=H'/\H' l2=some (.lst [.str "tree"])/\Same Hc H':=⟨_, O, ag, G8 hl2⟩
    rw [show upd Hc l2 _=Hd from ed]; clear ed;refine ⟨zS0,λ l3 hl3=>?_⟩;obtain ⟨He,ee,ke,se⟩:∃H',upd Hd l3 (.lst [])=H'/\H' l3=some (.lst [])/\Same Hd H':=⟨_,O,ag,G8 hl3⟩
    rw [show upd Hd l3 _=He from ee]; clear ee;refine ⟨zS2,λ l4 hl4=>?_⟩;obtain ⟨Hf,ef,kf,sf⟩:∃H',upd He l4 (.lst [.ref l2,.ref l3])=H'/\H' l4=some (.lst [.ref l2,.ref l3])/\Same He H':=⟨_,O,ag,G8 hl4⟩
    rw [show upd He l4 _=Hf from ef]; clear ef;refine ⟨_,O,O,.inr ⟨_,O,l4,_,1,.ref l3,O,O,IV kf,O,?_⟩⟩;obtain ⟨dd,g1,g2,g3,g4⟩:=fH K (sf _ _ (se _ _ (sd _ _ kl1))) (sf _ _ ke) (Ne.symm ((pt9.same sb).ne hl1)) (Ne.symm ((pt9.same ((sb.trans sc).trans sd)).ne hl3)) .nil (by decide +kernel) (by decide +kernel);refine ⟨dd,dd,g1,g2,g3,g3,?_⟩;rw [g4];exact ⟨_,O,aA (hR _ _ _ ((((sb.trans sc).trans sd).trans se).trans sf))⟩
   ·refine ⟨_,O,_,O,_,O,_,O,_,O,_,_,_,_,_,_,O,.no (by omega) (by omega) (cM sb sA9) w0 h0 (dB9.same sb) (by omega) (nob _ _ _ _ k8),λ l1 Hc hl1 kl1 sc=>⟨zS1,λ l2 hl2=>?_⟩⟩;obtain ⟨Hd, ed, kd, sd⟩:∃H', upd Hc l2 (.lst [.str "tree"])=H'/\H' l2=some (.lst [.str "tree"])/\Same Hc H':=⟨_, O, ag, G8 hl2⟩
    rw [show upd Hc l2 _=Hd from ed]; clear ed;refine ⟨zS0,λ l3 hl3=>?_⟩;obtain ⟨He,ee,ke,se⟩:∃H',upd Hd l3 (.lst [])=H'/\H' l3=some (.lst [])/\Same Hd H':=⟨_,O,ag,G8 hl3⟩
    rw [show upd Hd l3 _=He from ee]; clear ee;refine ⟨zS2,λ l4 hl4=>?_⟩;obtain ⟨Hf,ef,kf,sf⟩:∃H',upd He l4 (.lst [.ref l2,.ref l3])=H'/\H' l4=some (.lst [.ref l2,.ref l3])/\Same He H':=⟨_,O,ag,G8 hl4⟩
    rw [show upd He l4 _=Hf from ef]; clear ef;refine ⟨_,O,O,.inr ⟨_,O,?_⟩⟩;rw [show decide (V.int (0 + (j:Int))=V.int 5)=false from decide_eq_false (λ z=>c5 (by have:=V.int.inj z; omega))];refine ⟨l4,_,0,.ref l2,O,O,IV kf,O,?_⟩;obtain ⟨dd,g1,g2,g3,g4⟩:=fH K (sf _ _ (se _ _ (sd _ _ kl1))) (sf _ _ (se _ _ kd)) (Ne.symm ((pt9.same sb).ne hl1)) (Ne.symm ((pt9.same (sb.trans sc)).ne hl2)) (.cons (.str _) .nil) (by decide +kernel) (by decide +kernel);refine ⟨dd,dd,g1,g2,g3,g3,?_⟩;rw [g4];exact ⟨_,O,aA (hR _ _ _ ((((sb.trans sc).trans sd).trans se).trans sf))⟩
  rintro v11 v12 Hc sc;have wh:Why K C Hc (0 + (j:Int)) (.ref sa) (.int w1) (.int h1) v []:=by
   by_cases c5:j=5
   ·subst c5; exact .is (cM sc sA9) w0 h0 (dT9.same sc) (by omega)
   ·exact .told (by omega) (by omega) (trA sc)
  refine ⟨_,O,_,O,_,O,_,O,_,O,_,_,_,_,_,_,O,wh,λ l1 Hd hl1 kl1 sd=>⟨zS0,λ l2 hl2=>?_⟩⟩;obtain ⟨He,ee,ke,se⟩:∃H',upd Hd l2 (.lst [])=H'/\H' l2=some (.lst [])/\Same Hd H':=⟨_,O,ag,G8 hl2⟩
  rw [show upd Hd l2 _=He from ee]; clear ee;obtain ⟨dd,g1,g2,g3,g4⟩:=fH K (se _ _ kl1) ke (Ne.symm ((pt9.same sc).ne hl1)) (Ne.symm ((pt9.same (sc.trans sd)).ne hl2)) .nil (by decide +kernel) (by decide +kernel);refine ⟨dd,dd,g1,g2,g3,g3,?_⟩;rw [g4];exact ⟨_,O,aA ⟨⟨_,_,_,O⟩,(sc.trans sd).trans se⟩⟩
 rintro _ Ha ⟨⟨v10,v11,v12,rfl⟩,sa'⟩;refine aH (λ R=>∀v10 v11 v12 (H':Hp),Same H9 H'->R [some (.ref a),some (.ref st),some (.ref sa),some (.int (1 + i)),some (.ref p),some (.int w1),some (.int h1),some v,some vb,some (.ref sl),v10,v11,v12] H') (λ Dd hR=>?_) ?_
 ·refine ⟨_,O,_,O,_,O,_,O,p,sa,b,w1,h1,ks,vb,db,O,cM sa' sA9,w0,h0,dB9.same sa',by omega,λ Hb sb=>?_⟩;rw [nob _ _ _ _ k8];refine ⟨O,false,O,_,O,aA ?_⟩;refine ⟨_,O,_,O,_,O,_,O,p,sa,b,w1,h1,ks,v,_,O,cM (sa'.trans sb) sA9,w0,h0,dT9.same (sa'.trans sb),by omega,λ Hc sc=>?_⟩;rw [okT1];exact ⟨O,true,O,_,O,aA (hR _ _ _ _ ((sa'.trans sb).trans sc))⟩
 rintro v10 v11 v12 Hb sb;refine ⟨_,O,_,O,_,O,_,O,_,O,_,O,H4,p,st,sa,l,b,w1,h1,rs,ks,v,toD t,O,hp,s49.trans sb,sh4,sA4,b0,w0,w60,h0,h60,dT9.same sb,wtt,dpt,by omega,pt9.same sb,λ Hc ptc bc=>⟨_,O,aA ?_⟩⟩;exact ⟨⟨_,_,_,_,_,_,_,_,_,_,O⟩,s24.trans (But.same ((dE (s49.trans sb)).trans bc) hp)⟩
end
theorem Gp {α:Type} {us:List α} (h:us.length=1):∃a,us=[a]:=by
 match us,h with
 | [a],_=>exact ⟨a,O⟩
theorem vG {α:Type} {us:List α} (h:us.length=2):∃a b,us=[a,b]:=by
 match us,h with
 | [a,b],_=>exact ⟨a,b,O⟩
theorem vH {α:Type} {us:List α} (h:us.length=3):∃a b c,us=[a,b,c]:=by
 match us,h with
 | [a,b,c],_=>exact ⟨a,b,c,O⟩
theorem Gq {α:Type} {us:List α} (h:us.length=4):∃a b c d,us=[a,b,c,d]:=by
 match us,h with
 | [a,b,c,d],_=>exact ⟨a,b,c,d,O⟩
theorem Gr {α:Type} {us:List α} (h:us.length=5):∃a b c d e,us=[a,b,c,d,e]:=by
 match us,h with
 | [a,b,c,d,e],_=>exact ⟨a,b,c,d,e,O⟩
abbrev DI (K:C3) (n:Str) (st:Stmt) (f:Addr):Prop:=∃ (od an:Option Addr) (sl:Array (Option G7)) (oc kV dc pm cd ct:G7),PySem.W.nsIn K mainGlobals n=some (some (.ref f))/\K.lookup f=some ⟨oc,od,.func (E3 n n (defArgs st) (defBody st) (defScope st) .none kV dc pm an cd ct),sl⟩/\PySem.W.codeIn K cd n=true/\PySem.W.keepIn K (.ref f)=true
abbrev MI (K:C3) (C:Addr) (n q:Str) (st:Stmt) (f:Addr):Prop:=∃ (od an:Option Addr) (sl:Array (Option G7)) (oc kV dc pm cd ct:G7),PySem.W.findIn K (.ref C) n=some (some (.ref f))/\PySem.W.isFn K (.ref f)=true/\K.lookup f=some ⟨oc,od,.func (E3 n q (defArgs st) (defBody st) (defScope st) .none kV dc pm an cd ct),sl⟩/\PySem.W.codeIn K cd q=true/\PySem.W.keepIn K (.ref f)=true
theorem diM {K:C3} {n:Str} {st:Stmt} {f:Addr} {od an:Option Addr} {sl:Array (Option G7)} {oc kV dc pm cd ct:G7} (a:PySem.W.nsIn K mainGlobals n=some (some (.ref f))) (l:K.lookup f=some ⟨oc,od,.func (E3 n n (defArgs st) (defBody st) (defScope st) .none kV dc pm an cd ct),sl⟩) (c:PySem.W.codeIn K cd n=true) (k:PySem.W.keepIn K (.ref f)=true):DI K n st f:=⟨_,_,_,_,_,_,_,_,_,a,l,c,k⟩
theorem miM {K:C3} {C:Addr} {n q:Str} {st:Stmt} {f:Addr} {od an:Option Addr} {sl:Array (Option G7)} {oc kV dc pm cd ct:G7} (a:PySem.W.findIn K (.ref C) n=some (some (.ref f))) (i:PySem.W.isFn K (.ref f)=true) (l:K.lookup f=some ⟨oc,od,.func (E3 n q (defArgs st) (defBody st) (defScope st) .none kV dc pm an cd ct),sl⟩) (c:PySem.W.codeIn K cd q=true) (k:PySem.W.keepIn K (.ref f)=true):MI K C n q st f:=⟨_,_,_,_,_,_,_,_,_,a,i,l,c,k⟩
inductive DE (K:C3) (mg:Str->Option Value) (n:Str) (st:Stmt) (f:Addr) (ps:List Str):Prop
 | mk (fd:G5) (F:Fun K n n st f fd) (b:Binds K fd ps []) (k:PySem.W.keepIn K (.ref f)=true) (q:mg n=some (.ref f)):DE K mg n st f ps
theorem diE {K:C3} {h:Heap} {mg:Str->Option G7} {n:Str} {st:Stmt} {f:Addr} (X:K.In h) (G:h.Ns mainGlobals mg) (d:DI K n st f) (ps:List Str) (hb:∀ (kV dc pm:G7) (an:Option Addr) (cd ct:G7) (us:List G7),us.length=ps.length->bindArgs (E3 n n (defArgs st) (defBody st) (defScope st) .none kV dc pm an cd ct) ⟨us,[]⟩=pure (ps.zip us)):DE K mg n st f ps:=by obtain ⟨_,_,_,_,_,_,_,_,_,a,l,c,k⟩:=d;have F:=kR (st:=st) l c k;exact ⟨_,F,F.binds hb,k,PySem.W.mg_of X G a⟩
inductive ME (K:C3) (C:Addr) (n q:Str) (st:Stmt) (f:Addr) (ps:List Str):Prop
 | mk (fd:G5) (F:Fun K n q st f fd) (b:Binds K fd ps []) (k:PySem.W.keepIn K (.ref f)=true) (a:PySem.W.findIn K (.ref C) n=some (some (.ref f))) (i:PySem.W.isFn K (.ref f)=true):ME K C n q st f ps
theorem miE {K:C3} {C:Addr} {n q:Str} {st:Stmt} {f:Addr} (d:MI K C n q st f) (ps:List Str) (hb:∀ (kV dc pm:G7) (an:Option Addr) (cd ct:G7) (us:List G7),us.length=ps.length->bindArgs (E3 n q (defArgs st) (defBody st) (defScope st) .none kV dc pm an cd ct) ⟨us,[]⟩=pure (ps.zip us)):ME K C n q st f ps:=by obtain ⟨_,_,_,_,_,_,_,_,_,a,i,l,c,k⟩:=d;have F:=kR (st:=st) l c k;exact ⟨_,F,F.binds hb,k,a,i⟩
theorem bd1 {n q:Str} {st:Stmt} {a:Str} (h:∀ (kV dc pm:G7) (an:Option Addr) (cd ct ua:G7),bindArgs (E3 n q (defArgs st) (defBody st) (defScope st) .none kV dc pm an cd ct) ⟨[ua],[]⟩=pure [(a,ua)]):∀ (kV dc pm:G7) (an:Option Addr) (cd ct:G7) (us:List G7),us.length=[a].length->bindArgs (E3 n q (defArgs st) (defBody st) (defScope st) .none kV dc pm an cd ct) ⟨us,[]⟩=pure ([a].zip us):=by intro _ _ _ _ _ _ us hl;obtain ⟨_,rfl⟩:=Gp hl;exact h _ _ _ _ _ _ _
theorem bd2 {n q:Str} {st:Stmt} {a b:Str} (h:∀ (kV dc pm:G7) (an:Option Addr) (cd ct ua ub:G7),bindArgs (E3 n q (defArgs st) (defBody st) (defScope st) .none kV dc pm an cd ct) ⟨[ua,ub],[]⟩=pure [(a,ua),(b,ub)]):∀ (kV dc pm:G7) (an:Option Addr) (cd ct:G7) (us:List G7),us.length=[a,b].length->bindArgs (E3 n q (defArgs st) (defBody st) (defScope st) .none kV dc pm an cd ct) ⟨us,[]⟩=pure ([a,b].zip us):=by intro _ _ _ _ _ _ us hl;obtain ⟨_,_,rfl⟩:=vG hl;exact h _ _ _ _ _ _ _ _
theorem bd3 {n q:Str} {st:Stmt} {a b c:Str} (h:∀ (kV dc pm:G7) (an:Option Addr) (cd ct ua ub uc:G7),bindArgs (E3 n q (defArgs st) (defBody st) (defScope st) .none kV dc pm an cd ct) ⟨[ua,ub,uc],[]⟩=pure [(a,ua),(b,ub),(c,uc)]):∀ (kV dc pm:G7) (an:Option Addr) (cd ct:G7) (us:List G7),us.length=[a,b,c].length->bindArgs (E3 n q (defArgs st) (defBody st) (defScope st) .none kV dc pm an cd ct) ⟨us,[]⟩=pure ([a,b,c].zip us):=by intro _ _ _ _ _ _ us hl;obtain ⟨_,_,_,rfl⟩:=vH hl;exact h _ _ _ _ _ _ _ _ _
theorem bd4 {n q:Str} {st:Stmt} {a b c d:Str} (h:∀ (kV dc pm:G7) (an:Option Addr) (cd ct ua ub uc ud:G7),bindArgs (E3 n q (defArgs st) (defBody st) (defScope st) .none kV dc pm an cd ct) ⟨[ua,ub,uc,ud],[]⟩=pure [(a,ua),(b,ub),(c,uc),(d,ud)]):∀ (kV dc pm:G7) (an:Option Addr) (cd ct:G7) (us:List G7),us.length=[a,b,c,d].length->bindArgs (E3 n q (defArgs st) (defBody st) (defScope st) .none kV dc pm an cd ct) ⟨us,[]⟩=pure ([a,b,c,d].zip us):=by intro _ _ _ _ _ _ us hl;obtain ⟨_,_,_,_,rfl⟩:=Gq hl;exact h _ _ _ _ _ _ _ _ _ _
theorem bd5 {n q:Str} {st:Stmt} {a b c d e:Str} (h:∀ (kV dc pm:G7) (an:Option Addr) (cd ct ua ub uc ud ue:G7),bindArgs (E3 n q (defArgs st) (defBody st) (defScope st) .none kV dc pm an cd ct) ⟨[ua,ub,uc,ud,ue],[]⟩=pure [(a,ua),(b,ub),(c,uc),(d,ud),(e,ue)]):∀ (kV dc pm:G7) (an:Option Addr) (cd ct:G7) (us:List G7),us.length=[a,b,c,d,e].length->bindArgs (E3 n q (defArgs st) (defBody st) (defScope st) .none kV dc pm an cd ct) ⟨us,[]⟩=pure ([a,b,c,d,e].zip us):=by intro _ _ _ _ _ _ us hl;obtain ⟨_,_,_,_,_,rfl⟩:=Gr hl;exact h _ _ _ _ _ _ _ _ _ _ _
theorem lx6 {α:Type} {us:List α} (h:us.length=6):∃a b c d e f,us=[a,b,c,d,e,f]:=by
 match us,h with
 | [a,b,c,d,e,f],_=>exact ⟨a,b,c,d,e,f,O⟩
theorem bd6 {n q:Str} {st:Stmt} {a b c d e f:Str} (h:∀ (kV dc pm:G7) (an:Option Addr) (cd ct ua ub uc ud ue uf:G7),bindArgs (E3 n q (defArgs st) (defBody st) (defScope st) .none kV dc pm an cd ct) ⟨[ua,ub,uc,ud,ue,uf],[]⟩=pure [(a,ua),(b,ub),(c,uc),(d,ud),(e,ue),(f,uf)]):∀ (kV dc pm:G7) (an:Option Addr) (cd ct:G7) (us:List G7),us.length=[a,b,c,d,e,f].length->bindArgs (E3 n q (defArgs st) (defBody st) (defScope st) .none kV dc pm an cd ct) ⟨us,[]⟩=pure ([a,b,c,d,e,f].zip us):=by intro _ _ _ _ _ _ us hl;obtain ⟨_,_,_,_,_,_,rfl⟩:=lx6 hl;exact h _ _ _ _ _ _ _ _ _ _ _ _
theorem lx7 {α:Type} {us:List α} (h:us.length=7):∃a b c d e f g,us=[a,b,c,d,e,f,g]:=by
 match us,h with
 | [a,b,c,d,e,f,g],_=>exact ⟨a,b,c,d,e,f,g,O⟩
theorem bd7 {n q:Str} {st:Stmt} {a b c d e f g:Str} (h:∀ (kV dc pm:G7) (an:Option Addr) (cd ct ua ub uc ud ue uf ug:G7),bindArgs (E3 n q (defArgs st) (defBody st) (defScope st) .none kV dc pm an cd ct) ⟨[ua,ub,uc,ud,ue,uf,ug],[]⟩=pure [(a,ua),(b,ub),(c,uc),(d,ud),(e,ue),(f,uf),(g,ug)]):∀ (kV dc pm:G7) (an:Option Addr) (cd ct:G7) (us:List G7),us.length=[a,b,c,d,e,f,g].length->bindArgs (E3 n q (defArgs st) (defBody st) (defScope st) .none kV dc pm an cd ct) ⟨us,[]⟩=pure ([a,b,c,d,e,f,g].zip us):=by intro _ _ _ _ _ _ us hl;obtain ⟨_,_,_,_,_,_,_,rfl⟩:=lx7 hl;exact h _ _ _ _ _ _ _ _ _ _ _ _ _
theorem HW {α:Type} {us:List α} (h:us.length=6):∃a b c d e f,us=[a,b,c,d,e,f]:=by
 match us,h with
 | [a,b,c,d,e,f],_=>exact ⟨a,b,c,d,e,f,O⟩
theorem HX {α:Type} {us:List α} (h:us.length=7):∃a b c d e f g,us=[a,b,c,d,e,f,g]:=by
 match us,h with
 | [a,b,c,d,e,f,g],_=>exact ⟨a,b,c,d,e,f,g,O⟩
open PySem.W in
theorem all_mk {l:OpenLaw} {w:G6} {K:Frag} {h:Heap} {mg:Str->Option G7} {fa f0 f1 f2 f3 f4 f5 f6 f7 f8 f9 f10 f11 f12 f13 f14 f15 f16 f17 f18 f19 f20 f21 f22 f23 f24 f25 f26 f27 f28 f29 f30 f31 f32 f33 f34 f35 f36 f37 f38 f39 f40 f41 C fm0 fm1 fm2 fm3 fm4 xWAYS xPlateError xNoPlate xNoTree xNoBlade xNoKind xNoKinds xNoLaying xNoLying xNoNumber xNoTable xNoTelling xNoText xNoWeights xTooLarge:Addr} (X:K.In h) (G:h.Ns mainGlobals mg) (hfa:mg "law" = some (.ref fa))
  {tc0:Tok} {tc1:Tok} {tc2:Tok} {tc3:Tok} {tc4:Tok} {tc5:Tok} {tc6:Tok} {tc7:Tok}
  (d0:DI K "is_whole" jp f0)
  (d1:DI K "is_truth" jq f1)
  (d2:DI K "is_row" sO f2)
  (d3:DI K "is_kind" gx f3)
  (d4:DI K "can_lie_turned" gy f4)
  (d5:DI K "check_plate" bM f5)
  (d6:DI K "lies_in" gv f6)
  (d7:DI K "cut_parts" eC f7)
  (d8:DI K "begins_with" cL f8)
  (d9:DI K "is_cut" jr f9)
  (d10:DI K "is_leaf" gw f10)
  (d11:DI K "spots_behind" ck f11)
  (d12:DI K "is_tree" eD f12)
  (d13:DI K "check_tree" bY f13)
  (d14:DI K "leaves_of" eE f14)
  (d15:DI K "pieces_of" cx f15)
  (d16:DI K "counts_of" bZ f16)
  (d17:DI K "worth_of" cG f17)
  (d18:DI K "rests_of" cF f18)
  (d19:DI K "areas_of" cT f19)
  (d20:DI K "_law_pot" sP f20)
  (d21:DI K "_law_draw" mS f21)
  (d22:DI K "_law_number" gz f22)
  (d23:DI K "_law_kind" mU f23)
  (d24:DI K "_law_shop" mV f24)
  (d25:DI K "_law_plate" js f25)
  (d26:DI K "_law_fitting" dW f26)
  (d27:DI K "_law_leaf" mW f27)
  (d28:DI K "_law_tree" iK f28)
  (d29:DI K "_law_which" jt f29)
  (d30:DI K "_law_asked" ju f30)
  (d31:DI K "_law_why" sQ f31)
  (d32:DI K "_law_is_whole" fC f32)
  (d33:DI K "_law_is_piece" fD f33)
  (d34:DI K "_law_is_tree" cV f34)
  (d35:DI K "_law_listed" dD f35)
  (d36:DI K "_law_other" jv f36)
  (d37:DI K "_law_spoilt" eF f37)
  (d38:DI K "_law_bad_side" fA f38)
  (d39:DI K "_law_bad_tree" fB f39)
  (d40:DI K "_law_measured" cW f40)
  (d41:DI K "law" jV f41)
  (aC:nsIn K mainGlobals "Shop" = some (some (.ref C)))
  (dm0:MI K C "__init__" "Shop.__init__" cU fm0)
  (dm1:MI K C "blade" "Shop.blade" dw fm1)
  (dm2:MI K C "kinds" "Shop.kinds" dB fm2)
  (dm3:MI K C "is_lying" "Shop.is_lying" cm fm3)
  (dm4:MI K C "sides" "Shop.sides" dC fm4)
  (pg:plainGet K C Str.empty=true)
  (hd:hasDictIn K C=true)
  (po:plainOver K C=true)
  (sa:findIn K (.ref C) "__setattr__" = some (some (.builtin "object.__setattr__")))
  (mk:makesIn K C=true)
  (kc:keepIn K (.ref C)=true)
  (n0:findIn K (.ref C) "blade_width" = some none)
  (n1:findIn K (.ref C) "kind_rows" = some none)
  (eWAYS:nsIn K mainGlobals "WAYS" = some (some (.ref xWAYS)))
  (ePlateError:nsIn K mainGlobals "PlateError" = some (some (.ref xPlateError)))
  (eNoPlate:nsIn K mainGlobals "NoPlate" = some (some (.ref xNoPlate)))
  (eNoTree:nsIn K mainGlobals "NoTree" = some (some (.ref xNoTree)))
  (eNoBlade:nsIn K mainGlobals "NoBlade" = some (some (.ref xNoBlade)))
  (eNoKind:nsIn K mainGlobals "NoKind" = some (some (.ref xNoKind)))
  (eNoKinds:nsIn K mainGlobals "NoKinds" = some (some (.ref xNoKinds)))
  (eNoLaying:nsIn K mainGlobals "NoLaying" = some (some (.ref xNoLaying)))
  (eNoLying:nsIn K mainGlobals "NoLying" = some (some (.ref xNoLying)))
  (eNoNumber:nsIn K mainGlobals "NoNumber" = some (some (.ref xNoNumber)))
  (eNoTable:nsIn K mainGlobals "NoTable" = some (some (.ref xNoTable)))
  (eNoTelling:nsIn K mainGlobals "NoTelling" = some (some (.ref xNoTelling)))
  (eNoText:nsIn K mainGlobals "NoText" = some (some (.ref xNoText)))
  (eNoWeights:nsIn K mainGlobals "NoWeights" = some (some (.ref xNoWeights)))
  (eTooLarge:nsIn K mainGlobals "TooLarge" = some (some (.ref xTooLarge)))
  (lWAYS:∃ (o:Obj) (its:Array G7) (n:Nat),K.lookup xWAYS=some o/\o.cls=.type "tuple" /\ o.data=.seq its n/\its.size<=sizeLine/\Vals [.str "down",.str "across"] its.toList)
  (cPlateError:excIn K xPlateError L2.bmVE "ValueError.__new__" = true)
  (cNoPlate:excIn K xNoPlate L2.bmVE "ValueError.__new__" = true)
  (cNoTree:excIn K xNoTree L2.bmVE "ValueError.__new__" = true)
  (cNoBlade:excIn K xNoBlade L2.bmVE "ValueError.__new__" = true)
  (cNoKind:excIn K xNoKind L2.bmVE "ValueError.__new__" = true)
  (cNoKinds:excIn K xNoKinds L2.bmVE "ValueError.__new__" = true)
  (cNoLaying:excIn K xNoLaying L2.bmVE "ValueError.__new__" = true)
  (cNoLying:excIn K xNoLying L2.bmVE "ValueError.__new__" = true)
  (cNoNumber:excIn K xNoNumber L2.bmVE "ValueError.__new__" = true)
  (cNoTable:excIn K xNoTable L2.bmVE "ValueError.__new__" = true)
  (cNoTelling:excIn K xNoTelling L2.bmVE "ValueError.__new__" = true)
  (cNoText:excIn K xNoText L2.bmVE "ValueError.__new__" = true)
  (cNoWeights:excIn K xNoWeights L2.bmVE "ValueError.__new__" = true)
  (cTooLarge:excIn K xTooLarge L2.bmVE "ValueError.__new__" = true)
  (sNoPlatePlateError:subIn K (.ref xNoPlate) (.ref xPlateError)=some true)
  (sNoPlateNoPlate:subIn K (.ref xNoPlate) (.ref xNoPlate)=some true)
  (sNoPlateNoTree:subIn K (.ref xNoPlate) (.ref xNoTree)=some false)
  (sNoPlateNoBlade:subIn K (.ref xNoPlate) (.ref xNoBlade)=some false)
  (sNoPlateNoKind:subIn K (.ref xNoPlate) (.ref xNoKind)=some false)
  (sNoPlateNoKinds:subIn K (.ref xNoPlate) (.ref xNoKinds)=some false)
  (sNoPlateNoLaying:subIn K (.ref xNoPlate) (.ref xNoLaying)=some false)
  (sNoPlateNoLying:subIn K (.ref xNoPlate) (.ref xNoLying)=some false)
  (sNoPlateNoNumber:subIn K (.ref xNoPlate) (.ref xNoNumber)=some false)
  (sNoPlateNoTable:subIn K (.ref xNoPlate) (.ref xNoTable)=some false)
  (sNoPlateNoTelling:subIn K (.ref xNoPlate) (.ref xNoTelling)=some false)
  (sNoPlateNoText:subIn K (.ref xNoPlate) (.ref xNoText)=some false)
  (sNoPlateNoWeights:subIn K (.ref xNoPlate) (.ref xNoWeights)=some false)
  (sNoPlateTooLarge:subIn K (.ref xNoPlate) (.ref xTooLarge)=some false)
  (vNoPlate:subIn K (.ref xNoPlate) (.type "ValueError")=some true)
  (kaNoPlate:findIn K (.ref xNoPlate) "__class__" = some (some (.builtin "object.__class__")))
  (kbNoPlate:findIn K (.ref xNoPlate) "__getattribute__" = some (some (.builtin "BaseException.__getattribute__")))
  (kcNoPlate:findIn K (.ref xNoPlate) "__getattr__" = some none)
  (kdNoPlate:subIn K (.ref xNoPlate) (.type "BaseException")=some true)
  (keNoPlate:subIn K (.ref xNoPlate) (.type "object")=some true)
  (sNoTreePlateError:subIn K (.ref xNoTree) (.ref xPlateError)=some true)
  (sNoTreeNoPlate:subIn K (.ref xNoTree) (.ref xNoPlate)=some false)
  (sNoTreeNoTree:subIn K (.ref xNoTree) (.ref xNoTree)=some true)
  (sNoTreeNoBlade:subIn K (.ref xNoTree) (.ref xNoBlade)=some false)
  (sNoTreeNoKind:subIn K (.ref xNoTree) (.ref xNoKind)=some false)
  (sNoTreeNoKinds:subIn K (.ref xNoTree) (.ref xNoKinds)=some false)
  (sNoTreeNoLaying:subIn K (.ref xNoTree) (.ref xNoLaying)=some false)
  (sNoTreeNoLying:subIn K (.ref xNoTree) (.ref xNoLying)=some false)
  (sNoTreeNoNumber:subIn K (.ref xNoTree) (.ref xNoNumber)=some false)
  (sNoTreeNoTable:subIn K (.ref xNoTree) (.ref xNoTable)=some false)
  (sNoTreeNoTelling:subIn K (.ref xNoTree) (.ref xNoTelling)=some false)
  (sNoTreeNoText:subIn K (.ref xNoTree) (.ref xNoText)=some false)
  (sNoTreeNoWeights:subIn K (.ref xNoTree) (.ref xNoWeights)=some false)
  (sNoTreeTooLarge:subIn K (.ref xNoTree) (.ref xTooLarge)=some false)
  (vNoTree:subIn K (.ref xNoTree) (.type "ValueError")=some true)
  (kaNoTree:findIn K (.ref xNoTree) "__class__" = some (some (.builtin "object.__class__")))
  (kbNoTree:findIn K (.ref xNoTree) "__getattribute__" = some (some (.builtin "BaseException.__getattribute__")))
  (kcNoTree:findIn K (.ref xNoTree) "__getattr__" = some none)
  (kdNoTree:subIn K (.ref xNoTree) (.type "BaseException")=some true)
  (keNoTree:subIn K (.ref xNoTree) (.type "object")=some true)
  (bPlateError:subIn K (.ref xPlateError) (.type "BaseException")=some true)
  (z0:nsIn K mainGlobals "isinstance" = some none)
  (z1:nsIn K mainGlobals "int" = some none)
  (z2:nsIn K mainGlobals "bool" = some none)
  (z3:nsIn K mainGlobals "list" = some none)
  (z4:nsIn K mainGlobals "tuple" = some none)
  (z5:nsIn K mainGlobals "len" = some none)
  (z6:nsIn K mainGlobals "range" = some none)
  (z7:nsIn K mainGlobals "max" = some none)
  (z8:nsIn K mainGlobals "min" = some none)
  (z9:nsIn K mainGlobals "abs" = some none)
  (z10:nsIn K mainGlobals "divmod" = some none)
  (z11:nsIn K mainGlobals "sum" = some none)
  (z12:nsIn K mainGlobals "sorted" = some none)
  (z13:nsIn K mainGlobals "all" = some none)
  (z14:nsIn K mainGlobals "repr" = some none)
  (z15:nsIn K mainGlobals "zip" = some none)
  (z16:nsIn K mainGlobals "enumerate" = some none)
  (z17:nsIn K mainGlobals "str" = some none)
  (z18:nsIn K mainGlobals "ValueError" = some none)
  (uc0:nsIn K mainGlobals "MOST_KINDS" = some (some (.int 8 tc0)))
  (uc1:nsIn K mainGlobals "THINGS_OF_A_KIND" = some (some (.int 5 tc1)))
  (uc2:nsIn K mainGlobals "DOWN" = some (some (.str "down" tc2)))
  (uc3:nsIn K mainGlobals "REST" = some (some (.str "rest" tc3)))
  (uc4:nsIn K mainGlobals "PIECE" = some (some (.str "piece" tc4)))
  (uc5:nsIn K mainGlobals "THINGS_OF_A_REST" = some (some (.int 1 tc5)))
  (uc6:nsIn K mainGlobals "THINGS_OF_A_PIECE" = some (some (.int 5 tc6)))
  (uc7:nsIn K mainGlobals "THINGS_OF_A_CUT" = some (some (.int 4 tc7))) :
  ∃fd:G5,(∀ (s:G3) (v:G7),BindsTo s fd ⟨[v],[]⟩ [("_law_script",v)])/\∀base:Heap,K.In base->base.Ns mainGlobals mg->FnOk l.prog w K mg base CX0 20 fa fd ["_law_script"] (spLaw K):=by
 obtain ⟨_,F0,b0,k0,q0⟩:=diE X G d0 ["thing","least"] (bd2 λ _ _ _ _ _ _ _ _=>rfl);obtain ⟨_,F1,b1,k1,q1⟩:=diE X G d1 ["thing"] (bd1 λ _ _ _ _ _ _ _=>rfl);obtain ⟨_,F2,b2,k2,q2⟩:=diE X G d2 ["thing"] (bd1 λ _ _ _ _ _ _ _=>rfl);obtain ⟨_,F3,b3,k3,q3⟩:=diE X G d3 ["thing"] (bd1 λ _ _ _ _ _ _ _=>rfl);obtain ⟨_,F4,b4,k4,q4⟩:=diE X G d4 ["kind"] (bd1 λ _ _ _ _ _ _ _=>rfl);obtain ⟨_,F5,b5,k5,q5⟩:=diE X G d5 ["wide","high"] (bd2 λ _ _ _ _ _ _ _ _=>rfl);obtain ⟨_,F6,b6,k6,q6⟩:=diE X G d6 ["shop","wide","high","kind","turned","x","y"] (bd7 λ _ _ _ _ _ _ _ _ _ _ _ _ _=>rfl);obtain ⟨_,F7,b7,k7,q7⟩:=diE X G d7 ["blade","part","way","p"] (bd4 λ _ _ _ _ _ _ _ _ _ _=>rfl);obtain ⟨_,F8,b8,k8,q8⟩:=diE X G d8 ["thing","word","many"] (bd3 λ _ _ _ _ _ _ _ _ _=>rfl);obtain ⟨_,F9,b9,k9,q9⟩:=diE X G d9 ["blade","spot"] (bd2 λ _ _ _ _ _ _ _ _=>rfl);obtain ⟨_,F10,b10,k10,q10⟩:=diE X G d10 ["shop","spot"] (bd2 λ _ _ _ _ _ _ _ _=>rfl);obtain ⟨_,F11,b11,k11,q11⟩:=diE X G d11 ["blade","spot"] (bd2 λ _ _ _ _ _ _ _ _=>rfl);obtain ⟨_,F12,b12,k12,q12⟩:=diE X G d12 ["shop","wide","high","thing"] (bd4 λ _ _ _ _ _ _ _ _ _ _=>rfl);obtain ⟨_,F13,b13,k13,q13⟩:=diE X G d13 ["shop","wide","high","thing"] (bd4 λ _ _ _ _ _ _ _ _ _ _=>rfl);obtain ⟨_,F14,b14,k14,q14⟩:=diE X G d14 ["shop","wide","high","tree"] (bd4 λ _ _ _ _ _ _ _ _ _ _=>rfl);obtain ⟨_,F15,b15,k15,q15⟩:=diE X G d15 ["shop","wide","high","tree"] (bd4 λ _ _ _ _ _ _ _ _ _ _=>rfl);obtain ⟨_,F16,b16,k16,q16⟩:=diE X G d16 ["shop","wide","high","tree"] (bd4 λ _ _ _ _ _ _ _ _ _ _=>rfl);obtain ⟨_,F17,b17,k17,q17⟩:=diE X G d17 ["shop","wide","high","tree"] (bd4 λ _ _ _ _ _ _ _ _ _ _=>rfl);obtain ⟨_,F18,b18,k18,q18⟩:=diE X G d18 ["shop","wide","high","tree"] (bd4 λ _ _ _ _ _ _ _ _ _ _=>rfl);obtain ⟨_,F19,b19,k19,q19⟩:=diE X G d19 ["shop","wide","high","tree"] (bd4 λ _ _ _ _ _ _ _ _ _ _=>rfl);obtain ⟨_,F20,b20,k20,q20⟩:=diE X G d20 ["_law_script","_law_place"] (bd2 λ _ _ _ _ _ _ _ _=>rfl);obtain ⟨_,F21,b21,k21,q21⟩:=diE X G d21 ["_law_pot_here","_law_many"] (bd2 λ _ _ _ _ _ _ _ _=>rfl);obtain ⟨_,F22,b22,k22,q22⟩:=diE X G d22 ["_law_pot_here","_law_least"] (bd2 λ _ _ _ _ _ _ _ _=>rfl);obtain ⟨_,F23,b23,k23,q23⟩:=diE X G d23 ["_law_pot_here"] (bd1 λ _ _ _ _ _ _ _=>rfl);obtain ⟨_,F24,b24,k24,q24⟩:=diE X G d24 ["_law_pot_here"] (bd1 λ _ _ _ _ _ _ _=>rfl);obtain ⟨_,F25,b25,k25,q25⟩:=diE X G d25 ["_law_pot_here"] (bd1 λ _ _ _ _ _ _ _=>rfl);obtain ⟨_,F26,b26,k26,q26⟩:=diE X G d26 ["_law_kinds","_law_wide","_law_high"] (bd3 λ _ _ _ _ _ _ _ _ _=>rfl);obtain ⟨_,F27,b27,k27,q27⟩:=diE X G d27 ["_law_pot_here","_law_kinds","_law_wide","_law_high"] (bd4 λ _ _ _ _ _ _ _ _ _ _=>rfl);obtain ⟨_,F28,b28,k28,q28⟩:=diE X G d28 ["_law_pot_here","_law_shop_here","_law_wide","_law_high","_law_left","_law_deep"] (bd6 λ _ _ _ _ _ _ _ _ _ _ _ _=>rfl);obtain ⟨_,F29,b29,k29,q29⟩:=diE X G d29 ["_law_e"] (bd1 λ _ _ _ _ _ _ _=>rfl);obtain ⟨_,F30,b30,k30,q30⟩:=diE X G d30 ["_law_what","_law_shop_here","_law_wide","_law_high","_law_tree_here"] (bd5 λ _ _ _ _ _ _ _ _ _ _ _=>rfl);obtain ⟨_,F31,b31,k31,q31⟩:=diE X G d31 ["_law_what","_law_shop_here","_law_wide","_law_high","_law_tree_here"] (bd5 λ _ _ _ _ _ _ _ _ _ _ _=>rfl);obtain ⟨_,F32,b32,k32,q32⟩:=diE X G d32 ["_law_thing","_law_least"] (bd2 λ _ _ _ _ _ _ _ _=>rfl);obtain ⟨_,F33,b33,k33,q33⟩:=diE X G d33 ["_law_shop_here","_law_wide","_law_high","_law_tree_here"] (bd4 λ _ _ _ _ _ _ _ _ _ _=>rfl);obtain ⟨_,F34,b34,k34,q34⟩:=diE X G d34 ["_law_shop_here","_law_wide","_law_high","_law_tree_here"] (bd4 λ _ _ _ _ _ _ _ _ _ _=>rfl);obtain ⟨_,F35,b35,k35,q35⟩:=diE X G d35 ["_law_thing"] (bd1 λ _ _ _ _ _ _ _=>rfl);obtain ⟨_,F36,b36,k36,q36⟩:=diE X G d36 ["_law_pot_here","_law_thing"] (bd2 λ _ _ _ _ _ _ _ _=>rfl);obtain ⟨_,F37,b37,k37,q37⟩:=diE X G d37 ["_law_pot_here","_law_thing","_law_deep"] (bd3 λ _ _ _ _ _ _ _ _ _=>rfl);obtain ⟨_,F38,b38,k38,q38⟩:=diE X G d38 ["_law_pot_here"] (bd1 λ _ _ _ _ _ _ _=>rfl);obtain ⟨_,F39,b39,k39,q39⟩:=diE X G d39 ["_law_pot_here","_law_tree_here"] (bd2 λ _ _ _ _ _ _ _ _=>rfl)
 obtain ⟨_,F40,b40,k40,q40⟩:=diE X G d40 ["_law_pot_here","_law_told","_law_shop_here","_law_wide","_law_high","_law_tree_here"] (bd6 λ _ _ _ _ _ _ _ _ _ _ _ _=>rfl);obtain ⟨_,an,_,_,kV,dc,pm,cd,ct,a41,l41,c41,k41⟩:=d41;have F41:=kR (st:=jV) l41 c41 k41;obtain ⟨_,Fm0,bm0,km0,am0,im0⟩:=miE dm0 ["self","blade","kinds"] (bd3 λ _ _ _ _ _ _ _ _ _=>rfl);obtain ⟨_,Fm1,bm1,km1,am1,im1⟩:=miE dm1 ["self"] (bd1 λ _ _ _ _ _ _ _=>rfl);obtain ⟨_,Fm2,bm2,km2,am2,im2⟩:=miE dm2 ["self"] (bd1 λ _ _ _ _ _ _ _=>rfl);obtain ⟨_,Fm3,bm3,km3,am3,im3⟩:=miE dm3 ["self","kind","turned"] (bd3 λ _ _ _ _ _ _ _ _ _=>rfl);obtain ⟨_,Fm4,bm4,km4,am4,im4⟩:=miE dm4 ["self","kind","turned"] (bd3 λ _ _ _ _ _ _ _ _ _=>rfl);have e:=hfa.symm.trans (mg_of X G a41);cases e;have y0:=mg_none_of X G z0;have y1:=mg_none_of X G z1;have y2:=mg_none_of X G z2;have y3:=mg_none_of X G z3;have y4:=mg_none_of X G z4;have y5:=mg_none_of X G z5;have y6:=mg_none_of X G z6;have y7:=mg_none_of X G z7;have y8:=mg_none_of X G z8;have y9:=mg_none_of X G z9;have y10:=mg_none_of X G z10;have y11:=mg_none_of X G z11;have y12:=mg_none_of X G z12;have y13:=mg_none_of X G z13;have y14:=mg_none_of X G z14;have y15:=mg_none_of X G z15;have y16:=mg_none_of X G z16;have y17:=mg_none_of X G z17;have y18:=mg_none_of X G z18;have gWAYS:=mg_of X G eWAYS;have gPlateError:=mg_of X G ePlateError;have gNoPlate:=mg_of X G eNoPlate;have gNoTree:=mg_of X G eNoTree;have gNoBlade:=mg_of X G eNoBlade;have gNoKind:=mg_of X G eNoKind;have gNoKinds:=mg_of X G eNoKinds;have gNoLaying:=mg_of X G eNoLaying;have gNoLying:=mg_of X G eNoLying;have gNoNumber:=mg_of X G eNoNumber;have gNoTable:=mg_of X G eNoTable;have gNoTelling:=mg_of X G eNoTelling;have gNoText:=mg_of X G eNoText;have gNoWeights:=mg_of X G eNoWeights;have gTooLarge:=mg_of X G eTooLarge;have u0:=mg_of X G uc0;have u1:=mg_of X G uc1;have u2:=mg_of X G uc2;have u3:=mg_of X G uc3;have u4:=mg_of X G uc4;have u5:=mg_of X G uc5;have u6:=mg_of X G uc6;have u7:=mg_of X G uc7;have qC:=mg_of X G aC;refine ⟨fnOf "law" "law" (defArgs jV) (defBody jV) (defScope jV) .none kV dc pm an cd ct,λ s v=>.of_eq rfl,λ base _ _=>?_⟩;have B:Blt mg:=⟨y0,y1,y2,y3,y4,y5,y6,y7,y8,y9,y10,y11,y12,y13,y14,y15,y16,⟨_,u0⟩,⟨_,u1⟩⟩
 have T:ShopTxt K C:=⟨⟨pg,hd,po,sa⟩,n0,n1⟩
 have Z:TrC K mg xWAYS:=⟨⟨_,u2⟩,⟨_,u3⟩,⟨_,u4⟩,⟨_,u5⟩,⟨_,u6⟩,⟨_,u7⟩,gWAYS,λ H=>.inr lWAYS⟩
 have D0:Dn l.prog w K mg base "is_whole" ["thing","least"] 1 (bB K):=⟨_,_,qA F0 B,b0,k0,q0⟩
 have D1:Dn l.prog w K mg base "is_truth" ["thing"] 1 (gr K):=⟨_,_,qB F1 B,b1,k1,q1⟩
 have D2:Dn l.prog w K mg base "is_row" ["thing"] 1 (jM K):=⟨_,_,vt F2 B,b2,k2,q2⟩
 have D3:Dn l.prog w K mg base "is_kind" ["thing"] 2 (fu K):=⟨_,_,nP F3 B D0 D1 D2,b3,k3,q3⟩
 have D4:Dn l.prog w K mg base "can_lie_turned" ["kind"] 1 (gU K):=⟨_,_,nQ F4,b4,k4,q4⟩
 have MB:Mn l.prog w K mg base C "blade" ["self"] 1 (gs C):=⟨_,_,qD Fm1 T,bm1,⟨am1,im1,km1⟩⟩
 have MK:Mn l.prog w K mg base C "kinds" ["self"] 1 (gt C):=⟨_,_,qE Fm2 T y3,bm2,⟨am2,im2,km2⟩⟩
 have MI:Mn l.prog w K mg base C "is_lying" ["self","kind","turned"] 2 (eA K C):=⟨_,_,lr Fm3 B T D0 D1 D4,bm3,⟨am3,im3,km3⟩⟩
 have MS:Mn l.prog w K mg base C "sides" ["self","kind","turned"] 3 (spSides K C):=⟨_,_,qH Fm4 T MI,bm4,⟨am4,im4,km4⟩⟩
 have DS:Kn l.prog w K mg base "Shop" C ["self","blade","kinds"] 3 (kZ C):=⟨_,_,⟨mk,am0,im0,kc⟩,sT Fm0 B T D0 D2 D3,bm0,qC⟩
 have D5:Dn l.prog w K mg base "check_plate" ["wide","high"] 2 (spCP):=⟨_,_,nX F5 D0,b5,k5,q5⟩
 have D6:Dn l.prog w K mg base "lies_in" ["shop","wide","high","kind","turned","x","y"] 4 (spLiesG K C):=⟨_,_,qJ F6 T D0 MI MS,b6,k6,q6⟩
 have D7:Dn l.prog w K mg base "cut_parts" ["blade","part","way","p"] 1 (spParts2):=⟨_,_,nU F7 Z,b7,k7,q7⟩
 have D8:Dn l.prog w K mg base "begins_with" ["thing","word","many"] 2 (spBegins):=⟨_,_,nT F8 B y17 D2,b8,k8,q8⟩
 have D9:Dn l.prog w K mg base "is_cut" ["blade","spot"] 3 (spCut):=⟨_,_,vw F9 Z D8 D0,b9,k9,q9⟩
 have D10:Dn l.prog w K mg base "is_leaf" ["shop","spot"] 5 (spLeaf C):=⟨_,_,sX F10 Z D8 D6,b10,k10,q10⟩
 have D11:Dn l.prog w K mg base "spots_behind" ["blade","spot"] 2 (spBehind):=⟨_,_,nV F11 Z D7,b11,k11,q11⟩
 have D12:Dn l.prog w K mg base "is_tree" ["shop","wide","high","thing"] 6 (spIsTree C):=⟨_,_,iL F12 T MB D5 D9 D10 D11,b12,k12,q12⟩
 have D13:Dn l.prog w K mg base "check_tree" ["shop","wide","high","thing"] 7 (spCheckT C):=⟨_,_,ot F13 D12,b13,k13,q13⟩
 have D14:Dn l.prog w K mg base "leaves_of" ["shop","wide","high","tree"] 3 (spLeaves C):=⟨_,_,oq F14 T Z MB D11,b14,k14,q14⟩
 have D15:Dn l.prog w K mg base "pieces_of" ["shop","wide","high","tree"] 8 (spPieces C):=⟨_,_,iN F15 B Z D13 D14,b15,k15,q15⟩
 have D16:Dn l.prog w K mg base "counts_of" ["shop","wide","high","tree"] 9 (spCountsO C):=⟨_,_,ia F16 B T MK D15,b16,k16,q16⟩
 have D17:Dn l.prog w K mg base "worth_of" ["shop","wide","high","tree"] 10 (spWorthO C):=⟨_,_,iO F17 B T MK D16,b17,k17,q17⟩
 have D18:Dn l.prog w K mg base "rests_of" ["shop","wide","high","tree"] 8 (spRests C):=⟨_,_,ko F18 B Z D13 D14,b18,k18,q18⟩
 have D19:Dn l.prog w K mg base "areas_of" ["shop","wide","high","tree"] 8 (spAreas C):=⟨_,_,kq F19 B T Z MS D13 D14,b19,k19,q19⟩
 have D20:Dn l.prog w K mg base "_law_pot" ["_law_script","_law_place"] 1 (qi K):=⟨_,_,vx F20 B.len B.int,b20,k20,q20⟩
 have D21:Dn l.prog w K mg base "_law_draw" ["_law_pot_here","_law_many"] 1 (bP):=⟨_,_,sY F21,b21,k21,q21⟩
 have D22:Dn l.prog w K mg base "_law_number" ["_law_pot_here","_law_least"] 2 (dP):=⟨_,_,nY F22 D21,b22,k22,q22⟩
 have D23:Dn l.prog w K mg base "_law_kind" ["_law_pot_here"] 3 (kW):=⟨_,_,tm F23 D21 D22 B.int,b23,k23,q23⟩
 have D24:Dn l.prog w K mg base "_law_shop" ["_law_pot_here"] 4 (spShopL):=⟨_,_,tq F24 B D21 D22 D23,b24,k24,q24⟩
 have D25:Dn l.prog w K mg base "_law_plate" ["_law_pot_here"] 3 (spPlateL):=⟨_,_,qL F25 B D21 D22,b25,k25,q25⟩
 have D26:Dn l.prog w K mg base "_law_fitting" ["_law_kinds","_law_wide","_law_high"] 1 (spFitQ):=⟨_,_,tD F26 B,b26,k26,q26⟩
 have D27:Dn l.prog w K mg base "_law_leaf" ["_law_pot_here","_law_kinds","_law_wide","_law_high"] 2 (spLeafL):=⟨_,_,qN F27 B D21 D26,b27,k27,q27⟩
 have D28:Dn l.prog w K mg base "_law_tree" ["_law_pot_here","_law_shop_here","_law_wide","_law_high","_law_left","_law_deep"] 14 (spTreeL 11):=⟨_,_,jY F28 B D21 D27 (λ n h=>⟨_,_,h,b28,k28,q28⟩) 11,b28,k28,q28⟩
 have XCP:L2.DnX l.prog w K mg base "check_plate" ["wide","high"] 2 (rf K xNoPlate):=⟨_,_,lE F5 gNoPlate cNoPlate D0,b5,k5,q5⟩
 have XIT:L2.DnX l.prog w K mg base "is_tree" ["shop","wide","high","thing"] 6 (λ vs H Q E=>spIsTree C vs H Q E\/ib K xNoPlate vs H Q E):=⟨_,_,FnOk.or (FnOk.weak (iL F12 T MB D5 D9 D10 D11)) (FnOk.mono (lF F12 XCP) (by decide)),b12,k12,q12⟩
 have XCT:L2.DnX l.prog w K mg base "check_tree" ["shop","wide","high","thing"] 7 (spRef K C xNoPlate xNoTree):=⟨_,_,lG F13 gNoTree cNoTree XIT,b13,k13,q13⟩
 have XPr:L2.DnX l.prog w K mg base "pieces_of" ["shop","wide","high","tree"] 8 (spRef K C xNoPlate xNoTree):=⟨_,_,ic F15 XCT,b15,k15,q15⟩
 have XCr:L2.DnX l.prog w K mg base "counts_of" ["shop","wide","high","tree"] 9 (spRef K C xNoPlate xNoTree):=⟨_,_,ie F16 XPr,b16,k16,q16⟩
 have XPi:L2.DnX l.prog w K mg base "pieces_of" ["shop","wide","high","tree"] 8 (λ vs H Q E=>spPieces C vs H Q E\/spRef K C xNoPlate xNoTree vs H Q E):=⟨_,_,FnOk.or (FnOk.weak (iN F15 B Z D13 D14)) (ic F15 XCT),b15,k15,q15⟩
 have XRe:L2.DnX l.prog w K mg base "rests_of" ["shop","wide","high","tree"] 8 (λ vs H Q E=>spRests C vs H Q E\/spRef K C xNoPlate xNoTree vs H Q E):=⟨_,_,FnOk.or (FnOk.weak (ko F18 B Z D13 D14)) (ow F18 XCT),b18,k18,q18⟩
 have XCo:L2.DnX l.prog w K mg base "counts_of" ["shop","wide","high","tree"] 9 (λ vs H Q E=>spCountsO C vs H Q E\/spRef K C xNoPlate xNoTree vs H Q E):=⟨_,_,FnOk.or (FnOk.weak (ia F16 B T MK D15)) (ie F16 XPr),b16,k16,q16⟩
 have XWo:L2.DnX l.prog w K mg base "worth_of" ["shop","wide","high","tree"] 10 (λ vs H Q E=>spWorthO C vs H Q E\/spRef K C xNoPlate xNoTree vs H Q E):=⟨_,_,FnOk.or (FnOk.weak (iO F17 B T MK D16)) (oA F17 XCr),b17,k17,q17⟩
 have XAr:L2.DnX l.prog w K mg base "areas_of" ["shop","wide","high","tree"] 8 (λ vs H Q E=>spAreas C vs H Q E\/spRef K C xNoPlate xNoTree vs H Q E):=⟨_,_,FnOk.or (FnOk.weak (kq F19 B T Z MS D13 D14)) (oz F19 XCT),b19,k19,q19⟩
 have ZC:Cl mg xNoPlate xNoTree xNoBlade xNoKind xNoKinds xNoLaying xNoLying xNoNumber xNoTable xNoTelling xNoText xNoWeights xTooLarge:=⟨gNoPlate,gNoTree,gNoBlade,gNoKind,gNoKinds,gNoLaying,gNoLying,gNoNumber,gNoTable,gNoTelling,gNoText,gNoWeights,gTooLarge,y18⟩
 have XNoPlate:ExK K xNoPlate:=⟨kaNoPlate,kbNoPlate,kcNoPlate,kdNoPlate,keNoPlate,(jn cNoPlate).1⟩
 have Y0:Ec K xPlateError xNoPlate xNoPlate xNoTree xNoBlade xNoKind xNoKinds xNoLaying xNoLying xNoNumber xNoTable xNoTelling xNoText xNoWeights xTooLarge true false:=⟨XNoPlate,jQ,(bg sNoPlateNoPlate cNoTree sNoPlateNoTree),qp vNoPlate,(aE (bg sNoPlateNoPlate cNoBlade sNoPlateNoBlade) (aE (bg sNoPlateNoPlate cNoKind sNoPlateNoKind) (aE (bg sNoPlateNoPlate cNoKinds sNoPlateNoKinds) (aE (bg sNoPlateNoPlate cNoLaying sNoPlateNoLaying) (aE (bg sNoPlateNoPlate cNoLying sNoPlateNoLying) (aE (bg sNoPlateNoPlate cNoNumber sNoPlateNoNumber) dq)))))),(aE (bg sNoPlateNoPlate cNoTable sNoPlateNoTable) (aE (bg sNoPlateNoPlate cNoTelling sNoPlateNoTelling) (aE (bg sNoPlateNoPlate cNoText sNoPlateNoText) (aE (bg sNoPlateNoPlate cNoWeights sNoPlateNoWeights) (aE (bg sNoPlateNoPlate cTooLarge sNoPlateTooLarge) dq))))),qq cPlateError bPlateError sNoPlatePlateError⟩
 have XNoTree:ExK K xNoTree:=⟨kaNoTree,kbNoTree,kcNoTree,kdNoTree,keNoTree,(jn cNoTree).1⟩
 have Y1:Ec K xPlateError xNoTree xNoPlate xNoTree xNoBlade xNoKind xNoKinds xNoLaying xNoLying xNoNumber xNoTable xNoTelling xNoText xNoWeights xTooLarge false true:=⟨XNoTree,(bg sNoTreeNoTree cNoPlate sNoTreeNoPlate),jQ,qp vNoTree,(aE (bg sNoTreeNoTree cNoBlade sNoTreeNoBlade) (aE (bg sNoTreeNoTree cNoKind sNoTreeNoKind) (aE (bg sNoTreeNoTree cNoKinds sNoTreeNoKinds) (aE (bg sNoTreeNoTree cNoLaying sNoTreeNoLaying) (aE (bg sNoTreeNoTree cNoLying sNoTreeNoLying) (aE (bg sNoTreeNoTree cNoNumber sNoTreeNoNumber) dq)))))),(aE (bg sNoTreeNoTree cNoTable sNoTreeNoTable) (aE (bg sNoTreeNoTree cNoTelling sNoTreeNoTelling) (aE (bg sNoTreeNoTree cNoText sNoTreeNoText) (aE (bg sNoTreeNoTree cNoWeights sNoTreeNoWeights) (aE (bg sNoTreeNoTree cTooLarge sNoTreeTooLarge) dq))))),qq cPlateError bPlateError sNoTreePlateError⟩
 have DWh:L2.DnH l.prog w K mg base "_law_which" ["_law_e"] 1 (λ vs H Q E=>fG xNoPlate [.str "plate"] vs H Q E\/fG xNoTree [.str "tree"] vs H Q E):=⟨_,_,FnH.or (kr F29 B ZC Y0 (.inl ⟨O,O,O⟩)) (kr F29 B ZC Y1 (.inr ⟨O,O,O⟩)),b29,k29,q29⟩
 have DAs:L2.DnX l.prog w K mg base "_law_asked" ["_law_what","_law_shop_here","_law_wide","_law_high","_law_tree_here"] 11 (spAsk K C xNoPlate xNoTree):=⟨_,_,rg F30 XPi XRe XCo XWo XAr XIT,b30,k30,q30⟩
 have D31:Dn l.prog w K mg base "_law_why" ["_law_what","_law_shop_here","_law_wide","_law_high","_law_tree_here"] 12 (spWhy K C):=⟨_,_,vD F31 Y0 Y1 gPlateError DWh DAs,b31,k31,q31⟩
 have D32:Dn l.prog w K mg base "_law_is_whole" ["_law_thing","_law_least"] 1 (bB K):=⟨_,_,nZ F32 B,b32,k32,q32⟩
 have D33:Dn l.prog w K mg base "_law_is_piece" ["_law_shop_here","_law_wide","_law_high","_law_tree_here"] 2 (spPieceL K):=⟨_,_,oa F33 B D26 D32,b33,k33,q33⟩
 have D34:Dn l.prog w K mg base "_law_is_tree" ["_law_shop_here","_law_wide","_law_high","_law_tree_here"] 18 (spIsTreeQ 15):=⟨_,_,hJ F34 B y17 D32 D33 (λ n h=>⟨_,_,h,b34,k34,q34⟩) 15,b34,k34,q34⟩
 have D35:Dn l.prog w K mg base "_law_listed" ["_law_thing"] 16 (spListed 15):=⟨_,_,hW F35 B (λ n h=>⟨_,_,h,b35,k35,q35⟩) 15,b35,k35,q35⟩
 have D36:Dn l.prog w K mg base "_law_other" ["_law_pot_here","_law_thing"] 2 (spOther):=⟨_,_,qZ F36 B y17 D21 D32,b36,k36,q36⟩
 have D37:Dn l.prog w K mg base "_law_spoilt" ["_law_pot_here","_law_thing","_law_deep"] 15 (spSpoilt 12):=⟨_,_,hX F37 B D21 D36 (λ n h=>⟨_,_,h,b37,k37,q37⟩) 12,b37,k37,q37⟩
 have D38:Dn l.prog w K mg base "_law_bad_side" ["_law_pot_here"] 2 (spBadS):=⟨_,_,tO F38 B D21,b38,k38,q38⟩
 have D39:Dn l.prog w K mg base "_law_bad_tree" ["_law_pot_here","_law_tree_here"] 2 (spBadT):=⟨_,_,tP F39 B D21,b39,k39,q39⟩
 have D40:Dn l.prog w K mg base "_law_measured" ["_law_pot_here","_law_told","_law_shop_here","_law_wide","_law_high","_law_tree_here"] 19 (spMeas C):=⟨_,_,tQ F40 B D37 D35 D34 D31,b40,k40,q40⟩
 exact vF F41 B D20 D24 D25 D28 D39 D38 D12 D31 D40 DS
theorem walk {l:PySem.W.OpenLaw} {q:G4} {loose:List Str} {XP:(Str->Option G7)->Heap->Prop} {YP:G6->Heap->Prop} {d:DefRec} {K:Params->C3} (hn:l.most=some 63) (hdf:d.params.defaults=[])
  (hY:∀ (w:G6) (h:Heap),YP w h->(K w.params).In h)
  (F:∀ (w:G6) (mg:Str->Option G7) (fa:Addr) (h:Heap),(K w.params).In h->h.Ns mainGlobals mg->mg d.name=some (.ref fa) ->
   ∃fd:G5,(∀ (s:G3) (u:G7),BindsTo s fd ⟨[u],[]⟩ [("_law_script",u)])/\∀base:Heap,(K w.params).In base->base.Ns mainGlobals mg->FnOk l.prog w (K w.params) mg base CX0 20 fa fd ["_law_script"] (spLaw (K w.params))) :
  PySem.W.WalkO q loose XP YP l.row.toRowW d [] (λ f vs=>PySem.call f vs) :=
 L2.walk_of (n:=63) (k:=20) (x := "_law_script") (CX:=λ _=>CX0) (sp:=λ w=>spLaw (K w.params)) hn (by decide) hdf ⟨rfl,by decide,by decide,rfl⟩ hY F (λ _ _ a ns hl _ hS=>⟨a,ns,O,hS,hl,λ _=>rfl⟩) λ _ _ _ _ _ z=>z
end Pc
namespace Pc
open PySem L2
section
open PySem.W
def kE (P:Params) (n:Str) (t:Nat) (v:G7):DictEntry:=⟨PyData.keyHash P n,.str n t,v⟩
def kO3 (P:Params):Obj:=⟨(.type "dict"),none,(.dict #[kE P "__name__" 165 (.str "law_platecuts_k26_refused_measures" 754),kE P "__doc__" 166 .none,kE P "__package__" 167 .none,kE P "__loader__" 168 (.builtin "__main__.__loader__#opaque"),kE P "__spec__" 169 .none,kE P "__annotations__" 170 (.ref 6),kE P "__builtins__" 171 (.ref 4),kE P "__file__" 173 (.str "/claim/cut.py" 172),kE P "__cached__" 174 .none,kE P "_wall" 193 (.ref 21),kE P "PlateError" 213 (.ref 31),kE P "NoBlade" 229 (.ref 44),kE P "NoKinds" 245 (.ref 56),kE P "NoKind" 261 (.ref 68),kE P "NoLying" 277 (.ref 80),kE P "NoText" 293 (.ref 92),kE P "NoPlate" 309 (.ref 104),kE P "NoTree" 325 (.ref 116),kE P "NoLaying" 341 (.ref 128),kE P "TooLarge" 357 (.ref 140),kE P "NoTable" 373 (.ref 152),kE P "NoNumber" 389 (.ref 164),kE P "NoWeights" 405 (.ref 176),kE P "NoTelling" 421 (.ref 188),kE P "is_whole" 431 (.ref 197),kE P "is_truth" 438 (.ref 204),kE P "is_row" 445 (.ref 211),kE P "check_plate" 453 (.ref 218),kE P "DOWN" 457 (.str "down" 456),kE P "ACROSS" 459 (.str "across" 458),kE P "WAYS" 460 (.ref 219),kE P "lies_in" 475 (.ref 226),kE P "cut_parts" 487 (.ref 233),kE P "REST" 491 (.str "rest" 490),kE P "PIECE" 493 (.str "piece" 492),kE P "THINGS_OF_A_REST" 495 (.int 1 494),kE P "THINGS_OF_A_PIECE" 497 (.int 5 496),kE P "THINGS_OF_A_CUT" 499 (.int 4 498),kE P "begins_with" 508 (.ref 240),kE P "is_cut" 519 (.ref 247),kE P "is_leaf" 532 (.ref 254),kE P "spots_behind" 556 (.ref 261),kE P "is_tree" 569 (.ref 268),kE P "check_tree" 579 (.ref 275),kE P "leaves_of" 592 (.ref 282),kE P "pieces_of" 615 (.ref 289),kE P "rests_of" 621 (.ref 294),kE P "counts_of" 627 (.ref 299),kE P "worth_of" 633 (.ref 304),kE P "areas_of" 654 (.ref 311),kE P "MOST_KINDS" 658 (.int 8 657),kE P "THINGS_OF_A_KIND" 660 (.int 5 659),kE P "is_kind" 672 (.ref 318),kE P "can_lie_turned" 679 (.ref 325),kE P "Shop" 753 (.ref 380),kE P "_law_pot" 764 (.ref 391),kE P "_law_draw" 773 (.ref 398),kE P "_law_number" 782 (.ref 405),kE P "_law_kind" 791 (.ref 412),kE P "_law_shop" 803 (.ref 419),kE P "_law_plate" 810 (.ref 426),kE P "_law_fitting" 816 (.ref 431),kE P "_law_leaf" 831 (.ref 438),kE P "_law_tree" 848 (.ref 445),kE P "_law_which" 856 (.ref 452),kE P "_law_asked" 867 (.ref 459),kE P "_law_why" 879 (.ref 466),kE P "_law_bad_side" 887 (.ref 473),kE P "_law_bad_tree" 896 (.ref 480),kE P "_law_listed" 902 (.ref 485),kE P "_law_is_whole" 910 (.ref 492),kE P "_law_is_piece" 924 (.ref 499),kE P "_law_is_tree" 935 (.ref 506),kE P "_law_other" 944 (.ref 513),kE P "_law_spoilt" 954 (.ref 520),kE P "_law_measured" 960 (.ref 525),kE P "law" 979 (.ref 532)] 77),#[]⟩
def gk0 (x0:Str)(x1:Nat)(x2:Str)(x3 x4 x5 x6 x7 x8 x9 x10 x11 x12 x13:Nat)(P:Params):Obj:=⟨(.type "code"),none,(.fields #[.str x0 x1,.str x2 x3,.str "/claim/cut.py" x4,.int x5 0,.int x6 0,.int 0 0,.int 0 0,.int 3 0,.ref x7,.bool true,.int 181 0,.ref x8,.none,.ref x9,.ref x10,.ref x11,.int x12 0,.int x5 0,.str "/claim/cut.py" x13]),#[]⟩
def Gs:=gk0 "_wall" 187 "_wall" 188 189 1 1 15 16 17 18 19 191 192
def gk1 (x0 x1:Str)(x2:Stmt)(x3:Str)(x4 x5:Nat)(P:Params):Obj:=⟨(.type "function"),none,(.func (fnOf x0 x1 (defArgs x2) (defBody x2) (defScope x2) .none .none .none (.str x3 x4) none (.ref x5) .none)),#[]⟩
def Gu:=gk1 "_wall" "_wall" zI "__main__" 164 20
def Gv (P:Params):Obj:=⟨(.type "dict"),none,(.dict #[kE P "__module__" 203 (.str "platecuts.errors" 194),kE P "__firstlineno__" 207 (.int 5 206),kE P "__static_attributes__" 208 (.ref 29),kE P "__weakref__" 210 (.ref 32),kE P "__doc__" 211 .none] 3),#[]⟩
def Gw (P:Params):Obj:=⟨(.type "type"),none,(.cls ⟨"PlateError",[.type "ValueError"],[.ref 31,.type "ValueError",.type "Exception",.type "BaseException",.type "object"],30,"PlateError",true,[],[.ref 44,.ref 56,.ref 68,.ref 80,.ref 92,.ref 104,.ref 116,.ref 128,.ref 140,.ref 152,.ref 164,.ref 176,.ref 188],false,none,false⟩),#[some (.ref 22),none,some (.str "PlateError" 196),some (.str "PlateError" 204),some (.builtin "ValueError.__new__"),some (.bool true)]⟩
def gk2 (x0 x1 x2 x3 x4 x5 x6:Nat)(P:Params):Obj:=⟨(.type "dict"),none,(.dict #[kE P "__module__" x0 (.str "platecuts.errors" 194),kE P "__firstlineno__" x1 (.int x2 x3),kE P "__static_attributes__" x4 (.ref x5),kE P "__doc__" x6 .none] 2),#[]⟩
def Gx:=gk2 221 225 7 224 226 42 227
def gk3 (x0:Str)(x1 x2 x3 x4 x5:Nat)(P:Params):Obj:=⟨(.type "type"),none,(.cls ⟨x0,[.ref 31],[.ref x1,.ref 31,.type "ValueError",.type "Exception",.type "BaseException",.type "object"],x2,x0,true,[],[],false,none,false⟩),#[some (.ref x3),none,some (.str x0 x4),some (.str x0 x5),some (.builtin "ValueError.__new__"),some (.bool true)]⟩
def Gy:=gk3 "NoBlade" 44 43 35 214 222
def Gz:=gk2 237 241 9 240 242 54 243
def GA:=gk3 "NoKinds" 56 55 47 230 238
def GB:=gk2 253 257 11 256 258 66 259
def GC:=gk3 "NoKind" 68 67 59 246 254
def GD:=gk2 269 273 13 272 274 78 275
def GE:=gk3 "NoLying" 80 79 71 262 270
def GF:=gk2 285 289 15 288 290 90 291
def GG:=gk3 "NoText" 92 91 83 278 286
def zX:=gk2 301 305 17 304 306 102 307
def zY:=gk3 "NoPlate" 104 103 95 294 302
def zZ:=gk2 317 321 19 320 322 114 323
def Aa:=gk3 "NoTree" 116 115 107 310 318
def Ab:=gk2 333 337 21 336 338 126 339
def Ac:=gk3 "NoLaying" 128 127 119 326 334
def Ad:=gk2 349 353 23 352 354 138 355
def Ae:=gk3 "TooLarge" 140 139 131 342 350
def Af:=gk2 365 369 25 368 370 150 371
def Ag:=gk3 "NoTable" 152 151 143 358 366
def Ah:=gk2 381 385 27 384 386 162 387
def Ai:=gk3 "NoNumber" 164 163 155 374 382
def Aj:=gk2 397 401 29 400 402 174 403
def Ak:=gk3 "NoWeights" 176 175 167 390 398
def Al:=gk2 413 417 31 416 418 186 419
def Am:=gk3 "NoTelling" 188 187 179 406 414
def An:=gk0 "is_whole" 424 "is_whole" 425 426 34 2 191 192 193 194 195 429 430
def Ao:=gk1 "is_whole" "is_whole" jp "platecuts.checks" 422 196
def Ap:=gk0 "is_truth" 432 "is_truth" 433 434 36 1 198 199 200 201 202 436 437
def Aq:=gk1 "is_truth" "is_truth" jq "platecuts.checks" 422 203
def Ar:=gk0 "is_row" 439 "is_row" 440 441 38 1 205 206 207 208 209 443 444
def As:=gk1 "is_row" "is_row" sO "platecuts.checks" 422 210
def At:=gk0 "check_plate" 446 "check_plate" 447 448 40 2 212 213 214 215 216 451 452
def Au:=gk1 "check_plate" "check_plate" bM "platecuts.checks" 422 217
def Av (P:Params):Obj:=⟨(.type "tuple"),none,(.seq #[.str "down" 456,.str "across" 458] 0),#[]⟩
def Aw:=gk0 "lies_in" 461 "lies_in" 462 463 47 7 220 221 222 223 224 473 474
def Ax:=gk1 "lies_in" "lies_in" gv "platecuts.parts" 454 225
def Ay:=gk0 "cut_parts" 476 "cut_parts" 477 478 52 4 227 228 229 230 231 485 486
def Az:=gk1 "cut_parts" "cut_parts" eC "platecuts.parts" 454 232
def AA:=gk0 "begins_with" 500 "begins_with" 501 502 63 3 234 235 236 237 238 506 507
def AB:=gk1 "begins_with" "begins_with" cL "platecuts.trees" 488 239
def AC:=gk0 "is_cut" 509 "is_cut" 510 511 67 2 241 242 243 244 245 517 518
def AD:=gk1 "is_cut" "is_cut" jr "platecuts.trees" 488 246
def AE:=gk0 "is_leaf" 520 "is_leaf" 521 522 74 2 248 249 250 251 252 530 531
def AF:=gk1 "is_leaf" "is_leaf" gw "platecuts.trees" 488 253
def AG:=gk0 "spots_behind" 533 "spots_behind" 534 535 79 2 255 256 257 258 259 554 555
def AH:=gk1 "spots_behind" "spots_behind" ck "platecuts.trees" 488 260
def AI:=gk0 "is_tree" 557 "is_tree" 558 559 86 4 262 263 264 265 266 567 568
def AJ:=gk1 "is_tree" "is_tree" eD "platecuts.trees" 488 267
def AK:=gk0 "check_tree" 570 "check_tree" 571 572 97 4 269 270 271 272 273 577 578
def AL:=gk1 "check_tree" "check_tree" bY "platecuts.trees" 488 274
def AM:=gk0 "leaves_of" 580 "leaves_of" 581 582 100 4 276 277 278 279 280 590 591
def AN:=gk1 "leaves_of" "leaves_of" eE "platecuts.trees" 488 281
def AO:=gk0 "pieces_of" 595 "pieces_of" 596 597 111 4 283 284 285 286 287 613 614
def AQ:=gk1 "pieces_of" "pieces_of" cx "platecuts.measures" 593 288
def gk4 (x0:Str)(x1:Nat)(x2:Str)(x3 x4 x5 x6 x7 x8 x9 x10 x11:Nat)(P:Params):Obj:=⟨(.type "code"),none,(.fields #[.str x0 x1,.str x2 x3,.str "/claim/cut.py" x4,.int x5 0,.int x6 0,.int 0 0,.int 0 0,.int 3 0,.ref x7,.bool true,.int 181 0,.ref x8,.none,.none,.none,.ref x9,.int x10 0,.int x5 0,.str "/claim/cut.py" x11]),#[]⟩
def AR:=gk4 "rests_of" 616 "rests_of" 617 618 119 4 290 291 292 619 620
def AS:=gk1 "rests_of" "rests_of" cF "platecuts.measures" 593 293
def AT:=gk4 "counts_of" 622 "counts_of" 623 624 123 4 295 296 297 625 626
def AU:=gk1 "counts_of" "counts_of" bZ "platecuts.measures" 593 298
def AV:=gk4 "worth_of" 628 "worth_of" 629 630 129 4 300 301 302 631 632
def AW:=gk1 "worth_of" "worth_of" cG "platecuts.measures" 593 303
def AX:=gk0 "areas_of" 634 "areas_of" 635 636 132 4 305 306 307 308 309 652 653
def AY:=gk1 "areas_of" "areas_of" cT "platecuts.measures" 593 310
def AZ:=gk0 "is_kind" 661 "is_kind" 662 663 147 1 312 313 314 315 316 670 671
def Ba:=gk1 "is_kind" "is_kind" gx "platecuts.shops" 655 317
def Bb:=gk0 "can_lie_turned" 673 "can_lie_turned" 674 675 154 1 319 320 321 322 323 677 678
def Bc:=gk1 "can_lie_turned" "can_lie_turned" gy "platecuts.shops" 655 324
def Bd:=gk4 "__init__" 692 "Shop.__init__" 693 694 158 3 333 334 335 695 696
def Be:=gk1 "__init__" "Shop.__init__" cU "platecuts.shops" 655 336
def Bf:=gk0 "blade" 698 "Shop.blade" 699 700 169 1 338 339 340 341 342 702 703
def Bg:=gk1 "blade" "Shop.blade" dw "platecuts.shops" 655 343
def Bh:=gk0 "kinds" 705 "Shop.kinds" 706 707 172 1 345 346 347 348 349 709 710
def Bi:=gk1 "kinds" "Shop.kinds" dB "platecuts.shops" 655 350
def Bj:=gk4 "wanted" 712 "Shop.wanted" 713 714 175 1 352 353 354 715 716
def Bk:=gk1 "wanted" "Shop.wanted" jT "platecuts.shops" 655 355
def Bl:=gk0 "lyings" 718 "Shop.lyings" 719 720 178 1 357 358 359 360 361 722 723
def Bm:=gk1 "lyings" "Shop.lyings" jU "platecuts.shops" 655 362
def Bn:=gk0 "is_lying" 725 "Shop.is_lying" 726 727 181 3 364 365 366 367 368 731 732
def Bo:=gk1 "is_lying" "Shop.is_lying" cm "platecuts.shops" 655 369
def Bp:=gk0 "sides" 734 "Shop.sides" 735 736 186 3 371 372 373 374 375 741 742
def Bq:=gk1 "sides" "Shop.sides" dC "platecuts.shops" 655 376
def Br (P:Params):Obj:=⟨(.type "dict"),none,(.dict #[kE P "__module__" 687 (.str "platecuts.shops" 655),kE P "__firstlineno__" 691 (.int 156 690),kE P "__init__" 697 (.ref 337),kE P "blade" 704 (.ref 344),kE P "kinds" 711 (.ref 351),kE P "wanted" 717 (.ref 356),kE P "lyings" 724 (.ref 363),kE P "is_lying" 733 (.ref 370),kE P "sides" 743 (.ref 377),kE P "__static_attributes__" 746 (.ref 378),kE P "__dict__" 748 (.ref 381),kE P "__weakref__" 750 (.ref 382),kE P "__doc__" 751 .none] 4),#[]⟩
def Bs (P:Params):Obj:=⟨(.type "type"),none,(.cls ⟨"Shop",[.type "object"],[.ref 380,.type "object"],379,"Shop",true,[],[],false,none,false⟩),#[none,none,some (.str "Shop" 680),some (.str "Shop" 688),some (.builtin "object.__new__"),some (.bool true)]⟩
def Bt:=gk0 "_law_pot" 756 "_law_pot" 757 758 194 2 385 386 387 388 389 762 763
def Bu:=gk1 "_law_pot" "_law_pot" sP "law_platecuts_k26_refused_measures" 754 390
def Bv:=gk0 "_law_draw" 765 "_law_draw" 766 767 199 2 392 393 394 395 396 771 772
def Bw:=gk1 "_law_draw" "_law_draw" mS "law_platecuts_k26_refused_measures" 754 397
def Bx:=gk0 "_law_number" 774 "_law_number" 775 776 206 2 399 400 401 402 403 780 781
def By:=gk1 "_law_number" "_law_number" gz "law_platecuts_k26_refused_measures" 754 404
def Bz:=gk0 "_law_kind" 783 "_law_kind" 784 785 213 1 406 407 408 409 410 789 790
def BA:=gk1 "_law_kind" "_law_kind" mU "law_platecuts_k26_refused_measures" 754 411
def BB:=gk0 "_law_shop" 792 "_law_shop" 793 794 217 1 413 414 415 416 417 801 802
def BC:=gk1 "_law_shop" "_law_shop" mV "law_platecuts_k26_refused_measures" 754 418
def BD:=gk0 "_law_plate" 804 "_law_plate" 805 806 229 1 420 421 422 423 424 808 809
def BE:=gk1 "_law_plate" "_law_plate" js "law_platecuts_k26_refused_measures" 754 425
def BF:=gk4 "_law_fitting" 811 "_law_fitting" 812 813 233 3 427 428 429 814 815
def BG:=gk1 "_law_fitting" "_law_fitting" dW "law_platecuts_k26_refused_measures" 754 430
def BH:=gk0 "_law_leaf" 817 "_law_leaf" 818 819 241 4 432 433 434 435 436 829 830
def BI:=gk1 "_law_leaf" "_law_leaf" mW "law_platecuts_k26_refused_measures" 754 437
def BJ:=gk0 "_law_tree" 832 "_law_tree" 833 834 247 6 439 440 441 442 443 846 847
def BK:=gk1 "_law_tree" "_law_tree" iK "law_platecuts_k26_refused_measures" 754 444
def BL:=gk0 "_law_which" 849 "_law_which" 850 851 260 1 446 447 448 449 450 854 855
def BM:=gk1 "_law_which" "_law_which" jt "law_platecuts_k26_refused_measures" 754 451
def BN:=gk0 "_law_asked" 857 "_law_asked" 858 859 271 5 453 454 455 456 457 865 866
def BO:=gk1 "_law_asked" "_law_asked" ju "law_platecuts_k26_refused_measures" 754 458
def BP:=gk0 "_law_why" 868 "_law_why" 869 870 283 5 460 461 462 463 464 877 878
def BQ:=gk1 "_law_why" "_law_why" sQ "law_platecuts_k26_refused_measures" 754 465
def BR:=gk0 "_law_bad_side" 880 "_law_bad_side" 881 882 289 1 467 468 469 470 471 885 886
def BS:=gk1 "_law_bad_side" "_law_bad_side" fA "law_platecuts_k26_refused_measures" 754 472
def BU:=gk0 "_law_bad_tree" 888 "_law_bad_tree" 889 890 292 2 474 475 476 477 478 894 895
def BV:=gk1 "_law_bad_tree" "_law_bad_tree" fB "law_platecuts_k26_refused_measures" 754 479
def BW:=gk4 "_law_listed" 897 "_law_listed" 898 899 297 1 481 482 483 900 901
def BX:=gk1 "_law_listed" "_law_listed" dD "law_platecuts_k26_refused_measures" 754 484
def BY:=gk0 "_law_is_whole" 903 "_law_is_whole" 904 905 301 2 486 487 488 489 490 908 909
def BZ:=gk1 "_law_is_whole" "_law_is_whole" fC "law_platecuts_k26_refused_measures" 754 491
def Ca:=gk0 "_law_is_piece" 911 "_law_is_piece" 912 913 303 4 493 494 495 496 497 922 923
def Cb:=gk1 "_law_is_piece" "_law_is_piece" fD "law_platecuts_k26_refused_measures" 754 498
def Cc:=gk0 "_law_is_tree" 925 "_law_is_tree" 926 927 312 4 500 501 502 503 504 933 934
def Cd:=gk1 "_law_is_tree" "_law_is_tree" cV "law_platecuts_k26_refused_measures" 754 505
def Ce:=gk0 "_law_other" 936 "_law_other" 937 938 329 2 507 508 509 510 511 942 943
def Cf:=gk1 "_law_other" "_law_other" jv "law_platecuts_k26_refused_measures" 754 512
def Cg:=gk0 "_law_spoilt" 945 "_law_spoilt" 946 947 341 3 514 515 516 517 518 952 953
def Ch:=gk1 "_law_spoilt" "_law_spoilt" eF "law_platecuts_k26_refused_measures" 754 519
def Ci:=gk4 "_law_measured" 955 "_law_measured" 956 957 346 6 521 522 523 958 959
def Cj:=gk1 "_law_measured" "_law_measured" cW "law_platecuts_k26_refused_measures" 754 524
def Ck:=gk0 "law" 961 "law" 962 963 354 1 526 527 528 529 530 977 978
def Cm:=gk1 "law" "law" jV "law_platecuts_k26_refused_measures" 754 531
def kK:Params->Frag:=λ P=>(nat_lit 3,kO3 P) :: (nat_lit 20,Gs P) :: (nat_lit 21,Gu P) :: (nat_lit 30,Gv P) :: (nat_lit 31,Gw P) :: (nat_lit 43,Gx P) :: (nat_lit 44,Gy P) :: (nat_lit 55,Gz P) :: (nat_lit 56,GA P) :: (nat_lit 67,GB P) :: (nat_lit 68,GC P) :: (nat_lit 79,GD P) :: (nat_lit 80,GE P) :: (nat_lit 91,GF P) :: (nat_lit 92,GG P) :: (nat_lit 103,zX P) :: (nat_lit 104,zY P) :: (nat_lit 115,zZ P) :: (nat_lit 116,Aa P) :: (nat_lit 127,Ab P) :: (nat_lit 128,Ac P) :: (nat_lit 139,Ad P) :: (nat_lit 140,Ae P) :: (nat_lit 151,Af P) :: (nat_lit 152,Ag P) :: (nat_lit 163,Ah P) :: (nat_lit 164,Ai P) :: (nat_lit 175,Aj P) :: (nat_lit 176,Ak P) :: (nat_lit 187,Al P) :: (nat_lit 188,Am P) :: (nat_lit 196,An P) :: (nat_lit 197,Ao P) :: (nat_lit 203,Ap P) :: (nat_lit 204,Aq P) :: (nat_lit 210,Ar P) :: (nat_lit 211,As P) :: (nat_lit 217,At P) :: (nat_lit 218,Au P) :: (nat_lit 219,Av P) :: (nat_lit 225,Aw P) :: (nat_lit 226,Ax P) :: (nat_lit 232,Ay P) :: (nat_lit 233,Az P) :: (nat_lit 239,AA P) :: (nat_lit 240,AB P) :: (nat_lit 246,AC P) :: (nat_lit 247,AD P) :: (nat_lit 253,AE P) :: (nat_lit 254,AF P) :: (nat_lit 260,AG P) :: (nat_lit 261,AH P) :: (nat_lit 267,AI P) :: (nat_lit 268,AJ P) :: (nat_lit 274,AK P) :: (nat_lit 275,AL P) :: (nat_lit 281,AM P) :: (nat_lit 282,AN P) :: (nat_lit 288,AO P) :: (nat_lit 289,AQ P) :: (nat_lit 293,AR P) :: (nat_lit 294,AS P) :: (nat_lit 298,AT P) :: (nat_lit 299,AU P) :: (nat_lit 303,AV P) :: (nat_lit 304,AW P) :: (nat_lit 310,AX P) :: (nat_lit 311,AY P) :: (nat_lit 317,AZ P) :: (nat_lit 318,Ba P) :: (nat_lit 324,Bb P) :: (nat_lit 325,Bc P) :: (nat_lit 336,Bd P) :: (nat_lit 337,Be P) :: (nat_lit 343,Bf P) :: (nat_lit 344,Bg P) :: (nat_lit 350,Bh P) :: (nat_lit 351,Bi P) :: (nat_lit 355,Bj P) :: (nat_lit 356,Bk P) :: (nat_lit 362,Bl P) :: (nat_lit 363,Bm P) :: (nat_lit 369,Bn P) :: (nat_lit 370,Bo P) :: (nat_lit 376,Bp P) :: (nat_lit 377,Bq P) :: (nat_lit 379,Br P) :: (nat_lit 380,Bs P) :: (nat_lit 390,Bt P) :: (nat_lit 391,Bu P) :: (nat_lit 397,Bv P) :: (nat_lit 398,Bw P) :: (nat_lit 404,Bx P) :: (nat_lit 405,By P) :: (nat_lit 411,Bz P) :: (nat_lit 412,BA P) :: (nat_lit 418,BB P) :: (nat_lit 419,BC P) :: (nat_lit 425,BD P) :: (nat_lit 426,BE P) :: (nat_lit 430,BF P) :: (nat_lit 431,BG P) :: (nat_lit 437,BH P) :: (nat_lit 438,BI P) :: (nat_lit 444,BJ P) :: (nat_lit 445,BK P) :: (nat_lit 451,BL P) :: (nat_lit 452,BM P) :: (nat_lit 458,BN P) :: (nat_lit 459,BO P) :: (nat_lit 465,BP P) :: (nat_lit 466,BQ P) :: (nat_lit 472,BR P) :: (nat_lit 473,BS P) :: (nat_lit 479,BU P) :: (nat_lit 480,BV P) :: (nat_lit 484,BW P) :: (nat_lit 485,BX P) :: (nat_lit 491,BY P) :: (nat_lit 492,BZ P) :: (nat_lit 498,Ca P) :: (nat_lit 499,Cb P) :: (nat_lit 505,Cc P) :: (nat_lit 506,Cd P) :: (nat_lit 512,Ce P) :: (nat_lit 513,Cf P) :: (nat_lit 519,Cg P) :: (nat_lit 520,Ch P) :: (nat_lit 524,Ci P) :: (nat_lit 525,Cj P) :: (nat_lit 531,Ck P) :: (nat_lit 532,Cm P) :: []
end
end Pc
abbrev PySem.W.Fast.tw14700531529838063627:PySem.Program:=PySem.Challenge.pw_platecuts_k26_refused_measures
theorem PySem.W.Fast.te14700531529838063627:PySem.Challenge.pw_platecuts_k26_refused_measures=PySem.W.Fast.tw14700531529838063627:=rfl
namespace Hd
open PySem PySem.W
def S0:Str:="__name__"
def S2:Str:="__doc__"
def S3:Str:="__package__"
def S4:Str:="__loader__"
def S5:Str:="__spec__"
def Cn:Str:="__main__"
def vI:Str:="__annotations__"
def vJ:Str:="__builtins__"
def vK:Str:="__file__"
def jx:Str:=⟨⟨[47,99,108,97,105,109,47,99,117,116,46,112,121]⟩⟩
def vL:Str:="__cached__"
def GH:Str:="<module>"
def dH:Str:="platecuts.errors"
def kz:Str:="_wall"
def fI:Str:="PlateError"
def lJ:Str:="NoBlade"
def lK:Str:="NoKinds"
def lL:Str:="NoKind"
def lM:Str:="NoLying"
def lN:Str:="NoText"
def lO:Str:="NoPlate"
def lP:Str:="NoTree"
def lQ:Str:="NoLaying"
def GI:Str:="k"
def rn:Str:="__module__"
def Co:Str:="__qualname__"
def rp:Str:="__firstlineno__"
def rq:Str:="__static_attributes__"
def vM:Str:="__weakref__"
def lR:Str:="platecuts.shops"
def oE:Str:="TooLarge"
def oF:Str:="NoTable"
def oG:Str:="NoNumber"
def oH:Str:="NoWeights"
def oI:Str:="NoTelling"
def lS:Str:="is_whole"
def lT:Str:="is_truth"
def lU:Str:="is_row"
def lV:Str:="check_plate"
def vN:Str:="DOWN"
def vO:Str:="down"
def vP:Str:="ACROSS"
def vQ:Str:="across"
def vR:Str:="WAYS"
def lW:Str:="lies_in"
def lX:Str:="cut_parts"
def vS:Str:="REST"
def Cp:Str:="rest"
def vT:Str:="PIECE"
def Cq:Str:="piece"
def vU:Str:="THINGS_OF_A_REST"
def vV:Str:="THINGS_OF_A_PIECE"
def vW:Str:="THINGS_OF_A_CUT"
def lY:Str:="begins_with"
def lZ:Str:="is_cut"
def ma:Str:="is_leaf"
def md:Str:="spots_behind"
def me:Str:="is_tree"
def mf:Str:="check_tree"
def mh:Str:="leaves_of"
def mj:Str:="pieces_of"
def mm:Str:="rests_of"
def mn:Str:="counts_of"
def mo:Str:="worth_of"
def mq:Str:="areas_of"
def vX:Str:="MOST_KINDS"
def vY:Str:="THINGS_OF_A_KIND"
def mr:Str:="is_kind"
def ms:Str:="can_lie_turned"
def mt:Str:="thing"
def GJ:Str:="least"
def tR:Str:="platecuts.checks"
def il:Str:="wide"
def im:Str:="high"
def tS:Str:="shop"
def rz:Str:="kind"
def tT:Str:="turned"
def rA:Str:="x"
def rB:Str:="y"
def Cr:Str:="piece_wide"
def Cs:Str:="piece_high"
def Ct:Str:="platecuts.parts"
def jy:Str:="blade"
def GK:Str:="part"
def vZ:Str:="way"
def Cu:Str:="p"
def Cv:Str:="word"
def GL:Str:="many"
def mw:Str:="platecuts.trees"
def rC:Str:="spot"
def rD:Str:="tree"
def GM:Str:="side"
def GN:Str:="first"
def GO:Str:="second"
def GP:Str:="wide_ahead"
def GQ:Str:="high_ahead"
def GR:Str:="wide_behind"
def GS:Str:="high_behind"
def GT:Str:="step"
def GU:Str:="far_x"
def GV:Str:="far_y"
def Cw:Str:="waiting"
def GW:Str:="leaves"
def GX:Str:="pieces"
def Cy:Str:="part_wide"
def Cz:Str:="part_high"
def CA:Str:="leaf"
def GY:Str:="piece_x"
def GZ:Str:="piece_y"
def rE:Str:="platecuts.measures"
def Hh:Str:="rests"
def Hi:Str:="margins"
def Hj:Str:="cells"
def Hk:Str:="worth"
def oJ:Str:="wanted"
def Hl:Str:="turns"
def cH:Str:="law_platecuts_k26_refused_measures"
def kA:Str:="Shop"
def oK:Str:="_law_pot"
def oM:Str:="_law_draw"
def oN:Str:="_law_number"
def oO:Str:="_law_kind"
def oP:Str:="_law_shop"
def oQ:Str:="_law_plate"
def oR:Str:="_law_fitting"
def oS:Str:="_law_leaf"
def oU:Str:="_law_tree"
def oV:Str:="_law_which"
def oW:Str:="_law_asked"
def oX:Str:="_law_why"
def oY:Str:="_law_bad_side"
def oZ:Str:="_law_bad_tree"
def pb:Str:="_law_listed"
def pd:Str:="_law_is_whole"
def pf:Str:="_law_is_piece"
def pj:Str:="_law_is_tree"
def pk:Str:="_law_other"
def pq:Str:="_law_spoilt"
def pC:Str:="_law_measured"
def rF:Str:="law"
def rG:Str:="__init__"
def rH:Str:="kinds"
def rJ:Str:="lyings"
def rK:Str:="is_lying"
def rM:Str:="sides"
def wc:Str:="Shop.__init__"
def rN:Str:="self"
def we:Str:="Shop.blade"
def wf:Str:="Shop.kinds"
def wg:Str:="Shop.wanted"
def wj:Str:="Shop.lyings"
def wk:Str:="Shop.is_lying"
def Hm:Str:="row"
def wm:Str:="Shop.sides"
def Ho:Str:="blade_width"
def Hq:Str:="kind_rows"
def CB:Str:="__dict__"
def CC:Str:="_law_script"
def wn:Str:="_law_place"
def Hr:Str:="_law_cell"
def gm:Str:="_law_pot_here"
def Hs:Str:="_law_many"
def CD:Str:="_law_found"
def CF:Str:="_law_least"
def Ht:Str:="_law_way"
def jz:Str:="_law_wide"
def jA:Str:="_law_high"
def Hu:Str:="_law_blade"
def CG:Str:="_law_kinds"
def Hv:Str:="_law_k"
def tU:Str:="_law_some"
def CI:Str:="_law_number_here"
def CJ:Str:="_law_turned"
def CK:Str:="_law_a"
def CL:Str:="_law_b"
def pE:Str:="_law_shop_here"
def Hw:Str:="_law_left"
def CM:Str:="_law_deep"
def Hz:Str:="_law_down"
def HA:Str:="_law_room"
def CN:Str:="_law_behind"
def HB:Str:="_law_first"
def CO:Str:="_law_e"
def wr:Str:="_law_what"
def pF:Str:="_law_tree_here"
def wu:Str:="_law_thing"
def HC:Str:="_law_at"
def HD:Str:="_law_told"
def HE:Str:="_law_bad"
def HF:Str:="_law_sides"
def HG:Str:="_law_one"
def HI:Str:="_law_other_here"
abbrev HK:Hook:=kHook Pc.kK [nat_lit 3,nat_lit 20,nat_lit 21,nat_lit 30,nat_lit 31,nat_lit 43,nat_lit 44,nat_lit 55,nat_lit 56,nat_lit 67,nat_lit 68,nat_lit 79,nat_lit 80,nat_lit 91,nat_lit 92,nat_lit 103,nat_lit 104,nat_lit 115,nat_lit 116,nat_lit 127,nat_lit 128,nat_lit 139,nat_lit 140,nat_lit 151,nat_lit 152,nat_lit 163,nat_lit 164,nat_lit 175,nat_lit 176,nat_lit 187,nat_lit 188,nat_lit 196,nat_lit 197,nat_lit 203,nat_lit 204,nat_lit 210,nat_lit 211,nat_lit 217,nat_lit 218,nat_lit 219,nat_lit 225,nat_lit 226,nat_lit 232,nat_lit 233,nat_lit 239,nat_lit 240,nat_lit 246,nat_lit 247,nat_lit 253,nat_lit 254,nat_lit 260,nat_lit 261,nat_lit 267,nat_lit 268,nat_lit 274,nat_lit 275,nat_lit 281,nat_lit 282,nat_lit 288,nat_lit 289,nat_lit 293,nat_lit 294,nat_lit 298,nat_lit 299,nat_lit 303,nat_lit 304,nat_lit 310,nat_lit 311,nat_lit 317,nat_lit 318,nat_lit 324,nat_lit 325,nat_lit 336,nat_lit 337,nat_lit 343,nat_lit 344,nat_lit 350,nat_lit 351,nat_lit 355,nat_lit 356,nat_lit 362,nat_lit 363,nat_lit 369,nat_lit 370,nat_lit 376,nat_lit 377,nat_lit 379,nat_lit 380,nat_lit 390,nat_lit 391,nat_lit 397,nat_lit 398,nat_lit 404,nat_lit 405,nat_lit 411,nat_lit 412,nat_lit 418,nat_lit 419,nat_lit 425,nat_lit 426,nat_lit 430,nat_lit 431,nat_lit 437,nat_lit 438,nat_lit 444,nat_lit 445,nat_lit 451,nat_lit 452,nat_lit 458,nat_lit 459,nat_lit 465,nat_lit 466,nat_lit 472,nat_lit 473,nat_lit 479,nat_lit 480,nat_lit 484,nat_lit 485,nat_lit 491,nat_lit 492,nat_lit 498,nat_lit 499,nat_lit 505,nat_lit 506,nat_lit 512,nat_lit 513,nat_lit 519,nat_lit 520,nat_lit 524,nat_lit 525,nat_lit 531,nat_lit 532] (λ _=>by kernel_rfl)
abbrev pt:G4:=PySem.W.Fast.tw14700531529838063627
theorem pt_eq:PySem.Challenge.pw_platecuts_k26_refused_measures=pt:=PySem.W.Fast.te14700531529838063627
def tp (i:Nat):Stmt:=pt.main.body.getD i (.Pass ⟨0,0,0,0⟩)
abbrev f (o:Params->Obj) (l r:Params->BT):Params->BT:=λ P=>.node (o P) (l P) (r P)
abbrev z:Params->BT:=λ _=>.nil
abbrev e (P:Params) (n:Str) (t:Nat) (v:G7):DictEntry:=⟨PyData.keyHash P n,.str n t,v⟩
abbrev m0:Nat:=nat_lit 11
abbrev an:Option G7:=(some (.ref 6))
abbrev en:Env:={ scope:=pt.main.scope,locals:=mainNs,globals:=mainNs,cells:=[],code:=(.ref 13),frame:=some 14 }
abbrev cE:Code:=.body (behindTheImports pt) en
abbrev qP:Pos:=⟨0,0,0,0⟩
abbrev B:List Frame:=[topFrame qP]
abbrev L0:=SL.s14018661285674007319x4
abbrev L1:=SL.s11665532747177232413x24
abbrev L2:=SL.s15183661809925369436x15
abbrev L3:=SL.s13915890719876406383x10
abbrev L4:=SL.s13459172003223722735x3
abbrev L5:=SL.s10557405761357834076x3
abbrev L6:=SL.s4233737765568776869x3
abbrev L7:=SL.s2508922471967985374x5
abbrev L8:=SL.s15574269061696679450x3
abbrev L9:=SL.s6016482663378992977x10
abbrev L10:=SL.s5596568736180474577x8
abbrev L11:=SL.s2839554839881490554x3
abbrev L12:=SL.s725004073602090463x7
abbrev L13:=SL.s9436932552931045734x7
abbrev L14:=SL.s2754603736356183583x3
abbrev L15:=SL.s15185746759980889043x6
abbrev L16:=SL.s8192189862530294059x4
abbrev L17:=SL.s7038307821325472102x4
abbrev L18:=SL.s5662562618415449548x6
abbrev L19:=SL.s15281542589158584767x7
abbrev L20:=SL.s17651547275483570877x7
abbrev L21:=SL.s4036449017235975746x7
abbrev L22:=SL.s8879979712987360175x4
abbrev L23:=SL.s1801250619170735830x3
abbrev L24:=SL.s17659931425627118568x2
abbrev L25:=SL.s6063217899685152688x5
abbrev L26:=SL.s8008927332132565319x10
abbrev L27:=SL.s3544116645089599534x10
abbrev L28:=SL.s13761710972054866084x4
abbrev L29:=SL.s12896375587409280029x5
abbrev L30:=SL.s13014049009108672802x3
abbrev L31:=SL.s13935586738268321596x6
abbrev L32:=SL.s8200498257699607233x3
abbrev L33:=SL.s14114244577727609259x3
abbrev L34:=SL.s1499430450269397089x4
abbrev L35:=SL.s8755793994789770505x5
abbrev L36:=SL.s15725212667919936108x3
abbrev L37:=SL.s15791221867095933363x3
abbrev L38:=SL.s81309575031448614x3
abbrev L39:=SL.s8069831620301644142x5
abbrev L40:=SL.s10061844253413749634x4
abbrev L41:=SL.s9496514870978017513x5
abbrev L42:=SL.s8899691144933366716x7
abbrev L43:=SL.s15201008993051130160x6
abbrev L44:=SL.s741896355592496720x3
abbrev L45:=SL.s17925004256654032244x4
abbrev L46:=SL.s11695548795398191787x4
abbrev L47:=SL.s4156966113859768872x10
abbrev L48:=SL.s9501651726347032510x9
abbrev L49:=SL.s15722918466584999320x5
abbrev L50:=SL.s591115383303110208x11
abbrev L51:=SL.s15721156781594690315x7
abbrev L52:=SL.s14340494229221121180x9
abbrev L53:=SL.s13429844117177748173x6
abbrev L54:=SL.s16463266125957815391x5
abbrev L55:=SL.s4922535414793169389x9
abbrev L56:=SL.s8101838861749082086x8
abbrev L57:=SL.s7066276694103001551x3
abbrev L58:=SL.s9222952809800978799x4
abbrev L59:=SL.s462964344163437139x3
abbrev L60:=SL.s2742458400755230247x6
abbrev L61:=SL.s1438033511350832697x5
abbrev L62:=SL.s14365286008749172514x8
abbrev L63:=SL.s3642769012341782148x3
abbrev L64:=SL.s4674234679698826739x5
abbrev L65:=SL.s16656946322747308186x12
abbrev L66:=SL.s10796804682411823810x3
abbrev L67:=SL.s4290257624100764138x5
abbrev L68:=SL.s2766695959194262286x5
abbrev L69:=SL.s17162191345867700912x4
abbrev L70:=SL.s14339709457334898076x3
abbrev L71:=SL.s4278001404047624695x13
abbrev L72:=SL.s6585700554429387442x18
abbrev L73:=SL.s5946037652744460706x9
abbrev L74:=SL.s7410770068591931388x13
abbrev L75:=SL.s11817881795495490833x17
abbrev L76:=SL.s15679963881808890155x10
abbrev L77:=SL.s3871700062485845797x15
abbrev L78:=SL.s7689518266570723881x14
abbrev L79:=SL.s9001593270443806431x14
abbrev L80:=SL.s6882542574934516792x11
abbrev L81:=SL.s14403400214490484960x8
abbrev L82:=SL.s14457978657717015782x11
abbrev L83:=SL.s1753610191782819921x11
abbrev L84:=SL.s14119380538032626715x11
abbrev L85:=SL.s11437920000406562045x9
abbrev L86:=SL.s10852414792293593619x7
abbrev L87:=SL.s14816307405966870543x14
abbrev L88:=SL.s8682627914449686677x12
abbrev L89:=SL.s4428170145600203450x18
abbrev L90:=SL.s5991306692159431302x13
abbrev L91:=SL.s16067994140765818257x11
abbrev L92:=SL.s2327743974964600596x11
abbrev L93:=SL.s2804747833354056582x9
abbrev L94:=SL.s6070975301684473832x10
abbrev L95:=SL.s14270485950484850486x7
abbrev L96:=SL.s12041534306414923332x18
abbrev L97:=SL.s2531307568338490285x13
abbrev L98:=SL.s631175304937289666x17
abbrev L99:=SL.s5144983644357021410x12
abbrev HY:=SL.s18039099521571816885x18
abbrev HZ:=SL.s6011586214260557989x15
abbrev Ia:=SL.s5430567037509283100x13
abbrev Ib:=SL.s8117915138073963741x13
abbrev Ic:=SL.s3423317712779056401x25
abbrev Id:=SL.s2007317383269046180x15
abbrev Ie:=SL.s17481586968713580700x14
abbrev Ig:=SL.s2450899226349176912x13
abbrev Ih:=SL.s16626165730633575011x14
abbrev Ii:=SL.s14288496050688921416x11
abbrev Ij:=SL.s5735081916595925998x15
abbrev Ik:=SL.s3865607918536308442x17
abbrev Il:=SL.s13337502604062700212x15
abbrev Im:=SL.s13114017843053701147x15
abbrev Io:=SL.s17467278006356818441x17
abbrev Ip:=SL.s17722149559621369488x16
abbrev Iq:=SL.s7855274175708717672x17
abbrev Ir:=SL.s13351283678309829046x18
abbrev Is:=SL.s6668348653404991179x15
abbrev Iu:=SL.s12913350958174193794x18
abbrev Iv:=SL.s16115879512475548326x12
abbrev Iw:=SL.s15920661018069861047x16
abbrev Ix:=SL.s10779130036587390575x21
abbrev Iy:=SL.s7801419657504700863x10
abbrev Iz:=SL.s1688129525768580628x8
abbrev IA:=SL.s1031832959479892071x19
abbrev IB:=SL.s8991790508128307865x19
abbrev IC:=SL.s14539662485746970245x23
abbrev ID:=SL.s11643622729373238714x14
abbrev IE:=SL.s3386828779285465597x17
abbrev IF:=SL.s13042696260734638735x12
abbrev IG:=SL.s18239426817015966623x15
abbrev IH:=SL.s1270395311379034370x22
abbrev II:=SL.s10696252587037064777x22
abbrev IJ:=SL.s7852717498200857586x20
abbrev IK:=SL.s6377248116197321094x8
abbrev IL:=SL.s3834378056692298002x18
abbrev IM:=SL.s17586630440231065808x18
abbrev IN:=SL.s15234114252648025395x21
abbrev IO:=SL.s8496462677383758984x14
abbrev IP:=SL.s16789243406116112673x4
abbrev IQ:=SL.s14400166428656793546x20
abbrev IR:=SL.s5857708277339239366x20
abbrev IS:=SL.s7804999707787243718x20
abbrev ww:=SL.s7097527257260152453x26
abbrev IT:=SL.s6658869562736209489x6
abbrev wz:=SL.s5856160107412720595x4
abbrev HJ:=SL.s658472552662922059x5
abbrev sZ (w:G6) (os:OsState):G3:=⟨boot_heap w.params,Array.mk [],boot_drawn,boot_toks,os⟩
def o11 (P:Params):Obj:=⟨(.type L68),none,(.seq #[] 0),#[]⟩
def o12 (P:Params):Obj:=⟨.none,none,(.fields #[]),#[]⟩
def g0 (x0:Str)(x1 x2 x3:Nat)(P:Params):Obj:=⟨(.type wz),none,(.fields #[.str x0 x1,.str x0 (x1+1),.str jx (x1+2),.int x2 0,.int 0 0,.int 0 0,.int 0 0,.int 0 0,.ref x3,.bool false,.int 181 0,.ref (x3+1),.none,.none,.none,.none,.int (x1+3) 0,.int x2 0,.str jx (x1+4)]),#[]⟩
def o13:=g0 GH 182 1 11
def g1 (x0 x1:Nat)(x2:Str)(x3:Nat)(P:Params):Obj:=⟨(.type HJ),none,.plain,#[some (.ref x0),some (.ref 3),some (.ref x1),none,some (.str x2 x3),none,some (.ref 0)]⟩
def o14:=g1 13 3 Cn 164
def hA (P:Params):Heap:=⟨⟨[boot_o_0 P,boot_o_1 P,boot_o_2 P,boot_o_3 P,boot_o_4 P,boot_o_5 P,boot_o_6 P,boot_o_7 P,boot_o_8 P,boot_o_9 P,boot_o_10 P,o11 P,o12 P,o13 P,o14 P]⟩,{ }⟩
abbrev sA (w:G6) (os:OsState):G3:=⟨hA w.params,(Array.mk []),⟨0,0,0,0⟩,187,os⟩
abbrev pA:Pos:=⟨0,0,0,0⟩
theorem pre (w:G6):(λ os=>topGo treeTable pt w m0 an 12 (sZ w os) (topStub pt))=λ os=>some (sA w os,(⟨denote treeTable cE,cE,pA,B⟩:Thread)):=by rw [PySem.W.Fast.te15667345088766844465,PySem.W.Fast.te14364793385576792824,PySem.W.Fast.te11892475500146522536]; kernel_rfl
def tB:Params->BT:=(f boot_o_0 (f boot_o_1 (f boot_o_3 (f boot_o_7 z z) (f o11 z z)) (f boot_o_5 (f boot_o_9 z z) (f o13 z z))) (f boot_o_2 (f boot_o_4 (f boot_o_8 z z) (f o12 z z)) (f boot_o_6 (f boot_o_10 z z) (f o14 z z))))
abbrev sB (w:G6) (os:OsState):SharedT:=⟨tB w.params,15,{ },(Array.mk []),⟨0,0,0,0⟩,187,os⟩
abbrev pB:Pos:=⟨0,0,0,0⟩
theorem blk (w:G6):(λ os=>segRun treeTable pt w m0 an 1 1 (sA w os) ⟨(blockStart (behindTheImports pt) en).wrap (λ _=>doneF .next) deadEnd id id,cE,pA,B⟩)=λ os=>some (.next,(sB w os).abs,cE,pB):=by rw [PySem.W.Fast.te14374325043358763698,PySem.W.Fast.te14364793385576792824,PySem.W.Fast.te1066825118222455980]; kernel_rfl
def HL (P:Params):Obj:=⟨(.type L0),none,(.dict #[e P S0 165 (.str dH 194),e P S2 166 .none,e P S3 167 .none,e P S4 168 (.builtin ww),e P S5 169 .none,e P vI 170 (.ref 6),e P vJ 171 (.ref 4),e P vK 173 (.str jx 172),e P vL 174 .none,e P kz 193 (.ref 21),e P fI 213 (.ref 31),e P lJ 229 (.ref 44),e P lK 245 (.ref 56),e P lL 261 (.ref 68),e P lM 277 (.ref 80),e P lN 293 (.ref 92),e P lO 309 (.ref 104),e P lP 325 (.ref 116),e P lQ 341 (.ref 128)] 19),#[]⟩
def CP (P:Params):Obj:=⟨.none,none,(.fields #[.int 1 0,.int 0 0,.ref 20,.int 5 0,.int 0 0,.ref 27,.int 7 0,.int 0 0,.ref 40,.int 9 0,.int 0 0,.ref 52,.int 11 0,.int 0 0,.ref 64,.int 13 0,.int 0 0,.ref 76,.int 15 0,.int 0 0,.ref 88,.int 17 0,.int 0 0,.ref 100,.int 19 0,.int 0 0,.ref 112,.int 21 0,.int 0 0,.ref 124]),#[]⟩
def g2 (x0:Str)(x1:Nat)(P:Params):Obj:=⟨(.type L68),none,(.seq #[.str x0 x1] 0),#[]⟩
def o17:=g2 GI 190
def g3 (x0:Str)(x1:Nat)(P:Params):Obj:=⟨.none,none,(.func ⟨x0,x0,L2.defArgs (tp x1),(.stmts (L2.defBody (tp x1))),L2.defScope (tp x1),0,[],.none,.none,.none,.none,none,.none,.none,0⟩),#[]⟩
def o19:=g3 kz 0
def g4 (x0:Str)(x1:Nat)(x2:Str)(x3 x4 x5 x6:Nat)(P:Params):Obj:=⟨(.type wz),none,(.fields #[.str x0 x1,.str x2 (x1+1),.str jx (x1+2),.int x3 0,.int x4 0,.int 0 0,.int 0 0,.int 3 0,.ref x5,.bool true,.int 181 0,.ref (x5+1),.none,.ref (x5+2),.ref (x5+3),.ref (x5+4),.int x6 0,.int x3 0,.str jx (x6+1)]),#[]⟩
def o20:=g4 kz 187 kz 1 1 15 191
abbrev CQ:=SL.s7174869446012820540x8
def g5 (x0:Str)(x1:Nat)(x2:Str)(x3 x4:Nat)(P:Params):Obj:=⟨(.type CQ),none,(.func ⟨x0,x0,L2.defArgs (tp x1),(.stmts (L2.defBody (tp x1))),L2.defScope (tp x1),3,[],.none,.none,.none,.str x2 x3,none,.ref x4,.none,0⟩),#[]⟩
def o21:=g5 kz 0 Cn 164 20
def o22 (P:Params):Obj:=⟨(.type L68),none,(.seq #[.type L94] 0),#[]⟩
abbrev CS:=SL.s11030030927630378310x26
abbrev HM:=SL.s10062305145149207511x16
def o23 (P:Params):Obj:=⟨(.type CS),none,(.fields #[.builtin HM,.type L69]),#[]⟩
def g6 (x0:Nat)(x1:Str)(x2 x3:Nat)(P:Params):Obj:=⟨(.type L0),none,(.dict #[e P rn x0 (.str dH 194),e P Co (x0+2) (.str x1 (x0+1)),e P rp (x0+4) (.int x2 (x0+3)),e P rq (x0+5) (.ref x3)] 4),#[]⟩
def o24:=g6 203 fI 5 29
def o27:=g0 fI 198 5 25
def o28:=g1 27 24 dH 194
def o30 (P:Params):Obj:=⟨(.type L0),none,(.dict #[e P rn 203 (.str dH 194),e P rp 207 (.int 5 206),e P rq 208 (.ref 29),e P vM 210 (.ref 32),e P S2 211 .none] 3),#[]⟩
abbrev wA:=SL.s4209523147560561109x18
def o31 (P:Params):Obj:=⟨(.type L69),none,(.cls ⟨fI,[.type L94],[.ref 31,.type L94,.type L73,.type L71,.type L60],30,fI,true,[],[.ref 44,.ref 56,.ref 68,.ref 80,.ref 92,.ref 104,.ref 116,.ref 128],false,none,false⟩),#[some (.ref 22),none,some (.str fI 196),some (.str fI 204),some (.builtin wA),some (.bool true)]⟩
abbrev CT:=SL.s14755015743595814543x17
abbrev HN:=SL.s10220274742760427390x26
def g7 (x0 x1:Nat)(P:Params):Obj:=⟨(.type CT),none,(.fields #[.str vM x0,.ref x1,.builtin HN,.none]),#[]⟩
def o32:=g7 209 31
def g8 (x0:Nat)(P:Params):Obj:=⟨(.type L67),none,(.fields #[.ref x0,.ref x0,.ref x0]),#[]⟩
def o33:=g8 31
abbrev HP:=SL.s4860613602091757760x24
def g9 (x0:Nat)(P:Params):Obj:=⟨(.type CS),none,(.fields #[.builtin HP,.ref x0]),#[]⟩
def o34:=g9 31
def o35 (P:Params):Obj:=⟨(.type L68),none,(.seq #[.ref 31] 0),#[]⟩
def o37:=g6 221 lJ 7 42
def o40:=g0 lJ 216 7 38
def o41:=g1 40 37 dH 194
def g10 (x0 x1 x2:Nat)(P:Params):Obj:=⟨(.type L0),none,(.dict #[e P rn x0 (.str dH 194),e P rp (x0+4) (.int x1 (x0+3)),e P rq (x0+5) (.ref x2),e P S2 (x0+6) .none] 2),#[]⟩
def o43:=g10 221 7 42
def g11 (x0:Str)(x1 x2 x3 x4:Nat)(P:Params):Obj:=⟨(.type L69),none,(.cls ⟨x0,[.ref 31],[.ref x1,.ref 31,.type L94,.type L73,.type L71,.type L60],x2,x0,true,[],[],false,none,false⟩),#[some (.ref x3),none,some (.str x0 x4),some (.str x0 (x4+8)),some (.builtin wA),some (.bool true)]⟩
def o44:=g11 lJ 44 43 35 214
def o45:=g8 44
def o46:=g9 44
def o49:=g6 237 lK 9 54
def o52:=g0 lK 232 9 50
def o53:=g1 52 49 dH 194
def o55:=g10 237 9 54
def o56:=g11 lK 56 55 47 230
def o57:=g8 56
def o58:=g9 56
def o61:=g6 253 lL 11 66
def o64:=g0 lL 248 11 62
def o65:=g1 64 61 dH 194
def o67:=g10 253 11 66
def o68:=g11 lL 68 67 59 246
def o69:=g8 68
def o70:=g9 68
def o73:=g6 269 lM 13 78
def o76:=g0 lM 264 13 74
def o77:=g1 76 73 dH 194
def o79:=g10 269 13 78
def o80:=g11 lM 80 79 71 262
def o81:=g8 80
def o82:=g9 80
def o85:=g6 285 lN 15 90
def o88:=g0 lN 280 15 86
def o89:=g1 88 85 dH 194
def o91:=g10 285 15 90
def o92:=g11 lN 92 91 83 278
def o93:=g8 92
def o94:=g9 92
def o97:=g6 301 lO 17 102
def tV:=g0 lO 296 17 98
def tW:=g1 100 97 dH 194
def tX:=g10 301 17 102
def tY:=g11 lO 104 103 95 294
def tZ:=g8 104
def uh:=g9 104
def ui:=g6 317 lP 19 114
def uj:=g0 lP 312 19 110
def uk:=g1 112 109 dH 194
def um:=g10 317 19 114
def uo:=g11 lP 116 115 107 310
def uq:=g8 116
def ur:=g9 116
def ut:=g6 333 lQ 21 126
def uu:=g0 lQ 328 21 122
def uv:=g1 124 121 dH 194
def uw:=g10 333 21 126
def ux:=g11 lQ 128 127 119 326
def uy:=g8 128
def uz:=g9 128
def t0:Params->BT:=(f boot_o_0 (f boot_o_1 (f HL (f boot_o_7 (f o11 (f o31 (f o12 (f uw z z) z) (f o35 z z)) (f o35 (f o79 z z) (f o12 z z))) (f o23 (f o12 (f o35 z z) (f tX z z)) (f o55 (f o12 z z) (f o35 z z)))) (f o11 (f o19 (f o35 (f o67 z z) (f o12 z z)) (f o12 (f o35 z z) (f um z z))) (f o27 (f o43 (f o12 z z) (f o35 z z)) (f o35 (f o91 z z) (f o12 z z))))) (f boot_o_5 (f boot_o_9 (f o17 (f o33 (f o65 (f uy z z) z) (f o97 z z)) (f o49 (f o81 z z) (f uk z z))) (f o11 (f o41 (f o73 z z) (f tZ z z)) (f o57 (f o89 z z) (f ut z z)))) (f o13 (f o21 (f o37 (f o69 z z) (f tW z z)) (f o53 (f o85 z z) (f uq z z))) (f o11 (f o45 (f o77 z z) (f ui z z)) (f o61 (f o93 z z) (f uv z z)))))) (f boot_o_2 (f boot_o_4 (f boot_o_8 (f o12 (f o32 (f o64 (f ux z z) z) (f o23 z z)) (f o23 (f o80 z z) (f uj z z))) (f o24 (f o40 (f o23 z z) (f tY z z)) (f o56 (f o88 z z) (f o23 z z)))) (f CP (f o20 (f o23 (f o68 z z) (f tV z z)) (f o52 (f o23 z z) (f uo z z))) (f o28 (f o44 (f o76 z z) (f o23 z z)) (f o23 (f o92 z z) (f uu z z))))) (f boot_o_6 (f boot_o_10 (f o11 (f o34 (f o11 (f uz z z) z) (f o11 z z)) (f o11 (f o82 z z) (f o11 z z))) (f o12 (f o11 (f o11 z z) (f uh z z)) (f o58 (f o11 z z) (f o11 z z)))) (f o14 (f o22 (f o11 (f o70 z z) (f o11 z z)) (f o11 (f o11 z z) (f ur z z))) (f o30 (f o46 (f o11 z z) (f o11 z z)) (f o11 (f o94 z z) (f o11 z z)))))))
abbrev s0 (w:G6) (os:OsState):SharedT:=⟨t0 w.params,131,{ },(Array.mk []),⟨0,0,0,0⟩,342,os⟩
abbrev p0:Pos:=⟨21,0,22,8⟩
abbrev st0:List Stmt:=(pt.main.body.drop 0).take 11
theorem q0 (w:G6):(λ os=>segRunT treeTable pt w m0 an 1 1929 (sB w os) ⟨(execs st0 en).wrap doneF deadEnd id id,cE,pB,B⟩)=λ os=>some (.next,s0 w os,cE,p0):=by rw [PySem.W.Fast.te10110043849684766642,PySem.W.Fast.te14364793385576792824,PySem.W.Fast.te12563942051412417395]; kernel_rfl
def HQ (P:Params):Obj:=⟨(.type L0),none,(.dict #[e P S0 165 (.str lR 655),e P S2 166 .none,e P S3 167 .none,e P S4 168 (.builtin ww),e P S5 169 .none,e P vI 170 (.ref 6),e P vJ 171 (.ref 4),e P vK 173 (.str jx 172),e P vL 174 .none,e P kz 193 (.ref 21),e P fI 213 (.ref 31),e P lJ 229 (.ref 44),e P lK 245 (.ref 56),e P lL 261 (.ref 68),e P lM 277 (.ref 80),e P lN 293 (.ref 92),e P lO 309 (.ref 104),e P lP 325 (.ref 116),e P lQ 341 (.ref 128),e P oE 357 (.ref 140),e P oF 373 (.ref 152),e P oG 389 (.ref 164),e P oH 405 (.ref 176),e P oI 421 (.ref 188),e P lS 431 (.ref 197),e P lT 438 (.ref 204),e P lU 445 (.ref 211),e P lV 453 (.ref 218),e P vN 457 (.str vO 456),e P vP 459 (.str vQ 458),e P vR 460 (.ref 219),e P lW 475 (.ref 226),e P lX 487 (.ref 233),e P vS 491 (.str Cp 490),e P vT 493 (.str Cq 492),e P vU 495 (.int 1 494),e P vV 497 (.int 5 496),e P vW 499 (.int 4 498),e P lY 508 (.ref 240),e P lZ 519 (.ref 247),e P ma 532 (.ref 254),e P md 556 (.ref 261),e P me 569 (.ref 268),e P mf 579 (.ref 275),e P mh 592 (.ref 282),e P mj 615 (.ref 289),e P mm 621 (.ref 294),e P mn 627 (.ref 299),e P mo 633 (.ref 304),e P mq 654 (.ref 311),e P vX 658 (.int 8 657),e P vY 660 (.int 5 659),e P mr 672 (.ref 318),e P ms 679 (.ref 325)] 54),#[]⟩
def CU (P:Params):Obj:=⟨.none,none,(.fields #[.int 1 0,.int 0 0,.ref 20,.int 5 0,.int 0 0,.ref 27,.int 7 0,.int 0 0,.ref 40,.int 9 0,.int 0 0,.ref 52,.int 11 0,.int 0 0,.ref 64,.int 13 0,.int 0 0,.ref 76,.int 15 0,.int 0 0,.ref 88,.int 17 0,.int 0 0,.ref 100,.int 19 0,.int 0 0,.ref 112,.int 21 0,.int 0 0,.ref 124,.int 23 0,.int 0 0,.ref 136,.int 25 0,.int 0 0,.ref 148,.int 27 0,.int 0 0,.ref 160,.int 29 0,.int 0 0,.ref 172,.int 31 0,.int 0 0,.ref 184,.int 34 0,.int 0 0,.ref 196,.int 36 0,.int 0 0,.ref 203,.int 38 0,.int 0 0,.ref 210,.int 40 0,.int 0 0,.ref 217,.int 47 0,.int 0 0,.ref 225,.int 52 0,.int 0 0,.ref 232,.int 63 0,.int 0 0,.ref 239,.int 67 0,.int 0 0,.ref 246,.int 74 0,.int 0 0,.ref 253,.int 79 0,.int 0 0,.ref 260,.int 86 0,.int 0 0,.ref 267,.int 97 0,.int 0 0,.ref 274,.int 100 0,.int 0 0,.ref 281,.int 111 0,.int 0 0,.ref 288,.int 119 0,.int 0 0,.ref 293,.int 123 0,.int 0 0,.ref 298,.int 129 0,.int 0 0,.ref 303,.int 132 0,.int 0 0,.ref 310,.int 147 0,.int 0 0,.ref 317,.int 154 0,.int 0 0,.ref 324]),#[]⟩
def rO (P:Params):Obj:=⟨(.type L69),none,(.cls ⟨fI,[.type L94],[.ref 31,.type L94,.type L73,.type L71,.type L60],30,fI,true,[],[.ref 44,.ref 56,.ref 68,.ref 80,.ref 92,.ref 104,.ref 116,.ref 128,.ref 140,.ref 152,.ref 164,.ref 176,.ref 188],false,none,false⟩),#[some (.ref 22),none,some (.str fI 196),some (.str fI 204),some (.builtin wA),some (.bool true)]⟩
def wB:=g6 349 oE 23 138
def wC:=g0 oE 344 23 134
def wD:=g1 136 133 dH 194
def wE:=g10 349 23 138
def wF:=g11 oE 140 139 131 342
def wG:=g8 140
def wH:=g9 140
def wI:=g6 365 oF 25 150
def wJ:=g0 oF 360 25 146
def wK:=g1 148 145 dH 194
def wL:=g10 365 25 150
def wM:=g11 oF 152 151 143 358
def wN:=g8 152
def wO:=g9 152
def wP:=g6 381 oG 27 162
def wQ:=g0 oG 376 27 158
def wR:=g1 160 157 dH 194
def wT:=g10 381 27 162
def wU:=g11 oG 164 163 155 374
def wV:=g8 164
def wW:=g9 164
def wX:=g6 397 oH 29 174
def wY:=g0 oH 392 29 170
def wZ:=g1 172 169 dH 194
def xa:=g10 397 29 174
def xb:=g11 oH 176 175 167 390
def xc:=g8 176
def xf:=g9 176
def xg:=g6 413 oI 31 186
def xh:=g0 oI 408 31 182
def xi:=g1 184 181 dH 194
def xj:=g10 413 31 186
def xk:=g11 oI 188 187 179 406
def xn:=g8 188
def xo:=g9 188
def g12 (x0:Str)(x1:Nat)(x2:Str)(x3:Nat)(P:Params):Obj:=⟨(.type L68),none,(.seq #[.str x0 x1,.str x2 x3] 0),#[]⟩
def xq:=g12 mt 427 GJ 428
def xt:=g3 lS 17
def xu:=g4 lS 424 lS 34 2 191 429
def xw:=g5 lS 17 tR 422 196
def xx:=g2 mt 435
def xy:=g3 lT 18
def xz:=g4 lT 432 lT 36 1 198 436
def xA:=g5 lT 18 tR 422 203
def xB:=g2 mt 442
def xC:=g3 lU 19
def xD:=g4 lU 439 lU 38 1 205 443
def xE:=g5 lU 19 tR 422 210
def xF:=g12 il 449 im 450
def xG:=g3 lV 20
def xH:=g4 lV 446 lV 40 2 212 451
def xI:=g5 lV 20 tR 422 217
def xJ:=g12 vO 456 vQ 458
def g13 (x0:Str)(x1:Nat)(x2 x3 x4 x5 x6 x7 x8 x9:Str)(P:Params):Obj:=⟨(.type L68),none,(.seq #[.str x0 x1,.str x2 (x1+1),.str x3 (x1+2),.str x4 (x1+3),.str x5 (x1+4),.str x6 (x1+5),.str x7 (x1+6),.str x8 (x1+7),.str x9 (x1+8)] 0),#[]⟩
def xK:=g13 tS 464 il im rz tT rA rB Cr Cs
def xL:=g3 lW 25
def xM:=g4 lW 461 lW 47 7 220 473
def xN:=g5 lW 25 Ct 454 225
def g14 (x0:Str)(x1:Nat)(x2 x3 x4 x5 x6:Str)(P:Params):Obj:=⟨(.type L68),none,(.seq #[.str x0 x1,.str x2 (x1+1),.str x3 (x1+2),.str x4 (x1+3),.str x5 (x1+4),.str x6 (x1+5)] 0),#[]⟩
def xO:=g14 jy 479 GK vZ Cu il im
def xP:=g3 lX 26
def xQ:=g4 lX 476 lX 52 4 227 485
def xR:=g5 lX 26 Ct 454 232
def g15 (x0:Str)(x1:Nat)(x2 x3:Str)(P:Params):Obj:=⟨(.type L68),none,(.seq #[.str x0 x1,.str x2 (x1+1),.str x3 (x1+2)] 0),#[]⟩
def xS:=g15 mt 503 Cv GL
def xT:=g3 lY 33
def xU:=g4 lY 500 lY 63 3 234 506
def xV:=g5 lY 33 mw 488 239
def g16 (x0:Str)(x1:Nat)(x2 x3 x4 x5:Str)(P:Params):Obj:=⟨(.type L68),none,(.seq #[.str x0 x1,.str x2 (x1+1),.str x3 (x1+2),.str x4 (x1+3),.str x5 (x1+4)] 0),#[]⟩
def xW:=g16 jy 512 rC rD vZ GM
def xX:=g3 lZ 34
def xY:=g4 lZ 509 lZ 67 2 241 517
def xZ:=g5 lZ 34 mw 488 246
def g17 (x0:Nat)(x1 x2 x3 x4 x5 x6:Str)(P:Params):Obj:=⟨(.type L68),none,(.seq #[.str tS x0,.str x1 (x0+1),.str x2 (x0+2),.str x3 (x0+3),.str x4 (x0+4),.str x5 (x0+5),.str x6 (x0+6)] 0),#[]⟩
def yb:=g17 523 rC rA rB il im rD
def yc:=g3 ma 35
def ye:=g4 ma 520 ma 74 2 248 530
def yf:=g5 ma 35 mw 488 253
def yg (P:Params):Obj:=⟨(.type L68),none,(.seq #[.str jy 536,.str rC 537,.str rA 538,.str rB 539,.str il 540,.str im 541,.str rD 542,.str vZ 543,.str Cu 544,.str GN 545,.str GO 546,.str GP 547,.str GQ 548,.str GR 549,.str GS 550,.str GT 551,.str GU 552,.str GV 553] 0),#[]⟩
def yh:=g3 md 36
def yi:=g4 md 533 md 79 2 255 554
def yj:=g5 md 36 mw 488 260
def yk:=g17 560 il im mt jy Cw rC
def ym:=g3 me 37
def yn:=g4 me 557 me 86 4 262 567
def yo:=g5 me 37 mw 488 267
def g18 (x0:Str)(x1:Nat)(x2 x3 x4:Str)(P:Params):Obj:=⟨(.type L68),none,(.seq #[.str x0 x1,.str x2 (x1+1),.str x3 (x1+2),.str x4 (x1+3)] 0),#[]⟩
def yq:=g18 tS 573 il im mt
def yt:=g3 mf 38
def yu:=g4 mf 570 mf 97 4 269 577
def yw:=g5 mf 38 mw 488 274
def yx:=g17 583 il im rD GW Cw rC
def yy:=g3 mh 39
def yz:=g4 mh 580 mh 100 4 276 590
def yA:=g5 mh 39 mw 488 281
def g19 (x0:Nat)(x1 x2 x3 x4 x5 x6 x7 x8 x9 x10:Str)(P:Params):Obj:=⟨(.type L68),none,(.seq #[.str tS x0,.str il (x0+1),.str im (x0+2),.str rD (x0+3),.str GX (x0+4),.str x1 (x0+5),.str x2 (x0+6),.str x3 (x0+7),.str x4 (x0+8),.str x5 (x0+9),.str x6 (x0+10),.str x7 (x0+11),.str x8 (x0+12),.str x9 (x0+13),.str x10 (x0+14)] 0),#[]⟩
def yB:=g19 598 rA rB Cy Cz CA Cv rz tT GY GZ
def yC:=g3 mj 41
def yD:=g4 mj 595 mj 111 4 283 613
def yE:=g5 mj 41 rE 593 288
def yF:=g3 mm 42
def g20 (x0:Str)(x1:Nat)(x2:Str)(x3 x4 x5:Nat)(P:Params):Obj:=⟨(.type wz),none,(.fields #[.str x0 x1,.str x2 (x1+1),.str jx (x1+2),.int x3 0,.int x4 0,.int 0 0,.int 0 0,.int 3 0,.ref x5,.bool true,.int 181 0,.ref (x5+1),.none,.none,.none,.ref (x5+2),.int (x1+3) 0,.int x3 0,.str jx (x1+4)]),#[]⟩
def yG:=g20 mm 616 mm 119 4 290
def yH:=g5 mm 42 rE 593 293
def yI:=g3 mn 43
def yJ:=g20 mn 622 mn 123 4 295
def yK:=g5 mn 43 rE 593 298
def yL:=g3 mo 44
def yM:=g20 mo 628 mo 129 4 300
def yN:=g5 mo 44 rE 593 303
def yO:=g19 637 Hh Hi rA rB Cy Cz CA Hj Cr Cs
def yP:=g3 mq 45
def yQ:=g4 mq 634 mq 132 4 305 652
def yR:=g5 mq 45 rE 593 310
def yS:=g14 mt 664 il im Hk oJ Hl
def yT:=g3 mr 49
def yU:=g4 mr 661 mr 147 1 312 670
def yV:=g5 mr 49 lR 655 317
def yW:=g2 rz 676
def yX:=g3 ms 50
def yY:=g4 ms 673 ms 154 1 319 677
def yZ:=g5 ms 50 lR 655 324
def t1:Params->BT:=(f boot_o_0 (f boot_o_1 (f HQ (f boot_o_7 (f o11 (f rO (f o12 (f uw (f o11 z z) z) (f o11 (f o11 z z) z)) (f o35 (f o12 (f yC z z) z) (f o11 z z))) (f o35 (f o79 (f o35 (f yq z z) z) (f xB z z)) (f o12 (f xa (f yM z z) z) (f xU z z)))) (f o23 (f o12 (f o35 (f o12 (f o12 z z) z) (f o12 z z)) (f tX (f o35 (f o11 z z) z) (f xP z z))) (f o55 (f o12 (f wL (f o11 z z) z) (f o11 z z)) (f o35 (f o12 (f yR z z) z) (f xZ z z))))) (f o11 (f o19 (f o35 (f o67 (f o35 (f yh z z) z) (f xt (f yX z z) z)) (f o12 (f wT (f o12 z z) z) (f o11 z z))) (f o12 (f o35 (f o12 (f yw z z) z) (f xE z z)) (f um (f o35 (f yO z z) z) (f xW z z)))) (f o27 (f o43 (f o12 (f wE (f yn z z) z) (f xz z z)) (f o35 (f o12 (f yK z z) z) (f o12 z z))) (f o35 (f o91 (f o35 (f o11 z z) z) (f xJ z z)) (f o12 (f xj (f o11 z z) z) (f o11 z z)))))) (f boot_o_5 (f boot_o_9 (f o17 (f o33 (f o65 (f uy (f yg z z) z) (f xq (f yW z z) z)) (f o97 (f wR (f yE z z) z) (f xM z z))) (f o49 (f o81 (f wI (f yt z z) z) (f xC z z)) (f uk (f xc (f o11 z z) z) (f o11 z z)))) (f o11 (f o41 (f o73 (f wD (f o11 z z) z) (f o11 z z)) (f tZ (f wX (f yI z z) z) (f xR z z))) (f o57 (f o89 (f wN (f yz z z) z) (f xH z z)) (f ut (f xi (f o12 z z) z) (f o12 z z))))) (f o13 (f o21 (f o37 (f o69 (f wB (f yj z z) z) (f xw (f yZ z z) z)) (f tW (f wV (f yG z z) z) (f xO z z))) (f o53 (f o85 (f wK (f o12 z z) z) (f o12 z z)) (f uq (f xg (f yP z z) z) (f xX z z)))) (f o11 (f o45 (f o77 (f wG (f o11 z z) z) (f o11 z z)) (f ui (f wZ (f o12 z z) z) (f o11 z z))) (f o61 (f o93 (f wP (f yB z z) z) (f o12 z z)) (f uv (f xn (f yU z z) z) (f ye z z))))))) (f boot_o_2 (f boot_o_4 (f boot_o_8 (f o12 (f o32 (f o64 (f ux (f o12 z z) z) (f o12 (f o12 z z) z)) (f o23 (f wQ (f yD z z) z) (f xL z z))) (f o23 (f o80 (f o23 (f o11 z z) z) (f o11 z z)) (f uj (f xb (f yN z z) z) (f xV z z)))) (f o24 (f o40 (f o23 (f wC (f yk z z) z) (f xx z z)) (f tY (f o23 (f o12 z z) z) (f xQ z z))) (f o56 (f o88 (f wM (f yy z z) z) (f xG z z)) (f o23 (f xh (f o11 z z) z) (f o11 z z))))) (f CU (f o20 (f o23 (f o68 (f o23 (f yi z z) z) (f xu (f yY z z) z)) (f tV (f wU (f yF z z) z) (f o12 z z))) (f o52 (f o23 (f wJ (f o11 z z) z) (f o11 z z)) (f uo (f o23 (f o11 z z) z) (f o11 z z)))) (f o28 (f o44 (f o76 (f wF (f yo z z) z) (f xA z z)) (f o23 (f wY (f o11 z z) z) (f xS z z))) (f o23 (f o92 (f o23 (f o12 z z) z) (f o11 z z)) (f uu (f xk (f yT z z) z) (f yc z z)))))) (f boot_o_6 (f boot_o_10 (f o11 (f o34 (f o11 (f uz (f o11 z z) z) (f o11 (f o11 z z) z)) (f o11 (f o11 (f o11 z z) z) (f xN z z))) (f o11 (f o82 (f o11 (f yu z z) z) (f xD z z)) (f o11 (f xf (f o12 z z) z) (f o12 z z)))) (f o12 (f o11 (f o11 (f o11 (f ym z z) z) (f xy z z)) (f uh (f o11 (f yJ z z) z) (f o11 z z))) (f o58 (f o11 (f wO (f yA z z) z) (f xI z z)) (f o11 (f o11 (f yS z z) z) (f yb z z))))) (f o14 (f o22 (f o11 (f o70 (f o11 (f o11 z z) z) (f o11 z z)) (f o11 (f wW (f yH z z) z) (f o11 z z))) (f o11 (f o11 (f o11 (f yx z z) z) (f xF z z)) (f ur (f o11 (f yQ z z) z) (f xY z z)))) (f o30 (f o46 (f o11 (f wH (f o12 z z) z) (f o12 z z)) (f o11 (f o11 (f yL z z) z) (f xT z z))) (f o11 (f o94 (f o11 (f o11 z z) z) (f xK z z)) (f o11 (f xo (f yV z z) z) (f yf z z))))))))
abbrev s1 (w:G6) (os:OsState):SharedT:=⟨t1 w.params,326,{ },(Array.mk []),⟨0,0,0,0⟩,680,os⟩
abbrev p1:Pos:=⟨154,0,155,41⟩
abbrev st1:List Stmt:=(pt.main.body.drop 11).take 40
theorem q1 (w:G6):(λ os=>segRunT treeTable pt w m0 an 1 1869 (s0 w os) ⟨(execs st1 en).wrap doneF deadEnd id id,cE,p0,B⟩)=λ os=>some (.next,s1 w os,cE,p1):=by rw [PySem.W.Fast.te10110043849684766642,PySem.W.Fast.te14364793385576792824,PySem.W.Fast.te12563942051412417395]; kernel_rfl
def CV (P:Params):Obj:=⟨(.type L0),none,(.dict #[e P S0 165 (.str cH 754),e P S2 166 .none,e P S3 167 .none,e P S4 168 (.builtin ww),e P S5 169 .none,e P vI 170 (.ref 6),e P vJ 171 (.ref 4),e P vK 173 (.str jx 172),e P vL 174 .none,e P kz 193 (.ref 21),e P fI 213 (.ref 31),e P lJ 229 (.ref 44),e P lK 245 (.ref 56),e P lL 261 (.ref 68),e P lM 277 (.ref 80),e P lN 293 (.ref 92),e P lO 309 (.ref 104),e P lP 325 (.ref 116),e P lQ 341 (.ref 128),e P oE 357 (.ref 140),e P oF 373 (.ref 152),e P oG 389 (.ref 164),e P oH 405 (.ref 176),e P oI 421 (.ref 188),e P lS 431 (.ref 197),e P lT 438 (.ref 204),e P lU 445 (.ref 211),e P lV 453 (.ref 218),e P vN 457 (.str vO 456),e P vP 459 (.str vQ 458),e P vR 460 (.ref 219),e P lW 475 (.ref 226),e P lX 487 (.ref 233),e P vS 491 (.str Cp 490),e P vT 493 (.str Cq 492),e P vU 495 (.int 1 494),e P vV 497 (.int 5 496),e P vW 499 (.int 4 498),e P lY 508 (.ref 240),e P lZ 519 (.ref 247),e P ma 532 (.ref 254),e P md 556 (.ref 261),e P me 569 (.ref 268),e P mf 579 (.ref 275),e P mh 592 (.ref 282),e P mj 615 (.ref 289),e P mm 621 (.ref 294),e P mn 627 (.ref 299),e P mo 633 (.ref 304),e P mq 654 (.ref 311),e P vX 658 (.int 8 657),e P vY 660 (.int 5 659),e P mr 672 (.ref 318),e P ms 679 (.ref 325),e P kA 753 (.ref 380),e P oK 764 (.ref 391),e P oM 773 (.ref 398),e P oN 782 (.ref 405),e P oO 791 (.ref 412),e P oP 803 (.ref 419),e P oQ 810 (.ref 426),e P oR 816 (.ref 431),e P oS 831 (.ref 438),e P oU 848 (.ref 445),e P oV 856 (.ref 452),e P oW 867 (.ref 459),e P oX 879 (.ref 466),e P oY 887 (.ref 473),e P oZ 896 (.ref 480),e P pb 902 (.ref 485),e P pd 910 (.ref 492),e P pf 924 (.ref 499),e P pj 935 (.ref 506),e P pk 944 (.ref 513),e P pq 954 (.ref 520),e P pC 960 (.ref 525),e P rF 979 (.ref 532)] 77),#[]⟩
def uK (P:Params):Obj:=⟨.none,none,(.fields #[.int 1 0,.int 0 0,.ref 20,.int 5 0,.int 0 0,.ref 27,.int 7 0,.int 0 0,.ref 40,.int 9 0,.int 0 0,.ref 52,.int 11 0,.int 0 0,.ref 64,.int 13 0,.int 0 0,.ref 76,.int 15 0,.int 0 0,.ref 88,.int 17 0,.int 0 0,.ref 100,.int 19 0,.int 0 0,.ref 112,.int 21 0,.int 0 0,.ref 124,.int 23 0,.int 0 0,.ref 136,.int 25 0,.int 0 0,.ref 148,.int 27 0,.int 0 0,.ref 160,.int 29 0,.int 0 0,.ref 172,.int 31 0,.int 0 0,.ref 184,.int 34 0,.int 0 0,.ref 196,.int 36 0,.int 0 0,.ref 203,.int 38 0,.int 0 0,.ref 210,.int 40 0,.int 0 0,.ref 217,.int 47 0,.int 0 0,.ref 225,.int 52 0,.int 0 0,.ref 232,.int 63 0,.int 0 0,.ref 239,.int 67 0,.int 0 0,.ref 246,.int 74 0,.int 0 0,.ref 253,.int 79 0,.int 0 0,.ref 260,.int 86 0,.int 0 0,.ref 267,.int 97 0,.int 0 0,.ref 274,.int 100 0,.int 0 0,.ref 281,.int 111 0,.int 0 0,.ref 288,.int 119 0,.int 0 0,.ref 293,.int 123 0,.int 0 0,.ref 298,.int 129 0,.int 0 0,.ref 303,.int 132 0,.int 0 0,.ref 310,.int 147 0,.int 0 0,.ref 317,.int 154 0,.int 0 0,.ref 324,.int 156 0,.int 0 0,.ref 331,.int 194 0,.int 0 0,.ref 390,.int 199 0,.int 0 0,.ref 397,.int 206 0,.int 0 0,.ref 404,.int 213 0,.int 0 0,.ref 411,.int 217 0,.int 0 0,.ref 418,.int 229 0,.int 0 0,.ref 425,.int 233 0,.int 0 0,.ref 430,.int 241 0,.int 0 0,.ref 437,.int 247 0,.int 0 0,.ref 444,.int 260 0,.int 0 0,.ref 451,.int 271 0,.int 0 0,.ref 458,.int 283 0,.int 0 0,.ref 465,.int 289 0,.int 0 0,.ref 472,.int 292 0,.int 0 0,.ref 479,.int 297 0,.int 0 0,.ref 484,.int 301 0,.int 0 0,.ref 491,.int 303 0,.int 0 0,.ref 498,.int 312 0,.int 0 0,.ref 505,.int 329 0,.int 0 0,.ref 512,.int 341 0,.int 0 0,.ref 519,.int 346 0,.int 0 0,.ref 524,.int 354 0,.int 0 0,.ref 531]),#[]⟩
def CW (P:Params):Obj:=⟨(.type L0),none,(.dict #[e P rn 687 (.str lR 655),e P Co 689 (.str kA 688),e P rp 691 (.int 156 690),e P rG 697 (.ref 337),e P jy 704 (.ref 344),e P rH 711 (.ref 351),e P oJ 717 (.ref 356),e P rJ 724 (.ref 363),e P rK 733 (.ref 370),e P rM 743 (.ref 377),e P rq 746 (.ref 378)] 11),#[]⟩
def CY (P:Params):Obj:=⟨.none,none,(.fields #[.int 158 0,.int 4 0,.ref 336,.int 169 0,.int 4 0,.ref 343,.int 172 0,.int 4 0,.ref 350,.int 175 0,.int 4 0,.ref 355,.int 178 0,.int 4 0,.ref 362,.int 181 0,.int 4 0,.ref 369,.int 186 0,.int 4 0,.ref 376]),#[]⟩
def CZ:=g0 kA 682 156 329
def Da:=g1 331 328 lR 655
def g21 (x0 x1:Str)(x2:Nat)(P:Params):Obj:=⟨.none,none,(.func ⟨x0,x1,L2.defArgs (L2.inClass (tp 51) x2),(.stmts (L2.defBody (L2.inClass (tp 51) x2))),L2.defScope (L2.inClass (tp 51) x2),0,[],.none,.none,.none,.none,none,.none,.none,0⟩),#[]⟩
def Db:=g21 rG wc 0
def Dc:=g20 rG 692 wc 158 3 333
def g22 (x0 x1:Str)(x2 x3:Nat)(P:Params):Obj:=⟨(.type CQ),none,(.func ⟨x0,x1,L2.defArgs (L2.inClass (tp 51) x2),(.stmts (L2.defBody (L2.inClass (tp 51) x2))),L2.defScope (L2.inClass (tp 51) x2),3,[],.none,.none,.none,.str lR 655,none,.ref x3,.none,0⟩),#[]⟩
def De:=g22 rG wc 0 336
def Df:=g2 rN 701
def Dg:=g21 jy we 1
def Dh:=g4 jy 698 we 169 1 338 702
def Di:=g22 jy we 1 343
def Dj:=g2 rN 708
def Dk:=g21 rH wf 2
def Dl:=g4 rH 705 wf 172 1 345 709
def Dm:=g22 rH wf 2 350
def Do:=g21 oJ wg 3
def Dp:=g20 oJ 712 wg 175 1 352
def Dq:=g22 oJ wg 3 355
def Dr:=g2 rN 721
def Ds:=g21 rJ wj 4
def Du:=g4 rJ 718 wj 178 1 357 722
def Dv:=g22 rJ wj 4 362
def Dw:=g15 rN 728 rz tT
def Dx:=g21 rK wk 5
def Dy:=g4 rK 725 wk 181 3 364 731
def Dz:=g22 rK wk 5 369
def DG:=g18 rN 737 rz tT Hm
def DH:=g21 rM wm 6
def DJ:=g4 rM 734 wm 186 3 371 741
def DQ:=g22 rM wm 6 376
def DV:=g12 Ho 744 Hq 745
def DX (P:Params):Obj:=⟨(.type L0),none,(.dict #[e P rn 687 (.str lR 655),e P rp 691 (.int 156 690),e P rG 697 (.ref 337),e P jy 704 (.ref 344),e P rH 711 (.ref 351),e P oJ 717 (.ref 356),e P rJ 724 (.ref 363),e P rK 733 (.ref 370),e P rM 743 (.ref 377),e P rq 746 (.ref 378),e P CB 748 (.ref 381),e P vM 750 (.ref 382),e P S2 751 .none] 4),#[]⟩
abbrev HR:=SL.s11443829558043349243x14
def DY (P:Params):Obj:=⟨(.type L69),none,(.cls ⟨kA,[.type L60],[.ref 380,.type L60],379,kA,true,[],[],false,none,false⟩),#[none,none,some (.str kA 680),some (.str kA 688),some (.builtin HR),some (.bool true)]⟩
abbrev HS:=SL.s6511155373996960695x17
abbrev HU:=SL.s12411053484034534018x21
def DZ (P:Params):Obj:=⟨(.type CT),none,(.fields #[.str CB 747,.ref 380,.builtin HS,.builtin HU]),#[]⟩
def Ea:=g7 749 380
def Eb:=g8 380
def Ed:=g9 380
def Ee:=g15 CC 759 wn Hr
def Ef:=g3 oK 53
def Eg:=g4 oK 756 oK 194 2 385 762
def Eh:=g5 oK 53 cH 754 390
def Ei:=g15 gm 768 Hs CD
def Ej:=g3 oM 54
def Ek:=g4 oM 765 oM 199 2 392 771
def El:=g5 oM 54 cH 754 397
def Em:=g15 gm 777 CF Ht
def En:=g3 oN 55
def Eo:=g4 oN 774 oN 206 2 399 780
def Ep:=g5 oN 55 cH 754 404
def Er:=g15 gm 786 jz jA
def Es:=g3 oO 56
def Et:=g4 oO 783 oO 213 1 406 789
def Eu:=g5 oO 56 cH 754 411
def Ev:=g14 gm 795 Hu CG Hv jz jA
def Ew:=g3 oP 57
def Ex:=g4 oP 792 oP 217 1 413 801
def Ey:=g5 oP 57 cH 754 418
def Ez:=g2 gm 807
def EA:=g3 oQ 58
def EB:=g4 oQ 804 oQ 229 1 420 808
def EC:=g5 oQ 58 cH 754 425
def ED:=g3 oR 59
def EE:=g20 oR 811 oR 233 3 427
def EF:=g5 oR 59 cH 754 430
def EG:=g13 gm 820 CG jz jA tU CI CJ CK CL
def EH:=g3 oS 60
def EI:=g4 oS 817 oS 241 4 432 829
def EJ:=g5 oS 60 cH 754 437
def EK (P:Params):Obj:=⟨(.type L68),none,(.seq #[.str gm 835,.str pE 836,.str jz 837,.str jA 838,.str Hw 839,.str CM 840,.str Hz 841,.str HA 842,.str wn 843,.str CN 844,.str HB 845] 0),#[]⟩
def EL:=g3 oU 61
def EM:=g4 oU 832 oU 247 6 439 846
def EN:=g5 oU 61 cH 754 444
def EO:=g12 CO 852 CD 853
def EQ:=g3 oV 62
def ER:=g4 oV 849 oV 260 1 446 854
def ES:=g5 oV 62 cH 754 451
def ET:=g16 wr 860 pE jz jA pF
def EU:=g3 oW 63
def EV:=g4 oW 857 oW 271 5 453 865
def EW:=g5 oW 63 cH 754 458
def EX:=g14 wr 871 pE jz jA pF CO
def EY:=g3 oX 64
def EZ:=g4 oX 868 oX 283 5 460 877
def Fa:=g5 oX 64 cH 754 465
def Fb:=g12 gm 883 tU 884
def Fc:=g3 oY 65
def Fd:=g4 oY 880 oY 289 1 467 885
def Fe:=g5 oY 65 cH 754 472
def Ff:=g15 gm 891 pF tU
def Fg:=g3 oZ 66
def Fh:=g4 oZ 888 oZ 292 2 474 894
def Fi:=g5 oZ 66 cH 754 479
def Fj:=g3 pb 67
def Fk:=g20 pb 897 pb 297 1 481
def Fl:=g5 pb 67 cH 754 484
def Fm:=g12 wu 906 CF 907
def Fn:=g3 pd 68
def Fo:=g4 pd 903 pd 301 2 486 908
def Fp:=g5 pd 68 cH 754 491
def Fq (P:Params):Obj:=⟨(.type L68),none,(.seq #[.str pE 914,.str jz 915,.str jA 916,.str pF 917,.str CI 918,.str CJ 919,.str CK 920,.str CL 921] 0),#[]⟩
def Fs:=g3 pf 69
def Ft:=g4 pf 911 pf 303 4 493 922
def Fu:=g5 pf 69 cH 754 498
def Fv:=g16 pE 928 jz jA pF CN
def Fw:=g3 pj 70
def Fx:=g4 pj 925 pj 312 4 500 933
def Fy:=g5 pj 70 cH 754 505
def Fz:=g15 gm 939 wu tU
def FA:=g3 pk 71
def FB:=g4 pk 936 pk 329 2 507 942
def FC:=g5 pk 71 cH 754 512
def FD:=g18 gm 948 wu CM HC
def FE:=g3 pq 72
def FF:=g4 pq 945 pq 341 3 514 952
def FG:=g5 pq 72 cH 754 519
def FH:=g3 pC 73
def FI:=g20 pC 955 pC 346 6 521
def FJ:=g5 pC 73 cH 754 524
def FK (P:Params):Obj:=⟨(.type L68),none,(.seq #[.str CC 964,.str HD 965,.str pE 966,.str wn 967,.str gm 968,.str jz 969,.str jA 970,.str pF 971,.str HE 972,.str HF 973,.str wr 974,.str HG 975,.str HI 976] 0),#[]⟩
def FL:=g3 rF 74
def FM:=g4 rF 961 rF 354 1 526 977
def FN:=g5 rF 74 cH 754 531
def t2:Params->BT:=(f boot_o_0 (f boot_o_1 (f CV (f boot_o_7 (f o11 (f rO (f o12 (f uw (f o11 (f FA z z) z) (f Eb z z)) (f o11 (f o11 z z) (f o12 z z))) (f o35 (f o12 (f yC z z) (f Ev z z)) (f o11 (f Dm z z) (f Fh z z)))) (f o35 (f o79 (f o35 (f yq (f o12 z z) z) (f o11 z z)) (f xB (f Db z z) (f o11 z z))) (f o12 (f xa (f yM z z) (f EF z z)) (f xU (f o11 z z) (f Fq z z))))) (f o23 (f o12 (f o35 (f o12 (f o12 (f FF z z) z) (f Eh z z)) (f o12 (f o23 z z) (f ET z z))) (f tX (f o35 (f o11 z z) (f o11 z z)) (f xP (f Dr z z) (f o12 z z)))) (f o55 (f o12 (f wL (f o11 z z) (f o12 z z)) (f o11 (f Dh z z) (f Fc z z))) (f o35 (f o12 (f yR z z) (f o11 z z)) (f xZ (f DH z z) (f o11 z z)))))) (f o11 (f o19 (f o35 (f o67 (f o35 (f yh (f o12 z z) z) (f Ee z z)) (f xt (f yX z z) (f ER z z))) (f o12 (f wT (f o12 z z) (f Ey z z)) (f o11 (f Dp z z) (f Fj z z)))) (f o12 (f o35 (f o12 (f yw (f FM z z) z) (f En z z)) (f xE (f o12 z z) (f o11 z z))) (f um (f o35 (f yO z z) (f o11 z z)) (f xW (f o11 z z) (f Fu z z))))) (f o27 (f o43 (f o12 (f wE (f yn (f FH z z) z) (f o11 z z)) (f xz (f CZ z z) (f EW z z))) (f o35 (f o12 (f yK z z) (f o11 z z)) (f o12 (f Dv z z) (f Fo z z)))) (f o35 (f o91 (f o35 (f o11 z z) (f Et z z)) (f xJ (f Dj z z) (f o12 z z))) (f o12 (f xj (f o11 z z) (f EL z z)) (f o11 (f DX z z) (f o11 z z))))))) (f boot_o_5 (f boot_o_9 (f o17 (f o33 (f o65 (f uy (f yg (f FC z z) z) (f o11 z z)) (f xq (f yW z z) (f o11 z z))) (f o97 (f wR (f yE z z) (f Ew z z)) (f xM (f o12 z z) (f o11 z z)))) (f o49 (f o81 (f wI (f yt (f o11 z z) z) (f Em z z)) (f xC (f De z z) (f EZ z z))) (f uk (f xc (f o11 z z) (f o12 z z)) (f o11 (f Dy z z) (f Fs z z))))) (f o11 (f o41 (f o73 (f wD (f o11 (f o11 z z) z) (f o12 z z)) (f o11 (f o11 z z) (f EU z z))) (f tZ (f wX (f yI z z) (f EB z z)) (f xR (f Ds z z) (f o11 z z)))) (f o57 (f o89 (f wN (f yz z z) (f o11 z z)) (f xH (f o11 z z) (f Fe z z))) (f ut (f xi (f o12 z z) (f EK z z)) (f o12 (f DQ z z) (f Fx z z)))))) (f o13 (f o21 (f o37 (f o69 (f wB (f yj (f o11 z z) z) (f Ef z z)) (f xw (f yZ z z) (f o11 z z))) (f tW (f wV (f yG z z) (f o12 z z)) (f xO (f o11 z z) (f Fl z z)))) (f o53 (f o85 (f wK (f o12 z z) (f Ep z z)) (f o12 (f o11 z z) (f Fb z z))) (f uq (f xg (f yP z z) (f EI z z)) (f xX (f DG z z) (f o12 z z))))) (f o11 (f o45 (f o77 (f wG (f o11 (f FJ z z) z) (f Ek z z)) (f o11 (f o11 z z) (f o12 z z))) (f ui (f wZ (f o12 z z) (f ED z z)) (f o11 (f o12 z z) (f o11 z z)))) (f o61 (f o93 (f wP (f yB z z) (f o11 z z)) (f o12 (f Dk z z) (f o11 z z))) (f uv (f xn (f yU z z) (f EN z z)) (f ye (f DZ z z) (f Fz z z)))))))) (f boot_o_2 (f boot_o_4 (f boot_o_8 (f o12 (f o32 (f o64 (f ux (f o12 (f FB z z) z) (f Ed z z)) (f o12 (f o12 z z) (f EO z z))) (f o23 (f wQ (f yD z z) (f o11 z z)) (f xL (f o11 z z) (f Fi z z)))) (f o23 (f o80 (f o23 (f o11 (f FK z z) z) (f o12 z z)) (f o11 (f Dc z z) (f EY z z))) (f uj (f xb (f yN z z) (f o11 z z)) (f xV (f Dx z z) (f o11 z z))))) (f o24 (f o40 (f o23 (f wC (f yk (f FG z z) z) (f o11 z z)) (f xx (f CW z z) (f o11 z z))) (f tY (f o23 (f o12 z z) (f EA z z)) (f xQ (f o11 z z) (f Fm z z)))) (f o56 (f o88 (f wM (f yy z z) (f Er z z)) (f xG (f Di z z) (f Fd z z))) (f o23 (f xh (f o11 z z) (f o12 z z)) (f o11 (f DJ z z) (f Fw z z)))))) (f uK (f o20 (f o23 (f o68 (f o23 (f yi (f FD z z) z) (f o11 z z)) (f xu (f yY z z) (f ES z z))) (f tV (f wU (f yF z z) (f o11 z z)) (f o12 (f Dq z z) (f Fk z z)))) (f o52 (f o23 (f wJ (f o11 (f FN z z) z) (f Eo z z)) (f o11 (f Df z z) (f o12 z z))) (f uo (f o23 (f o11 z z) (f EH z z)) (f o11 (f o12 z z) (f o11 z z))))) (f o28 (f o44 (f o76 (f wF (f yo (f FI z z) z) (f Ej z z)) (f xA (f Da z z) (f o11 z z))) (f o23 (f wY (f o11 z z) (f o12 z z)) (f xS (f o11 z z) (f Fp z z)))) (f o23 (f o92 (f o23 (f o12 z z) (f Eu z z)) (f o11 (f o11 z z) (f Ff z z))) (f uu (f xk (f yT z z) (f EM z z)) (f yc (f DY z z) (f o12 z z))))))) (f boot_o_6 (f boot_o_10 (f o11 (f o34 (f o11 (f uz (f o11 (f o11 z z) z) (f o12 z z)) (f o11 (f o11 z z) (f EQ z z))) (f o11 (f o11 (f o11 z z) (f Ex z z)) (f xN (f Do z z) (f o12 z z)))) (f o11 (f o82 (f o11 (f yu (f FL z z) z) (f o11 z z)) (f xD (f o11 z z) (f Fa z z))) (f o11 (f xf (f o12 z z) (f EG z z)) (f o12 (f Dz z z) (f Ft z z))))) (f o12 (f o11 (f o11 (f o11 (f ym (f o12 z z) z) (f Ei z z)) (f xy (f CY z z) (f EV z z))) (f uh (f o11 (f yJ z z) (f EC z z)) (f o11 (f Du z z) (f Fn z z)))) (f o58 (f o11 (f wO (f yA z z) (f Es z z)) (f xI (f o12 z z) (f o11 z z))) (f o11 (f o11 (f yS z z) (f o11 z z)) (f yb (f DV z z) (f Fy z z)))))) (f o14 (f o22 (f o11 (f o70 (f o11 (f o11 (f FE z z) z) (f Eg z z)) (f o11 (f o11 z z) (f o12 z z))) (f o11 (f wW (f yH z z) (f Ez z z)) (f o11 (f o12 z z) (f o11 z z)))) (f o11 (f o11 (f o11 (f yx z z) (f o11 z z)) (f xF (f Dg z z) (f o11 z z))) (f ur (f o11 (f yQ z z) (f EJ z z)) (f xY (f o11 z z) (f Fv z z))))) (f o30 (f o46 (f o11 (f wH (f o12 (f o11 z z) z) (f El z z)) (f o12 (f o12 z z) (f EX z z))) (f o11 (f o11 (f yL z z) (f EE z z)) (f xT (f Dw z z) (f o12 z z)))) (f o11 (f o94 (f o11 (f o11 z z) (f o12 z z)) (f xK (f Dl z z) (f Fg z z))) (f o11 (f xo (f yV z z) (f o11 z z)) (f yf (f Ea z z) (f o11 z z)))))))))
abbrev s2 (w:G6) (os:OsState):SharedT:=⟨t2 w.params,533,{ },(Array.mk []),⟨0,0,0,0⟩,980,os⟩
abbrev p2:Pos:=⟨354,0,377,15⟩
abbrev st2:List Stmt:=(pt.main.body.drop 51).take 24
theorem q2 (w:G6):(λ os=>segRunT treeTable pt w m0 an 1 1119 (s1 w os) ⟨(execs st2 en).wrap doneF deadEnd id id,cE,p1,B⟩)=λ os=>some (.next,s2 w os,cE,p2):=by rw [PySem.W.Fast.te10110043849684766642,PySem.W.Fast.te14364793385576792824,PySem.W.Fast.te12563942051412417395]; kernel_rfl
def hF (P:Params):Heap:=⟨⟨[boot_o_0 P,boot_o_1 P,boot_o_2 P,CV P,boot_o_4 P,boot_o_5 P,boot_o_6 P,boot_o_7 P,boot_o_8 P,boot_o_9 P,boot_o_10 P,o11 P,uK P,o13 P,o14 P,o11 P,o12 P,o17 P,o11 P,o19 P,o20 P,o21 P,o22 P,o23 P,o24 P,o11 P,o12 P,o27 P,o28 P,o11 P,o30 P,rO P,o32 P,o33 P,o34 P,o35 P,o23 P,o37 P,o11 P,o12 P,o40 P,o41 P,o11 P,o43 P,o44 P,o45 P,o46 P,o35 P,o23 P,o49 P,o11 P,o12 P,o52 P,o53 P,o11 P,o55 P,o56 P,o57 P,o58 P,o35 P,o23 P,o61 P,o11 P,o12 P,o64 P,o65 P,o11 P,o67 P,o68 P,o69 P,o70 P,o35 P,o23 P,o73 P,o11 P,o12 P,o76 P,o77 P,o11 P,o79 P,o80 P,o81 P,o82 P,o35 P,o23 P,o85 P,o11 P,o12 P,o88 P,o89 P,o11 P,o91 P,o92 P,o93 P,o94 P,o35 P,o23 P,o97 P,o11 P,o12 P,tV P,tW P,o11 P,tX P,tY P,tZ P,uh P,o35 P,o23 P,ui P,o11 P,o12 P,uj P,uk P,o11 P,um P,uo P,uq P,ur P,o35 P,o23 P,ut P,o11 P,o12 P,uu P,uv P,o11 P,uw P,ux P,uy P,uz P,o35 P,o23 P,wB P,o11 P,o12 P,wC P,wD P,o11 P,wE P,wF P,wG P,wH P,o35 P,o23 P,wI P,o11 P,o12 P,wJ P,wK P,o11 P,wL P,wM P,wN P,wO P,o35 P,o23 P,wP P,o11 P,o12 P,wQ P,wR P,o11 P,wT P,wU P,wV P,wW P,o35 P,o23 P,wX P,o11 P,o12 P,wY P,wZ P,o11 P,xa P,xb P,xc P,xf P,o35 P,o23 P,xg P,o11 P,o12 P,xh P,xi P,o11 P,xj P,xk P,xn P,xo P,o11 P,o12 P,xq P,o11 P,xt P,xu P,xw P,o11 P,o12 P,xx P,o11 P,xy P,xz P,xA P,o11 P,o12 P,xB P,o11 P,xC P,xD P,xE P,o11 P,o12 P,xF P,o11 P,xG P,xH P,xI P,xJ P,o11 P,o12 P,xK P,o11 P,xL P,xM P,xN P,o11 P,o12 P,xO P,o11 P,xP P,xQ P,xR P,o11 P,o12 P,xS P,o11 P,xT P,xU P,xV P,o11 P,o12 P,xW P,o11 P,xX P,xY P,xZ P,o11 P,o12 P,yb P,o11 P,yc P,ye P,yf P,o11 P,o12 P,yg P,o11 P,yh P,yi P,yj P,o11 P,o12 P,yk P,o11 P,ym P,yn P,yo P,o11 P,o12 P,yq P,o11 P,yt P,yu P,yw P,o11 P,o12 P,yx P,o11 P,yy P,yz P,yA P,o11 P,o12 P,yB P,o11 P,yC P,yD P,yE P,o11 P,o12 P,yF P,yG P,yH P,o11 P,o12 P,yI P,yJ P,yK P,o11 P,o12 P,yL P,yM P,yN P,o11 P,o12 P,yO P,o11 P,yP P,yQ P,yR P,o11 P,o12 P,yS P,o11 P,yT P,yU P,yV P,o11 P,o12 P,yW P,o11 P,yX P,yY P,yZ P,o11 P,o23 P,CW P,o11 P,CY P,CZ P,Da P,o11 P,o12 P,Db P,Dc P,De P,o11 P,o12 P,Df P,o11 P,Dg P,Dh P,Di P,o11 P,o12 P,Dj P,o11 P,Dk P,Dl P,Dm P,o11 P,o12 P,Do P,Dp P,Dq P,o11 P,o12 P,Dr P,o11 P,Ds P,Du P,Dv P,o11 P,o12 P,Dw P,o11 P,Dx P,Dy P,Dz P,o11 P,o12 P,DG P,o11 P,DH P,DJ P,DQ P,DV P,DX P,DY P,DZ P,Ea P,Eb P,Ed P,o11 P,o12 P,Ee P,o11 P,Ef P,Eg P,Eh P,o11 P,o12 P,Ei P,o11 P,Ej P,Ek P,El P,o11 P,o12 P,Em P,o11 P,En P,Eo P,Ep P,o11 P,o12 P,Er P,o11 P,Es P,Et P,Eu P,o11 P,o12 P,Ev P,o11 P,Ew P,Ex P,Ey P,o11 P,o12 P,Ez P,o11 P,EA P,EB P,EC P,o11 P,o12 P,ED P,EE P,EF P,o11 P,o12 P,EG P,o11 P,EH P,EI P,EJ P,o11 P,o12 P,EK P,o11 P,EL P,EM P,EN P,o11 P,o12 P,EO P,o11 P,EQ P,ER P,ES P,o11 P,o12 P,ET P,o11 P,EU P,EV P,EW P,o11 P,o12 P,EX P,o11 P,EY P,EZ P,Fa P,o11 P,o12 P,Fb P,o11 P,Fc P,Fd P,Fe P,o11 P,o12 P,Ff P,o11 P,Fg P,Fh P,Fi P,o11 P,o12 P,Fj P,Fk P,Fl P,o11 P,o12 P,Fm P,o11 P,Fn P,Fo P,Fp P,o11 P,o12 P,Fq P,o11 P,Fs P,Ft P,Fu P,o11 P,o12 P,Fv P,o11 P,Fw P,Fx P,Fy P,o11 P,o12 P,Fz P,o11 P,FA P,FB P,FC P,o11 P,o12 P,FD P,o11 P,FE P,FF P,FG P,o11 P,o12 P,FH P,FI P,FJ P,o11 P,o12 P,FK P,o11 P,FL P,FM P,FN P]⟩,{ }⟩
abbrev sF (w:G6) (os:OsState):G3:=⟨hF w.params,(Array.mk []),⟨0,0,0,0⟩,980,os⟩
theorem fin (w:G6):(λ os=>topRun treeTable pt w m0 an 2 (s2 w os).abs ⟨doneF .next,cE,p2,B⟩)=λ os=>some (sF w os):=by rw [PySem.W.Fast.te14082659384304107361,PySem.W.Fast.te14364793385576792824]; kernel_rfl
theorem uA:behindTheImports pt=st0 ++ (st1 ++ (st2 ++ ([]))):=by kernel_rfl
abbrev MM:Nat:=12 + (1 + (1929 + (1869 + (1119 + 2))))
theorem za (w:G6) (os:OsState):topRun treeTable pt w m0 an MM (sZ w os) (topStub pt)=some (sF w os) :=
 go_top (congrFun (pre w) os) (piece_block (congrFun (blk w) os) (uA ▸ (piece_app (l:=st0) (segRun_of (congrFun (q0 w) os)) (piece_app (l:=st1) (segRun_of (congrFun (q1 w) os)) (piece_app (l:=st2) (segRun_of (congrFun (q2 w) os)) (piece_nil (congrFun (fin w) os)))))))
def loose:List Str:=[kz,fI,lJ,lK,lL,lM,lN,lO,lP,lQ,oE,oF,oG,oH,oI,lS,lT,lU,lV,vN,vP,vR,lW,lX,vS,vT,vU,vV,vW,lY,lZ,ma,md,me,mf,mh,mj,mm,mn,mo,mq,vX,vY,mr,ms,kA,oK,oM,oN,oO,oP,oQ,oR,oS,oU,oV,oW,oX,oY,oZ,pb,pd,pf,pj,pk,pq,pC]
abbrev NN:Nat:=9954
abbrev q:G4:=view pt [74]
abbrev Xt:G3->Bool:=λ s=>xlAt q [] s && recOk [] s
theorem size (w:G6):((boot_heap w.params).isNs mainGlobals && (Array.mk []:Array GenState).size == 0,(boot_heap w.params).objs.size,(boot_heap w.params).nsMap mainGlobals "__annotations__")=(true,m0,an):=by rw [PySem.W.Fast.te8920871248978507458]; kernel_rfl
theorem FO (w:G6):(λ os=>((staticsOk (importedModules pt.main.body) (boot_heap w.params) (hF w.params) && namesBound pt (hF w.params) && gensDone (sF w os) && laidKept (boot_heap w.params) (hF w.params)),openSeen q loose (importedModules pt.main.body) Xt true (sF w os),HK.obs (sF w os)))=λ _=>(true,openGood q loose,HK.val w):=by rw [PySem.W.Fast.te4187177175401517315,PySem.W.Fast.te5923862056798008813]; kernel_rfl
theorem left:LeftO pt q loose Xt HK.obs HK.val NN true:=LeftO.of_pieces (boot_open (by kernel_rfl) (by decide) (λ s=>rfl)) size za (by decide) FO
end Hd
open PySem PySem.W PyProof.Rows
set_option maxRecDepth 100000 in
set_option maxHeartbeats 0 in
theorem PySem.Challenge.cw_platecuts_k26_refused_measures_holds : PySem.Challenge.rw_platecuts_k26_refused_measures.Holds := by
 w_on; o_law
 refine holds_open (q:=view PySem.Challenge.pw_platecuts_k26_refused_measures [74]) (loose:=Hd.loose) (Xt:=λ s=>xlAt (view PySem.Challenge.pw_platecuts_k26_refused_measures [74]) [] s && recOk [] s) (XP:=XL (view PySem.Challenge.pw_platecuts_k26_refused_measures [74]) []) (Yf:=Hook.obs Hd.HK) (Ya:=Hook.val Hd.HK) (YP:=InK Pc.kK) (N:=Hd.NN) ?hl (Hook.of Hd.HK) (Hook.keeps Hd.HK) (λ s e=>xl_of s (C6.mp e).1) XL.keeps (by rfl) (by rfl) (by rfl) (λ s e=>recFacts_of (C6.mp e).2) (by rfl) (by first | assumption | decide +kernel) (by decide +kernel) ⟨rfl,rfl,rfl,rfl,rfl,by decide +kernel⟩ ?hw ?hc
 case hl=>exact Hd.pt_eq ▸ Hd.left
 case hw=>w_witness2
 k_fill
 refine Pc.walk (l:=PySem.Challenge.rw_platecuts_k26_refused_measures) rfl rfl (λ w h Y=>Y) ?F
 case F =>
  intro w mg fa h KX G hmg;refine' Pc.all_mk KX G hmg ?d0 ?d1 ?d2 ?d3 ?d4 ?d5 ?d6 ?d7 ?d8 ?d9 ?d10 ?d11 ?d12 ?d13 ?d14 ?d15 ?d16 ?d17 ?d18 ?d19 ?d20 ?d21 ?d22 ?d23 ?d24 ?d25 ?d26 ?d27 ?d28 ?d29 ?d30 ?d31 ?d32 ?d33 ?d34 ?d35 ?d36 ?d37 ?d38 ?d39 ?d40 ?d41 ?aC ?dm0 ?dm1 ?dm2 ?dm3 ?dm4 ?pg ?hd ?po ?sa ?mk ?kc ?n0 ?n1 ?eWAYS ?ePlateError ?eNoPlate ?eNoTree ?eNoBlade ?eNoKind ?eNoKinds ?eNoLaying ?eNoLying ?eNoNumber ?eNoTable ?eNoTelling ?eNoText ?eNoWeights ?eTooLarge ?lWAYS ?cPlateError ?cNoPlate ?cNoTree ?cNoBlade ?cNoKind ?cNoKinds ?cNoLaying ?cNoLying ?cNoNumber ?cNoTable ?cNoTelling ?cNoText ?cNoWeights ?cTooLarge ?sNoPlatePlateError ?sNoPlateNoPlate ?sNoPlateNoTree ?sNoPlateNoBlade ?sNoPlateNoKind ?sNoPlateNoKinds ?sNoPlateNoLaying ?sNoPlateNoLying ?sNoPlateNoNumber ?sNoPlateNoTable ?sNoPlateNoTelling ?sNoPlateNoText ?sNoPlateNoWeights ?sNoPlateTooLarge ?vNoPlate ?kaNoPlate ?kbNoPlate ?kcNoPlate ?kdNoPlate ?keNoPlate ?sNoTreePlateError ?sNoTreeNoPlate ?sNoTreeNoTree ?sNoTreeNoBlade ?sNoTreeNoKind ?sNoTreeNoKinds ?sNoTreeNoLaying ?sNoTreeNoLying ?sNoTreeNoNumber ?sNoTreeNoTable ?sNoTreeNoTelling ?sNoTreeNoText ?sNoTreeNoWeights ?sNoTreeTooLarge ?vNoTree ?kaNoTree ?kbNoTree ?kcNoTree ?kdNoTree ?keNoTree ?bPlateError ?z0 ?z1 ?z2 ?z3 ?z4 ?z5 ?z6 ?z7 ?z8 ?z9 ?z10 ?z11 ?z12 ?z13 ?z14 ?z15 ?z16 ?z17 ?z18 ?uc0 ?uc1 ?uc2 ?uc3 ?uc4 ?uc5 ?uc6 ?uc7
  (case d0 | d1 | d2 | d3 | d4 | d5 | d6 | d7 | d8 | d9 | d10 | d11 | d12 | d13 | d14 | d15 | d16 | d17 | d18 | d19 | d20 | d21 | d22 | d23 | d24 | d25 | d26 | d27 | d28 | d29 | d30 | d31 | d32 | d33 | d34 | d35 | d36 | d37 | d38 | d39 | d40 | d41=>refine' Pc.diM ?a ?l ?c ?k; (case a=>k_is); (case l=>k_is); (case c=>k_is); (case k=>k_is))
  (case aC=>k_is)
  (case dm0 | dm1 | dm2 | dm3 | dm4=>refine' Pc.miM ?a ?i ?l ?c ?k; (case a=>k_is); (case i=>k_is); (case l=>k_is); (case c=>k_is); (case k=>k_is))
  (case pg | hd | po | sa | mk | kc | n0 | n1 | eWAYS | ePlateError | eNoPlate | eNoTree | eNoBlade | eNoKind | eNoKinds | eNoLaying | eNoLying | eNoNumber | eNoTable | eNoTelling | eNoText | eNoWeights | eTooLarge=>k_is)
  (case lWAYS=>exact ⟨_,_,_,O,O,O,by decide,.cons ⟨_,O⟩ (.cons ⟨_,O⟩ .nil)⟩)
  (case cPlateError | cNoPlate | cNoTree | cNoBlade | cNoKind | cNoKinds | cNoLaying | cNoLying | cNoNumber | cNoTable | cNoTelling | cNoText | cNoWeights | cTooLarge=>k_exc)
  (case sNoPlatePlateError | sNoPlateNoPlate | sNoPlateNoTree | sNoPlateNoBlade | sNoPlateNoKind | sNoPlateNoKinds | sNoPlateNoLaying | sNoPlateNoLying | sNoPlateNoNumber | sNoPlateNoTable | sNoPlateNoTelling | sNoPlateNoText | sNoPlateNoWeights | sNoPlateTooLarge | vNoPlate | kaNoPlate | kbNoPlate | kcNoPlate | kdNoPlate | keNoPlate | sNoTreePlateError | sNoTreeNoPlate | sNoTreeNoTree | sNoTreeNoBlade | sNoTreeNoKind | sNoTreeNoKinds | sNoTreeNoLaying | sNoTreeNoLying | sNoTreeNoNumber | sNoTreeNoTable | sNoTreeNoTelling | sNoTreeNoText | sNoTreeNoWeights | sNoTreeTooLarge | vNoTree | kaNoTree | kbNoTree | kcNoTree | kdNoTree | keNoTree | bPlateError | z0 | z1 | z2 | z3 | z4 | z5 | z6 | z7 | z8 | z9 | z10 | z11 | z12 | z13 | z14 | z15 | z16 | z17 | z18 | uc0 | uc1 | uc2 | uc3 | uc4 | uc5 | uc6 | uc7=>k_is)