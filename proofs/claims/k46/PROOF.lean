import PyProof.Rows.All
import Wide.All
import OpenK.AllK
import Wide.FinOn
import Lean
import PyProof.EqAt
import PyProof.EqKinds
import PyProof.TupleCall
import PyProof.IsiBase
import PyProof.ExcArgsOwn
import PyProof.ExcAttrAll.ValueError
import PyProof.Draws
import PyProof.WalksMore
import PyProof.EnumMake
import PyProof.ReprRoads
import PyProof.Rows.SortWalk
import PyProof.Rows.SumAny
import PyProof.FitsBits
import PyProof.ListRange
import PyProof.Rows.SeqMore
import PyProof.LongRange
import KE.KEqDict
import KE.KDictOf
import PyProof.DictItems
import PySem.Challenge.RW_platecuts_k46_refused_plates_and_tables
set_option maxRecDepth 100000
set_option maxHeartbeats 0
local macro_rules|`(def $i $s:optDeclSig $v:declVal)=>`(noncomputable def $i $s:optDeclSig $v:declVal)
local macro_rules|`(abbrev $i $s:optDeclSig $v:declVal)=>`(noncomputable abbrev $i $s:optDeclSig $v:declVal)
local macro_rules|`(∅)=>`(by decide +kernel)
local macro_rules|`(⋯)=>`(by omega)
local macro_rules|`(↑$x)=>`(some (.ref $x))
local macro_rules|`(⇑$x)=>`(some (.int $x))
local macro_rules|`(↥$x)=>`(some (.lst $x))
local macro_rules|`(~~~$x)=>`(some (.tup $x))
section
open PySem PySem.W PySem.Spec PyProof PyProof.Rows
abbrev FB:=@Shared
abbrev FC:=@Program
abbrev FD:=@FuncData
abbrev FE:=@World
abbrev FF:=@Value
abbrev A0:=@wpAny_bind
abbrev A1:=@wpAny_pure
abbrev A2:=@List.mem_append_right
abbrev A3:=@List.getElem?_eq_some_iff
abbrev A4:=@Heap.get?_push_of_some
abbrev A5:=@Heap.get?_push_size
abbrev A6:=@Heap.lt_size
abbrev A7:=@decide_eq_true
abbrev A8:=@decide_eq_false
abbrev A9:=@Bool.false_ne_true
abbrev B0:=@Nat.le_refl
abbrev B1:=@List.mem_cons_of_mem
abbrev B2:=@List.mem_of_getElem?
abbrev B3:=@List.mem_append_left
abbrev B4:=@List.mem_cons_self
abbrev B5:=@Option.some.inj
abbrev B6:=@Nat.ne_of_lt
abbrev B7:=@of_decide_eq_true
abbrev B8:=@Nat.lt_of_lt_of_le
abbrev B9:=@List.mem_append
abbrev C0:=@beq_iff_eq
abbrev C1:=@PySem.W.Frag
abbrev C2:=@Nat.le_trans
abbrev C3:=@Nat.lt_of_le_of_lt
abbrev C4:=@Nat.lt_irrefl
abbrev C5:=@List.mem_singleton
abbrev C6:=@Paired.length
abbrev C7:=@PassesOwn.never
abbrev C8:=@Int.le_refl
abbrev C9:=@PySem.W.fnOf
abbrev E1:=@False.elim
abbrev E2:=@Nat.zero_le
abbrev E3:=@Nat.not_lt_zero
abbrev E4:=@Nat.lt_succ_self
abbrev E5:=@List.getElem?_eq_getElem
abbrev E6:=@wpAny_truthy_bool
abbrev E7:=@wpAny_call_entry
abbrev E8:=@wpAny_newObj_type
abbrev E9:=@PySem.F.plainAttrs_list
end
theorem zS2:2<=PySem.sizeLine:=∅
theorem zS4:4<=PySem.sizeLine:=∅
theorem zS1:1<=PySem.sizeLine:=∅
theorem zS5:5<=PySem.sizeLine:=∅
theorem zS3:3<=PySem.sizeLine:=∅
theorem zS6:6<=PySem.sizeLine:=∅
theorem zS10:10<=PySem.sizeLine:=∅
theorem Y{α:Sort _}{a:α}:a=a:=rfl
set_option Elab.async false
set_option linter.all false
namespace L2
open PySem PySem.Spec PyProof.Rows
abbrev Key:=Sum Int Str
def gW:Key->FF->Bool
 | .inl k,v=>Value.isInt k v
 | .inr x,v=>Value.isStrOf x v
def Cw (w:FE):Key->Int
 | .inl k=>hashInt k
 | .inr x=>hashStr w x
theorem aZ:∀ {k:Key} {v:FF},gW k v=true->(∃i t,k=Sum.inl i/\v=Value.int i t)\/(∃x t,k=Sum.inr x/\v=Value.str x t)
 | .inl i,v,h=>by obtain ⟨t,e⟩:=Value.isInt_shape (k:=i) (v:=v) h;exact .inl ⟨i,t,Y,e⟩
 | .inr x,v,h=>by obtain ⟨t,e⟩:=Value.isStrOf_shape (x:=x) (v:=v) h;exact .inr ⟨x,t,Y,e⟩
theorem mC (i:Int) (t:Tok):gW (.inl i) (.int i t)=true:=by simp [gW,Value.isInt]
theorem mD (x:Str) (t:Tok):gW (.inr x) (.str x t)=true:=by simp [gW,Value.isStrOf]
theorem tG (a b:Int):decide ((Sum.inl a:Key)=Sum.inl b)=(a == b):=by
 by_cases e:a=b
 ·subst e; simp
 ·have h:¬ (Sum.inl a:Key)=Sum.inl b:=λ q=>e (Sum.inl.inj q);rw [decide_eq_false h];exact (beq_eq_false_iff_ne.mpr e).symm
theorem tH (a b:Str):decide ((Sum.inr a:Key)=Sum.inr b)=decide (a=b):=by
 by_cases e:a=b
 ·subst e; simp
 ·have h:¬ (Sum.inr a:Key)=Sum.inr b:=λ q=>e (Sum.inr.inj q);rw [decide_eq_false h,decide_eq_false e]
theorem tI (a:Int) (b:Str):decide ((Sum.inl a:Key)=Sum.inr b)=false:=A8 (λ q=>nomatch q)
theorem tJ (a:Str) (b:Int):decide ((Sum.inr a:Key)=Sum.inl b)=false:=A8 (λ q=>nomatch q)
def ax (prog:FC) (w:FE):PySem.KeyKind prog w Key where
 is:=gW
 hash:=Cw w
 inj:=λ v a b ha hb=>by
  rcases aZ ha with ⟨i,t,rfl,rfl⟩ | ⟨x,t,rfl,rfl⟩
  ·rcases aZ hb with ⟨j,u,rfl,e⟩ | ⟨y,u,rfl,e⟩
   ·injection e with e1 _; rw [e1]
   ·exact nomatch e
  ·rcases aZ hb with ⟨j,u,rfl,e⟩ | ⟨y,u,rfl,e⟩
   ·exact nomatch e
   ·injection e with e1 _; rw [e1]
 byValue:=λ k v h=>by rcases aZ h with ⟨i,t,rfl,rfl⟩ | ⟨x,t,rfl,rfl⟩ <;> rfl
 pyHash:=λ hv h=>by
  rcases aZ hv with ⟨i,t,rfl,rfl⟩ | ⟨x,t,rfl,rfl⟩
  ·exact wpAny_pyHash_int h
  ·exact wpAny_pyHash_str h
 eqBool:=λ hu hv h=>by
  rcases aZ hu with ⟨i,t,rfl,rfl⟩ | ⟨x,t,rfl,rfl⟩
  ·rcases aZ hv with ⟨j,u,rfl,rfl⟩ | ⟨y,u,rfl,rfl⟩
   ·rw [tG] at h; exact wpAny_eqBool_int h
   ·rw [tI] at h; exact SeqAt.EqAt.int_str i t y u _ _ _ _ h
  ·rcases aZ hv with ⟨j,u,rfl,rfl⟩ | ⟨y,u,rfl,rfl⟩
   ·rw [tJ] at h; exact SeqAt.EqAt.str_int x t j u _ _ _ _ h
   ·rw [tH] at h; exact wpAny_eqBool_str h
 «strs» := λ k x t v h=>by
  rcases aZ h with ⟨i,u,rfl,e⟩ | ⟨y,u,rfl,e⟩
  ·exact nomatch e
  ·injection e with e1 _
   subst e1;cases v <;> rfl
theorem fE (prog:FC) (w:FE) (i:Int) (t:Tok):(ax prog w).is (.inl i) (.int i t)=true:=mC i t
theorem iZ (prog:FC) (w:FE) (x:Str) (t:Tok):(ax prog w).is (.inr x) (.str x t)=true:=mD x t
inductive V where
 | non | bl (b:Bool) | int (i:Int) | str (x:Str) | byt (b:Array UInt8) | flt (b:UInt64) | ref (a:Addr) | ty (n:String)
 deriving DecidableEq
def RelV:V->FF->Prop
 | .non,u=>u=Value.none
 | .bl b,u=>u=Value.bool b
 | .int i,u=>∃t,u=Value.int i t
 | .str x,u=>∃t,u=Value.str x t
 | .byt b,u=>∃t,u=Value.bytes b t
 | .flt b,u=>∃t,u=Value.float b t
 | .ref a,u=>u=Value.ref a
 | .ty n,u=>u=Value.type n
abbrev Vals:List V->List FF->Prop:=Paired RelV
theorem Vals.length {xs:List V} {us:List FF} (r:Vals xs us):xs.length=us.length:=C6 r
theorem Vals.get:∀ {xs:List V} {us:List FF} {i:Nat} {x:V},Vals xs us->xs[i]? = some x->∃u,us[i]? = some u/\RelV x u
 | _,_,_,_,.nil,e=>by simp at e
 | _,_,0,_,.cons r _,e=>by simp at e; subst e; exact ⟨_,Y,r⟩
 | _,_,i + 1,x,.cons _ t,e=>by obtain ⟨u,h1,h2⟩:=Vals.get (i:=i) (x:=x) t (by simpa using e);exact ⟨u,by simpa using h1,h2⟩
theorem Vals.set {x:V} {u:FF} (r:RelV x u):∀ {xs:List V} {us:List FF} (i:Nat),Vals xs us->Vals (xs.set i x) (us.set i u)
 | _,_,_,.nil=>.nil
 | _,_,0,.cons _ t=>.cons r t
 | _,_,i + 1,.cons q t=>.cons q (Vals.set r i t)
theorem Vals.append:∀ {xs ys:List V} {us ws:List FF},Vals xs us->Vals ys ws->Vals (xs ++ ys) (us ++ ws)
 | _,_,_,_,.nil,s=>s
 | _,_,_,_,.cons r t,s=>.cons r (Vals.append t s)
theorem Vals.take:∀ {xs:List V} {us:List FF} (n:Nat),Vals xs us->Vals (xs.take n) (us.take n)
 | _,_,0,_=>.nil
 | _,_,_ + 1,.nil=>.nil
 | _,_,n + 1,.cons r t=>.cons r (Vals.take n t)
theorem Vals.drop:∀ {xs:List V} {us:List FF} (n:Nat),Vals xs us->Vals (xs.drop n) (us.drop n)
 | _,_,0,r=>r
 | _,_,_ + 1,.nil=>.nil
 | _,_,n + 1,.cons _ t=>Vals.drop n t
def RelO:Option V->Option FF->Prop
 | some v,some u=>RelV v u
 | none,none=>True
 | _,_=>False
def KV {κ:Type}:List (κ×V)->List (κ×FF)->Prop:=Paired λ (p:κ×V) (q:κ×FF)=>p.1=q.1/\RelV p.2 q.2
def kV:Key->V
 | .inl i=>.int i
 | .inr x=>.str x
inductive HO where
 | lst (xs:List V)
 | tup (xs:List V)
 | dK (kvs:List (Key×V)) | dT (kvs:List (List Key×V))
 | set (S:Int->Bool) (n:Nat)
 | ins (C dx:Addr) (fs:List (Str×V))
 | own (x:Addr)
 | xd (fs:List (Str×V))
 | met (f x:Addr)
 | rng (lo hi:Int)
 | frz (o:Obj) (u:HO)
 | tbl (ps:Array FF)
 | ext (φ:Heap->Prop)
abbrev Hp:=Addr->Option HO
def upd (H:Hp) (a:Addr) (o:HO):Hp:=λ b=>if b=a then some o else H b
theorem ae {H:Hp} {a:Addr} {o:HO}:upd H a o a=some o:=by unfold upd; rw [if_pos rfl]
theorem aj {H:Hp} {a b:Addr} {o:HO} (h:b≠a):upd H a o b=H b:=by unfold upd; rw [if_neg h]
theorem qK {H:Hp} {a:Addr} {o u:HO}:upd (upd H a o) a u=upd H a u:=by funext b; unfold upd; split <;> rfl
theorem ya {H:Hp} {a b:Addr} {o u:HO} (h:H a=some o) (h':H b=some u) (d:o≠u):a≠b:=by intro e; subst e; rw [h] at h'; exact d (B5 h')
theorem ah {H:Hp} {a b:Addr} {o:HO} (h:H a=some o) (h':H b=none):a≠b:=by intro e; subst e; rw [h] at h'; cases h'
section
variable (P:FC) (w:FE)
def ObjOk (H:Hp) (h:Heap) (a:Addr):HO->Prop
 | .lst xs=>xs.length<=sizeLine/\∃ (its:List FF) (n:Nat),Vals xs its/\h.get? a=some { cls:=.type "list",data:=.seq its.toArray n }
 | .tup xs=>xs.length<=sizeLine/\∃its:List FF,Vals xs its/\IsTup h a its.toArray
 | .dK kvs=>kvs.length<=sizeLine/\(a == sysModules)=false/\∃vs,KV kvs vs/\h.DictOf (ax P w) a vs
 | .dT kvs=>kvs.length<=sizeLine/\(a == sysModules)=false/\∃xs:List (List Key×Addr×FF),
   Paired (λ (p:List Key×V) (q:List Key×Addr×FF)=>p.1=q.1/\H q.2.1= ~~~(p.1.map kV)/\RelV p.2 q.2.2) kvs xs /\
   ∃o es ep,h.get? a=some o/\o.ExactDict/\o.data=.dict es ep/\es.toList=xs.map (entryOfKey (tupleKind (ax P w)))/\(xs.map (·.1)).Nodup
 | .set S n=>h.SetOf (intKind P w) a S n
 | .ins C dx fs=>H dx=some (.own a)/\fs.length<=1000/\dx≠a/\h.get? a=some (PySem.W.instObj C dx) /\
   ∃mA,h.Ns1 dx mA/\(∀f,RelO (fs.lookup f) (mA f))/\PySem.Within mA (fs.map (·.1))
 | .own _=>∃o,h.get? a=some o
 | .xd fs=>∃mA,h.Ns1 a mA/\∀f,RelO (fs.lookup f) (mA f)
 | .rng lo hi=>∃t u v,h.get? a=some { cls:=.type "range",data:=.fields #[.int lo t,.int hi u,.int 1 v] }
 | .frz o u=>h.get? a=some o/\ObjOk H h a u
 | .tbl ps=>h.get? a=some { cls:=.none,data:=.fields ps }
 | .met f x=>h.get? a=some (PySem.W.methodObj (.ref f) (.ref x))
 | .ext φ=>φ h/\(∃o,h.get? a=some o)/\∀h1 h2:Heap,φ h1->(∀o,h1.get? a=some o->h2.get? a=some o)->φ h2
def HOk (H:Hp) (h:Heap):Prop:=∀a o,H a=some o->ObjOk P w H h a o
end
section
variable {P:FC} {w:FE} {H H':Hp} {h h':Heap} {a:Addr} {o:HO}
theorem ObjOk.lt (x:ObjOk P w H h a o):a < h.objs.size:=by
 cases o with
 | lst xs=>obtain ⟨_,_,_,_,e⟩:=x; exact A6 e
 | tup xs=>obtain ⟨_,_,_,p⟩:=x; exact p.lt
 | dK kvs=>obtain ⟨_,_,_,_,o,_,_,e,_⟩:=x; exact A6 e
 | dT kvs=>obtain ⟨_,_,_,_,o,_,_,e,_⟩:=x; exact A6 e
 | set S n=>obtain ⟨o,_,_,_,e,_⟩:=x; exact A6 e
 | ins C dx fs=>obtain ⟨_,_,_,e,_⟩:=x; exact A6 e
 | own y=>obtain ⟨_,e⟩:=x; exact A6 e
 | xd fs=>obtain ⟨_,⟨_,_,_,e,_⟩,_⟩:=x; exact A6 e
 | rng lo hi=>obtain ⟨_,_,_,e⟩:=x; exact A6 e
 | frz ob u=>obtain ⟨e,_⟩:=x; exact A6 e
 | tbl ps=>exact A6 (show h.get? a=some _ from x)
 | met f y=>exact A6 (show h.get? a=some _ from x)
 | ext φ=>obtain ⟨_,⟨_,e⟩,_⟩:=x; exact A6 e
theorem Paired.mapP {α β:Type} {F G:α->β->Prop}:∀ {l₁:List α} {l₂:List β},Paired F l₁ l₂->(∀a b,F a b->G a b)->Paired G l₁ l₂
 | _,_,.nil,_=>.nil
 | _,_,.cons r t,f=>.cons (f _ _ r) (Paired.mapP t f)
abbrev FJ:=@Paired.mapP
theorem ObjOk.stay (x:ObjOk P w H h a o) (k:∀b u,(b=a\/H b=some (.own a))->h.get? b=some u->h'.get? b=some u)
  (ho:∀b,H b=some (.own a)->H' b=some (.own a)) (ht:∀b xs,H b= ~~~xs->H' b= ~~~xs):ObjOk P w H' h' a o:=by
 induction o with
 | lst xs=>obtain ⟨z,its,n,r,e⟩:=x; exact ⟨z,its,n,r,k _ _ (.inl rfl) e⟩
 | tup xs=>obtain ⟨z,its,r,ob,e,c⟩:=x; exact ⟨z,its,r,ob,k _ _ (.inl rfl) e,c⟩
 | dK kvs=>obtain ⟨z,y,vs,r,ob,es,ep,e,c⟩:=x; exact ⟨z,y,vs,r,ob,es,ep,k _ _ (.inl rfl) e,c⟩
 | dT kvs =>
  obtain ⟨z,y,xs,r,ob,es,ep,e,c⟩:=x;exact ⟨z,y,xs,FJ r λ p q z=>⟨z.1,ht _ _ z.2.1,z.2.2⟩,ob,es,ep,k _ _ (.inl rfl) e,c⟩
 | set S n=>obtain ⟨ob,es,ep,t,e,c⟩:=x; exact ⟨ob,es,ep,t,k _ _ (.inl rfl) e,c⟩
 | ins C dx fs =>
  obtain ⟨d,z,ne,e,mA,⟨od,es,ep,e2,c⟩,r⟩:=x;exact ⟨ho _ d,z,ne,k _ _ (.inl rfl) e,mA,⟨od,es,ep,k _ _ (.inr d) e2,c⟩,r⟩
 | own y=>obtain ⟨ob,e⟩:=x; exact ⟨ob,k _ _ (.inl rfl) e⟩
 | xd fs=>obtain ⟨mA,⟨od,es,ep,e,c⟩,r⟩:=x; exact ⟨mA,⟨od,es,ep,k _ _ (.inl rfl) e,c⟩,r⟩
 | rng lo hi=>obtain ⟨t,u,v,e⟩:=x; exact ⟨t,u,v,k _ _ (.inl rfl) e⟩
 | frz ob u ih=>obtain ⟨e,q⟩:=x; exact ⟨k _ _ (.inl rfl) e,ih q⟩
 | tbl ps =>
  have e:h.get? a=some { cls:=.none,data:=.fields ps }:=x;show h'.get? a=some { cls:=.none,data:=.fields ps };exact k a _ (.inl rfl) e
 | met f y =>
  have e:h.get? a=some (PySem.W.methodObj (.ref f) (.ref y)):=x;show h'.get? a=some (PySem.W.methodObj (.ref f) (.ref y));exact k a _ (.inl rfl) e
 | ext φ=>obtain ⟨p,⟨o,e⟩,st⟩:=x; exact ⟨st _ _ p λ o q=>k _ _ (.inl rfl) q,⟨o,k _ _ (.inl rfl) e⟩,st⟩
theorem HOk.lt (x:HOk P w H h) (e:H a=some o):a < h.objs.size:=(x a o e).lt
theorem HOk.fresh (x:HOk P w H h) (e:h.objs.size<=a):H a=none:=by
 cases q:H a with
 | none=>rfl
 | some u=>exact absurd (B8 (x.lt q) e) (C4 _)
theorem HOk.kept (x:HOk P w H h) (k:∀b u,h.get? b=some u->h'.get? b=some u):HOk P w H h':=λ a o e =>
 (x a o e).stay (λ b u _ q=>k b u q) (λ _ q=>q) λ _ _ q=>q
theorem HOk.laid (x:HOk P w H h) (k:∀b u,h.get? b=some u->h'.get? b=some u) (hp:h.objs.size<=a) (new:ObjOk P w (upd H a o) h' a o):HOk P w (upd H a o) h':=λ b u e=>by
 have hn:=x.fresh hp
 by_cases hb:b=a
 ·subst hb; rw [ae] at e; cases e; exact new
 ·rw [aj hb] at e;exact (x b u e).stay (λ c v _ q=>k c v q) (λ c q=>by rw [aj (ah q hn)]; exact q) λ c xs q=>by rw [aj (ah q hn)]; exact q
end
def Rd (H:Hp) (a:Addr) (u:HO):Prop:=H a=some u\/∃o,H a=some (.frz o u)
theorem Rd.ok {P:FC} {w:FE} {H:Hp} {h:Heap} {a:Addr} {u:HO} (r:Rd H a u) (x:HOk P w H h):ObjOk P w H h a u:=by
 rcases r with r | ⟨o,r⟩
 ·exact x a u r
 ·obtain ⟨_,q⟩:=x a _ r;exact q
def Mut:Option HO->Prop
 | ↥_=>True
 | some (.dK _)=>True
 | some (.dT _)=>True
 | some (.set _ _)=>True
 | some (.ins _ _ _)=>True
 | some (.ext _)=>True
 | _=>False
section
variable {P:FC} {w:FE} {H:Hp} {h h':Heap} {x e:Addr} {o':HO}
theorem HOk.write (ok:HOk P w H h) (mu:Mut (H x)) (he:e=x\/H e=some (.own x)) (k:∀b u,b≠e->h.get? b=some u->h'.get? b=some u) (heo:∃u,h'.get? e=some u)
  (new:ObjOk P w (upd H x o') h' x o'):HOk P w (upd H x o') h':=λ b u q=>by
 have nown:∀c y,H c=some (.own y)->c≠x:=λ c y r z=>by subst z; rw [r] at mu; exact mu
 have ntup:∀c xs,H c= ~~~xs->c≠x:=λ c xs r z=>by subst z; rw [r] at mu; exact mu
 by_cases hb:b=x
 ·subst hb; rw [ae] at q; cases q; exact new
 ·rw [aj hb] at q
  by_cases hbe:b=e
  ·have q':H b=some (.own x):=by
    rcases he with z | z
    ·exact absurd (hbe.trans z) hb
    ·rw [hbe]; exact z
   rw [q] at q'; cases q';obtain ⟨v,hv⟩:=heo;exact ⟨v,by rw [hbe]; exact hv⟩
  ·refine (ok b u q).stay (λ c v hc r=>k c v ?_ r) (λ c r=>by rw [aj (nown c b r)]; exact r) λ c xs r=>by rw [aj (ntup c xs r)]; exact r
   rcases hc with rfl | hc
   ·exact hbe
   ·rintro rfl;rcases he with z | z
    ·exact nown c b hc z
    ·rw [hc] at z; cases z; exact hb rfl
end
structure Un (fs ex:List Addr) (H H':Hp) (h h':Heap):Prop where
 keep:∀b o,h.get? b=some o->H b=none->b∉fs->b∉ex->h'.get? b=some o
 slot:∀b o,h.get? b=some o->H b=none->b∈fs->b∉ex->∃sl,h'.get? b=some { o with slots:=sl }
 free:∀b o,h.get? b=some o->H b=none->b∉ex->H' b=none
 there:∀b o,h.get? b=some o->b∉ex->∃o',h'.get? b=some o'
 tups:∀b xs,H b= ~~~xs->H' b= ~~~xs
 frzs:∀b o u,H b=some (.frz o u)->H' b=some (.frz o u)
 tbls:∀b ps,H b=some (.tbl ps)->∃more,H' b=some (.tbl (ps ++ more))
section
variable {fs fs' ex ex':List Addr} {H H1 H2:Hp} {h h1 h2 h':Heap} {a x e:Addr} {o:HO}
theorem Un.any (u:Un fs ex H H1 h h1) {b:Addr} {ob:Obj} (q:h.get? b=some ob) (n:H b=none) (hx:b∉ex):∃sl,h1.get? b=some { ob with slots:=sl }:=by
 by_cases hb:b∈fs
 ·exact u.slot b ob q n hb hx
 ·exact ⟨ob.slots,u.keep b ob q n hb hx⟩
theorem Un.kept (k:∀b u,h.get? b=some u->h'.get? b=some u):Un fs ex H H h h' :=
 ⟨λ b ob q _ _ _=>k b ob q,λ b ob q _ _ _=>⟨ob.slots,k b ob q⟩,λ _ _ _ n _=>n,λ b ob q _=>⟨ob,k b ob q⟩,λ _ _ q=>q,λ _ _ _ q=>q,λ _ ps q=>⟨#[],by rw [q]; simp⟩⟩
theorem Un.refl:Un fs ex H H h h:=Un.kept λ _ _ q=>q
theorem Un.laid (k:∀b u,h.get? b=some u->h'.get? b=some u) (hp:h.objs.size<=a) (hn:H a=none):Un fs ex H (upd H a o) h h' where
 keep:=λ b u q _ _ _=>k b u q
 slot:=λ b u q _ _ _=>⟨u.slots,k b u q⟩
 free:=λ b u q n _=>by rw [aj (Nat.ne_of_lt (Nat.lt_of_lt_of_le (Heap.lt_size q) hp))]; exact n
 there:=λ b u q _=>⟨u,k b u q⟩
 tups:=λ b xs q=>by rw [aj (ah q hn)]; exact q
 frzs:=λ b u xs q=>by rw [aj (ah q hn)]; exact q
 tbls:=λ b ps q=>⟨#[],by rw [aj (ah q hn),q]; simp⟩
theorem Un.write (mu:Mut (H x)) (he:e=x\/H e=some (.own x)) (k:∀b u,b≠e->h.get? b=some u->h'.get? b=some u) (heo:∃u,h'.get? e=some u):Un fs ex H (upd H x o) h h':=by
 have hx:∀b,H b=none->b≠x:=λ b n z=>by subst z; rw [n] at mu; exact mu
 have hb:∀b,H b=none->b≠e:=λ b n z=>by
  subst z;rcases he with r | r
  ·exact hx b n r
  ·rw [n] at r; cases r
 have hm:∀b u,H b=some u->¬ Mut (some u)->b≠x:=λ b u q nm z=>by subst z; rw [q] at mu; exact nm mu
 refine ⟨λ b u q n _ _=>k b u (hb b n) q,λ b u q n _ _=>⟨u.slots,k b u (hb b n) q⟩,λ b u q n _=>by rw [aj (hx b n)]; exact n,λ b u q _=>?_,
  λ b xs q=>by rw [aj (hm b _ q λ z=>z)]; exact q,λ b u xs q=>by rw [aj (hm b _ q λ z=>z)]; exact q,λ b ps q=>⟨#[],by rw [aj (hm b _ q λ z=>z),q]; simp⟩⟩
 by_cases hbe:b=e
 ·subst hbe; exact heo
 ·exact ⟨u,k b u hbe q⟩
end
def trk (h:Heap) (H:Hp):List Addr:=(List.range h.objs.size).filter λ a=>(H a).isSome
def ik (h:Heap) (H:Hp):Heap:=PySem.W.hideAll h (trk h H)
theorem mE (h:Heap) (H:Hp):(ik h H).objs.size=h.objs.size:=PySem.W.hideAll_size _ _
theorem oo {h:Heap} {H:Hp} {b:Addr} {o:Obj} (e:h.get? b=some o) (n:H b=none):(ik h H).get? b=some o :=
 PySem.W.hideAll_get _ e λ hm=>by have q:(H b).isSome=true:=(List.mem_filter.mp hm).2;rw [n] at q; simp at q
theorem qL {h:Heap} {H:Hp} {b:Addr} {o:Obj} (e:(ik h H).get? b=some o):h.get? b=some o/\H b=none:=by
 have e':h.get? b=some o:=PySem.W.of_hideAll (trk h H) e;refine ⟨e',?_⟩;cases q:H b with
 | none=>rfl
 | some x =>
  have hm:b∈trk h H:=List.mem_filter.mpr ⟨List.mem_range.mpr (A6 e'),by simp [q]⟩;have z:(ik h H).get? b=none:=PySem.W.hideAll_none (trk h H) hm;rw [z] at e; cases e
def qM (g h:Heap) (L:Addr):List (Addr×Obj):=(List.range h.objs.size).filterMap λ a=>if a=L\/(g.get? a).isSome=true then none else (h.get? a).map λ o=>(a,o)
def rest (g h:Heap) (L d:Addr):List (Addr×Obj):=(qM g h L).filter λ p=>decide (p.1≠d)
structure Mod (K:C1) (mg:Str->Option Value) (base:Heap):Prop where
 kin:K.In base
 glob:base.Ns mainGlobals mg
 blt:∃mb,base.Ns builtinsNs mb/\∀x:Str,x ≠ "__name__" -> mb x=bootBuiltins x
 nolimit:base.NoLimit
/-- the context: a def's body (or a comprehension's block) running. base: fixed through the aA law; s₀,H₀: the entry; outer: the frames whose slots others may change (a def's callers); stack: all frames that run;
   ex: iterators that were made ahead of the entry and are walked here (a comprehension's); fn: the names whose cells were made at the entry (a def: all; a comprehension's block: its own); calm: not within an except suite; pn: pins that every state bears; xe: what is wanted of an exception that leaves the code -/
structure Cx where
 prog:Program
 w:World
 K:C1
 mg:Str->Option Value
 base:Heap
 A:Around
 N:List Str
 s₀:Shared
 H₀:Hp
 env:Env
 outer:List Env
 stack:List Env
 ex:List Addr
 fn:Str->Bool
 calm:Bool
 pn:List (Addr×Obj)
 xe:FF->FB->Prop
def frs (l:List Env):List Addr:=l.filterMap (·.frame)
abbrev Cx.fs (X:Cx):List Addr:=frs X.outer
def Vis (sc:Scope) (x:Str):Prop:=sc.names.lookup x=some .local\/sc.names.lookup x=some .cell\/sc.names.lookup x=some .free
def Loc (sc:Scope) (x:Str):Prop:=sc.names.lookup x=some .local\/sc.names.lookup x=some .cell
def Cy (env:Env) (h:Heap) (m:Str->Option FF) (x:Str) (u:FF):Prop :=
 (env.kindOf x=some .local/\m x=some u)\/((env.kindOf x=some .cell\/env.kindOf x=some .free)/\∃c,env.cells.lookup x=some c/\h.IsCell c (some u))
structure Cx.Ok (X:Cx):Prop where
 mod:Mod X.K X.mg X.base
 kind:X.env.scope.kind=.function
 glob:X.env.globals=mainGlobals
 blt:X.env.builtins=builtinsNs
 above:X.s₀.heap.objs.size<=X.env.locals
 inj:∀x y c,X.env.cells.lookup x=some c->X.env.cells.lookup y=some c->x=y
 has:∀x,(X.env.kindOf x=some .cell\/X.env.kindOf x=some .free)->∃c,X.env.cells.lookup x=some c
 cab:∀x c,X.fn x=true->X.env.cells.lookup x=some c->X.s₀.heap.objs.size<=c
 hd:X.calm=true->X.A.handled=none
 frames:X.A.frames=some X.stack
 stk:X.stack=X.outer\/(X.stack=X.env :: X.outer/\X.env.frame=some X.env.locals)
 exf:∀b∈X.ex,b≠X.env.locals/\∀x c,X.env.cells.lookup x=some c->c≠b
 bs:∀b o,X.base.get? b=some o->X.s₀.heap.get? b=some o/\X.H₀ b=none
 bsz:X.base.objs.size<=X.s₀.heap.objs.size
 noex:∀b o,X.base.get? b=some o->b∉X.ex
 exfs:∀b∈X.ex,b∉X.fs
 funs:X.s₀.heap.FunFrames X.base X.outer
 frf:∀b∈X.fs,X.H₀ b=none
structure Inv (X:Cx) (pins:List (Addr×Obj)) (σ:List (Option V)) (H:Hp) (s:Shared):Prop where
 ok:X.Ok
 os:s.os=X.s₀.os
 bare:AllBare s.gens
 base:Un X.fs X.ex X.H₀ H X.s₀.heap s.heap
 loc:∃m,s.heap.Ns X.env.locals m/\∀ (i:Nat) (x:Str) (v:V),X.N[i]? = some x->σ[i]? = some (some v)->Vis X.env.scope x->∃u,RelV v u/\Cy X.env s.heap m x u
 cell:∀x c,X.env.cells.lookup x=some c->∃v,s.heap.IsCell c v
 free:H X.env.locals=none
 freeC:∀x c,X.env.cells.lookup x=some c->H c=none
 pin:∀p∈X.pn ++ pins,s.heap.get? p.1=some p.2/\H p.1=none/\p.1≠X.env.locals/\p.1∉X.fs/\∀v,p.2.data≠.cell v
 hok:HOk X.prog X.w H s.heap
 len:σ.length=X.N.length
section
variable {X:Cx} {pins:List (Addr×Obj)} {σ:List (Option V)} {H H':Hp} {s:FB} {h':Heap}
theorem Cx.Ok.nofr (ok:X.Ok) {b:Addr} {o:Obj} (e:X.base.get? b=some o):b∉X.fs:=λ hb=>by have:=(ok.funs.mem hb).1;rw [e] at this; cases this
theorem Inv.bs (I:Inv X pins σ H s):∀b o,X.base.get? b=some o->s.heap.get? b=some o/\H b=none:=λ b o e =>
 ⟨I.base.keep b o (I.ok.bs b o e).1 (I.ok.bs b o e).2 (I.ok.nofr e) (I.ok.noex b o e),I.base.free b o (I.ok.bs b o e).1 (I.ok.bs b o e).2 (I.ok.noex b o e)⟩
theorem Inv.bk (I:Inv X pins σ H s):∀b o,X.base.get? b=some o->s.heap.get? b=some o:=λ b o e=>(I.bs b o e).1
theorem Inv.mod (I:Inv X pins σ H s):Mod X.K X.mg X.base:=I.ok.mod
theorem Inv.kIn (I:Inv X pins σ H s):X.K.In s.heap:=I.ok.mod.kin.keeps I.bk
theorem Inv.fr (I:Inv X pins σ H s):∃m,Fr X.base X.env.locals s.heap m :=
 let ⟨m,hn,_⟩:=I.loc
 ⟨m,hn,I.bk,C2 I.ok.bsz I.ok.above⟩
theorem Inv.lt (I:Inv X pins σ H s):X.env.locals < s.heap.objs.size:=let ⟨_,hn,_⟩:=I.loc; hn.lt
theorem Inv.sz (I:Inv X pins σ H s):X.s₀.heap.objs.size<=s.heap.objs.size:=C2 I.ok.above (Nat.le_of_lt I.lt)
theorem Inv.nofs (I:Inv X pins σ H s) {a:Addr} (h:s.heap.objs.size<=a):a∉X.fs:=λ hb=>by obtain ⟨_,o,ho,_⟩:=I.ok.funs.mem hb;exact absurd (B8 (A6 ho) (C2 I.sz h)) (C4 _)
theorem Inv.cne (I:Inv X pins σ H s):∀x c,X.env.cells.lookup x=some c->c≠X.env.locals:=λ x c e z=>by obtain ⟨v,o,ho,hd⟩:=I.cell x c e;obtain ⟨m,⟨o',es,ep,ho',hd',_⟩,_⟩:=I.loc;rw [z,ho'] at ho; cases ho; rw [hd'] at hd; cases hd
theorem Inv.funs (I:Inv X pins σ H s):s.heap.FunFrames X.base X.outer:=by
 have all:∀ (l:List Env),(∀b∈frs l,b∈X.fs)->X.s₀.heap.FunFrames X.base l->s.heap.FunFrames X.base l:=by
  intro l
  induction l with
  | nil=>intro _ _; trivial
  | cons env r ih =>
   intro hs hl;obtain ⟨hk,⟨L,o,hf,hn,ho,hd⟩,hr⟩:=hl;have hL:L∈X.fs:=hs L (by unfold frs; rw [List.filterMap_cons,hf]; exact List.mem_cons_self);obtain ⟨sl,e⟩:=I.base.slot L o ho (I.ok.frf L hL) hL λ z=>I.ok.exfs L z hL;exact ⟨hk,⟨L,_,hf,hn,e,hd⟩,ih (λ b hb=>hs b (by unfold frs; rw [List.filterMap_cons,hf]; exact List.mem_cons_of_mem _ hb)) hr⟩
 exact all X.outer (λ _ hb=>hb) I.ok.funs
theorem Inv.stack (I:Inv X pins σ H s):s.heap.FunFrames X.base X.stack:=by
 rcases I.ok.stk with e | ⟨e,hf⟩
 ·rw [e]; exact I.funs
 ·rw [e];obtain ⟨m,hn,_⟩:=I.loc;refine .cons (by rw [I.ok.kind]; decide) hf hn ?_ I.funs;exact Heap.get?_none_of_le (C2 I.ok.bsz I.ok.above)
theorem Inv.stkSub (I:Inv X pins σ H s):∀b∈frs X.stack,b∈X.env.locals :: X.fs:=λ b hb=>by
 rcases I.ok.stk with e | ⟨e,hf⟩
 ·rw [e] at hb; exact B1 _ hb
 ·rw [e] at hb;unfold frs at hb;rw [List.filterMap_cons,hf] at hb;exact hb
theorem Inv.stkFree (I:Inv X pins σ H s):∀b∈frs X.stack,H b=none:=λ b hb=>by
 rcases List.mem_cons.mp (I.stkSub b hb) with e | hb
 ·rw [e]; exact I.free
 ·obtain ⟨_,o,ho,_⟩:=I.ok.funs.mem hb;exact I.base.free b o ho (I.ok.frf b hb) λ z=>I.ok.exfs b z hb
theorem Inv.step {g':Array GenState} {t':Nat} {d':Drawn} {ch:List Addr} (I:Inv X pins σ H s)
  (hch:∀b∈ch,(b∈X.ex\/X.s₀.heap.objs.size<=b)/\b≠X.env.locals/\(∀x c,X.env.cells.lookup x=some c->c≠b)/\∀p∈X.pn ++ pins,p.1≠b)
  (keep:∀b o,b≠X.env.locals->b∉X.fs->b∉ch->s.heap.get? b=some o->H b=none->h'.get? b=some o)
  (slot:∀b o,b≠X.env.locals->b∈X.fs->b∉ch->s.heap.get? b=some o->H b=none->∃sl,h'.get? b=some { o with slots:=sl }) (free:∀b o,b∉ch->s.heap.get? b=some o->H b=none->H' b=none)
  (there:∀b o,b∉ch->s.heap.get? b=some o->∃o',h'.get? b=some o')
  (tups:∀b xs,H b= ~~~xs->H' b= ~~~xs) (frzs:∀b o u,H b=some (.frz o u)->H' b=some (.frz o u)) (tbls:∀b ps,H b=some (.tbl ps)->∃more,H' b=some (.tbl (ps ++ more)))
  (ns:∀m,s.heap.Ns X.env.locals m->h'.Ns X.env.locals m) (hok:HOk X.prog X.w H' h') (hg:AllBare g') :
  Inv X pins σ H' { s with heap:=h',gens:=g',drawn:=d',toks:=t' }:=by
 have neL:∀b o,X.s₀.heap.get? b=some o->b≠X.env.locals:=λ b o e=>B6 (B8 (A6 e) I.ok.above);have neC:∀b o,X.s₀.heap.get? b=some o->b∉X.ex->b∉ch:=λ b o e hx hb=>by
  rcases (hch b hb).1 with z | z
  ·exact hx z
  ·exact absurd (B8 (A6 e) z) (C4 _)
 have cellK:∀x c,X.env.cells.lookup x=some c->∀v,s.heap.IsCell c v->h'.IsCell c v:=λ x c e v ⟨o,ho,hd⟩=>by
  have nch:c∉ch:=λ z=>(hch c z).2.2.1 x c e rfl
  by_cases hc:c∈X.fs
  ·obtain ⟨sl,q⟩:=slot c o (I.cne x c e) hc nch ho (I.freeC x c e);exact ⟨_,q,hd⟩
  ·exact ⟨o,keep c o (I.cne x c e) hc nch ho (I.freeC x c e),hd⟩
 refine ⟨I.ok,I.os,hg,⟨λ b o e n hb hx=>?_,λ b o e n hb hx=>?_,λ b o e n hx=>?_,λ b o e hx=>?_,λ b xs e=>tups b xs (I.base.tups b xs e),λ b o xs e=>frzs b o xs (I.base.frzs b o xs e),λ b ps e=>?_⟩,?_,λ x c e=>?_,?_,λ x c e=>?_,λ p hp=>?_,hok,I.len⟩
 ·exact keep b o (neL b o e) hb (neC b o e hx) (I.base.keep b o e n hb hx) (I.base.free b o e n hx)
 ·obtain ⟨sl,e1⟩:=I.base.slot b o e n hb hx;obtain ⟨sl',e2⟩:=slot b _ (neL b o e) hb (neC b o e hx) e1 (I.base.free b o e n hx);exact ⟨sl',e2⟩
 ·obtain ⟨o',e1⟩:=I.base.there b o e hx;exact free b o' (neC b o e hx) e1 (I.base.free b o e n hx)
 ·obtain ⟨o',e1⟩:=I.base.there b o e hx;exact there b o' (neC b o e hx) e1
 ·obtain ⟨m1,e1⟩:=I.base.tbls b ps e;obtain ⟨m2,e2⟩:=tbls b _ e1;exact ⟨m1 ++ m2,by rw [e2,Array.append_assoc]⟩
 ·obtain ⟨m,hn,hl⟩:=I.loc;refine ⟨m,ns m hn,λ i x v e1 e2 e3=>?_⟩;obtain ⟨u,r,l⟩:=hl i x v e1 e2 e3;refine ⟨u,r,?_⟩;rcases l with l | ⟨k,c,e,z⟩
  ·exact .inl l
  ·exact .inr ⟨k,c,e,cellK x c e _ z⟩
 ·obtain ⟨v,z⟩:=I.cell x c e;exact ⟨v,cellK x c e v z⟩
 ·obtain ⟨m,⟨o,_,_,ho,_⟩,_⟩:=I.loc;exact free _ o (λ z=>(hch _ z).2.1 rfl) ho I.free
 ·obtain ⟨v,o,ho,hd⟩:=I.cell x c e;exact free c o (λ z=>(hch c z).2.2.1 x c e rfl) ho (I.freeC x c e)
 ·obtain ⟨e,n,ne,nf,d⟩:=I.pin p hp;have nch:p.1∉ch:=λ z=>(hch p.1 z).2.2.2 p hp rfl;exact ⟨keep p.1 p.2 ne nf nch e n,free p.1 p.2 nch e n,ne,nf,d⟩
theorem Inv.un {t':Nat} (I:Inv X pins σ H s) (u:Un X.fs [] H H' s.heap h') (hok:HOk X.prog X.w H' h'):Inv X pins σ H' { s with heap:=h',toks:=t' }:=by
 obtain ⟨m,⟨o,es,ep,ho,r⟩,_⟩:=id I.loc;obtain ⟨sl,hL⟩:=u.any ho I.free (by simp);exact I.step (g':=s.gens) (d':=s.drawn) (ch:=[]) (λ _ z=>nomatch z) (λ b o _ hb _ e n=>u.keep b o e n hb (by simp)) (λ b o _ hb _ e n=>u.slot b o e n hb (by simp)) (λ b o _ e n=>u.free b o e n (by simp)) (λ b o _ e=>u.there b o e (by simp)) u.tups u.frzs u.tbls (λ m' hm=>by
  obtain ⟨o',es',ep',ho',r'⟩:=hm;rw [ho] at ho'; cases ho';exact ⟨_,es',ep',hL,r'⟩) hok I.bare
theorem Inv.call {g':Array GenState} {t':Nat} {d':Drawn} {ch:List Addr} (I:Inv X pins σ H s) (u:Un (frs X.stack) ch H H' s.heap h') (hok:HOk X.prog X.w H' h') (hg:AllBare g')
  (hch:∀b∈ch,(b∈X.ex\/X.s₀.heap.objs.size<=b)/\b≠X.env.locals/\(∀x c,X.env.cells.lookup x=some c->c≠b)/\∀p∈X.pn ++ pins,p.1≠b) :
  Inv X pins σ H' { s with heap:=h',gens:=g',drawn:=d',toks:=t' }:=by
 obtain ⟨m,⟨o,es,ep,ho,r⟩,_⟩:=id I.loc;obtain ⟨sl,hL⟩:=u.any ho I.free λ z=>(hch _ z).2.1 rfl;exact I.step (ch:=ch) hch (λ b o hL hb hc e n=>u.keep b o e n (λ z=>(List.mem_cons.mp (I.stkSub b z)).elim hL hb) hc) (λ b o _ _ hc e n=>u.any e n hc) (λ b o hc e n=>u.free b o e n hc) (λ b o hc e=>u.there b o e hc) u.tups u.frzs u.tbls (λ m' hm=>by
  obtain ⟨o',es',ep',ho',r'⟩:=hm;rw [ho] at ho'; cases ho';exact ⟨_,es',ep',hL,r'⟩) hok hg
theorem Inv.turned {t':Nat} {it:Addr} (I:Inv X pins σ H s) (k:∀b o,b≠it->s.heap.get? b=some o->h'.get? b=some o) (hn:H it=none) (hL:it≠X.env.locals)
  (h1:it∈X.ex\/X.s₀.heap.objs.size<=it) (h2:∀x c,X.env.cells.lookup x=some c->c≠it) (h3:∀p∈X.pn ++ pins,p.1≠it):Inv X pins σ H { s with heap:=h',toks:=t' }:=by
 have nit:∀b u,H b=some u->b≠it:=λ b u e z=>by rw [z,hn] at e; cases e
 refine I.step (g':=s.gens) (d':=s.drawn) (ch:=[it]) (λ b hb=>?_) (λ b o _ _ hc e _=>k b o (λ z=>hc (by simp [z])) e) (λ b o _ _ hc e _=>⟨o.slots,k b o (λ z=>hc (by simp [z])) e⟩) (λ _ _ _ _ n=>n)
  (λ b o hc e=>⟨o,k b o (λ z=>hc (by simp [z])) e⟩) (λ _ _ e=>e) (λ _ _ _ e=>e) (λ b ps e=>⟨#[],by rw [e]; simp⟩) (λ m hm=>?_) (λ b u e=>?_) I.bare
 ·have e:b=it:=by simpa using hb
  subst e;exact ⟨h1,hL,h2,h3⟩
 ·obtain ⟨o,es,ep,ho,r⟩:=hm;exact ⟨o,es,ep,k _ o (Ne.symm hL) ho,r⟩
 ·refine (I.hok b u e).stay (λ c v hc q=>k c v ?_ q) (λ _ q=>q) λ _ _ q=>q;rcases hc with z | z
  ·rw [z]; exact nit b u e
  ·exact nit c _ z
theorem Inv.tok (I:Inv X pins σ H s) (t:Nat):Inv X pins σ H { s with toks:=t }:=I.un (h':=s.heap) (t':=t) Un.refl I.hok
theorem Inv.kept {t':Nat} (I:Inv X pins σ H s) (k:∀b u,s.heap.get? b=some u->h'.get? b=some u):Inv X pins σ H { s with heap:=h',toks:=t' }:=I.un (Un.kept k) (I.hok.kept k)
theorem Inv.laid {a:Addr} {o:HO} {t':Nat} (I:Inv X pins σ H s) (k:∀b u,s.heap.get? b=some u->h'.get? b=some u) (hp:s.heap.objs.size<=a) (new:ObjOk X.prog X.w (upd H a o) h' a o) :
  Inv X pins σ (upd H a o) { s with heap:=h',toks:=t' }:=I.un (Un.laid k hp (I.hok.fresh hp)) (I.hok.laid k hp new)
theorem Inv.write {x e:Addr} {o:HO} {t':Nat} (I:Inv X pins σ H s) (mu:Mut (H x)) (he:e=x\/H e=some (.own x)) (k:∀b u,b≠e->s.heap.get? b=some u->h'.get? b=some u) (heo:∃u,h'.get? e=some u)
  (new:ObjOk X.prog X.w (upd H x o) h' x o):Inv X pins σ (upd H x o) { s with heap:=h',toks:=t' }:=I.un (Un.write mu he k heo) (I.hok.write mu he k heo new)
theorem Inv.weak {σ':List (Option V)} (I:Inv X pins σ H s) (hl:σ'.length=σ.length) (w:∀ (i:Nat) v,σ'[i]? = some (some v)->σ[i]? = some (some v)):Inv X pins σ' H s :=
 ⟨I.ok,I.os,I.bare,I.base,let ⟨m,hn,hl'⟩:=I.loc; ⟨m,hn,λ i x v e1 e2 e3=>hl' i x v e1 (w i v e2) e3⟩,I.cell,I.free,I.freeC,I.pin,I.hok,hl.trans I.len⟩
theorem Inv.pins_of {pins':List (Addr×Obj)} (I:Inv X pins σ H s) (h:∀p∈pins',s.heap.get? p.1=some p.2/\H p.1=none/\p.1≠X.env.locals/\p.1∉X.fs/\∀v,p.2.data≠.cell v):Inv X pins' σ H s :=
 ⟨I.ok,I.os,I.bare,I.base,I.loc,I.cell,I.free,I.freeC,λ p hp=>(B9.mp hp).elim (λ z=>I.pin p (B3 _ z)) (h p),I.hok,I.len⟩
theorem ge {N:List Str} (hN:N.Nodup) {i j:Nat} {x:Str} (a:N[i]? = some x) (b:N[j]? = some x):i=j:=by obtain ⟨h1,e1⟩:=A3.mp a;obtain ⟨h2,e2⟩:=A3.mp b;exact (List.getElem_inj hN).mp (e1.trans e2.symm)
theorem gX {M:Model} {A:Around} {E:FF->FB->Prop} {i:Nat} {x:Str} {v:V} {u:FF} {Q:Unit->FB->Prop} (I:Inv X pins σ H s) (hN:X.N.Nodup) (hi:X.N[i]? = some x) (hx:Loc X.env.scope x) (r:RelV v u)
  (h:∀s',Inv X pins (σ.set i (some v)) H s'->(∃a,Heap.SameBut a s.heap s'.heap/\(a=X.env.locals\/X.env.cells.lookup x=some a))->Q () s') (hf:X.fn x=true\/X.env.scope.names.lookup x=some .local:=by first | exact .inl rfl | exact .inr rfl | assumption):wpAny M A (storeName X.env x u) Q E s:=by
 obtain ⟨m,hn,hl⟩:=id I.loc;have hcls:(X.env.scope.kind == .class || (X.env.scope.kind == .module && X.env.locals != X.env.globals))=false:=by rw [I.ok.kind]; rfl
 have hiσ:i < σ.length:=by rw [I.len]; exact (A3.mp hi).1
 have cne:=I.cne;have tracked:∀ {a:Addr} {h':Heap},(∃o,s.heap.get? a=some o/\H a=none)->Heap.SameBut a s.heap h'->HOk X.prog X.w H h':=λ {a h'} ha hs b ob e=>by
  obtain ⟨_,_,hfree⟩:=ha;refine (I.hok b ob e).stay (λ c w' hc q=>(hs.2 c ?_).trans q) (λ _ q=>q) λ _ _ q=>q;rintro rfl;rcases hc with rfl | hc
  ·rw [hfree] at e; cases e
  ·rw [hfree] at hc; cases hc
 rcases hx with hk | hk
 ·refine wpAny_storeName_local hk hn (λ h' hn' hs=>?_) hcls;obtain ⟨oL,_,_,hoL,_⟩:=id hn;refine h _ ⟨I.ok,I.os,I.bare,⟨λ b o e n hb hx=>?_,λ b o e n hb hx=>?_,I.base.free,λ b o e hx=>?_,I.base.tups,I.base.frzs,I.base.tbls⟩,⟨_,hn',λ j y v' e1 e2 e3=>?_⟩,λ y c e=>?_,I.free,I.freeC,λ p hp=>?_,tracked ⟨oL,hoL,I.free⟩ hs,by simpa using I.len⟩ ⟨_,hs,.inl rfl⟩
  ·exact (hs.2 b (B6 (B8 (A6 e) I.ok.above))).trans (I.base.keep b o e n hb hx)
  ·obtain ⟨sl,e1⟩:=I.base.slot b o e n hb hx;exact ⟨sl,(hs.2 b (B6 (B8 (A6 e) I.ok.above))).trans e1⟩
  ·obtain ⟨o',e1⟩:=I.base.there b o e hx;exact ⟨o',(hs.2 b (B6 (B8 (A6 e) I.ok.above))).trans e1⟩
  ·by_cases hj:j=i
   ·subst hj;rw [hi] at e1; cases e1;rw [List.getElem?_set_self hiσ] at e2;cases e2;exact ⟨u,r,.inl ⟨hk,by simp⟩⟩
   ·rw [List.getElem?_set_ne (Ne.symm hj)] at e2;obtain ⟨u',r',q⟩:=hl j y v' e1 e2 e3;refine ⟨u',r',?_⟩;rcases q with ⟨k,e⟩ | ⟨k,c,e,z⟩
    ·refine .inl ⟨k,?_⟩;have:y≠x:=λ e=>hj (ge hN e1 (e ▸ hi));simp [this,e]
    ·exact .inr ⟨k,c,e,z.sameBut hs (cne y c e)⟩
  ·obtain ⟨w',z⟩:=I.cell y c e;exact ⟨w',z.sameBut hs (cne y c e)⟩
  ·obtain ⟨e,n,ne,nf,d⟩:=I.pin p hp;exact ⟨(hs.2 p.1 ne).trans e,n,ne,nf,d⟩
 ·have hfn:X.fn x=true:=by
   rcases hf with z | z
   ·exact z
   ·rw [z] at hk; cases hk
  obtain ⟨c,hc⟩:=I.ok.has x (.inl hk);obtain ⟨w',z⟩:=I.cell x c hc;refine wpAny_storeName_cell I.ok.kind hk hc z (λ h' hc' hs=>?_);obtain ⟨oc,hoc,hocd⟩:=id z;refine h { s with heap:=h' } ⟨I.ok,I.os,I.bare,⟨λ b o e n hb hx=>?_,λ b o e n hb hx=>?_,I.base.free,λ b o e hx=>?_,I.base.tups,I.base.frzs,I.base.tbls⟩,⟨m,hn.sameBut hs (Ne.symm (cne x c hc)),λ j y v' e1 e2 e3=>?_⟩,λ y c' e=>?_,I.free,I.freeC,λ p hp=>?_,tracked ⟨oc,hoc,I.freeC x c hc⟩ hs,by simpa using I.len⟩ ⟨c,hs,.inr hc⟩
  ·exact (hs.2 b (B6 (B8 (A6 e) (I.ok.cab x c hfn hc)))).trans (I.base.keep b o e n hb hx)
  ·obtain ⟨sl,e1⟩:=I.base.slot b o e n hb hx;exact ⟨sl,(hs.2 b (B6 (B8 (A6 e) (I.ok.cab x c hfn hc)))).trans e1⟩
  ·obtain ⟨o',e1⟩:=I.base.there b o e hx;exact ⟨o',(hs.2 b (B6 (B8 (A6 e) (I.ok.cab x c hfn hc)))).trans e1⟩
  ·by_cases hj:j=i
   ·subst hj;rw [hi] at e1; cases e1;rw [List.getElem?_set_self hiσ] at e2;cases e2;exact ⟨u,r,.inr ⟨.inl hk,c,hc,hc'⟩⟩
   ·rw [List.getElem?_set_ne (Ne.symm hj)] at e2;obtain ⟨u',r',q⟩:=hl j y v' e1 e2 e3;refine ⟨u',r',?_⟩;rcases q with q | ⟨k,c',e,z'⟩
    ·exact .inl q
    ·refine .inr ⟨k,c',e,z'.sameBut hs ?_⟩;rintro rfl;exact hj (ge hN e1 (I.ok.inj _ _ _ e hc ▸ hi))
  ·by_cases hcc:c'=c
   ·subst hcc; exact ⟨_,hc'⟩
   ·obtain ⟨w2,z2⟩:=I.cell y c' e;exact ⟨w2,z2.sameBut hs hcc⟩
  ·obtain ⟨e,n,ne,nf,d⟩:=I.pin p hp;refine ⟨(hs.2 p.1 ?_).trans e,n,ne,nf,d⟩;intro q;rw [q,hoc] at e;have q':oc=p.2:=B5 e;exact d w' (by rw [<- q']; exact hocd)
theorem dg {M:Model} {A:Around} {E:FF->FB->Prop} {i:Nat} {x:Str} {v:V} {u:FF} {Q:Unit->FB->Prop} (I:Inv X pins σ H s) (hN:X.N.Nodup) (hi:X.N[i]? = some x) (hx:Loc X.env.scope x) (r:RelV v u)
  (h:∀s',Inv X pins (σ.set i (some v)) H s'->Q () s') (hf:X.fn x=true\/X.env.scope.names.lookup x=some .local:=by first | exact .inl rfl | exact .inr rfl | assumption):wpAny M A (storeName X.env x u) Q E s :=
 gX I hN hi hx r (λ s' I' _=>h s' I') hf
theorem Inv.call' {s':FB} {ch:List Addr} (I:Inv X pins σ H s) (ho:s'.os=s.os) (u:Un (frs X.stack) ch H H' s.heap s'.heap) (hok:HOk X.prog X.w H' s'.heap) (hg:AllBare s'.gens)
  (hch:∀b∈ch,(b∈X.ex\/X.s₀.heap.objs.size<=b)/\b≠X.env.locals/\(∀x c,X.env.cells.lookup x=some c->c≠b)/\∀p∈X.pn ++ pins,p.1≠b):Inv X pins σ H' s':=by
 obtain ⟨h',g',d',t',o'⟩:=s';have e:o'=s.os:=ho;subst e;exact I.call (g':=g') (t':=t') (d':=d') u hok hg hch
end
abbrev XK:=Value->Option Addr->Hp->Prop
abbrev St:=List (Option V)
abbrev VK:=V->Hp->Prop
abbrev TE:=St->Hp->VK->Prop
abbrev TT:=St->Hp->(Bool->Hp->Prop)->Prop
abbrev TA:=St->Hp->(List V->Hp->Prop)->Prop
structure Ends where
 nx:St->Hp->Prop
 rt:VK
 bk:St->Hp->Prop:=λ _ _=>False
 ct:St->Hp->Prop:=λ _ _=>False
abbrev TS:=Ends->St->Hp->Prop
def EP (X:Cx) (pins:List (Addr×Obj)) (σ:St) (Q:VK) (u:FF) (s':FB):Prop:=∃v H',Inv X pins σ H' s'/\RelV v u/\Q v H'
def TP (X:Cx) (pins:List (Addr×Obj)) (σ:St) (Q:Bool->Hp->Prop) (b:Bool) (s':FB):Prop:=∃H',Inv X pins σ H' s'/\Q b H'
def AP (X:Cx) (pins:List (Addr×Obj)) (σ:St) (Q:List V->Hp->Prop) (us:List FF) (s':FB):Prop:=∃vs H',Inv X pins σ H' s'/\Vals vs us/\Q vs H'
def SP (X:Cx) (pins:List (Addr×Obj)) (D:Ends) (f:Flow) (s':FB):Prop :=
 match f with
 | .next=>∃σ' H',Inv X pins σ' H' s'/\D.nx σ' H'
 | .brk=>∃σ' H',Inv X pins σ' H' s'/\D.bk σ' H'
 | .cont=>∃σ' H',Inv X pins σ' H' s'/\D.ct σ' H'
 | .ret u=>∃v σ' H',Inv X pins σ' H' s'/\RelV v u/\D.rt v H'
def PE (X:Cx) (e:Expr) (t:TE):Prop :=
 ∀ (pins:List (Addr×Obj)) (s:FB) (σ:St) (H:Hp) (Q:VK),Inv X pins σ H s->t σ H Q->wpAny (model X.prog X.w) X.A (eval e X.env) (EP X pins σ Q) X.xe s
def PT (X:Cx) (e:Expr) (t:TT):Prop :=
 ∀ (pins:List (Addr×Obj)) (s:FB) (σ:St) (H:Hp) (Q:Bool->Hp->Prop),Inv X pins σ H s->t σ H Q->wpAny (model X.prog X.w) X.A (isTrue e X.env (eval e X.env)) (TP X pins σ Q) X.xe s
def PW (X:Cx) (e:Expr) (t:TT):Prop :=
 ∀ (aA:Sem FF) (pins:List (Addr×Obj)) (s:FB) (σ:St) (H:Hp) (Q:Bool->Hp->Prop),Inv X pins σ H s->t σ H Q->wpAny (model X.prog X.w) X.A (isTrue e X.env aA) (TP X pins σ Q) X.xe s
theorem PW.pt {X:Cx} {e:Expr} {t:TT} (h:PW X e t):PT X e t:=h _
def PA (X:Cx) (es:List Expr) (t:TA):Prop :=
 ∀ (pos:Pos) (pins:List (Addr×Obj)) (s:FB) (σ:St) (H:Hp) (Q:List V->Hp->Prop),Inv X pins σ H s->t σ H Q->wpAny (model X.prog X.w) X.A (spliced (backTo pos (starEach es X.env))) (AP X pins σ Q) X.xe s
def PS (X:Cx) (st:Stmt) (t:TS):Prop :=
 ∀ (pins:List (Addr×Obj)) (s:FB) (σ:St) (H:Hp) (D:Ends),Inv X pins σ H s->t D σ H->wpAny (model X.prog X.w) X.A (exec st X.env) (SP X pins D) X.xe s
def PSs (X:Cx) (st:List Stmt) (t:TS):Prop :=
 ∀ (pins:List (Addr×Obj)) (s:FB) (σ:St) (H:Hp) (D:Ends),Inv X pins σ H s->t D σ H->wpAny (model X.prog X.w) X.A (execs st X.env) (SP X pins D) X.xe s
theorem thn {α:Type} {t:Sem α} {Q Q':α->FB->Prop} {M:Model} {A:Around} {E:FF->FB->Prop} {s:FB} (h:wpAny M A t Q E s) (hQ:∀a s,Q a s->Q' a s):wpAny M A t Q' E s:=wpAny_mono h hQ λ _ _ x=>x
section
variable {X:Cx}
theorem bin {a b:Expr} {ta tb:TE} (ha:PE X a ta) (hb:PE X b tb) {pins:List (Addr×Obj)} {s:FB} {σ:St} {H:Hp} {R:V->V->Hp->Prop} (I:Inv X pins σ H s) (h:ta σ H λ x H1=>tb σ H1 λ y H2=>R x y H2)
  {α:Type} {Q:α->FB->Prop} {f:FF->FF->Sem α}
  (hf:∀v u s2 x y H2,Inv X pins σ H2 s2->RelV x v->RelV y u->R x y H2->wpAny (model X.prog X.w) X.A (f v u) Q X.xe s2) :
  wpAny (model X.prog X.w) X.A (eval a X.env) (λ v s₁=>wpAny (model X.prog X.w) X.A (eval b X.env) (λ u s₂=>wpAny (model X.prog X.w) X.A (f v u) Q X.xe s₂) X.xe s₁) X.xe s:=by
 refine thn (ha pins s σ H _ I h) λ v s1 ⟨x,H1,I1,r1,q1⟩=>?_;refine thn (hb pins s1 σ H1 _ I1 q1) λ u s2 ⟨y,H2,I2,r2,q2⟩=>?_;exact hf v u s2 x y H2 I2 r1 r2 q2
inductive tVar (i:Nat) (σ:St) (H:Hp) (Q:VK):Prop
 | mk (v:V) (e_0:σ[i]? = some (some v)) (e_1:Q v H):tVar i σ H Q
def tC (v:V):TE:=λ _ H Q=>Q v H
theorem tK {i:Nat} {x:Str} {pos:Pos} (hN:X.N[i]? = some x) (hv:Vis X.env.scope x) (hd:(x == ("__debug__" : Str))=false:=by decide) (hcd:(x == ("__classdict__" : Str))=false:=by decide):PE X (.Name x pos) (tVar i):=by
 intro pins s σ H Q I h;obtain ⟨v,e,h⟩:=h;obtain ⟨m,hn,hl⟩:=I.loc;obtain ⟨u,r,l⟩:=hl i x v hN e hv;have fin:EP X pins σ Q u s:=⟨v,H,I,r,h⟩
 rcases l with ⟨hk,hm⟩ | ⟨hk,c,hc,hcell⟩
 ·exact wpAny_Name (wpAny_loadName_local I.ok.kind hk hn hm fin) hd
 ·rcases hk with hk | hk
  ·exact wpAny_Name (wpAny_loadName_cell I.ok.kind hk hc hcell fin) hd
  ·exact wpAny_Name (wpAny_loadName_free I.ok.kind hk hc hcell fin hcd) hd
theorem af {i j pos}:PE X (.Constant (.int i) j pos) (tC (.int i)):=λ _ _ _ H _ I h=>wpAny_Constant_int ⟨.int i,H,I.tok _,⟨_,rfl⟩,h⟩
theorem bp {b j pos}:PE X (.Constant (.bool b) j pos) (tC (.bl b)):=λ _ _ _ H _ I h=>Constant_bool ⟨.bl b,H,I,rfl,h⟩
theorem dY {j pos}:PE X (.Constant .none j pos) (tC .non):=λ _ _ _ H _ I h=>Constant_none ⟨.non,H,I,rfl,h⟩
theorem eY {x j pos}:PE X (.Constant (.str x) j pos) (tC (.str x)):=λ _ _ _ H _ I h=>Calls.Constant_str ⟨.str x,H,I.tok _,⟨_,Y⟩,h⟩
def Gl (X:Cx) (x:Str):Prop:=X.env.kindOf x=some .globalImplicit
theorem dB {E:FF->FB->Prop} {pins:List (Addr×Obj)} {s:FB} {σ:St} {H:Hp} {x:Str} {u:FF} {pos:Pos} {Q:FF->FB->Prop} (I:Inv X pins σ H s) (hg:Gl X x) (hm:X.mg x=some u) (h:Q u s)
  (hd:(x == ("__debug__" : Str))=false:=by decide):wpAny (model X.prog X.w) X.A (eval (.Name x pos) X.env) Q E s :=
 Calls.Name_function_global I.ok.kind hg (Calls.loadGlobal_global (by rw [I.ok.glob]; exact I.mod.glob.keeps I.bk) hm h) hd
theorem dZ {E:FF->FB->Prop} {pins:List (Addr×Obj)} {s:FB} {σ:St} {H:Hp} {x:Str} {u:FF} {pos:Pos} {Q:FF->FB->Prop} (I:Inv X pins σ H s) (hg:Gl X x) (hm:X.mg x=none) (hv:bootBuiltins x=some u) (h:Q u s)
  (hn:x ≠ "__name__" := by decide) (hd:(x == ("__debug__" : Str))=false:=by decide):wpAny (model X.prog X.w) X.A (eval (.Name x pos) X.env) Q E s:=by
 obtain ⟨mb,h1,h2⟩:=I.mod.blt;exact Calls.Name_function_global I.ok.kind hg (Calls.loadGlobal_builtin (by rw [I.ok.glob]; exact I.mod.glob.keeps I.bk) hm (by rw [I.ok.blt]; exact h1.keeps I.bk) ((h2 x hn).trans hv) h) hd
theorem aJ {x:Str} {v:V} {u:FF} {pos:Pos} (hg:Gl X x) (hm:X.mg x=some u) (r:RelV v u) (hd:(x == ("__debug__" : Str))=false:=by decide):PE X (.Name x pos) (tC v) :=
 λ _ _ _ H _ I h=>dB I hg hm ⟨v,H,I,r,h⟩ hd
theorem bO {x:Str} {v:V} {u:FF} {pos:Pos} (hg:Gl X x) (hm:X.mg x=none) (hv:bootBuiltins x=some u) (r:RelV v u) (hn:x ≠ "__name__" := by decide) (hd:(x == ("__debug__" : Str))=false:=by decide):PE X (.Name x pos) (tC v) :=
 λ _ _ _ H _ I h=>dZ I hg hm hv ⟨v,H,I,r,h⟩ hn hd
variable {a b:Expr} {ta tb:TE} {pos:Pos}
def PC (X:Cx) (op:CmpOp) (a b:Expr) (t:TE):Prop :=
 ∀ (pins:List (Addr×Obj)) (s:FB) (σ:St) (H:Hp) (Q:VK),Inv X pins σ H s->t σ H Q ->
  wpAny (model X.prog X.w) X.A (eval a X.env) (λ v s₁=>wpAny (model X.prog X.w) X.A (eval b X.env) (λ u s₂=>wpAny (model X.prog X.w) X.A (compareOp op v u) (EP X pins σ Q) X.xe s₂) X.xe s₁) X.xe s
inductive IsB (x:V) (Q:Bool->Prop):Prop
 | mk (c:Bool) (e:x=.bl c) (q:Q c):IsB x Q
def tB (t:TE):TT:=λ σ H Q=>t σ H λ x H1=>IsB x λ c=>Q c H1
theorem Cz {op:CmpOp} {t:TE} (h:PC X op a b t) (h1:behindInMarks op b=false:=by first | exact nobehind _ ∅ ∅ | rfl):PT X (.Compare a [op] [b] pos) (tB t):=by intro pins s σ H Q I hw;refine wpAny_isTrue_Compare1 (thn (h pins s σ H _ I hw) λ v s1 h1=>thn h1 λ u s2 h2=>thn h2 λ c s3 ⟨x,H1,I1,r1,q1⟩=>?_) h1;obtain ⟨d,rfl,q⟩:=q1;cases r1;exact E6 ⟨H1,I1,q⟩
theorem aO {e:Expr} {t:TE} (h:PE X e t) (he:∀aA,isTrue e X.env aA=(do let v<-aA; standAt e.pos; holding [v] (truthy v)):=by intro _; rfl):PT X e (tB t):=by intro pins s σ H Q I hw;refine isTrue_plain (thn (h pins s σ H _ I hw) λ v s1 ⟨x,H1,I1,r1,q1⟩=>?_) (he _);obtain ⟨d,rfl,q⟩:=q1;cases r1;exact E6 ⟨H1,I1,q⟩
variable {tA tB':TT} {rest:List Expr}
def tOr (t u:TT):TT:=λ σ H Q=>t σ H λ c H1=>if c=true then Q true H1 else u σ H1 Q
def CA (t:TT):TT:=λ σ H Q=>t σ H λ c H1=>Q (!c) H1
theorem bu (ha:PT X a tA):PW X (.BoolOp .Or [a] pos) tA:=by
 intro wh pins s σ H Q I h;refine isTrue_or (thn (ha pins s σ H Q I h) λ c s1 e=>?_);cases c with
 | false=>exact isTrue_or_nil e
 | true=>exact e
theorem bR (ha:PT X a tA) (hb:PW X (.BoolOp .Or (b :: rest) pos) tB'):PW X (.BoolOp .Or (a :: b :: rest) pos) (tOr tA tB'):=by
 intro wh pins s σ H Q I h;refine isTrue_or (thn (ha pins s σ H _ I h) λ c s1 ⟨H1,I1,q1⟩=>?_);cases c with
 | true=>exact ⟨H1,I1,q1⟩
 | false=>exact hb wh pins s1 σ H1 Q I1 q1
theorem aT (ha:PT X a tA):PT X (.UnaryOp .Not a pos) (CA tA):=by intro pins s σ H Q I h;exact isTrue_not (ha pins s σ H (λ c H1=>Q (!c) H1) I h)
def yb (ta tb:TE):TE:=λ σ H Q=>ta σ H λ x H1=>IsB x λ c=>if c=true then tb σ H1 Q else Q (.bl false) H1
def CB (ta tb:TE):TE:=λ σ H Q=>ta σ H λ x H1=>IsB x λ c=>if c=true then Q (.bl true) H1 else tb σ H1 Q
def yc (ta:TE):TE:=λ σ H Q=>ta σ H λ x H1=>IsB x λ c=>Q (.bl (!c)) H1
theorem cj {op} {t:TE} (h:PE X a t):PE X (.BoolOp op [a] pos) t:=λ pins s σ H Q I hw=>BoolOp_one (h pins s σ H Q I hw)
theorem bA (ha:PE X a ta) (hb:PE X (.BoolOp .And (b :: rest) pos) tb):PE X (.BoolOp .And (a :: b :: rest) pos) (yb ta tb):=by
 intro pins s σ H Q I h;refine BoolOp_and (thn (ha pins s σ H _ I h) λ v s1 ⟨x,H1,I1,r1,q1⟩=>?_);obtain ⟨c,rfl,q1⟩:=q1;cases r1;refine E6 ?_;cases c with
 | true=>exact hb pins s1 σ H1 Q I1 q1
 | false=>exact ⟨.bl false,H1,I1,Y,q1⟩
theorem yd (ha:PE X a ta) (hb:PE X (.BoolOp .Or (b :: rest) pos) tb):PE X (.BoolOp .Or (a :: b :: rest) pos) (CB ta tb):=by
 intro pins s σ H Q I h;refine BoolOp_or (thn (ha pins s σ H _ I h) λ v s1 ⟨x,H1,I1,r1,q1⟩=>?_);obtain ⟨c,rfl,q1⟩:=q1;cases r1;refine E6 ?_;cases c with
 | false=>exact hb pins s1 σ H1 Q I1 q1
 | true=>exact ⟨.bl true,H1,I1,Y,q1⟩
theorem oq (ha:PE X a ta):PE X (.UnaryOp .Not a pos) (yc ta):=by intro pins s σ H Q I h;refine UnaryOp_ (thn (ha pins s σ H _ I h) λ v s1 ⟨x,H1,I1,r1,q1⟩=>?_);obtain ⟨c,rfl,q1⟩:=q1;cases r1;exact not_of (E6 ⟨.bl (!c),H1,I1,rfl,q1⟩)
end
def SqL (K:C1) (H:Hp) (a:Addr) (xs:List V):Prop :=
 Rd H a (.lst xs) \/
  ∃ (o:Obj) (its:Array FF) (n:Nat),K.lookup a=some o/\o.cls=.type "list" /\ o.dict=none/\o.data=.seq its n/\its.size<=sizeLine/\Vals xs its.toList
def SqT (K:C1) (H:Hp) (a:Addr) (xs:List V):Prop :=
 Rd H a (.tup xs) \/
  ∃ (o:Obj) (its:Array FF) (n:Nat),K.lookup a=some o/\o.cls=.type "tuple" /\ o.data=.seq its n/\its.size<=sizeLine/\Vals xs its.toList
def CC:FF->Option V
 | .none=>some .non
 | .bool b=>some (.bl b)
 | .int i _=>⇑i
 | .str x _=>some (.str x)
 | .bytes b _=>some (.byt b)
 | .float b _=>some (.flt b)
 | .ref a=>↑a
 | .type n=>some (.ty n)
 | _=>none
theorem RelV.abs {x:V} {u:FF} (r:RelV x u):CC u=some x:=by
 cases x with
 | non=>cases r; rfl
 | bl _=>cases r; rfl
 | int _=>obtain ⟨t,rfl⟩:=r; rfl
 | str _=>obtain ⟨t,rfl⟩:=r; rfl
 | byt _=>obtain ⟨t,rfl⟩:=r; rfl
 | flt _=>obtain ⟨t,rfl⟩:=r; rfl
 | ref _=>cases r; rfl
 | ty _=>cases r; rfl
theorem RelV.inj {x y:V} {u:FF} (r:RelV x u) (q:RelV y u):x=y:=B5 (r.abs.symm.trans q.abs)
theorem Vals.inj:∀ {xs ys:List V} {us:List FF},Vals xs us->Vals ys us->xs=ys
 | _,_,_,.nil,.nil=>rfl
 | _,_,_,.cons r t,.cons r' t'=>by rw [r.inj r',Vals.inj t t']
section
variable {X:Cx} {pins:List (Addr×Obj)} {σ:St} {H:Hp} {s:FB} {a:Addr} {xs ys:List V}
theorem SqL.of {K:C1} (h:H a=↥xs):SqL K H a xs:=.inl (.inl h)
abbrev FI:=@SqL.of
theorem SqT.of {K:C1} (h:H a= ~~~xs):SqT K H a xs:=.inl (.inl h)
abbrev FH:=@SqT.of
theorem Inv.list (I:Inv X pins σ H s) (h:SqL X.K H a xs):∃its:List FF,Vals xs its/\PlainL s.heap a its.toArray/\xs.length<=sizeLine:=by
 rcases h with h | ⟨o,its,n,hk,hc,hd,hs,hz,r⟩
 ·obtain ⟨z,its,n,r,e⟩:=h.ok I.hok;exact ⟨its,r,⟨_,n,e,Y,Y,Y⟩,z⟩
 ·refine ⟨its.toList,r,⟨o,n,I.kIn a o hk,hc,hd,by simpa using hs⟩,?_⟩;have e:=r.length;simp only [Array.length_toList] at e;omega
theorem Inv.tuple (I:Inv X pins σ H s) (h:SqT X.K H a xs):∃its:List FF,Vals xs its/\IsTup s.heap a its.toArray/\xs.length<=sizeLine:=by
 rcases h with h | ⟨o,its,n,hk,hc,hs,hz,r⟩
 ·obtain ⟨z,its,r,p⟩:=h.ok I.hok;exact ⟨its,r,p,z⟩
 ·refine ⟨its.toList,r,⟨o,I.kIn a o hk,hc,n,by simpa using hs⟩,?_⟩;have e:=r.length;simp only [Array.length_toList] at e;omega
theorem Inv.list_inj (I:Inv X pins σ H s) (h:SqL X.K H a xs) (h':SqL X.K H a ys):xs=ys:=by
 obtain ⟨its,r,⟨o,n,e,_,_,d⟩,_⟩:=I.list h;obtain ⟨its',r',⟨o',n',e',_,_,d'⟩,_⟩:=I.list h';rw [e] at e'; cases e';rw [d] at d';injection d' with d1 _
 have:its=its':=by simpa using congrArg Array.toList d1
 subst this;exact r.inj r'
theorem Inv.tuple_inj (I:Inv X pins σ H s) (h:SqT X.K H a xs) (h':SqT X.K H a ys):xs=ys:=by
 obtain ⟨its,r,⟨o,e,_,n,d⟩,_⟩:=I.tuple h;obtain ⟨its',r',⟨o',e',_,n',d'⟩,_⟩:=I.tuple h';rw [e] at e'; cases e';rw [d] at d';injection d' with d1 _
 have:its=its':=by simpa using congrArg Array.toList d1
 subst this;exact r.inj r'
end
abbrev Cx.wish (X:Cx) (E:FF->FB->Prop):Cx:={ X with xe:=E }
abbrev Cx.nox (X:Cx):Cx:=X.wish λ _ _=>False
theorem Cx.Ok.wish {X:Cx} (ok:X.Ok) (E:FF->FB->Prop):(X.wish E).Ok :=
 ⟨ok.mod,ok.kind,ok.glob,ok.blt,ok.above,ok.inj,ok.has,ok.cab,ok.hd,ok.frames,ok.stk,ok.exf,ok.bs,ok.bsz,ok.noex,ok.exfs,ok.funs,ok.frf⟩
theorem Cx.Ok.unwish {X:Cx} {E:FF->FB->Prop} (ok:(X.wish E).Ok):X.Ok :=
 ⟨ok.mod,ok.kind,ok.glob,ok.blt,ok.above,ok.inj,ok.has,ok.cab,ok.hd,ok.frames,ok.stk,ok.exf,ok.bs,ok.bsz,ok.noex,ok.exfs,ok.funs,ok.frf⟩
section
variable {X:Cx} {pins:List (Addr×Obj)} {σ:St} {H:Hp} {s:FB} {E:FF->FB->Prop}
theorem Inv.wish (I:Inv X pins σ H s) (E:FF->FB->Prop):Inv (X.wish E) pins σ H s:=⟨I.ok.wish E,I.os,I.bare,I.base,I.loc,I.cell,I.free,I.freeC,I.pin,I.hok,I.len⟩
theorem Inv.unwish (I:Inv (X.wish E) pins σ H s):Inv X pins σ H s:=⟨I.ok.unwish,I.os,I.bare,I.base,I.loc,I.cell,I.free,I.freeC,I.pin,I.hok,I.len⟩
theorem SP.unwish {D:Ends} {f:Flow} {s':FB} (h:SP (X.wish E) pins D f s'):SP X pins D f s':=by
 cases f with
 | next=>obtain ⟨σ',H',I,q⟩:=h; exact ⟨σ',H',I.unwish,q⟩
 | brk=>obtain ⟨σ',H',I,q⟩:=h; exact ⟨σ',H',I.unwish,q⟩
 | cont=>obtain ⟨σ',H',I,q⟩:=h; exact ⟨σ',H',I.unwish,q⟩
 | ret u=>obtain ⟨v,σ',H',I,r,q⟩:=h; exact ⟨v,σ',H',I.unwish,r,q⟩
theorem PSs.nox {st:List Stmt} {t:TS} (h:PSs X.nox st t):PSs X st t:=λ pins s σ H D I hw =>
 wpAny_mono (h pins s σ H D (I.wish _) hw) (λ _ _ q=>q.unwish) λ _ _ z=>E1 z
end
section
variable {X:Cx} {st:Stmt} {rest:List Stmt} {t u:TS} {e:Expr} {te:TE} {pos:Pos}
def ye:TS:=λ D σ H=>D.nx σ H
def yf (t u:TS):TS:=λ D σ H=>t { D with nx:=u D } σ H
theorem ay:PSs X [] ye:=λ _ _ σ H _ I h=>wpAny_execs_nil ⟨σ,H,I,h⟩
theorem ag (h1:PS X st t) (h2:PSs X rest u):PSs X (st :: rest) (yf t u):=by
 intro pins s σ H D I h;refine wpAny_execs_cons (thn (h1 pins s σ H { D with nx:=u D } I h) λ f s1 q=>?_);cases f with
 | next =>
  obtain ⟨σ',H',I',q⟩:=q;exact h2 pins s1 σ' H' D I' q
 | ret v=>exact q
 | brk=>exact q
 | cont=>exact q
theorem ai (h1:PS X st t):PSs X [st] t:=by
 intro pins s σ H D I h;refine wpAny_execs_cons (thn (h1 pins s σ H D I h) λ f s1 q=>?_);cases f with
 | next=>exact wpAny_execs_nil q
 | ret v=>exact q
 | brk=>exact q
 | cont=>exact q
theorem Inv.quiet {pins:List (Addr×Obj)} {σ:St} {H:Hp} {s:FB} (I:Inv X pins σ H s):interactive X.env=false:=by simp [interactive,I.ok.kind]
def yg (te:TE):TS:=λ D σ H=>te σ H λ _ H1=>D.nx σ H1
theorem bI (he:PE X e te) (hs:swapsWith e none pos.line X.env=pure false:=by rfl):PS X (.Expr e pos) (yg te):=by intro pins s σ H D I h;exact wpAny_Expr_any (thn (he pins s σ H _ I h) λ v s1 ⟨x,H1,I1,r1,q1⟩=>⟨σ,H1,I1,q1⟩) I.quiet hs
def CD (te:TE):TS:=λ D σ H=>te σ H D.rt
theorem ar (he:PE X e te):PS X (.Return (some e) pos) (CD te):=by intro pins s σ H D I h;exact wpAny_Return_some (thn (he pins s σ H _ I h) λ v s1 ⟨x,H1,I1,r1,q1⟩=>⟨x,σ,H1,I1,r1,q1⟩)
def CF (c:TT) (t u:TS):TS:=λ D σ H=>c σ H λ b H1=>if b=true then t D σ H1 else u D σ H1
theorem aK {c:Expr} {a b:List Stmt} {tc:TT} (hc:PT X c tc) (ha:PSs X a t) (hb:PSs X b u):PS X (.If c a b pos) (CF tc t u):=by
 intro pins s σ H D I h;refine wpAny_If (thn (hc pins s σ H _ I h) λ d s1 ⟨H1,I1,q1⟩=>?_);cases d with
 | true=>exact ha pins s1 σ H1 D I1 q1
 | false=>exact hb pins s1 σ H1 D I1 q1
def ot:TS:=λ _ _ _=>False
theorem bB:PS X st ot:=λ _ _ _ _ _ _ h=>h.elim
theorem eZ {sts:List Stmt}:PSs X sts ot:=λ _ _ _ _ _ _ h=>h.elim
end
abbrev TG:=V->St->Hp->(St->Hp->Prop)->Prop
abbrev TGs:=List V->St->Hp->(St->Hp->Prop)->Prop
def PG (X:Cx) (target:Expr) (t:TG):Prop :=
 ∀ (pins:List (Addr×Obj)) (s:FB) (σ:St) (H:Hp) (v:V) (u:FF) (Q:St->Hp->Prop),Inv X pins σ H s->RelV v u->t v σ H Q ->
  wpAny (model X.prog X.w) X.A (assign target X.env u) (λ _ s'=>∃σ' H',Inv X pins σ' H' s'/\Q σ' H') X.xe s
def PGs (X:Cx) (ts:List Expr) (t:TGs):Prop :=
 ∀ (pins:List (Addr×Obj)) (s:FB) (σ:St) (H:Hp) (vs:List V) (us:List FF) (Q:St->Hp->Prop),Inv X pins σ H s->Vals vs us->t vs σ H Q ->
  wpAny (model X.prog X.w) X.A (assignInOrder ((assignEach ts X.env).map (·.2)) us) (λ _ s'=>∃σ' H',Inv X pins σ' H' s'/\Q σ' H') X.xe s
abbrev tL:=V->V->V->Hp->(Hp->Prop)->Prop
def yh (X:Cx) (t:tL):Prop :=
 ∀ (pins:List (Addr×Obj)) (s:FB) (σ:St) (H:Hp) (o i v:V) (ov iv u:FF) (Q:Hp->Prop),Inv X pins σ H s->RelV o ov->RelV i iv->RelV v u->t o i v H Q ->
  wpAny (model X.prog X.w) X.A (setItem ov iv u) (λ _ s'=>∃H',Inv X pins σ H' s'/\Q H') X.xe s
section
variable {X:Cx} {pos:Pos}
def ja (i:Nat):TG:=λ v σ H Q=>Q (σ.set i (some v)) H
theorem ap {i:Nat} {x:Str} (hN:X.N.Nodup) (hi:X.N[i]? = some x) (hx:Loc X.env.scope x) (hf:X.fn x=true\/X.env.scope.names.lookup x=some .local:=by first | exact .inl rfl | exact .inr rfl | assumption):PG X (.Name x pos) (ja i):=by intro pins s σ H v u Q I r h;exact wpAny_assign_Name (dg I hN hi hx r (λ s' I'=>⟨_,H,I',h⟩) hf)
def yi:TGs:=λ vs σ H Q=>vs=[]/\Q σ H
inductive gCons (t:TG) (u:TGs) (vs:List V) (σ:St) (H:Hp) (Q:St->Hp->Prop):Prop
 | mk (v:V) (r:List V) (e_0:vs=v :: r) (e_1:t v σ H λ σ' H'=>u r σ' H' Q):gCons t u vs σ H Q
theorem bn:PGs X [] yi:=by intro pins s σ H vs us Q I r h;obtain ⟨e,h⟩:=h;subst e;cases r;exact assignInOrder_nil ⟨σ,H,I,h⟩
theorem au {e:Expr} {es:List Expr} {t:TG} {u:TGs} (h1:PG X e t) (h2:PGs X es u)
  (hs:(assignEach (e :: es) X.env).map (·.2)=assign e X.env :: (assignEach es X.env).map (·.2):=by rfl):PGs X (e :: es) (gCons t u):=by
 intro pins s σ H vs us Q I r h;obtain ⟨v,vr,e1,h⟩:=h;subst e1;cases r with
 | cons r rr =>
  rw [hs];refine assignInOrder_cons (thn (h1 pins s σ H _ _ _ I r h) λ _ s1 ⟨σ1,H1,I1,q1⟩=>?_);exact h2 pins s1 σ1 H1 _ _ Q I1 rr q1
inductive gTup (K:C1) (n:Nat) (t:TGs) (v:V) (σ:St) (H:Hp) (Q:St->Hp->Prop):Prop
 | mk (a:Addr) (xs:List V) (e_0:v=.ref a) (e_1:SqT K H a xs) (e_2:xs.length=n) (e_3:t xs σ H Q):gTup K n t v σ H Q
theorem bQ {es:List Expr} {k:Nat} {t:TGs} {n:Nat} (hc:X.calm=true) (h:PGs X es t)
  (hn:(assignEach es X.env).length=n:=by rfl) (hst:(assignEach es X.env).findIdx? (·.1)=none:=by rfl):PG X (.Tuple es k pos) (gTup X.K n t):=by
 intro pins s σ H v u Q I r hw;obtain ⟨a,xs,e1,hq,hl,hw⟩:=hw;subst e1;cases r;obtain ⟨its,rv,ht,hz⟩:=I.tuple hq;refine assign_Tuple_tuple (I.ok.hd hc) ht (by simp [hn,<- hl,rv.length]) hst λ h' hx=>?_;have I1:Inv X pins σ H { s with heap:=h' }:=I.kept (t':=s.toks) λ b o e=>hx b o (B6 (A6 e)) e;exact h pins _ σ H xs _ Q I1 (by simpa using rv) hw
def CG (to ti:TE) (t:tL):TG:=λ v σ H Q=>to σ H λ o H1=>ti σ H1 λ i H2=>t o i v H2 λ H3=>Q σ H3
theorem ou {o i:Expr} {to ti:TE} {t:tL} (ho:PE X o to) (hi:PE X i ti) (hs:yh X t)
  (ha:∀v,assign (.Subscript o i pos) X.env v=(do
   let ov<-holding [v] (eval o X.env)
   let iv<-holding [v,ov] (eval i X.env)
   standAt pos
   holding [v,ov,iv] (setItem ov iv v)
   release [v,ov,iv] []):=by intro _; rfl):PG X (.Subscript o i pos) (CG to ti t):=by
 intro pins s σ H v u Q I r h;rw [ha];refine A0 (wpAny_holding (thn (ho pins s σ H _ I h) λ ov s1 ⟨x,H1,I1,r1,q1⟩=>?_));refine A0 (wpAny_holding (thn (hi pins s1 σ H1 _ I1 q1) λ iv s2 ⟨y,H2,I2,r2,q2⟩=>?_));refine A0 (wpAny_standAt (A0 (wpAny_holding (thn (hs pins s2 σ H2 x y v ov iv u _ I2 r1 r2 r q2) λ _ s3 ⟨H3,I3,q3⟩=>?_))));exact wpAny_release ⟨σ,H3,I3,q3⟩
def tM (te:TE) (g:TG):TS:=λ D σ H=>te σ H λ x H1=>g x σ H1 D.nx
theorem cz {tg e:Expr} {te:TE} {g:TG} (he:PE X e te) (hg:PG X tg g) (hs:swapsWithSole [tg] e pos.line X.env=pure false:=by rfl) (hw:swappedStores [tg] e X.env=pure none:=by rfl)
  (h1:(assignEach [tg] X.env).map (·.2)=[assign tg X.env]:=by rfl):PS X (.Assign [tg] e pos) (tM te g):=by
 intro pins s σ H D I h;refine wpAny_Assign_stores (thn (he pins s σ H _ I h) λ v s1 ⟨x,H1,I1,r1,q1⟩=>?_) hs hw;rw [h1];exact thn (hg pins s1 σ H1 x v _ I1 r1 q1) λ _ s2 q=>q
theorem aI {i:Nat} {x:Str} {e:Expr} {te:TE} {pos':Pos} (hN:X.N.Nodup) (hi:X.N[i]? = some x) (hx:Loc X.env.scope x) (he:PE X e te) (hs:swapsWith e (some (.Name x pos')) pos.line X.env=pure false:=by rfl) (hf:X.fn x=true\/X.env.scope.names.lookup x=some .local:=by first | exact .inl rfl | exact .inr rfl | assumption) :
  PS X (.Assign [.Name x pos'] e pos) (tM te (ja i)):=by
 intro pins s σ H D I h;refine wpAny_Assign_Name (thn (he pins s σ H _ I h) λ v s1 ⟨y,H1,I1,r1,q1⟩=>?_) hs;exact dg I1 hN hi hx r1 (λ s2 I2=>⟨_,H1,I2,q1⟩) hf
def CI (i j:Nat) (ta:TA):TS:=λ D σ H=>ta σ H λ vs H1=>∃v w,vs=[v,w]/\D.nx ((σ.set i (some v)).set j (some w)) H1
theorem im {i j:Nat} {x y:Str} {a b:Expr} {ta:TA} {px py pt:Pos} {kt k2 pt2} (hc:X.calm=true) (hN:X.N.Nodup) (hi:X.N[i]? = some x) (hj:X.N[j]? = some y) (hij:i≠j)
  (hx:X.env.scope.names.lookup x=some .local) (hy:X.env.scope.names.lookup y=some .local) (ha:PA X [a,b] ta)
  (hw:swappedStores [.Tuple [.Name x px,.Name y py] kt pt] (.Tuple [a,b] k2 pt2) X.env=pure (some [x,y]))
  (hs:swapsWithSole [.Tuple [.Name x px,.Name y py] kt pt] (.Tuple [a,b] k2 pt2) pos.line X.env=pure false:=by rfl) :
  PS X (.Assign [.Tuple [.Name x px,.Name y py] kt pt] (.Tuple [a,b] k2 pt2) pos) (CI i j ta):=by
 intro pins s σ H D I h;rw [exec_Assign_arm];refine A0 (wpAny_standAt ?_);rw [hs];refine A0 (A1 ?_);rw [if_neg ∅];refine A0 (Tuple_ (thn (ha _ pins s σ H _ I h) λ us s1 ⟨vs,H1,I1,r1,q1⟩=>?_));obtain ⟨v,w,e1,q1⟩:=q1;subst e1;obtain ⟨u1,u2,rfl,rv,rw'⟩:∃u1 u2,us=[u1,u2]/\RelV v u1/\RelV w u2:=by
  cases r1 with
  | cons p q =>
   cases q with
   | cons p' q' =>
    cases q';exact ⟨_,_,Y,p,p'⟩
 refine E8 ?_ zS2;have I2:Inv X pins σ H1 { s1 with heap:=s1.heap.push { cls:=.type "tuple", data:=.seq [u1, u2].toArray } }:=I1.kept (t':=s1.toks) λ b o e=>A4 _ e;rw [hw];refine A0 (A1 ?_);show wpAny (model X.prog X.w) X.A (do rule "assign.swapped-stores"; let items<-unpackItems (.ref s1.heap.objs.size) 2 none; assignInOrder [λ v=>bindName X.env y v,λ v=>bindName X.env x v] items.reverse; pure Flow.next) _ _ _;refine A0 (wpAny_rule (A0 (unpackItems_tuple (items:=#[u1,u2]) (I.ok.hd hc) (IsTup.new s1.heap _) λ h' hx'=>?_)));have I3:=I2.kept (h':=h') (t':=s1.toks) λ b o e=>hx' b o (B6 (A6 e)) e;show wpAny _ _ (assignInOrder [λ v=>bindName X.env y v,λ v=>bindName X.env x v] [u2,u1] >>= λ _=>pure Flow.next) _ _ _;refine A0 (assignInOrder_cons (wpAny_bindName (dg I3 hN hj (.inl hy) rw' (λ s2 I4=>?_) (.inr hy))));refine assignInOrder_cons (wpAny_bindName (dg I4 hN hi (.inl hx) rv (λ s3 I5=>assignInOrder_nil (A1 ?_)) (.inr hx)));rw [List.set_comm _ _ (Ne.symm hij)] at I5;exact ⟨_,H1,I5,q1⟩
end
structure It where
 go:Nat->Hp->Prop
 yld:Nat->Hp->V->Hp->Prop
 stop:Nat->Hp->Prop
def dP (X:Cx) (pins:List (Addr×Obj)) (H:Hp) (b:Addr):Prop :=
 H b=none/\b≠X.env.locals/\b∉X.fs/\(b∈X.ex\/X.s₀.heap.objs.size<=b)/\(∀x c,X.env.cells.lookup x=some c->c≠b)/\∀p∈X.pn ++ pins,p.1≠b
theorem Inv.fpOk {X:Cx} {pins:List (Addr×Obj)} {σ:St} {H H':Hp} {s:FB} {b:Addr} (I:Inv X pins σ H s) (hb:s.heap.objs.size<=b) (hn:H' b=none):dP X pins H' b:=by
 refine ⟨hn,Nat.ne_of_gt (B8 I.lt hb),I.nofs hb,.inr (C2 I.sz hb),λ x c e z=>?_,λ p hp z=>?_⟩
 ·obtain ⟨v,q⟩:=I.cell x c e;exact absurd (B8 q.lt (by rw [z]; exact hb)) (C4 _)
 ·exact absurd (B8 (A6 (I.pin p hp).1) (by rw [z]; exact hb)) (C4 _)
structure Turn (P:Program) (w:World) (K:C1) (tg:Expr) (J:It) (fp:List Addr) (it:Addr) (tn:Nat->Heap->Prop):Prop where
 mem:it∈fp
 obj:∀i h,tn i h->∀b∈fp,∃o,h.get? b=some o/\∀v,o.data≠.cell v
 keep:∀i h h',tn i h->(∀b∈fp,∀o,h.get? b=some o->h'.get? b=some o)->tn i h'
 item:∀ (X:Cx),X.prog=P->X.w=w->X.K=K->X.calm=true->∀ (i:Nat) (pins:List (Addr×Obj)) (s:FB) (σ:St) (H:Hp) (E:FF->FB->Prop),Inv X pins σ H s->(∀b∈fp,dP X pins H b)->tn i s.heap->J.go i H ->
  wpAny (model P w) X.A (pyNext (.ref it)) (λ r s1=>∃u,r=some u /\
   wpAny (model P w) X.A (letOwnedTupleGo tg (.ref it) u) (λ _ s2=>∃x H',Inv X pins σ H' s2/\RelV x u/\J.yld i H x H'/\tn (i + 1) s2.heap/\∀b∈fp,H' b=none) E s1) E s
 done:∀ (X:Cx),X.prog=P->X.w=w->X.K=K->X.calm=true->∀ (i:Nat) (pins:List (Addr×Obj)) (s:FB) (σ:St) (H:Hp) (E:FF->FB->Prop),Inv X pins σ H s->(∀b∈fp,dP X pins H b)->tn i s.heap->J.stop i H ->
  wpAny (model P w) X.A (pyNext (.ref it)) (λ r s1=>r=none/\Inv X pins σ H s1) E s
 self:∀ (A:Around) (i:Nat) (s:FB) (Q:FF->FB->Prop) (E:FF->FB->Prop),tn i s.heap->Q (.ref it) s->wpAny (model P w) A (pyIter (.ref it)) Q E s
abbrev TI:=St->Hp->(It->Hp->Prop)->Prop
def PIE (X:Cx) (pins:List (Addr×Obj)) (σ:St) (tg:Expr) (R:It->Hp->Prop) (itv:FF) (s2:FB):Prop :=
 ∃ (it:Addr) (fp:List Addr) (tn:Nat->Heap->Prop) (J:It) (H':Hp),itv=.ref it/\Inv X pins σ H' s2/\Turn X.prog X.w X.K tg J fp it tn/\tn 0 s2.heap/\(∀b∈fp,dP X pins H' b)/\R J H'
def PI (X:Cx) (tg iter:Expr) (wi:TI):Prop :=
 ∀ (pins:List (Addr×Obj)) (s:FB) (σ:St) (H:Hp) (R:It->Hp->Prop),Inv X pins σ H s->wi σ H R ->
  wpAny (model X.prog X.w) X.A (eval iter X.env) (λ v s1=>wpAny (model X.prog X.w) X.A (pyIter v) (PIE X pins σ tg R) X.xe s1) X.xe s
theorem lG {M:Model} {A:Around} {E:FF->FB->Prop} {s:FB} {tg:Expr} {it:Addr} {u:FF} {o:Obj} {n:String} {vs:Array FF} {Q:Unit->FB->Prop} (ho:s.heap.get? it=some o) (hc:o.cls=.type n) (hd:o.data=.fields vs)
    (hn:["enumerate","zip","dict_itemiterator","dict_reverseitemiterator","odict_iterator","itertools.zip_longest","itertools.pairwise"].contains n=false) (hQ:Q () s):wpAny M A (letOwnedTupleGo tg (.ref it) u) Q E s:=by
  unfold letOwnedTupleGo;cases tg <;> first
    | exact A1 hQ
    | (cases u <;> first
        | exact A1 hQ
        | (refine A0 (wpAny_load ho ?_)
           rw [hc,hd];show wpAny M A (if (["enumerate","zip","dict_itemiterator","dict_reverseitemiterator","odict_iterator","itertools.zip_longest","itertools.pairwise"].contains n && vs[0]? == some (rawInt _))=true then _ else _) Q E s;rw [if_neg (by intro h; rw [hn,Bool.false_and] at h; cases h)];exact A1 hQ))
def Itl (K:C1) (a:Addr):It :=
 ⟨λ i H=>∃xs x,SqL K H a xs/\xs[i]? = some x,λ i H x H'=>H'=H/\∀xs,SqL K H a xs->xs[i]? = some x,λ i H=>∃xs,SqL K H a xs/\xs.length<=i⟩
def Itt (K:C1) (a:Addr):It :=
 ⟨λ i H=>∃xs x,SqT K H a xs/\xs[i]? = some x,λ i H x H'=>H'=H/\∀xs,SqT K H a xs->xs[i]? = some x,λ i H=>∃xs,SqT K H a xs/\xs.length<=i⟩
def Itr (lo:Int) (n:Nat):It:=⟨λ i _=>i < n,λ i H x H'=>H'=H/\x=.int (lo + i),λ i _=>n<=i⟩
theorem mF {P:FC} {w:FE} {K:C1} {tg:Expr} (a it:Addr):Turn P w K tg (Itl K a) [it] it (λ i h=>h.IsListIter it a i) where
 mem:=by simp
 obj:=λ i h st b hb=>by
  have e:b=it:=by simpa using hb
  subst e;obtain ⟨o,e,c,d⟩:=st;exact ⟨o,e,λ v z=>by rw [d] at z; cases z⟩
 keep:=λ i h h' st k=>st.at λ o e=>k it (by simp) o e
 item:=by intro X hP hw hK hc i pins s σ H E I hf st hg;subst hP hw hK;obtain ⟨xs,x,hq,hx⟩:=hg;obtain ⟨its,rv,p,hz⟩:=I.list hq;obtain ⟨u,hu,ru⟩:=rv.get hx;obtain ⟨f0,f1,f2,f3,f4,f5⟩:=hf it (by simp);refine wpAny_pyNext_list_item st p.isList (x:=u) (by simpa using hu) λ h' st' sb=>?_;have I1:Inv X pins σ H { s with heap:=h' }:=I.turned (t':=s.toks) (λ b o hb e=>(sb.2 b hb).trans e) f0 f1 f3 f4 f5;obtain ⟨o,e,c,d⟩:=id st';exact ⟨u,Y,lG (s:={ s with heap:=h' }) e c d ∅ ⟨x,H,I1,ru,⟨Y,λ ys hy=>by rw [I.list_inj hy hq]; exact hx⟩,st',λ b hb=>(hf b hb).1⟩⟩
 done:=by intro X hP hw hK hc i pins s σ H E I hf st hg;subst hP hw hK;obtain ⟨xs,hq,hx⟩:=hg;obtain ⟨its,rv,p,hz⟩:=I.list hq;obtain ⟨f0,f1,f2,f3,f4,f5⟩:=hf it (by simp);have hl:=rv.length;exact wpAny_pyNext_list_end (I.ok.hd hc) st p.isList (by simp; omega) λ h' eb=>⟨Y,I.turned (t':=s.toks) (λ b o hb e=>eb b o hb e) f0 f1 f3 f4 f5⟩
 self:=λ _ _ _ _ _ st h=>wpAny_pyIter_listiter st h
theorem jI {P:FC} {w:FE} {K:C1} {tg:Expr} (a it:Addr):Turn P w K tg (Itt K a) [it] it (λ i h=>h.IsTupleIter it a i) where
 mem:=by simp
 obj:=λ i h st b hb=>by
  have e:b=it:=by simpa using hb
  subst e;obtain ⟨o,e,c,d⟩:=st;exact ⟨o,e,λ v z=>by rw [d] at z; cases z⟩
 keep:=λ i h h' st k=>st.at λ o e=>k it (by simp) o e
 item:=by intro X hP hw hK hc i pins s σ H E I hf st hg;subst hP hw hK;obtain ⟨xs,x,hq,hx⟩:=hg;obtain ⟨its,rv,p,hz⟩:=I.tuple hq;obtain ⟨u,hu,ru⟩:=rv.get hx;obtain ⟨f0,f1,f2,f3,f4,f5⟩:=hf it (by simp);refine wpAny_pyNext_tuple_item st (show s.heap.IsTuple a its.toArray from p) (x:=u) (by simpa using hu) λ h' st' sb=>?_;have I1:Inv X pins σ H { s with heap:=h' }:=I.turned (t':=s.toks) (λ b o hb e=>(sb.2 b hb).trans e) f0 f1 f3 f4 f5;obtain ⟨o,e,c,d⟩:=id st';exact ⟨u,Y,lG (s:={ s with heap:=h' }) e c d ∅ ⟨x,H,I1,ru,⟨Y,λ ys hy=>by rw [I.tuple_inj hy hq]; exact hx⟩,st',λ b hb=>(hf b hb).1⟩⟩
 done:=by intro X hP hw hK hc i pins s σ H E I hf st hg;subst hP hw hK;obtain ⟨xs,hq,hx⟩:=hg;obtain ⟨its,rv,p,hz⟩:=I.tuple hq;obtain ⟨f0,f1,f2,f3,f4,f5⟩:=hf it (by simp);have hl:=rv.length;exact wpAny_pyNext_tuple_end (I.ok.hd hc) st (show s.heap.IsTuple a its.toArray from p) (by simp; omega) λ h' eb=>⟨Y,I.turned (t':=s.toks) (λ b o hb e=>eb b o hb e) f0 f1 f3 f4 f5⟩
 self:=λ _ _ _ _ _ st h=>wpAny_pyIter_tupleiter st h
theorem gf {P:FC} {w:FE} {K:C1} {tg:Expr} (it:Addr) (lo:Int) (n:Nat):Turn P w K tg (Itr lo n) [it] it (λ i h=>IsRangeIter h it (lo + (i:Nat) * 1) ((n:Int) - (i:Nat)) 1) where
 mem:=by simp
 obj:=λ i h st b hb=>by
  have e:b=it:=by simpa using hb
  subst e;exact ⟨_,st,λ v z=>by
   have z':Data.fields _=Data.cell v:=z;cases z'⟩
 keep:=λ i h h' st k=>k it (by simp) _ st
 item:=by intro X hP hw hK hc i pins s σ H E I hf st hg;subst hP hw hK;obtain ⟨f0,f1,f2,f3,f4,f5⟩:=hf it (by simp);have W:=Walks.range (prog:=X.prog) (w:=X.w) (I.ok.hd hc) it lo 1 n;refine W.item i s _ _ hg st λ v h' tk hv st' kk=>?_;obtain ⟨t,rfl⟩:=hv;have I1:Inv X pins σ H { s with heap:=h',toks:=tk }:=I.turned (λ b o hb e=>kk b o (by simpa using hb) e) f0 f1 f3 f4 f5;refine ⟨_, Y, lG (s:={ s with heap:=h', toks:=tk }) (n := "range_iterator") st' rfl rfl ∅ ⟨.int (lo + i), H, I1, ⟨t, ?_⟩, ⟨Y, Y⟩, st', λ b hb=>(hf b hb).1⟩⟩;rw [Int.mul_one]
 done:=by intro X hP hw hK hc i pins s σ H E I hf st hg;subst hP hw hK;obtain ⟨f0,f1,f2,f3,f4,f5⟩:=hf it (by simp);exact wpAny_pyNext_range_end (I.ok.hd hc) st (by have:n<=i:=hg; omega) λ h' eb=>⟨Y,I.turned (t':=s.toks) (λ b o hb e=>eb b o hb e) f0 f1 f3 f4 f5⟩
 self:=λ _ _ _ _ _ st h=>wpAny_pyIter_rangeiter st h
section
variable {X:Cx} {tg:Expr}
inductive iListA (K:C1) (R:It->Hp->Prop) (x:V) (H1:Hp):Prop
 | mk (a:Addr) (e_0:x=.ref a) (e_1:(∃xs,SqL K H1 a xs)) (e_2:R (Itl K a) H1):iListA K R x H1
def sV (K:C1) (tl:TE):TI:=λ σ H R=>tl σ H λ x H1=>iListA K R x H1
inductive iTupA (K:C1) (R:It->Hp->Prop) (x:V) (H1:Hp):Prop
 | mk (a:Addr) (e_0:x=.ref a) (e_1:(∃xs,SqT K H1 a xs)) (e_2:R (Itt K a) H1):iTupA K R x H1
def yj (K:C1) (tl:TE):TI:=λ σ H R=>tl σ H λ x H1=>iTupA K R x H1
theorem bP {l:Expr} {tl:TE} (hl:PE X l tl):PI X tg l (sV X.K tl):=by
 intro pins s σ H R I h;refine thn (hl pins s σ H _ I h) λ v s1 ⟨x,H1,I1,r1,q1⟩=>?_;obtain ⟨a,e,⟨xs,hq⟩,q⟩:=q1;subst e;cases r1;obtain ⟨its,rv,p,hz⟩:=I1.list hq;refine wpAny_pyIter_list p.isList ?_;refine ⟨s1.heap.objs.size,[s1.heap.objs.size],_,_,H1,Y,I1.kept (t':=s1.toks) λ b o e=>A4 _ e,mF a _,⟨_,A5 _ rfl,Y,Y⟩,λ b hb=>?_,q⟩;have e:b=s1.heap.objs.size:=by simpa using hb
 subst e;exact I1.fpOk (B0 _) (I1.hok.fresh (B0 _))
theorem tN {l:Expr} {tl:TE} (hl:PE X l tl):PI X tg l (yj X.K tl):=by
 intro pins s σ H R I h;refine thn (hl pins s σ H _ I h) λ v s1 ⟨x,H1,I1,r1,q1⟩=>?_;obtain ⟨a,e,⟨xs,hq⟩,q⟩:=q1;subst e;cases r1;obtain ⟨its,rv,p,hz⟩:=I1.tuple hq;refine wpAny_pyIter_tuple (show s1.heap.IsTuple a its.toArray from p) ?_;refine ⟨s1.heap.objs.size,[s1.heap.objs.size],_,_,H1,Y,I1.kept (t':=s1.toks) λ b o e=>A4 _ e,jI a _,⟨_,A5 _ rfl,Y,Y⟩,λ b hb=>?_,q⟩;have e:b=s1.heap.objs.size:=by simpa using hb
 subst e;exact I1.fpOk (B0 _) (I1.hok.fresh (B0 _))
theorem gg {pins:List (Addr×Obj)} {σ:St} {H:Hp} {s:FB} {R:It->Hp->Prop} {E:FF->FB->Prop} {lo hi:Int} {t u v:Tok} {tk:Nat} (I:Inv X pins σ H s) (h1:-(2 ^ 62)<=lo) (h2:lo < 2 ^ 62) (h3:-(2 ^ 62)<=hi) (h4:hi < 2 ^ 62)
  (q:R (Itr lo (hi - lo).toNat) H):wpAny (model X.prog X.w) X.A (pyIter (.ref s.heap.objs.size)) (PIE X pins σ tg R) E { s with heap:=s.heap.push { cls:=.type "range",data:=.fields #[.int lo t,.int hi u,.int 1 v] },toks:=tk }:=by
 refine wpAny_pyIter_range (IsRange.new ..) (small_one h1 h2 h3 h4) ?_;have I1:Inv X pins σ H { s with heap:=s.heap.push { cls:=.type "range",data:=.fields #[.int lo t,.int hi u,.int 1 v] },toks:=tk }:=I.kept λ b o e=>A4 _ e;refine ⟨(s.heap.push { cls:=.type "range",data:=.fields #[.int lo t,.int hi u,.int 1 v] }).objs.size,[(s.heap.push { cls:=.type "range",data:=.fields #[.int lo t,.int hi u,.int 1 v] }).objs.size],_,_,H,Y,
  I1.kept (t':=tk) λ b o e=>A4 _ e,gf _ lo (hi - lo).toNat,?_,λ b hb=>?_,q⟩
 ·have e1:lo + ((0:Nat):Int) * 1=lo:=by simp
  have e2:(((hi - lo).toNat:Nat):Int) - ((0:Nat):Int)=Builtin.Range.rangeSize lo hi 1:=by rw [rangeSize_one]; split <;> omega
  show IsRangeIter _ _ (lo + ((0:Nat):Int) * 1) ((((hi - lo).toNat:Nat):Int) - ((0:Nat):Int)) 1;rw [e1,e2];exact A5 _ rfl
 ·have e:b=(s.heap.push { cls:=.type "range",data:=.fields #[.int lo t,.int hi u,.int 1 v] }).objs.size:=by simpa using hb
  subst e;exact I1.fpOk (B0 _) (I1.hok.fresh (B0 _))
def yk (ta:TA):TI:=λ σ H R=>ta σ H λ vs H1=>∃j:Int,vs=[.int j]/\-(2 ^ 62)<=j/\j < 2 ^ 62/\R (Itr 0 j.toNat) H1
def ym (ta:TA):TI:=λ σ H R=>ta σ H λ vs H1=>∃i j:Int,vs=[.int i,.int j]/\(-(2 ^ 62)<=i/\i < 2 ^ 62/\-(2 ^ 62)<=j/\j < 2 ^ 62)/\R (Itr i (j - i).toNat) H1
theorem fc {a:Expr} {ta:TA} {p pos:Pos} (hg:Gl X "range") (hm:X.mg "range" = none) (ha:PA X [a] ta) (hs:starEach [a] X.env=[(false,eval a X.env)]:=by rfl):PI X tg (.Call (.Name "range" p) [a] [] pos) (yk ta):=by
 intro pins s σ H R I h;refine Call_ (dZ I hg hm boot_range (PyProof.Rows.callWith_type1 (thn (ha pos pins s σ H _ I h) λ us s1 ⟨vs,H1,I1,r1,q1⟩=>?_) hs rfl));obtain ⟨j,e,q1,q2,q⟩:=q1;subst e;cases r1 with
 | cons r rr =>
  cases rr;obtain ⟨t,rfl⟩:=r;exact call_range_1 (gg I1 ⋯ ⋯ q1 q2 (by simpa using q))
theorem dC {a b:Expr} {ta:TA} {p pos:Pos} (hg:Gl X "range") (hm:X.mg "range" = none) (ha:PA X [a,b] ta) (hs:starEach [a,b] X.env=[(false,eval a X.env),(false,eval b X.env)]:=by rfl) (hs2:starEach [b] X.env=[(false,eval b X.env)]:=by rfl) :
  PI X tg (.Call (.Name "range" p) [a,b] [] pos) (ym ta):=by
 intro pins s σ H R I h;refine Call_ (dZ I hg hm boot_range (PyProof.Rows.callWith_type1 (thn (ha pos pins s σ H _ I h) λ us s1 ⟨vs,H1,I1,r1,q1⟩=>?_) (by rw [hs,hs2]) (by rw [hs2]; rfl)));obtain ⟨i,j,e,⟨q1,q2,q3,q4⟩,q⟩:=q1;subst e;cases r1 with
 | cons r rr =>
  cases rr with
  | cons r' rr =>
   cases rr;obtain ⟨t,rfl⟩:=r;obtain ⟨t',rfl⟩:=r';exact call_range_2 (gg I1 q1 q2 q3 q4 q)
def yn (wi:TI) (g:TG) (tb:TS):TS:=λ D σ H=>wi σ H λ J H1=>∃W:Nat->Nat->St->Hp->Prop,(∃m,W 0 m σ H1)/\∀i m σ H,W i m σ H ->
 (J.stop i H/\D.nx σ H)\/(J.go i H/\∃N:St->Hp->Prop,(∀σ' H',N σ' H'->∃m',m' < m/\W (i + 1) m' σ' H')/\∀x H',J.yld i H x H'->g x σ H' λ σ2 H2=>tb { D with nx:=N,ct:=N,bk:=D.nx } σ2 H2)
def gh (fp:List Addr) (h:Heap):List (Addr×Obj):=fp.filterMap λ b=>(h.get? b).map λ o=>(b,o)
theorem aM {fp:List Addr} {h:Heap} {b:Addr} {o:Obj} (hb:b∈fp) (e:h.get? b=some o):(b,o)∈gh fp h:=List.mem_filterMap.mpr ⟨b,hb,by rw [e]; rfl⟩
theorem gY {fp:List Addr} {h:Heap} {p:Addr×Obj} (hp:p∈gh fp h):p.1∈fp/\h.get? p.1=some p.2:=by
 obtain ⟨b,hb,e⟩:=List.mem_filterMap.mp hp;cases q:h.get? b with
 | none=>rw [q] at e; cases e
 | some o =>
  rw [q] at e;have e':(b,o)=p:=B5 e;subst e';exact ⟨hb,q⟩
theorem Inv.pinned {pins:List (Addr×Obj)} {σ:St} {H:Hp} {s:FB} {fp:List Addr} (I:Inv X pins σ H s) (hf:∀b∈fp,dP X pins H b) (ho:∀b∈fp,∃o,s.heap.get? b=some o/\∀v,o.data≠.cell v):Inv X (pins ++ gh fp s.heap) σ H s :=
 I.pins_of λ p hp=>(B9.mp hp).elim (λ z=>I.pin p (A2 _ z)) λ z=>by obtain ⟨hb,e⟩:=gY z;obtain ⟨f0,f1,f2,_⟩:=hf p.1 hb;obtain ⟨o,e',d⟩:=ho p.1 hb;rw [e] at e'; cases e';exact ⟨e,f0,f1,f2,d⟩
theorem Inv.unpinned {pins pl:List (Addr×Obj)} {σ:St} {H:Hp} {s:FB} (I:Inv X (pins ++ pl) σ H s):Inv X pins σ H s:=I.pins_of λ p hp=>I.pin p (A2 _ (B3 _ hp))
theorem bX {iter:Expr} {body:List Stmt} {wi:TI} {g:TG} {tb:TS} {pos:Pos} (hp:PassesOwn (model X.prog X.w) X.A X.env X.xe) (hc:X.calm=true) (hi:PI X tg iter wi) (hg:PG X tg g) (hb:PSs X body tb)
  (hs:∀x,foldedSetIterable iter X.env x=pure x:=by intro _; rfl):PS X (.For tg iter body [] pos) (yn wi g tb):=by
 intro pins s σ H D I h;refine wpAny_For (thn (hi pins s σ H _ I h) λ v s1 h1=>thn h1 λ itv s2 h2=>?_) hs;obtain ⟨it,fp,tn,J,H2,e,I2,T,st2,f2,W,⟨m0,w0⟩,turn⟩:=h2;subst e;have stat:∀ {H':Hp},(∀b∈fp,H' b=none)->∀b∈fp,dP X pins H' b:=λ hn b hb=>⟨hn b hb,(f2 b hb).2⟩
 refine codeAny_forLoop_any (λ n s'=>∃i σ' H',Inv X pins σ' H' s'/\tn i s'.heap/\(∀b∈fp,H' b=none)/\W i n σ' H') ?_ m0 ⟨0,σ,H2,I2,st2,λ b hb=>(f2 b hb).1,w0⟩;rintro n s3 ⟨i,σ3,H3,I3,st3,fr3,w3⟩;rcases turn i n σ3 H3 w3 with ⟨stop,qn⟩ | ⟨go,N,hN,step⟩
 ·refine wpAny_passesOwn hp (thn (T.done X rfl rfl rfl hc i pins s3 σ3 H3 X.xe I3 (stat fr3) st3 stop) λ r s4 ⟨hr,I4⟩=>?_);subst hr;exact wpAny_execs_nil ⟨σ3,H3,I4,qn⟩
 ·refine wpAny_passesOwn hp (thn (T.item X rfl rfl rfl hc i pins s3 σ3 H3 X.xe I3 (stat fr3) st3 go) λ r s4 ⟨u,hr,h4⟩=>?_);subst hr;refine wpAny_passesOwn hp (thn h4 λ _ s5 ⟨x,H5,I5,r5,y5,st5,fr5⟩=>?_);have I5':=I5.pinned (stat fr5) (T.obj _ _ st5);refine wpAny_passesOwn hp (thn (hg _ s5 σ3 H5 x u _ I5' r5 (step x H5 y5)) λ _ s6 ⟨σ6,H6,I6,q6⟩=>?_);refine wpAny_passesOwn hp (thn (hb _ s6 σ6 H6 _ I6 q6) λ f s7 q7=>?_);have again:∀ {σ7:St} {H7:Hp},Inv X (pins ++ gh fp s5.heap) σ7 H7 s7->N σ7 H7->∃m,m < n/\∃i σ' H',Inv X pins σ' H' s7/\tn i s7.heap/\(∀b∈fp,H' b=none)/\W i m σ' H':=λ {σ7 H7} I7 n7=>by obtain ⟨m',hm,w7⟩:=hN σ7 H7 n7;refine ⟨m',hm,i + 1,σ7,H7,I7.unpinned,T.keep _ _ _ st5 λ b hb o e=>(I7.pin (b,o) (A2 _ (A2 _ (aM hb e)))).1,λ b hb=>?_,w7⟩;obtain ⟨o,e,d⟩:=T.obj _ _ st5 b hb;exact (I7.pin (b,o) (A2 _ (A2 _ (aM hb e)))).2.1
  cases f with
  | next=>obtain ⟨σ7,H7,I7,n7⟩:=q7; exact again I7 n7
  | cont=>obtain ⟨σ7,H7,I7,n7⟩:=q7; exact again I7 n7
  | brk=>obtain ⟨σ7,H7,I7,q7⟩:=q7; exact ⟨σ7,H7,I7.unpinned,q7⟩
  | ret v=>obtain ⟨x7,σ7,H7,I7,r7,q7⟩:=q7; exact ⟨x7,σ7,H7,I7.unpinned,r7,q7⟩
end
theorem bY {K:C1} {a:Addr} {xs:List V} {g:TG} {tb:TS} {D:Ends} {σ:St} {H:Hp} (Pv:Nat->St->Hp->Prop) (h0:Pv 0 σ H) (hl:∀i σ H,i<=xs.length->Pv i σ H->SqL K H a xs)
  (hs:∀i x σ H,xs[i]? = some x->Pv i σ H->g x σ H λ σ2 H2=>tb { D with nx:=Pv (i + 1),ct:=Pv (i + 1),bk:=D.nx } σ2 H2) (hd:∀σ H,Pv xs.length σ H->D.nx σ H) :
  ∃W:Nat->Nat->St->Hp->Prop,(∃m,W 0 m σ H)/\∀i m σ H,W i m σ H ->
   ((Itl K a).stop i H/\D.nx σ H)\/((Itl K a).go i H/\∃N:St->Hp->Prop,(∀σ' H',N σ' H'->∃m',m' < m/\W (i + 1) m' σ' H')/\∀x H',(Itl K a).yld i H x H'->g x σ H' λ σ2 H2=>tb { D with nx:=N,ct:=N,bk:=D.nx } σ2 H2):=by
 refine ⟨λ i m σ H=>m=xs.length - i/\i<=xs.length/\Pv i σ H,⟨xs.length,by simp,E2 _,h0⟩,?_⟩;rintro i m σ H ⟨rfl,hi,p⟩;have q:=hl i σ H hi p
 by_cases hlt:i < xs.length
 ·refine .inr ⟨⟨xs,xs[i],q,by simp [hlt]⟩,Pv (i + 1),λ σ' H' p'=>⟨xs.length - (i + 1),⋯,Y,hlt,p'⟩,λ x H' y=>?_⟩;obtain ⟨e,y⟩:=y;subst e;exact hs i x σ _ (y xs q) p
 ·have e:i=xs.length:=⋯
  subst e;exact .inl ⟨⟨xs,q,B0 _⟩,hd σ H p⟩
theorem qN {K:C1} {a:Addr} {xs:List V} {g:TG} {tb:TS} {D:Ends} {σ:St} {H:Hp} (Pv:Nat->St->Hp->Prop) (h0:Pv 0 σ H) (hl:∀i σ H,i<=xs.length->Pv i σ H->SqT K H a xs)
  (hs:∀i x σ H,xs[i]? = some x->Pv i σ H->g x σ H λ σ2 H2=>tb { D with nx:=Pv (i + 1),ct:=Pv (i + 1),bk:=D.nx } σ2 H2) (hd:∀σ H,Pv xs.length σ H->D.nx σ H) :
  ∃W:Nat->Nat->St->Hp->Prop,(∃m,W 0 m σ H)/\∀i m σ H,W i m σ H ->
   ((Itt K a).stop i H/\D.nx σ H)\/((Itt K a).go i H/\∃N:St->Hp->Prop,(∀σ' H',N σ' H'->∃m',m' < m/\W (i + 1) m' σ' H')/\∀x H',(Itt K a).yld i H x H'->g x σ H' λ σ2 H2=>tb { D with nx:=N,ct:=N,bk:=D.nx } σ2 H2):=by
 refine ⟨λ i m σ H=>m=xs.length - i/\i<=xs.length/\Pv i σ H,⟨xs.length,by simp,E2 _,h0⟩,?_⟩;rintro i m σ H ⟨rfl,hi,p⟩;have q:=hl i σ H hi p
 by_cases hlt:i < xs.length
 ·refine .inr ⟨⟨xs,xs[i],q,by simp [hlt]⟩,Pv (i + 1),λ σ' H' p'=>⟨xs.length - (i + 1),⋯,Y,hlt,p'⟩,λ x H' y=>?_⟩;obtain ⟨e,y⟩:=y;subst e;exact hs i x σ _ (y xs q) p
 ·have e:i=xs.length:=⋯
  subst e;exact .inl ⟨⟨xs,q,B0 _⟩,hd σ H p⟩
theorem dD {lo:Int} {n:Nat} {g:TG} {tb:TS} {D:Ends} {σ:St} {H:Hp} (Pv:Nat->St->Hp->Prop) (h0:Pv 0 σ H)
  (hs:∀i σ H,i < n->Pv i σ H->g (.int (lo + i)) σ H λ σ2 H2=>tb { D with nx:=Pv (i + 1),ct:=Pv (i + 1),bk:=D.nx } σ2 H2) (hd:∀σ H,Pv n σ H->D.nx σ H) :
  ∃W:Nat->Nat->St->Hp->Prop,(∃m,W 0 m σ H)/\∀i m σ H,W i m σ H ->
   ((Itr lo n).stop i H/\D.nx σ H)\/((Itr lo n).go i H/\∃N:St->Hp->Prop,(∀σ' H',N σ' H'->∃m',m' < m/\W (i + 1) m' σ' H')/\∀x H',(Itr lo n).yld i H x H'->g x σ H' λ σ2 H2=>tb { D with nx:=N,ct:=N,bk:=D.nx } σ2 H2):=by
 refine ⟨λ i m σ H=>m=n - i/\i<=n/\Pv i σ H,⟨n,by simp,E2 _,h0⟩,?_⟩;rintro i m σ H ⟨rfl,hi,p⟩
 by_cases hlt:i < n
 ·refine .inr ⟨hlt,Pv (i + 1),λ σ' H' p'=>⟨n - (i + 1),⋯,Y,hlt,p'⟩,λ x H' y=>?_⟩;obtain ⟨e,y⟩:=y;subst e y;exact hs i σ _ hlt p
 ·have e:i=n:=⋯
  subst e;exact .inl ⟨B0 _,hd σ H p⟩
abbrev R2:=V->V->Hp->VK->Prop
def OpR (X:Cx) (f:FF->FF->Sem FF) (r:R2):Prop :=
 ∀ (pins:List (Addr×Obj)) (s:FB) (σ:St) (H:Hp) (x y:V) (v u:FF) (Q:VK),Inv X pins σ H s->RelV x v->RelV y u->r x y H Q ->
  wpAny (model X.prog X.w) X.A (f v u) (EP X pins σ Q) X.xe s
def UnR (X:Cx) (f:FF->Sem FF) (r:V->Hp->VK->Prop):Prop :=
 ∀ (pins:List (Addr×Obj)) (s:FB) (σ:St) (H:Hp) (x:V) (v:FF) (Q:VK),Inv X pins σ H s->RelV x v->r x H Q ->
  wpAny (model X.prog X.w) X.A (f v) (EP X pins σ Q) X.xe s
def ce (X:Cx) (f:FF) (r:List V->Hp->VK->Prop):Prop :=
 ∀ (pins:List (Addr×Obj)) (s:FB) (σ:St) (H:Hp) (xs:List V) (us:List FF) (Q:VK),Inv X pins σ H s->Vals xs us->r xs H Q ->
  wpAny (model X.prog X.w) X.A (call f us) (EP X pins σ Q) X.xe s
def tOp (r:R2) (ta tb:TE):TE:=λ σ H Q=>ta σ H λ x H1=>tb σ H1 λ y H2=>r x y H2 Q
def tUn (r:V->Hp->VK->Prop) (ta:TE):TE:=λ σ H Q=>ta σ H λ x H1=>r x H1 Q
inductive rI (C:Int->Int->Prop) (g:Int->Int->V) (x:V) (y:V) (H:Hp) (Q:VK):Prop
 | mk (i:Int) (j:Int) (e_0:x=.int i) (e_1:y=.int j) (e_2:C i j) (e_3:Q (g i j) H):rI C g x y H Q
inductive rI0 (g:Int->Int->V) (x:V) (y:V) (H:Hp) (Q:VK):Prop
 | mk (i:Int) (j:Int) (e_0:x=.int i) (e_1:y=.int j) (e_2:Q (g i j) H):rI0 g x y H Q
def rU (g:Int->V):V->Hp->VK->Prop:=λ x H Q=>∃i,x=.int i/\Q (g i) H
section
variable {X:Cx} {a b c:Expr} {ta tb tc:TE} {pos:Pos}
theorem tO (ha:PE X a ta) (hb:PE X b tb) {pins:List (Addr×Obj)} {s:FB} {σ:St} {H:Hp} {R:V->V->Hp->Prop} (I:Inv X pins σ H s)
  (h:ta σ H λ x H1=>tb σ H1 λ y H2=>R x y H2) {Q:FF->FB->Prop} {f:FF->FF->Sem FF}
  (hf:∀v u s2 x y H2,Inv X pins σ H2 s2->RelV x v->RelV y u->R x y H2->wpAny (model X.prog X.w) X.A (f v u) Q X.xe s2) :
  wpAny (model X.prog X.w) X.A (eval a X.env) (λ v s₁=>wpAny (model X.prog X.w) X.A (eval b X.env) (λ u s₂=>wpAny (model X.prog X.w) X.A (f v u) Q X.xe s₂) X.xe s₁) X.xe s:=by
 refine thn (ha pins s σ H _ I h) λ v s1 ⟨x,H1,I1,r1,q1⟩=>?_;refine thn (hb pins s1 σ H1 _ I1 q1) λ u s2 ⟨y,H2,I2,r2,q2⟩=>?_;exact hf v u s2 x y H2 I2 r1 r2 q2
theorem aB {op:Operator} {r:R2} (ho:OpR X (binaryOp op) r) (ha:PE X a ta) (hb:PE X b tb):PE X (.BinOp a op b pos) (tOp r ta tb):=by intro pins s σ H Q I h;exact wpAny_BinOp (tO ha hb I h λ v u s2 x y H2 I2 rx ry q=>ho pins s2 σ H2 x y v u Q I2 rx ry q)
theorem ow {op:UnaryOp} {r:V->Hp->VK->Prop} (ho:UnR X (unaryOp op) r) (ha:PE X a ta):PE X (.UnaryOp op a pos) (tUn r ta):=by intro pins s σ H Q I h;exact UnaryOp_ (thn (ha pins s σ H _ I h) λ v s1 ⟨x,H1,I1,r1,q1⟩=>ho pins s1 σ H1 x v Q I1 r1 q1)
theorem opI {f:FF->FF->Sem FF} {C:Int->Int->Prop} {g:Int->Int->Int}
  (rule:∀ (i j:Int) (t u:Tok) (s:FB) (Q:FF->FB->Prop) (E:FF->FB->Prop),C i j->Q (.int (g i j) s.toks) { s with toks:=s.toks + 1 }->wpAny (model X.prog X.w) X.A (f (.int i t) (.int j u)) Q E s) :
  OpR X f (rI C λ i j=>.int (g i j)):=by
 intro pins s σ H x y v u Q I rx ry h;obtain ⟨i,j,rfl,rfl,hc,q⟩:=h;obtain ⟨t,rfl⟩:=rx;obtain ⟨t',rfl⟩:=ry;exact rule i j t t' s _ _ hc ⟨.int (g i j),H,I.tok _,⟨_,rfl⟩,q⟩
theorem yo {f:FF->FF->Sem FF} {g:Int->Int->Int}
  (rule:∀ (i j:Int) (t u:Tok) (s:FB) (Q:FF->FB->Prop) (E:FF->FB->Prop),Q (.int (g i j) s.toks) { s with toks:=s.toks + 1 }->wpAny (model X.prog X.w) X.A (f (.int i t) (.int j u)) Q E s) :
  OpR X f (rI0 λ i j=>.int (g i j)):=by
 intro pins s σ H x y v u Q I rx ry h;obtain ⟨i,j,rfl,rfl,q⟩:=h;obtain ⟨t,rfl⟩:=rx;obtain ⟨t',rfl⟩:=ry;exact rule i j t t' s _ _ ⟨.int (g i j),H,I.tok _,⟨_,rfl⟩,q⟩
theorem qO {f:FF->FF->Sem FF} {g:Int->Int->Bool}
  (rule:∀ (i j:Int) (t u:Tok) (s:FB) (Q:FF->FB->Prop) (E:FF->FB->Prop),Q (.bool (g i j)) s->wpAny (model X.prog X.w) X.A (f (.int i t) (.int j u)) Q E s) :
  OpR X f (rI0 λ i j=>.bl (g i j)):=by
 intro pins s σ H x y v u Q I rx ry h;obtain ⟨i,j,rfl,rfl,q⟩:=h;obtain ⟨t,rfl⟩:=rx;obtain ⟨t',rfl⟩:=ry;exact rule i j t t' s _ _ ⟨.bl (g i j),H,I,rfl,q⟩
def CJ (i j:Int):Prop:=0<=j/\j<=1000000/\i.natAbs < 2 ^ 64
def CMul (i j:Int):Prop:=(-(2 ^ 64) < i/\i < 2 ^ 64)\/(-(2 ^ 64) < j/\j < 2 ^ 64)
theorem CMul.ok {i j:Int} (h:CMul i j):IntMulOk i j:=by
 rcases h with ⟨h1,h2⟩ | ⟨h1,h2⟩
 ·exact .of_left (intBits_le_64 h1 h2)
 ·exact .of_right (intBits_le_64 h1 h2)
theorem bh:OpR X (binaryOp .Add) (rI0 λ i j=>.int (i + j)):=yo λ _ _ _ _ _ _ _ q=>add_int q
theorem cR:OpR X (binaryOp .Sub) (rI0 λ i j=>.int (i - j)):=yo λ _ _ _ _ _ _ _ q=>sub_int q
theorem cS:OpR X (binaryOp .Mult) (rI CMul λ i j=>.int (i * j)):=opI λ _ _ _ _ _ _ _ hc q=>mul_int q hc.ok
theorem fe:OpR X (binaryOp .Mod) (rI (λ _ j=>0 < j) λ i j=>.int (i % j)):=opI λ i j _ _ _ _ _ hc q=>by have h1:(0:Int) < j:=hc;exact mod_int' ⋯ (by rw [Int.fmod_eq_emod_of_nonneg i ⋯]; exact q)
theorem gi:OpR X (binaryOp .Pow) (rI CJ λ i j=>.int (i ^ j.toNat)):=opI λ _ _ _ _ _ _ _ hc q=>pow_int_small hc.1 hc.2.1 hc.2.2 q
theorem unI {f:FF->Sem FF} {g:Int->Int}
  (rule:∀ (i:Int) (t:Tok) (s:FB) (Q:FF->FB->Prop) (E:FF->FB->Prop),Q (.int (g i) s.toks) { s with toks:=s.toks + 1 }->wpAny (model X.prog X.w) X.A (f (.int i t)) Q E s) :
  UnR X f (rU λ i=>.int (g i)):=by
 intro pins s σ H x v Q I rx h;obtain ⟨i,rfl,q⟩:=h;obtain ⟨t,rfl⟩:=rx;exact rule i t s _ _ ⟨.int (g i),H,I.tok _,⟨_,rfl⟩,q⟩
theorem jJ:UnR X (unaryOp .USub) (rU λ i=>.int (-i)):=unI λ _ _ _ _ _ q=>neg_int q
end
def yp:V->V->Bool
 | .non,.non=>true | .non,.int _=>true | .int _,.non=>true | .non,.bl _=>true | .bl _,.non=>true | .non,.str _=>true | .str _,.non=>true
 | .int _,.int _=>true | .bl _,.bl _=>true | .str _,.str _=>true | .byt _,.byt _=>true
 | .int _,.str _=>true | .str _,.int _=>true | .bl _,.str _=>true | .str _,.bl _=>true
 | _,_=>false
def rEq:R2:=λ x y H Q=>yp x y=true/\Q (.bl (decide (x=y))) H
def rNe:R2:=λ x y H Q=>yp x y=true/\Q (.bl (!decide (x=y))) H
theorem io {i j:Int}:decide (V.int i=V.int j)=(i == j):=by rw [Bool.eq_iff_iff];simp
theorem ox {i j:Bool}:decide (V.bl i=V.bl j)=(i == j):=by rw [Bool.eq_iff_iff];simp
theorem lH {i j:Str}:decide (V.str i=V.str j)=(i == j):=by rw [Bool.eq_iff_iff];simp
theorem lI {i j:Array UInt8}:decide (V.byt i=V.byt j)=(i.toList == j.toList):=by rw [Bool.eq_iff_iff];cases i;cases j;simp
section
variable {X:Cx} {a b c:Expr} {ta tb tc:TE} {pos:Pos}
theorem aL {pins:List (Addr×Obj)} {σ:St} {H:Hp} {s:FB} {Q:VK} {k k':Bool} (I:Inv X pins σ H s) (q:Q (.bl k) H) (e:k=k'):EP X pins σ Q (.bool k') s:=by subst e;exact ⟨.bl k,H,I,Y,q⟩
theorem cJ:OpR X (compareOp .Eq) rEq:=by
 intro pins s σ H x y v u Q I rx ry h;obtain ⟨hs,q⟩:=h;cases x with
 | non =>
  cases rx;cases y with
  | non=>cases ry; exact PySem.EqNone.eq_none_none (aL I q (by simp))
  | bl j=>cases ry; exact PySem.EqNone.eq_none_bool (aL I q (by simp))
  | int j=>obtain ⟨t',rfl⟩:=ry; exact PySem.EqNone.eq_none_int (aL I q (by simp))
  | str j=>obtain ⟨t',rfl⟩:=ry; exact PySem.EqNone.eq_none_str (aL I q (by simp))
  | _=>exact absurd (show false=true from hs) A9
 | bl i =>
  cases rx;cases y with
  | non=>cases ry; exact PySem.EqNone.eq_bool_none (aL I q (by simp))
  | bl j=>cases ry; exact eq_bool (aL I q ox)
  | str j=>obtain ⟨t',rfl⟩:=ry; exact PySem.EqMixed.eq_bool_str (aL I q (by simp))
  | _=>exact absurd (show false=true from hs) A9
 | int i =>
  obtain ⟨t,rfl⟩:=rx;cases y with
  | non=>cases ry; exact PySem.EqNone.eq_int_none (aL I q (by simp))
  | int j=>obtain ⟨t',rfl⟩:=ry; exact eq_int (aL I q io)
  | str j=>obtain ⟨t',rfl⟩:=ry; exact PySem.EqMixed.eq_int_str (aL I q (by simp))
  | _=>exact absurd (show false=true from hs) A9
 | str i =>
  obtain ⟨t,rfl⟩:=rx;cases y with
  | non=>cases ry; exact PySem.EqNone.eq_str_none (aL I q (by simp))
  | bl j=>cases ry; exact PySem.EqMixed.eq_str_bool (aL I q (by simp))
  | int j=>obtain ⟨t',rfl⟩:=ry; exact PySem.EqMixed.eq_str_int (aL I q (by simp))
  | str j=>obtain ⟨t',rfl⟩:=ry; exact eq_str (aL I q lH)
  | _=>exact absurd (show false=true from hs) A9
 | byt i =>
  obtain ⟨t,rfl⟩:=rx;cases y with
  | byt j=>obtain ⟨t',rfl⟩:=ry; exact PySem.W.eq_bytes (aL I q lI)
  | _=>exact absurd (show false=true from hs) A9
 | _=>cases y <;> exact absurd (show false=true from hs) A9
theorem fF:OpR X (compareOp .NotEq) rNe:=by
 intro pins s σ H x y v u Q I rx ry h;obtain ⟨hs,q⟩:=h;cases x with
 | non =>
  cases rx;cases y with
  | non=>cases ry; exact PySem.EqNone.ne_none_none (aL I q (by simp))
  | bl j=>cases ry; exact PySem.EqNone.ne_none_bool (aL I q (by simp))
  | int j=>obtain ⟨t',rfl⟩:=ry; exact PySem.EqNone.ne_none_int (aL I q (by simp))
  | str j=>obtain ⟨t',rfl⟩:=ry; exact PySem.EqNone.ne_none_str (aL I q (by simp))
  | _=>exact absurd (show false=true from hs) A9
 | bl i =>
  cases rx;cases y with
  | non=>cases ry; exact PySem.EqNone.ne_bool_none (aL I q (by simp))
  | bl j=>cases ry; exact ne_bool (aL I q (congrArg not ox))
  | str j=>obtain ⟨t',rfl⟩:=ry; exact PySem.EqMixed.ne_bool_str (aL I q (by simp))
  | _=>exact absurd (show false=true from hs) A9
 | int i =>
  obtain ⟨t,rfl⟩:=rx;cases y with
  | non=>cases ry; exact PySem.EqNone.ne_int_none (aL I q (by simp))
  | int j=>obtain ⟨t',rfl⟩:=ry; exact ne_int (aL I q (congrArg not io))
  | str j=>obtain ⟨t',rfl⟩:=ry; exact PySem.EqMixed.ne_int_str (aL I q (by simp))
  | _=>exact absurd (show false=true from hs) A9
 | str i =>
  obtain ⟨t,rfl⟩:=rx;cases y with
  | non=>cases ry; exact PySem.EqNone.ne_str_none (aL I q (by simp))
  | bl j=>cases ry; exact PySem.EqMixed.ne_str_bool (aL I q (by simp))
  | int j=>obtain ⟨t',rfl⟩:=ry; exact PySem.EqMixed.ne_str_int (aL I q (by simp))
  | str j=>obtain ⟨t',rfl⟩:=ry; exact ne_str (aL I q (congrArg not lH))
  | _=>exact absurd (show false=true from hs) A9
 | byt i =>
  obtain ⟨t,rfl⟩:=rx;cases y with
  | byt j=>obtain ⟨t',rfl⟩:=ry; exact PySem.W.ne_bytes (aL I q (congrArg not lI))
  | _=>exact absurd (show false=true from hs) A9
 | _=>cases y <;> exact absurd (show false=true from hs) A9
theorem yq:OpR X (compareOp .Lt) (rI0 λ i j=>.bl (decide (i < j))):=qO λ _ _ _ _ _ _ _ q=>lt_int q
theorem fG:OpR X (compareOp .LtE) (rI0 λ i j=>.bl (decide (i<=j))):=qO λ _ _ _ _ _ _ _ q=>le_int q
theorem dQ:OpR X (compareOp .Gt) (rI0 λ i j=>.bl (decide (j < i))):=qO λ _ _ _ _ _ _ _ q=>gt_int q
theorem sW:OpR X (compareOp .GtE) (rI0 λ i j=>.bl (decide (j<=i))):=qO λ _ _ _ _ _ _ _ q=>ge_int q
theorem aw (b:Expr) {op:CmpOp} (h:op≠.In:=by decide) (h2:op≠.NotIn:=by decide):behindInMarks op b=false:=by
 have e1:(op == CmpOp.In)=false:=by cases op <;> first | rfl | exact absurd rfl h
 have e2:(op == CmpOp.NotIn)=false:=by cases op <;> first | rfl | exact absurd rfl h2
 cases b <;> simp [behindInMarks,e1,e2]
theorem bJ {op:CmpOp} {r:R2} (ho:OpR X (compareOp op) r) (ha:PE X a ta) (hb:PE X b tb) (hm:behindInMarks op b=false):PE X (.Compare a [op] [b] pos) (tOp r ta tb):=by intro pins s σ H Q I h;exact wpAny_Compare1 (tO ha hb I h λ v u s2 x y H2 I2 rx ry q=>ho pins s2 σ H2 x y v u Q I2 rx ry q) hm
def sX (t:TE):TT:=λ σ H Q=>t σ H λ x H'=>IsB x λ k=>Q k H'
theorem az {op:CmpOp} {r:R2} (ho:OpR X (compareOp op) r) (ha:PE X a ta) (hb:PE X b tb) (hm:behindInMarks op b=false):PT X (.Compare a [op] [b] pos) (sX (tOp r ta tb)):=by
 intro pins s σ H Q I h;refine wpAny_isTrue_Compare1 (thn (ha pins s σ H _ I h) λ v s1 ⟨x,H1,I1,r1,q1⟩=>thn (hb pins s1 σ H1 _ I1 q1) λ u s2 ⟨y,H2,I2,r2,q2⟩ =>
  thn (ho pins s2 σ H2 x y v u _ I2 r1 r2 q2) λ c s3 ⟨z,H3,I3,r3,k,e,q3⟩=>?_) hm
 subst e;cases r3;exact E6 ⟨H3,I3,q3⟩
def tP (r r':R2) (ta tb tc:TE):TE:=λ σ H Q=>ta σ H λ x H1=>tb σ H1 λ y H2=>r x y H2 λ z H3=>∃k,z=.bl k /\
 (if k=true then tc σ H3 λ w' H4=>r' y w' H4 Q else Q (.bl false) H3)
theorem oy {op op':CmpOp} {r r':R2} (ho:OpR X (compareOp op) r) (ho':OpR X (compareOp op') r') (ha:PE X a ta) (hb:PE X b tb) (hc:PE X c tc)
  (hm:lastMarks [op,op'] [b,c]=false:=by with_unfolding_all rfl):PT X (.Compare a [op,op'] [b,c] pos) (sX (tP r r' ta tb tc)):=by
 intro pins s σ H Q I h;refine isTrue_chain (thn (ha pins s σ H _ I h) λ v s1 ⟨x,H1,I1,r1,q1⟩=>test_link (thn (hb pins s1 σ H1 _ I1 q1) λ u s2 ⟨y,H2,I2,r2,q2⟩ =>
  thn (ho pins s2 σ H2 x y v u _ I2 r1 r2 q2) λ d s3 ⟨z,H3,I3,r3,k,e,q3⟩=>?_)) hm
 subst e;cases r3;refine E6 ?_;cases k with
 | false =>
  obtain ⟨k',e',q'⟩:=q3;cases e';exact ite_ff ⟨H3,I3,q'⟩
 | true =>
  refine ite_tt (test_last (thn (hc pins s3 σ H3 _ I3 q3) λ w' s4 ⟨z',H4,I4,r4,q4⟩=>thn (ho' pins s4 σ H4 y z' u w' _ I4 r2 r4 q4) λ d' s5 ⟨z2,H5,I5,r5,k2,e2,q5⟩=>?_));subst e2;cases r5;exact E6 ⟨H5,I5,q5⟩
theorem ip:(sizeLine:Nat) < 2 ^ 63:=by rw [sizeLine_eq]; decide
theorem dh {x:V} {us:List FF} (r:Vals [x] us):∃u,us=[u]/\RelV x u:=by
 cases r with
 | cons r1 r2=>cases r2; exact ⟨_,Y,r1⟩
theorem yr {x y:V} {us:List FF} (r:Vals [x,y] us):∃u w',us=[u,w']/\RelV x u/\RelV y w':=by
 cases r with
 | cons r1 r2 =>
  cases r2 with
  | cons r3 r4=>cases r4; exact ⟨_,_,Y,r1,r3⟩
theorem oz:ce X (.builtin "abs") (λ xs H Q=>∃i,xs=[.int i]/\Q (.int (if i < 0 then -i else i)) H):=by intro pins s σ H xs us Q I r h;obtain ⟨i,rfl,q⟩:=h;obtain ⟨u,rfl,t,rfl⟩:=dh r;exact call_abs_int λ u tk=>⟨.int (if i < 0 then -i else i),H,I.tok _,⟨_,Y⟩,q⟩
theorem mG (hc:X.calm=true):ce X (.builtin "max") (λ xs H Q=>∃i j,xs=[.int i,.int j]/\Q (.int (if j > i then j else i)) H):=by
 intro pins s σ H xs us Q I r h;obtain ⟨i,j,rfl,q⟩:=h;obtain ⟨u,w',rfl,⟨t,rfl⟩,⟨t',rfl⟩⟩:=yr r;refine max_two_ints (I.ok.hd hc) λ h' tk k=>⟨_,H,I.kept k,?_,q⟩
 by_cases hj:j > i
 ·rw [if_pos hj,if_pos hj]; exact ⟨_,Y⟩
 ·rw [if_neg hj,if_neg hj]; exact ⟨_,Y⟩
theorem mH:ce X (.type "int") (λ xs H Q=>(∃i,xs=[.int i]/\Q (.int i) H)\/∃k,xs=[.bl k]/\Q (.int (if k then 1 else 0)) H):=by
 intro pins s σ H xs us Q I r h;rcases h with ⟨i,rfl,q⟩ | ⟨k,rfl,q⟩
 ·obtain ⟨u,rfl,t,rfl⟩:=dh r;exact call_int_int ⟨.int i,H,I,⟨_,rfl⟩,q⟩
 ·obtain ⟨u,rfl,r1⟩:=dh r;cases r1;exact call_int_bool ⟨.int (if k then 1 else 0),H,I.tok _,⟨_,rfl⟩,q⟩
end
structure ObjM (h:Heap) (x dx C:Addr) (mA:Str->Option Value):Prop where
 obj:h.get? x=some (PySem.W.instObj C dx)
 ns:h.Ns1 dx mA
 ne:dx≠x
theorem mI {h:Heap} {dx:Addr} {mA:Str->Option FF} (n:h.Ns1 dx mA):∃od,h.get? dx=some od/\∀name,PySem.W.lookIn name od=some (mA name):=by
 obtain ⟨o,es,ep,ho,hd,hk,_,hm⟩:=n;refine ⟨o,ho,λ name=>?_⟩;have e:=hm name;unfold nsFind findBy at e;rw [<- Array.find?_toList] at e;unfold PySem.W.lookIn;rw [hd];dsimp only
 split
 ·rename_i y q
  rw [q] at e;exact congrArg some e
 ·rename_i q
  rw [q] at e;have a:es.toList.any (·.refKey)=false:=by rw [List.any_eq_false];intro y hy;obtain ⟨z,t,hkey⟩:=hk y (Array.mem_toList_iff.mp hy);simp [DictEntry.refKey,hkey]
  have a':¬ es.toList.any (·.refKey)=true:=by rw [a]; exact A9
  rw [if_neg a'];exact congrArg some e
theorem ObjM.look {h:Heap} {x dx C:Addr} {mA:Str->Option FF} (I:ObjM h x dx C mA):∃od,PySem.W.InstAt h x (PySem.W.instObj C dx) C (some od)/\∀name,PySem.W.lookIn name od=some (mA name) :=
 let ⟨od,ho,hl⟩:=mI I.ns
 ⟨od,⟨I.obj,rfl,rfl,ho⟩,hl⟩
section
variable {prog:FC} {w:FE} {A:Around} {E:FF->FB->Prop} {s:FB} {K:C1} {x dx C f:Addr} {mA:Str->Option FF} {name:Str} {v:FF}
theorem qQ {expr:Bool} {Q:FF->FB->Prop} (X:K.In s.heap) (I:ObjM s.heap x dx C mA) (hg:PySem.W.plainGet K C name=true) (hh:PySem.W.hasDictIn K C=true)
  (ha:PySem.W.findIn K (.ref C) name=some none) (hv:mA name=some v) (hv':PySem.W.handedIn v=true) (h:Q v { s with toks:=s.toks + 1 }) :
  wpAny (model prog w) A (getAttr (.ref x) name expr) Q E s:=by
 obtain ⟨od,J,hl⟩:=I.look;exact PySem.W.get_value X J (PySem.W.plainGet_of hg).1 (PySem.W.findObj_own hh ha rfl (by rw [hl,hv])) hv' h
theorem oA {pl:Sem Bool} {Q:FF×List FF->FB->Prop} (X:K.In s.heap) (I:ObjM s.heap x dx C mA) (hg:PySem.W.plainGet K C name=true)
  (hf:PySem.W.findIn K (.ref C) name=some (↑f)) (ht:PySem.W.isFn K (.ref f)=true) (hv:mA name=none) (h:Q (.ref f,[.ref x]) s) :
  wpAny (model prog w) A (getMethod (.ref x) name pl) Q E s:=by
 obtain ⟨od,J,hl⟩:=I.look;exact PySem.W.method_fn X J (PySem.W.plainGet_of hg).1 (PySem.W.plainGet_of hg).2 hf (C0.mp ht) (by show (PySem.W.lookIn name od).map (·.isSome)=some false; rw [hl,hv]; rfl) h
theorem qR {ns:List Str} {Q:Unit->FB->Prop} (X:K.In s.heap) (I:ObjM s.heap x dx C mA)
  (hs:PySem.W.findIn K (.ref C) "__setattr__" = some (some (.builtin "object.__setattr__"))) (hp:PySem.W.plainOver K C=true) (ht:PySem.W.takerIn K C name=some none) (hh:PySem.W.hasDictIn K C=true)
  (hw:PySem.Within mA ns) (hsz:ns.length<=sizeLine)
  (h:∀h',ObjM h' x dx C (λ y=>if y=name then some v else mA y)->Heap.SameBut dx s.heap h'->Q () { s with heap:=h',toks:=s.toks + 2 }) :
  wpAny (model prog w) A (setAttr (.ref x) name v) Q E s:=by
 obtain ⟨od,J,hl⟩:=I.look;refine PySem.W.set_plain X J hs (PySem.W.osa_open (s:={ s with toks:=s.toks + 1 }) (r:=none) X J hp ht λ b=>?_);obtain ⟨cd,hc,hd'⟩:=PySem.W.any_some hh;have hx:s.heap.get? x=some ⟨.ref C,some dx,.plain,#[]⟩:=I.obj;refine A0 (A1 (A0 (A0 (wpAny_loadPart hx (A0 (PySem.W.Looks.here (s:={ s with toks:=s.toks + 1 }) (PySem.W.looks_clsIn X hc) ?_))))));rw [hd'];refine A1 (a:=some dx) (A0 (A1 (A0 ?_)));refine wpAny_nsSet1 (s:={ s with toks:=s.toks + 1 }) I.ns λ h' hn2 hs2=>?_;obtain ⟨oD,esD,epD,hoD,hdD,hcD⟩:=hn2.count (PySem.Within.cons name v hw);refine A0 (wpAny_lookBehind hoD (by rw [hdD]; exact pastItsLine_dict (C2 hcD (by rw [List.length_cons]; omega))) ?_);exact A1 (h _ ⟨(hs2.2 _ (Ne.symm I.ne)).trans I.obj,hn2,I.ne⟩ hs2)
theorem oB {R:Result->FB->Prop} {vs:List FF} {kw:List (Str×FF)} (X:K.In s.heap) (hm:PySem.W.makesIn K C=true)
  (hi:PySem.W.findIn K (.ref C) "__init__" = some (↑f)) (hf:PySem.W.typeIn K (.ref f)=some (.type "function"))
  (h:codeAny (model prog w) (A.under (.builtin "type.__call__" ⟨.ref C :: vs,kw⟩)) (.call (.ref f) ⟨.ref (s.heap.objs.size + 1) :: vs,kw⟩) (PySem.W.InitBack (s.heap.objs.size + 1) R)
   { s with heap:=(s.heap.push PySem.W.emptyDict).push (PySem.W.instObj C s.heap.objs.size) }) :
  codeAny (model prog w) A (.call (.ref C) ⟨vs,kw⟩) R s:=by
 obtain ⟨hh,g,d,t,os⟩:=s;exact PySem.W.make_core (PySem.W.makes_of X hm) (PySem.W.looks_findIn X hi) (λ self=>PySem.W.bind_fn X self hf) (.inl rfl) h
end
def cD (f:Str) (v:V):List (Str×V)->List (Str×V)
 | []=>[(f,v)]
 | (g,x) :: r=>if g=f then (g,v) :: r else (g,x) :: cD f v r
theorem bD (f g:Str) (v:V):∀fs:List (Str×V),(cD f v fs).lookup g=if g=f then some v else fs.lookup g
 | []=>by
  show List.lookup g [(f,v)]=_
  by_cases h:g=f
  ·have hb:(g == f)=true:=C0.mpr h;simp only [List.lookup,hb,if_pos h]
  ·have hb:(g == f)=false:=beq_eq_false_iff_ne.mpr h;simp only [List.lookup,hb,if_neg h]
 | (k,x) :: r=>by
  have ih:=bD f g v r;rw [show cD f v ((k,x) :: r)=(if k=f then (k,v) :: r else (k,x) :: cD f v r) from rfl]
  by_cases hk:k=f
  ·rw [if_pos hk]
   by_cases h:g=k
   ·have hb:(g == k)=true:=C0.mpr h;simp only [List.lookup,hb,if_pos (h.trans hk)]
   ·have hb:(g == k)=false:=beq_eq_false_iff_ne.mpr h;simp only [List.lookup,hb,if_neg (λ e:g=f=>h (e.trans hk.symm))]
  ·rw [if_neg hk]
   by_cases h:g=k
   ·have hb:(g == k)=true:=C0.mpr h;simp only [List.lookup,hb,if_neg (λ e:g=f=>hk (h.symm.trans e))]
   ·have hb:(g == k)=false:=beq_eq_false_iff_ne.mpr h;simp only [List.lookup,hb];exact ih
theorem ff (f:Str) (v:V):∀fs:List (Str×V),f∈(cD f v fs).map (·.1)/\∀g,g∈fs.map (·.1)->g∈(cD f v fs).map (·.1)
 | []=>⟨by simp [cD],λ g h=>by simp at h⟩
 | (k,x) :: r=>by
  obtain ⟨i1,i2⟩:=ff f v r;rw [show cD f v ((k,x) :: r)=(if k=f then (k,v) :: r else (k,x) :: cD f v r) from rfl]
  by_cases hk:k=f
  ·rw [if_pos hk];subst hk;exact ⟨by simp,λ g h=>by simpa using h⟩
  ·rw [if_neg hk];refine ⟨?_,λ g h=>?_⟩
   ·rw [List.map_cons];exact B1 _ i1
   ·rw [List.map_cons] at h ⊢;rcases List.mem_cons.mp h with e | e
    ·exact List.mem_cons.mpr (.inl e)
    ·exact B1 _ (i2 g e)
theorem di (f:Str) (v:V):∀fs:List (Str×V),(cD f v fs).length<=fs.length + 1
 | []=>by simp [cD]
 | (k,x) :: r=>by
  have ih:=di f v r;rw [show cD f v ((k,x) :: r)=(if k=f then (k,v) :: r else (k,x) :: cD f v r) from rfl]
  by_cases hk:k=f
  ·rw [if_pos hk,List.length_cons,List.length_cons]; omega
  ·rw [if_neg hk,List.length_cons,List.length_cons]; omega
theorem RelO.some_of {v:V} {o:Option FF} (r:RelO (some v) o):∃u,o=some u/\RelV v u:=by
 cases o with
 | none=>exact (show False from r).elim
 | some u=>exact ⟨u,Y,r⟩
theorem RelO.none_of {o:Option FF} (r:RelO none o):o=none:=by
 cases o with
 | none=>rfl
 | some u=>exact (show False from r).elim
theorem mJ {v:V} {u:FF} (r:RelV v u):PySem.W.handedIn u=true:=by
 cases v with
 | non=>cases (show u=Value.none from r); rfl
 | bl b=>cases (show u=Value.bool b from r); rfl
 | int i=>obtain ⟨t,e⟩:=(show ∃t,u=Value.int i t from r); cases e; rfl
 | str x=>obtain ⟨t,e⟩:=(show ∃t,u=Value.str x t from r); cases e; rfl
 | byt b=>obtain ⟨t,e⟩:=(show ∃t,u=Value.bytes b t from r); cases e; rfl
 | flt b=>obtain ⟨t,e⟩:=(show ∃t,u=Value.float b t from r); cases e; rfl
 | ref a=>cases (show u=Value.ref a from r); rfl
 | ty n=>cases (show u=Value.type n from r); rfl
section
variable {P:FC} {w:FE} {H H':Hp} {h h':Heap} {a C dx:Addr} {fs fs':List (Str×V)}
theorem eE (hok:HOk P w H h) (e:H a=some (.ins C dx fs)):∃mA,ObjM h a dx C mA/\(∀f,RelO (fs.lookup f) (mA f))/\PySem.Within mA (fs.map (·.1))/\fs.length<=1000/\H dx=some (.own a):=by
 obtain ⟨d,z,ne,ob,mA,n,r,q⟩:=(show ObjOk P w H h a (.ins C dx fs) from hok a _ e)
 exact ⟨mA,⟨ob,n,ne⟩,r,q,z,d⟩
end
structure Cls (K:C1) (C:Addr):Prop where
 pg:PySem.W.plainGet K C Str.empty=true
 hd:PySem.W.hasDictIn K C=true
 po:PySem.W.plainOver K C=true
 sa:PySem.W.findIn K (.ref C) "__setattr__" = some (some (.builtin "object.__setattr__"))
theorem Cls.get {K:C1} {C:Addr} (c:Cls K C) (f:Str):PySem.W.plainGet K C f=true:=c.pg
def NoAttr (K:C1) (C:Addr) (f:Str):Prop:=PySem.W.findIn K (.ref C) f=some none
theorem NoAttr.taker {K:C1} {C:Addr} {f:Str} (n:NoAttr K C f):PySem.W.takerIn K C f=some none:=by
 unfold PySem.W.takerIn;rw [show PySem.W.findIn K (.ref C) f=some none from n]
 rfl
structure Con (K:C1) (C:Addr) (f:Str) (v:V) (u:Value):Prop where
 at_:PySem.W.findIn K (.ref C) f=some (some u)
 rel:RelV v u
 get:PySem.W.specialIn K u "__get__" = some none
 cp:PySem.W.copiedNames.contains f=false
structure Meth (K:C1) (C:Addr) (m:Str) (f:Addr):Prop where
 at_:PySem.W.findIn K (.ref C) m=some (↑f)
 fn:PySem.W.isFn K (.ref f)=true
 kp:PySem.W.keepIn K (.ref f)=true
section
variable {X:Cx} {pins:List (Addr×Obj)} {σ:St} {H:Hp} {s:FB} {a C dx:Addr} {fs:List (Str×V)} {f:Str} {v:V} {A:Around} {E:FF->FB->Prop}
theorem jK {b:Bool} {Q:FF->FB->Prop} (I:Inv X pins σ H s) (e:H a=some (.ins C dx fs)) (c:Cls X.K C) (n:NoAttr X.K C f) (l:fs.lookup f=some v)
  (h:∀u s',Inv X pins σ H s'->RelV v u->Q u s'):wpAny (model X.prog X.w) A (getAttr (.ref a) f b) Q E s:=by
 obtain ⟨mA,O,r,_,_,_⟩:=eE I.hok e;obtain ⟨u,hu,ru⟩:=RelO.some_of (v:=v) (o:=mA f) (by rw [<- l]; exact r f);exact qQ I.kIn O (c.get f) c.hd n hu (mJ ru) (h u _ (I.tok _) ru)
theorem ee {m:Str} {g:Addr} {pl:Sem Bool} {Q:FF×List FF->FB->Prop} (I:Inv X pins σ H s) (e:H a=some (.ins C dx fs)) (c:Cls X.K C) (k:Meth X.K C m g) (l:fs.lookup m=none)
  (h:Q (.ref g,[.ref a]) s):wpAny (model X.prog X.w) A (getMethod (.ref a) m pl) Q E s:=by
 obtain ⟨mA,O,r,_,_,_⟩:=eE I.hok e;have hn:mA m=none:=RelO.none_of (by rw [<- l]; exact r m);exact oA I.kIn O (c.get m) k.at_ k.fn hn h
theorem jL {y:V} {u:FF} {Q:Unit->FB->Prop} (I:Inv X pins σ H s) (e:H a=some (.ins C dx fs)) (c:Cls X.K C) (n:NoAttr X.K C f) (hl:fs.length < 1000) (ry:RelV y u)
  (h:∀s',Inv X pins σ (upd H a (.ins C dx (cD f y fs))) s'->Q () s'):wpAny (model X.prog X.w) A (setAttr (.ref a) f u) Q E s:=by
 obtain ⟨mA,O,r,wi,_,ho⟩:=eE I.hok e;have hz:(fs.map (·.1)).length<=sizeLine:=by rw [List.length_map,sizeLine_eq]; omega
 refine qR I.kIn O c.sa c.po n.taker c.hd wi hz λ h' O' sb=>h _ ?_;have hd:∃o,h'.get? dx=some o:=let ⟨o,_,_,e',_⟩:=O'.ns; ⟨o,e'⟩
 refine I.write (x:=a) (e:=dx) (by rw [e]; exact True.intro) (.inr ho) (λ b q hb z=>(sb.2 b hb).trans z) hd ?_;refine ⟨by rw [aj O.ne]; exact ho,?_,O.ne,O'.obj,_,O'.ns,λ g=>?_,λ g hg=>?_⟩
 ·have:=di f y fs; omega
 ·show RelO ((cD f y fs).lookup g) (if g=f then some u else mA g);rw [bD]
  by_cases q:g=f
  ·rw [if_pos q,if_pos q]; exact ry
  ·rw [if_neg q,if_neg q]; exact r g
 ·by_cases q:g=f
  ·rw [q]; exact (ff f y fs).1
  ·refine (ff f y fs).2 g (wi g λ z=>hg ?_);show (if g=f then some u else mA g)=none;rw [if_neg q]; exact z
theorem Inv.made (I:Inv X pins σ H s):Inv X pins σ (upd (upd H s.heap.objs.size (.own (s.heap.objs.size + 1))) (s.heap.objs.size + 1) (.ins C s.heap.objs.size []))
  { s with heap:=(s.heap.push PySem.W.emptyDict).push (PySem.W.instObj C s.heap.objs.size) }:=by
 have e1:(s.heap.push PySem.W.emptyDict).get? s.heap.objs.size=some PySem.W.emptyDict:=A5 s.heap rfl;have e2:((s.heap.push PySem.W.emptyDict).push (PySem.W.instObj C s.heap.objs.size)).get? (s.heap.objs.size + 1)=some (PySem.W.instObj C s.heap.objs.size):=by have:=A5 (s.heap.push PySem.W.emptyDict) (o:=PySem.W.instObj C s.heap.objs.size) rfl;rwa [Heap.size_push] at this
 have e3:(s.heap.push PySem.W.emptyDict).Ns s.heap.objs.size (λ _=>none):=⟨PySem.W.emptyDict,#[],_,e1,Y,(λ e he=>absurd he (by simp)),λ _=>rfl⟩
 have I1:=I.laid (a:=s.heap.objs.size) (o:=.own (s.heap.objs.size + 1)) (h':=s.heap.push PySem.W.emptyDict) (t':=s.toks) (λ b u q=>A4 _ q) (B0 _) ⟨_,e1⟩;refine I1.laid (a:=s.heap.objs.size + 1) (o:=.ins C s.heap.objs.size []) (t':=s.toks) (λ b u q=>A4 _ q) (Nat.le_of_eq (Heap.size_push _ _)) ?_;have ne:s.heap.objs.size≠s.heap.objs.size + 1:=B6 (E4 _);refine ⟨by rw [aj ne,ae],E2 _,ne,e2,λ _=>none,(Heap.Ns1.of_empty e3).at λ o q=>A4 _ q,λ _=>True.intro,λ y hy=>absurd rfl hy⟩
theorem qS {prog:FC} {w:FE} {env:Env} {e:Expr} {f:Str} {pos:Pos} {s:FB} {Q:FF->FB->Prop} (hb:attributeBase e f env (eval e env)=eval e env)
  (h:wpAny (model prog w) A (eval e env) (λ o s₁=>wpAny (model prog w) A (getAttr o f true) Q E s₁) E s):wpAny (model prog w) A (eval (.Attribute e f pos) env) Q E s :=
 Attribute_any_ h (by rw [arm_eval_Attribute,hb])
end
def CK (K:C1) (ta:TE) (f:Str):TE:=λ σ H Q=>ta σ H λ x H1=>∃a C dx fs v,x=.ref a/\H1 a=some (.ins C dx fs)/\Cls K C/\NoAttr K C f/\fs.lookup f=some v/\Q v H1
def yt (K:C1) (ta tv:TE) (f:Str):TS:=λ D σ H=>tv σ H λ y H1=>ta σ H1 λ x H2=>∃a C dx fs,x=.ref a/\H2 a=some (.ins C dx fs)/\Cls K C/\NoAttr K C f/\fs.length < 1000 /\
 D.nx σ (upd H2 a (.ins C dx (cD f y fs)))
section
variable {X:Cx} {o e value:Expr} {f:Str} {pos pos' tpos:Pos} {ta tv:TE}
theorem fg (he:PE X e ta) (hb:attributeBase e f X.env (eval e X.env)=eval e X.env):PE X (.Attribute e f pos) (CK X.K ta f):=by intro pins s σ H Q I h;refine qS hb (thn (he pins s σ H _ I h) λ u s1 ⟨x,H1,I1,rx,a,C,dx,fs,v,ex,ea,c,n,l,q⟩=>?_);subst ex;obtain rfl:u=Value.ref a:=rx;exact jK I1 ea c n l λ u' s2 I2 ru=>⟨v,H1,I2,ru,q⟩
theorem oC (ha:PE X o ta) (hv:PE X value tv) (hs:swapsWith value (some (.Attribute o f pos')) pos.line X.env=pure false):PS X (.Assign [.Attribute o f pos'] value pos) (yt X.K ta tv f):=by intro pins s σ H D I h;refine plainObj_wpAny_Assign_Attribute (thn (hv pins s σ H _ I h) λ u s1 ⟨y,H1,I1,ry,q⟩=>thn (ha pins s1 σ H1 _ I1 q) λ ov s2 ⟨x,H2,I2,rx,a,C,dx,fs,ex,ea,c,n,l,q2⟩=>?_) hs;subst ex;obtain rfl:ov=Value.ref a:=rx;exact jL I2 ea c n l ry λ s3 I3=>⟨σ,_,I3,q2⟩
theorem sY {pl:Sem Bool} {m:Str} {apos:Pos} {args:List Expr} {pins:List (Addr×Obj)} {s:FB} {σ:St} {H:Hp} {Q:FF->FB->Prop} {te:TE} (he:PE X e te) (I:Inv X pins σ H s)
  (h:te σ H λ x H1=>∃a C dx fs g,x=.ref a/\H1 a=some (.ins C dx fs)/\Cls X.K C/\Meth X.K C m g/\fs.lookup m=none /\
   ∀s1,Inv X pins σ H1 s1->wpAny (model X.prog X.w) X.A (callWith pos (.ref g) [.ref a] (backTo pos (starEach args X.env)) (backToKw pos (keywordEach [] X.env))) Q X.xe s1)
  (ht:eval (.Call (.Attribute e m apos) args [] pos) X.env=(do
   let ov<-eval e X.env
   standAt apos.atName
   let (f,first)<-holding [ov] (getMethod ov m pl)
   callWith pos f first (backTo pos (starEach args X.env)) (backToKw pos (keywordEach [] X.env)))) :
  wpAny (model X.prog X.w) X.A (eval (.Call (.Attribute e m apos) args [] pos) X.env) Q X.xe s:=by
 refine PySem.W.methodCall_KW (pl:=pl) (thn (he pins s σ H _ I h) λ u s1 ⟨x,H1,I1,rx,a,C,dx,fs,g,ex,ea,c,k,l,q⟩=>?_) ht;subst ex;obtain rfl:u=Value.ref a:=rx;exact ee I1 ea c k l (q s1 I1)
end
section
variable {X:Cx} {pins:List (Addr×Obj)} {σ:St} {H:Hp} {s:FB} {A:Around} {E:FF->FB->Prop} {Q:FF->FB->Prop} {c:FF} {b:Bool}
inductive TyOf (K:C1) (H:Hp):V->Value->Prop where
 | non:TyOf K H .non (.type "NoneType")
 | bl (x:Bool):TyOf K H (.bl x) (.type "bool")
 | int (i:Int):TyOf K H (.int i) (.type "int")
 | str (x:Str):TyOf K H (.str x) (.type "str")
 | flt (x:UInt64):TyOf K H (.flt x) (.type "float")
 | lst {a:Addr} {xs:List V} (e:H a=↥xs):TyOf K H (.ref a) (.type "list")
 | frz {a:Addr} {o:Obj} {xs:List V} (e:H a=some (.frz o (.lst xs))):TyOf K H (.ref a) (.type "list")
 | tup {a:Addr} {xs:List V} (e:H a= ~~~xs):TyOf K H (.ref a) (.type "tuple")
 | dK {a:Addr} {kvs:List (Key×V)} (e:H a=some (.dK kvs)):TyOf K H (.ref a) (.type "dict")
 | dT {a:Addr} {kvs:List (List Key×V)} (e:H a=some (.dT kvs)):TyOf K H (.ref a) (.type "dict")
 | ext {a:Addr} {φ:Heap->Prop} (e:H a=some (.ext φ)) (c:∀h,φ h->∃o,h.get? a=some o/\o.cls=.type "dict"):TyOf K H (.ref a) (.type "dict")
 | ins {a C dx:Addr} {fs:List (Str×V)} (e:H a=some (.ins C dx fs)) (cl:Cls K C) (ha:PySem.W.findIn K (.ref C) "__class__" = some (some (.builtin "object.__class__")))
   (hn:PySem.W.specialIn K (.builtin "object.__class__") "__get__" = some (some (.builtin "getset_descriptor.__get__"))) (htk:PySem.W.takesIn K (.builtin "object.__class__")=some true)
   (hm:PySem.W.mroIn K C (.type "object")=some true):TyOf K H (.ref a) (.ref C)
theorem mK {x:V} {u t:FF} (I:Inv X pins σ H s) (rx:RelV x u) (ty:TyOf X.K H x t) (e:PySem.W.kitOne X.K t c=some b) (h:∀tk,Q (.bool b) { s with toks:=tk }) :
  wpAny (model X.prog X.w) A (call (.builtin "isinstance") [u,c]) Q E s:=by
 cases ty with
 | non=>cases (show u=Value.none from rx); exact PySem.W.kia_one PySem.W.kitx_none I.kIn True.intro e (λ z=>nomatch z) h
 | bl y=>cases (show u=Value.bool y from rx); exact PySem.W.kia_one PySem.W.kitx_bool I.kIn True.intro e (λ z=>nomatch z) h
 | int i=>obtain ⟨t,q⟩:=(show ∃t,u=Value.int i t from rx); cases q; exact PySem.W.kia_one PySem.W.kitx_int I.kIn True.intro e (λ z=>nomatch z) h
 | str y=>obtain ⟨t,q⟩:=(show ∃t,u=Value.str y t from rx); cases q; exact PySem.W.kia_one PySem.W.kitx_str I.kIn True.intro e (λ z=>nomatch z) h
 | flt y=>obtain ⟨t,q⟩:=(show ∃t,u=Value.float y t from rx); cases q; exact PySem.W.kia_one PySem.W.kitx_float I.kIn True.intro e (λ z=>nomatch z) h
 | @lst a xs ea =>
  cases (show u=Value.ref a from rx);obtain ⟨_,_,n,_,h1⟩:=(show ObjOk X.prog X.w H s.heap a (.lst xs) from I.hok a _ ea)
  exact PySem.W.kia_one PySem.W.kitx_list I.kIn ⟨_,h1,Y⟩ e (λ z=>nomatch z) h
 | @frz a ob xs ea =>
  cases (show u=Value.ref a from rx);obtain ⟨_,_,_,n,_,h1⟩:=(show ObjOk X.prog X.w H s.heap a (.frz ob (.lst xs)) from I.hok a _ ea)
  exact PySem.W.kia_one PySem.W.kitx_list I.kIn ⟨_,h1,Y⟩ e (λ z=>nomatch z) h
 | @tup a xs ea =>
  cases (show u=Value.ref a from rx);obtain ⟨_,_,_,p⟩:=(show ObjOk X.prog X.w H s.heap a (.tup xs) from I.hok a _ ea)
  obtain ⟨o,h1,h2,_⟩:=p;exact PySem.W.kia_one PySem.W.kitx_tuple I.kIn ⟨o,h1,h2⟩ e (λ z=>nomatch z) h
 | @dK a kvs ea =>
  cases (show u=Value.ref a from rx);obtain ⟨_,_,vs,_,p⟩:=(show ObjOk X.prog X.w H s.heap a (.dK kvs) from I.hok a _ ea)
  obtain ⟨o,es,ep,h1,h2,_⟩:=p;exact PySem.W.kia_one PySem.W.kitx_dict I.kIn ⟨o,h1,h2.1⟩ e (λ z=>nomatch z) h
 | @dT a kvs ea =>
  cases (show u=Value.ref a from rx);obtain ⟨_,_,xs,_,o,es,ep,h1,h2,_⟩:=(show ObjOk X.prog X.w H s.heap a (.dT kvs) from I.hok a _ ea)
  exact PySem.W.kia_one PySem.W.kitx_dict I.kIn ⟨o,h1,h2.1⟩ e (λ z=>nomatch z) h
 | @ext a φ ea c =>
  cases (show u=Value.ref a from rx);obtain ⟨p,_,_⟩:=(show ObjOk X.prog X.w H s.heap a (.ext φ) from I.hok a _ ea)
  obtain ⟨o,h1,h2⟩:=c _ p;exact PySem.W.kia_one PySem.W.kitx_dict I.kIn ⟨o,h1,h2⟩ e (λ z=>nomatch z) h
 | @ins a C dx fs ea cl ha hn htk hm =>
  cases (show u=Value.ref a from rx);obtain ⟨mA,O,_⟩:=eE I.hok ea;obtain ⟨od,J,_⟩:=O.look;exact PySem.W.kia_one (PySem.W.kitx_own (cl.get _) cl.hd ha hn htk hm) I.kIn J e (λ z=>nomatch z) h
end
structure Room (k:Nat) (A:Around):Prop where
 hd:A.handled=none
 dp:A.depth + 3 * k + 5 < recursionLimit
 un:A.units + 16 * k + 200 < cLine
 gd:A.guards=some []
theorem Room.mono {j k:Nat} {A:Around} (r:Room k A) (h:j<=k):Room j A:=⟨r.hd,by have:=r.dp; omega,by have:=r.un; omega,r.gd⟩
theorem Room.deeper {k:Nat} {A:Around} (r:Room (k + 1) A) (env:Env):Room k (A.deeper env) :=
 ⟨r.hd,by have:=r.dp; show A.depth + 1 + 3 * k + 5 < _; omega,by have:=r.un; show A.units + 3 + 16 * k + 200 < _; omega,r.gd⟩
theorem jM {A:Around} {C:Addr} {us:List FF} {kw:List (Str×FF)}:(A.under (.builtin "type.__call__" ⟨.ref C :: us,kw⟩)).depth=A.depth + 1:=by first | rfl | simp [Around.under,Code.weight,Code.isCreation,Code.isGuard,Code.isCaller,Code.frames,Code.isFrame,guardIds]
theorem jN {A:Around} {C:Addr} {us:List FF} {kw:List (Str×FF)}:(A.under (.builtin "type.__call__" ⟨.ref C :: us,kw⟩)).units=A.units + 1:=by first | rfl | simp [Around.under,Code.cUnits,Code.frames,Code.isFrame]
theorem jb {A:Around} {C:Addr} {us:List FF} {kw:List (Str×FF)}:(A.under (.builtin "type.__call__" ⟨.ref C :: us,kw⟩)).guards=A.guards:=by
 have e:Code.guards (.builtin "type.__call__" ⟨.ref C :: us,kw⟩)=[]:=by
  have:(Code.builtin "type.__call__" ⟨.ref C :: us,kw⟩).isGuard=false:=by show guardIds.contains "type.__call__" = false; decide +kernel
  simp [Code.guards,this]
 unfold Around.under;dsimp only;rw [e]
 rfl
theorem Room.make {k:Nat} {A:Around} (r:Room (k + 1) A) (C:Addr) (us:List FF) (kw:List (Str×FF)):Room k (A.under (.builtin "type.__call__" ⟨.ref C :: us,kw⟩)) :=
 ⟨r.hd,by have:=r.dp; rw [jM]; omega,by have:=r.un; rw [jN]; omega,by rw [jb]; exact r.gd⟩
theorem Room.depth {k:Nat} {A:Around} (r:Room k A):A.depth < recursionLimit:=by have:=r.dp; omega
theorem Room.units {k:Nat} {A:Around} (r:Room k A):A.units + 64 < cLine:=by have:=r.un; omega
def jc:TA:=λ _ H Q=>Q [] H
def oE (ta:TE) (tr:TA):TA:=λ σ H Q=>ta σ H λ x H1=>tr σ H1 λ xs H2=>Q (x :: xs) H2
section
variable {X:Cx} {e:Expr} {es:List Expr} {te:TE} {t:TA} {pos:Pos}
theorem ad:PA X [] jc:=λ _ _ _ _ H Q I h=>Calls.spliced_nil ⟨[],H,I,.nil,h⟩
theorem aa (ha:PE X e te) (hr:PA X es t) (hs:starEach (e :: es) X.env=(false,eval e X.env) :: starEach es X.env:=by rfl):PA X (e :: es) (oE te t):=by intro pos pins s σ H Q I h;rw [hs];show wpAny _ _ (spliced ((false,eval e X.env) :: backTo pos (starEach es X.env))) _ _ s;refine Calls.spliced_cons (thn (ha pins s σ H _ I h) λ u s1 ⟨x,H1,I1,r1,q1⟩=>?_);exact thn (hr pos pins s1 σ H1 _ I1 q1) λ us s2 ⟨xs,H2,I2,r2,q2⟩=>⟨x :: xs,H2,I2,.cons r1 r2,q2⟩
def CL (t:TA):TE:=λ σ H Q=>t σ H λ xs H1=>xs.length<=sizeLine/\∀p,H1 p=none->Q (.ref p) (upd H1 p (.tup xs))
def CM (t:TA):TE:=λ σ H Q=>t σ H λ xs H1=>xs.length<=sizeLine/\∀p,H1 p=none->Q (.ref p) (upd H1 p (.lst xs))
theorem aF {x1} (h:PA X es t):PE X (.Tuple es x1 pos) (CL t):=by intro pins s σ H Q I hq;refine wpAny_Tuple_spliced (thn (h pos pins s σ H _ I hq) λ us s1 ⟨xs,H1,I1,r,z,q⟩=>⟨by rw [<- r.length]; exact z,?_⟩);have hf:H1 s1.heap.objs.size=none:=I1.hok.fresh (B0 _);refine ⟨.ref s1.heap.objs.size,upd H1 s1.heap.objs.size (.tup xs),I1.laid (t':=s1.toks) (λ b u e=>A4 _ e) (B0 _) ?_,Y,q _ hf⟩;exact ⟨z,us,r,⟨_,A5 _ rfl,Y,_,Y⟩⟩
theorem aV (h:PA X es t):PE X (.List es pos) (CM t):=by intro pins s σ H Q I hq;refine wpAny_List_spliced (thn (h pos pins s σ H _ I hq) λ us s1 ⟨xs,H1,I1,r,z,q⟩=>⟨by rw [<- r.length]; exact z,?_⟩);have hf:H1 s1.heap.objs.size=none:=I1.hok.fresh (B0 _);refine ⟨.ref s1.heap.objs.size,upd H1 s1.heap.objs.size (.lst xs),I1.laid (t':=s1.toks) (λ b u e=>A4 _ e) (B0 _) ?_,Y,q _ hf⟩;exact ⟨z,us,0,r,A5 _ rfl⟩
end
abbrev Sp:=List V->Hp->VK->XK->Prop
abbrev CXT:=List Env->Hp->FB->XK->FF->FB->Prop
structure Env0 (P:Program) (w:World) (K:C1) (mg:Str->Option Value) (base:Heap) (A:Around) (outer:List Env) (s:Shared) (H:Hp):Prop where
 frames:A.frames=some outer
 mod:Mod K mg base
 bs:∀b o,base.get? b=some o->s.heap.get? b=some o/\H b=none
 bsz:base.objs.size<=s.heap.objs.size
 funs:s.heap.FunFrames base outer
 frf:∀b∈frs outer,H b=none
 hok:HOk P w H s.heap
 bare:AllBare s.gens
def CE (outer:List Env) (P:FC) (w:FE) (H:Hp) (s:FB) (Q:VK) (u:FF) (s':FB):Prop :=
 ∃v H',s'.os=s.os/\AllBare s'.gens/\Un (frs outer) [] H H' s.heap s'.heap/\HOk P w H' s'.heap/\RelV v u/\Q v H'
def CR (CX:CXT) (outer:List Env) (P:FC) (w:FE) (H:Hp) (s:FB) (Q:VK) (E:XK) (r:Result) (s':FB):Prop :=
 match r with
 | .ok (.ret u)=>CE outer P w H s Q u s'
 | .ok _=>False
 | .error e=>CX outer H s E e s'
structure FnOk (P:Program) (w:World) (K:C1) (mg:Str->Option Value) (base:Heap) (CX:CXT) (k:Nat) (f:Addr) (fd:FuncData) (ps:List Str) (sp:Sp):Prop where
 len:∀vs H Q E,sp vs H Q E->vs.length=ps.length
 run:∀ (A:Around) (outer:List Env) (s:FB) (H:Hp) (args:Args) (us:List FF) (vs:List V) (Q:VK) (E:XK),Room k A->Env0 P w K mg base A outer s H->BindsTo s fd args (ps.zip us)->Vals vs us->sp vs H Q E ->
  codeAny (model P w) A (.call (.ref f) args) (CR CX outer P w H s Q E) s
theorem FnOk.mono {P:FC} {w:FE} {K:C1} {mg:Str->Option FF} {base:Heap} {CX:CXT} {j k:Nat} {f:Addr} {fd:FD} {ps:List Str} {sp:Sp} (F:FnOk P w K mg base CX j f fd ps sp) (h:j<=k) :
  FnOk P w K mg base CX k f fd ps sp:=⟨F.len,λ A outer s H args us vs Q E hr=>F.run A outer s H args us vs Q E (hr.mono h)⟩
theorem Env0.make {P:FC} {w:FE} {K:C1} {mg:Str->Option FF} {base:Heap} {A:Around} {outer:List Env} {s:FB} {H:Hp} (e:Env0 P w K mg base A outer s H) (C:Addr) (us:List FF) (kw:List (Str×FF)) :
  Env0 P w K mg base (A.under (.builtin "type.__call__" ⟨.ref C :: us,kw⟩)) outer s H:=⟨by first | exact e.frames | (simpa [Around.under,Code.envs,Code.isFrame,pushEnvs] using e.frames),e.mod,e.bs,e.bsz,e.funs,e.frf,e.hok,e.bare⟩
section
variable {X:Cx} {pins:List (Addr×Obj)} {σ:St} {H:Hp} {s s':FB}
theorem Inv.env0 (I:Inv X pins σ H s):Env0 X.prog X.w X.K X.mg X.base X.A X.stack s H :=
 ⟨I.ok.frames,I.ok.mod,I.bs,C2 I.ok.bsz I.sz,I.stack,I.stkFree,I.hok,I.bare⟩
theorem Inv.after {Q:VK} {u:FF} (I:Inv X pins σ H s) (h:CE X.stack X.prog X.w H s Q u s'):EP X pins σ Q u s':=by obtain ⟨v,H',os,bare,un,hok,r,q⟩:=h;obtain ⟨hh,g,d,t,os'⟩:=s';obtain rfl:os'=s.os:=os;exact ⟨v,H',I.call (h':=hh) (g':=g) (d':=d) (t':=t) (ch:=[]) un hok bare (λ b z=>absurd z (by simp)),r,q⟩
end
def tf (sp:Sp) (dvs:List V) (E:XK) (t:TA):TE:=λ σ H Q=>t σ H λ vs H1=>sp (vs ++ dvs) H1 Q E
def lJ (C:Addr) (m:Str) (sp:Sp) (dvs:List V) (E:XK) (ta:TE) (t:TA):TE:=λ σ H Q=>ta σ H λ x H1=>∃a dx fs,x=.ref a/\H1 a=some (.ins C dx fs)/\fs.lookup m=none /\
 t σ H1 λ vs H2=>sp (x :: (vs ++ dvs)) H2 Q E
def tj (C:Addr) (sp:Sp) (dvs:List V) (E:XK) (t:TA):TE:=λ σ H Q=>t σ H λ vs H1=>∀x dx,H1 x=none->H1 dx=none->dx≠x ->
 sp (.ref x :: (vs ++ dvs)) (upd (upd H1 dx (.own x)) x (.ins C dx [])) (λ v H2=>v=.non/\Q (.ref x) H2) E
def Binds (K:C1) (fd:FD) (ps:List Str) (ds:List FF):Prop :=
 ∀ (s:FB) (us:List FF),K.In s.heap->(us ++ ds).length=ps.length->BindsTo s fd ⟨us,[]⟩ (ps.zip (us ++ ds))
theorem Binds.all {K:C1} {fd:FD} {ps:List Str} (h:∀us:List FF,us.length=ps.length->bindArgs fd ⟨us,[]⟩=pure (ps.zip us)):Binds K fd ps []:=λ s us _ hl=>by rw [List.append_nil] at hl ⊢;exact .of_eq (h us hl)
def ef (CX:CXT) (X:Cx) (E:XK):Prop:=∀ (pins:List (Addr×Obj)) (σ:St) (H:Hp) (s:FB) (e:FF) (s':FB),Inv X pins σ H s->CX X.stack H s E e s'->X.xe e s'
section
variable {X:Cx} {CX:CXT} {k:Nat} {f C:Addr} {fd:FD} {ps:List Str} {sp:Sp} {dvs:List V} {ds:List FF} {E:XK} {x m:Str} {p pos apos:Pos} {e o:Expr} {es:List Expr} {ta:TE} {t:TA}
theorem jO {pins:List (Addr×Obj)} {σ:St} {H:Hp} {s:FB} {Q:VK} {us:List FF} {vs:List V} (F:FnOk X.prog X.w X.K X.mg X.base CX k f fd ps sp) (hr:Room k X.A) (hb:Binds X.K fd ps ds) (hd:Vals dvs ds) (hx:ef CX X E)
  (I:Inv X pins σ H s) (r:Vals vs us) (h:sp (vs ++ dvs) H Q E):wpAny (model X.prog X.w) X.A (call (.ref f) us) (EP X pins σ Q) X.xe s:=by
 have r2:Vals (vs ++ dvs) (us ++ ds):=r.append hd;have hl:(us ++ ds).length=ps.length:=by rw [<- r2.length]; exact F.len _ _ _ _ h
 refine wpAny_call (codeAny_mono (F.run X.A X.stack s H ⟨us,[]⟩ (us ++ ds) (vs ++ dvs) Q E hr I.env0 (hb s us I.kIn hl) r2 h) λ r s' hq=>?_);cases r with
 | error e=>exact hx pins σ H s e s' I hq
 | ok fl =>
  cases fl with
  | ret u=>exact I.after hq
  | next=>exact E1 hq
  | brk=>exact E1 hq
  | cont=>exact E1 hq
theorem qT (F:FnOk X.prog X.w X.K X.mg X.base CX k f fd ps sp) (hr:Room k X.A) (hg:Gl X x) (hm:X.mg x=↑f) (hk:PySem.W.keepIn X.K (.ref f)=true) (hb:Binds X.K fd ps ds) (hd:Vals dvs ds) (hx:ef CX X E)
  (ha:PA X (e :: es) t) (hdb:(x == ("__debug__" : Str))=false:=by decide) (he:starEach (e :: es) X.env=(false,eval e X.env) :: starEach es X.env:=by rfl) (hpl:(backTo pos (starEach es X.env)).any (·.1)=false:=by rfl) :
  PE X (.Call (.Name x p) (e :: es) [] pos) (tf sp dvs E t):=by
 intro pins s σ H Q I h;refine wpAny_Call_Name_kw (dB I hg hm ?_ hdb);refine PySem.W.callWith_K (h₀:=X.base) I.ok.mod.kin hk (thn (ha pos pins s σ H _ I h) λ us s1 ⟨vs,H1,I1,r,q⟩=>⟨I1.kIn,?_⟩) he hpl;exact jO F hr hb hd hx I1 r q
theorem qU {pl:Sem Bool} (he:PE X o ta) (c:Cls X.K C) (hm:Meth X.K C m f) (F:FnOk X.prog X.w X.K X.mg X.base CX k f fd ps sp) (hr:Room k X.A) (hb:Binds X.K fd ps ds) (hd:Vals dvs ds) (hx:ef CX X E) (ha:PA X (e :: es) t)
  (hst:starEach (e :: es) X.env=(false,eval e X.env) :: starEach es X.env:=by rfl) (hpl:(backTo pos (starEach es X.env)).any (·.1)=false:=by rfl)
  (ht:eval (.Call (.Attribute o m apos) (e :: es) [] pos) X.env=(do
   let ov<-eval o X.env
   standAt apos.atName
   let (f,first)<-holding [ov] (getMethod ov m pl)
   callWith pos f first (backTo pos (starEach (e :: es) X.env)) (backToKw pos (keywordEach [] X.env))):=by rfl) :
  PE X (.Call (.Attribute o m apos) (e :: es) [] pos) (lJ C m sp dvs E ta t):=by
 intro pins s σ H Q I h;refine PySem.W.methodCall_KW (pl:=pl) (thn (he pins s σ H _ I h) λ u s1 ⟨x,H1,I1,rx,a,dx,fs,ex,ea,l,q⟩=>?_) ht;subst ex;obtain rfl:u=Value.ref a:=rx;refine ee I1 ea c hm l ?_;refine PySem.W.callWith_K (first:=[.ref a]) (h₀:=X.base) I.ok.mod.kin hm.kp (thn (ha pos pins s1 σ H1 _ I1 q) λ us s2 ⟨vs,H2,I2,r,q2⟩=>⟨I2.kIn,?_⟩) hst hpl;exact jO (us:=.ref a :: us) (vs:=.ref a :: vs) F hr hb hd hx I2 (.cons rfl r) q2
theorem oF {pl:Sem Bool} (he:PE X o ta) (c:Cls X.K C) (hm:Meth X.K C m f) (F:FnOk X.prog X.w X.K X.mg X.base CX k f fd ps sp) (hr:Room k X.A) (hb:Binds X.K fd ps ds) (hd:Vals dvs ds) (hx:ef CX X E)
  (ht:eval (.Call (.Attribute o m apos) [] [] pos) X.env=(do
   let ov<-eval o X.env
   standAt apos.atName
   let (f,first)<-holding [ov] (getMethod ov m pl)
   callWith pos f first (backTo pos (starEach [] X.env)) (backToKw pos (keywordEach [] X.env))):=by rfl) :
  PE X (.Call (.Attribute o m apos) [] [] pos) (lJ C m sp dvs E ta jc):=by
 intro pins s σ H Q I h;refine PySem.W.methodCall_KW (pl:=pl) (thn (he pins s σ H _ I h) λ u s1 ⟨x,H1,I1,rx,a,dx,fs,ex,ea,l,q⟩=>?_) ht;subst ex;obtain rfl:u=Value.ref a:=rx;refine ee I1 ea c hm l ?_;exact PySem.W.callWith_K0 (first:=[.ref a]) I1.kIn hm.kp (jO (us:=[.ref a]) (vs:=[.ref a]) F hr hb hd hx I1 (.cons rfl .nil) q)
structure Mk (K:C1) (C f:Addr):Prop where
 makes:PySem.W.makesIn K C=true
 init:PySem.W.findIn K (.ref C) "__init__" = some (↑f)
 fn:PySem.W.isFn K (.ref f)=true
 kp:PySem.W.keepIn K (.ref C)=true
theorem oG {pins:List (Addr×Obj)} {σ:St} {H:Hp} {s:FB} {Q:VK} {us:List FF} {vs:List V} (M:Mk X.K C f) (F:FnOk X.prog X.w X.K X.mg X.base CX k f fd ps sp) (hr:Room (k + 1) X.A) (hb:Binds X.K fd ps ds) (hd:Vals dvs ds)
  (hx:ef CX X E) (I:Inv X pins σ H s) (r:Vals vs us)
  (h:∀x dx,H x=none->H dx=none->dx≠x->sp (.ref x :: (vs ++ dvs)) (upd (upd H dx (.own x)) x (.ins C dx [])) (λ v H2=>v=.non/\Q (.ref x) H2) E) :
  wpAny (model X.prog X.w) X.A (call (.ref C) us) (EP X pins σ Q) X.xe s:=by
 have hq:=h (s.heap.objs.size + 1) s.heap.objs.size (I.hok.fresh (Nat.le_succ _)) (I.hok.fresh (B0 _)) (B6 (E4 _));have I2:=Inv.made (C:=C) I;have r2:Vals (V.ref (s.heap.objs.size + 1) :: (vs ++ dvs)) (Value.ref (s.heap.objs.size + 1) :: (us ++ ds)):=.cons rfl (r.append hd);have hl:(Value.ref (s.heap.objs.size + 1) :: us ++ ds).length=ps.length:=by have e:=r2.length;rw [F.len _ _ _ _ hq] at e;exact e.symm
 refine wpAny_call (oB (f:=f) I.kIn M.makes M.init (C0.mp M.fn) (codeAny_mono (F.run _ X.stack _ _ ⟨Value.ref (s.heap.objs.size + 1) :: us,[]⟩ (Value.ref (s.heap.objs.size + 1) :: (us ++ ds)) _ _ E (hr.make C us [])
  (I2.env0.make C us []) (hb _ (Value.ref (s.heap.objs.size + 1) :: us) I2.kIn hl) r2 hq) λ r s' hq'=>?_))
 cases r with
 | error e=>exact hx pins σ _ _ e s' I2 hq'
 | ok fl =>
  cases fl with
  | ret u =>
   obtain ⟨v,H',I3,rv,ev,q3⟩:=I2.after hq';subst ev;exact ⟨rv,⟨V.ref (s.heap.objs.size + 1),H',I3,Y,q3⟩⟩
  | next=>exact E1 hq'
  | brk=>exact E1 hq'
  | cont=>exact E1 hq'
theorem qV (M:Mk X.K C f) (F:FnOk X.prog X.w X.K X.mg X.base CX k f fd ps sp) (hr:Room (k + 1) X.A) (hg:Gl X x) (hm:X.mg x=↑C) (hb:Binds X.K fd ps ds) (hd:Vals dvs ds) (hx:ef CX X E)
  (ha:PA X (e :: es) t) (hdb:(x == ("__debug__" : Str))=false:=by decide) (he:starEach (e :: es) X.env=(false,eval e X.env) :: starEach es X.env:=by rfl) (hpl:(backTo pos (starEach es X.env)).any (·.1)=false:=by rfl) :
  PE X (.Call (.Name x p) (e :: es) [] pos) (tj C sp dvs E t):=by
 intro pins s σ H Q I h;refine wpAny_Call_Name_kw (dB I hg hm ?_ hdb);refine PySem.W.callWith_K (h₀:=X.base) I.ok.mod.kin M.kp (thn (ha pos pins s σ H _ I h) λ us s1 ⟨vs,H1,I1,r,q⟩=>⟨I1.kIn,?_⟩) he hpl;exact oG M F hr hb hd hx I1 r q
end
section
variable {X:Cx} {CX:CXT} {k:Nat} {f C:Addr} {fd:FD} {ps ks:List Str} {sp:Sp} {E:XK} {x m:Str} {p pos apos kpos:Pos} {e o:Expr} {es:List Expr} {kws:List Keyword} {te ta:TE} {t tk:TA} {nm:Option Str}
structure KBinds (K:C1) (fd:FuncData) (ps ks:List Str) (g:List Value->List Value->List Value) (gV:List V->List V->List V):Prop where
 to:∀ (s:FB) (us ws:List FF),K.In s.heap->(g us ws).length=ps.length->BindsTo s fd ⟨us,ks.zip ws⟩ (ps.zip (g us ws))
 rel:∀ {vs:List V} {us:List FF} {zs:List V} {ws:List FF},Vals vs us->Vals zs ws->Vals (gV vs zs) (g us ws)
variable {g:List FF->List FF->List FF} {gV:List V->List V->List V}
end
structure FnScope (N P:List Str) (sc:Scope):Prop where
 kind:sc.kind=.function
 co:sc.isCoroutine=false
 gen:sc.isGenerator=false
 nd:N.Nodup
 pre:N.take P.length=P
 par:∀x∈P,sc.names.lookup x=some .local\/sc.names.lookup x=some .cell
 nofree:∀y∈sc.names,y.2≠.free
theorem gZ {kindOf:Str->Option NameKind} {x:Str}:∀ {binds:List (Str×FF)} {m:Str->Option FF},(∀v,(x,v)∉binds)->bindL kindOf binds m x=m x
 | [],_,_=>rfl
 | (n,v) :: r,m,h=>by
  unfold bindL;rw [gZ λ w hw=>h w (List.mem_cons_of_mem _ hw)]
  split
  ·have:x≠n:=by rintro rfl; exact h v B4
   simp [this]
  ·rfl
theorem hG {kindOf:Str->Option NameKind} {x:Str}:∀ {binds:List (Str×FF)} {m:Str->Option FF},(∀v,(x,v)∉binds)->bindC kindOf binds m x=m x
 | [],_,_=>rfl
 | (n,v) :: r,m,h=>by
  unfold bindC;rw [hG λ w hw=>h w (List.mem_cons_of_mem _ hw)]
  split
  ·rfl
  ·have:x≠n:=by rintro rfl; exact h v B4
   simp [this]
theorem hI {kindOf:Str->Option NameKind} {x:Str} {v:FF}:∀ {P:List Str} {vs:List FF} {i:Nat} {m:Str->Option FF},P.Nodup->P[i]? = some x->vs[i]? = some v->kindOf x=some .local ->
  bindL kindOf (P.zip vs) m x=some v
 | [],_,_,_,_,h,_,_=>by simp at h
 | _ :: _,[],_,_,_,_,h,_=>by simp at h
 | p :: P,w :: vs,0,m,nd,h1,h2,hk=>by simp at h1 h2; subst h1; subst h2;show bindL kindOf ((p,w) :: P.zip vs) m p=_;unfold bindL;rw [gZ λ v hv=>(List.nodup_cons.mp nd).1 (List.of_mem_zip hv).1,if_pos hk];simp
 | p :: P,w :: vs,i + 1,m,nd,h1,h2,hk=>by show bindL kindOf ((p,w) :: P.zip vs) m x=_;unfold bindL;exact hI (i:=i) (List.nodup_cons.mp nd).2 (by simpa using h1) (by simpa using h2) hk
theorem hJ {kindOf:Str->Option NameKind} {x:Str} {v:FF}:∀ {P:List Str} {vs:List FF} {i:Nat} {m:Str->Option FF},P.Nodup->P[i]? = some x->vs[i]? = some v->kindOf x≠some .local ->
  bindC kindOf (P.zip vs) m x=some v
 | [],_,_,_,_,h,_,_=>by simp at h
 | _ :: _,[],_,_,_,_,h,_=>by simp at h
 | p :: P,w :: vs,0,m,nd,h1,h2,hk=>by simp at h1 h2; subst h1; subst h2;show bindC kindOf ((p,w) :: P.zip vs) m p=_;unfold bindC;rw [hG λ v hv=>(List.nodup_cons.mp nd).1 (List.of_mem_zip hv).1,if_neg hk];simp
 | p :: P,w :: vs,i + 1,m,nd,h1,h2,hk=>by show bindC kindOf ((p,w) :: P.zip vs) m x=_;unfold bindC;exact hJ (i:=i) (List.nodup_cons.mp nd).2 (by simpa using h1) (by simpa using h2) hk
def dj (N:List Str) (vs:List V):St:=vs.map some ++ List.replicate (N.length - vs.length) none
def eF (CX:CXT) (P:FC) (w:FE) (K:C1) (mg:Str->Option FF) (base:Heap) (N:List Str) (qual:Str) (scope:Scope) (f:Addr) (cd:FF) (A:Around) (outer:List Env) (s:FB) (H:Hp) (E:XK):Cx where
 prog:=P
 w:=w
 K:=K
 mg:=mg
 base:=base
 A:=A.deeper (envOfC qual scope s.heap.objs.size f cd)
 N:=N
 s₀:=s
 H₀:=H
 env:=envOfC qual scope s.heap.objs.size f cd
 outer:=outer
 stack:=envOfC qual scope s.heap.objs.size f cd :: outer
 ex:=[]
 calm:=true
 fn:=λ _=>true
 pn:=[]
 xe:=λ e s'=>wpAny (model P w) (A.deeper (envOfC qual scope s.heap.objs.size f cd)) (leaving (envOfC qual scope s.heap.objs.size f cd) e) (λ _ s''=>CX outer H s E e s'') (λ e' s''=>CX outer H s E e' s'') s'
theorem jd {sc:Scope} {n:Nat} {x:Str} (h:sc.names.lookup x=some .cell):∃c,(cellsFrom n sc.names []).lookup x=some c:=by have q:=PySem.W.cellsFrom_some sc.names n [] (.inl h);exact Option.isSome_iff_exists.mp q
theorem mL {CX:CXT} {P:FC} {w:FE} {K:C1} {mg:Str->Option FF} {base:Heap} {N ps:List Str} {qual:Str} {scope:Scope} {f:Addr} {cd:FF} {A:Around} {outer:List Env} {s s1:FB} {H:Hp} {E:XK} {us:List FF} {vs:List V}
  (S:FnScope N ps scope) (hd:A.handled=none) (e0:Env0 P w K mg base A outer s H) (hl:vs.length=ps.length) (r:Vals vs us)
  (x:InCallC s s.heap.objs.size (bindL (envOfC qual scope s.heap.objs.size f cd).kindOf (ps.zip us) λ _=>none) (cellsFrom (s.heap.objs.size + 1) scope.names []) (bindC (envOfC qual scope s.heap.objs.size f cd).kindOf (ps.zip us) λ _=>none) s1) :
  Inv (eF CX P w K mg base N qual scope f cd A outer s H E) [] (dj N vs) H s1:=by
 have hpl:ps.length<=N.length:=by have:=congrArg List.length S.pre; rw [List.length_take] at this; omega
 obtain ⟨h1,tk,rfl,hk⟩:=x.done;have noA:∀b:Addr,b∉(eF CX P w K mg base N qual scope f cd A outer s H E).ex:=λ b z=>absurd (show b∈([]:List Addr) from z) (by simp);refine ⟨⟨e0.mod,S.kind,Y,Y,B0 _,λ y z c h1 h2=>?_,λ y hy=>?_,λ y c _ h=>?_,λ _=>hd,Around.frames_deeper e0.frames,.inr ⟨Y,Y⟩,λ b z=>absurd z (noA b),e0.bs,e0.bsz,λ b _ _=>noA b,λ b z=>absurd z (noA b),e0.funs,e0.frf⟩,
  rfl,e0.bare,Un.kept hk,⟨_,x.toInCall.ns,λ i y v h1 h2 h3=>?_⟩,λ y c h=>⟨_,x.cell y c h⟩,e0.hok.fresh (B0 _),λ y c h=>?_,λ p hp=>absurd (show p∈([]:List (Addr×Obj)) from hp) (by simp),e0.hok.kept hk,?_⟩
 ·exact name_of_addr x.apart (PySem.mem_of_lookup h1) (PySem.mem_of_lookup h2)
 ·have hy:scope.names.lookup y=some .cell\/scope.names.lookup y=some .free:=hy;rcases hy with hy | hy
  ·exact jd hy
  ·exact absurd rfl (S.nofree _ (PySem.mem_of_lookup hy))
 ·exact Nat.le_of_lt (x.above y c (PySem.mem_of_lookup h))
 ·have hi:i < vs.length:=by
   unfold dj at h2
   by_cases hi:i < vs.length
   ·exact hi
   ·rw [List.getElem?_append_right (by simpa using hi)] at h2;rw [List.getElem?_replicate] at h2
    split at h2 <;> cases h2
  have ha:vs[i]? = some v:=by
   unfold dj at h2;rw [List.getElem?_append_left (by simpa using hi),List.getElem?_map] at h2;cases e:vs[i]? with
   | none=>rw [e] at h2; cases h2
   | some a=>rw [e] at h2; cases h2; rfl
  obtain ⟨u,hu,rv⟩:=r.get ha;have hp:ps[i]? = some y:=by rw [<- S.pre,List.getElem?_take_of_lt ⋯]; exact h1
  have ndP:ps.Nodup:=by rw [<- S.pre]; exact S.nd.sublist (List.take_sublist _ _)
  refine ⟨u,rv,?_⟩;rcases S.par y (B2 hp) with k | k
  ·exact .inl ⟨k,hI ndP hp hu k⟩
  ·obtain ⟨c,e⟩:=jd (n:=s.heap.objs.size + 1) k;refine .inr ⟨.inl k,c,e,?_⟩;have q:=x.cell y c e;rw [hJ ndP hp hu (by show scope.names.lookup y≠_; rw [k]; decide)] at q;exact q
 ·exact e0.hok.fresh (Nat.le_of_lt (x.above y c (PySem.mem_of_lookup h)))
 ·unfold dj;show _=N.length;rw [List.length_append,List.length_map,List.length_replicate];omega
theorem tm {CX:CXT} {P:FC} {w:FE} {K:C1} {mg:Str->Option FF} {base:Heap} {k:Nat} {f:Addr} {name qual:Str} {params:Arguments} {body:List Stmt} {scope:Scope} {dV kV doc pm cdv ct oc:FF} {an od:Option Addr}
  {osl:Array (Option FF)} {N ps:List Str} {sp:Sp} (lk:K.lookup f=some ⟨oc,od,.func (C9 name qual params body scope dV kV doc pm an cdv ct),osl⟩) (hcd:PySem.W.codeIn K cdv qual=true) (S:FnScope N ps scope)
  (len:∀vs H Q E,sp vs H Q E->vs.length=ps.length)
  (hbody:∀ (A:Around) (outer:List Env) (s:FB) (H:Hp) (vs:List V) (Q:VK) (E:XK),Room k (A.deeper (envOfC qual scope s.heap.objs.size f cdv))->sp vs H Q E ->
   ∃t,PSs (eF CX P w K mg base N qual scope f cdv A outer s H E) body t/\t { nx:=λ _ H'=>Q .non H',rt:=Q } (dj N vs) H) :
  FnOk P w K mg base CX (k + 1) f (C9 name qual params body scope dV kV doc pm an cdv ct) ps sp:=by
 refine ⟨len,λ A outer s H args us vs Q E hr e0 hb r hsp=>?_⟩;have hl:=len _ _ _ _ hsp;have KX:K.In s.heap:=e0.mod.kin.keeps λ b o e=>(e0.bs b o e).1;have lim:s.heap.NoLimit:=e0.mod.nolimit.keeps λ b o e=>(e0.bs b o e).1;have hkind:∀y∈ps.zip us,scope.names.lookup y.1=some .local\/(scope.names.lookup y.1=some .cell/\((cellsFrom (s.heap.objs.size + 1) scope.names []).lookup y.1).isSome=true):=λ ⟨n,v⟩ hy=>by
  rcases S.par n (List.of_mem_zip hy).1 with q | q
  ·exact .inl q
  ·exact .inr ⟨q,PySem.W.cellsFrom_some _ _ _ (.inl q)⟩
 refine codeAny_call_function hr.depth (KX _ _ lk) rfl S.co S.gen rfl (PySem.W.codeRec_of KX hcd) (hb _ _ _ _ ?_);refine wpAny_newFunctionEnv_cells S.kind hkind λ env he s1 x=>?_;subst he;refine ⟨lim.keeps x.toInCall.keep,codeAny_func ?_⟩;obtain ⟨t,ht,hq⟩:=hbody A outer s H vs Q E (hr.deeper _) hsp;have I:Inv (eF CX P w K mg base N qual scope f cdv A outer s H E) [] (dj N vs) H s1:=mL S hr.hd e0 hl r x;refine wpAny_mono (ht [] s1 (dj N vs) H _ I hq) (λ fl s' hs=>?_) λ e s' hs=>hs;have fin:∀ {σ':St} {H':Hp} {v:V} {u:FF},Inv (eF CX P w K mg base N qual scope f cdv A outer s H E) [] σ' H' s'->RelV v u->Q v H'->CE outer P w H s Q u s' :=
  λ {σ' H' v u} J rv q=>⟨v,H',J.os,J.bare,J.base,J.hok,rv,q⟩
 cases fl with
 | ret u =>
  obtain ⟨v,σ',H',J,rv,q⟩:=hs;exact fin J rv q
 | next =>
  obtain ⟨σ',H',J,q⟩:=hs;exact fin (v:=V.non) (u:=Value.none) J rfl q
 | brk =>
  obtain ⟨_,_,_,q⟩:=hs;exact E1 q
 | cont =>
  obtain ⟨_,_,_,q⟩:=hs;exact E1 q
section
variable {X:Cx} {x:Str} {p pos:Pos} {e:Expr} {es:List Expr} {t:TA} {id T:String} {r:List V->Hp->VK->Prop}
def tCB (r:List V->Hp->VK->Prop) (t:TA):TE:=λ σ H Q=>t σ H λ vs H1=>r vs H1 Q
theorem av (hc:ce X (.builtin id) r) (hg:Gl X x) (hm:X.mg x=none) (hv:bootBuiltins x=some (.builtin id)) (ha:PA X (e :: es) t) (hn:x ≠ "__name__" := by decide) (hdb:(x == ("__debug__" : Str))=false:=by decide)
  (he:starEach (e :: es) X.env=(false,eval e X.env) :: starEach es X.env:=by rfl) (hpl:(backTo pos (starEach es X.env)).any (·.1)=false:=by rfl):PE X (.Call (.Name x p) (e :: es) [] pos) (tCB r t):=by
 intro pins s σ H Q I h;refine wpAny_Call_Name_kw (dZ I hg hm hv ?_ hn hdb);exact PyProof.Rows.callWith_builtin1 (thn (ha pos pins s σ H _ I h) λ us s1 ⟨vs,H1,I1,r1,q1⟩=>hc pins s1 σ H1 vs us Q I1 r1 q1) he hpl
theorem cx (hc:ce X (.type T) r) (hg:Gl X x) (hm:X.mg x=none) (hv:bootBuiltins x=some (.type T)) (ha:PA X (e :: es) t) (hn:x ≠ "__name__" := by decide) (hdb:(x == ("__debug__" : Str))=false:=by decide)
  (he:starEach (e :: es) X.env=(false,eval e X.env) :: starEach es X.env:=by rfl) (hpl:(backTo pos (starEach es X.env)).any (·.1)=false:=by rfl):PE X (.Call (.Name x p) (e :: es) [] pos) (tCB r t):=by
 intro pins s σ H Q I h;refine wpAny_Call_Name_kw (dZ I hg hm hv ?_ hn hdb);exact PyProof.Rows.callWith_type1 (thn (ha pos pins s σ H _ I h) λ us s1 ⟨vs,H1,I1,r1,q1⟩=>hc pins s1 σ H1 vs us Q I1 r1 q1) he hpl
end
end L2
namespace HT
open PySem PyProof.Rows
section
variable {prog:FC} {w:FE} {A:Around} {E:FF->FB->Prop} {s:FB}
theorem cat_tup {t b:Addr} {vs ws:List FF} {Q:FF->FB->Prop} (ht:IsTup s.heap t vs.toArray) (hb:IsTup s.heap b ws.toArray) (hv:vs≠[])
  (h1:ws=[]->Q (.ref t) s) (h2:ws≠[]->Q (.ref s.heap.objs.size) { s with heap:=s.heap.push { cls:=.type "tuple",data:=.seq (vs ++ ws).toArray } })
  (hsz:vs.length + ws.length<=sizeLine):wpAny (model prog w) A (binaryOp .Add (.ref t) (.ref b)) Q E s:=by
 obtain ⟨⟨cls,dd,data,sl⟩,ho,hc,n,hd⟩:=id ht;obtain ⟨⟨cls2,dd2,data2,sl2⟩,ho2,hc2,n2,hd2⟩:=id hb;simp only at hc hd hc2 hd2;subst hc hd hc2 hd2;have e:vs.toArray ++ ws.toArray=(vs ++ ws).toArray:=by simp
 by_cases hw:ws=[]
 ·exact concat_meets ⟨_,ho,rfl⟩ ⟨_,ho2,rfl⟩ noFill_tuple_add seq_tuple_add PySem.F.slot_tuple_add PySem.F.entry_tuple_add (PySem.F.args_tuple_add_2 _ _)
   (tuple_addW1 t b vs.toArray ws.toArray n n2 dd dd2 sl sl2 (by simpa using hv) (by simp [hw])) ⟨ho,ho2,h1 hw⟩
 ·refine concat_meets ⟨_,ho,rfl⟩ ⟨_,ho2,rfl⟩ noFill_tuple_add seq_tuple_add PySem.F.slot_tuple_add PySem.F.entry_tuple_add (PySem.F.args_tuple_add_2 _ _)
   (tuple_addW2 t b vs.toArray ws.toArray n n2 dd dd2 sl sl2 (by simpa using hv) (by simpa using hw) (by rw [List.size_toArray,List.size_toArray]; exact hsz)) ⟨ho,ho2,?_⟩
  rw [e];exact h2 hw
def sIx (n d:Nat):Option Int->Nat
 | none=>d
 | some v=>if v < 0 then (v + (n:Int)).toNat else min v.toNat n
end
end HT
namespace L2
open PySem PySem.Spec PyProof.Rows
abbrev TO:=St->Hp->(Option Int->Hp->Prop)->Prop
def PO (X:Cx) (e:Option Expr) (t:TO):Prop :=
 ∀ (pins:List (Addr×Obj)) (s:FB) (σ:St) (H:Hp) (Q:Option Int->Hp->Prop),Inv X pins σ H s->t σ H Q ->
  wpAny (model X.prog X.w) X.A (evalPart e X.env) (λ u s'=>∃o H',Inv X pins σ H' s'/\IsPart u o/\Q o H') X.xe s
def yu (t:TE):TO:=λ σ H Q=>t σ H λ x H1=>∃i,x=.int i/\Q (some i) H1
section
variable {X:Cx} {e:Expr} {te:TE} {lo hi:Option Expr} {tl th:TO} {pos p2:Pos}
theorem lK (h:PE X e te):PO X (some e) (yu te):=by intro pins s σ H Q I hw;rw [evalPart_some];refine thn (h pins s σ H _ I hw) λ u s1 ⟨x,H1,I1,r1,q1⟩=>?_;obtain ⟨i,rfl,q⟩:=q1;obtain ⟨t,rfl⟩:=r1;exact ⟨some i,H1,I1,.int i t,q⟩
def SlR (X:Cx) (r:V->Option Int->Option Int->Hp->VK->Prop):Prop :=
 ∀ (pins:List (Addr×Obj)) (s:FB) (σ:St) (H:Hp) (x:V) (v vl vu:FF) (lo hi:Option Int) (sl:Addr) (Q:VK),Inv X pins σ H s->RelV x v->s.heap.IsSliceOf sl vl vu .none->IsPart vl lo->IsPart vu hi->r x lo hi H Q ->
  ∃T id,typeLookup (.type T) "__getitem__" = pure (some (.builtin id))/\s.TypeIs v T/\wpAny (model X.prog X.w) X.A (getItem v (.ref sl)) (EP X pins σ Q) X.xe s
def tSl (r:V->Option Int->Option Int->Hp->VK->Prop) (te:TE) (tl th:TO):TE:=λ σ H Q=>te σ H λ x H1=>tl σ H1 λ l H2=>th σ H2 λ u H3=>r x l u H3 Q
theorem oH {r:V->Option Int->Option Int->Hp->VK->Prop} (hr:SlR X r) (he:PE X e te) (hl:PO X lo tl) (hu:PO X hi th):PE X (.Subscript e (.Slice lo hi none p2) pos) (tSl r te tl th):=by intro pins s σ H Q I h;refine Subscript_ (thn (he pins s σ H _ I h) λ v s1 ⟨x,H1,I1,r1,q1⟩=>?_);refine wpAny_Slice (thn (hl pins s1 σ H1 _ I1 q1) λ vl s2 ⟨l,H2,I2,pl,q2⟩=>thn (hu pins s2 σ H2 _ I2 q2) λ vu s3 ⟨u,H3,I3,pu,q3⟩=>?_);rw [evalPart_none];refine A1 ?_;have I4:Inv X pins σ H3 { s3 with heap:=s3.heap.push { cls:=.type "slice", data:=.fields #[vl, vu, .none] } }:=I3.kept (t':=s3.toks) λ b ob q=>A4 _ q;obtain ⟨T,id,hT,ht,hg⟩:=hr pins { s3 with heap:=s3.heap.push { cls:=.type "slice",data:=.fields #[vl,vu,.none] } } σ H3 x v vl vu l u s3.heap.objs.size Q I4 r1 (Heap.IsSliceOf.new ..) pl pu q3;show wpAny (model X.prog X.w) X.A (subscriptTail e (.Slice lo hi none p2) v (.ref s3.heap.objs.size)) (EP X pins σ Q) X.xe { s3 with heap:=s3.heap.push { cls:=.type "slice",data:=.fields #[vl,vu,.none] } };exact tail_any (ops:=[.ref s3.heap.objs.size,v]) ht hT hg (by with_unfolding_all rfl)
def gj (xs:List V) (lo hi:Option Int):List V:=(xs.drop (HT.sIx xs.length 0 lo)).take (HT.sIx xs.length xs.length hi - HT.sIx xs.length 0 lo)
theorem fH (xs:List V) (lo hi:Option Int):(gj xs lo hi).length<=xs.length:=by unfold gj;rw [List.length_take,List.length_drop];omega
def tq (K:C1):R2:=λ x y H Q=>∃a b xs ys,x=.ref a/\y=.ref b/\SqT K H a xs/\SqT K H b ys/\xs≠[]/\xs.length + ys.length<=sizeLine /\
 (ys=[]->Q (.ref a) H)/\(ys≠[]->∀p,H p=none->Q (.ref p) (upd H p (.tup (xs ++ ys))))
theorem Vals.nil_iff {xs:List V} {us:List FF} (r:Vals xs us):us=[]↔xs=[]:=by
 cases r with
 | nil=>simp
 | cons _ _=>simp
theorem lL:OpR X (binaryOp .Add) (tq X.K):=by intro pins s σ H x y v u Q I rx ry h;obtain ⟨a,b,xs,ys,rfl,rfl,ha,hb,hx,hz,q1,q2⟩:=h;cases rx;cases ry;obtain ⟨its,r1,p1,_⟩:=I.tuple ha;obtain ⟨its2,r2,p2,_⟩:=I.tuple hb;refine HT.cat_tup p1 p2 (λ z=>hx (r1.nil_iff.mp z)) (λ z=>⟨.ref a,H,I,Y,q1 (r2.nil_iff.mp z)⟩) (λ z=>?_) (by rw [<- r1.length,<- r2.length]; exact hz);refine ⟨.ref s.heap.objs.size,_,I.laid (t':=s.toks) (o:=.tup (xs ++ ys)) (λ b ob q=>A4 _ q) (B0 _) ?_,Y,q2 (λ w=>z (r2.nil_iff.mpr w)) _ (I.hok.fresh (B0 _))⟩;exact ⟨by rw [List.length_append]; exact hz,_,r1.append r2,IsTup.new _ _⟩
end
def ixN (n:Nat) (i:Int):Option Nat:=if 0<=i then (if i < n then some i.toNat else none) else if -(n:Int)<=i then some (i + n).toNat else none
def atI {α:Type} (xs:List α) (i:Int):Option α:=(ixN xs.length i).bind λ j=>xs[j]?
theorem lM {n:Nat} {i:Int} {j:Nat} (h:ixN n i=some j):seqIndex? i n=some j/\j < n/\-(n:Int)<=i/\i < n:=by
 unfold ixN at h
 by_cases h0:0<=i
 ·rw [if_pos h0] at h
  by_cases h1:i < n
  ·rw [if_pos h1] at h;have e:i.toNat=j:=B5 h;exact ⟨by rw [seqIndex_of h0 h1,e],⋯,⋯,h1⟩
  ·rw [if_neg h1] at h; cases h
 ·rw [if_neg h0] at h
  by_cases h1:-(n:Int)<=i
  ·rw [if_pos h1] at h;have e:(i + n).toNat=j:=B5 h;exact ⟨by rw [seqIndex_neg ⋯ h1,e],⋯,h1,⋯⟩
  ·rw [if_neg h1] at h; cases h
theorem lN {α:Type} {xs:List α} {i:Int} {v:α} (h:atI xs i=some v):∃j,seqIndex? i xs.length=some j/\xs[j]? = some v/\j < xs.length/\-(xs.length:Int)<=i/\i < xs.length:=by
 unfold atI at h;cases e:ixN xs.length i with
 | none=>rw [e] at h; cases h
 | some j =>
  rw [e] at h;obtain ⟨h1,h2,h3,h4⟩:=lM e;exact ⟨j,h1,h,h2,h3,h4⟩
theorem qW {α:Type} {xs:List α} {j:Nat} {v:α} (h:xs[j]? = some v):atI xs (j:Int)=some v:=by
 have hj:j < xs.length:=(A3.mp h).1;have e:ixN xs.length (j:Int)=some j:=by unfold ixN;rw [if_pos ⋯,if_pos ⋯]; simp
 unfold atI; rw [e]; exact h
def qX (b:Expr):Prop:=∀o i,subscripted b false o i=operate [o,i] (getItem o i)
def IxR (X:Cx) (r:R2):Prop :=
 ∀ (value slice:Expr) (pins:List (Addr×Obj)) (s:FB) (σ:St) (H:Hp) (x y:V) (v u:FF) (Q:VK),Inv X pins σ H s->RelV x v->RelV y u->r x y H Q ->
  subscripted slice false v u=operate [v,u] (getItem v u)->wpAny (model X.prog X.w) X.A (subscriptTail value slice v u) (EP X pins σ Q) X.xe s
def MtR (X:Cx) (id:String) (r:V->List V->Hp->VK->Prop):Prop :=
 ∀ (pins:List (Addr×Obj)) (s:FB) (σ:St) (H:Hp) (x:V) (xs:List V) (v:FF) (us:List FF) (Q:VK),Inv X pins σ H s->RelV x v->Vals xs us->r x xs H Q ->
  wpAny (model X.prog X.w) X.A (call (.builtin id) (v :: us)) (EP X pins σ Q) X.xe s
section
variable {X:Cx} {a b:Expr} {ta tb:TE} {pos:Pos}
theorem aN {r:R2} (hr:IxR X r) (ha:PE X a ta) (hb:PE X b tb) (hs:qX b):PE X (.Subscript a b pos) (tOp r ta tb):=by intro pins s σ H Q I h;exact Subscript_ (tO ha hb I h λ v u s2 x y H2 I2 rx ry q=>hr a b pins s2 σ H2 x y v u Q I2 rx ry q (hs _ _))
inductive rIxL (K:C1) (x:V) (y:V) (H:Hp) (Q:VK):Prop
 | mk (p:Addr) (xs:List V) (i:Int) (v:V) (e_0:x=.ref p) (e_1:y=.int i) (e_2:SqL K H p xs) (e_3:atI xs i=some v) (e_4:Q v H):rIxL K x y H Q
inductive rIxT (K:C1) (x:V) (y:V) (H:Hp) (Q:VK):Prop
 | mk (p:Addr) (xs:List V) (i:Int) (v:V) (e_0:x=.ref p) (e_1:y=.int i) (e_2:SqT K H p xs) (e_3:atI xs i=some v) (e_4:Q v H):rIxT K x y H Q
theorem aW:IxR X (rIxL X.K):=by
 intro value slice pins s σ H x y v u Q I rx ry h hs;obtain ⟨p,xs,i,z,rfl,rfl,hq,he,q⟩:=h;cases rx;obtain ⟨t,rfl⟩:=ry;obtain ⟨its,r,pl,hz⟩:=I.list hq;obtain ⟨j,h1,h2,h3,h4,h5⟩:=lN he;obtain ⟨w,ew,rw'⟩:=r.get h2;have hl:=r.length;have hn:=ip;have fin:EP X pins σ Q w s:=⟨z,H,I,rw',q⟩
 by_cases h0:0<=i
 ·have hj:i.toNat=j:=by rw [seqIndex_of h0 h5] at h1;exact B5 h1
  exact item_listR pl.isList h0 ⋯ (by rw [hj]; simpa using ew) fin hs
 ·have hj:(i + (its.toArray.size:Int)).toNat=j:=by rw [seqIndex_neg ⋯ h4] at h1;rw [List.size_toArray,<- hl];exact B5 h1
  exact subscriptTail_builtinR (x:=w) pl.isList.typeIs slot_list_getitem.lookup
   (wpAny_getItem_list_neg (Q:=λ r s'=>r=w/\EP X pins σ Q r s') pl.isList ⋯ (by rw [List.size_toArray] <;> omega) ⋯ (by rw [hj]; simpa using ew) ⟨rfl,fin⟩) hs
theorem bo:IxR X (rIxT X.K):=by
 intro value slice pins s σ H x y v u Q I rx ry h hs;obtain ⟨p,xs,i,z,rfl,rfl,hq,he,q⟩:=h;cases rx;obtain ⟨t,rfl⟩:=ry;obtain ⟨its,r,pl,hz⟩:=I.tuple hq;obtain ⟨j,h1,h2,h3,h4,h5⟩:=lN he;obtain ⟨w,ew,rw'⟩:=r.get h2;have hl:=r.length;have hn:=ip;have fin:EP X pins σ Q w s:=⟨z,H,I,rw',q⟩
 exact subscriptTail_builtinR (x:=w) pl.typeIs slot_tuple_getitem.lookup
  (getItem_tuple (j:=j) (Q:=λ r s'=>r=w/\EP X pins σ Q r s') pl ⋯ ⋯ (by rw [List.size_toArray,<- hl]; exact h1) (by simpa using ew) ⟨rfl,fin⟩) hs
theorem jP (its:List FF) (n j:Nat) (u:FF):Obj.mapSeq (·.setIfInBounds j u) { cls:=.type "list",data:=.seq its.toArray n }={ cls:=.type "list",data:=.seq (its.set j u).toArray n }:=by simp [Obj.mapSeq]
theorem Inv.lst {pins:List (Addr×Obj)} {σ:St} {H:Hp} {s:FB} {p:Addr} {xs:List V} (I:Inv X pins σ H s) (h:H p=↥xs) :
  ∃ (its:List FF) (n:Nat),Vals xs its/\s.heap.get? p=some { cls:=.type "list",data:=.seq its.toArray n }/\xs.length<=sizeLine:=by
 obtain ⟨z,its,n,r,e⟩:=I.hok p _ h;exact ⟨its,n,r,e,z⟩
theorem Inv.lstUpd {pins:List (Addr×Obj)} {σ:St} {H:Hp} {s:FB} {p:Addr} {xs ys:List V} {its its':List FF} {n n':Nat} {f:Obj->Obj} (I:Inv X pins σ H s) (h:H p=↥xs)
  (ho:s.heap.get? p=some { cls:=.type "list", data:=.seq its.toArray n }) (hf:f { cls:=.type "list", data:=.seq its.toArray n }={ cls:=.type "list", data:=.seq its'.toArray n' }) (r:Vals ys its') (hz:ys.length<=sizeLine) (t:Nat) :
  Inv X pins σ (upd H p (.lst ys)) { s with heap:=s.heap.update p f,toks:=t }:=by
 have e:(s.heap.update p f).get? p=some { cls:=.type "list", data:=.seq its'.toArray n' }:=by rw [Heap.get?_update_self f ho (by rw [hf] <;> rfl),hf]
 refine I.write (x:=p) (e:=p) (by rw [h]; trivial) (.inl rfl) (λ b u hb q=>(Heap.get?_update_other _ _ (Ne.symm hb)).trans q) ⟨_,e⟩ ?_;exact ⟨hz,its',n',r,e⟩
inductive rSetL (o:V) (i:V) (v:V) (H:Hp) (Q:Hp->Prop):Prop
 | mk (p:Addr) (xs:List V) (k:Int) (j:Nat) (e_0:o=.ref p) (e_1:i=.int k) (e_2:H p=↥xs) (e_3:ixN xs.length k=some j) (e_4:Q (upd H p (.lst (xs.set j v)))):rSetL o i v H Q
theorem je:yh X rSetL:=by
 intro pins s σ H o i v ov iv u Q I ro ri rv h;obtain ⟨p,xs,k,j,rfl,rfl,hp,hj,q⟩:=h;cases ro;obtain ⟨t,rfl⟩:=ri;obtain ⟨its,n,r,ho,hz⟩:=I.lst hp;obtain ⟨h1,h2,h3,h4⟩:=lM hj;have hl:=r.length;have hn:=ip;have I':Inv X pins σ (upd H p (.lst (xs.set j v))) { s with heap:=s.heap.update p (Obj.mapSeq (·.setIfInBounds j u)) } :=
  I.lstUpd hp ho (jP its n j u) (r.set rv j) (by rw [List.length_set]; exact hz) s.toks
 by_cases h0:0<=k
 ·have hk:k.toNat=j:=by rw [seqIndex_of h0 h4] at h1;exact B5 h1
  exact PySem.W.ki_setAt ho h0 ⋯ (by rw [List.size_toArray,<- hl]; exact h4) (by rw [hk]; exact ⟨_,I',q⟩)
 ·have hk:(k + (its.toArray.size:Int)).toNat=j:=by rw [seqIndex_neg ⋯ h3] at h1;rw [List.size_toArray,<- hl];exact B5 h1
  exact PySem.W.ki_setBack ho ⋯ (by rw [List.size_toArray,<- hl]; exact h3) ⋯ (by rw [hk]; exact ⟨_,I',q⟩)
theorem iq (lo hi:Option Int) (n:Nat):(sliceBounds lo hi none n).1=((HT.sIx n 0 lo:Nat):Int)/\(sliceBounds lo hi none n).2.1=((HT.sIx n n hi:Nat):Int)/\(sliceBounds lo hi none n).2.2=1:=by
 refine ⟨?_,?_,Y⟩
 ·cases lo with
  | none=>simp [sliceBounds,HT.sIx]
  | some i =>
   simp only [sliceBounds,HT.sIx,Option.getD_none,show (1:Int) > 0 by decide,if_true]
   by_cases h:i < 0
   ·simp only [h,if_true] <;> omega
   ·simp only [h,if_false] <;> omega
 ·cases hi with
  | none=>simp [sliceBounds,HT.sIx]
  | some i =>
   simp only [sliceBounds,HT.sIx,Option.getD_none,show (1:Int) > 0 by decide,if_true]
   by_cases h:i < 0
   ·simp only [h,if_true] <;> omega
   ·simp only [h,if_false] <;> omega
theorem gS (its:List FF) (lo hi:Option Int):slicePick its.toArray lo hi none=((its.drop (HT.sIx its.length 0 lo)).take (HT.sIx its.length its.length hi - HT.sIx its.length 0 lo)).toArray:=by obtain ⟨h1,h2,h3⟩:=iq lo hi its.toArray.size;unfold slicePick;rw [h1,h2,h3];simp only [sliceRange_one,pick_run,List.size_toArray] <;> rfl
inductive rSlL (K:C1) (x:V) (lo:Option Int) (hi:Option Int) (H:Hp) (Q:VK):Prop
 | mk (a:Addr) (xs:List V) (e_0:x=.ref a) (e_1:SqL K H a xs) (e_2:∀p,H p=none->Q (.ref p) (upd H p (.lst (gj xs lo hi)))):rSlL K x lo hi H Q
theorem qY:SlR X (rSlL X.K):=by intro pins s σ H x v vl vu lo hi sl Q I rx hs pl pu h;obtain ⟨a,xs,rfl,hx,q⟩:=h;cases rx;obtain ⟨its,r,ht,hz⟩:=I.list hx;have hlen:=r.length;refine ⟨"list",_,slot_list_getitem.lookup,ht.isList.typeIs,?_⟩;refine wpAny_getItem_list_slice ht.isList hs pl pu .none (by simp) ?_ (by rw [List.size_toArray] <;> omega);rw [gS,<- hlen];refine ⟨.ref s.heap.objs.size,_,I.laid (t':=s.toks) (o:=.lst (gj xs lo hi)) (λ b ob q=>A4 _ q) (B0 _) ?_,Y,q _ (I.hok.fresh (B0 _))⟩;exact ⟨C2 (fH xs lo hi) hz,_,0,(r.drop (HT.sIx xs.length 0 lo)).take (HT.sIx xs.length xs.length hi - HT.sIx xs.length 0 lo),A5 _ rfl⟩
def dR:V->Bool
 | .non=>true
 | .bl _=>true
 | .int _=>true
 | .str _=>true
 | _=>false
def eqV:V->V->Bool
 | .non,.non=>true
 | .bl a,.bl b=>a == b
 | .bl a,.int b=>(if a then 1 else 0) == b
 | .int a,.bl b=>a == (if b then 1 else 0)
 | .int a,.int b=>a == b
 | .str a,.str b=>a == b
 | _,_=>false
theorem tQ {A:Around} {s:FB} {y x:V} {u v:FF} (ry:RelV y u) (rx:RelV x v) (fy:dR y=true) (fx:dR x=true):SeqAt.EqAt A s u v (eqV y x):=by
 cases y with
 | non =>
  cases ry;cases x with
  | non=>cases rx; exact SeqAt.EqAt.same _
  | bl b=>cases rx; exact SeqAt.EqAt.none_bool b
  | int b=>obtain ⟨t,rfl⟩:=rx; exact SeqAt.EqAt.none_int b t
  | str b=>obtain ⟨t,rfl⟩:=rx; exact SeqAt.EqAt.none_str b t
  | _=>exact absurd (show false=true from fx) A9
 | bl a =>
  cases ry;cases x with
  | non=>cases rx; exact SeqAt.EqAt.bool_none a
  | bl b=>cases rx; exact SeqAt.EqAt.bool_bool a b
  | int b=>obtain ⟨t,rfl⟩:=rx; exact SeqAt.EqAt.bool_int a b t
  | str b=>obtain ⟨t,rfl⟩:=rx; exact SeqAt.EqAt.bool_str a b t
  | _=>exact absurd (show false=true from fx) A9
 | int a =>
  obtain ⟨t',rfl⟩:=ry;cases x with
  | non=>cases rx; exact SeqAt.EqAt.int_none a t'
  | bl b=>cases rx; exact SeqAt.EqAt.int_bool a t' b
  | int b=>obtain ⟨t,rfl⟩:=rx; exact SeqAt.EqAt.int_int a t' b t
  | str b=>obtain ⟨t,rfl⟩:=rx; exact SeqAt.EqAt.int_str a t' b t
  | _=>exact absurd (show false=true from fx) A9
 | str a =>
  obtain ⟨t',rfl⟩:=ry;cases x with
  | non=>cases rx; exact SeqAt.EqAt.str_none a t'
  | bl b=>cases rx; exact SeqAt.EqAt.str_bool a t' b
  | int b=>obtain ⟨t,rfl⟩:=rx; exact SeqAt.EqAt.str_int a t' b t
  | str b=>obtain ⟨t,rfl⟩:=rx; exact SeqAt.EqAt.str_str a t' b t
  | _=>exact absurd (show false=true from fx) A9
 | _=>exact absurd (show false=true from fy) A9
def eqU (x:V) (u:FF):Bool:=match u with
 | .none=>eqV .non x
 | .bool b=>eqV (.bl b) x
 | .int i _=>eqV (.int i) x
 | .str z _=>eqV (.str z) x
 | _=>false
theorem oI {x y:V} {u:FF} (r:RelV y u) (f:dR y=true):eqU x u=eqV y x:=by
 cases y with
 | non=>cases r; rfl
 | bl b=>cases r; rfl
 | int i=>obtain ⟨t,rfl⟩:=r; rfl
 | str z=>obtain ⟨t,rfl⟩:=r; rfl
 | _=>exact absurd (show false=true from f) A9
theorem ir {x:V}:∀ {xs:List V} {us:List FF},Vals xs us->xs.all dR=true->us.any (eqU x)=xs.any λ y=>eqV y x
 | _,_,.nil,_=>rfl
 | y :: xs,u :: us,.cons r t,f=>by rw [List.all_cons,Bool.and_eq_true] at f;rw [List.any_cons,List.any_cons,oI r f.1,ir t f.2]
theorem gl {A:Around} {s:FB} {x:V} {v:FF} (rx:RelV x v) (fx:dR x=true):∀ {xs:List V} {us:List FF},Vals xs us->xs.all dR=true->∀u∈us,SeqAt.EqAt A s u v (eqU x u)
 | _,_,.nil,_=>λ u hu=>by cases hu
 | y :: xs,u :: us,.cons r t,f=>λ u' hu=>by
  rw [List.all_cons,Bool.and_eq_true] at f;rcases List.mem_cons.mp hu with rfl | hu
  ·rw [oI r f.1]; exact tQ r rx f.1 fx
  ·exact gl rx fx t f.2 u' hu
def inV (x:V) (xs:List V):Bool:=xs.any λ y=>eqV y x
def rIn (K:C1) (neg:Bool):R2:=λ x y H Q=>∃p xs,y=.ref p/\(SqL K H p xs\/SqT K H p xs)/\dR x=true/\xs.all dR=true/\Q (.bl (if neg then !inV x xs else inV x xs)) H
theorem iu:OpR X (compareOp .NotIn) (rIn X.K true):=by
 intro pins s σ H x y v u Q I rx ry h;obtain ⟨p,xs,rfl,hq,fx,fs,q⟩:=h;cases ry;rcases hq with hq | hq
 ·obtain ⟨its,r,pl,hz⟩:=I.list hq;refine SeqAt.notIn_listAt (eqU x) pl.isList (λ w hw=>gl rx fx r fs w (by simpa using hw)) ⟨.bl _,H,I,rfl,?_⟩;rw [show its.toArray.any (eqU x)=its.any (eqU x) by simp,ir r fs];exact q
 ·obtain ⟨its,r,pl,hz⟩:=I.tuple hq;refine SeqAt.notIn_tupleAt (eqU x) pl (λ w hw=>gl rx fx r fs w (by simpa using hw)) ⟨.bl _,H,I,rfl,?_⟩;rw [show its.toArray.any (eqU x)=its.any (eqU x) by simp,ir r fs];exact q
theorem bK:ce X (.builtin "len") (λ xs H Q=>∃p ys,xs=[.ref p]/\(SqL X.K H p ys\/SqT X.K H p ys)/\Q (.int ys.length) H):=by
 intro pins s σ H xs us Q I r h;obtain ⟨p,ys,rfl,hq,q⟩:=h;obtain ⟨u,rfl,rx⟩:=dh r;cases rx;have hn:=ip;rcases hq with hq | hq
 ·obtain ⟨its,r',pl,hz⟩:=I.list hq;have hlen:=r'.length;exact Calls.call_len_list pl.isList (by simp only [List.size_toArray] <;> omega) ⟨.int ys.length,H,I.tok _,⟨s.toks + 1,by rw [List.size_toArray,hlen]⟩,q⟩
 ·obtain ⟨its,r',pl,hz⟩:=I.tuple hq;have hlen:=r'.length;exact len_tuple pl (by simp only [List.size_toArray] <;> omega) ⟨.int ys.length,H,I.tok _,⟨s.toks + 1,by rw [List.size_toArray,hlen]⟩,q⟩
theorem iw:ce X (.type "list") (λ xs H Q=>∃p ys,xs=[.ref p]/\(SqL X.K H p ys\/SqT X.K H p ys)/\∀l,H l=none->Q (.ref l) (upd H l (.lst ys))):=by
 intro pins s σ H xs us Q I r h;obtain ⟨p,ys,rfl,hq,q⟩:=h;obtain ⟨u,rfl,rx⟩:=dh r;cases rx;have fin:∀ (its:List FF),Vals ys its->ys.length<=sizeLine->∀ (h':Heap) (c':Nat),(∀b o',s.heap.get? b=some o'->h'.get? b=some o') ->
   h'.get? s.heap.objs.size=some { cls:=.type "list", dict:=none, data:=.seq its.toArray c', slots:=#[] }->EP X pins σ Q (.ref s.heap.objs.size) { s with heap:=h' }:=λ its r' hz h' c' kp e =>
  ⟨.ref s.heap.objs.size,_,I.laid (t':=s.toks) kp (B0 _) (show ObjOk X.prog X.w _ h' _ (.lst ys) from ⟨hz,its,c',r',e⟩),rfl,q _ (I.hok.fresh (B0 _))⟩
 rcases hq with hq | hq
 ·obtain ⟨its,r',pl,hz⟩:=I.list hq;have hlen:=r'.length;obtain ⟨o,ho,hc,n,hd⟩:=pl.isList;exact call_list_seq p (.inl rfl) ho hc hd (λ h' c' kp e=>fin its r' hz h' c' kp e) (by simp only [List.size_toArray] <;> omega)
 ·obtain ⟨its,r',pl,hz⟩:=I.tuple hq;have hlen:=r'.length;obtain ⟨o,ho,hc,n,hd⟩:=pl;exact call_list_seq p (.inr rfl) ho hc hd (λ h' c' kp e=>fin its r' hz h' c' kp e) (by simp only [List.size_toArray] <;> omega)
theorem dS:ce X (.type "tuple") (λ xs H Q=>∃p ys,xs=[.ref p]/\((SqL X.K H p ys/\∀l,H l=none->Q (.ref l) (upd H l (.tup ys)))\/(SqT X.K H p ys/\Q (.ref p) H))):=by
 intro pins s σ H xs us Q I r h;obtain ⟨p,ys,rfl,h⟩:=h;obtain ⟨u,rfl,rx⟩:=dh r;cases rx;rcases h with ⟨hq,q⟩ | ⟨hq,q⟩
 ·obtain ⟨its,r',pl,hz⟩:=I.list hq;have hlen:=r'.length;refine call_tuple_list pl.isList (λ h' kp=>?_) (by simp only [List.size_toArray] <;> omega);have I1:Inv X pins σ H { s with heap:=h' }:=I.kept (t':=s.toks) kp;have I2:Inv X pins σ (upd H h'.objs.size (.tup ys)) { s with heap:=h'.push { cls:=.type "tuple", data:=.seq its.toArray } } :=
   I1.laid (t':=s.toks) (λ b o e=>A4 _ e) (B0 _) (show ObjOk X.prog X.w _ _ _ (.tup ys) from ⟨hz,its,r',IsTup.new _ _⟩)
  exact ⟨.ref h'.objs.size,_,I2,Y,q _ (I1.hok.fresh (B0 _))⟩
 ·obtain ⟨its,r',pl,hz⟩:=I.tuple hq;exact call_tuple_same pl ⟨.ref p,H,I,rfl,q⟩
def tyV (K:C1) (T:String) (x:V) (H:Hp):Prop:=match x with
 | .str _=>T = "str"
 | .int _=>T = "int"
 | .ref p=>(T = "list" /\ ∃xs,SqL K H p xs)\/(T = "tuple" /\ ∃o,K.lookup p=some o/\o.cls=.type "tuple" /\ o.dict=none) \/
   (T = "dict" /\ ((∃kvs,H p=some (.dK kvs))\/∃kvs,H p=some (.dT kvs)))\/(T = "set" /\ ∃S n,H p=some (.set S n))
 | _=>False
theorem tR {pins:List (Addr×Obj)} {σ:St} {H:Hp} {s:FB} {T:String} {x:V} {v:FF} (I:Inv X pins σ H s) (r:RelV x v) (ty:tyV X.K T x H) :
  s.TypeIs v T/\∀a,v=.ref a->∃ob,s.heap.get? a=some ob/\ob.dict=none:=by
 cases x with
 | str z =>
  obtain ⟨t,rfl⟩:=r;cases (show T = "str" from ty);exact ⟨typeIs_str s z t,λ _ e=>nomatch e⟩
 | int i =>
  obtain ⟨t,rfl⟩:=r;cases (show T = "int" from ty);exact ⟨typeIs_int s i t,λ _ e=>nomatch e⟩
 | ref p =>
  cases r;rcases ty with ⟨rfl,xs,hq⟩ | ⟨rfl,o,hk,hc,hd⟩ | ⟨rfl,hk⟩ | ⟨rfl,S,n,hk⟩
  ·obtain ⟨its,_,pl,_⟩:=I.list hq;refine ⟨pl.isList.typeIs,λ a e=>?_⟩;cases e;obtain ⟨o,n,e,c,hd,_⟩:=pl;exact ⟨o,e,hd⟩
  ·refine ⟨⟨o,I.kIn p o hk,hc⟩,λ a e=>?_⟩;cases e;exact ⟨o,I.kIn _ o hk,hd⟩
  ·have z:∃o,s.heap.get? p=some o/\o.ExactDict:=by
    rcases hk with ⟨kvs,hk⟩ | ⟨kvs,hk⟩
    ·obtain ⟨_,_,_,_,o,_,_,e,ex,_⟩:=I.hok p _ hk;exact ⟨o,e,ex⟩
    ·obtain ⟨_,_,_,_,o,_,_,e,ex,_⟩:=I.hok p _ hk;exact ⟨o,e,ex⟩
   obtain ⟨o,e,ex⟩:=z;refine ⟨⟨o,e,ex.1⟩,λ a e2=>?_⟩;cases e2;exact ⟨o,e,ex.2.1⟩
  ·obtain ⟨o,_,_,_,e,ex,_⟩:=I.hok p _ hk;refine ⟨⟨o,e,ex.1⟩,λ a e2=>?_⟩;cases e2;exact ⟨o,e,ex.2.1⟩
 | _=>exact E1 ty
def tBM (K:C1) (T:String) (r:V->List V->Hp->VK->Prop) (to:TE) (t:TA):TE:=λ σ H Q=>to σ H λ x H1=>tyV K T x H1/\t σ H1 λ xs H2=>r x xs H2 Q
variable {o e:Expr} {es:List Expr} {to:TE} {t:TA} {name:Str} {apos cpos:Pos} {T id:String} {r:V->List V->Hp->VK->Prop}
theorem fI (pa:PlainAttrs T) (slot:Slot T name id) (hty:typeOf (.builtin id)=pure (.type "method_descriptor")) (hm:MtR X id r) (ho:PE X o to) (ha:PA X (e :: es) t)
  (hbase:attributeBase o name X.env (eval o X.env)=eval o X.env:=by rfl)
  (hfew:((backTo cpos (starEach (e :: es) X.env)).all (λ x=>!x.1) && (backToKw cpos (keywordEach [] X.env)).all (λ x=>x.1.isSome)
   && decide ((e :: es).length + ([]:List Keyword).length + (if ([]:List Keyword).isEmpty then 0 else 1) < 30))=true:=by rfl)
  (hline:(apos.endLine == cpos.line)=true:=by rfl) (hs:starEach (e :: es) X.env=(false,eval e X.env) :: starEach es X.env:=by rfl) (hplain:(backTo cpos (starEach es X.env)).any (·.1)=false:=by rfl) :
  PE X (.Call (.Attribute o name apos) (e :: es) [] cpos) (tBM X.K T r to t):=by
 intro pins s σ H Q I h;refine wpAny_Call_method_late hbase hfew hline rfl (thn (ho pins s σ H _ I h) λ v s1 ⟨x,H1,I1,r1,ty,q1⟩=>?_);obtain ⟨h1,h2⟩:=tR I1 r1 ty;refine ⟨T,id,pa,slot,hty,h1,h2,?_⟩;have hA:=ha cpos pins s1 σ H1 _ I1 q1;rw [hs] at hA ⊢;refine Calls.callWith_builtin (by show (false || (backTo cpos (starEach es X.env)).any (·.1))=false; rw [hplain] <;> rfl) (Calls.evalArgs_plain ?_);exact thn hA λ us s2 ⟨vs,H2,I2,r2,q2⟩=>hm pins s2 σ H2 x vs v us Q I2 r1 r2 q2
/- xs.append(e),list.index on a module's tuple .. are MtR facts of 06m -/
end
def MtM (X:Cx) (id:String) (r:V->List V->Hp->VK->Prop):Prop :=
 ∀ (pins:List (Addr×Obj)) (s:FB) (σ:St) (H:Hp) (x:V) (xs:List V) (v:FF) (us:List FF) (Q:VK),Inv X pins σ H s->RelV x v->Vals xs us->r x xs H Q ->
  wpAny (model X.prog X.w) X.A (call (.builtin id) (v :: us)) (EP X pins σ Q) X.xe s
theorem Vals.one:∀ {x:V} {us:List FF},Vals [x] us->∃u,us=[u]/\RelV x u
 | _,_,.cons r .nil=>⟨_,Y,r⟩
theorem Vals.dropLast {xs:List V} {us:List FF} (h:Vals xs us):Vals xs.dropLast us.dropLast:=by
 induction h with
 | nil=>exact .nil
 | cons r t ih =>
  cases t with
  | nil=>exact .nil
  | cons q t'=>exact .cons r ih
theorem tS {α:Type} (l:List α):l.eraseIdx (l.length - 1)=l.dropLast:=by
 induction l with
 | nil=>rfl
 | cons a r ih =>
  cases r with
  | nil=>rfl
  | cons b r =>
   have e:(a :: b :: r).length - 1=((b :: r).length - 1) + 1:=by have h1:(a :: b :: r).length=r.length + 2:=rfl;have h2:(b :: r).length=r.length + 1:=rfl;omega
   rw [e,List.eraseIdx_cons_succ,ih]
   all_goals rfl
section
variable {X:Cx} {pins:List (Addr×Obj)} {σ:St} {H:Hp} {s:FB} {l b:Addr} {xs ys zs:List V}
theorem Inv.lset {its its':List FF} {n:Nat} {f:Array FF->Array FF} {t':Nat} (I:Inv X pins σ H s) (hH:H l=↥xs)
  (e:s.heap.get? l=some { cls:=.type "list", data:=.seq its.toArray n }) (hf:f its.toArray=its'.toArray) (hv:Vals ys its') (hz:ys.length<=sizeLine) :
  Inv X pins σ (upd H l (.lst ys)) { s with heap:=s.heap.update l (Obj.mapSeq f),toks:=t' }:=by
 have q:=PySem.IsL.update e f;rw [hf] at q;refine I.write (x:=l) (e:=l) (by rw [hH]; exact trivial) (.inl rfl) (λ b' u hb hu=>(Heap.get?_update_other s.heap (Obj.mapSeq f) (Ne.symm hb)).trans hu) ⟨_,q⟩ ?_;exact ⟨hz,its',_,hv,q⟩
theorem Inv.lnew {its:List FF} {t':Nat} (I:Inv X pins σ H s) (hv:Vals ys its) (hz:ys.length<=sizeLine) :
  Inv X pins σ (upd H s.heap.objs.size (.lst ys)) { s with heap:=s.heap.push { cls:=.type "list", data:=.seq its.toArray }, toks:=t' } :=
 I.laid (λ _ _ q=>A4 _ q) (B0 _) ⟨hz,its,0,hv,A5 _ rfl⟩
theorem Inv.fresh (I:Inv X pins σ H s):H s.heap.objs.size=none:=I.hok.fresh (B0 _)
theorem Inv.lstM (I:Inv X pins σ H s) (hH:H l=↥xs):xs.length<=sizeLine/\∃ (its:List FF) (n:Nat),Vals xs its/\xs.length=its.length/\s.heap.get? l=some { cls:=.type "list",data:=.seq its.toArray n }:=by obtain ⟨z,its,n,r,e⟩:=I.hok l _ hH;exact ⟨z,its,n,r,r.length,e⟩
theorem oJ {n:Nat} (h:n<=sizeLine):Builtin.List.listTooLong n=false:=by unfold Builtin.List.listTooLong;exact A8 ⋯
end
section
variable {X:Cx}
inductive rAppend (x:V) (vs:List V) (H:Hp) (Q:VK):Prop
 | mk (l:Addr) (xs:List V) (y:V) (e_0:x=.ref l) (e_1:vs=[y]) (e_2:H l=↥xs) (e_3:xs.length < sizeLine) (e_4:Q .non (upd H l (.lst (xs ++ [y])))):rAppend x vs H Q
theorem dE:MtM X "list.append" rAppend:=by intro pins s σ H x vs v us Q I rx rv h;obtain ⟨l,xs,y,rfl,rfl,hH,hz,q⟩:=h;cases rx;obtain ⟨u,rfl,ru⟩:=rv.one;obtain ⟨z,its,n,r,hl,e⟩:=I.lstM hH;refine call_meets F.slot_list_append ⟨_,e,Y⟩ F.entry_list_append (F.args_list_append_2 _ _) (PySem.list_append l its.toArray n u (by rw [List.size_toArray]; omega)) ⟨e,?_⟩;refine ⟨.non,_,I.lset (its':=its ++ [u]) hH e (by simp) (r.append (.cons ru .nil)) ?_,Y,q⟩;rw [List.length_append,List.length_singleton];omega
def qZ:V->List V->Hp->VK->Prop:=λ x vs H Q=>∃l b xs zs,x=.ref l/\vs=[.ref b]/\H l=↥xs/\H b=↥zs/\xs.length + zs.length<=sizeLine/\Q .non (upd H l (.lst (xs ++ zs)))
theorem xZ:MtM X "list.extend" qZ:=by
 intro pins s σ H x vs v us Q I rx rv h;obtain ⟨l,b,xs,zs,rfl,rfl,hH,hB,hz,q⟩:=h;cases rx;obtain ⟨u,rfl,ru⟩:=rv.one;cases ru;obtain ⟨z,its,n,r,hl,e⟩:=I.lstM hH;obtain ⟨z2,its2,n2,r2,hl2,e2⟩:=I.lstM hB;have hsz:its.toArray.size + its2.toArray.size<=sizeLine:=by rw [List.size_toArray,List.size_toArray]; omega
 have hlong:¬ (!its.toArray.isEmpty && Builtin.List.listTooLong (its.toArray.size + its2.toArray.size))=true:=by rw [oJ hsz,Bool.and_false];exact A9
 refine call_meets F.slot_list_extend ⟨_,e,Y⟩ F.entry_list_extend (F.args_list_extend_2 _ _)
  (AutoSeq1.list_extend_list_list_0 l its.toArray n b its2.toArray n2 hlong (by rw [List.size_toArray]; omega) ⋯) ⟨e,e2,?_⟩
 refine ⟨.non,_,I.lset (its':=its ++ its2) hH e (by simp) (r.append r2) ?_,Y,q⟩;rw [List.length_append];omega
inductive rCat (x:V) (y:V) (H:Hp) (Q:VK):Prop
 | mk (l:Addr) (b:Addr) (xs:List V) (zs:List V) (e_0:x=.ref l) (e_1:y=.ref b) (e_2:H l=↥xs) (e_3:H b=↥zs) (e_4:xs.length + zs.length<=sizeLine) (e_5:∀p,H p=none->Q (.ref p) (upd H p (.lst (xs ++ zs)))):rCat x y H Q
theorem ix:OpR X (binaryOp .Add) rCat:=by
 intro pins s σ H x y v u Q I rx ry h;obtain ⟨l,b,xs,zs,rfl,rfl,hH,hB,hz,q⟩:=h;cases rx;cases ry;obtain ⟨z,its,n,r,hl,e⟩:=I.lstM hH;obtain ⟨z2,its2,n2,r2,hl2,e2⟩:=I.lstM hB;refine PySem.P.add_list e e2 ?_ (by rw [List.size_toArray,List.size_toArray]; omega);have ea:its.toArray ++ its2.toArray=(its ++ its2).toArray:=by simp
 rw [ea];exact ⟨.ref _,_,I.lnew (t':=s.toks) (r.append r2) (by rw [List.length_append]; omega),Y,q _ I.fresh⟩
end
end L2
namespace Att
open PySem PySem.W PySem.Calls PyProof.Rows
theorem fK {P:Params} {h:Heap}:∀ (ns:List Int) (vs:List FF),WellAll P h vs (ns.map WData.int)->IntsAre vs ns:=by
 intro ns
 induction ns with
 | nil =>
  intro vs w;rw [List.map_nil] at w;cases w;exact .nil
 | cons n ns ih =>
  intro vs w;rw [List.map_cons] at w;cases w with
  | cons a b =>
   cases a;exact .cons _ _ (ih _ b)
theorem mM {l:OpenLaw} {n:Nat} (hn:l.most=some n) {P:Params} {h:Heap} {args:List WData} {vals:List FF}
  (hpre:l.row.toRowW.claim.pre args=true) (hwl:WellAll P h vals args) :
  ∃a vs ns,vals=[Value.ref a]/\args=[WData.list (ns.map WData.int)]/\h.get? a=some { cls:=.type "list",data:=.seq vs.toArray }/\IntsAre vs ns/\ns.length<=n:=by
 have hsh:WShape.hasAll [] args [.list .int]=true:=(pre_splitW hpre).1;have hc:l.pre.holds [] { args:=args }=true:=(pre_splitW hpre).2;obtain ⟨d,r,rfl,h1,h2⟩:=hasAllW_cons hsh;obtain rfl:=hasAllW_nil h2;obtain ⟨xs,rfl,h3⟩:=hasW_list h1;obtain ⟨ns,rfl⟩:=items_int h3;have hlen:ns.length<=n:=by
  unfold OpenLaw.pre at hc;have h4:(WTm.not (.lt (.lit (.int (n:Int))) (.len (.arg 0)))).holds [] { args:=[.list (ns.map .int)] }=true:=by have h4:=(holds_andW hc).1;rw [hn] at h4;exact h4
  have h5:=condW_of h4 (w_not (w_lt w_lit (w_len_list (w_arg rfl))));rw [List.length_map] at h5;refine Nat.le_of_not_lt λ q=>?_;have q':(n:Int) < ((ns.length:Nat):Int):=⋯
  first
   | (rw [decide_eq_true q'] at h5; exact absurd h5 ∅)
   | (simp at h5; omega)
 cases hwl with
 | cons w1 w2 =>
  cases w2;cases w1 with
  | list ho hall=>exact ⟨_,_,ns,Y,Y,ho,fK ns _ hall,hlen⟩
theorem mO (l:OpenLaw) (args:List WData):l.row.toRowW.claim.post args (.bool true) args=true :=
 postW_of (r:=l.row.toRowW) (X:=(true == true))
  (show WShape.has [] (.bool true) .bool=true by first | rfl | decide | simp [WShape.has,WShape.arms,WShape.armsAll])
  (show (WTm.eq .res (.lit (.bool true))).value [] { args:=args,res:=some (.bool true),after:=args }=some (.bool (true == true)) from w_eq_bool (w_res rfl) w_lit) rfl
theorem attach_call {l:OpenLaw} {n:Nat} {q:FC} {loose:List Str} {XP:(Str->Option FF)->Heap->Prop} {YP:FE->Heap->Prop} {d:DefRec}
  (hn:l.most=some n) (hdf:d.params.defaults=[])
  (call:∀ (w:FE) (s₀ s₁:FB) (mg mb:Str->Option FF) (fa:Addr) (o:Obj) (pm cd doc:FF) (a:Addr) (vs:List FF) (ns:List Int),
   Ground q loose [] XP w s₀ mg mb s₁.heap->YP w s₁.heap ->
   s₁.heap.get? fa=some o->o.data=.func (docDef d.name d.params d.body d.scope pm cd doc)->s₁.heap.CodeRec cd d.name->mg d.name=↑fa ->
   s₁.heap.get? a=some { cls:=.type "list",data:=.seq vs.toArray }->IntsAre vs ns->ns.length<=n->s₁.gens=#[] ->
   codeAny (model l.prog w) callerA (.call (.ref fa) ⟨[.ref a],[]⟩) (λ r s'=>r=.ok (.ret (.bool true))/\OldK s₁.heap s'.heap/\s'.os=s₁.os/\AllBare s'.gens) s₁) :
  WalkO q loose XP YP l.row.toRowW d [] (λ f vs=>PySem.call f vs):=by
 intro w s₀ s₁ mg mb G YY0 fa o pm cd doc dV kV ho hd hcd hD hmg hg args vals as hpre hlay hrd hwl hlo;obtain rfl:dV=.none:=Dflts.none hD hdf;obtain rfl:kV=.none:=Dflts.noKw hD;obtain ⟨a,vs,ns,rfl,rfl,hobj,hints,hlen⟩:=mM hn hpre hwl;refine enter_call (codeAny_mono (call w s₀ s₁ mg mb fa o pm cd doc a vs ns G YY0 ho (fd_plain hd) hcd hmg hobj hints hlen hg) λ r s' hq=>?_);obtain ⟨rfl,h2,h3,h4⟩:=hq;exact ⟨.inl ⟨.bool true,.bool true,[],Y,λ _=>rfl,.bool true,mO l _,λ _=>⟨List.Pairwise.nil,λ _ hm=>(nomatch hm)⟩⟩,h2,h3,h4⟩
section
variable {prog:FC} {w:FE} {A:Around} {E:FF->FB->Prop} {s:FB} {K:Frag}
def CN (h:Heap) (L d:Addr):List (Addr×Obj):=(List.range h.objs.size).filterMap λ a=>if a=L\/a=d then none else (h.get? a).map λ o=>(a,o)
end
end Att
namespace L2
open PySem PySem.Spec PyProof.Rows
theorem hU:∀ {vs:List FF} {ns:List Int},IntsAre vs ns->Vals (ns.map V.int) vs
 | _,_,.nil=>.nil
 | _,_,.cons n t h=>.cons ⟨t,Y⟩ (hU h)
def tT (H:Hp):Prop:=∀b,H b=none\/∃o xs,H b=some (.frz o (.lst xs))
theorem oK {P:FC} {w:FE} {K:C1} {mg mb:Str->Option FF} {CX:CXT} {k:Nat} {fa a:Addr} {fd:FD} {x:Str} {sp:Sp} {s₁:FB} {vs:List FF} {ns:List Int}
  (KX:K.In s₁.heap) (hns:s₁.heap.Ns mainGlobals mg) (hb:s₁.heap.Ns builtinsNs mb) (hbb:∀x:Str,x ≠ "__name__" -> mb x=bootBuiltins x) (hlim:s₁.heap.NoLimit) (hg:s₁.gens=#[])
  (ha:s₁.heap.get? a=some { cls:=.type "list",data:=.seq vs.toArray }) (hi:IntsAre vs ns) (hl:ns.length<=sizeLine) (hr:Room k callerA)
  (F:∀base:Heap,K.In base->base.Ns mainGlobals mg->FnOk P w K mg base CX k fa fd [x] sp) (hbind:∀ (s:FB) (u:FF),BindsTo s fd ⟨[u],[]⟩ [(x,u)])
  (hsp:∀H:Hp,tT H->SqL K H a (ns.map V.int)->sp [.ref a] H (λ v _=>v=.bl true) λ _ _ _=>False)
  (hCX:∀H e s',CX [] H s₁ (λ _ _ _=>False) e s'->False) :
  codeAny (model P w) callerA (.call (.ref fa) ⟨[.ref a],[]⟩) (λ r s'=>r=.ok (.ret (.bool true))/\OldK s₁.heap s'.heap/\s'.os=s₁.os/\AllBare s'.gens) s₁:=by
 have rv:=hU hi;have lenV:=hi.length;have core:∀H:Hp,tT H->SqL K H a (ns.map V.int)->HOk P w H s₁.heap->(∀b,H b≠none->b=a)->(H a≠none->K.lookup a=none) ->
   codeAny (model P w) callerA (.call (.ref fa) ⟨[.ref a],[]⟩) (λ r s'=>r=.ok (.ret (.bool true))/\OldK s₁.heap s'.heap/\s'.os=s₁.os/\AllBare s'.gens) s₁:=by
  intro H hO hS hok hA hK;have base_of:∀ {b:Addr} {o:Obj},s₁.heap.get? b=some o->H b=none->(ik s₁.heap H).get? b=some o:=λ e n=>oo e n;have noA:∀ {b:Addr} {o:Obj} {es:Array DictEntry} {ep:Nat},s₁.heap.get? b=some o->o.data=.dict es ep->H b=none:=λ {b o es ep} e d=>by
   cases q:H b with
   | none=>rfl
   | some u =>
    have e':b=a:=hA b (by rw [q]; simp);subst e';rw [ha] at e; cases e;have d':Data.seq vs.toArray _=Data.dict es ep:=d;cases d'
  have nsK:∀ {b:Addr} {m:Str->Option FF},s₁.heap.Ns b m->(ik s₁.heap H).Ns b m:=λ {b m} ⟨o,es,ep,e,d,r⟩=>⟨o,es,ep,base_of e (noA e d),d,r⟩
  have hKb:K.In (ik s₁.heap H):=λ b o e=>base_of (KX b o e) (by
   cases q:H b with
   | none=>rfl
   | some u =>
    have e':b=a:=hA b (by rw [q]; simp);subst e';rw [hK (by rw [q]; simp)] at e; cases e)
  have hM:Mod K mg (ik s₁.heap H):=⟨hKb,nsK hns,⟨mb,nsK hb,hbb⟩,let ⟨mc,h1,h2⟩:=hlim; ⟨mc,nsK h1,h2⟩⟩
  have e0:Env0 P w K mg (ik s₁.heap H) callerA [] s₁ H:=⟨Y,hM,λ b o e=>qL e,Nat.le_of_eq (mE _ _),trivial,λ b hb=>absurd (show b∈([]:List Addr) from hb) (by simp),hok,.of_eq hg⟩
  refine codeAny_mono ((F _ hKb (nsK hns)).run callerA [] s₁ H ⟨[.ref a],[]⟩ [.ref a] [.ref a] _ _ hr e0 (hbind s₁ (.ref a)) (.cons rfl .nil) (hsp H hO hS)) λ r s' h=>?_;cases r with
  | error e=>exact (hCX H e s' h).elim
  | ok fl =>
   cases fl with
   | next=>exact E1 h
   | brk=>exact E1 h
   | cont=>exact E1 h
   | ret u =>
    obtain ⟨v,H',os,bare,un,hok',r',q⟩:=h;have q':v=.bl true:=q;subst q';obtain rfl:u=Value.bool true:=r';refine ⟨Y,OldK.of_keep λ b o e=>?_,os,bare⟩;cases q:H b with
    | none=>exact un.keep b o e q (by intro z; exact absurd (show b∈([]:List Addr) from z) (by simp)) (by simp)
    | some u =>
     rcases hO b with z | ⟨ob,xs,z⟩
     ·rw [q] at z; cases z
     ·have z2:=un.frzs b ob _ z;obtain ⟨e1,_⟩:=hok b _ z;obtain ⟨e2,_⟩:=hok' b _ z2;rw [e] at e1; cases e1;exact e2
 cases hk:K.lookup a with
 | some o =>
  have e:=KX a o hk;rw [ha] at e;cases e;refine core (λ _=>none) (λ _=>.inl rfl) (.inr ⟨_,vs.toArray,_,hk,Y,Y,Y,by rw [List.size_toArray,lenV]; exact hl,by simpa using rv⟩) (λ b u z=>by have z':(none:Option HO)=some u:=z; cases z') (λ b z=>absurd rfl z) λ z=>absurd rfl z
 | none =>
  refine core (λ b=>if b=a then some (.frz { cls:=.type "list",data:=.seq vs.toArray } (.lst (ns.map V.int))) else none) (λ b=>?_) (.inl (.inr ⟨{ cls:=.type "list",data:=.seq vs.toArray },if_pos rfl⟩)) (λ b u z=>?_) (λ b z=>?_) λ _=>hk
  ·by_cases hb:b=a
   ·exact .inr ⟨_,_,if_pos hb⟩
   ·exact .inl (if_neg hb)
  ·by_cases hb:b=a
   ·have z':=(if_pos hb).symm.trans z;cases z';subst hb;exact ⟨ha,by rw [List.length_map]; exact hl,vs,_,rv,ha⟩
   ·have z':=(if_neg hb).symm.trans z;cases z'
  ·by_cases hb:b=a
   ·exact hb
   ·exact absurd (if_neg hb) z
theorem walk_of {l:PySem.W.OpenLaw} {n k:Nat} {q:FC} {loose:List Str} {XP:(Str->Option FF)->Heap->Prop} {YP:FE->Heap->Prop} {d:DefRec} {K:Params->C1} {CX:FE->CXT} {sp:FE->Sp} {x:Str}
  (hn:l.most=some n) (hn2:n<=sizeLine) (hdf:d.params.defaults=[]) (hr:Room k callerA)
  (hY:∀ (w:FE) (h:Heap),YP w h->(K w.params).In h)
  (F:∀ (w:FE) (mg:Str->Option FF) (fa:Addr) (h:Heap),(K w.params).In h->h.Ns mainGlobals mg->mg d.name=↑fa ->
   ∃fd:FD,(∀ (s:FB) (u:FF),BindsTo s fd ⟨[u],[]⟩ [(x,u)]) /\
    ∀base:Heap,(K w.params).In base->base.Ns mainGlobals mg->FnOk l.prog w (K w.params) mg base (CX w) k fa fd [x] (sp w))
  (hsp:∀ (w:FE) (H:Hp) (a:Addr) (ns:List Int),ns.length<=n->tT H->SqL (K w.params) H a (ns.map V.int)->sp w [.ref a] H (λ v _=>v=.bl true) λ _ _ _=>False)
  (hCX:∀ (w:FE) (H:Hp) (s:FB) (e:FF) (s':FB),CX w [] H s (λ _ _ _=>False) e s'->False) :
  PySem.W.WalkO q loose XP YP l.row.toRowW d [] (λ f vs=>PySem.call f vs):=by
 refine Att.attach_call hn hdf λ w s₀ s₁ mg mb fa o pm cd doc a vs ns G YY0 ho hd hcd hmg hobj hints hlen hg=>?_;have KX:=hY w _ YY0;obtain ⟨fd,hb,hF⟩:=F w mg fa _ KX G.T.g hmg;exact oK KX G.T.g G.T.b G.T.builtins G.T.nolimit hg hobj hints (C2 hlen hn2) hr hF hb (λ H hO hS=>hsp w H a ns hlen hO hS) λ H e s'=>hCX w H s₁ e s'
def inClass (s:Stmt) (j:Nat):Stmt:=match s with
 | .ClassDef _ _ _ body _ _ _ _ _ _ _=>body.getD j (.Pass ⟨0,0,0,0⟩)
 | _=>.Pass ⟨0,0,0,0⟩
def defArgs (s:Stmt):Arguments:=match s with
 | .FunctionDef _ a _ _ _ _ _ _ _ _=>a
 | _=>{ posonlyargs:=[],args:=[],vararg:=none,kwonlyargs:=[],kw_defaults:=[],kwarg:=none,defaults:=[] }
def defBody (s:Stmt):List Stmt:=match s with
 | .FunctionDef _ _ b _ _ _ _ _ _ _=>b
 | _=>[]
def defScope (s:Stmt):Scope:=match s with
 | .FunctionDef _ _ _ _ _ _ sc _ _ _=>sc
 | _=>{ kind:=.function,names:=[],isGenerator:=false,isCoroutine:=false }
abbrev CX0:CXT:=λ _ _ _ _ _ _=>False
abbrev E0:XK:=λ _ _ _=>False
theorem lO {X:Cx}:ef CX0 X E0:=λ _ _ _ _ _ _ _ h=>h.elim
structure Fun (K:C1) (x qual:Str) (st:Stmt) (f:Addr) (fd:FuncData):Prop where
 ex:∃ (oc:FF) (od:Option Addr) (kV doc pm:FF) (an:Option Addr) (cdv ct:FF) (osl:Array (Option FF)),
  fd=C9 x qual (defArgs st) (defBody st) (defScope st) .none kV doc pm an cdv ct/\K.lookup f=some ⟨oc,od,.func fd,osl⟩/\PySem.W.codeIn K cdv qual=true
 kp:PySem.W.keepIn K (.ref f)=true
section
variable {P:FC} {w:FE} {K:C1} {mg:Str->Option FF} {base:Heap}
theorem Fun.ok {x qual:Str} {st:Stmt} {f:Addr} {fd:FD} {N ps:List Str} {k:Nat} {sp:Sp} (F:Fun K x qual st f fd) (S:FnScope N ps (defScope st)) (len:∀vs H Q E,sp vs H Q E->vs.length=ps.length)
  (hbody:∀ (cdv:FF) (A:Around) (outer:List Env) (s:FB) (H:Hp) (vs:List V) (Q:VK) (E:XK),Room k (A.deeper (envOfC qual (defScope st) s.heap.objs.size f cdv))->sp vs H Q E ->
   ∃t,PSs (eF CX0 P w K mg base N qual (defScope st) f cdv A outer s H E).nox (defBody st) t/\t { nx:=λ _ H'=>Q .non H',rt:=Q } (dj N vs) H):FnOk P w K mg base CX0 (k + 1) f fd ps sp:=by
 obtain ⟨oc,od,kV,doc,pm,an,cdv,ct,osl,rfl,lk,hcd⟩:=F.ex;refine tm lk hcd S len λ A outer s H vs Q E hr hsp=>?_;obtain ⟨t,h,q⟩:=hbody cdv A outer s H vs Q E hr hsp;exact ⟨t,h.nox,q⟩
theorem Fun.binds {x qual:Str} {st:Stmt} {f:Addr} {fd:FD} {ps:List Str} (F:Fun K x qual st f fd)
  (h:∀ (kV doc pm:FF) (an:Option Addr) (cdv ct:FF) (us:List FF),us.length=ps.length->bindArgs (C9 x qual (defArgs st) (defBody st) (defScope st) .none kV doc pm an cdv ct) ⟨us,[]⟩=pure (ps.zip us)):Binds K fd ps []:=by
 obtain ⟨oc,od,kV,doc,pm,an,cdv,ct,osl,rfl,lk,hcd⟩:=F.ex;exact .all (h kV doc pm an cdv ct)
theorem jQ {x qual:Str} {st:Stmt} {f:Addr} {oc:FF} {od an:Option Addr} {osl:Array (Option FF)} {kV doc pm cdv ct:FF} (l:K.lookup f=some ⟨oc,od,.func (C9 x qual (defArgs st) (defBody st) (defScope st) .none kV doc pm an cdv ct),osl⟩)
  (c:PySem.W.codeIn K cdv qual=true) (k:PySem.W.keepIn K (.ref f)=true):Fun K x qual st f (C9 x qual (defArgs st) (defBody st) (defScope st) .none kV doc pm an cdv ct):=⟨⟨oc,od,kV,doc,pm,an,cdv,ct,osl,Y,l,c⟩,k⟩
end
section
variable {X:Cx}
theorem pv (i:Nat) {x:Str} {pos:Pos} (hN:X.N[i]? = some x:=by rfl) (hv:Vis X.env.scope x:=by first | exact Or.inl rfl | exact Or.inr (Or.inl rfl) | exact Or.inr (Or.inr rfl)) (hd:(x == ("__debug__" : Str))=false:=by decide)
  (hcd:(x == ("__classdict__" : Str))=false:=by decide):PE X (.Name x pos) (tVar i):=tK hN hv hd hcd
end
theorem aD {A B:Prop} (h:B):if false=true then A else B:=by rw [if_neg Bool.false_ne_true];exact h
theorem aP {A B:Prop} (h:A):if true=true then A else B:=by rw [if_pos rfl];exact h
theorem fL {c A B:Prop} [Decidable c] (h1:c->A) (h2:¬ c->B):if c then A else B:=by
 by_cases h:c
 ·rw [if_pos h];exact h1 h
 ·rw [if_neg h];exact h2 h
def Same (H H':Hp):Prop:=∀b o,H b=some o->H' b=some o
theorem Same.refl (H:Hp):Same H H:=λ _ _ h=>h
theorem Same.trans {H H1 H2:Hp} (a:Same H H1) (b:Same H1 H2):Same H H2:=λ c o h=>b c o (a c o h)
theorem Same.free {H H':Hp} (e:Same H H') {l:Addr} (h:H' l=Option.none):H l=Option.none:=by
 cases q:H l with
 | none=>rfl
 | some o =>
  rw [e l o q] at h;cases h
def aY (env:Env):List (Str×NameKind)->List (Str×Addr)->List (Str×Addr)
 | [],acc=>acc
 | (n,k) :: r,acc=>aY env r (if (k == NameKind.free)=true then (n,(env.cells.lookup n).getD 0) :: acc else acc)
theorem cq (env:Env):∀ (names:List (Str×NameKind)) (acc:List (Str×Addr)) (x:Str) (c:Addr),(∀y∈names,y.2=.free->∃c,env.cells.lookup y.1=some c) ->
  (∀x c,acc.lookup x=some c->env.cells.lookup x=some c)->(aY env names acc).lookup x=some c->env.cells.lookup x=some c
 | [],acc,x,c,_,h,e=>h x c e
 | (n,k) :: r,acc,x,c,hf,h,e=>by
  refine cq env r _ x c (λ y hy=>hf y (B1 _ hy)) (λ x c e'=>?_) e
  by_cases hk:(k == NameKind.free)=true
  ·rw [if_pos hk] at e';obtain ⟨c0,hc0⟩:=hf (n,k) B4 (by simpa using hk);have hc0':env.cells.lookup n=some c0:=hc0;rw [List.lookup_cons] at e';cases hx:x == n with
   | true =>
    rw [hx] at e';have:x=n:=by simpa using hx
    subst this;rw [hc0'] at e' ⊢;simpa using e'
   | false=>rw [hx] at e'; exact h x c e'
  ·rw [if_neg hk] at e'; exact h x c e'
theorem gm (env:Env):∀ (names:List (Str×NameKind)) (acc:List (Str×Addr)) (x:Str),(∃c,acc.lookup x=some c)->∃c,(aY env names acc).lookup x=some c
 | [],acc,x,h=>h
 | (n,k) :: r,acc,x,h=>by
  refine gm env r _ x ?_
  by_cases hk:(k == NameKind.free)=true
  ·rw [if_pos hk,List.lookup_cons];cases hx:x == n with
   | true=>exact ⟨_,Y⟩
   | false=>exact h
  ·rw [if_neg hk]; exact h
theorem fh (env:Env):∀ (names:List (Str×NameKind)) (acc:List (Str×Addr)) (x:Str),(x,NameKind.free)∈names->∃c,(aY env names acc).lookup x=some c
 | [],acc,x,h=>by simp at h
 | (n,k) :: r,acc,x,h=>by
  rcases List.mem_cons.mp h with e | e
  ·have e1:x=n:=congrArg Prod.fst e;have e2:NameKind.free=k:=congrArg Prod.snd e;subst e1;subst e2;refine gm env r _ x ?_;rw [if_pos (by simp),List.lookup_cons];simp
  ·exact fh env r _ x e
theorem eh {env:Env} {scope:Scope} (hf:∀y∈scope.names,y.2=.free->∃c,env.cells.lookup y.1=some c):closureFor scope env=pure (aY env scope.names []):=by
 have key:∀ (names:List (Str×NameKind)) (acc:List (Str×Addr)),(∀y∈names,y.2=.free->∃c,env.cells.lookup y.1=some c) ->
   (forIn names acc (λ (x:Str×NameKind) (r:List (Str×Addr))=>(if (x.2 == NameKind.free)=true then do
    let a<-cellOf env x.1
    pure (ForInStep.yield ((x.1,a) :: r)) else pure (ForInStep.yield r)) ):Sem (List (Str×Addr)))=pure (aY env names acc):=by
  intro names
  induction names with
  | nil=>intro acc _; rfl
  | cons y r ih =>
   intro acc h;obtain ⟨n,k⟩:=y;have ih':=λ acc=>ih acc λ z hz=>h z (B1 _ hz);rw [List.forIn_cons]
   by_cases hk:(k == NameKind.free)=true
   ·obtain ⟨c,hc⟩:=h (n,k) B4 (by simpa using hk);have hc':env.cells.lookup n=some c:=hc;have e1:cellOf env n=pure c:=by unfold cellOf; rw [hc']
    have e2:aY env ((n,k) :: r) acc=aY env r ((n,c) :: acc):=by show aY env r _=_;rw [if_pos hk,hc']; rfl
    rw [if_pos hk,e2,<- ih'];show ((cellOf env n >>= λ a=>pure (ForInStep.yield ((n,a) :: acc))) >>= _)=_;rw [e1]
    rfl
   ·have e2:aY env ((n,k) :: r) acc=aY env r acc:=by show aY env r _=_;rw [if_neg hk]
    rw [if_neg hk,e2,<- ih']
    rfl
 have:=key scope.names [] hf;simp only [closureFor];exact (congrArg (λ m=>m >>= λ r=>(pure r:Sem _)) this).trans rfl
theorem iy {env:Env} {scope:Scope} (hcell:∀y∈scope.names,y.2≠.cell) {x:Str}:((relabel scope env).names.lookup x=some .cell\/(relabel scope env).names.lookup x=some .free)->(x,NameKind.free)∈scope.names:=by
  have key:∀names:List (Str×NameKind),(∀y∈names,y.2≠.cell)->∀k,(names.map λ (n,k)=>if (k == NameKind.free && env.scope.kind == .function && env.kindOf n == some .cell) then (n,NameKind.cell) else (n,k)).lookup x=some k ->
      (k=.cell\/k=.free)->(x,NameKind.free)∈names:=by
    intro names
    induction names with
    | nil=>intro _ k h _; simp at h
    | cons y r ih =>
      obtain ⟨n,k'⟩:=y;intro hc k h hk;have nc:k'≠.cell:=hc (n,k') B4;rw [List.map_cons] at h
      by_cases hb:(k' == NameKind.free && env.scope.kind == .function && env.kindOf n == some .cell)=true
      . have hb':k'=.free:=by simp at hb; exact hb.1.1
        dsimp only at h;rw [if_pos hb,List.lookup_cons] at h;cases hx:x == n with
        | true => have : x = n := by simpa using hx
                  subst this; subst hb'; exact B4
        | false=>rw [hx] at h; exact B1 _ (ih (λ y hy=>hc y (B1 _ hy)) k h hk)
      . dsimp only at h
        rw [if_neg hb,List.lookup_cons] at h;cases hx:x == n with
        | true =>
          rw [hx] at h;have:x=n:=by simpa using hx
          subst this;have e:k'=k:=by simpa using h
          rcases hk with q | q
          . exact absurd (e.trans q) nc
          . rw [e,q]; exact B4
        | false=>rw [hx] at h; exact B1 _ (ih (λ y hy=>hc y (B1 _ hy)) k h hk)
  rintro (h | h)
  . exact key _ hcell _ h (.inl rfl)
  . exact key _ hcell _ h (.inr rfl)
def aE (X:Cx) (pins:List (Addr×Obj)) (s2:FB) (H2:Hp) (scope:Scope) (C:Addr) (N':List Str) (fp:List Addr):Cx where
 prog:=X.prog
 w:=X.w
 K:=X.K
 mg:=X.mg
 base:=X.base
 A:=X.A
 N:=N'
 s₀:=s2
 H₀:=H2
 env:=compEnvC scope (aY X.env scope.names []) C X.env
 outer:=X.stack
 stack:=X.stack
 ex:=fp
 fn:=λ _=>false
 calm:=X.calm
 pn:=X.pn ++ pins
 xe:=λ _ _=>False
def aU (σ:St) (cap:List Nat) (k:Nat):St:=List.replicate k none ++ cap.map λ j=>(σ[j]?).join
def leS (σ σ':St):Prop:=σ'.length=σ.length/\∀ (i:Nat) v,σ[i]? = some (some v)->σ'[i]? = some (some v)
theorem leS.set {σ:St} {i:Nat} {v:V} (h:σ[i]? = some none):leS σ (σ.set i (some v)):=by
 refine ⟨by simp,λ j w e=>?_⟩
 by_cases hj:j=i
 ·subst hj; rw [h] at e; cases e
 ·rw [List.getElem?_set_ne (Ne.symm hj)]; exact e
structure CompOk (X:Cx) (scope:Scope) (own:List Str) (cs:List Str) (cap:List Nat):Prop where
 kind:scope.kind=.function
 cell:∀y∈scope.names,y.2≠.cell
 names:∀y∈scope.names,y.2=.local->scope.names.lookup y.1=some .local
 free:∀y∈scope.names,y.2=.free->X.env.kindOf y.1=some .cell\/X.env.kindOf y.1=some .free
 caps:∀ (i:Nat) y,cs[i]? = some y->∃j,cap[i]? = some j/\X.N[j]? = some y/\(y,NameKind.free)∈scope.names
 ownl:∀y∈own,scope.names.lookup y=some .local
 len:cs.length=cap.length
 free2:∀y,(y,NameKind.free)∈scope.names->scope.names.lookup y=some .local->False
def iz (X:Cx) (ifs:List Expr) (tt:TT):Prop :=
 ∀ (pins:List (Addr×Obj)) (s:FB) (σ:St) (H:Hp) (Q:Bool->Hp->Prop),Inv X pins σ H s->tt σ H Q ->
  wpAny (model X.prog X.w) X.A (forIn ifs true λ c r=>if r=true then do let ok<-isTrue c X.env (eval c X.env); pure (ForInStep.yield ok) else pure (ForInStep.yield r)) (TP X pins σ Q) X.xe s
def yv:TT:=λ _ H Q=>Q true H
theorem bi {X:Cx}:iz X [] yv:=λ _ _ _ H _ I h=>wpAny_tests_nil ⟨H,I,h⟩
theorem oM {X:Cx} {c:Expr} {tt:TT} (h:PT X c tt):iz X [c] tt:=λ pins s σ H Q I q=>wpAny_tests_one (h pins s σ H Q I q)
def dU (σ:St) (cap:List Nat) (k:Nat) (J:It) (g:TG) (tt:TT) (te:TE) (Q:List V->Hp->Prop) (W:Nat->Nat->List V->Hp->Prop):Prop :=
 ∀i m ys H,W i m ys H->(J.stop i H/\ys.length<=sizeLine/\Q ys H) \/
  (J.go i H/\ys.length < sizeLine/\∀x H',J.yld i H x H'->g x (aU σ cap k) H' λ σ2 H2=>leS (aU σ cap k) σ2/\tt σ2 H2 λ ok H3 =>
   if ok=true then te σ2 H3 (λ v H4=>∃m',m' < m/\W (i + 1) m' (ys ++ [v]) H4) else ∃m',m' < m/\W (i + 1) m' ys H3)
theorem HOk.but {P:FC} {w:FE} {H:Hp} {h h':Heap} {C:Addr} (x:HOk P w H h) (n:H C=none) (k:Heap.SameBut C h h'):HOk P w H h':=λ b ob e=>by
 refine (x b ob e).stay (λ c w' hc q=>(k.2 c ?_).trans q) (λ _ q=>q) λ _ _ q=>q;rintro rfl;rcases hc with rfl | hc
 ·rw [n] at e; cases e
 ·rw [n] at hc; cases hc
theorem HOk.add {P:FC} {w:FE} {H:Hp} {h:Heap} {a:Addr} {o:HO} (x:HOk P w H h) (n:H a=none) (new:ObjOk P w (upd H a o) h a o):HOk P w (upd H a o) h:=λ b u e=>by
 by_cases hb:b=a
 ·subst hb; rw [ae] at e; cases e; exact new
 ·rw [aj hb] at e;exact (x b u e).stay (λ c v _ q=>q) (λ c q=>by rw [aj (ah q n)]; exact q) λ c xs q=>by rw [aj (ah q n)]; exact q
section
variable {X:Cx} {pins:List (Addr×Obj)} {σ:St} {H2:Hp} {s2:FB} {scope:Scope} {own cs:List Str} {cap:List Nat} {fp:List Addr}
theorem hV {h1:Heap} {C:Addr} {tk:Nat} (I:Inv X pins σ H2 s2) (ok:CompOk X scope own cs cap) (hf:∀b∈fp,dP X pins H2 b) (hfl:∀b∈fp,b < s2.heap.objs.size)
  (hC:s2.heap.objs.size<=C) (hns:h1.Ns C (λ _=>none)) (old:∀b o,s2.heap.get? b=some o->h1.get? b=some o) :
  Inv (aE X pins s2 H2 scope C (own ++ cs) fp) [] (aU σ cap own.length) H2 { s2 with heap:=h1,toks:=tk }:=by
 have hfr:∀y∈scope.names,y.2=.free->∃c,X.env.cells.lookup y.1=some c:=λ y hy e=>I.ok.has y.1 (ok.free y hy e);have sub:∀x c,(aY X.env scope.names []).lookup x=some c->X.env.cells.lookup x=some c:=λ x c e=>cq X.env scope.names [] x c hfr (λ _ _ z=>by simp at z) e;have clt:∀x c,(aY X.env scope.names []).lookup x=some c->c < s2.heap.objs.size:=λ x c e=>by obtain ⟨v,o,ho,_⟩:=I.cell x c (sub x c e);exact A6 ho
 refine ⟨⟨I.ok.mod,ok.kind,I.ok.glob,I.ok.blt,hC,λ y z c h1 h2=>I.ok.inj y z c (sub y c h1) (sub z c h2),λ y hy=>?_,λ y c z=>?_,I.ok.hd,I.ok.frames,.inl rfl,λ b hb=>?_,I.bs,C2 I.ok.bsz I.sz,λ b o e hb=>?_,λ b hb z=>?_,I.stack,I.stkFree⟩,
  rfl,I.bare,Un.kept old,⟨_,hns,λ i y v e1 e2 e3=>?_⟩,λ y c e=>?_,I.hok.fresh hC,λ y c e=>I.freeC y c (sub y c e),λ p hp=>?_,I.hok.kept old,?_⟩
 ·have hm:=iy ok.cell hy;exact fh X.env scope.names [] y hm
 ·exact absurd (show false=true from z) A9
 ·exact ⟨B6 (B8 (hfl b hb) hC),λ x c e=>(hf b hb).2.2.2.2.1 x c (sub x c e)⟩
 ·rcases (hf b hb).2.2.2.1 with z | z
  ·exact I.ok.noex b o e z
  ·exact absurd (B8 (A6 (I.ok.bs b o e).1) z) (C4 _)
 ·rcases List.mem_cons.mp (I.stkSub b z) with q | q
  ·exact (hf b hb).2.1 q
  ·exact (hf b hb).2.2.1 q
 ·have hi:own.length<=i:=by
   refine Nat.le_of_not_lt λ q=>?_;unfold aU at e2;rw [List.getElem?_append_left (by simpa using q),List.getElem?_replicate] at e2
   split at e2 <;> cases e2
  have e1':cs[i - own.length]? = some y:=by have e1:(own ++ cs)[i]? = some y:=e1;rwa [List.getElem?_append_right hi] at e1
  obtain ⟨j,hj,hN,hm⟩:=ok.caps _ y e1';have hk:=ok.free _ hm rfl;have e2':σ[j]? = some (some v):=by
   unfold aU at e2;rw [List.getElem?_append_right (by simpa using hi),List.length_replicate,List.getElem?_map,hj] at e2;have e2:(σ[j]?).join=some v:=by simpa using e2
   cases q:σ[j]? with
   | none=>rw [q] at e2; cases e2
   | some w=>rw [q] at e2; have:w=some v:=e2; rw [this]
  obtain ⟨m,hn,hl⟩:=I.loc;obtain ⟨u,ru,l⟩:=hl j y v hN e2' (by rcases hk with q | q; exact .inr (.inl q); exact .inr (.inr q));refine ⟨u,ru,.inr ?_⟩;obtain ⟨c,hc⟩:=fh X.env scope.names [] y hm;have hc':=sub y c hc;have cellu:h1.IsCell c (some u):=by
   rcases l with ⟨k,_⟩ | ⟨k,c',e,o,ho,hd⟩
   ·rcases hk with q | q <;> (have z:X.env.kindOf y=_:=q; rw [k] at z; cases z)
   ·rw [hc'] at e; cases e;exact ⟨o,old _ _ ho,hd⟩
  refine ⟨?_,c,hc,cellu⟩;rcases e3 with z | z | z
  ·exfalso;have key:∀names:List (Str×NameKind),True:=λ _=>trivial;have z:(relabel scope X.env).names.lookup y=some .local:=z;have zz:scope.names.lookup y=some .local:=by
    unfold relabel at z;dsimp only at z;revert z;generalize scope.names=names
    induction names with
    | nil=>intro z; simp at z
    | cons q r ih =>
     obtain ⟨n,k⟩:=q;intro z;rw [List.map_cons] at z
     by_cases hb:(k == NameKind.free && X.env.scope.kind == .function && X.env.kindOf n == some .cell)=true
     ·dsimp only at z;rw [if_pos hb,List.lookup_cons] at z;rw [List.lookup_cons];cases hx:y == n with
      | true=>rw [hx] at z; cases z
      | false=>rw [hx] at z; exact ih z
     ·dsimp only at z;rw [if_neg hb,List.lookup_cons] at z;rw [List.lookup_cons];cases hx:y == n with
      | true=>rw [hx] at z; exact z
      | false=>rw [hx] at z; exact ih z
   have:=ok.free2 y hm zz;exact this
  ·exact .inl z
  ·exact .inr z
 ·obtain ⟨v,o,ho,hd⟩:=I.cell y c (sub y c e);exact ⟨v,o,old _ _ ho,hd⟩
 ·have hp':p∈X.pn ++ pins:=by have:p∈(X.pn ++ pins) ++ []:=hp;simpa using this
  obtain ⟨e,n,ne,nf,d⟩:=I.pin p hp';refine ⟨old _ _ e,n,B6 (B8 (A6 e) hC),λ z=>?_,d⟩;rcases List.mem_cons.mp (I.stkSub p.1 z) with q | q
  ·exact ne q
  ·exact nf q
 ·show (aU σ cap own.length).length=(own ++ cs).length;unfold aU;rw [List.length_append,List.length_replicate,List.length_map,List.length_append,ok.len]
end
section
variable {X:Cx} {pins:List (Addr×Obj)} {σ:St} {H2:Hp} {s2:FB} {scope:Scope} {own cs:List Str} {cap:List Nat} {fp:List Addr} {it:Addr} {tn:Nat->Heap->Prop}
 {elt tg iter:Expr} {ifs:List Expr} {pos:Pos} {J:It} {g:TG} {tt:TT} {te:TE} {E:FF->FB->Prop} {W:Nat->Nat->List V->Hp->Prop} {Qf:List V->Hp->Prop}
structure BlkEnd (X:Cx) (pins:List (Addr×Obj)) (σ:St) (Qf:List V->Hp->Prop) (D C:Addr) (s':Shared):Prop where
 ex:∃ (ys:List V) (H':Hp),H' D=none/\Qf ys H'/\Inv X pins σ (upd H' D (.lst ys)) s'/\dP X pins (upd H' D (.lst ys)) C
 ns:∃m,s'.heap.Ns C m
theorem Inv.bareP {pins':List (Addr×Obj)} {H:Hp} {s:FB} (I:Inv X pins' σ H s):Inv X [] σ H s:=I.pins_of λ p hp=>absurd hp (by simp)
theorem jf {RR:FF->Addr->Result->FB->Prop} (I:Inv X pins σ H2 s2) (ok:CompOk X scope own cs cap) (hc:X.calm=true) (T:Turn X.prog X.w X.K tg J fp it tn) (st:tn 0 s2.heap) (hf:∀b∈fp,dP X pins H2 b)
  (hg:∀C,PG (aE X pins s2 H2 scope C (own ++ cs) fp) tg g) (hi:∀C,iz (aE X pins s2 H2 scope C (own ++ cs) fp) ifs tt) (he:∀C,PE (aE X pins s2 H2 scope C (own ++ cs) fp) elt te)
  (w0:∃m,W 0 m [] H2) (turn:dU σ cap own.length J g tt te Qf W)
  (hRR:∀D C s',BlkEnd X pins σ Qf D C s'->RR (.ref D) C (.ok .next) s') :
  wpAny (model X.prog X.w) X.A (newList []) (λ acc s₃=>wpAny (model X.prog X.w) X.A (newFunctionEnv scope X.env.globals (aY X.env scope.names []) [] X.env.qual none .none (some X.env)) (λ cenv s₄ =>
   codeAny (model X.prog X.w) X.A (.compStart (.ListComp elt [⟨tg,iter,ifs,0⟩] scope pos) 0 (.ref it) acc { cenv with scope:=relabel scope X.env }) (RR acc cenv.locals) s₄) E s₃) E s2:=by
 refine E8 (wpAny_newFunctionEnv ok.cell (by intro y hy; simp at hy) (λ h₁ hns₁ hsb₁=>?_) ok.kind);dsimp only at hns₁ hsb₁ ⊢;generalize hHH:s2.heap.push { cls:=.type "list",dict:=none,data:=.seq ([]:List FF).toArray }=HH at hns₁ hsb₁ ⊢;have hCs:HH.objs.size=s2.heap.objs.size + 1:=by rw [<- hHH,Heap.size_push]
 have hDC:s2.heap.objs.size≠HH.objs.size:=by rw [hCs]; exact B6 (E4 _)
 have hCle:s2.heap.objs.size<=HH.objs.size:=by rw [hCs]; exact Nat.le_succ _
 have hfl:∀b∈fp,b < s2.heap.objs.size:=λ b hb=>by obtain ⟨o,e,_⟩:=T.obj 0 _ st b hb;exact A6 e
 have old:∀b o,s2.heap.get? b=some o->h₁.get? b=some o:=λ b o e=>hsb₁.extBut b o (by rw [hCs]; exact B6 (Nat.lt_succ_of_lt (A6 e))) (A4 _ (hHH ▸ A4 _ e));have hacc:h₁.PlainList s2.heap.objs.size #[]:=⟨_,hsb₁.extBut _ _ hDC (A4 _ (hHH ▸ A5 _ rfl))⟩
 generalize hD:s2.heap.objs.size=D at *;generalize hCC:HH.objs.size=C at *;have hns₁':h₁.Ns C (λ _=>none):=hns₁;have I0:Inv (aE X pins s2 H2 scope C (own ++ cs) fp) [] (aU σ cap own.length) H2 { s2 with heap:=h₁,toks:=s2.toks + ([]:List (Str×FF)).length } :=
  hV I ok hf (λ b hb=>by rw [hD]; exact hfl b hb) (by rw [hD]; exact hCle) hns₁' old
 have Dfs:D∉frs X.stack:=λ hb=>by obtain ⟨_,o,ho,_⟩:=I.stack.mem hb;exact absurd (A6 ho) (by rw [hD]; exact C4 _)
 have Dfp:∀b∈fp,D≠b:=λ b hb z=>absurd (hfl b hb) (by rw [<- z]; exact C4 _);have clt:∀x c,(aY X.env scope.names []).lookup x=some c->c < D:=λ x c e=>by have e':=cq X.env scope.names [] x c (λ y hy e=>I.ok.has y.1 (ok.free y hy e)) (λ _ _ z=>by simp at z) e;obtain ⟨v,o,ho,_⟩:=I.cell x c e';have:=A6 ho;rw [hD] at this; exact this
 have plt:∀p∈X.pn ++ pins,p.1 < D:=λ p hp=>by have:=A6 (I.pin p hp).1;rw [hD] at this; exact this
 have stat:∀ {H':Hp} {ob:Obj},(∀b∈fp,H' b=none)->∀b∈fp,dP (aE X pins s2 H2 scope C (own ++ cs) fp) [(D,ob)] H' b:=λ {H' ob} hn b hb=>by
  have q:=I0.ok.exf b hb;refine ⟨hn b hb,q.1,I0.ok.exfs b hb,.inl hb,q.2,λ p hp=>?_⟩;rcases B9.mp hp with z | z
  ·exact (hf b hb).2.2.2.2.2 p z
  ·have:p=(D,ob):=by simpa using z
   subst this;exact Dfp b hb
 have loop:codeAny (model X.prog X.w) X.A (.compLoop (.ListComp elt [⟨tg,iter,ifs,0⟩] scope pos) 0 (.ref it) (.ref D) (compEnvC scope (aY X.env scope.names []) C X.env)) (RR (.ref D) C)
   { s2 with heap:=h₁,toks:=s2.toks + ([]:List (Str×FF)).length }:=by
  obtain ⟨m0,w0⟩:=w0;refine codeAny_loop rfl (λ n s'=>∃i H' its ys,Inv (aE X pins s2 H2 scope C (own ++ cs) fp) [] (aU σ cap own.length) H' s'/\tn i s'.heap/\(∀b∈fp,H' b=none)/\s'.heap.PlainList D its.toArray/\Vals ys its/\H' D=none/\W i n ys H') ?_ m0
   ⟨0,H2,[],[],I0,T.keep 0 _ _ st λ b _ o e=>old b o e,λ b hb=>(hf b hb).1,hacc,.nil,I.hok.fresh (by rw [hD]; exact B0 _),w0⟩
  rintro n s3 ⟨i,H3,its,ys,I3,st3,fr3,⟨nn,pl3⟩,rv3,hD3,w3⟩;show wpAny _ X.A ((compTurn (.ListComp elt [⟨tg,iter,ifs,0⟩] scope pos) 0 (.ref it) (.ref D) (compEnvC scope (aY X.env scope.names []) C X.env)).onRaise (λ x=>do noteFrame x (compEnvC scope (aY X.env scope.names []) C X.env); theTreesLotGoes x)) _ _ s3;refine wpAny_noted ?_;rw [compTurn_list];refine A0 (wpAny_standAt (A0 ?_));have I3':Inv (aE X pins s2 H2 scope C (own ++ cs) fp) [(D, { cls:=.type "list", data:=.seq its.toArray nn })] (aU σ cap own.length) H3 s3 :=
   I3.pins_of λ p hp=>by
    have:p=(D,{ cls:=.type "list",data:=.seq its.toArray nn }):=by simpa using hp
    subst this;exact ⟨pl3,hD3,hDC,Dfs,λ v z=>by cases z⟩
  rcases turn i n ys H3 w3 with ⟨stop,hz,qf⟩ | ⟨go,hz,step⟩
  ·refine thn (T.done (aE X pins s2 H2 scope C (own ++ cs) fp) rfl rfl rfl hc i _ s3 _ H3 _ I3' (stat fr3) st3 stop) λ r s4 ⟨hr,I4⟩=>?_;subst hr;refine A1 (hRR D C s4 ⟨⟨ys,H3,hD3,qf,?_,?_⟩,?_⟩)
   ·have pl4:=(I4.pin (D,_) (A2 _ (C5.mpr rfl))).1;have u4:=I4.base;have Ds2:s2.heap.get? D=none:=Heap.get?_none_of_le (by rw [hD]; exact B0 _);refine I.call' (s':=s4) (ch:=fp) I4.os ⟨u4.keep,u4.slot,λ b o e n hx=>?_,u4.there,λ b xs e=>?_,λ b o u e=>?_,λ b ps e=>?_⟩ ?_ I4.bare λ b hb=>⟨(hf b hb).2.2.2.1,(hf b hb).2.1,(hf b hb).2.2.2.2.1,(hf b hb).2.2.2.2.2⟩
    ·rw [aj (λ z=>by rw [z,Ds2] at e; cases e)];exact u4.free b o e n hx
    ·have:=u4.tups b xs e;rw [aj (ah this hD3)]; exact this
    ·have:=u4.frzs b o u e;rw [aj (ah this hD3)]; exact this
    ·obtain ⟨more,e'⟩:=u4.tbls b ps e;exact ⟨more,by rw [aj (ah e' hD3)]; exact e'⟩
    ·exact I4.hok.add hD3 ⟨hz,its,nn,rv3,pl4⟩
   ·have CH:(upd H3 D (.lst ys)) C=none:=by rw [aj (Ne.symm hDC)]; exact I4.free
    exact I.fpOk (H':=upd H3 D (.lst ys)) (by rw [hD]; exact hCle) CH
   ·obtain ⟨m,hn,_⟩:=I4.loc;exact ⟨m,hn⟩
  ·refine thn (T.item (aE X pins s2 H2 scope C (own ++ cs) fp) rfl rfl rfl hc i _ s3 _ H3 _ I3' (stat fr3) st3 go) λ r s4 ⟨u,hr,h4⟩=>?_;subst hr;refine A0 (thn h4 λ _ s5 ⟨x,H5,I5,r5,y5,st5,fr5⟩=>?_);have I5':=I5.pinned (stat fr5) (T.obj _ _ st5);refine A0 (wpAny_mono (hg C _ s5 _ H5 x u _ I5' r5 (step x H5 y5)) (λ _ s6 ⟨σ6,H6,I6,le6,q6⟩=>?_) λ _ _ z=>E1 z);refine A0 (wpAny_mono (hi C _ s6 σ6 H6 _ I6 q6) (λ b s7 ⟨H7,I7,q7⟩=>?_) λ _ _ z=>E1 z);have back:∀ {pins':List (Addr×Obj)} {H8:Hp} {s8:FB},Inv (aE X pins s2 H2 scope C (own ++ cs) fp) pins' σ6 H8 s8->Inv (aE X pins s2 H2 scope C (own ++ cs) fp) [] (aU σ cap own.length) H8 s8:=λ I8 =>
    I8.bareP.weak le6.1.symm λ i v e=>le6.2 i v e
   cases b with
   | false =>
    rw [if_neg Bool.false_ne_true] at q7;obtain ⟨m',hm,w7⟩:=q7;refine A1 ⟨rfl,m',hm,i + 1,H7,its,ys,back I7,T.keep _ _ _ st5 λ b hb o e=>?_,λ b hb=>?_,⟨nn,?_⟩,rv3,?_,w7⟩
    ·exact (I7.pin (b,o) (A2 _ (A2 _ (aM hb e)))).1
    ·obtain ⟨o,e,d⟩:=T.obj _ _ st5 b hb;exact (I7.pin (b,o) (A2 _ (A2 _ (aM hb e)))).2.1
    ·exact (I7.pin (D,_) (A2 _ (B3 _ (C5.mpr rfl)))).1
    ·exact (I7.pin (D,_) (A2 _ (B3 _ (C5.mpr rfl)))).2.1
   | true =>
    rw [if_pos rfl] at q7;refine A0 (A0 (wpAny_mono (he C _ s7 σ6 H7 _ I7 q7) (λ y s8 ⟨v,H8,I8,r8,m',hm,w8⟩=>?_) λ _ _ z=>E1 z));have pD:=I8.pin (D,{ cls:=.type "list",data:=.seq its.toArray nn }) (A2 _ (B3 _ (C5.mpr rfl)));have hlen:=rv3.length;refine A0 (wpAny_list_append_plain (hsz:=by rw [List.size_toArray]; omega) ⟨nn,pD.1⟩ λ h9 pl9 sb9=>A1 (A1 ?_));have I8':=back I8;refine ⟨Y,m',hm,i + 1,H8,its ++ [y],ys ++ [v],?_,T.keep _ _ _ st5 λ b hb o e=>?_,λ b hb=>?_,?_,rv3.append (.cons r8 .nil),pD.2.1,w8⟩
    ·exact I8'.turned (t':=s8.toks) (λ b o hb e=>sb9.extBut b o hb e) pD.2.1 hDC (.inr (by show s2.heap.objs.size<=D; rw [hD]; exact B0 _)) (λ x c e=>B6 (clt x c e)) λ p hp=>by
      have hp':p∈X.pn ++ pins:=by have:p∈(X.pn ++ pins) ++ []:=hp;simpa using this
      exact B6 (plt p hp')
    ·exact sb9.extBut b o (Ne.symm (Dfp b hb)) (I8.pin (b,o) (A2 _ (A2 _ (aM hb e)))).1
    ·obtain ⟨o,e,d⟩:=T.obj _ _ st5 b hb;exact (I8.pin (b,o) (A2 _ (A2 _ (aM hb e)))).2.1
    ·have e:its.toArray.push y=(its ++ [y]).toArray:=by simp
     rw [<- e]; exact pl9
 exact codeAny_compStart_list loop (T.self _ 0 _ _ _ (T.keep 0 _ _ st λ b _ o e=>old b o e) loop)
def oN (wi:TI) (cap:List Nat) (k:Nat) (g:TG) (tt:TT) (te:TE):TE:=λ σ H Q=>wi σ H λ J H1 =>
 ∃W:Nat->Nat->List V->Hp->Prop,(∃m,W 0 m [] H1)/\dU σ cap k J g tt te (λ ys H'=>∀p,H' p=none->Q (.ref p) (upd H' p (.lst ys))) W
theorem cg {wi:TI} (hc:X.calm=true) (hit:PI X tg iter wi) (ok:CompOk X scope own cs cap)
  (hg:∀pins s2 H2 C fp,PG (aE X pins s2 H2 scope C (own ++ cs) fp) tg g) (hi:∀pins s2 H2 C fp,iz (aE X pins s2 H2 scope C (own ++ cs) fp) ifs tt) (he:∀pins s2 H2 C fp,PE (aE X pins s2 H2 scope C (own ++ cs) fp) elt te)
  (hs:∀x,foldedSetIterable iter X.env x=pure x:=by intro _; rfl):PE X (.ListComp elt [⟨tg,iter,ifs,0⟩] scope pos) (oN wi cap own.length g tt te):=by
 intro pins s σ H Q I h;rw [eval_ListComp];refine wpAny_comprehension_free (use:=none) rfl hs (eh λ y hy e=>I.ok.has y.1 (ok.free y hy e)) ok.kind ok.names (thn (hit pins s σ H _ I h) λ v s1 h1=>thn h1 λ itv s2 h2=>?_);obtain ⟨it,fp,tn,J,H2,e,I2,T,st2,f2,W,w0,turn⟩:=h2;subst e;refine jf (RR:=λ acc C=>compPost (model X.prog X.w) X.A X.xe none (EP X pins σ Q) acc C) I2 ok hc T st2 f2 (λ C=>hg _ _ _ _ _) (λ C=>hi _ _ _ _ _) (λ C=>he _ _ _ _ _) w0 turn λ D C s' B=>?_;obtain ⟨⟨ys,H',hD,q,I',fp'⟩,m,hn⟩:=B;obtain ⟨f0,f1,f2',f3,f4,f5⟩:=fp';exact ⟨m,hn,λ h' sb=>⟨.ref D,_,I'.turned (t':=s'.toks) (λ b o hb e=>sb.extBut b o hb e) f0 f1 f3 f4 f5,Y,q D hD⟩⟩
theorem lP {wi:TI} {i:Nat} {y:Str} {py spos:Pos} (hc:X.calm=true) (hN:X.N.Nodup) (hiy:X.N[i]? = some y) (hy:X.env.scope.names.lookup y=some .local)
  (hsw:swapsWith (.ListComp elt [⟨tg,iter,ifs,0⟩] scope pos) (some (.Name y py)) spos.line X.env=pure true) (hit:PI X tg iter wi) (ok:CompOk X scope own cs cap)
  (hg:∀pins s2 H2 C fp,PG (aE X pins s2 H2 scope C (own ++ cs) fp) tg g) (hi:∀pins s2 H2 C fp,iz (aE X pins s2 H2 scope C (own ++ cs) fp) ifs tt) (he:∀pins s2 H2 C fp,PE (aE X pins s2 H2 scope C (own ++ cs) fp) elt te)
  (hs:∀x,foldedSetIterable iter X.env x=pure x:=by intro _; rfl):PS X (.Assign [.Name y py] (.ListComp elt [⟨tg,iter,ifs,0⟩] scope pos) spos) (tM (oN wi cap own.length g tt te) (ja i)):=by
 intro pins s σ H D0 I h;rw [exec_Assign_Name_used _ _ _ _ hsw];refine A0 (wpAny_standAt (A0 ?_));show wpAny _ X.A (do let _<-comprehension (.ListComp elt [⟨tg,iter,ifs,0⟩] scope pos) scope X.env _ (newList []) false (eval iter X.env) (some (assign (.Name y py) X.env))) _ _ s;refine A0 (wpAny_mono (wpAny_comprehension_free (use:=some (assign (.Name y py) X.env)) (Q:=λ _ s'=>SP X pins D0 .next s') rfl hs (eh λ y hy e=>I.ok.has y.1 (ok.free y hy e)) ok.kind ok.names
  (thn (hit pins s σ H _ I h) λ v s1 h1=>thn h1 λ itv s2 h2=>?_)) (λ _ s' hq=>A1 (A1 hq)) λ _ _ e=>e)
 obtain ⟨it,fp,tn,J,H2,e,I2,T,st2,f2,W,w0,turn⟩:=h2;subst e;refine jf (RR:=λ acc C=>compPost (model X.prog X.w) X.A X.xe (some (assign (.Name y py) X.env)) (λ _ s'=>SP X pins D0 .next s') acc C) I2 ok hc T st2 f2 (λ C=>hg _ _ _ _ _) (λ C=>hi _ _ _ _ _) (λ C=>he _ _ _ _ _) w0 turn λ D C s' B=>?_;obtain ⟨⟨ys,H',hD,q,I',fp'⟩,m,hn⟩:=B;obtain ⟨f0,f1,f2',f3,f4,f5⟩:=fp';show wpAny _ X.A (assign (.Name y py) X.env (.ref D)) _ _ _;refine wpAny_assign_Name (gX I' hN hiy (.inl hy) (v:=.ref D) rfl (λ s3 I3 ⟨a,sb,ha⟩=>?_) (.inr hy));have hCa:C≠a:=by
  rcases ha with z | z
  ·rw [z]; exact f1
  ·exact λ q=>f4 y a z q.symm
 refine ⟨m,hn.sameBut sb hCa,λ h' sb'=>⟨_,_,I3.turned (t':=s3.toks) (λ b o hb e=>sb'.extBut b o hb e) f0 f1 f3 f4 f5,q D hD⟩⟩
end
def CDivB (i j:Int):Prop:=0 < j/\j<=10 ^ 60
theorem CDivB.np {i j:Int} (h:CDivB i j):Builtin.divisionGoesByPylong i j=false:=by
 refine PyProof.noPylong_of_log2 ?_;have h1:j.natAbs < 2 ^ 200:=by obtain ⟨a,b⟩:=h;omega
 have h2:j.natAbs.log2 < 200:=(Nat.log2_lt (by have:=h.1; omega)).mpr h1;omega
section
variable {X:Cx}
theorem jg:OpR X (binaryOp .FloorDiv) (rI CDivB λ i j=>.int (i / j)):=opI λ i j _ _ _ _ _ hc q=>by refine floordiv_int (by have:=hc.1; omega) ?_ (.inl hc.np);rw [Int.fdiv_eq_ediv_of_nonneg _ (by have:=hc.1; omega)];exact q
theorem Inv.kitx {pins:List (Addr×Obj)} {σ:St} {H:Hp} {s:FB} {x:V} {u t:FF} (I:Inv X pins σ H s) (rx:RelV x u) (ty:TyOf X.K H x t) :
  ∃P:Heap->Prop,PySem.W.KitX X.K u t P/\P s.heap/\u≠.builtin "__main__.__loader__#opaque" := by
 cases ty with
 | non=>cases (show u=Value.none from rx); exact ⟨_,PySem.W.kitx_none,True.intro,λ z=>nomatch z⟩
 | bl y=>cases (show u=Value.bool y from rx); exact ⟨_,PySem.W.kitx_bool,True.intro,λ z=>nomatch z⟩
 | int i=>obtain ⟨t,q⟩:=(show ∃t,u=Value.int i t from rx); cases q; exact ⟨_,PySem.W.kitx_int,True.intro,λ z=>nomatch z⟩
 | str y=>obtain ⟨t,q⟩:=(show ∃t,u=Value.str y t from rx); cases q; exact ⟨_,PySem.W.kitx_str,True.intro,λ z=>nomatch z⟩
 | flt y=>obtain ⟨t,q⟩:=(show ∃t,u=Value.float y t from rx); cases q; exact ⟨_,PySem.W.kitx_float,True.intro,λ z=>nomatch z⟩
 | @lst a xs ea =>
  cases (show u=Value.ref a from rx);obtain ⟨_,_,n,_,h1⟩:=(show ObjOk X.prog X.w H s.heap a (.lst xs) from I.hok a _ ea)
  exact ⟨_,PySem.W.kitx_list,⟨_,h1,Y⟩,λ z=>nomatch z⟩
 | @frz a ob xs ea =>
  cases (show u=Value.ref a from rx);obtain ⟨_,_,_,n,_,h1⟩:=(show ObjOk X.prog X.w H s.heap a (.frz ob (.lst xs)) from I.hok a _ ea)
  exact ⟨_,PySem.W.kitx_list,⟨_,h1,Y⟩,λ z=>nomatch z⟩
 | @tup a xs ea =>
  cases (show u=Value.ref a from rx);obtain ⟨_,_,_,p⟩:=(show ObjOk X.prog X.w H s.heap a (.tup xs) from I.hok a _ ea)
  obtain ⟨o,h1,h2,_⟩:=p;exact ⟨_,PySem.W.kitx_tuple,⟨o,h1,h2⟩,λ z=>nomatch z⟩
 | @dK a kvs ea =>
  cases (show u=Value.ref a from rx);obtain ⟨_,_,vs,_,p⟩:=(show ObjOk X.prog X.w H s.heap a (.dK kvs) from I.hok a _ ea)
  obtain ⟨o,es,ep,h1,h2,_⟩:=p;exact ⟨_,PySem.W.kitx_dict,⟨o,h1,h2.1⟩,λ z=>nomatch z⟩
 | @dT a kvs ea =>
  cases (show u=Value.ref a from rx);obtain ⟨_,_,xs,_,o,es,ep,h1,h2,_⟩:=(show ObjOk X.prog X.w H s.heap a (.dT kvs) from I.hok a _ ea)
  exact ⟨_,PySem.W.kitx_dict,⟨o,h1,h2.1⟩,λ z=>nomatch z⟩
 | @ext a φ ea c =>
  cases (show u=Value.ref a from rx);obtain ⟨p,_,_⟩:=(show ObjOk X.prog X.w H s.heap a (.ext φ) from I.hok a _ ea)
  obtain ⟨o,h1,h2⟩:=c _ p;exact ⟨_,PySem.W.kitx_dict,⟨o,h1,h2⟩,λ z=>nomatch z⟩
 | @ins a C dx fs ea cl ha hn htk hm =>
  cases (show u=Value.ref a from rx);obtain ⟨mA,O,_⟩:=eE I.hok ea;obtain ⟨od,J,_⟩:=O.look;exact ⟨_,PySem.W.kitx_own (cl.get _) cl.hd ha hn htk hm,J,λ z=>nomatch z⟩
def clV:V->Option Value
 | .ty T=>some (.type T)
 | .ref C=>↑C
 | _=>none
theorem clV.rel {v:V} {u c:FF} (e:clV v=some c) (r:RelV v u):u=c:=by
 cases v with
 | ty T=>have e':Value.type T=c:=B5 e; rw [<- e']; exact r
 | ref C=>have e':Value.ref C=c:=B5 e; rw [<- e']; exact r
 | _=>cases e
def clVs:List V->Option (List FF)
 | []=>some []
 | v :: r=>match clV v,clVs r with
  | some c,some cs=>some (c :: cs)
  | _,_=>none
theorem clVs.rel:∀ {vs:List V} {us cs:List FF},clVs vs=some cs->Vals vs us->us=cs
 | [],_,_,e,.nil=>B5 e
 | v :: r,_,_,e,.cons r1 r2=>by
  unfold clVs at e
  split at e
  ·rename_i c cs' e1 e2
   cases e;rw [clV.rel e1 r1,clVs.rel e2 r2]
  ·cases e
theorem be:ce X (.builtin "isinstance") (λ xs H Q=>∃x cv t c b,xs=[x,cv]/\TyOf X.K H x t/\clV cv=some c/\PySem.W.kitOne X.K t c=some b/\Q (.bl b) H):=by
 intro pins s σ H xs us Q I rv h;obtain ⟨x,cv,t,c,b,rfl,ty,e1,e2,q⟩:=h;cases rv with
 | cons r1 rr =>
  cases rr with
  | cons r2 rr =>
   cases rr;rw [clV.rel e1 r2];exact mK I r1 ty e2 λ tk=>⟨.bl b,H,I.tok tk,Y,q⟩
theorem iA:ce X (.builtin "isinstance") (λ xs H Q=>∃x p t cvs cs b,xs=[x,.ref p]/\TyOf X.K H x t/\H p= ~~~cvs/\clVs cvs=some cs/\PySem.W.kitAny X.K t cs=some b/\Q (.bl b) H):=by
 intro pins s σ H xs us Q I rv h;obtain ⟨x,p,t,cvs,cs,b,rfl,ty,hp,e1,e2,q⟩:=h;cases rv with
 | cons r1 rr =>
  cases rr with
  | cons r2 rr =>
   cases rr;cases r2;obtain ⟨_,its,rits,o,ho,hc,n,hd⟩:=I.hok p _ hp;obtain ⟨P,Z,p1,p2⟩:=I.kitx r1 ty;obtain ⟨oc,od,dt,osl⟩:=o
   replace hc:oc=.type "tuple" := hc
   replace hd:dt=.seq its.toArray n:=hd
   subst hc hd;have e3:=clVs.rel e1 rits;subst e3;exact PySem.W.kia_tup Z I.kIn p1 ho e2 p2 λ tk=>⟨.bl b,H,I.tok tk,Y,q⟩
end
mutual
inductive DatV (K:C1) (H:Hp):V->PyData->Prop
 | non:DatV K H .non .none
 | bl (b:Bool):DatV K H (.bl b) (.bool b)
 | int (i:Int):DatV K H (.int i) (.int i)
 | str (x:Str):DatV K H (.str x) (.str x)
 | lst {a:Addr} {xs:List V} {ds:List PyData}:SqL K H a xs->DatVs K H xs ds->DatV K H (.ref a) (.list ds)
 | tup {a:Addr} {xs:List V} {ds:List PyData}:SqT K H a xs->DatVs K H xs ds->DatV K H (.ref a) (.tuple ds)
inductive DatVs (K:C1) (H:Hp):List V->List PyData->Prop
 | nil:DatVs K H [] []
 | cons {x:V} {d:PyData} {xs:List V} {ds:List PyData}:DatV K H x d->DatVs K H xs ds->DatVs K H (x :: xs) (d :: ds)
end
section
variable {X:Cx} {pins:List (Addr×Obj)} {σ:St} {H:Hp} {s:FB}
mutual
theorem Inv.reads (I:Inv X pins σ H s):∀ {v:V} {d:PyData},DatV X.K H v d->∀ {u:FF},RelV v u->∃as,Reads s.heap u d as
 | _,_,.non,u,r=>by cases (show u=Value.none from r); exact ⟨_,.none⟩
 | _,_,.bl b,u,r=>by cases (show u=Value.bool b from r); exact ⟨_,.bool b⟩
 | _,_,.int i,u,r=>by obtain ⟨t,e⟩:=(show ∃t,u=Value.int i t from r); subst e; exact ⟨_,.int i t⟩
 | _,_,.str x,u,r=>by obtain ⟨t,e⟩:=(show ∃t,u=Value.str x t from r); subst e; exact ⟨_,.str x t⟩
 | _,_,.lst (a:=a) h hs,u,r=>by cases (show u=Value.ref a from r);obtain ⟨its,rv,⟨o,n,e,c,_,d⟩,_⟩:=I.list h;obtain ⟨as,ra⟩:=I.readsAll hs rv;exact ⟨_,.list e c d (by simpa using ra)⟩
 | _,_,.tup (a:=a) h hs,u,r=>by cases (show u=Value.ref a from r);obtain ⟨its,rv,⟨o,e,c,n,d⟩,_⟩:=I.tuple h;obtain ⟨as,ra⟩:=I.readsAll hs rv;exact ⟨_,.tuple e c d (by simpa using ra)⟩
theorem Inv.readsAll (I:Inv X pins σ H s):∀ {vs:List V} {ds:List PyData},DatVs X.K H vs ds->∀ {us:List FF},Vals vs us->∃as,ReadsAll s.heap us ds as
 | _,_,.nil,_,.nil=>⟨_,.nil⟩
 | _,_,.cons h hs,_,.cons r rs=>by obtain ⟨as,ra⟩:=I.reads h r;obtain ⟨bs,rb⟩:=I.readsAll hs rs;exact ⟨_,.cons ra rb⟩
end
end
section
variable {X:Cx}
theorem fj (hu:X.A.units + 64 < cLine):OpR X (compareOp .NotEq) (λ x y H Q=>∃da db,DatV X.K H x da/\DatV X.K H y db/\SeqAt.shaped da=true/\SeqAt.shaped db=true/\Q (.bl (!PyData.eqv da db)) H):=by intro pins s σ H x y v u Q I rx ry h;obtain ⟨da,db,hx,hy,s1,s2,q⟩:=h;obtain ⟨as,ra⟩:=I.reads hx rx;obtain ⟨bs,rb⟩:=I.reads hy ry;exact ne_dataH ra rb s1 s2 hu ⟨.bl _,H,I,rfl,q⟩
end
section
variable {prog:FC} {w:FE} {A:Around} {E:FF->FB->Prop}
theorem gn {it l:Addr} {items:Array FF} (hne:l≠it):∀ (n i:Nat) (s:FB) (Q:List FF->FB->Prop),s.heap.IsListIter it l i->s.heap.IsList l items->i + n<=items.size ->
  (∀h',h'.IsListIter it l (i + n)->Heap.SameBut it s.heap h'->Q ((items.toList.drop i).take n) { s with heap:=h' })->wpAny (model prog w) A (draw (.ref it) n) Q E s
 | 0,i,s,Q,hit,_,_,hQ=>by show wpAny _ _ (pure []) Q E s;exact A1 (by simpa using hQ s.heap hit (Heap.SameBut.refl ..))
 | n + 1,i,s,Q,hit,ht,hle,hQ=>by
  have hlt:i < items.size:=⋯
  show wpAny _ _ (pyNext (.ref it) >>= _) Q E s;refine A0 (wpAny_pyNext_list_item hit ht (x:=items[i]) (by simp [hlt]) λ h₁ hit₁ hs₁=>?_);refine A0 (wpAny_holding (gn hne n (i + 1) _ _ hit₁ (ht.extBut hs₁.extBut hne) ⋯ λ h₂ hit₂ hs₂=>A1 ?_));have hd:items.toList.drop i=items[i] :: items.toList.drop (i + 1):=by simp [List.drop_eq_getElem_cons,hlt]
  have q:=hQ h₂ (by rw [show i + (n + 1)=i + 1 + n by omega]; exact hit₂) (hs₁.trans hs₂);rw [hd,List.take_succ_cons] at q;exact q
theorem eG {s:FB} {l:Addr} {items:Array FF} {Q:List FF->FB->Prop} (hh:A.handled=none) (ht:s.heap.IsList l items)
  (hQ:∀h',Heap.ExtBut s.heap.objs.size s.heap h'->Q items.toList { s with heap:=h' }):wpAny (model prog w) A (unpackItems (.ref l) items.size none) Q E s:=by
 have hlt:l≠s.heap.objs.size:=by obtain ⟨o,ho,_⟩:=ht; exact B6 (A6 ho)
 have hp:(s.heap.push { cls:=.type "list_iterator",data:=.fields #[.ref l,.int 0 0] }).IsList l items:=by obtain ⟨o,ho,r⟩:=ht; exact ⟨o,A4 _ ho,r⟩
 unfold unpackItems;refine A0 ?_
 ·unfold notIterableAtAll;refine A0 (wpAny_specialOf ht.typeIs PySem.slot_list_iter.lookup ?_);refine A1 ?_;simp only [Bool.false_eq_true,if_false];refine A0 (wpAny_holding (wpAny_pyIter_list ht ?_));refine A0 (wpAny_holding (gn hlt items.size 0 _ _ ⟨_,A5 _ rfl,rfl,rfl⟩ hp ⋯ λ h₁ hit₁ hs₁=>?_));have hall:List.take items.size (List.drop 0 items.toList)=items.toList:=by rw [List.drop_zero]; exact List.take_of_length_le (by simp)
  rw [hall];rw [if_neg (by simp)];have ht₁:h₁.IsList l items:=hp.extBut hs₁.extBut hlt;refine A0 (wpAny_holding (wpAny_pyNext_list_end hh hit₁ ht₁ (by simp) λ h₂ he₂=>?_));simp only [Option.isSome_none,Bool.false_eq_true,if_false];refine A1 (hQ h₂ λ b o hb e=>he₂ b o hb (hs₁.extBut b o hb (A4 _ e)))
theorem ei {s:FB} {env:Env} {elts:List Expr} {x1} {pos:Pos} {l:Addr} {items:Array FF} {Q:Unit->FB->Prop} (hh:A.handled=none) (ht:s.heap.IsList l items)
  (hn:(assignEach elts env).length=items.size) (hstar:(assignEach elts env).findIdx? (·.1)=none)
  (h:∀h',Heap.ExtBut s.heap.objs.size s.heap h'->wpAny (model prog w) A (assignInOrder ((assignEach elts env).map (·.2)) items.toList) Q E { s with heap:=h' }) :
  wpAny (model prog w) A (assign (.Tuple elts x1 pos) env (.ref l)) Q E s:=by
 rw [assign_Tuple];refine A0 (wpAny_standAt ?_);unfold unpack;rw [hn,hstar];exact A0 (wpAny_holding (eG hh ht h))
end
section
variable {X:Cx} {pos:Pos}
def CO (K:C1) (n:Nat) (t:TGs):TG:=λ v σ H Q=>∃a xs,v=.ref a/\(SqL K H a xs\/SqT K H a xs)/\xs.length=n/\t xs σ H Q
theorem tU {es:List Expr} {k:Nat} {t:TGs} {n:Nat} (hc:X.calm=true) (h:PGs X es t)
  (hn:(assignEach es X.env).length=n:=by rfl) (hst:(assignEach es X.env).findIdx? (·.1)=none:=by rfl):PG X (.Tuple es k pos) (CO X.K n t):=by
 intro pins s σ H v u Q I r hw;obtain ⟨a,xs,e1,hq,hl,hw⟩:=hw;rcases hq with hq | hq
 ·subst e1;cases r;obtain ⟨its,rv,ht,hz⟩:=I.list hq;refine ei (I.ok.hd hc) ht.isList (by simp [hn,<- hl,rv.length]) hst λ h' hx=>?_;have I1:Inv X pins σ H { s with heap:=h' }:=I.kept (t':=s.toks) λ b o e=>hx b o (B6 (A6 e)) e;exact h pins _ σ H xs _ Q I1 (by simpa using rv) hw
 ·exact bQ hc h hn hst pins s σ H v u Q I r ⟨a,xs,e1,hq,hl,hw⟩
end
section
variable {X:Cx}
theorem Inv.turnedN {pins:List (Addr×Obj)} {σ:St} {H:Hp} {s:FB} {h':Heap} {t':Nat} {ch:List Addr} (I:Inv X pins σ H s) (hf:∀b∈ch,dP X pins H b) (k:∀b o,b∉ch->s.heap.get? b=some o->h'.get? b=some o):Inv X pins σ H { s with heap:=h',toks:=t' }:=by
 have hLc:X.env.locals∉ch:=λ z=>(hf _ z).2.1 rfl;have nt:∀b u,H b=some u->b∉ch:=λ b u e z=>by rw [(hf b z).1] at e; cases e
 refine I.step (g':=s.gens) (d':=s.drawn) (ch:=ch) (λ b hb=>⟨(hf b hb).2.2.2.1,(hf b hb).2.1,(hf b hb).2.2.2.2.1,(hf b hb).2.2.2.2.2⟩) (λ b o _ _ hc e _=>k b o hc e) (λ b o _ _ hc e _=>⟨o.slots,k b o hc e⟩) (λ _ _ _ _ n=>n)
  (λ b o hc e=>⟨o,k b o hc e⟩) (λ _ _ e=>e) (λ _ _ _ e=>e) (λ b ps e=>⟨#[],by rw [e]; simp⟩) (λ m hm=>?_) (λ b u e=>?_) I.bare
 ·obtain ⟨o,es,ep,ho,r⟩:=hm;exact ⟨o,es,ep,k _ o hLc ho,r⟩
 ·refine (I.hok b u e).stay (λ c v hc q=>k c v ?_ q) (λ _ q=>q) λ _ _ q=>q;rcases hc with z | z
  ·rw [z]; exact nt b u e
  ·exact nt c _ z
theorem Inv.track {pins:List (Addr×Obj)} {σ:St} {H:Hp} {s:FB} {a:Addr} {o:HO} (I:Inv X pins σ H s) (hf:dP X pins H a) (fa:X.s₀.heap.objs.size<=a) (new:ObjOk X.prog X.w (upd H a o) s.heap a o):Inv X pins σ (upd H a o) s:=by
 obtain ⟨f0,f1,f2,f3,f4,f5⟩:=hf;have s0:∀b o,X.s₀.heap.get? b=some o->b≠a:=λ b o e=>B6 (B8 (A6 e) fa);refine ⟨I.ok,I.os,I.bare,⟨I.base.keep,I.base.slot,λ b o e n hx=>?_,I.base.there,λ b xs e=>?_,λ b o u e=>?_,λ b ps e=>?_⟩,I.loc,I.cell,?_,λ x c e=>?_,λ p hp=>?_,I.hok.add f0 new,I.len⟩
 ·rw [aj (s0 b o e)]; exact I.base.free b o e n hx
 ·have q:=I.base.tups b xs e;rw [aj (ah q f0)]; exact q
 ·have q:=I.base.frzs b o u e;rw [aj (ah q f0)]; exact q
 ·obtain ⟨more,q⟩:=I.base.tbls b ps e;exact ⟨more,by rw [aj (ah q f0)]; exact q⟩
 ·rw [aj (Ne.symm f1)]; exact I.free
 ·rw [aj (f4 x c e)]; exact I.freeC x c e
 ·obtain ⟨e,n,r⟩:=I.pin p hp;exact ⟨e,by rw [aj (f5 p hp)]; exact n,r⟩
end
structure ZipAp (z TI TO i1 i2:Addr):Prop where
 nd:[z,TI,TO,i1,i2].Nodup
end L2
namespace L2
open PySem PySem.Spec PyProof.Rows
def Dn (P:FC) (w:FE) (K:C1) (mg:Str->Option FF) (base:Heap) (x:Str) (ps:List Str) (k:Nat) (sp:Sp):Prop :=
 ∃ (f:Addr) (fd:FD),FnOk P w K mg base CX0 k f fd ps sp/\Binds K fd ps []/\PySem.W.keepIn K (.ref f)=true/\mg x=↑f
theorem aq {X:Cx} {k:Nat} {ps:List Str} {sp:Sp} {x:Str} {p pos:Pos} {e:Expr} {es:List Expr} {t:TA} (D:Dn X.prog X.w X.K X.mg X.base x ps k sp) (hr:Room k X.A) (hg:Gl X x) (ha:PA X (e :: es) t)
  (hdb:(x == ("__debug__" : Str))=false:=by decide) (he:starEach (e :: es) X.env=(false,eval e X.env) :: starEach es X.env:=by rfl) (hpl:(backTo pos (starEach es X.env)).any (·.1)=false:=by rfl) :
  PE X (.Call (.Name x p) (e :: es) [] pos) (tf sp [] E0 t):=by
 obtain ⟨f,fd,F,hb,hk,hm⟩:=D;exact qT F hr hg hm hk hb .nil lO ha hdb he hpl
def lQ (sc:Scope) (N:List Str) (scope:Scope) (own cs:List Str) (cap:List Nat):Bool :=
 decide (scope.kind=.function) && scope.names.all (λ y=>decide (y.2≠.cell)) && scope.names.all (λ y=>decide (y.2=.local->scope.names.lookup y.1=some .local)) &&
 scope.names.all (λ y=>decide (y.2=.free->sc.names.lookup y.1=some .cell\/sc.names.lookup y.1=some .free)) && own.all (λ y=>decide (scope.names.lookup y=some .local)) &&
 decide (cs.length=cap.length) && (cs.zip cap).all (λ y=>decide (N[y.2]? = some y.1) && decide ((y.1,NameKind.free)∈scope.names)) && scope.names.all (λ y=>decide (y.2=.free->scope.names.lookup y.1≠some .local))
theorem aX {X:Cx} {sc:Scope} {N:List Str} {scope:Scope} {own cs:List Str} {cap:List Nat} (h1:X.env.scope=sc) (h2:X.N=N) (h:lQ sc N scope own cs cap=true):CompOk X scope own cs cap:=by
 subst h1 h2;unfold lQ at h;simp only [Bool.and_eq_true,List.all_eq_true,decide_eq_true_eq] at h;obtain ⟨⟨⟨⟨⟨⟨⟨a1,a2⟩,a3⟩,a4⟩,a5⟩,a6⟩,a7⟩,a8⟩:=h;refine ⟨a1,a2,a3,a4,λ i y e=>?_,a5,a6,λ y hy e=>a8 _ hy rfl e⟩;have hi:i < cs.length:=(A3.mp e).1;have hj:i < cap.length:=by rw [<- a6]; exact hi
 refine ⟨cap[i],E5 hj,?_⟩;have hm:(y,cap[i])∈cs.zip cap:=by
  have:(cs.zip cap)[i]? = some (y,cap[i]):=by rw [List.getElem?_zip_eq_some];exact ⟨e,E5 hj⟩
  exact B2 this
 exact a7 _ hm
theorem bE {σ:St} {H:Hp} {A B:Hp->Prop} (h:A H):yv σ H (λ ok H3=>if ok=true then A H3 else B H3):=by show (if (true:Bool)=true then A H else B H);rw [if_pos rfl];exact h
section
variable {X:Cx} {tg:Expr}
def tV (K:C1) (tl:TE):TI:=λ σ H R=>sV K tl σ H R\/yj K tl σ H R
theorem oO {l:Expr} {tl:TE} (hl:PE X l tl):PI X tg l (tV X.K tl):=by
 intro pins s σ H R I h;rcases h with h | h
 ·exact bP hl pins s σ H R I h
 ·exact tN hl pins s σ H R I h
end
def aS:List String:=["NoneType","bool","int","str","list","tuple","dict"]
theorem rc {K:C1}:∀T∈aS,PySem.W.kitOne K (.type T) (.type "int")=some (T == "int" || T == "bool"):=by intro T h;simp only [aS,List.mem_cons,List.not_mem_nil,or_false] at h;rcases h with rfl | rfl | rfl | rfl | rfl | rfl | rfl <;> kernel_rfl
theorem jh {K:C1}:∀T∈aS,PySem.W.kitOne K (.type T) (.type "bool")=some (T == "bool"):=by intro T h;simp only [aS,List.mem_cons,List.not_mem_nil,or_false] at h;rcases h with rfl | rfl | rfl | rfl | rfl | rfl | rfl <;> kernel_rfl
theorem oP {K:C1}:∀T∈aS,PySem.W.kitOne K (.type T) (.type "list")=some (T == "list"):=by intro T h;simp only [aS,List.mem_cons,List.not_mem_nil,or_false] at h;rcases h with rfl | rfl | rfl | rfl | rfl | rfl | rfl <;> kernel_rfl
theorem mQ {K:C1}:∀T∈aS,PySem.W.kitOne K (.type T) (.type "tuple")=some (T == "tuple"):=by intro T h;simp only [aS,List.mem_cons,List.not_mem_nil,or_false] at h;rcases h with rfl | rfl | rfl | rfl | rfl | rfl | rfl <;> kernel_rfl
theorem re {K:C1}:∀T∈aS,PySem.W.kitAny K (.type T) [.type "list",.type "tuple"]=some (T == "list" || T == "tuple"):=by
 intro T h;have h1:=oP (K:=K) T h;have h2:=mQ (K:=K) T h;unfold PySem.W.kitAny;rw [h1];cases e:(T == "list") with
 | true=>rfl
 | false =>
  show PySem.W.kitAny K (.type T) [.type "tuple"]=_;unfold PySem.W.kitAny;rw [h2];cases e2:(T == "tuple") <;> rfl
def Ty (K:C1) (H:Hp) (x:V) (T:String):Prop:=T∈aS/\TyOf K H x (.type T)
theorem Ty.int {K:C1} {H:Hp} {i:Int}:Ty K H (.int i) "int" := ⟨by simp [aS],.int i⟩
theorem Ty.bl {K:C1} {H:Hp} {b:Bool}:Ty K H (.bl b) "bool" := ⟨by simp [aS],.bl b⟩
theorem Ty.non {K:C1} {H:Hp}:Ty K H .non "NoneType" := ⟨by simp [aS],.non⟩
theorem Ty.str {K:C1} {H:Hp} {x:Str}:Ty K H (.str x) "str" := ⟨by simp [aS],.str x⟩
theorem Ty.lst {K:C1} {H:Hp} {a:Addr} {xs:List V} (e:H a=↥xs):Ty K H (.ref a) "list" := ⟨by simp [aS],.lst e⟩
theorem Ty.tup {K:C1} {H:Hp} {a:Addr} {xs:List V} (e:H a= ~~~xs):Ty K H (.ref a) "tuple" := ⟨by simp [aS],.tup e⟩
theorem Ty.dK {K:C1} {H:Hp} {a:Addr} {xs:List (Key×V)} (e:H a=some (.dK xs)):Ty K H (.ref a) "dict" := ⟨by simp [aS],.dK e⟩
def aA:V->Int->Bool
 | .int i,l=>decide (l<=i)
 | _,_=>false
def mR:V->Bool
 | .bl _=>true
 | _=>false
theorem tW {K:C1} {H:Hp} {x:V} {T:String} (t:TyOf K H x (.type T)) (h:T∈aS):(T == "int")=true->∃i,x=.int i:=by
 intro e;have e':T = "int" := by simpa using e
 subst e';generalize hv:Value.type "int" = tv at t;cases t with
 | int i=>exact ⟨i,Y⟩
 | _=>exact absurd hv (by simp)
theorem lR {K:C1} {H:Hp} {x:V} {T:String} (t:TyOf K H x (.type T)):(T == "bool")=mR x:=by
 generalize hv:Value.type T=tv at t;cases t with
 | bl b=>cases hv; rfl
 | non=>cases hv; rfl
 | int i=>cases hv; rfl
 | str i=>cases hv; rfl
 | flt i=>cases hv; rfl
 | lst i=>cases hv; rfl
 | frz i=>cases hv; rfl
 | tup i=>cases hv; rfl
 | dK i=>cases hv; rfl
 | dT i=>cases hv; rfl
 | ext i _=>cases hv; rfl
 | ins=>cases hv
end L2
local macro_rules|`($a ^^^ $b)=>`(@L2.aa _ _ _ _ _ $a $b rfl)
local macro_rules|`($a<<<$b)=>`(@L2.ag _ _ _ _ _ $a $b)
local macro_rules|`($a>>>$b)=>`(@L2.ag _ _ _ _ _ $a (@L2.ai _ _ _ $b))
local macro_rules|`($a⁻¹)=>`(@L2.ai _ _ _ (@L2.ar _ _ _ _ $a))
local macro_rules|`($a∩$b)=>`(@L2.aq _ _ _ _ _ _ _ _ _ _ $a (($(Lean.mkIdent `hr)).mono ∅) rfl $b ∅ rfl rfl)
local macro_rules|`($a∪$b)=>`(@L2.aq _ _ _ _ _ _ _ _ _ _ $a $(Lean.mkIdent `hr) rfl $b ∅ rfl rfl)
local macro_rules|`($a∣$b)=>`(@L2.aI _ _ $a _ _ _ _ $(Lean.mkIdent `nd) rfl (Or.inl rfl) $b rfl (Or.inl rfl))
local macro_rules|`($a&&&$o&&&$b)=>`(@L2.aN _ _ _ _ _ _ _ $o $a $b (fun _ _=>rfl))
local macro_rules|`($a|||$o|||$b)=>`(@L2.aB _ _ _ _ _ _ _ _ $o $a $b)
local macro_rules|`($a•$b)=>`(L2.au (L2.ap (i:=$a) $(Lean.mkIdent `nd) rfl (Or.inl rfl)) $b)
local macro_rules|`($a<*>$o<*>$b)=>`(@L2.az _ _ _ _ _ _ _ _ $o $a $b (L2.aw _))
local macro_rules|`($a<|>$b<|>$c)=>`(@L2.aK _ _ _ _ _ _ _ _ $a $b $c)
namespace Pc
open PySem L2
structure Pot (a b:Int):Prop where
 a0:0<=a
 b0:0<=b
 b1:b < 2147483629
def yw (H:Hp) (p:Addr):Prop:=∃a b,Pot a b/\H p=↥[.int a,.int b]
def But (p:Addr) (H H':Hp):Prop:=∀b o,b≠p->H b=some o->H' b=some o
theorem But.refl {p:Addr} {H:Hp}:But p H H:=λ _ _ _ e=>e
theorem But.trans {p:Addr} {H H1 H2:Hp} (a:But p H H1) (b:But p H1 H2):But p H H2:=λ c o n e=>b c o n (a c o n e)
theorem But.upd {p:Addr} {H:Hp} {o:HO}:But p H (upd H p o):=λ b u n e=>by rw [aj n]; exact e
theorem But.new {p q:Addr} {H:Hp} {o:HO} (h:H q=none):But p H (L2.upd H q o):=λ b u n e=>by rw [aj (ah e h)]; exact e
theorem But.same {p:Addr} {H H':Hp} (b:But p H H') (h:H p=none):Same H H':=λ c o e=>b c o (ah e h) e
structure Kd where
 w:Int
 h:Int
 wo:Int
 wa:Int
 tu:Bool
def kdV (k:Kd):List V:=[.int k.w,.int k.h,.int k.wo,.int k.wa,.bl k.tu]
structure Good (k:Kd):Prop where
 w:1<=k.w
 h:1<=k.h
 wo:0<=k.wo
 wa:0<=k.wa
 w':k.w < 10 ^ 60
 h':k.h < 10 ^ 60
 wo':k.wo < 10 ^ 60
 wa':k.wa < 10 ^ 60
def TupAt (H:Hp) (v:V) (k:Kd):Prop:=∃a,v=.ref a/\H a= ~~~(kdV k)
def yx (H:Hp) (v:V) (k:Kd):Prop:=∃a,v=.ref a/\H a=↥(kdV k)
def RowAt (H:Hp) (v:V) (k:Kd):Prop:=TupAt H v k\/yx H v k
abbrev Tups (H:Hp):List V->List Kd->Prop:=Paired (TupAt H)
theorem Tups.keep {H H':Hp} (k:∀b xs,H b= ~~~xs->H' b= ~~~xs):∀ {xs:List V} {ks:List Kd},Tups H xs ks->Tups H' xs ks:=λ r =>
 FJ r λ v kd ⟨a,e,h⟩=>⟨a,e,k a _ h⟩
structure ToldAt (H:Hp) (t l:Addr) (bl:Int) (xs:List V) (ks:List Kd):Prop where
 t:H t= ~~~[.int bl,.ref l]
 l:H l=↥xs
 r:Tups H xs ks
 b0:0<=bl
 b1:bl < 10 ^ 60
 g:∀k∈ks,Good k
 n0:1<=xs.length
 n1:xs.length<=8
def bq (K:C1):Sp:=λ vs H Q _=>∃ (x:V) (T:String) (l:Int),vs=[x,.int l]/\Ty K H x T/\Q (.bl (aA x l)) H
def fN (K:C1):Sp:=λ vs H Q _=>∃ (x:V) (T:String),vs=[x]/\Ty K H x T/\Q (.bl (mR x)) H
def lS (K:C1):Sp:=λ vs H Q _=>∃ (x:V) (T:String), vs=[x]/\Ty K H x T/\∀H', Same H H'->Q (.bl (T == "list" || T == "tuple")) H'
def hW:List V->Bool
 | [w,h,wo,wa,tu]=>aA w 1 && aA h 1 && aA wo 0 && aA wa 0 && mR tu
 | _=>false
def eI (K:C1):Sp:=λ vs H Q _=>∃ (x:V) (T:String),vs=[x]/\Ty K H x T /\ 
 ((T ≠ "list" /\ T ≠ "tuple" /\ ∀H', Same H H'->Q (.bl false) H')\/∃ (a:Addr) (xs:List V), x=.ref a/\(H a=↥xs\/H a= ~~~xs)/\(∀y∈xs, ∃U, Ty K H y U)/\∀H', Same H H'->Q (.bl (hW xs)) H')
theorem gp {k:Kd} (g:Good k):hW (kdV k)=true:=by
 show (decide (1<=k.w) && decide (1<=k.h) && decide (0<=k.wo) && decide (0<=k.wa) && true)=true;rw [decide_eq_true g.w,decide_eq_true g.h,decide_eq_true g.wo,decide_eq_true g.wa]
 rfl
theorem Ty.same {K:C1} {H H':Hp} {x:V} {T:String} (s:Same H H') (t:Ty K H x T):Ty K H' x T:=by
 refine ⟨t.1,?_⟩;have t2:=t.2;generalize hv:Value.type T=tv at t2 ⊢;cases t2 with
 | non=>exact .non
 | bl b=>exact .bl b
 | int b=>exact .int b
 | str b=>exact .str b
 | flt b=>exact .flt b
 | lst e=>exact .lst (s _ _ e)
 | frz e=>exact .frz (s _ _ e)
 | tup e=>exact .tup (s _ _ e)
 | dK e=>exact .dK (s _ _ e)
 | dT e=>exact .dT (s _ _ e)
 | ext e c=>exact .ext (s _ _ e) c
 | ins=>cases hv
end Pc
namespace L2
open PySem PySem.Spec PyProof.Rows
def oQ (K:C1):List V->Hp->VK->Prop:=λ xs H Q=>∃p ys,xs=[V.ref p]/\((SqL K H p ys/\∀l,H l=none->Q (.ref l) (upd H l (.tup ys)))\/(SqT K H p ys/\Q (.ref p) H))
theorem oR {K:C1} {j:Nat} {a:Addr} {xs:List V} {g:TG} {tb:TS} {D:Ends} {σ:St} {H:Hp} (hσ:σ[j]? = some (↑a)) (hs:H a=↥xs\/H a= ~~~xs) (Pv:Nat->St->Hp->Prop) (h0:Pv 0 σ H)
  (hk:∀i σ H',i<=xs.length->Pv i σ H'->∀o,H a=some o->H' a=some o)
  (ht:∀i x σ H,xs[i]? = some x->Pv i σ H->g x σ H λ σ2 H2=>tb { D with nx:=Pv (i + 1),ct:=Pv (i + 1),bk:=D.nx } σ2 H2) (hd:∀σ H,Pv xs.length σ H->D.nx σ H):yn (tV K (tVar j)) g tb D σ H:=by
 rcases hs with z | z
 ·exact .inl ⟨_,hσ,a,Y,⟨xs,FI z⟩,bY (xs:=xs) Pv h0 (λ i σ H' hi p=>FI (hk i σ H' hi p _ z)) ht hd⟩
 ·exact .inr ⟨_,hσ,a,Y,⟨xs,FH z⟩,qN (xs:=xs) Pv h0 (λ i σ H' hi p=>FH (hk i σ H' hi p _ z)) ht hd⟩
def Nx (n:Nat) (Pv:Nat->List V->Hp->Prop) (i:Nat) (ys:List V) (H:Hp):Prop:=∃m',m' < n - i/\m'=n - (i + 1)/\i + 1<=n/\Pv (i + 1) ys H
theorem Nx.of {n:Nat} {Pv:Nat->List V->Hp->Prop} {i:Nat} {ys:List V} {H:Hp} (h:i < n) (p:Pv (i + 1) ys H):Nx n Pv i ys H:=⟨n - (i + 1),⋯,Y,h,p⟩
theorem eJ {K:C1} {a:Addr} {xs:List V} {σ:St} {cap:List Nat} {k:Nat} {g:TG} {tt:TT} {te:TE} {Q:List V->Hp->Prop} {H:Hp} (hs:H a=↥xs\/H a= ~~~xs) (Pv:Nat->List V->Hp->Prop)
  (hk:∀i ys H',i<=xs.length->Pv i ys H'->∀o,H a=some o->H' a=some o) (h0:Pv 0 [] H)
  (ht:∀i x ys H',xs[i]? = some x->Pv i ys H'->ys.length < sizeLine/\g x (aU σ cap k) H' λ σ2 H2=>leS (aU σ cap k) σ2/\tt σ2 H2 λ ok H3=>if ok=true then te σ2 H3 (λ v H4=>Nx xs.length Pv i (ys ++ [v]) H4) else Nx xs.length Pv i ys H3)
  (hd:∀ys H',Pv xs.length ys H'->ys.length<=sizeLine/\Q ys H') :
  (H a=↥xs->∃W,(∃m,W 0 m [] H)/\dU σ cap k (Itl K a) g tt te Q W)/\(H a= ~~~xs->∃W,(∃m,W 0 m [] H)/\dU σ cap k (Itt K a) g tt te Q W):=by
 refine ⟨λ z=>⟨λ i m ys H'=>m=xs.length - i/\i<=xs.length/\Pv i ys H',⟨_,Y,E2 _,h0⟩,?_⟩,λ z=>⟨λ i m ys H'=>m=xs.length - i/\i<=xs.length/\Pv i ys H',⟨_,Y,E2 _,h0⟩,?_⟩⟩
 ·rintro i m ys H' ⟨rfl,hi,p⟩;have z':=hk i ys H' hi p _ z
  by_cases hin:i < xs.length
  ·obtain ⟨e,hg⟩:=ht i xs[i] ys H' (by simp [hin]) p;refine .inr ⟨⟨xs,xs[i],FI z',by simp [hin]⟩,e,λ x H2 yl=>?_⟩;obtain ⟨e1,e2⟩:=yl;have e3:=e2 xs (FI z');have e4:x=xs[i]:=by simpa [hin] using e3.symm
   subst e1 e4;exact hg
  ·have e:i=xs.length:=⋯
   subst e;obtain ⟨a1,a2⟩:=hd ys H' p;exact .inl ⟨⟨xs,FI z',B0 _⟩,a1,a2⟩
 ·rintro i m ys H' ⟨rfl,hi,p⟩;have z':=hk i ys H' hi p _ z
  by_cases hin:i < xs.length
  ·obtain ⟨e,hg⟩:=ht i xs[i] ys H' (by simp [hin]) p;refine .inr ⟨⟨xs,xs[i],FH z',by simp [hin]⟩,e,λ x H2 yl=>?_⟩;obtain ⟨e1,e2⟩:=yl;have e3:=e2 xs (FH z');have e4:x=xs[i]:=by simpa [hin] using e3.symm
   subst e1 e4;exact hg
  ·have e:i=xs.length:=⋯
   subst e;obtain ⟨a1,a2⟩:=hd ys H' p;exact .inl ⟨⟨xs,FH z',B0 _⟩,a1,a2⟩
theorem mS {K:C1} {j:Nat} {a:Addr} {xs:List V} {σ:St} {cap:List Nat} {k:Nat} {g:TG} {tt:TT} {te:TE} {Q:VK} {H:Hp} (hσ:σ[j]? = some (↑a)) (hs:H a=↥xs\/H a= ~~~xs) (Pv:Nat->List V->Hp->Prop)
  (hk:∀i ys H',i<=xs.length->Pv i ys H'->∀o,H a=some o->H' a=some o) (h0:Pv 0 [] H)
  (ht:∀i x ys H',xs[i]? = some x->Pv i ys H'->ys.length < sizeLine/\g x (aU σ cap k) H' λ σ2 H2=>leS (aU σ cap k) σ2/\tt σ2 H2 λ ok H3=>if ok=true then te σ2 H3 (λ v H4=>Nx xs.length Pv i (ys ++ [v]) H4) else Nx xs.length Pv i ys H3)
  (hd:∀ys H',Pv xs.length ys H'->ys.length<=sizeLine/\∀p,H' p=none->Q (.ref p) (upd H' p (.lst ys))):oN (tV K (tVar j)) cap k g tt te σ H Q:=by
 obtain ⟨c1,c2⟩:=eJ (K:=K) (σ:=σ) (cap:=cap) (k:=k) (g:=g) (tt:=tt) (te:=te) hs Pv hk h0 ht hd;rcases hs with z | z
 ·exact .inl ⟨_,hσ,a,Y,⟨xs,FI z⟩,c1 z⟩
 ·exact .inr ⟨_,hσ,a,Y,⟨xs,FH z⟩,c2 z⟩
end L2
namespace Pc
open PySem L2
def jR (b:Int) (r:Addr):List (Str×V):=cD "kind_rows" (.ref r) (cD "blade_width" (.int b) [])
theorem kbw:¬ (("blade_width" : Str) = "kind_rows"):=∅
theorem jS (b:Int) (r:Addr):(jR b r).lookup ("blade_width" : Str)=⇑b:=by unfold jR;rw [bD,if_neg kbw,bD,if_pos rfl]
theorem cK (b:Int) (r:Addr):(jR b r).lookup ("kind_rows" : Str)=↑r:=by unfold jR;rw [bD,if_pos rfl]
theorem cF (b:Int) (r:Addr) {m:Str} (h1:¬ m = "kind_rows") (h2:¬ m = "blade_width"):(jR b r).lookup m=none:=by
 unfold jR;rw [bD,if_neg h1,bD,if_neg h2]
 all_goals rfl
def ShopAt (C:Addr) (H:Hp) (x:Addr) (b:Int) (ks:List Kd):Prop:=∃dx r rs,H x=some (.ins C dx (jR b r))/\H r= ~~~rs/\Tups H rs ks
theorem ShopAt.keep {C:Addr} {H H':Hp} {x:Addr} {b:Int} {ks:List Kd} (s:ShopAt C H x b ks) (k1:∀b xs,H b= ~~~xs->H' b= ~~~xs) (k2:∀b C dx fs,H b=some (.ins C dx fs)->H' b=some (.ins C dx fs)):ShopAt C H' x b ks:=by obtain ⟨dx,r,rs,h1,h2,h3⟩:=s;exact ⟨dx,r,rs,k2 _ _ _ _ h1,k1 _ _ h2,Tups.keep k1 h3⟩
def jT (C:Addr):Sp:=λ vs H Q _=>∃ (x dx ks:Addr) (b:Int) (rs:List V) (kds:List Kd),vs=[.ref x,.int b,.ref ks]/\H x=some (.ins C dx [])/\0<=b/\(H ks=↥rs\/H ks= ~~~rs)/\Paired (RowAt H) rs kds/\(∀k∈kds,Good k)/\1<=rs.length/\rs.length<=8 /\
 ∀H':Hp,ShopAt C H' x b kds->(∀c o,c≠x->H c=some o->H' c=some o)->Q .non H'
def fO (C:Addr):Sp:=λ vs H Q _=>∃ (x:Addr) (b:Int) (ks:List Kd),vs=[.ref x]/\ShopAt C H x b ks/\Q (.int b) H
def fP (C:Addr):Sp:=λ vs H Q _=>∃ (x:Addr) (b:Int) (ks:List Kd),vs=[.ref x]/\ShopAt C H x b ks/\∀ (l:Addr) (rs:List V),H l=none->Tups H rs ks->Q (.ref l) (upd H l (.lst rs))
theorem lT {K:C1} {H:Hp} {k:Kd}:∀y∈kdV k,∃U,Ty K H y U:=by
 intro y hy;simp only [kdV,List.mem_cons,List.not_mem_nil,or_false] at hy;rcases hy with rfl | rfl | rfl | rfl | rfl
 ·exact ⟨_,.int⟩
 ·exact ⟨_,.int⟩
 ·exact ⟨_,.int⟩
 ·exact ⟨_,.int⟩
 ·exact ⟨_,.bl⟩
theorem Paired.getR {α β:Type} {F:α->β->Prop}:∀ {l₁:List α} {l₂:List β} {i:Nat} {x:α},Paired F l₁ l₂->l₁[i]? = some x->∃y,l₂[i]? = some y/\F x y
 | _,_,_,_,.nil,e=>by simp at e
 | _,_,0,_,.cons h _,e=>by simp at e; subst e; exact ⟨_,Y,h⟩
 | _,_,i + 1,x,.cons _ t,e=>by obtain ⟨y,h1,h2⟩:=Paired.getR (i:=i) (x:=x) t (by simpa using e);exact ⟨y,by simpa using h1,h2⟩
abbrev FK:=@Paired.getR
theorem RowAt.same {H H':Hp} {v:V} {k:Kd} (s:Same H H') (r:RowAt H v k):RowAt H' v k:=by
 rcases r with ⟨a,e,h⟩ | ⟨a,e,h⟩
 ·exact .inl ⟨a,e,s _ _ h⟩
 ·exact .inr ⟨a,e,s _ _ h⟩
theorem mU {K:C1} {H:Hp} {v:V} {k:Kd} {Q:VK} {E:XK} (r:RowAt H v k) (g:Good k) (q:∀H',Same H H'->Q (.bl true) H'):eI K [v] H Q E:=by
 rcases r with ⟨a,rfl,h⟩ | ⟨a,rfl,h⟩
 ·exact ⟨_,_,Y,.tup h,.inr ⟨a,_,Y,.inr h,lT,λ H' s=>by rw [gp g]; exact q H' s⟩⟩
 ·exact ⟨_,_,Y,.lst h,.inr ⟨a,_,Y,.inl h,lT,λ H' s=>by rw [gp g]; exact q H' s⟩⟩
structure ShopTxt (K:C1) (C:Addr):Prop where
 cl:Cls K C
 nB:NoAttr K C "blade_width"
 nK:NoAttr K C "kind_rows"
end Pc
namespace L2
open PySem PySem.Spec PyProof.Rows
def Mn (P:FC) (w:FE) (K:C1) (mg:Str->Option FF) (base:Heap) (C:Addr) (m:Str) (ps:List Str) (k:Nat) (sp:Sp):Prop :=
 ∃ (f:Addr) (fd:FD),FnOk P w K mg base CX0 k f fd ps sp/\Binds K fd ps []/\Meth K C m f
theorem gq {X:Cx} {k:Nat} {C:Addr} {ps:List Str} {sp:Sp} {m:Str} {o:Expr} {ta:TE} {apos pos:Pos} {pl:Sem Bool} (he:PE X o ta) (c:Cls X.K C) (D:Mn X.prog X.w X.K X.mg X.base C m ps k sp) (hr:Room k X.A)
  (ht:eval (.Call (.Attribute o m apos) [] [] pos) X.env=(do
   let ov<-eval o X.env
   standAt apos.atName
   let (f,first)<-holding [ov] (getMethod ov m pl)
   callWith pos f first (backTo pos (starEach [] X.env)) (backToKw pos (keywordEach [] X.env))):=by rfl):PE X (.Call (.Attribute o m apos) [] [] pos) (lJ C m sp [] E0 ta jc):=by
 obtain ⟨f,fd,F,hb,hm⟩:=D;exact oF he c hm F hr hb .nil lO ht
def Kn (P:FC) (w:FE) (K:C1) (mg:Str->Option FF) (base:Heap) (x:Str) (C:Addr) (ps:List Str) (k:Nat) (sp:Sp):Prop :=
 ∃ (f:Addr) (fd:FD),Mk K C f/\FnOk P w K mg base CX0 k f fd ps sp/\Binds K fd ps []/\mg x=↑C
theorem yy {X:Cx} {k:Nat} {C:Addr} {ps:List Str} {sp:Sp} {x:Str} {p pos:Pos} {e:Expr} {es:List Expr} {t:TA} (D:Kn X.prog X.w X.K X.mg X.base x C ps k sp) (hr:Room (k + 1) X.A) (hg:Gl X x) (ha:PA X (e :: es) t)
  (hdb:(x == ("__debug__" : Str))=false:=by decide) (he:starEach (e :: es) X.env=(false,eval e X.env) :: starEach es X.env:=by rfl) (hpl:(backTo pos (starEach es X.env)).any (·.1)=false:=by rfl) :
  PE X (.Call (.Name x p) (e :: es) [] pos) (tj C sp [] E0 t):=by
 obtain ⟨f,fd,M,F,hb,hm⟩:=D;exact qV M F hr hg hm hb .nil lO ha hdb he hpl
end L2
namespace Pc
open PySem L2
theorem Paired.app {α β:Type} {F:α->β->Prop}:∀ {l₁ m₁:List α} {l₂ m₂:List β},Paired F l₁ l₂->Paired F m₁ m₂->Paired F (l₁ ++ m₁) (l₂ ++ m₂)
 | _,_,_,_,.nil,s=>s
 | _,_,_,_,.cons r t,s=>.cons r (Paired.app t s)
theorem Same.but {p:Addr} {H H':Hp} (s:Same H H'):But p H H':=λ b o _ e=>s b o e
theorem Same.new {q:Addr} {H:Hp} {o:HO} (h:H q=none):Same H (upd H q o):=λ b u e=>by rw [aj (ah e h)]; exact e
abbrev FG:=@Same.new
end Pc
namespace L2
open PySem PySem.Spec PyProof.Rows
def RI (M:Model) (Γ:PySem.Ctx) (p:Pos) (s:FB) (e:End) (s':FB):Sem Fin->Prop
 | .pure (.done f)=>e=.ret (.ok f)/\s=s'
 | .pure (.again c)=>Runs M (Γ.goto c) p (M.den c) [] s e s'
 | .raise x=>e=.ret (.error x)/\s=s'
 | .rule _ k=>Runs M Γ p (k ()) [] s e s'
 | .at p' k=>Runs M Γ p' (k ()) [] s e s'
 | .load a _ k=>∃o,s.heap.get? a=some o/\Runs M Γ p (k o) [] s e s'
 | .update a _ f k=>Runs M Γ p (k ()) [] { s with heap:=s.heap.update a f } e s'
 | .loadIfAlive a k=>Runs M Γ p (k (s.heap.get? a)) [] s e s'
 | .point _ k=>Runs M Γ p (k ()) [] s e s'
 | .alloc o k=>Runs M Γ p (k s.heap.objs.size) [] { s with heap:=s.heap.push o } e s'
 | .fresh k=>Runs M Γ p (k s.toks) [] { s with toks:=s.toks + 1 } e s'
 | .ask k=>Runs M Γ p (k ⟨M.prog,M.w.params⟩) [] s e s'
 | .choose src n k=>Runs M Γ p (k (M.w.draws src (s.drawn.get src) % n)) [] { s with drawn:=s.drawn.bump src } e s'
 | .os q _ k=>Runs M Γ p (k (Os.step s.os q).2) [] { s with os:=(Os.step s.os q).1 } e s'
 | .handled own k=>Runs M Γ p (k (if own then Γ.own else Γ.handled)) [] s e s'
 | .genState g k=>∃st,s.gens[g]? = some st/\Runs M Γ p (k st.seen) [] s e s'
 | .stack k=>Runs M Γ p (k ((Γ.code,p) :: Γ.below)) [] s e s'
 | .thread k=>Runs M Γ p (k 0) [] s e s'
 | .newGen c k=>Runs M Γ p (k s.gens.size) [] { s with gens:=s.gens.push (.fresh c) } e s'
 | .yield v g l k=>e=.susp v g l k Γ.code p []/\s=s'
 | .call c h g l k=>(∃r s₁,Runs M (Γ.enter c h p) p (M.den c) [] s (.ret r) s₁/\Runs M Γ p (k r) [] s₁ e s') \/
   (∃v g₀ l₀ k₀ c₀ p₀ fs,Runs M (Γ.enter c h p) p (M.den c) [] s (.susp v g₀ l₀ k₀ c₀ p₀ fs) s'/\e=.susp v g₀ l₀ k₀ c₀ p₀ (fs ++ [.ret k h g l Γ.code p []]))
 | .resume g r _ k=>(∃c e₁ s₁,r=.send .none/\s.gens[g]? = some (.fresh c)/\Runs M (Γ.wake c p) p (M.den c) [] (s.setGen g .running) e₁ s₁/\Runs M Γ p (k e₁.result) [] (s₁.setGen g e₁.genState) e s') \/
   (∃k₀ l₀ c₀ p₀ fs cl e₁ s₁,s.gens[g]? = some (.suspended k₀ l₀ c₀ p₀ fs cl)/\Runs M (Γ.wake c₀ p) p₀ (k₀ r) fs (s.setGen g .running) e₁ s₁/\Runs M Γ p (k e₁.result) [] (s₁.setGen g e₁.genState) e s') \/
   (∃c v,r=.send v/\v≠.none/\s.gens[g]? = some (.fresh c)/\Runs M Γ p (k .justStarted) [] s e s') \/
   (∃c x,r=.throw x/\s.gens[g]? = some (.fresh c)/\Runs M Γ p (k (.raised x)) [] (s.setGen g .finished) e s') \/
   (s.gens[g]? = some .running/\Runs M Γ p (k .running) [] s e s')\/(s.gens[g]? = some .finished/\Runs M Γ p (k .finished) [] s e s')
 | _=>True
def RJ (M:Model) (Γ:PySem.Ctx) (p:Pos) (t:Sem Fin) (s:FB) (e:End) (s':FB):List Frame->Prop
 | []=>RI M Γ p s e s' t
 | F :: fs=>(∃k h g l c₁ p₁ kp r s₁,F=.ret k h g l c₁ p₁ kp/\Runs M (Γ.over (F :: fs)) p t [] s (.ret r) s₁/\Runs M (Γ.goto c₁) p₁ (k r) fs s₁ e s') \/
   (∃g k l c₁ p₁ r s₁,F=.gen g k l c₁ p₁/\Runs M (Γ.over (F :: fs)) p t [] s (.ret r) s₁/\Runs M (Γ.goto c₁) p₁ (k (End.ret r).result) fs (s₁.setGen g .finished) e s') \/
   (∃v g₀ l₀ k₀ c₀ p₀ fs₀,splitAtGen (F :: fs)=none/\Runs M (Γ.over (F :: fs)) p t [] s (.susp v g₀ l₀ k₀ c₀ p₀ fs₀) s'/\e=.susp v g₀ l₀ k₀ c₀ p₀ (fs₀ ++ F :: fs)) \/
   (∃pre g k c₁ p₁ rest v g₀ l₀ k₀ c₀ p₀ fs₀ s₁,splitAtGen (F :: fs)=some (pre,(g,k,c₁,p₁),rest)/\Runs M (Γ.over (F :: fs)) p t [] s (.susp v g₀ l₀ k₀ c₀ p₀ fs₀) s₁/\Runs M (Γ.goto c₁) p₁ (k (.yielded v)) rest (s₁.setGen g (End.susp v g₀ l₀ k₀ c₀ p₀ (fs₀ ++ pre)).genState) e s')
theorem bG {M:Model} {Γ:PySem.Ctx} {p:Pos} {t:Sem Fin} {fs:List Frame} {s s':FB} {e:End} (h:Runs M Γ p t fs s e s'):RJ M Γ p t s e s' fs:=by
 cases h with
 | done=>exact ⟨Y,Y⟩
 | raise=>exact ⟨Y,Y⟩
 | again _ b=>exact b
 | rule b=>exact b
 | «at» b=>exact b
 | load a b=>exact ⟨_,a,b⟩
 | update _ b=>exact b
 | loadIfAlive b=>exact b
 | point b=>exact b
 | alloc b=>exact b
 | fresh b=>exact b
 | ask b=>exact b
 | choose _ b=>exact b
 | os b=>exact b
 | handled b=>exact b
 | genState a b=>exact ⟨_,a,b⟩
 | stack b=>exact b
 | thread b=>exact b
 | newGen b=>exact b
 | call a b=>exact .inl ⟨_,_,a,b⟩
 | callSusp a=>exact .inr ⟨_,_,_,_,_,_,_,a,Y⟩
 | yield=>exact ⟨Y,Y⟩
 | resumeFresh a b _ c=>exact .inl ⟨_,_,_,Y,a,b,c⟩
 | resumeSuspended a b _ c=>exact .inr (.inl ⟨_,_,_,_,_,_,_,_,a,b,c⟩)
 | resumeJustStarted a b c=>exact .inr (.inr (.inl ⟨_,_,Y,b,a,c⟩))
 | resumeThrowFresh a b=>exact .inr (.inr (.inr (.inl ⟨_,_,Y,a,b⟩)))
 | resumeRunning a b=>exact .inr (.inr (.inr (.inr (.inl ⟨a,b⟩))))
 | resumeFinished a b=>exact .inr (.inr (.inr (.inr (.inr ⟨a,b⟩))))
 | segRet a b=>exact .inl ⟨_,_,_,_,_,_,_,_,_,Y,a,b⟩
 | segGen a b=>exact .inr (.inl ⟨_,_,_,_,_,_,_,Y,a,b⟩)
 | segSuspOut a b=>exact .inr (.inr (.inl ⟨_,_,_,_,_,_,_,a,b,Y⟩))
 | segSuspGen a b _ c=>exact .inr (.inr (.inr ⟨_,_,_,_,_,_,_,_,_,_,_,_,_,_,a,b,c⟩))
theorem gs {M:Model} {Γ:PySem.Ctx} {p:Pos} {t:Sem Fin} {fs:List Frame} {s s':FB} {e:End} (h:Runs M Γ p t fs s e s'):∀ {e2:End} {s2:FB},Runs M Γ p t fs s e2 s2->e=e2/\s'=s2:=by
 induction h with
 | done=>exact λ h2=>⟨(bG h2).1.symm,(bG h2).2⟩
 | raise=>exact λ h2=>⟨(bG h2).1.symm,(bG h2).2⟩
 | again _ _ ih=>exact λ h2=>ih (bG h2)
 | rule _ ih=>exact λ h2=>ih (bG h2)
 | «at» _ ih=>exact λ h2=>ih (bG h2)
 | load he _ ih =>
  intro e2 s2 h2;obtain ⟨o,b1,b2⟩:=bG h2;rw [he] at b1; cases b1; exact ih b2
 | update _ _ ih=>exact λ h2=>ih (bG h2)
 | loadIfAlive _ ih=>exact λ h2=>ih (bG h2)
 | point _ ih=>exact λ h2=>ih (bG h2)
 | alloc _ ih=>exact λ h2=>ih (bG h2)
 | fresh _ ih=>exact λ h2=>ih (bG h2)
 | ask _ ih=>exact λ h2=>ih (bG h2)
 | choose _ _ ih=>exact λ h2=>ih (bG h2)
 | os _ ih=>exact λ h2=>ih (bG h2)
 | handled _ ih=>exact λ h2=>ih (bG h2)
 | genState he _ ih =>
  intro e2 s2 h2;obtain ⟨o,b1,b2⟩:=bG h2;rw [he] at b1; cases b1; exact ih b2
 | stack _ ih=>exact λ h2=>ih (bG h2)
 | thread _ ih=>exact λ h2=>ih (bG h2)
 | newGen _ ih=>exact λ h2=>ih (bG h2)
 | call _ _ ih1 ih2 =>
  intro e2 s2 h2;rcases bG h2 with ⟨r,s1,a,b⟩ | ⟨_,_,_,_,_,_,_,a,_⟩
  ·obtain ⟨q1,q2⟩:=ih1 a; cases q1; subst q2; exact ih2 b
  ·obtain ⟨q1,_⟩:=ih1 a; cases q1
 | callSusp _ ih1 =>
  intro e2 s2 h2;rcases bG h2 with ⟨r,s1,a,b⟩ | ⟨_,_,_,_,_,_,_,a,b⟩
  ·obtain ⟨q1,_⟩:=ih1 a; cases q1
  ·obtain ⟨q1,q2⟩:=ih1 a; cases q1; exact ⟨b.symm,q2⟩
 | yield=>exact λ h2=>⟨(bG h2).1.symm,(bG h2).2⟩
 | resumeFresh hg _ _ _ ih1 ih2 =>
  intro e2 s2 h2;rcases bG h2 with ⟨_,_,_,_,g,a,b⟩ | ⟨_,_,_,_,_,_,_,_,g,_⟩ | ⟨_,v,rv,n,_⟩ | ⟨_,_,rv,_⟩ | ⟨g,_⟩ | ⟨g,_⟩
  ·rw [hg] at g; cases g; obtain ⟨q1,q2⟩:=ih1 a; subst q1 q2; exact ih2 b
  ·rw [hg] at g; cases g
  ·cases rv; exact absurd rfl n
  ·cases rv
  ·rw [hg] at g; cases g
  ·rw [hg] at g; cases g
 | resumeSuspended hg _ _ _ ih1 ih2 =>
  intro e2 s2 h2;rcases bG h2 with ⟨_,_,_,_,g,a,b⟩ | ⟨_,_,_,_,_,_,_,_,g,a,b⟩ | ⟨_,v,rv,n,g,_⟩ | ⟨_,_,rv,g,_⟩ | ⟨g,_⟩ | ⟨g,_⟩
  ·rw [hg] at g; cases g
  ·rw [hg] at g; cases g; obtain ⟨q1,q2⟩:=ih1 a; subst q1 q2; exact ih2 b
  ·rw [hg] at g; cases g
  ·rw [hg] at g; cases g
  ·rw [hg] at g; cases g
  ·rw [hg] at g; cases g
 | resumeJustStarted hg n _ ih =>
  intro e2 s2 h2;rcases bG h2 with ⟨_,_,_,rv,_⟩ | ⟨_,_,_,_,_,_,_,_,g,a,b⟩ | ⟨_,v,rv,_,g,b⟩ | ⟨_,_,rv,g,_⟩ | ⟨g,_⟩ | ⟨g,_⟩
  ·cases rv; exact absurd rfl n
  ·rw [hg] at g; cases g
  ·exact ih b
  ·cases rv
  ·rw [hg] at g; cases g
  ·rw [hg] at g; cases g
 | resumeThrowFresh hg _ ih =>
  intro e2 s2 h2;rcases bG h2 with ⟨_,_,_,rv,_⟩ | ⟨_,_,_,_,_,_,_,_,g,a,b⟩ | ⟨_,v,rv,_,g,b⟩ | ⟨_,_,rv,g,b⟩ | ⟨g,_⟩ | ⟨g,_⟩
  ·cases rv
  ·rw [hg] at g; cases g
  ·cases rv
  ·cases rv; exact ih b
  ·rw [hg] at g; cases g
  ·rw [hg] at g; cases g
 | resumeRunning hg _ ih =>
  intro e2 s2 h2;rcases bG h2 with ⟨_,_,_,_,g,_⟩ | ⟨_,_,_,_,_,_,_,_,g,a,b⟩ | ⟨_,v,rv,_,g,b⟩ | ⟨_,_,rv,g,b⟩ | ⟨g,b⟩ | ⟨g,_⟩
  ·rw [hg] at g; cases g
  ·rw [hg] at g; cases g
  ·rw [hg] at g; cases g
  ·rw [hg] at g; cases g
  ·exact ih b
  ·rw [hg] at g; cases g
 | resumeFinished hg _ ih =>
  intro e2 s2 h2;rcases bG h2 with ⟨_,_,_,_,g,_⟩ | ⟨_,_,_,_,_,_,_,_,g,a,b⟩ | ⟨_,v,rv,_,g,b⟩ | ⟨_,_,rv,g,b⟩ | ⟨g,b⟩ | ⟨g,b⟩
  ·rw [hg] at g; cases g
  ·rw [hg] at g; cases g
  ·rw [hg] at g; cases g
  ·rw [hg] at g; cases g
  ·rw [hg] at g; cases g
  ·exact ih b
 | segRet _ _ ih1 ih2 =>
  intro e2 s2 h2;rcases bG h2 with ⟨_,_,_,_,_,_,_,_,_,z,a,b⟩ | ⟨_,_,_,_,_,_,_,z,_⟩ | ⟨_,_,_,_,_,_,_,_,a,_⟩ | ⟨_,_,_,_,_,_,_,_,_,_,_,_,_,_,_,a,_⟩
  ·cases z; obtain ⟨q1,q2⟩:=ih1 a; cases q1; subst q2; exact ih2 b
  ·cases z
  ·obtain ⟨q1,_⟩:=ih1 a; cases q1
  ·obtain ⟨q1,_⟩:=ih1 a; cases q1
 | segGen _ _ ih1 ih2 =>
  intro e2 s2 h2;rcases bG h2 with ⟨_,_,_,_,_,_,_,_,_,z,a,b⟩ | ⟨_,_,_,_,_,_,_,z,a,b⟩ | ⟨_,_,_,_,_,_,_,_,a,_⟩ | ⟨_,_,_,_,_,_,_,_,_,_,_,_,_,_,_,a,_⟩
  ·cases z
  ·cases z; obtain ⟨q1,q2⟩:=ih1 a; cases q1; subst q2; exact ih2 b
  ·obtain ⟨q1,_⟩:=ih1 a; cases q1
  ·obtain ⟨q1,_⟩:=ih1 a; cases q1
 | segSuspOut hn _ ih1 =>
  intro e2 s2 h2;rcases bG h2 with ⟨_,_,_,_,_,_,_,_,_,z,a,b⟩ | ⟨_,_,_,_,_,_,_,z,a,b⟩ | ⟨_,_,_,_,_,_,_,_,a,z⟩ | ⟨_,_,_,_,_,_,_,_,_,_,_,_,_,_,hs,a,_⟩
  ·obtain ⟨q1,_⟩:=ih1 a; cases q1
  ·obtain ⟨q1,_⟩:=ih1 a; cases q1
  ·obtain ⟨q1,q2⟩:=ih1 a; cases q1; exact ⟨z.symm,q2⟩
  ·rw [hn] at hs; cases hs
 | segSuspGen hs _ _ _ ih1 ih2 =>
  intro e2 s2 h2;rcases bG h2 with ⟨_,_,_,_,_,_,_,_,_,z,a,b⟩ | ⟨_,_,_,_,_,_,_,z,a,b⟩ | ⟨_,_,_,_,_,_,_,hn,a,z⟩ | ⟨_,_,_,_,_,_,_,_,_,_,_,_,_,_,hs',a,b⟩
  ·obtain ⟨q1,_⟩:=ih1 a; cases q1
  ·obtain ⟨q1,_⟩:=ih1 a; cases q1
  ·rw [hn] at hs; cases hs
  ·rw [hs] at hs'; cases hs'; obtain ⟨q1,q2⟩:=ih1 a; cases q1; subst q2; exact ih2 b
theorem rf {α:Type} (M:Model) (Γ:PySem.Ctx) (t:Sem α):∀ (Q Q':α->Pos->FB->Prop) (E E':FF->Pos->FB->Prop) (p:Pos) (s:FB),Sem.wp M Γ t Q E p s->Sem.wp M Γ t Q' E' p s ->
  Sem.wp M Γ t (λ a p' s'=>Q a p' s'/\Q' a p' s') (λ e p' s'=>E e p' s'/\E' e p' s') p s:=by
 have det:∀ {Δ:PySem.Ctx} {p:Pos} {s:FB} {r r':Result} {s1 s2:FB},Returns M Δ p s r s1->Returns M Δ p s r' s2->r=r'/\s1=s2:=by intro Δ p s r r' s1 s2 h1 h2;obtain ⟨q1,q2⟩:=gs h1 h2;cases q1;exact ⟨Y,q2⟩
 have detW:∀ {Δ:PySem.Ctx} {p:Pos} {g:Nat} {r:Resume} {s:FB} {x x':GenResult} {s1 s2:FB},Wakes M Δ p g r s x s1->Wakes M Δ p g r s x' s2->x=x'/\s1=s2:=by
  intro Δ p g r s x x' s1 s2 h1 h2;unfold Wakes at h1 h2
  split at h1
  ·exact h1.elim
  ·split at h1
   ·obtain ⟨e1,t1,a1,_,rfl,rfl⟩:=h1
    rename_i hg _ _
    simp only [hg] at h2;obtain ⟨e2,t2,a2,_,rfl,rfl⟩:=h2;obtain ⟨q1,q2⟩:=gs a1 a2;subst q1 q2;exact ⟨Y,Y⟩
   ·rename_i hg _ _ hn
    simp only [hg] at h2;obtain ⟨rfl,rfl⟩:=h1;obtain ⟨rfl,rfl⟩:=h2;exact ⟨Y,Y⟩
   ·rename_i hg _ _
    simp only [hg] at h2;obtain ⟨rfl,rfl⟩:=h1;obtain ⟨rfl,rfl⟩:=h2;exact ⟨Y,Y⟩
  ·rename_i hg
   simp only [hg] at h2;obtain ⟨e1,t1,a1,_,rfl,rfl⟩:=h1;obtain ⟨e2,t2,a2,_,rfl,rfl⟩:=h2;obtain ⟨q1,q2⟩:=gs a1 a2;subst q1 q2;exact ⟨Y,Y⟩
  ·rename_i hg
   simp only [hg] at h2;obtain ⟨rfl,rfl⟩:=h1;obtain ⟨rfl,rfl⟩:=h2;exact ⟨Y,Y⟩
  ·rename_i hg
   simp only [hg] at h2;obtain ⟨rfl,rfl⟩:=h1;obtain ⟨rfl,rfl⟩:=h2;exact ⟨Y,Y⟩
 induction t with
 | pure a=>intro Q Q' E E' p s h h'; exact ⟨h,h'⟩
 | raise e=>intro Q Q' E E' p s h h'; exact ⟨h,h'⟩
 | unsupported _=>intro Q Q' E E' p s h _; exact h
 | finish _=>intro Q Q' E E' p s h _; exact h
 | rule _ k ih=>intro Q Q' E E' p s h h'; exact ih () _ _ _ _ p s h h'
 | «at» p' k ih=>intro Q Q' E E' p s h h'; exact ih () _ _ _ _ p' s h h'
 | load a _ k ih =>
  intro Q Q' E E' p s h h'; obtain ⟨o,ho,h⟩:=h; obtain ⟨o',ho',h'⟩:=h';rw [ho] at ho'; cases ho'; exact ⟨o,ho,ih o _ _ _ _ p s h h'⟩
 | update a _ f k ih=>intro Q Q' E E' p s h h'; exact ⟨h.1,ih () _ _ _ _ p _ h.2 h'.2⟩
 | loadIfAlive a k ih=>intro Q Q' E E' p s h h'; exact ih _ _ _ _ _ p s h h'
 | point _ k ih=>intro Q Q' E E' p s h h'; exact ih () _ _ _ _ p s h h'
 | register _ _=>intro Q Q' E E' p s h _; exact h
 | alloc o k ih=>intro Q Q' E E' p s h h'; exact ih _ _ _ _ _ p _ h h'
 | fresh k ih=>intro Q Q' E E' p s h h'; exact ih _ _ _ _ _ p _ h h'
 | ask k ih=>intro Q Q' E E' p s h h'; exact ih _ _ _ _ _ p s h h'
 | choose src m k ih=>intro Q Q' E E' p s h h'; exact ⟨h.1,ih _ _ _ _ _ p _ h.2 h'.2⟩
 | os q _ k ih=>intro Q Q' E E' p s h h'; exact ih _ _ _ _ _ p _ h h'
 | call c hd _ _ k ih =>
  intro Q Q' E E' p s h h'; obtain ⟨r,s',hr,h⟩:=h; obtain ⟨r',s'',hr',h'⟩:=h';obtain ⟨rfl,rfl⟩:=det hr hr';exact ⟨r,s',hr,ih r _ _ _ _ p s' h h'⟩
 | handled own k ih=>intro Q Q' E E' p s h h'; exact ih _ _ _ _ _ p s h h'
 | genState g k ih =>
  intro Q Q' E E' p s h h'; obtain ⟨st,hs,h⟩:=h; obtain ⟨st',hs',h'⟩:=h';rw [hs] at hs'; cases hs'; exact ⟨st,hs,ih _ _ _ _ _ p s h h'⟩
 | newGen c k ih=>intro Q Q' E E' p s h h'; exact ih _ _ _ _ _ p _ h h'
 | resume g r _ k ih =>
  intro Q Q' E E' p s h h'; obtain ⟨x,s',hw,h⟩:=h; obtain ⟨x',s'',hw',h'⟩:=h';obtain ⟨rfl,rfl⟩:=detW hw hw';exact ⟨x,s',hw,ih x _ _ _ _ p s' h h'⟩
 | yield _ _ _ _=>intro Q Q' E E' p s h _; exact h
 | stack k ih=>intro Q Q' E E' p s h h'; exact ih _ _ _ _ _ p s h h'
 | fork _ _=>intro Q Q' E E' p s h _; exact h
 | thread k ih=>intro Q Q' E E' p s h h'; exact ih _ _ _ _ _ p s h h'
 | await _ _ _ _ _=>intro Q Q' E E' p s h _; exact h
theorem cA {α:Type} {M:Model} {A:Around} {t:Sem α} {Q Q':α->FB->Prop} {E E':FF->FB->Prop} {s:FB} (h:wpAny M A t Q E s) (h':wpAny M A t Q' E' s) :
  wpAny M A t (λ a s'=>Q a s'/\Q' a s') (λ e s'=>E e s'/\E' e s') s:=λ Γ p hΓ=>rf M Γ t _ _ _ _ p s (h Γ p hΓ) (h' Γ p hΓ)
def Q2 (e:Addr) (h:Heap):Prop:=∃oe vs,h.get? e=some oe/\oe.data=.fields vs/\vs[2]? = some .none
section
variable {M:Model} {A:Around} {E:FF->FB->Prop} {s:FB} {base:Heap} {env:Env} {outer l:List Env} {L e:Addr} {cls a0 fl:FF} {Q:Unit->FB->Prop}
theorem Q2.set {e c:Addr} {h:Heap} {i:Nat} {v:FF} (hi:i≠2) (q:Q2 e h):Q2 e (h.update c (Obj.mapFields (·.setIfInBounds i v))):=by
 obtain ⟨oe,vs,he,hd,h2⟩:=q
 by_cases z:c=e
 ·subst z;have hd':=Obj.data_mapFields hd (·.setIfInBounds i v);exact ⟨_,_,Heap.get?_update_self _ he (Obj.isFreed_of_fields hd'),hd',by rw [Array.getElem?_setIfInBounds_ne hi]; exact h2⟩
 ·exact ⟨oe,vs,(Heap.get?_update_other _ _ z).trans he,hd,h2⟩
theorem Q2.push {e:Addr} {h:Heap} {o:Obj} (q:Q2 e h):Q2 e (h.push o):=let ⟨oe,vs,he,r⟩:=q; ⟨oe,vs,A4 _ he,r⟩
theorem oS {head:FF} {nx:Bool} (hfr:A.frames=some (env :: outer)) (hl:s.heap.FunFrames base (env :: outer)) (hf:env.frame=some L) (q:Q2 e s.heap)
  (h:∀h₁ o ts,Q2 e h₁->o.data=.fields ts->3 < ts.size->Q () { s with heap:=(h₁.push o).update e (Obj.mapFields (·.setIfInBounds 1 (Value.ref h₁.objs.size))) }) :
  wpAny M A (do let a<-frameOf env; let pl<-entryPlaceOf L nx; let b<-EntryCells.newEntry head a .none (rawInt L) .none pl; setField (.ref e) 1 b) Q E s:=by
 obtain ⟨oe,vs,he,hd,h2⟩:=q;have hene:e∉(env :: outer).filterMap (·.frame):=λ hm=>by obtain ⟨_,o,ho,hnf⟩:=hl.mem hm;rw [he] at ho; injection ho with ho; subst ho; exact hnf vs hd
 refine A0 (wpAny_frameOf_fun hfr hl hf λ h₁ hs₁=>?_);refine A0 (wpAny_entryPlaceOf λ pl hpl=>?_);unfold EntryCells.newEntry newFields;refine A0 (E8 ?_ (hpl.sizeOk5 _ _ _ _ _));have he₁:h₁.get? e=some oe:=(hs₁.2.1 e hene).trans he;have h2s:2 < vs.size:=(Array.getElem?_eq_some_iff.mp h2).1;exact wpAny_setField (A4 _ he₁) hd ⋯ (h h₁ _ _ ⟨oe,vs,he₁,hd,h2⟩ rfl (by simp only [List.size_toArray,List.length_append,List.length_cons,List.length_nil]; omega))
theorem iB (tr:s.heap.TracedAtW base e cls a0 fl) (q:Q2 e s.heap):wpAny M A (setFlight (.ref e) none) (λ _ s'=>Q2 e s'.heap) E s:=by obtain ⟨oe,vs,T,oT,ts,he,hcls,hd,h1,hnT,hTe,hT,hdT,h3⟩:=tr;unfold setFlight;refine A0 (wpAny_field he hd h1 ?_);rw [if_pos (show (Value.ref T != Value.none)=true from by simp)];exact wpAny_setField hT hdT (Array.getElem?_eq_some_iff.mp h3).1 (q.set ∅)
theorem yz (hfr:A.frames=some (env :: outer)) (hf:env.frame=some L) (f:Heap.FlyingW base (env :: outer) e cls a0 s.heap) (q:Q2 e s.heap):wpAny M A (noteFrame (.ref e) env) (λ _ s'=>Q2 e s'.heap) E s:=by obtain ⟨hkb,hen,hl,oe,vs,T,oT,ts,he,hcls,hd,h1,hnT,hTe,hT,hdT,h3⟩:=f;unfold noteFrame;simp only [hf];refine A0 (wpAny_field he hd h1 ?_);rw [if_pos (show (Value.ref T != Value.none)=true from by simp)];refine A0 (wpAny_field hT hdT h3 ?_);rw [if_neg (show ¬ ((Value.none == rawInt L)=true) from by simp [rawInt])];refine A0 (wpAny_setField hT hdT (Array.getElem?_eq_some_iff.mp h3).1 ?_);refine oS (s:={ s with heap:=s.heap.update T (Obj.mapFields (·.setIfInBounds 3 Value.none)) }) hfr (hl.of_keeps λ b o hb hnf=>⟨o,(Heap.get?_update_other _ _ (λ z=>?_)).trans hb,Y⟩) hf (q.set ∅) λ h₁ o _ q1 _ _=>q1.push.set ∅;rw [<- z,hT] at hb; injection hb with hb; subst hb; exact hnf ts hdT
theorem tX {h:Heap} {args:List FF} (hfr:A.frames=some (env :: outer)) (hf:env.frame=some L) (hl:h.FunFrames base (env :: outer)) (hx:Heap.MadeExcOf h s.heap e cls args):wpAny M A (leaving env (.ref e)) (λ _ s'=>Q2 e s'.heap) E s:=by
 obtain ⟨t,he,htn,ht⟩:=hx.there;have q:Q2 e s.heap:=⟨_,_,he,Y,Y⟩
 unfold leaving noteFrame;simp only [hf];refine A0 (A0 (wpAny_field he rfl (x:=.none) rfl ?_));rw [if_neg ∅];refine oS (base:=base) hfr (hl.of_keeps λ b o hb _=>⟨o,hx.keeps b o hb,Y⟩) hf q λ h₁ o ts q1 ho h3=>?_;obtain ⟨oe1,vs1,he1,hd1,h21⟩:=q1;have hTe:h₁.objs.size≠e:=Nat.ne_of_gt (A6 he1);have hd3:=Obj.data_mapFields hd1 (·.setIfInBounds 1 (Value.ref h₁.objs.size));have he3:=Heap.get?_update_self (Obj.mapFields (·.setIfInBounds 1 (Value.ref h₁.objs.size))) (A4 o he1) (Obj.isFreed_of_fields hd3);have h2s:2 < vs1.size:=(Array.getElem?_eq_some_iff.mp h21).1;have hT:=(Heap.get?_update_other (h₁.push o) (Obj.mapFields (·.setIfInBounds 1 (Value.ref h₁.objs.size))) (Ne.symm hTe)).trans (A5 h₁ (Obj.isFreed_of_fields ho));unfold setFlight;refine A0 (wpAny_field he3 hd3 (x:=.ref h₁.objs.size) (by rw [Array.getElem?_setIfInBounds_self_of_lt ⋯]) ?_);rw [if_pos (show (Value.ref h₁.objs.size != Value.none)=true from by simp)];exact wpAny_setField hT ho h3 ((Q2.push (o:=o) ⟨oe1,vs1,he1,hd1,h21⟩).set (i:=1) ∅ |>.set ∅)
end
section
variable {M:Model} {A:Around} {E:FF->FB->Prop} {s:FB} {base:Heap} {env:Env} {outer l:List Env} {L e:Addr} {cls a0 fl:FF} {Q:Unit->FB->Prop}
theorem iC {h:Heap} {args:List FF} (hfr:A.frames=some (env :: outer)) (hf:env.frame=some L) (hkb:base.StaysIn h) (hl:h.FunFrames base (env :: outer)) (hx:Heap.MadeExcOf h s.heap e cls args)
  (hQ:∀h' t,Heap.FlyingW base outer e cls (.ref t) h'->h'.TupAt t args->base.get? t=none->s.heap.UpToSlots h'->Q2 e h'->Q () { s with heap:=h' }):wpAny M A (leaving env (.ref e)) Q E s :=
 wpAny_mono (cA (tX (E:=E) hfr hf hl hx) (wpAny_leaves_madeW (Q:=λ _ s'=>Q2 e s'.heap->Q () s') (E:=E) hfr hf hkb hl hx λ h' t a b c d q=>hQ h' t a b c d q)) (λ _ _ z=>z.2 z.1) λ _ _ z=>z.1
theorem hX (hfr:A.frames=some (env :: outer)) (hf:env.frame=some L) (f:Heap.FlyingW base (env :: outer) e cls a0 s.heap) (q:Q2 e s.heap)
  (hQ:∀h',Heap.HeldW base (env :: outer) e cls a0 L h'->s.heap.UpToSlots h'->Q2 e h'->Q () { s with heap:=h' }):wpAny M A (noteFrame (.ref e) env) Q E s :=
 wpAny_mono (cA (yz (E:=E) hfr hf f q) (wpAny_looks_onW (Q:=λ _ s'=>Q2 e s'.heap->Q () s') (E:=E) hfr hf f λ h' a b q=>hQ h' a b q)) (λ _ _ z=>z.2 z.1) λ _ _ z=>z.1
theorem tY (hh:Heap.HeldW base l e cls a0 L s.heap) (q:Q2 e s.heap) (hQ:∀h',Heap.FlyingW base l e cls a0 h'->s.heap.UpToSlots h'->Q2 e h'->Q () { s with heap:=h' }):wpAny M A (setFlight (.ref e) none) Q E s :=
 wpAny_mono (cA (iB (E:=E) hh.2.2.2 q) (wpAny_landsW (Q:=λ _ s'=>Q2 e s'.heap->Q () s') (E:=E) hh λ h' a b q=>hQ h' a b q)) (λ _ _ z=>z.2 z.1) λ _ _ z=>z.1
theorem iD (hh:Heap.FlyingW base l e cls a0 s.heap) (q:Q2 e s.heap) (hQ:∀h',Heap.FlyingW base l e cls a0 h'->s.heap.UpToSlots h'->Q2 e h'->Q () { s with heap:=h' }):wpAny M A (setFlight (.ref e) none) Q E s :=
 wpAny_mono (cA (iB (E:=E) hh.2.2.2.at q) (lands_againW (Q:=λ _ s'=>Q2 e s'.heap->Q () s') (E:=E) hh λ h' a b q=>hQ h' a b q)) (λ _ _ z=>z.2 z.1) λ _ _ z=>z.1
end
theorem ObjOk.ex {P:FC} {w:FE} {H:Hp} {h:Heap} {a:Addr} {o:HO} (x:ObjOk P w H h a o):∃ob,h.get? a=some ob:=by
 cases o with
 | lst xs=>obtain ⟨_,_,_,_,e⟩:=x; exact ⟨_,e⟩
 | tup xs=>obtain ⟨_,_,_,o,e,_⟩:=x; exact ⟨_,e⟩
 | dK kvs=>obtain ⟨_,_,_,_,o,_,_,e,_⟩:=x; exact ⟨_,e⟩
 | dT kvs=>obtain ⟨_,_,_,_,o,_,_,e,_⟩:=x; exact ⟨_,e⟩
 | set S n=>obtain ⟨o,_,_,_,e,_⟩:=x; exact ⟨_,e⟩
 | ins C dx fs=>obtain ⟨_,_,_,e,_⟩:=x; exact ⟨_,e⟩
 | own y=>exact x
 | xd fs=>obtain ⟨_,⟨_,_,_,e,_⟩,_⟩:=x; exact ⟨_,e⟩
 | rng lo hi=>obtain ⟨_,_,_,e⟩:=x; exact ⟨_,e⟩
 | frz ob u=>exact ⟨_,x.1⟩
 | tbl ps=>exact ⟨_,(show h.get? a=some _ from x)⟩
 | met f y=>exact ⟨_,(show h.get? a=some _ from x)⟩
 | ext φ=>exact x.2.1
structure Flew (P:Program) (w:World) (outer:List Env) (H:Hp) (s:Shared) (ea:Addr) (C:Value) (H':Hp) (B:Heap) (s':Shared):Prop where
 os:s'.os=s.os
 bare:AllBare s'.gens
 un:Un (frs outer) [] H H' s.heap s'.heap
 hok:HOk P w H' s'.heap
 fly:∃a0,Heap.FlyingW B outer ea C a0 s'.heap
 ctx:Q2 ea s'.heap
 cov:∀b o,b∉frs outer->(H' b≠none\/∃o',s.heap.get? b=some o')->s'.heap.get? b=some o->B.get? b=some o
 new:s.heap.get? ea=none/\H' ea=none
def CXx (P:FC) (w:FE):CXT:=λ outer H s E e s'=>∃ea C H' B,e=Value.ref ea/\Flew P w outer H s ea C H' B s'/\E C none H'
section
variable {X:Cx} {pins:List (Addr×Obj)} {σ:St} {H:Hp} {s:FB}
theorem Inv.raised {h2:Heap} {ea:Addr} {C:FF} {vs:List FF} {M:Model} {E:FF->FB->Prop} {Q:Unit->FB->Prop} (I:Inv X pins σ H s) (hst:X.stack=X.env :: X.outer) (hfr:X.env.frame=some X.env.locals) (hex:X.ex=[])
  (hx:Heap.MadeExcOf s.heap h2 ea C vs) (hQ:∀B h',Flew X.prog X.w X.outer X.H₀ X.s₀ ea C H B { s with heap:=h' }->Q () { s with heap:=h' }) :
  wpAny M X.A (leaving X.env (.ref ea)) Q E { s with heap:=h2 }:=by
 have fS:frs X.stack=X.env.locals :: X.fs:=by rw [hst]; unfold frs; rw [List.filterMap_cons,hfr]; rfl
 have st:s.heap.FunFrames X.base (X.env :: X.outer):=by rw [<- hst]; exact I.stack
 have hin:∀env∈(X.env :: X.outer),∀b,env.frame=some b->b∈frs X.stack:=λ env he b hb=>by rw [hst]; exact List.mem_filterMap.mpr ⟨env,he,hb⟩
 have s0L:∀b o,X.s₀.heap.get? b=some o->b≠X.env.locals:=λ b o e=>B6 (B8 (A6 e) I.ok.above);have Ubase:Un X.fs [] X.H₀ H X.s₀.heap s.heap:=by have:=I.base; rw [hex] at this; exact this
 have trk:∀b u,H b=some u->b∉frs X.stack:=λ b u e hb=>by rw [I.stkFree b hb] at e; cases e
 have ofd:∀b,b∈X.fs->∃o,s.heap.get? b=some o/\∀vs,o.data≠.fields vs:=λ b hb=>by obtain ⟨_,o,ho,hd⟩:=I.funs.mem hb;exact ⟨o,ho,hd⟩
 refine iC (base:=PySem.W.hideAll s.heap (frs X.stack)) (h:=s.heap) (by rw [<- hst]; exact I.ok.frames) hfr (λ b o q=>PySem.W.of_hideAll _ q) (PySem.W.funFrames_hide st hin) hx λ h' t fl tup hbt sm q2=>hQ (PySem.W.hideAll s.heap (frs X.stack)) h' ?_;have toB:∀b o,b∉frs X.stack->s.heap.get? b=some o->h'.get? b=some o:=λ b o nb e=>fl.1 _ _ (PySem.W.hideAll_get _ e nb);have nfs:∀b o,X.s₀.heap.get? b=some o->b∉X.fs->b∉frs X.stack:=λ b o e nb z=>by
  rw [fS] at z;rcases List.mem_cons.mp z with q | q
  ·exact s0L b o e q
  ·exact nb q
 have slot1:∀b o,b∈X.fs->s.heap.get? b=some o->∃sl,h'.get? b=some { o with slots:=sl }:=λ b o hb e=>by obtain ⟨o',e',hd⟩:=ofd b hb;rw [e] at e'; cases e';exact sm b o (hx.keeps _ _ e) hd
 refine ⟨I.os,I.bare,⟨λ b o e n hb _=>?_,λ b o e n hb _=>?_,λ b o e n _=>Ubase.free b o e n (by simp),λ b o e _=>?_,Ubase.tups,Ubase.frzs,Ubase.tbls⟩,λ b u e=>?_,⟨_,fl⟩,q2,λ b o nb hh e=>?_,?_,?_⟩
 ·exact toB b o (nfs b o e hb) (Ubase.keep b o e n hb (by simp))
 ·obtain ⟨sl,e1⟩:=Ubase.slot b o e n hb (by simp);obtain ⟨sl',e2⟩:=slot1 b _ hb e1;exact ⟨sl',e2⟩
 ·obtain ⟨o',e1⟩:=Ubase.there b o e (by simp)
  by_cases hb:b∈X.fs
  ·obtain ⟨sl,e2⟩:=slot1 b _ hb e1;exact ⟨_,e2⟩
  ·exact ⟨o',toB b o' (nfs b o e hb) e1⟩
 ·refine (I.hok b u e).stay (λ c v hc q=>toB c v ?_ q) (λ _ q=>q) λ _ _ q=>q;rcases hc with z | z
  ·rw [z]; exact trk b u e
  ·exact trk c _ z
 ·rcases hh with z | ⟨o',z⟩
  ·cases q:H b with
   | none=>exact absurd q z
   | some u =>
    obtain ⟨ob,eb⟩:=(I.hok b u q).ex;have eB:=PySem.W.hideAll_get _ eb (trk b u q);have:=fl.1 _ _ eB;rw [e] at this; cases this;exact eB
  ·obtain ⟨o'',e1⟩:=Ubase.there b o' z (by simp);have eB:=PySem.W.hideAll_get _ e1 (nfs b o' z nb);have:=fl.1 _ _ eB;rw [e] at this; cases this;exact eB
 ·cases q:X.s₀.heap.get? ea with
  | none=>rfl
  | some o =>
   obtain ⟨o',e1⟩:=Ubase.there ea o q (by simp);rw [hx.new] at e1; cases e1
 ·cases q:H ea with
  | none=>rfl
  | some u =>
   obtain ⟨ob,eb⟩:=(I.hok ea u q).ex;rw [hx.new] at eb; cases eb
theorem Flew.inv {ea:Addr} {C:FF} {H':Hp} {B h6:Heap} {s':FB} {t:Nat} (I:Inv X pins σ H s) (f:Flew X.prog X.w X.stack H s ea C H' B s') (hB:B.StaysIn h6) (sm:s'.heap.UpToSlots h6):Inv X pins σ H' { s' with heap:=h6,toks:=t }:=by
 have trk:∀b u,H' b=some u->b∉frs X.stack:=λ b u e hb=>by
  obtain ⟨o,ho⟩:∃o,s.heap.get? b=some o:=let ⟨_,o,ho,_⟩:=I.stack.mem hb; ⟨o,ho⟩
  have:=f.un.free b o ho (I.stkFree b hb) (by simp);rw [this] at e; cases e
 have slot1:∀b o,b∈frs X.stack->s'.heap.get? b=some o->∃sl,h6.get? b=some { o with slots:=sl }:=λ b o hb e=>by obtain ⟨a0,fl⟩:=f.fly;obtain ⟨_,o',e',hd⟩:=fl.2.2.1.mem hb;rw [e] at e'; cases e';exact sm b o e hd
 refine I.call' (ch:=[]) f.os ⟨λ b o e n hb _=>?_,λ b o e n hb _=>?_,λ b o e n _=>f.un.free b o e n (by simp),λ b o e _=>?_,f.un.tups,f.un.frzs,f.un.tbls⟩ (λ b u e=>?_) f.bare (λ b z=>absurd z (by simp))
 ·exact hB _ _ (f.cov b o hb (.inr ⟨o,e⟩) (f.un.keep b o e n hb (by simp)))
 ·obtain ⟨sl,e1⟩:=f.un.slot b o e n hb (by simp);obtain ⟨sl',e2⟩:=slot1 b _ hb e1;exact ⟨sl',e2⟩
 ·obtain ⟨o',e1⟩:=f.un.there b o e (by simp)
  by_cases hb:b∈frs X.stack
  ·obtain ⟨sl,e2⟩:=slot1 b _ hb e1;exact ⟨_,e2⟩
  ·exact ⟨o',hB _ _ (f.cov b o' hb (.inr ⟨o,e⟩) e1)⟩
 ·refine (f.hok b u e).stay (λ c v hc q=>?_) (λ _ q=>q) λ _ _ q=>q;have hc':H' c≠none:=by
   rcases hc with z | z
   ·rw [z,e]; exact λ z=>nomatch z
   ·rw [z]; exact λ z=>nomatch z
  have nc:c∉frs X.stack:=by
   cases q':H' c with
   | none=>exact absurd q' hc'
   | some u'=>exact trk c u' q'
  exact hB _ _ (f.cov c v nc (.inl hc') q)
end
@[inline]def bmVE:List FF:=[.type "ValueError",.type "Exception",.type "BaseException",.type "object"]
def ExcC (K:C1) (C:Addr):Prop:=PySem.W.excIn K C bmVE "ValueError.__new__" = true
theorem ExcC.obj {K:C1} {C:Addr} {h:Heap} (X:K.In h) (q:ExcC K C):∃bm N nm qn bs hdct sn sub ab col dd k0 k1 k2 k3 k5 mN,
  h.get? C=some (excClassObj nm qn C N bs bm hdct sn sub ab col dd k0 k1 k2 k3 k5 "ValueError.__new__")/\h.Ns N mN/\mN "__init__" = none/\OwnTail h bmVE bm:=by
 unfold ExcC PySem.W.excIn at q
 split at q
 ·rename_i dd cd sl ho
  split at q
  ·rename_i C' bm k0 k1 k2 k3 n k5 hm hs
   simp only [Bool.and_eq_true,beq_iff_eq,Bool.not_eq_true'] at q;obtain ⟨⟨⟨⟨⟨e1,e2⟩,e3⟩,e4⟩,e5⟩,e6⟩:=q;obtain ⟨nm,bs,mro,ns,qn,hd,sn,sub,ab,col,del⟩:=cd;dsimp only at hm e3 e5 e6;subst e1 e2 hm e3;obtain ⟨l⟩:=sl;simp only at hs;subst hs;exact ⟨bm,ns,nm,qn,bs,hd,sn,sub,ab,col,dd,k0,k1,k2,k3,k5,_,X _ _ ho,.of_isNs (PySem.W.isNs_of_in X e5),PySem.W.nsMap_none_of_in X e5 e6,PySem.W.tail_of_in X e4⟩
  ·cases q
 ·cases q
section
variable {X:Cx} {x:Str} {C:Addr} {e0:Expr} {np cpos pos:Pos} {t:TA}
def oU (R:FF->Hp->Prop) (C:Addr) (t:TA):TS:=λ _ σ H=>t σ H λ vs H1=>vs.length<=sizeLine/\R (.ref C) H1
theorem gt {R:FF->Hp->Prop} (hc:X.calm=true) (hg:Gl X x) (hm:X.mg x=↑C) (ec:ExcC X.K C) (ha:PA X [e0] t)
  (hR:∀pins σ H s h2 ea vs,Inv X pins σ H s->Heap.MadeExcOf s.heap h2 ea (.ref C) vs->R (.ref C) H->X.xe (.ref ea) { s with heap:=h2 })
  (he:starEach [e0] X.env=[(false,eval e0 X.env)]:=by rfl) (hd:(x == ("__debug__" : Str))=false:=by decide) :
  PS X (.Raise (some (.Call (.Name x np) [e0] [] cpos)) none pos) (oU R C t):=by
 intro pins s σ H D I h;obtain ⟨bm,N,nm,qn,bs,hdct,sn,sub,ab,col,dd,k0,k1,k2,k3,k5,mN,hC,hN,hni,T⟩:=ec.obj I.ok.mod.kin;refine wpAny_Raise_call_subT (C:=C) (nm:=nm) (q:=qn) (N:=N) (bs:=bs) (bm:=bm) (hdct:=hdct) (sn:=sn) (sub:=sub) (ab:=ab) (col:=col) (dd:=dd) (k0:=k0) (k1:=k1) (k2:=k2) (k3:=k3) (k5:=k5)
  PySem.F.excBase_ValueError (mN:=mN) (T.hasType PySem.F.excBase_ValueError.hasBase) (I.ok.hd hc) (by rw [he]; rfl) hni (dB I hg hm ⟨rfl,?_⟩ hd)
 have h2:=ha cpos pins s σ H _ I h;rw [he] at h2 ⊢;refine Calls.evalArgs_plain (thn h2 λ us s2 ⟨vs,H1,I1,rv,hl,q⟩=>⟨Y,by rw [<- rv.length]; exact hl,I1.bk _ _ hC,hN.keeps I1.bk,T.keeps I1.bk,λ h' ea hx=>?_⟩);exact hR pins σ H1 s2 h' ea us I1 hx q
end
section
variable {P:FC} {w:FE} {K:C1} {mg:Str->Option FF} {base:Heap}
theorem ek {N:List Str} {qual:Str} {scope:Scope} {f:Addr} {cd:FF} {A:Around} {outer:List Env} {s₀:FB} {H₀:Hp} {E:XK} {C:Addr} :
  ∀pins σ H s h2 ea vs,Inv (eF (CXx P w) P w K mg base N qual scope f cd A outer s₀ H₀ E) pins σ H s->Heap.MadeExcOf s.heap h2 ea (.ref C) vs->(λ c H=>E c none H) (Value.ref C) H ->
   (eF (CXx P w) P w K mg base N qual scope f cd A outer s₀ H₀ E).xe (.ref ea) { s with heap:=h2 }:=λ pins σ H s h2 ea vs I hx q =>
 I.raised (E:=λ e' s''=>CXx P w outer H₀ s₀ E e' s'') rfl rfl rfl hx λ B h' f=>⟨ea,_,H,B,Y,f,q⟩
theorem Fun.okX {x qual:Str} {st:Stmt} {f:Addr} {fd:FD} {N ps:List Str} {k:Nat} {sp:Sp} (F:Fun K x qual st f fd) (S:FnScope N ps (defScope st)) (len:∀vs H Q E,sp vs H Q E->vs.length=ps.length)
  (hbody:∀ (cdv:FF) (A:Around) (outer:List Env) (s:FB) (H:Hp) (vs:List V) (Q:VK) (E:XK),Room k (A.deeper (envOfC qual (defScope st) s.heap.objs.size f cdv))->sp vs H Q E ->
   ∃t,PSs (eF (CXx P w) P w K mg base N qual (defScope st) f cdv A outer s H E) (defBody st) t/\t { nx:=λ _ H'=>Q .non H',rt:=Q } (dj N vs) H):FnOk P w K mg base (CXx P w) (k + 1) f fd ps sp:=by
 obtain ⟨oc,od,kV,doc,pm,an,cdv,ct,osl,rfl,lk,hcd⟩:=F.ex;exact tm lk hcd S len λ A outer s H vs Q E hr hsp=>hbody cdv A outer s H vs Q E hr hsp
end
def XP (X:Cx) (pins:List (Addr×Obj)) (σ:St) (E:XK) (v:FF) (s':FB):Prop:=∃ea C H H' B s0,v=Value.ref ea/\Inv X pins σ H s0/\Flew X.prog X.w X.stack H s0 ea C H' B s'/\E C none H'
abbrev TX:=St->Hp->VK->XK->Prop
def PEx (X:Cx) (e:Expr) (t:TX):Prop :=
 ∀ (pins:List (Addr×Obj)) (s:FB) (σ:St) (H:Hp) (Q:VK) (E:XK),Inv X pins σ H s->t σ H Q E->wpAny (model X.prog X.w) X.A (eval e X.env) (EP X pins σ Q) (XP X pins σ E) s
section
variable {X:Cx} {k:Nat} {f C:Addr} {fd:FD} {ps:List Str} {sp:Sp} {x m:Str} {p pos apos:Pos} {e o:Expr} {es:List Expr} {ta:TE} {t:TA}
theorem rg {pins:List (Addr×Obj)} {σ:St} {H:Hp} {s:FB} {Q:VK} {E:XK} {us:List FF} {vs:List V} (F:FnOk X.prog X.w X.K X.mg X.base (CXx X.prog X.w) k f fd ps sp) (hr:Room k X.A) (hb:Binds X.K fd ps [])
  (I:Inv X pins σ H s) (r:Vals vs us) (h:sp vs H Q E):wpAny (model X.prog X.w) X.A (call (.ref f) us) (EP X pins σ Q) (XP X pins σ E) s:=by
 have hl:(us ++ []).length=ps.length:=by rw [List.append_nil,<- r.length]; exact F.len _ _ _ _ h
 have b:=hb s us I.kIn hl;rw [List.append_nil] at b;refine wpAny_call (codeAny_mono (F.run X.A X.stack s H ⟨us,[]⟩ us vs Q E hr I.env0 b r h) λ r s' hq=>?_);cases r with
 | error e =>
  obtain ⟨ea,C,H',B,e1,fl,q⟩:=hq;exact ⟨ea,C,H,H',B,s,e1,I,fl,q⟩
 | ok fl =>
  cases fl with
  | ret u=>exact I.after hq
  | next=>exact E1 hq
  | brk=>exact E1 hq
  | cont=>exact E1 hq
end
def Cx.marked (X:Cx) (ea:Addr):Cx:={ X with A:=X.A.mark (↑ea),calm:=false,xe:=λ _ _=>False }
section
variable {X:Cx} {pins:List (Addr×Obj)} {σ:St} {H:Hp} {s:FB}
theorem Inv.mark (I:Inv X pins σ H s) (ea:Addr):Inv (X.marked ea) pins σ H s :=
 ⟨⟨I.ok.mod,I.ok.kind,I.ok.glob,I.ok.blt,I.ok.above,I.ok.inj,I.ok.has,I.ok.cab,λ z=>absurd (show false=true from z) A9,I.ok.frames,I.ok.stk,I.ok.exf,I.ok.bs,I.ok.bsz,I.ok.noex,I.ok.exfs,I.ok.funs,I.ok.frf⟩,
  I.os,I.bare,I.base,I.loc,I.cell,I.free,I.freeC,I.pin,I.hok,I.len⟩
theorem Inv.unmark {ea:Addr} (ok:X.Ok) (I:Inv (X.marked ea) pins σ H s):Inv X pins σ H s :=
 ⟨ok,I.os,I.bare,I.base,I.loc,I.cell,I.free,I.freeC,I.pin,I.hok,I.len⟩
theorem Inv.track2 {a:Addr} {o:HO} (I:Inv X pins σ H s) (f0:H a=none) (f1:a≠X.env.locals) (hna:X.s₀.heap.get? a=none) (f4:∀x c,X.env.cells.lookup x=some c->c≠a) (f5:∀p∈X.pn ++ pins,p.1≠a)
  (new:ObjOk X.prog X.w (upd H a o) s.heap a o):Inv X pins σ (upd H a o) s:=by
 have s0:∀b o,X.s₀.heap.get? b=some o->b≠a:=λ b o e z=>by rw [z,hna] at e; cases e
 refine ⟨I.ok,I.os,I.bare,⟨I.base.keep,I.base.slot,λ b o e n hx=>?_,I.base.there,λ b xs e=>?_,λ b o u e=>?_,λ b ps e=>?_⟩,I.loc,I.cell,?_,λ x c e=>?_,λ p hp=>?_,I.hok.add f0 new,I.len⟩
 ·rw [aj (s0 b o e)]; exact I.base.free b o e n hx
 ·have q:=I.base.tups b xs e;rw [aj (ah q f0)]; exact q
 ·have q:=I.base.frzs b o u e;rw [aj (ah q f0)]; exact q
 ·obtain ⟨more,q⟩:=I.base.tbls b ps e;exact ⟨more,by rw [aj (ah q f0)]; exact q⟩
 ·rw [aj (Ne.symm f1)]; exact I.free
 ·rw [aj (f4 x c e)]; exact I.freeC x c e
 ·obtain ⟨e,n,r⟩:=I.pin p hp;exact ⟨e,by rw [aj (f5 p hp)]; exact n,r⟩
theorem dF {M:Model} {A:Around} {E:FF->FB->Prop} {i:Nat} {x:Str} {pos:Pos} {Q:Unit->FB->Prop} (I:Inv X pins σ H s) (hN:X.N.Nodup) (hi:X.N[i]? = some x) (hk:X.env.scope.names.lookup x=some .local)
  (h:∀s',Inv X pins (σ.set i none) H s'->Q () s'):wpAny M A (do bindName X.env x .none; unbindBehindTheSuite X.env x pos) Q E s:=by
 obtain ⟨m,hn,hl⟩:=id I.loc;have hcls:(X.env.scope.kind == .class || (X.env.scope.kind == .module && X.env.locals != X.env.globals))=false:=by rw [I.ok.kind]; rfl
 refine wpAny_nameGoes_keeps hk hn hcls λ h' v hn' hs=>h _ ?_;obtain ⟨oL,_,_,hoL,_⟩:=id hn;have cne:=I.cne;have hok:HOk X.prog X.w H h':=I.hok.but I.free hs;refine ⟨I.ok,I.os,I.bare,⟨λ b o e n hb hx=>?_,λ b o e n hb hx=>?_,I.base.free,λ b o e hx=>?_,I.base.tups,I.base.frzs,I.base.tbls⟩,⟨_,hn',λ j y v' e1 e2 e3=>?_⟩,λ y c e=>?_,I.free,I.freeC,λ p hp=>?_,hok,by simpa using I.len⟩
 ·exact (hs.2 b (B6 (B8 (A6 e) I.ok.above))).trans (I.base.keep b o e n hb hx)
 ·obtain ⟨sl,e1⟩:=I.base.slot b o e n hb hx;exact ⟨sl,(hs.2 b (B6 (B8 (A6 e) I.ok.above))).trans e1⟩
 ·obtain ⟨o',e1⟩:=I.base.there b o e hx;exact ⟨o',(hs.2 b (B6 (B8 (A6 e) I.ok.above))).trans e1⟩
 ·have hj:j≠i:=λ z=>by
   subst z;have hiσ:j < σ.length:=by rw [I.len]; exact (A3.mp hi).1
   rw [List.getElem?_set_self hiσ] at e2;cases e2
  rw [List.getElem?_set_ne (Ne.symm hj)] at e2;obtain ⟨u',r',q⟩:=hl j y v' e1 e2 e3;refine ⟨u',r',?_⟩;rcases q with ⟨k,e⟩ | ⟨k,c,e,z⟩
  ·refine .inl ⟨k,?_⟩;have:y≠x:=λ e=>hj (ge hN e1 (e ▸ hi));simp [this,e]
  ·exact .inr ⟨k,c,e,z.sameBut hs (cne y c e)⟩
 ·obtain ⟨v',z⟩:=I.cell y c e;exact ⟨v',z.sameBut hs (cne y c e)⟩
 ·obtain ⟨e,n,ne,nf,d⟩:=I.pin p hp;exact ⟨(hs.2 p.1 ne).trans e,n,ne,nf,d⟩
end
def IsA (a:Addr) (C:FF) (h:Heap):Prop:=∃o,h.get? a=some o/\o.cls=C/\∃vs,o.data=.fields vs/\vs[2]? = some .none
theorem IsA.of {a:Addr} {C:FF} {h:Heap} (x:∃o,h.get? a=some o/\o.cls=C) (q:Q2 a h):IsA a C h:=by obtain ⟨o,e,c⟩:=x;obtain ⟨o',vs,e',d,n⟩:=q;rw [e] at e';cases e';exact ⟨o,e,c,vs,d,n⟩
theorem IsA.obj {P:FC} {w:FE} {H:Hp} {h:Heap} {a:Addr} {C:FF} (x:IsA a C h):ObjOk P w H h a (.ext (IsA a C)):=by obtain ⟨o,e,c⟩:=id x;exact ⟨x,⟨o,e⟩,λ h1 h2 ⟨o',e',c'⟩ k=>⟨o',k o' e',c'⟩⟩
structure RoomH (k:Nat) (A:Around):Prop where
 dp:A.depth + 3 * k + 5 < recursionLimit
 un:A.units + 16 * k + 200 < cLine
structure FnH (P:Program) (w:World) (K:C1) (mg:Str->Option Value) (base:Heap) (k:Nat) (f:Addr) (fd:FuncData) (ps:List Str) (sp:Sp):Prop where
 len:∀vs H Q E,sp vs H Q E->vs.length=ps.length
 run:∀ (A:Around) (outer:List Env) (s:FB) (H:Hp) (args:Args) (us:List FF) (vs:List V) (Q:VK) (E:XK),RoomH k A->Env0 P w K mg base A outer s H->BindsTo s fd args (ps.zip us)->Vals vs us->sp vs H Q E ->
  codeAny (model P w) A (.call (.ref f) args) (CR CX0 outer P w H s Q E) s
end L2
namespace PySem
open Sem (wp)
open PySem.W (Frag Looks looks_findIn looks_subIn)
structure ExK (K:Frag) (C:Addr):Prop where
 lkC:PySem.W.findIn K (.ref C) "__class__" = some (some (.builtin "object.__class__"))
 lkG:PySem.W.findIn K (.ref C) "__getattribute__" = some (some (.builtin "BaseException.__getattribute__"))
 lkA:PySem.W.findIn K (.ref C) "__getattr__" = some none
 subB:PySem.W.subIn K (.ref C) (.type "BaseException")=some true
 subO:PySem.W.subIn K (.ref C) (.type "object")=some true
 cls:(PySem.W.clsIn K C).isSome=true
section
variable {prog:FC} {w:FE} {A:Around} {E:FF->FB->Prop} {h:Heap} {g:Array GenState} {d:Drawn} {t:Nat} {os:OsState} {a:Addr} {o:Obj} {K:Frag} {C:Addr}
theorem jU {R:Result->FB->Prop} (X:K.In h) (F0:ExK K C) (hx:h.get? a=some o) (hc:o.cls=.ref C) (hq:R (.ok (.ret (.ref C))) ⟨h,g,d,t,os⟩) :
  codeAny (model prog w) A (.call (.builtin "getset_descriptor.__get__") ⟨[.builtin "object.__class__",.ref a,.ref C],[]⟩) R ⟨h,g,d,t,os⟩:=by
 have hT5:(⟨h,g,d,t,os⟩:FB).TypeIs (.builtin "object.__class__") "getset_descriptor" := F.typeOf_object_class;have L:Looks (model prog w) h (isSubtype (.ref C) (.type (".".intercalate ("object.__class__".cutAt '.').dropLast))) true:=by rw [F.owner_object_class]; exact looks_subIn X F0.subO
 refine codeAny_call_builtin F.slot_gs_get.plain F.entry_gs_get (F.slot_gs_get.check _ _ _ _ _ _ _ _ hT5 (F.args_gs_get _ _ _) ?_)
 repeat (any_goals (first | assumption | (with_reducible refine wpAny_loadPart_at hx ?_; rw [hc]) | (with_reducible refine Looks.at L ?_) | wp_step))
 refine ⟨Code.quiet_builtin _ ∅,codeAny_builtin F.entry_object_class ?_⟩
 repeat (any_goals (first | assumption | (with_reducible refine wpAny_loadPart_at hx ?_; rw [hc]) | wp_step))
theorem iE {tk:Tok} {Q:Fin->FB->Prop} (X:K.In h) (F0:ExK K C) (hx:h.get? a=some o) (hc:o.cls=.ref C) (hq:Q (.done (.ret (.ref C))) ⟨h,g,d,t,os⟩) :
  wpAny (model prog w) A (Builtin.«object.__getattribute__» ⟨[.ref a,.str "__class__" tk],[]⟩) Q E ⟨h,g,d,t,os⟩:=by
 have hT5:(⟨h,g,d,t,os⟩:FB).TypeIs (.builtin "object.__class__") "getset_descriptor" := F.typeOf_object_class;have f5:=F.typeOf_object_class;have f6:=F.slot_gs_get.lookup;have f7:=F.slot_gs_set.lookup;have L:Looks (model prog w) h (typeLookup (.ref C) "__class__") _:=looks_findIn X F0.lkC
 repeat (any_goals (first | assumption | (with_reducible refine wpAny_loadPart_at hx ?_; rw [hc]) | (with_reducible refine Looks.at L ?_) | wp_step))
 refine jU X F0 hx hc ?_
 repeat (any_goals (first | assumption | wp_step))
theorem mV {nameV:FF} {Q:Unit->FB->Prop} (X:K.In h) (F0:ExK K C) (hx:h.get? a=some o) (hc:o.cls=.ref C) (hq:Q () ⟨h,g,d,t,os⟩) :
  wpAny (model prog w) A (checkBuiltinCall "BaseException.__getattribute__" ⟨[.ref a,nameV],[]⟩) Q E ⟨h,g,d,t,os⟩:=by
 have hk:builtinKind "BaseException.__getattribute__" = some .slot:=∅
 have hsplit:splitId "BaseException.__getattribute__" = some ("BaseException","__getattribute__"):=∅
 have L:Looks (model prog w) h (isSubtype (.ref C) (.type "BaseException")) true:=looks_subIn X F0.subB;have ha:=F.args_bexc_ga (.ref a) nameV;simp only [checkBuiltinCall,hk,hsplit];refine A0 ?_
 ·unfold isInstance
  repeat (first | (with_reducible refine wpAny_loadPart_at hx ?_; rw [hc]) | (with_reducible refine Looks.at L ?_) | wp_step)
  exact hq
theorem ji {tk:Tok} {R:Result->FB->Prop} (X:K.In h) (F0:ExK K C) (hx:h.get? a=some o) (hc:o.cls=.ref C) (hq:R (.ok (.ret (.ref C))) ⟨h,g,d,t,os⟩) :
  codeAny (model prog w) A (.call (.builtin "BaseException.__getattribute__") ⟨[.ref a,.str "__class__" tk],[]⟩) R ⟨h,g,d,t,os⟩ :=
 codeAny_call_builtin F.attrBase_ValueError.ga.plain F.entry_bexc_ga (mV X F0 hx hc (iE X F0 hx hc hq))
theorem mW {tk:Tok} {Q:FF->FB->Prop} (X:K.In h) (F0:ExK K C) (hx:h.get? a=some o) (hc:o.cls=.ref C) (hq:Q (.ref C) ⟨h,g,d,t,os⟩) :
  wpAny (model prog w) A (getAttrBy (.ref a) (.str "__class__" tk) false) Q E ⟨h,g,d,t,os⟩:=by
 have LG:Looks (model prog w) h (typeLookup (.ref C) "__getattribute__") _:=looks_findIn X F0.lkG;have LA:Looks (model prog w) h (typeLookup (.ref C) "__getattr__") _:=looks_findIn X F0.lkA;have f3:=F.attrBase_ValueError.ga.bind (.ref a);have hx2:(Value.builtin "BaseException.__getattribute__" == Value.builtin "object.__getattribute__")=false:=∅
 have hx1:(onTheHeap (Value.ref C) && Value.builtin "BaseException.__getattribute__" == Value.builtin "object.__getattribute__")=false:=by rw [hx2]; rfl
 repeat (any_goals (first | assumption | (with_reducible refine wpAny_loadPart_at hx ?_; rw [hc]) | (with_reducible refine Looks.at LG ?_) | (with_reducible refine Looks.at LA ?_) | wp_step))
 refine ji X F0 hx hc ?_
 repeat (any_goals (first | assumption | wp_step))
theorem jj {Q:Option FF->FB->Prop} (X:K.In h) (F0:ExK K C) (hx:h.get? a=some o) (hc:o.cls=.ref C) (hq:Q (↑C) ⟨h,g,d,t + 1,os⟩) :
  wpAny (model prog w) A (getAttr? (.ref a) "__class__") Q E ⟨h,g,d,t,os⟩:=by
 unfold getAttr? getAttrBy?
 repeat (any_goals (first | assumption | with_reducible apply mW X F0 hx hc | wp_step))
end
end PySem
namespace L2
open PySem PySem.Spec PyProof.Rows
theorem lU {K:C1} {x C:Addr} (F0:ExK K C):PySem.W.KitX K (.ref x) (.ref C) (IsA x (.ref C)) where
 ty:=λ M h _ ⟨o,e,c,_⟩=>by have L:PySem.W.Looks M h (typeOf (.ref x)) o.cls:=(PySem.W.Looks.ld e).andThen .now;rw [c] at L;exact L
 it:=λ _ _ X _=>by
  have z:=F0.cls;unfold PySem.W.clsIn at z
  split at z
  ·rename_i c' d' cd' sl' ho
   intro A' Q' E' s' k q;unfold isType loadHead;exact A0 (wpAny_loadPart (k _ _ (X _ _ ho)) (A1 q))
  ·cases z
 ne:=λ h tp dd its n sl X htp=>by
  have z:=F0.cls;refine Bool.eq_false_iff.mpr λ q=>?_;have e:C=tp:=Value.ref.inj (C0.mp q);subst e;unfold PySem.W.clsIn at z
  split at z
  ·rename_i c' d' cd' sl' ho
   have z:=(X _ _ ho).symm.trans htp;cases z
  ·cases z
 ca:=λ {_ _ _ _ _ s} X p k=>by obtain ⟨h,g,d,t,os⟩:=s;obtain ⟨o,e,c,_⟩:=p;exact jj X F0 e c k
section
variable {X:Cx}
theorem iF {C:Addr} (F0:ExK X.K C):ce X (.builtin "isinstance") (λ xs H Q=>∃a cv c b,xs=[.ref a,cv]/\H a=some (.ext (IsA a (.ref C)))/\clV cv=some c/\PySem.W.kitOne X.K (.ref C) c=some b/\Q (.bl b) H):=by
 intro pins s σ H xs us Q I rv h;obtain ⟨a,cv,c,b,rfl,ha,e1,e2,q⟩:=h;cases rv with
 | cons r1 rr =>
  cases rr with
  | cons r2 rr =>
   cases rr;cases r1;rw [clV.rel e1 r2];exact PySem.W.kia_one (lU F0) I.kIn (I.hok a _ ha).1 e2 (λ z=>nomatch z) λ tk=>⟨.bl b,H,I.tok tk,Y,q⟩
theorem gT {C:Addr} (F0:ExK X.K C):ce X (.builtin "isinstance") (λ xs H Q=>∃a p cvs cs b,xs=[.ref a,.ref p]/\H a=some (.ext (IsA a (.ref C)))/\H p= ~~~cvs/\clVs cvs=some cs/\PySem.W.kitAny X.K (.ref C) cs=some b/\Q (.bl b) H):=by
 intro pins s σ H xs us Q I rv h;obtain ⟨a,p,cvs,cs,b,rfl,ha,hp,e1,e2,q⟩:=h;cases rv with
 | cons r1 rr =>
  cases rr with
  | cons r2 rr =>
   cases rr;cases r1;cases r2;obtain ⟨_,its,rits,o,ho,hc,n,hd⟩:=I.hok p _ hp;obtain ⟨oc,od,dt,osl⟩:=o
   replace hc:oc=.type "tuple" := hc
   replace hd:dt=.seq its.toArray n:=hd
   subst hc hd;have e3:=clVs.rel e1 rits;subst e3;exact PySem.W.kia_tup (lU F0) I.kIn (I.hok a _ ha).1 ho e2 (λ z=>nomatch z) λ tk=>⟨.bl b,H,I.tok tk,Y,q⟩
end
end L2
namespace PySem
open Sem (wp)
open AutoSeq1 (wpAny_loadPart')
section
variable {prog:FC} {w:FE} {A:Around} {E:FF->FB->Prop} {s:FB}
theorem fM {it t:Addr} {i:Nat} {items} {x:FF} {Q:FF->FB->Prop} (hit:s.heap.IsTupleIter it t i)
  (ht:s.heap.IsTuple t items) (hx:items[i]? = some x)
  (hQ:∀h',h'.IsTupleIter it t (i + 1)->Heap.SameBut it s.heap h'->Q x { s with heap:=h' }) :
  wpAny (model prog w) A (Builtin.SmallTypes.nextOf (.ref it)) Q E s:=by
 obtain ⟨o,ho,hc,hd⟩:=id hit;obtain ⟨ol,hol,_,nl,hdl⟩:=ht;unfold Builtin.SmallTypes.nextOf;refine A0 (wpAny_callSpecial?_slot (name:=Str.ofString "__next__") hit.typeIs F.slot_tuple_iterator_next
  (E7 F.slot_tuple_iterator_next hit.typeIs F.entry_tuple_iterator_next ?_ (F.args_tuple_iterator_next_1 _)))
 show wpAny _ _ (field (.ref it) 0 >>= _) _ _ s;refine A0 (wpAny_field ho hd (x:=.ref t) rfl ?_);show wpAny _ _ (if (Value.ref t == Value.none)=true then _ else _) _ _ s;rw [if_neg (show ¬ ((Value.ref t == Value.none)=true) from Bool.false_ne_true)];show wpAny _ _ (field (.ref it) 1 >>= _) _ _ s;refine A0 (wpAny_field ho hd (x:=.int i 0) rfl ?_);show wpAny _ _ (seqItems? (.ref t) >>= _) _ _ s;refine A0 (wpAny_seqItems hol hdl ?_);simp only [Int.toNat_natCast,hx];refine A0 (wpAny_setField ho hd (by simp) (A1 ⟨x,rfl,A1 (hQ _ ?_ (Heap.SameBut.update ..))⟩));exact ⟨_,Heap.get?_update_self _ ho (Obj.isFreed_of_fields (Obj.data_mapFields hd _)),(Obj.cls_mapFields ..).trans hc,by
  rw [Obj.data_mapFields hd]; simp [rawInt]⟩
theorem dk {it t:Addr} {i:Nat} {items} {Q:FF->FB->Prop} (hh:A.handled=none)
  (hit:s.heap.IsTupleIter it t i) (ht:s.heap.IsTuple t items) (hx:items[i]? = none)
  (hE:∀h' e, Heap.ExtBut it s.heap h'->(∃o, h'.get? e=some o/\o.cls=.type "StopIteration")->E (.ref e) { s with heap:=h' }) :
  wpAny (model prog w) A (Builtin.SmallTypes.nextOf (.ref it)) Q E s:=by
 obtain ⟨o,ho,hc,hd⟩:=id hit;obtain ⟨ol,hol,_,nl,hdl⟩:=ht;unfold Builtin.SmallTypes.nextOf;refine A0 (wpAny_callSpecial?_slot (name:=Str.ofString "__next__") hit.typeIs F.slot_tuple_iterator_next
  (E7 F.slot_tuple_iterator_next hit.typeIs F.entry_tuple_iterator_next ?_ (F.args_tuple_iterator_next_1 _)))
 show wpAny _ _ (field (.ref it) 0 >>= _) _ _ s;refine A0 (wpAny_field ho hd (x:=.ref t) rfl ?_);show wpAny _ _ (if (Value.ref t == Value.none)=true then _ else _) _ _ s;rw [if_neg (show ¬ ((Value.ref t == Value.none)=true) from Bool.false_ne_true)];show wpAny _ _ (field (.ref it) 1 >>= _) _ _ s;refine A0 (wpAny_field ho hd (x:=.int i 0) rfl ?_);show wpAny _ _ (seqItems? (.ref t) >>= _) _ _ s;refine A0 (wpAny_seqItems hol hdl ?_);simp only [Int.toNat_natCast,hx];refine A0 (wpAny_rule (A0 (wpAny_setField ho hd (by simp) ?_)));show wpAny _ _ (newExc (.type "StopIteration") [] >>= _) _ _ _;refine A0 ?_;simp only [newExc,newTuple];refine A0 (E8 ?_ (by size_fits));refine A0 (m:=firstArgMember _ _) (wpAny_of_eq (a:=Value.none) (by first | rfl | (simp only [firstArgMember]; rfl)) ?_);refine E8 ?_ (by size_fits);simp only [raiseNew];refine A0 (wpAny_handled ?_)
 first | rw [show A.in1.handled=none from hh] | rw [hh]
 refine A0 (A1 (wpAny_throw ?_));exact hE _ _ (((Heap.SameBut.update ..).extBut.push _).push _) ⟨_,A5 _ rfl,rfl⟩
end
theorem oV {prog:FC} {w:FE} {A:Around} (hh:A.handled=none) (it l:Addr) (hne:l≠it) (items:Array FF) :
  Draws prog w A it [it,l] items.size (λ i v=>items[i]? = some v) (λ i h=>h.IsTupleIter it l i/\h.IsTuple l items) where
 live:=λ _ _ st=>let ⟨o,ho,_⟩:=st.1; ⟨o,ho⟩
 frame:=λ _ _ _ st hk=>⟨st.1.at λ o e=>hk it (by simp) o e,let ⟨o,ho,r⟩:=st.2; ⟨o,hk l (by simp) o ho,r⟩⟩
 item:=λ i s Q E hi st hQ=>by refine fM st.1 st.2 (x:=items[i]) (by simp [hi]) λ h' hit' hs'=>?_;exact hQ _ h' s.toks (by simp [hi]) ⟨hit',st.2.extBut hs'.extBut hne⟩ hs'
 done:=λ s Q E st hE=>dk hh st.1 st.2 (by simp) hE
theorem gu (l:Addr) (items:Array FF) (n:Nat) (dct:Option Addr) (sl:Array (Option FF)) :
  Meets (Builtin.«enumerate.__new__» ⟨[.type "enumerate",.ref l],[]⟩) (λ _ R s=>s.heap.get? l=some { cls:=.type "tuple",dict:=dct,data:=.seq items n,slots:=sl } /\
   R (.ok (.ret (.ref (s.heap.push { cls:=.type "tuple_iterator",data:=.fields #[.ref l,.int 0 0] }).objs.size)))
    { s with heap:=(s.heap.push { cls:=.type "tuple_iterator",data:=.fields #[.ref l,.int 0 0] }).push { cls:=.type "enumerate",data:=.fields #[.none,.bool false,.ref s.heap.objs.size,rawInt 0,.none,.none] } }) :=
 .of_wp λ prog w A R s h=>by
  obtain ⟨hp,g,d,tk,os⟩:=s; obtain ⟨hl,h⟩:=h;have hsub:=sub_enumerate;have hL:Heap.IsTuple (Shared.heap ⟨hp,g,d,tk,os⟩) l items:=⟨_,hl,Y,n,Y⟩
  wp_walk using wpAny_loadPart' hl
  refine wpAny_stack_any λ st=>A1 ?_
  split
  ·rename_i c _ _ _ _ _
   cases (c == Value.type "enumerate")
   ·wp_walk using wpAny_loadPart' hl,wpAny_pyIter_tuple hL
    exact ⟨_,Y,h⟩
   ·wp_walk using wpAny_loadPart' hl,wpAny_pyIter_tuple hL
    exact ⟨_,Y,h⟩
  ·wp_walk using wpAny_loadPart' hl,wpAny_pyIter_tuple hL
   exact ⟨_,Y,h⟩
section
variable {prog:FC} {w:FE} {A:Around} {E:FF->FB->Prop} {s:FB}
theorem eo {l:Addr} {items:Array FF} {Q:FF->FB->Prop} (hL:s.heap.IsTuple l items)
  (h:∀h',IsEnum h' (s.heap.objs.size + 1) s.heap.objs.size 0 .none->h'.IsTupleIter s.heap.objs.size l 0->h'.objs.size=s.heap.objs.size + 2 ->
   (∀b o,s.heap.get? b=some o->h'.get? b=some o)->Q (.ref (s.heap.objs.size + 1)) { s with heap:=h' }) :
  wpAny (model prog w) A (call (.type "enumerate") [.ref l]) Q E s:=by
 obtain ⟨⟨c,dct,dt,sl⟩,hl,hc,n,hd⟩:=hL
 replace hc:c=.type "tuple" := hc
 replace hd:dt=.seq items n:=hd
 subst hc hd;refine callType_new F.called_enumerate ∅ (F.typeCall_enumerate_1 _) (F.newCall_enumerate_1 _) (λ obj=>F.args_object_init_2 obj _) F.entry_enumerate_new
  (gu l items n dct sl) ⟨hl,?_⟩
 have hz:(s.heap.push { cls:=.type "tuple_iterator",data:=.fields #[.ref l,.int 0 0] }).objs.size=s.heap.objs.size + 1:=Heap.size_push ..;show _/\_;rw [hz];have he:IsEnum ((s.heap.push { cls:=.type "tuple_iterator",data:=.fields #[.ref l,.int 0 0] }).push
   { cls:=.type "enumerate",data:=.fields #[.none,.bool false,.ref s.heap.objs.size,rawInt 0,.none,.none] }) (s.heap.objs.size + 1) s.heap.objs.size 0 .none:=by
  have:=A5 (s.heap.push { cls:=.type "tuple_iterator",data:=.fields #[.ref l,.int 0 0] })
   (o:={ cls:=.type "enumerate",data:=.fields #[.none,.bool false,.ref s.heap.objs.size,rawInt 0,.none,.none] }) rfl
  rw [hz] at this; exact this
 refine ⟨⟨_,he,Y⟩,h _ he ⟨_,A4 _ (A5 _ rfl),Y,Y⟩ (by rw [Heap.size_push,hz]) λ b o x=>A4 _ (A4 _ x)⟩
end
end PySem
namespace L2
open PySem PySem.Spec PyProof.Rows
def Ite (f:List V->HO) (l:Addr):It :=
  ⟨λ i H=>∃xs x,H l=some (f xs)/\xs[i]? = some x,
   λ i H v H'=>∃p xs x,H p=none/\v=.ref p/\H'=upd H p (.tup [.int i,x])/\H l=some (f xs)/\xs[i]? = some x,
   λ i H=>∃xs,H l=some (f xs)/\xs.length<=i⟩
section
variable {X:Cx} {pins:List (Addr×Obj)} {σ:St} {H:Hp} {s:FB}
theorem hZ {f:List V->HO} {tn:Nat->Heap->Prop} {es:List Expr} {kk:Nat} {tp:Pos} {e it l:Addr} {i:Nat} {xs:List V} {x:V} {u:FF} {tk:Nat} {h':Heap} {E:FF->FB->Prop} (hne:e≠it) (I:Inv X pins σ H s) (hf:∀b∈[e,it],dP X pins H b) (hl:H l=some (f xs)) (hx:xs[i]? = some x)
  (ho:∀b∈[e, it], b < s.heap.objs.size) (r:RelV x u) (b1:IsEnumOut h' e it ((i:Int) + 1) u s.heap.objs.size) (b3:h'.get? s.heap.objs.size=some { cls:=.type "tuple", data:=.seq #[.int i tk, u] })
  (bk:∀b o,b≠e->b≠it->s.heap.get? b=some o->h'.get? b=some o) (hn:∀h'',IsEnum h'' e it ((i + 1:Nat):Int) u->Heap.SameBut e h' h''->tn (i + 1) h'') :
  wpAny (model X.prog X.w) X.A (letOwnedTupleGo (.Tuple es kk tp) (.ref e) (.ref s.heap.objs.size)) (λ _ s2=>∃x H',Inv X pins σ H' s2/\RelV x (.ref s.heap.objs.size)/\(Ite f l).yld i H x H'/\tn (i + 1) s2.heap/\∀b∈[e,it],H' b=none) E { s with heap:=h',toks:=tk + 1 }:=by
 refine wpAny_letOwnedTupleGo_enum b1 λ h'' c1 cs=>?_;have es':e < s.heap.objs.size:=ho e (by simp);have k2:∀b o,b∉[e,it]->s.heap.get? b=some o->h''.get? b=some o:=λ b o hb q=>by simp only [List.mem_cons,List.not_mem_nil,or_false,not_or] at hb;exact cs.extBut b o hb.1 (bk b o hb.1 hb.2 q)
 have I1:Inv X pins σ H { s with heap:=h'',toks:=tk + 1 }:=I.turnedN (t':=tk + 1) hf k2;have hp:h''.get? s.heap.objs.size=some { cls:=.type "tuple", data:=.seq #[.int i tk, u] }:=cs.extBut _ _ (Nat.ne_of_gt es') b3;have hn0:H s.heap.objs.size=none:=I.hok.fresh (B0 _);have fpk:=I.fpOk (H':=H) (B0 _) hn0;have I2:Inv X pins σ (upd H s.heap.objs.size (.tup [.int i,x])) { s with heap:=h'',toks:=tk + 1 }:=I1.track fpk I.sz ⟨by show 2<=sizeLine; decide,[.int i tk,u],.cons ⟨tk,Y⟩ (.cons r .nil),_,hp,Y,_,Y⟩;refine ⟨.ref s.heap.objs.size,_,I2,Y,⟨_,xs,x,hn0,Y,Y,hl,hx⟩,hn h'' c1 cs,λ b hb=>?_⟩;rw [aj (Nat.ne_of_lt (ho b hb))];exact (hf b hb).1
end
theorem jV {P:FC} {w:FE} {K:C1} {es:List Expr} {kk:Nat} {tp:Pos} (l e it:Addr) (hne:e≠it) :
  Turn P w K (.Tuple es kk tp) (Ite .lst l) [e,it] e (λ i h=>(∃old,IsEnum h e it i old)/\h.IsListIter it l i) where
 mem:=by simp
 obj:=λ i h st b hb=>by
  obtain ⟨⟨old,a1⟩,⟨o2,a2,_,d2⟩⟩:=st;simp only [List.mem_cons,List.not_mem_nil,or_false] at hb;rcases hb with rfl | rfl
  ·exact ⟨_,a1,λ v q=>by cases q⟩
  ·exact ⟨_,a2,λ v q=>by rw [d2] at q; cases q⟩
 keep:=λ i h h' st k=>by obtain ⟨⟨old,a1⟩,a2⟩:=st;exact ⟨⟨old,k e (by simp) _ a1⟩,a2.at λ o q=>k it (by simp) o q⟩
 item:=by
  intro X hP hw hK hc i pins s σ H E I hf st hg;subst hP hw hK;obtain ⟨⟨old,a1⟩,a2⟩:=st;obtain ⟨xs,x,e1,ex⟩:=hg;obtain ⟨its,rv,p1,_⟩:=I.list (FI e1);obtain ⟨u,hu,r⟩:=rv.get ex;have ho:∀b∈[e,it],b < s.heap.objs.size:=λ b hb=>by
   obtain ⟨o2,a2',_⟩:=a2;simp only [List.mem_cons,List.not_mem_nil,or_false] at hb;rcases hb with rfl | rfl
   ·exact A6 a1
   ·exact A6 a2'
  refine wpAny_pyNext_enum_item a1 a2 p1.isList (x:=u) (by simpa using hu) hne λ h' b1 b2 b3 b4 bk=>⟨_,Y,?_⟩
  exact hZ (tn:=λ i h=>(∃old,IsEnum h e it i old)/\h.IsListIter it l i) hne I hf e1 ex ho r b1 b3 bk λ h'' c1 cs=>⟨⟨u,c1⟩,b2.extBut cs.extBut (Ne.symm hne)⟩
 done:=by
  intro X hP hw hK hc i pins s σ H E I hf st hg;subst hP hw hK;obtain ⟨⟨old,a1⟩,a2⟩:=st;obtain ⟨xs,e1,ex⟩:=hg;obtain ⟨its,rv,p1,_⟩:=I.list (FI e1);have lv:=rv.length;refine wpAny_pyNext_enum_end (I.ok.hd hc) a1 a2 p1.isList (by simp; omega) λ h' bk=>⟨Y,?_⟩
  exact I.turnedN (t':=s.toks) hf λ b o hb q=>by simp only [List.mem_cons,List.not_mem_nil,or_false,not_or] at hb;exact bk b o hb.2 q
 self:=λ _ _ _ _ _ st h=>by obtain ⟨⟨old,a1⟩,_⟩:=st; exact wpAny_pyIter_enum a1 h
theorem jW {P:FC} {w:FE} {K:C1} {es:List Expr} {kk:Nat} {tp:Pos} (l e it:Addr) (hne:e≠it) :
  Turn P w K (.Tuple es kk tp) (Ite .tup l) [e,it] e (λ i h=>(∃old,IsEnum h e it i old)/\h.IsTupleIter it l i) where
 mem:=by simp
 obj:=λ i h st b hb=>by
  obtain ⟨⟨old,a1⟩,⟨o2,a2,_,d2⟩⟩:=st;simp only [List.mem_cons,List.not_mem_nil,or_false] at hb;rcases hb with rfl | rfl
  ·exact ⟨_,a1,λ v q=>by cases q⟩
  ·exact ⟨_,a2,λ v q=>by rw [d2] at q; cases q⟩
 keep:=λ i h h' st k=>by obtain ⟨⟨old,a1⟩,a2⟩:=st;exact ⟨⟨old,k e (by simp) _ a1⟩,a2.at λ o q=>k it (by simp) o q⟩
 item:=by
  intro X hP hw hK hc i pins s σ H E I hf st hg;subst hP hw hK;obtain ⟨⟨old,a1⟩,a2⟩:=st;obtain ⟨xs,x,e1,ex⟩:=hg;obtain ⟨its,rv,p1,_⟩:=I.tuple (FH e1);obtain ⟨u,hu,r⟩:=rv.get ex;have lt:i < its.toArray.size:=by simp; exact (A3.mp hu).1
  have ho:∀b∈[e,it],b < s.heap.objs.size:=λ b hb=>by
   obtain ⟨o2,a2',_⟩:=a2;simp only [List.mem_cons,List.not_mem_nil,or_false] at hb;rcases hb with rfl | rfl
   ·exact A6 a1
   ·exact A6 a2'
  have nl:∀b∈[e,it],l≠b:=λ b hb q=>by rw [q,(hf b hb).1] at e1; cases e1
  have p1':s.heap.IsTuple l its.toArray:=p1;have DD:Draws X.prog X.w X.A.in1 it [it,l] its.toArray.size (λ i v=>its.toArray[i]? = some v) (λ i h=>h.IsTupleIter it l i/\h.IsTuple l its.toArray):=oV (show X.A.in1.handled=none from I.ok.hd hc) it l (nl it (by simp)) its.toArray;refine wpAny_pyNext_enum_itemD DD a1 ⟨a2,p1'⟩ lt hne (by simp only [List.mem_cons,List.not_mem_nil,or_false,not_or]; exact ⟨hne,Ne.symm (nl e (by simp))⟩) λ x' h' tk px b1 b2 b3 b4 bk=>⟨_,Y,?_⟩
  have hu':its.toArray[i]? = some u:=by simpa using hu
  have eu:u=x':=B5 (hu'.symm.trans px);subst eu;exact hZ (tn:=λ i h=>(∃old,IsEnum h e it i old)/\h.IsTupleIter it l i) hne I hf e1 ex ho r b1 b3 bk λ h'' c1 cs=>⟨⟨u,c1⟩,b2.1.extBut cs.extBut (Ne.symm hne)⟩
 done:=by
  intro X hP hw hK hc i pins s σ H E I hf st hg;subst hP hw hK;obtain ⟨⟨old,a1⟩,a2⟩:=st;obtain ⟨xs,e1,ex⟩:=hg;obtain ⟨its,rv,p1,_⟩:=I.tuple (FH e1);have lv:=rv.length;have p1':s.heap.IsTuple l its.toArray:=p1;have hT:s.TypeIs (.ref e) "enumerate" := ⟨_,a1,Y⟩
  unfold pyNext;refine A0 (wpAny_attempt (wpAny_callSpecial?_slot (name:=Str.ofString "__next__") hT F.slot_enumerate_next
   (E7 F.slot_enumerate_next hT F.entry_enumerate_next ?_ (F.args_enumerate_next_1 _))))
  show wpAny _ _ (field (.ref e) 2 >>= _) _ _ _;refine A0 (wpAny_field a1 rfl (x:=.ref it) rfl ?_);refine A0 (dk (I.ok.hd hc) a2 p1' (by simp; omega) λ h' x he' hx'=>?_);obtain ⟨o,ho,hc⟩:=hx';refine A0 (wpAny_isInstance (T := "StopIteration") (b:=true) ⟨o,ho,hc⟩ isSubtype_stop ?_);refine A1 ⟨rfl,?_⟩;exact I.turnedN (t':=s.toks) hf λ b o hb q=>by simp only [List.mem_cons,List.not_mem_nil,or_false,not_or] at hb;exact he' b o hb.2 q
 self:=λ _ _ _ _ _ st h=>by obtain ⟨⟨old,a1⟩,_⟩:=st; exact wpAny_pyIter_enum a1 h
def yA (ta:TA):TI:=λ σ H R=>ta σ H λ vs H1=>∃l xs,vs=[.ref l]/\((H1 l=↥xs/\R (Ite .lst l) H1)\/(H1 l= ~~~xs/\R (Ite .tup l) H1))
theorem rh {X:Cx} {a:Expr} {ta:TA} {p pos tp:Pos} {es:List Expr} {kk:Nat} (hg:Gl X "enumerate") (hm:X.mg "enumerate" = none) (ha:PA X [a] ta)
  (hs:starEach [a] X.env=[(false,eval a X.env)]:=by rfl) :
  PI X (.Tuple es kk tp) (.Call (.Name "enumerate" p) [a] [] pos) (yA ta):=by
 intro pins s σ H R I h;refine Call_ (dZ I hg hm PyProof.Rows.boot_enumerate (PyProof.Rows.callWith_type1 (thn (ha pos pins s σ H _ I h) λ us s1 ⟨vs,H1,I1,r1,q1⟩=>?_) (by rw [hs]; rfl) (by rfl)));obtain ⟨l,xs,rfl,q⟩:=q1;cases r1 with
 | cons r rr =>
  cases rr;cases r;rcases q with ⟨e1,q⟩ | ⟨e1,q⟩
  ·obtain ⟨its1,rv1,p1,_⟩:=I1.list (FI e1);refine call_enumerate_list p1.isList λ h' z1 z2 sz keep=>?_;have I2:Inv X pins σ H1 { s1 with heap:=h' }:=I1.kept (t':=s1.toks) keep;refine wpAny_pyIter_enum z1 ⟨s1.heap.objs.size + 1,[s1.heap.objs.size + 1,s1.heap.objs.size],_,_,H1,rfl,I2,jV l _ _ (Nat.succ_ne_self _),⟨⟨_,z1⟩,z2⟩,λ b hb=>?_,q⟩;have hb':s1.heap.objs.size<=b:=by simp only [List.mem_cons,List.not_mem_nil,or_false] at hb;rcases hb with rfl | rfl <;> omega
   exact I1.fpOk hb' (I1.hok.fresh hb')
  ·obtain ⟨its1,rv1,p1,_⟩:=I1.tuple (FH e1);have p1':s1.heap.IsTuple l its1.toArray:=p1;refine eo p1' λ h' z1 z2 sz keep=>?_;have I2:Inv X pins σ H1 { s1 with heap:=h' }:=I1.kept (t':=s1.toks) keep;refine wpAny_pyIter_enum z1 ⟨s1.heap.objs.size + 1,[s1.heap.objs.size + 1,s1.heap.objs.size],_,_,H1,rfl,I2,jW l _ _ (Nat.succ_ne_self _),⟨⟨_,z1⟩,z2⟩,λ b hb=>?_,q⟩;have hb':s1.heap.objs.size<=b:=by simp only [List.mem_cons,List.not_mem_nil,or_false] at hb;rcases hb with rfl | rfl <;> omega
   exact I1.fpOk hb' (I1.hok.fresh hb')
theorem oW {f:List V->HO} (hf:∀xs ys,f xs=f ys->xs=ys) {l:Addr} {xs:List V} {g:TG} {tb:TS} {D:Ends} {σ:St} {H:Hp} (Pv:Nat->St->Hp->Prop) (h0:Pv 0 σ H) (hk:∀i σ H',Pv i σ H'->H' l=some (f xs))
  (ht:∀i x p σ H,xs[i]? = some x->H p=none->Pv i σ H->g (.ref p) σ (upd H p (.tup [.int i,x])) λ σ2 H2=>tb { D with nx:=Pv (i + 1),ct:=Pv (i + 1),bk:=D.nx } σ2 H2) (hd:∀σ H,Pv xs.length σ H->D.nx σ H) :
  ∃W:Nat->Nat->St->Hp->Prop,(∃m,W 0 m σ H)/\∀i m σ H,W i m σ H ->
   ((Ite f l).stop i H/\D.nx σ H)\/((Ite f l).go i H/\∃N:St->Hp->Prop,(∀σ' H',N σ' H'->∃m',m' < m/\W (i + 1) m' σ' H')/\∀x H',(Ite f l).yld i H x H'->g x σ H' λ σ2 H2=>tb { D with nx:=N,ct:=N,bk:=D.nx } σ2 H2):=by
 refine ⟨λ i m σ H=>m=xs.length - i/\i<=xs.length/\Pv i σ H,⟨xs.length,by simp,E2 _,h0⟩,?_⟩;rintro i m σ H ⟨rfl,hi,p⟩;have e1:=hk i σ H p
 by_cases hlt:i < xs.length
 ·refine .inr ⟨⟨xs,xs[i],e1,by simp [hlt]⟩,Pv (i + 1),λ σ' H' p'=>⟨xs.length - (i + 1),⋯,Y,hlt,p'⟩,λ v H' y=>?_⟩;obtain ⟨q,xs',x,hq,rfl,rfl,e1',ex⟩:=y;rw [e1] at e1';cases hf _ _ (B5 e1');exact ht i x q σ H ex hq p
 ·have e:i=xs.length:=⋯
  subst e;exact .inl ⟨⟨xs,e1,B0 _⟩,hd σ H p⟩
end L2
namespace Pc
open PySem L2
def bZ (k:Kd):Bool:=k.tu && !decide (k.w=k.h)
def lyT (i:Nat) (k:Kd):List (Nat×Bool):=(i,false) :: if bZ k=true then [(i,true)] else []
def lyK:List Kd->Nat->List (Nat×Bool)
 | [],_=>[]
 | k :: r,i=>lyT i k ++ lyK r (i + 1)
theorem jm (k:Kd):∀ (ks:List Kd) (i:Nat),lyK (ks ++ [k]) i=lyK ks i ++ lyT (i + ks.length) k
 | [],i=>by simp [lyK]
 | c :: r,i=>by show lyT i c ++ lyK (r ++ [k]) (i + 1)=(lyT i c ++ lyK r (i + 1)) ++ _;rw [jm k r (i + 1),List.append_assoc];congr 2;simp only [List.length_cons];congr 1;omega
theorem rj (i:Nat) (k:Kd):(lyT i k).length<=2:=by unfold lyT; split <;> simp
theorem iG:∀ (ks:List Kd) (i:Nat),(lyK ks i).length<=2 * ks.length
 | [],i=>by simp [lyK]
 | c :: r,i=>by have:=iG r (i + 1);have:=rj i c;simp only [lyK,List.length_append,List.length_cons];omega
def CP (H:Hp) (v:V) (p:Nat×Bool):Prop:=∃a,v=.ref a/\H a= ~~~[.int p.1,.bl p.2]
abbrev Lys (H:Hp):List V->List (Nat×Bool)->Prop:=Paired (CP H)
theorem Lys.keep {H H':Hp} (k:∀b xs,H b= ~~~xs->H' b= ~~~xs) {xs:List V} {ps:List (Nat×Bool)} (r:Lys H xs ps):Lys H' xs ps :=
 FJ r λ v kd ⟨a,e,h⟩=>⟨a,e,k a _ h⟩
theorem oX {H H3:Hp} {l t:Addr} {ys:List V} {ps:List (Nat×Bool)} {i:Nat} {b:Bool} (hl:H l=none) (s3:Same H H3) (l3:H3 l=↥ys) (y3:Lys H3 ys ps) (ht:H3 t=none) :
  Same H (upd (upd H3 t (.tup [.int (i:Int),.bl b])) l (.lst (ys ++ [.ref t])))/\(upd (upd H3 t (.tup [.int (i:Int),.bl b])) l (.lst (ys ++ [.ref t]))) l=↥(ys ++ [.ref t]) /\
   Lys (upd (upd H3 t (.tup [.int (i:Int),.bl b])) l (.lst (ys ++ [.ref t]))) (ys ++ [.ref t]) (ps ++ [(i,b)]):=by
 have lt:l≠t:=ah l3 ht;refine ⟨λ c o e=>?_,ae,Paired.snoc (Lys.keep (λ c xs e=>?_) y3) ⟨t,Y,by rw [aj (Ne.symm lt),ae]⟩⟩
 ·have e3:=s3 c o e;rw [aj (ah e hl),aj (ah e3 ht)]; exact e3
 ·have cl:c≠l:=λ z=>by rw [z,l3] at e; cases e
  rw [aj cl,aj (ah e ht)]; exact e
def eK (K:C1):Sp:=λ vs H Q _=>∃ (a:Addr) (k:Kd),vs=[.ref a]/\H a= ~~~(kdV k)/\Q (.bl (bZ k)) H
def gv (C:Addr):Sp:=λ vs H Q _=>∃ (x:Addr) (b:Int) (ks:List Kd),vs=[.ref x]/\ShopAt C H x b ks/\ks.length<=8 /\
 ∀ (l:Addr) (ys:List V) (H':Hp),H l=none->H' l=↥ys->Lys H' ys (lyK ks 0)->Same H H'->Q (.ref l) H'
def fk (ks:List Kd) (x t:V):Bool:=match x,t with
 | .int i,.bl b=>decide (0<=i) && match ks[i.toNat]? with
  | some k=>!b || bZ k
  | none=>false
 | _,_=>false
def dG (K:C1) (C:Addr):Sp:=λ vs H Q _=>∃ (s:Addr) (b:Int) (ks:List Kd) (x t:V) (T U:String),vs=[.ref s,x,t]/\ShopAt C H s b ks/\Ty K H x T/\Ty K H t U/\Q (.bl (fk ks x t)) H
end Pc
namespace L2
open PySem PySem.Spec PyProof.Rows
section
variable {X:Cx}
theorem oY {k:Nat} {C:Addr} {ps:List Str} {sp:Sp} {m:Str} {o:Expr} {e:Expr} {es:List Expr} {ta:TE} {t:TA} {apos pos:Pos} {pl:Sem Bool} (he:PE X o ta) (c:Cls X.K C) (D:Mn X.prog X.w X.K X.mg X.base C m ps k sp) (hr:Room k X.A) (ha:PA X (e :: es) t)
  (hst:starEach (e :: es) X.env=(false,eval e X.env) :: starEach es X.env:=by rfl) (hpl:(backTo pos (starEach es X.env)).any (·.1)=false:=by rfl)
  (ht:eval (.Call (.Attribute o m apos) (e :: es) [] pos) X.env=(do
   let ov<-eval o X.env
   standAt apos.atName
   let (f,first)<-holding [ov] (getMethod ov m pl)
   callWith pos f first (backTo pos (starEach (e :: es) X.env)) (backToKw pos (keywordEach [] X.env))):=by rfl):PE X (.Call (.Attribute o m apos) (e :: es) [] pos) (lJ C m sp [] E0 ta t):=by
 obtain ⟨f,fd,F,hb,hm⟩:=D;exact qU he c hm F hr hb .nil lO ha hst hpl ht
end
section
variable {K:C1} {C X:Addr}
theorem fQ (h:ExcC K C):(PySem.W.clsIn K C).isSome=true/\PySem.W.typeIn K (.ref C)=some (.type "type"):=by
 unfold ExcC PySem.W.excIn at h
 split at h
 ·rename_i e
  refine ⟨?_,?_⟩
  ·unfold PySem.W.clsIn;rw [e]
   rfl
  ·show Option.map (λ x=>x.cls) (List.lookup C K)=_;rw [e]
   rfl
 ·cases h
theorem ia {t:FF} {b:Bool} (hx:ExcC K X) (s:PySem.W.subIn K t (.ref X)=some b):PySem.W.kitCls K t (.ref X)=some b:=by
 obtain ⟨h1,h2⟩:=fQ hx;unfold PySem.W.kitCls;simp only [h1,h2,s]
 rfl
theorem gx:PySem.W.kitOne K (.ref C) (.ref C)=some true:=by unfold PySem.W.kitOne;rw [if_pos (by simp)]
theorem tZ {b:Bool} (hx:ExcC K X) (ne:¬ X=C) (s:PySem.W.subIn K (.ref C) (.ref X)=some b):PySem.W.kitOne K (.ref C) (.ref X)=some b:=by unfold PySem.W.kitOne;rw [if_neg (λ z=>ne (Value.ref.inj (beq_iff_eq.mp z)).symm)];exact ia hx s
theorem aH (s0:PySem.W.subIn K (.ref C) (.ref C)=some true) (hx:ExcC K X) (s:PySem.W.subIn K (.ref C) (.ref X)=some false):PySem.W.kitOne K (.ref C) (.ref X)=some false :=
 tZ hx (λ z=>by rw [z,s0] at s; cases s) s
theorem jX (s:PySem.W.subIn K (.ref C) (.type "ValueError")=some true):PySem.W.kitOne K (.ref C) (.type "ValueError")=some true:=by unfold PySem.W.kitOne;rw [if_neg (λ z=>by cases (beq_iff_eq.mp z))];show (if PySem.W.kitMeta "ValueError" = true then PySem.W.subIn K (.ref C) (.type "ValueError") else none)=_;rw [if_pos (show PySem.W.kitMeta "ValueError" = true by decide +kernel)];exact s
theorem cf {t:FF}:PySem.W.kitAny K t []=some false:=rfl
theorem ao {t c:FF} {cs:List FF} (h:PySem.W.kitOne K t c=some false) (r:PySem.W.kitAny K t cs=some false):PySem.W.kitAny K t (c :: cs)=some false:=by show (match PySem.W.kitOne K t c with | some true=>some true | some false=>PySem.W.kitAny K t cs | none=>none)=_;rw [h];exact r
theorem jY (hx:ExcC K X) (b:PySem.W.subIn K (.ref X) (.type "BaseException")=some true) (s:PySem.W.subIn K (.ref C) (.ref X)=some true):PySem.W.exmOne K (.ref C) (.ref X)=some true:=by unfold PySem.W.exmOne;rw [b,if_pos (show ((some true == some true)=true) from rfl)];exact ia hx s
end
section
variable {X:Cx}
def uh (tk tv:TE):TE:=λ σ H Q=>∀p,H p=none->tk σ (upd H p (.dK [])) λ x H1=>tv σ H1 λ y H2=>H2 p=some (.dK [])/\∃i,x=.int i/\Q (.ref p) (upd H2 p (.dK [(Sum.inl i,y)]))
theorem oZ {kx vx:Expr} {tk tv:TE} {pos:Pos} (hk:PE X kx tk) (hv:PE X vx tv):PE X (.Dict [some kx] [vx] pos) (uh tk tv):=by
 intro pins s σ H Q I h;have hb:sysModules < s.heap.objs.size:=Nat.lt_trans (show sysModules < mainGlobals by decide) (I.mod.glob.keeps I.bk).lt;have hn:=I.hok.fresh (B0 s.heap.objs.size);have hd:(s.heap.objs.size == sysModules)=false:=beq_eq_false_iff_ne.mpr (Nat.ne_of_gt hb);have I1:Inv X pins σ (upd H s.heap.objs.size (.dK [])) { s with heap:=s.heap.push { cls:=.type "dict",data:=.dict #[] } } :=
  I.laid (a:=s.heap.objs.size) (o:=.dK []) (t':=s.toks) (λ _ _ q=>A4 _ q) (B0 _) ⟨E2 _,hd,[],.nil,Heap.DictOf.new _⟩
 refine wpAny_Dict_walk (knd:=ax X.prog X.w) rfl rfl (by simp) (by show 1<=15; decide) (pairTrees_cons_walk (thn (hk pins _ σ _ _ I1 (h _ hn)) λ u s1 ⟨x,H1,J1,rx,q1⟩=>thn (hv pins s1 σ H1 _ J1 q1) λ w2 s2 ⟨y,H2,J2,ry,e,i,ex,q2⟩=>pairTrees_nil_walk ?_));subst ex;obtain ⟨tk',rfl⟩:=rx;obtain ⟨_,_,vs0,r0,dd⟩:=J2.hok _ _ e;cases r0;refine ⟨[(Sum.inl i,w2)],⟨fE X.prog X.w i tk',Y,True.intro⟩,dd,λ h' dd' hs=>⟨.ref s.heap.objs.size,_,?_,Y,q2⟩⟩;have he:∃q,h'.get? s.heap.objs.size=some q:=let ⟨q,_,_,hq,_⟩:=dd'; ⟨q,hq⟩
 refine J2.write (x:=s.heap.objs.size) (e:=s.heap.objs.size) (by rw [e]; exact True.intro) (.inl rfl) (λ b q hb z=>(hs.2 b hb).trans z) he ?_;exact ⟨by show 1<=sizeLine; decide,hd,[(Sum.inl i,w2)],.cons ⟨Y,ry⟩ .nil,dd'⟩
end
end L2
namespace Pc
open PySem L2
def CQ (S:Addr->Prop) (x:V):Prop:=∀r,S r->x≠.ref r
def TyS (K:C1) (S:Addr->Prop) (H:Hp) (x:V):Prop:=CQ S x/\∃T,Ty K H x T
theorem TyS.flat {K:C1} {S:Addr->Prop} {H:Hp} {x:V} (h:dR x=true):TyS K S H x:=by
 cases x with
 | non=>exact ⟨(λ _ _ z=>nomatch z),_,.non⟩
 | bl b=>exact ⟨(λ _ _ z=>nomatch z),_,.bl⟩
 | int b=>exact ⟨(λ _ _ z=>nomatch z),_,.int⟩
 | str b=>exact ⟨(λ _ _ z=>nomatch z),_,.str⟩
 | _=>cases h
structure Cur (S:Addr->Prop) (p:Addr) (H0 H:Hp):Prop where
 pt:yw H p
 b:But p H0 H
 th:∀r,S r->H r≠none
 sp:S p
 s0:∀r,H0 r≠none->S r
end Pc
namespace L2
open PySem PySem.Spec PyProof.Rows
section
variable {X:Cx}
abbrev TJ:=St->Hp->Str->(Str->Hp->Prop)->Prop
def PJ (X:Cx) (es:List Expr) (t:TJ):Prop:=∀ (pins:List (Addr×Obj)) (s:FB) (σ:St) (H:Hp) (out:Str) (Q:Str->Hp->Prop),Inv X pins σ H s->t σ H out Q ->
 wpAny (model X.prog X.w) X.A (joinParts out (evalEach es X.env)) (EP X pins σ λ v H'=>∃z,v=.str z/\Q z H') X.xe s
theorem ui:PJ X [] (λ _ H out Q=>out.length<=sizeLine/\Q out H):=λ pins s σ H out Q I h =>
 joinParts_nil ⟨.str out,H,I.tok _,⟨_,rfl⟩,out,rfl,h.2⟩ h.1
def tJC (z:Str) (t:TJ):TJ:=λ σ H out Q=>(out ++ z).length<=sizeLine/\t σ H (out ++ z) Q
theorem uj {z:Str} {j:Nat} {pos:Pos} {es:List Expr} {t:TJ} (hr:PJ X es t):PJ X (.Constant (.str z) j pos :: es) (tJC z t):=λ pins s σ H out Q I h=>by show wpAny _ _ (joinParts out (eval (.Constant (.str z) j pos) X.env :: evalEach es X.env)) _ _ s;exact joinParts_cons (Calls.Constant_str ⟨h.1,hr pins _ σ H _ Q (I.tok _) h.2⟩)
def tJF (te:TE) (t:TJ):TJ:=λ σ H out Q=>te σ H λ v H1=>∃z,((∃i:Int,v=.int i/\i.natAbs.log2 < 1920/\z=Str.ofString (toString i))\/(v=.str z/\z.length<=sizeLine))/\(out ++ z).length<=sizeLine/\t σ H1 (out ++ z) Q
theorem uk {e:Expr} {pos:Pos} {es:List Expr} {te:TE} {t:TJ} (he:PE X e te) (hr:PJ X es t):PJ X (.FormattedValue e (-1) none pos :: es) (tJF te t):=λ pins s σ H out Q I h=>by
 show wpAny _ _ (joinParts out (eval (.FormattedValue e (-1) none pos) X.env :: evalEach es X.env)) _ _ s;refine joinParts_cons (FormattedValue_plain (thn (he pins s σ H _ I h) λ u s1 ⟨v,H1,I1,r,z,hz,hl,q⟩=>?_));rcases hz with ⟨i,rfl,hi,rfl⟩ | ⟨rfl,hz⟩
 ·obtain ⟨tk,rfl⟩:=r;exact formatField_int_small hi ⟨hl,hr pins _ σ H1 _ Q (I1.tok _) q⟩
 ·obtain ⟨tk,rfl⟩:=r;exact formatField_str (λ t' k=>⟨hl,hr pins _ σ H1 _ Q (I1.tok _) q⟩) hz
theorem mX {v₁ v₂:Expr} {es:List Expr} {pos:Pos} {t:TJ} (h:PJ X (v₁ :: v₂ :: es) t):PE X (.JoinedStr (v₁ :: v₂ :: es) pos) (λ σ H Q=>t σ H Str.empty λ z H'=>Q (.str z) H'):=λ pins s σ H Q I hq=>by refine JoinedStr_many ?_;show wpAny _ _ (joinParts Str.empty (evalEach (v₁ :: v₂ :: es) X.env)) _ _ s;exact thn (h pins s σ H Str.empty _ I hq) λ u s1 ⟨v,H1,I1,r,z,e,q⟩=>⟨v,H1,I1,r,by rw [e]; exact q⟩
end
section
variable {X:Cx}
theorem jn:∀ {bs:List Bool} {its:List FF},Vals (bs.map V.bl) its->its=bs.map Value.bool
 | [],_,r=>by cases r; rfl
 | b :: bs,_,r=>by
  cases r with
  | cons r1 r2 =>
   have e:_=Value.bool b:=r1;subst e;rw [List.map_cons,jn r2]
theorem mY (bs:List Bool):(List.range bs.length).all (λ i=>bs.getD i false)=bs.all id:=by
 rw [Bool.eq_iff_iff,List.all_eq_true,List.all_eq_true];constructor
 ·intro h b hb;obtain ⟨i,hi,e⟩:=List.getElem_of_mem hb;have:=h i (List.mem_range.mpr hi);rw [List.getD_eq_getElem?_getD,List.getElem?_eq_getElem hi] at this;simpa [e] using this
 ·intro h i hi;have hi':=List.mem_range.mp hi;rw [List.getD_eq_getElem?_getD,List.getElem?_eq_getElem hi'];exact h _ (List.getElem_mem hi')
theorem cL (hc:X.calm=true):ce X (.builtin "all") (λ xs H Q=>∃ (p:Addr) (bs:List Bool),xs=[.ref p]/\SqL X.K H p (bs.map V.bl)/\Q (.bl (bs.all id)) H):=by
 intro pins s σ H xs us Q I r h;obtain ⟨p,bs,rfl,hs,q⟩:=h;obtain ⟨u,rfl,rfl⟩:=dh r;obtain ⟨its,rv,pl,_⟩:=I.list hs;have e:=jn rv;subst e;have hlt:p < s.heap.objs.size:=by obtain ⟨_,_,e,_⟩:=pl; exact A6 e
 refine call_all_walk (wpAny_pyIter_list pl.isList ?_);refine ⟨_,_,_,_,_,_,λ i=>bs.getD i false,Y,Walks.list (A:=X.A.in1) (I.ok.hd hc) _ p (B6 hlt) _,⟨⟨_,A5 _ rfl,Y,Y⟩,pl.isList.push _⟩,λ i v s' Q' E' hP hQ'=>?_,λ h' tk hk=>?_⟩
 ·have hP':(bs.map Value.bool)[i]? = some v:=by simpa using hP
  rw [List.getElem?_map] at hP';cases hb:bs[i]? with
  | none=>rw [hb] at hP'; cases hP'
  | some b =>
   rw [hb] at hP';cases hP';have hQ2:Q' (bs.getD i false) s':=hQ';rw [List.getD_eq_getElem?_getD,hb] at hQ2;exact E6 hQ2
 ·have e2:((bs.map Value.bool).toArray.size)=bs.length:=by simp
  rw [e2,mY];refine ⟨.bl (bs.all id),H,I.kept (h':=h') (t':=tk) (λ b o e=>hk b o ?_ (A4 _ e)),Y,q⟩;intro z;rw [List.mem_singleton.mp z] at e;exact absurd (A6 e) (C4 _)
end
theorem fR {α:Type} {xs:List α} {i:Int} {v:α} (h0:0<=i) (h:xs[i.toNat]? = some v):atI xs i=some v:=by
 have e:i=((i.toNat:Nat):Int):=⋯
 have z:atI xs ((i.toNat:Nat):Int)=some v:=qW h;rw [<- e] at z; exact z
end L2
namespace Pc
open PySem L2
def PotB (H:Hp) (p:Addr):Prop:=∃a b:Int,0<=a/\0<=b/\b < 2147483648/\H p=↥[.int a,.int b]
theorem PotB.new {H:Hp} {p q:Addr} {o:HO} (x:PotB H p) (h:H q=none):PotB (upd H q o) p:=by obtain ⟨a,b,h1,h2,h3,e⟩:=x;exact ⟨a,b,h1,h2,h3,by rw [aj (ah e h)]; exact e⟩
theorem PotB.same {H H':Hp} {p:Addr} (x:PotB H p) (s:Same H H'):PotB H' p:=by obtain ⟨a,b,h1,h2,h3,e⟩:=x;exact ⟨a,b,h1,h2,h3,s _ _ e⟩
theorem PotB.some {H:Hp} {p:Addr} (x:PotB H p):H p≠none:=by obtain ⟨a,b,h1,h2,h3,e⟩:=x;rw [e]; exact λ z=>by cases z
theorem PotB.ne {H:Hp} {p q:Addr} (x:PotB H p) (h:H q=none):p≠q:=λ z=>x.some (z ▸ h)
def jZ:Sp:=λ vs H Q _=>∃ (c:Int),vs=[.int c]/\∀ (p:Addr) (H':Hp),H p=none->PotB H' p->Same H H'->Q (.ref p) H'
def dH:Sp:=λ vs H Q _=>∃ (p:Addr) (m:Int),vs=[.ref p,.int m]/\PotB H p/\0 < m/\m<=10 ^ 60/\∀ (r:Int) (H':Hp),0<=r->r < m->PotB H' p->But p H H'->Q (.int r) H'
end Pc
namespace L2
open PySem
theorem Room.units66 {k:Nat} {A:Around} (r:Room k A):A.units + 66 < cLine:=by have:=r.un; omega
end L2
namespace L2
open PySem PySem.Spec PyProof.Rows
section
variable {X:Cx} {k:Nat} {ps:List Str} {sp:Sp} {x:Str} {p pos:Pos} {e:Expr} {es:List Expr} {t:TA}
def DnX (P:FC) (w:FE) (K:C1) (mg:Str->Option FF) (base:Heap) (x:Str) (ps:List Str) (k:Nat) (sp:Sp):Prop :=
 ∃ (f:Addr) (fd:FD),FnOk P w K mg base (CXx P w) k f fd ps sp/\Binds K fd ps []/\PySem.W.keepIn K (.ref f)=true/\mg x=↑f
def um (sp:Sp) (t:TA):TX:=λ σ H Q E=>t σ H λ vs H1=>sp vs H1 Q E
theorem fm (D:DnX X.prog X.w X.K X.mg X.base x ps k sp) (hr:Room k X.A) (hg:Gl X x) (ha:PA X.nox (e :: es) t)
  (hdb:(x == ("__debug__" : Str))=false:=by decide) (he:starEach (e :: es) X.env=(false,eval e X.env) :: starEach es X.env:=by rfl) (hpl:(backTo pos (starEach es X.env)).any (·.1)=false:=by rfl) :
  PEx X (.Call (.Name x p) (e :: es) [] pos) (um sp t):=by
 obtain ⟨f,fd,F,hb,hk,hm⟩:=D;intro pins s σ H Q E I h;refine wpAny_Call_Name_kw (dB I hg hm ?_ hdb);refine PySem.W.callWith_K (h₀:=X.base) I.ok.mod.kin hk (wpAny_mono (ha pos pins s σ H _ (I.wish _) h) (λ us s1 ⟨vs,H1,I1,r,q⟩=>⟨I1.kIn,?_⟩) λ _ _ z=>E1 z) he hpl;exact rg F hr hb I1.unwish r q
end
section
variable {κ:Type} [DecidableEq κ]
def dm (kvs:List (κ×V)) (k:κ):Option V:=(kvs.find? λ kv=>decide (kv.1=k)).map (·.2)
def cI (kvs:List (κ×V)) (k:κ) (v:V):List (κ×V) :=
 if (kvs.any λ kv=>decide (kv.1=k))=true then kvs.map (λ kv=>if kv.1=k then (kv.1,v) else kv) else kvs ++ [(k,v)]
theorem eL {p:κ×V} {r:List (κ×V)} {k:κ} (e:p.1=k):dm (p :: r) k=some p.2:=by simp [dm,List.find?_cons,e]
theorem eM {p:κ×V} {r:List (κ×V)} {k:κ} (e:¬ p.1=k):dm (p :: r) k=dm r k:=by simp [dm,List.find?_cons,e]
theorem jo (k:κ):∀kvs:List (κ×V),(kvs.any λ kv=>decide (kv.1=k))=(dm kvs k).isSome
 | []=>rfl
 | p :: r=>by
  rw [List.any_cons]
  by_cases e:p.1=k
  ·simp only [eL e,decide_eq_true e,Bool.true_or,Option.isSome_some]
  ·rw [eM e,decide_eq_false e,Bool.false_or]; exact jo k r
theorem cG (kvs:List (κ×V)) (k:κ) (v:V):(cI kvs k v).length<=kvs.length + 1:=by
 unfold cI
 split
 ·rw [List.length_map]; omega
 ·rw [List.length_append,List.length_cons,List.length_nil]; omega
theorem RelO.isSome_eq {o:Option V} {u:Option FF} (r:RelO o u):o.isSome=u.isSome:=by
 cases o with
 | none=>cases u with
  | none=>rfl
  | some _=>exact (show False from r).elim
 | some _=>cases u with
  | none=>exact (show False from r).elim
  | some _=>rfl
theorem KV.val {kvs:List (κ×V)} {vs:List (κ×FF)} (r:KV kvs vs) (k:κ):RelO (dm kvs k) (valueAt vs k):=by
 unfold KV at r
 induction r with
 | nil=>exact True.intro
 | @cons p q ps qs h t ih =>
  obtain ⟨h1,h2⟩:=h
  by_cases e:p.1=k
  ·have e':q.1=k:=h1.symm.trans e;have b:valueAt (q :: qs) k=some q.2:=by simp [valueAt,List.find?_cons,e']
   rw [eL e,b]; exact h2
  ·have e':¬ q.1=k:=λ z=>e (h1.trans z);have b:valueAt (q :: qs) k=valueAt qs k:=by simp [valueAt,List.find?_cons,e']
   rw [eM e,b]; exact ih
theorem KV.any {kvs:List (κ×V)} {vs:List (κ×FF)} (r:KV kvs vs) (k:κ):(kvs.any λ kv=>decide (kv.1=k))=vs.any λ kv=>decide (kv.1=k):=by
 unfold KV at r
 induction r with
 | nil=>rfl
 | cons h t ih=>rw [List.any_cons,List.any_cons,ih,h.1]
theorem KV.repl {kvs:List (κ×V)} {vs:List (κ×FF)} (r:KV kvs vs) (k:κ) {y:V} {u:FF} (ry:RelV y u) :
  KV (kvs.map λ kv=>if kv.1=k then (kv.1,y) else kv) (vs.map λ kv=>if kv.1=k then (kv.1,u) else kv):=by
 unfold KV at r ⊢
 induction r with
 | nil=>exact .nil
 | @cons p q ps qs h t ih =>
  rw [List.map_cons,List.map_cons];refine .cons ?_ ih;obtain ⟨h1,h2⟩:=h
  by_cases e:p.1=k
  ·rw [if_pos e,if_pos (h1.symm.trans e)]; exact ⟨h1,ry⟩
  ·rw [if_neg e,if_neg (λ z=>e (h1.trans z))]; exact ⟨h1,h2⟩
theorem KV.put {kvs:List (κ×V)} {vs:List (κ×FF)} (r:KV kvs vs) (k:κ) {y:V} {u:FF} (ry:RelV y u):KV (cI kvs k y) (stored vs k u):=by
 unfold cI stored;rw [r.any k]
 by_cases e:(vs.any λ kv=>decide (kv.1=k))=true
 ·rw [if_pos e,if_pos e]; exact r.repl k ry
 ·rw [if_neg e,if_neg e]; exact Paired.snoc r ⟨rfl,ry⟩
theorem KV.length {kvs:List (κ×V)} {vs:List (κ×FF)} (r:KV kvs vs):kvs.length=vs.length:=C6 r
end
theorem pe {P:FC} {w:FE} {k:Key} {u:FF} (r:RelV (kV k) u):(ax P w).is k u=true:=by
 cases k with
 | inl i=>obtain ⟨t,e⟩:=(show ∃t,u=Value.int i t from r); subst e; exact fE P w i t
 | inr x=>obtain ⟨t,e⟩:=(show ∃t,u=Value.str x t from r); subst e; exact iZ P w x t
theorem ib {P:FC} {w:FE}:∀ {ks:List Key} {us:List FF},Vals (ks.map kV) us->ItemsAre (ax P w) ks us
 | [],_,r=>by rw [List.map_nil] at r; cases r; exact .nil
 | k :: ks,_,r=>by
  rw [List.map_cons] at r;cases r with
  | cons h t=>exact .cons (pe h) (ib t)
abbrev KT (H:Hp):List (List Key×V)->List (List Key×Addr×FF)->Prop:=Paired λ p q=>p.1=q.1/\H q.2.1= ~~~(p.1.map kV)/\RelV p.2 q.2.2
theorem KT.val {H:Hp} {kvs:List (List Key×V)} {xs:List (List Key×Addr×FF)} (r:KT H kvs xs) (k:List Key):RelO (dm kvs k) ((atKey xs k).map (·.2)):=by
 induction r with
 | nil=>exact True.intro
 | @cons p q ps qs h t ih =>
  obtain ⟨h1,_,h2⟩:=h
  by_cases e:p.1=k
  ·have e':q.1=k:=h1.symm.trans e;have b:atKey (q :: qs) k=some q.2:=by simp [atKey,List.find?_cons,e']
   rw [eL e,b]; exact h2
  ·have e':¬ q.1=k:=λ z=>e (h1.trans z);have b:atKey (q :: qs) k=atKey qs k:=by simp [atKey,List.find?_cons,e']
   rw [eM e,b]; exact ih
theorem KT.repl {H:Hp} {kvs:List (List Key×V)} {xs:List (List Key×Addr×FF)} (r:KT H kvs xs) (k:List Key) {y:V} {u:FF} (ry:RelV y u) :
  KT H (kvs.map λ kv=>if kv.1=k then (kv.1,y) else kv) (xs.map (putAt k u)):=by
 induction r with
 | nil=>exact .nil
 | @cons p q ps qs h t ih =>
  rw [List.map_cons,List.map_cons];refine .cons ?_ ih;obtain ⟨h1,h2,h3⟩:=h;unfold putAt
  by_cases e:p.1=k
  ·rw [if_pos e,if_pos (h1.symm.trans e)]; exact ⟨h1,h2,ry⟩
  ·rw [if_neg e,if_neg (λ z=>e (h1.trans z))]; exact ⟨h1,h2,h3⟩
theorem KT.put {H:Hp} {kvs:List (List Key×V)} {xs:List (List Key×Addr×FF)} (r:KT H kvs xs) (k:List Key) {b:Addr} {y:V} {u:FF} (hb:H b= ~~~(k.map kV)) (ry:RelV y u) :
  KT H (cI kvs k y) (storedH xs k b u):=by
 have e:(kvs.any λ kv=>decide (kv.1=k))=(atKey xs k).isSome:=by rw [jo,(r.val k).isSome_eq,Option.isSome_map]
 unfold cI storedH;rw [e]
 by_cases q:(atKey xs k).isSome=true
 ·rw [if_pos q,if_pos q]; exact r.repl k ry
 ·rw [if_neg q,if_neg q]; exact Paired.snoc r ⟨rfl,hb,ry⟩
theorem KT.keeps {H H':Hp} {kvs:List (List Key×V)} {xs:List (List Key×Addr×FF)} (r:KT H kvs xs) (ht:∀b ys,H b= ~~~ys->H' b= ~~~ys):KT H' kvs xs :=
 FJ r λ _ _ z=>⟨z.1,ht _ _ z.2.1,z.2.2⟩
section
variable {P:FC} {w:FE} {H:Hp} {h:Heap} {a:Addr}
theorem pf {u:HO} (ok:HOk P w H h) (e:Rd H a u):ObjOk P w H h a u:=e.ok ok
theorem ph {kvs:List (Key×V)} (ok:HOk P w H h) (e:Rd H a (.dK kvs)):kvs.length<=sizeLine/\(a == sysModules)=false/\∃vs,KV kvs vs/\h.DictOf (ax P w) a vs :=
 show ObjOk P w H h a (.dK kvs) from pf ok e
theorem yB {kvs:List (Key×V)} (ok:HOk P w H h) (e:H a=some (.dK kvs)):kvs.length<=sizeLine/\(a == sysModules)=false/\∃vs,KV kvs vs/\h.DictOf (ax P w) a vs:=ph ok (.inl e)
theorem fo {ks:List Key} (ok:HOk P w H h) (e:H a= ~~~(ks.map kV)):(tupleKind (ax P w)).is h ks a:=by
 obtain ⟨_,its,r,o,h1,h2,n,h3⟩:=(show ObjOk P w H h a (.tup (ks.map kV)) from ok a _ e)
 exact ⟨o,its.toArray,n,h1,h2,h3,by simpa using ib r⟩
theorem dW {kvs:List (List Key×V)} (ok:HOk P w H h) (e:Rd H a (.dT kvs)):kvs.length<=sizeLine/\(a == sysModules)=false /\
  ∃xs,KT H kvs xs/\h.DictOfH (tupleKind (ax P w)) a xs:=by
 obtain ⟨z,y,xs,r,o,es,ep,h1,h2,h3,h4,h5⟩:=(show ObjOk P w H h a (.dT kvs) from pf ok e)
 refine ⟨z,y,xs,r,o,es,ep,h1,h2,h3,h4,λ x hx=>?_,h5⟩;have all:∀ {l:List (List Key×V)} {m:List (List Key×Addr×FF)},KT H l m->∀x∈m,(tupleKind (ax P w)).is h x.1 x.2.1:=by
  intro l m q
  induction q with
  | nil=>intro x hx; exact nomatch hx
  | @cons p q ps qs hq t ih =>
   intro x hx;rcases List.mem_cons.mp hx with e | hx
   ·subst e;exact fo ok (by rw [<- hq.1]; exact hq.2.1)
   ·exact ih x hx
 exact all r x hx
theorem tD {kvs:List (List Key×V)} (ok:HOk P w H h) (e:H a=some (.dT kvs)):kvs.length<=sizeLine/\(a == sysModules)=false /\
  ∃xs,KT H kvs xs/\h.DictOfH (tupleKind (ax P w)) a xs:=dW ok (.inl e)
end
def DGet (H:Hp) (a:Addr) (y:V) (r:Option V):Prop :=
 (∃kvs k,Rd H a (.dK kvs)/\y=kV k/\r=dm kvs k)\/∃kvs k b,Rd H a (.dT kvs)/\y=.ref b/\H b= ~~~(k.map kV)/\r=dm kvs k
def DPut (H:Hp) (a:Addr) (y v:V) (H':Hp):Prop :=
 (∃kvs k,H a=some (.dK kvs)/\y=kV k/\kvs.length < sizeLine/\H'=upd H a (.dK (cI kvs k v))) \/
 ∃kvs k b,H a=some (.dT kvs)/\y=.ref b/\H b= ~~~(k.map kV)/\kvs.length < sizeLine/\H'=upd H a (.dT (cI kvs k v))
theorem DGet.t {H:Hp} {a b:Addr} {kvs:List (List Key×V)} {k:List Key} (e:H a=some (.dT kvs)) (eb:H b= ~~~(k.map kV)):DGet H a (.ref b) (dm kvs k):=.inr ⟨kvs,k,b,.inl e,Y,eb,Y⟩
theorem DPut.t {H:Hp} {a b:Addr} {kvs:List (List Key×V)} {k:List Key} {v:V} (e:H a=some (.dT kvs)) (eb:H b= ~~~(k.map kV)) (hl:kvs.length < sizeLine) :
  DPut H a (.ref b) v (upd H a (.dT (cI kvs k v))):=.inr ⟨kvs,k,b,e,Y,eb,hl,Y⟩
section
variable {X:Cx} {pins:List (Addr×Obj)} {σ:St} {H:Hp} {s:FB} {a:Addr} {y v:V} {u r:FF} {o:Option V} {A:Around} {E:FF->FB->Prop}
theorem Inv.big (I:Inv X pins σ H s):sysModules < s.heap.objs.size:=by have h:mainGlobals < s.heap.objs.size:=(I.mod.glob.keeps I.bk).lt;exact Nat.lt_trans ∅ h
theorem mZ {Q:FF->FB->Prop} (hu:A.units + 1 < cLine) (I:Inv X pins σ H s) (g:DGet H a y (some v)) (ry:RelV y u) (h:∀w' s',Inv X pins σ H s'->RelV v w'->Q w' s') :
  wpAny (model X.prog X.w) A (getItem (.ref a) u) Q E s:=by
 rcases g with ⟨kvs,k,e,ey,l⟩ | ⟨kvs,k,b,e,ey,eb,l⟩
 ·subst ey;obtain ⟨z,hd,vs,rel,dd⟩:=ph I.hok e;obtain ⟨w',hw,rw'⟩:=RelO.some_of (v:=v) (o:=valueAt vs k) (by rw [l]; exact rel.val k);exact wpAny_getItem_of (pe ry) dd.mapOf hw (h w' _ (I.tok _) rw')
 ·subst ey;cases (show u=Value.ref b from ry);obtain ⟨z,hd,xs,rel,dd⟩:=dW I.hok e;obtain ⟨w',hw,rw'⟩:=RelO.some_of (v:=v) (o:=(atKey xs k).map (·.2)) (by rw [l]; exact rel.val k);obtain ⟨p,hp,hp2⟩:=Option.map_eq_some_iff.mp hw;refine wpAny_getItem_heap (tupleKind_room_in1 hu) (fo I.hok eb) dd hp ?_;rw [hp2];exact h w' _ (I.tok _) rw'
theorem fT {h':Heap} {t':Nat} {ob:HO} (I:Inv X pins σ H s) (mu:Mut (H a)) (hs:Heap.SameBut a s.heap h') (he:∃q,h'.get? a=some q) (new:ObjOk X.prog X.w (upd H a ob) h' a ob) :
  Inv X pins σ (upd H a ob) { s with heap:=h',toks:=t' } :=
 I.write (x:=a) (e:=a) mu (.inl rfl) (λ b q hb z=>(hs.2 b hb).trans z) he new
theorem uo {P:FC} {w:FE} {H':Hp} {h':Heap} {kvs:List (Key×V)} {vs:List (Key×FF)} (z:kvs.length<=sizeLine) (hd:(a == sysModules)=false) (rel:KV kvs vs) (dd:h'.DictOf (ax P w) a vs) :
  ObjOk P w H' h' a (.dK kvs):=⟨z,hd,vs,rel,dd⟩
theorem ng {H':Hp} {Q:Unit->FB->Prop} (hu:A.units + 1 < cLine) (I:Inv X pins σ H s) (g:DPut H a y v H') (ry:RelV y u) (rv:RelV v r) (h:∀s',Inv X pins σ H' s'->Q () s') :
  wpAny (model X.prog X.w) A (setItem (.ref a) u r) Q E s:=by
 rcases g with ⟨kvs,k,e,ey,l,eH⟩ | ⟨kvs,k,b,e,ey,eb,l,eH⟩
 ·subst ey eH;obtain ⟨z,hd,vs,rel,dd⟩:=yB I.hok e;have hz:vs.length<=sizeLine:=by rw [<- rel.length]; exact z
  have hl:(cI kvs k v).length<=sizeLine:=by have:=cG kvs k v; omega
  refine wpAny_setItem_pairs (hsz:=hz) (pe ry) dd λ h' dd' hs=>h _ ?_;have he:∃q,h'.get? a=some q:=let ⟨q,_,_,hq,_⟩:=dd'; ⟨q,hq⟩
  exact fT I (by rw [e]; exact True.intro) hs he (uo hl hd (rel.put k rv) dd')
 ·subst ey eH;cases (show u=Value.ref b from ry);obtain ⟨z,hd,xs,rel,dd⟩:=tD I.hok e;have hz:xs.length<=sizeLine:=by rw [<- Paired.length rel]; exact z
  have hl:(cI kvs k v).length<=sizeLine:=by have:=cG kvs k v; omega
  refine wpAny_setItem_heap (hsz:=hz) (tupleKind_room_in1 hu) (fo I.hok eb) dd λ h' dd' hs=>h _ ?_;obtain ⟨q,es,ep,hq,h2,h3,h4,_,h5⟩:=dd';refine fT I (by rw [e]; exact True.intro) hs ⟨q,hq⟩ ⟨hl,hd,_,(rel.put k eb rv).keeps λ c ys ec=>?_,q,es,ep,hq,h2,h3,h4,h5⟩;rw [aj (ya ec e (λ z=>nomatch z))];exact ec
end
def yC (i:Expr):Prop:=∀ov iv,subscripted i false ov iv=operate [ov,iv] (getItem ov iv)
theorem rm {prog:FC} {w:FE} {A:Around} {E:FF->FB->Prop} {s:FB} {env:Env} {value slice:Expr} {pos:Pos} {T id:String} {Q:FF->FB->Prop}
  (hl:typeLookup (.type T) "__getitem__" = pure (some (.builtin id))) (hs:yC slice)
  (h:wpAny (model prog w) A (eval value env) (λ o s₁=>wpAny (model prog w) A (eval slice env) (λ i s₂=>s₂.TypeIs o T/\wpAny (model prog w) A (getItem o i) Q E s₂) E s₁) E s) :
  wpAny (model prog w) A (eval (.Subscript value slice pos) env) Q E s:=by
 refine Subscript_ (wpAny_mono h (λ o s₁ h₁=>wpAny_mono h₁ (λ i s₂ h₂=>?_) λ _ _ x=>x) λ _ _ x=>x);obtain ⟨hT,h₂⟩:=h₂;unfold subscriptTail;refine A0 ?_;rw [getitemInPython_of_ne hT.not_modules];refine A0 (wpAny_specialOf hT hl ?_);have fin:wpAny (model prog w) A (subscripted slice false o i) (λ r s₃=>wpAny (model prog w) A (letTemporaryGo value o r >>= λ _=>pure r) Q E s₃) E s₂:=by rw [hs o i];exact wpAny_operating (wpAny_mono h₂ (λ r s₃ h₃=>A0 (wpAny_letTemporaryGo (A1 h₃))) λ _ _ x=>x)
 first
  | exact A1 (A0 fin)
  | exact A0 (A1 (A0 fin))
  | exact A0 fin
theorem jp {X:Cx} {pins:List (Addr×Obj)} {σ:St} {H:Hp} {s:FB} {a:Addr} {y:V} {o:Option V} (I:Inv X pins σ H s) (g:DGet H a y o):s.TypeIs (.ref a) "dict" := by
 rcases g with ⟨kvs,k,e,_,_⟩ | ⟨kvs,k,b,e,_,_,_⟩
 ·obtain ⟨_,_,vs,_,dd⟩:=ph I.hok e;exact dd.typeIs
 ·obtain ⟨_,_,xs,_,dd⟩:=dW I.hok e;exact dd.typeIs
def yD (td ty:TE):TE:=λ σ H Q=>td σ H λ x H1=>ty σ H1 λ y H2=>∃a v,x=.ref a/\DGet H2 a y (some v)/\Q v H2
def yE (td ty tv:TE):TS:=λ D σ H=>tv σ H λ v H1=>td σ H1 λ x H2=>ty σ H2 λ y H3=>∃a H4,x=.ref a/\DPut H3 a y v H4/\D.nx σ H4
section
variable {X:Cx} {o i e value:Expr} {pos pos' tpos:Pos} {td ty tv:TE}
theorem cr (hu:X.A.units + 1 < cLine) (ho:PE X o td) (hi:PE X i ty) (hs:yC i):PE X (.Subscript o i pos) (yD td ty):=by intro pins s σ H Q I h;refine rm PySem.F.slot_dict_getitem.lookup hs (thn (ho pins s σ H _ I h) λ u s1 ⟨x,H1,I1,rx,q1⟩=>thn (hi pins s1 σ H1 _ I1 q1) λ iv s2 ⟨y,H2,I2,ry,a,v,ex,g,q2⟩=>?_);subst ex;obtain rfl:u=Value.ref a:=rx;exact ⟨jp I2 g,mZ hu I2 g ry λ w' s3 I3 rw'=>⟨v,H2,I3,rw',q2⟩⟩
theorem cT (hu:X.A.units + 1 < cLine) (ho:PE X o td) (hi:PE X i ty) (hv:PE X value tv) (hs:swapsWith value (some (.Subscript o i pos')) pos.line X.env=pure false) :
  PS X (.Assign [.Subscript o i pos'] value pos) (yE td ty tv):=by
 intro pins s σ H D I h;refine wpAny_Assign_Subscript (thn (hv pins s σ H _ I h) λ r s1 ⟨v,H1,I1,rv,q1⟩=>thn (ho pins s1 σ H1 _ I1 q1) λ u s2 ⟨x,H2,I2,rx,q2⟩=>thn (hi pins s2 σ H2 _ I2 q2) λ iv s3 ⟨y,H3,I3,ry,a,H4,ex,g,q3⟩=>?_) hs;subst ex;obtain rfl:u=Value.ref a:=rx;exact ng hu I3 g ry rv λ s4 I4=>⟨σ,H4,I4,q3⟩
end
theorem pi {P:FC} {w:FE} {H:Hp} (h:Heap) (hb:sysModules < h.objs.size):ObjOk P w H (h.push { cls:=.type "dict",data:=.dict #[] }) h.objs.size (.dT []) :=
 ⟨E2 _,beq_eq_false_iff_ne.mpr (Ne.symm (B6 hb)),[],.nil,_,#[],0,A5 _ rfl,⟨rfl,rfl,rfl⟩,rfl,rfl,List.nodup_nil⟩
def uq:TE:=λ _ H Q=>∀p,H p=none->Q (.ref p) (upd H p (.dT []))
section
variable {X:Cx} {pos:Pos}
theorem gy:PE X (.Dict [] [] pos) uq:=λ pins s σ H Q I h =>
 wpAny_Dict_empty ⟨.ref s.heap.objs.size,_,I.laid (a:=s.heap.objs.size) (o:=.dT []) (t':=s.toks) (λ _ _ q=>A4 _ q) (B0 _) (pi s.heap I.big),rfl,h _ (I.hok.fresh (B0 _))⟩
end
structure M1 (X:Cx) (o:Expr) (m:Str) (apos:Pos) (e:Expr) (cpos:Pos):Prop where
 base:attributeBase o m X.env (eval o X.env)=eval o X.env
 few:((backTo cpos (starEach [e] X.env)).all (λ x=>!x.1) && (backToKw cpos (keywordEach [] X.env)).all (λ x=>x.1.isSome)
  && decide (([e]:List Expr).length + ([]:List Keyword).length + (if ([]:List Keyword).isEmpty then 0 else 1) < 30))=true
 line:(apos.endLine == cpos.line)=true
 trees:backTo cpos (starEach [e] X.env)=[(false,eval e X.env)]
structure M2 (X:Cx) (o:Expr) (m:Str) (apos:Pos) (e f:Expr) (cpos:Pos):Prop where
 base:attributeBase o m X.env (eval o X.env)=eval o X.env
 few:((backTo cpos (starEach [e,f] X.env)).all (λ x=>!x.1) && (backToKw cpos (keywordEach [] X.env)).all (λ x=>x.1.isSome)
  && decide (([e,f]:List Expr).length + ([]:List Keyword).length + (if ([]:List Keyword).isEmpty then 0 else 1) < 30))=true
 line:(apos.endLine == cpos.line)=true
 trees:backTo cpos (starEach [e,f] X.env)=[(false,eval e X.env),(false,eval f X.env)]
end L2
/- THE LAST THEOREM (shape; LID,My.* are yours):
   My.Adr: a structure of the addresses that your layer names (classes,functions); My.Txt K t: a structure (Prop) of the equations over K;
   My.txt_mk : {K} {implicit addresses ..} (e1 : nsIn K mainGlobals "law" = some (↑f)) (e2 : K.lookup f = some ⟨oc,od,.func (fnOf "law" "law" params body scope dV kV doc pm an cdv ct),sl⟩) (e3 : codeIn K cdv "law" = true) .. : ∃ t,My.Txt K t
(the tactic k_is has no namespace: write k_is) -/
namespace L2
open PySem PySem.Spec PyProof.Rows
theorem fq {X:Cx} (K:C1) {x y:Str} {px py pos:Pos} {k:Nat} (hK:X.K=K) (hc:X.calm=true) (hN:X.N.Nodup) (h0:X.N[0]? = some x) (h1:X.N[1]? = some y) (l0:X.env.scope.names.lookup x=some .local) (l1:X.env.scope.names.lookup y=some .local) :
  PG X (.Tuple [.Name x px,.Name y py] k pos) (gTup K 2 (gCons (ja 0) (gCons (ja 1) yi))) :=
 hK ▸ bQ hc (au (ap hN h0 (.inl l0) (.inr l0)) (au (ap hN h1 (.inl l1) (.inr l1)) bn))
abbrev TXS:=St->Hp->(Hp->Prop)->XK->Prop
def PSx (X:Cx) (b:List Stmt) (t:TXS):Prop :=
 ∀ (pins:List (Addr×Obj)) (s:FB) (σ:St) (H:Hp) (N:Hp->Prop) (E:XK),Inv X pins σ H s->t σ H N E->wpAny (model X.prog X.w) X.A (execs b X.env) (λ fl s'=>fl=Flow.next/\∃H',Inv X pins σ H' s'/\N H') (XP X pins σ E) s
section
variable {X:Cx} {e c:Expr} {a b:List Stmt} {tx:TX} {ta tb:TXS} {tt:TT} {pos:Pos}
theorem jq (he:PEx X e tx) (hs:swapsWith e none pos.line X.env=pure false:=by rfl):PSx X [.Expr e pos] (λ σ H N E=>tx σ H (λ _ H1=>N H1) E):=by intro pins s σ H N E I h;exact wpAny_execs_cons (wpAny_Expr_any (wpAny_mono (he pins s σ H _ _ I h) (λ v s1 ⟨x,H1,I1,r1,q1⟩=>wpAny_execs_nil ⟨rfl,H1,I1,q1⟩) λ v s1 hx=>hx) I.quiet hs)
theorem ur (hc:PT X.nox c tt) (ha:PSx X a ta) (hb:PSx X b tb):PSx X [.If c a b pos] (λ σ H N E=>tt σ H λ d H1=>if d=true then ta σ H1 N E else tb σ H1 N E):=by
 intro pins s σ H N E I h;refine wpAny_execs_cons (wpAny_If (wpAny_mono (hc pins s σ H _ (I.wish _) h) (λ d s1 ⟨H1,I1,q1⟩=>?_) λ _ _ z=>E1 z));cases d with
 | true=>exact wpAny_mono (ha pins s1 σ H1 N E I1.unwish q1) (λ fl s2 ⟨e,r⟩=>by subst e; exact wpAny_execs_nil ⟨rfl,r⟩) λ _ _ z=>z
 | false=>exact wpAny_mono (hb pins s1 σ H1 N E I1.unwish q1) (λ fl s2 ⟨e,r⟩=>by subst e; exact wpAny_execs_nil ⟨rfl,r⟩) λ _ _ z=>z
end
def yF (K:C1) (i:Nat) (CE:Addr) (tx:TXS) (ts:Addr->TS):TS:=λ D σ H=>tx σ H (λ H1=>D.nx σ H1) (λ c _ H1=>PySem.W.exmOne K c (.ref CE)=some true/\∀ea,H1 ea=none ->
 ts ea { nx:=λ σ2 H2=>D.nx (σ2.set i none) H2,rt:=D.rt,bk:=λ σ2 H2=>D.bk (σ2.set i none) H2,ct:=λ σ2 H2=>D.ct (σ2.set i none) H2 } (σ.set i (↑ea)) (upd H1 ea (.ext (IsA ea c))))
section
variable {X:Cx} {body:List Stmt} {tx:TXS} {ts:Addr->TS} {i:Nat} {n y:Str} {CE:Addr} {b₀:Stmt} {suite:List Stmt} {np hpos epos pos:Pos}
theorem rn (hst:X.stack=X.env :: X.outer) (hfr:X.env.frame=some X.env.locals) (hex:X.ex=[]) (he:PSx X body tx) (hN:X.N.Nodup) (hi:X.N[i]? = some n) (hk:X.env.scope.names.lookup n=some .local) (hg:Gl X y) (hm:X.mg y=↑CE)
  (hsu:∀ea,PSs (X.marked ea) (b₀ :: suite) (ts ea)) (hd:(y == ("__debug__" : Str))=false:=by decide) :
  PS X (.Try body [.ExceptHandler (some (.Name y np)) (some n) (b₀ :: suite) hpos] [] [] pos) (yF X.K i CE tx ts):=by
 intro pins s σ H D I h;refine wpAny_Try_except (wpAny_mono (he pins s σ H _ _ I h) (λ fl s1 ⟨e1,H1,I1,q1⟩=>?_) λ v s1 hx=>?_)
 ·subst e1;exact wpAny_execs_nil ⟨σ,H1,I1,q1⟩
 obtain ⟨ea,c,H0,H',B,s0,rfl,I0,f,hm1,q⟩:=hx;obtain ⟨a0,fl⟩:=f.fly;rw [hst] at fl;refine hX (by rw [<- hst]; exact I.ok.frames) hfr fl f.ctx λ h4 held4 sm4 q4=>?_;refine tY held4 q4 λ h5 fl5 sm5 q5=>?_;have I5:Inv X pins σ H' { s1 with heap:=h5 }:=f.inv (t:=s1.toks) I0 fl5.1 (sm4.trans sm5);obtain ⟨ob,hob,hobc⟩:=fl5.there;refine wpAny_handleBy_cons (codeAny_handlers_test (dB (X:=X.marked ea) (I5.mark ea) hg hm ?_ hd)) (by intro q; cases q);have LT:PySem.W.Looks (model X.prog X.w) h5 (typeOf (.ref ea)) c:=hobc ▸ (PySem.W.Looks.ld hob).andThen .now;refine (PySem.W.exm_one (M:=model X.prog X.w) I5.kIn LT hm1).here ?_;show codeAny _ _ _ _ _;refine codeAny_handlers_suite_as ?_;refine iD fl5 q5 λ h6 fl6 sm6 q6=>?_;have I6:Inv X pins σ H' { s1 with heap:=h6 }:=f.inv (t:=s1.toks) I0 fl6.1 ((sm4.trans sm5).trans sm6);have I7:Inv X pins σ (upd H' ea (.ext (IsA ea c))) { s1 with heap:=h6 }:=by
  refine I6.track2 f.new.2 (λ z=>?_) ?_ (λ x c' e z=>?_) (λ p hp z=>?_) (IsA.obj (IsA.of fl6.there q6))
  ·obtain ⟨m,⟨o,_,_,ho,_⟩,_⟩:=I0.loc;have:=f.new.1;rw [z,ho] at this; cases this
  ·cases q':X.s₀.heap.get? ea with
   | none=>rfl
   | some o =>
    obtain ⟨o',e1⟩:=I0.base.there ea o q' (by rw [hex]; simp);have:=f.new.1;rw [e1] at this; cases this
  ·obtain ⟨v,o,ho,_⟩:=I0.cell x c' e;have:=f.new.1;rw [<- z,ho] at this; cases this
  ·have:=(I0.pin p hp).1;rw [z,f.new.1] at this; cases this
 refine dg (X:=X.marked ea) (I7.mark ea) hN hi (.inl hk) (v:=.ref ea) rfl (λ s7 I8=>?_) (.inr hk);refine wpAny_mono (hsu ea pins s7 _ _ _ I8 (q ea f.new.2)) (λ fl s8 hq=>?_) λ _ _ z=>E1 z;cases fl with
 | next =>
  obtain ⟨σ',H'',J,q'⟩:=hq;exact dF (J.unmark I.ok) hN hi hk λ s9 J9=>⟨_,_,J9,q'⟩
 | brk =>
  obtain ⟨σ',H'',J,q'⟩:=hq;exact dF (J.unmark I.ok) hN hi hk λ s9 J9=>⟨_,_,J9,q'⟩
 | cont =>
  obtain ⟨σ',H'',J,q'⟩:=hq;exact dF (J.unmark I.ok) hN hi hk λ s9 J9=>⟨_,_,J9,q'⟩
 | ret u =>
  obtain ⟨v,σ',H'',J,r,q'⟩:=hq;exact dF (J.unmark I.ok) hN hi hk λ s9 J9=>⟨_,_,_,J9,r,q'⟩
end
section
variable {M:Model} {A:Around} {E:FF->FB->Prop} {s:FB} {base:Heap} {env:Env} {outer:List Env} {L e:Addr} {cls a0:FF} {Q:Unit->FB->Prop}
theorem ut (hfr:A.frames=some (env :: outer)) (hf:env.frame=some L) (f:Heap.FlyingW base (env :: outer) e cls a0 s.heap) (q:Q2 e s.heap):wpAny M A (leaving env (.ref e)) (λ _ s'=>Q2 e s'.heap) E s:=by unfold leaving;exact A0 (hX hfr hf f q λ h4 held4 sm4 q4=>iB held4.2.2.2 q4)
theorem kf (hfr:A.frames=some (env :: outer)) (hf:env.frame=some L) (f:Heap.FlyingW base (env :: outer) e cls a0 s.heap) (q:Q2 e s.heap)
  (hQ:∀h',Heap.FlyingW base outer e cls a0 h'->s.heap.UpToSlots h'->Q2 e h'->Q () { s with heap:=h' }):wpAny M A (leaving env (.ref e)) Q E s :=
 wpAny_mono (cA (ut (E:=E) hfr hf f q) (wpAny_leaves_onW (Q:=λ _ s'=>Q2 e s'.heap->Q () s') (E:=E) hfr hf f λ h' a b q=>hQ h' a b q)) (λ _ _ z=>z.2 z.1) λ _ _ z=>z.1
end
section
variable {P:FC} {w:FE} {K:C1} {mg:Str->Option FF} {base:Heap} {N:List Str} {qual:Str} {scope:Scope} {f:Addr} {cd:FF} {A:Around} {outer:List Env} {s₀:FB} {H₀:Hp} {E:XK}
theorem rp {pins:List (Addr×Obj)} {σ:St} {v:FF} {s1:FB} (hx:XP (eF (CXx P w) P w K mg base N qual scope f cd A outer s₀ H₀ E) pins σ E v s1):(eF (CXx P w) P w K mg base N qual scope f cd A outer s₀ H₀ E).xe v s1:=by
 obtain ⟨ea,C,H0,H',B,s0,rfl,I0,fl,q⟩:=hx;obtain ⟨a0,fw⟩:=fl.fly;have I0':=I0;show wpAny (model P w) (A.deeper (envOfC qual scope s₀.heap.objs.size f cd)) (leaving (envOfC qual scope s₀.heap.objs.size f cd) (.ref ea)) _ _ s1;refine kf I0.ok.frames rfl fw fl.ctx λ h' fw' sm q2=>⟨ea,C,H',B,Y,?_,q⟩
 have J:Inv (eF (CXx P w) P w K mg base N qual scope f cd A outer s₀ H₀ E) pins σ H' { s1 with heap:=h' }:=fl.inv (t:=s1.toks) I0 fw'.1 sm;have newE:s₀.heap.get? ea=none:=by
  cases z:s₀.heap.get? ea with
  | none=>rfl
  | some o =>
   obtain ⟨o',e1⟩:=I0.base.there ea o z (by show ea∉([]:List Addr); simp);have:=fl.new.1;rw [e1] at this; cases this
 refine ⟨J.os,J.bare,J.base,J.hok,⟨a0,fw'⟩,q2,λ b o nb hh e=>?_,⟨newE,fl.new.2⟩⟩;have nbs:b∉frs (envOfC qual scope s₀.heap.objs.size f cd :: outer):=λ z=>by
  have z':b=s₀.heap.objs.size\/b∈frs outer:=by unfold frs at z ⊢;rw [List.filterMap_cons] at z;exact List.mem_cons.mp z
  rcases z' with z | z
  ·subst z;rcases hh with hh | ⟨o',hh⟩
   ·exact hh J.free
   ·exact absurd (A6 hh) (C4 _)
  ·exact nb z
 have key:∃o1,s1.heap.get? b=some o1/\(H' b≠none\/∃o',s0.heap.get? b=some o'):=by
  rcases hh with hh | ⟨o',hh⟩
  ·cases z:H' b with
   | none=>exact absurd z hh
   | some u =>
    obtain ⟨ob,eb⟩:=(fl.hok b u z).ex;exact ⟨ob,eb,.inl (by rw [<- z] at *; exact hh)⟩
  ·obtain ⟨o1,e1⟩:=I0.base.there b o' hh (by show b∉([]:List Addr); simp);obtain ⟨o2,e2⟩:=fl.un.there b o1 e1 (by simp);exact ⟨o2,e2,.inr ⟨o1,e1⟩⟩
 obtain ⟨o1,e1,hh'⟩:=key;have eB:=fl.cov b o1 nbs hh' e1;have:=fw'.1 b o1 eB;rw [e] at this;cases this;exact eB
end
section
variable {X:Cx}
theorem gz {lo:Int} {n:Nat} {σ:St} {cap:List Nat} {k:Nat} {g:TG} {tt:TT} {te:TE} {Q:List V->Hp->Prop} {H:Hp} (Pv:Nat->List V->Hp->Prop) (h0:Pv 0 [] H)
  (ht:∀i ys H',i < n->Pv i ys H'->ys.length < sizeLine/\g (.int (lo + i)) (aU σ cap k) H' λ σ2 H2=>leS (aU σ cap k) σ2/\tt σ2 H2 λ ok H3=>if ok=true then te σ2 H3 (λ v H4=>Nx n Pv i (ys ++ [v]) H4) else Nx n Pv i ys H3)
  (hd:∀ys H',Pv n ys H'->ys.length<=sizeLine/\Q ys H'):∃W,(∃m,W 0 m [] H)/\dU σ cap k (Itr lo n) g tt te Q W:=by
 refine ⟨λ i m ys H'=>m=n - i/\i<=n/\Pv i ys H',⟨_,Y,E2 _,h0⟩,?_⟩;rintro i m ys H' ⟨rfl,hi,p⟩
 by_cases hin:i < n
 ·obtain ⟨e,hg⟩:=ht i ys H' hin p;refine .inr ⟨hin,e,λ x H2 yl=>?_⟩;obtain ⟨e1,e2⟩:=yl;subst e1 e2;exact hg
 ·have e:i=n:=⋯
  subst e;obtain ⟨a1,a2⟩:=hd ys H' p;exact .inl ⟨B0 _,a1,a2⟩
end
end L2
namespace PySem
theorem Paired.getL {α β:Type} {F:α->β->Prop}:∀ {l₁:List α} {l₂:List β} {i:Nat} {y:β},Paired F l₁ l₂->l₂[i]? = some y->∃x,l₁[i]? = some x/\F x y
 | _,_,_,_,.nil,e=>by simp at e
 | _,_,0,_,.cons h _,e=>by simp at e; subst e; exact ⟨_,Y,h⟩
 | _,_,i + 1,y,.cons _ t,e=>by obtain ⟨x,h1,h2⟩:=Paired.getL (i:=i) t (by simpa using e);exact ⟨x,by simpa using h1,h2⟩
section
variable {prog:FC} {w:FE} {K:Type} [DecidableEq K] {knd:HeapKind prog w K} {A:Around} {E:FF->FB->Prop} {s:FB} {d:Addr}
theorem kh (hd:(d == sysModules)=false) :
  MeetsIn prog w (Builtin.«dict.__len__» ⟨[.ref d],[]⟩) (λ _ R s=>∃xs,s.heap.DictOfH knd d xs/\R (.ok (.ret (.int xs.length s.toks))) { s with toks:=s.toks + 1 }) :=
 .of_wp λ A R s ⟨xs,hm,hR⟩=>by obtain ⟨o,es,ep,ho,hc,hda,hes,_⟩:=hm;show wpAny _ _ (dictSize d >>= _) _ _ s;unfold dictSize;refine A0 (A0 (wpAny_dictEntries ho hda (A1 ?_)));show wpAny _ _ (Builtin.Dict.pendingCount d >>= _) _ _ s;refine A0 (wpAny_pendingCount_other hd (wpAny_ret_mkInt ?_));rw [Nat.add_zero,size_of_entries hes];exact hR
theorem CS {xs:List (K×Addr×FF)} {Q:FF->FB->Prop} (hd:(d == sysModules)=false) (hm:s.heap.DictOfH knd d xs) (hfit:(xs.length:Int) < 2 ^ 63)
  (h:Q (.int xs.length (s.toks + 1)) { s with toks:=s.toks + 1 + 1 }):wpAny (model prog w) A (call (.builtin "len") [.ref d]) Q E s:=by
 have ht:s.TypeIs (.ref d) "dict" := let ⟨o,_,_,ho,hc,_⟩:=hm; ⟨o,ho,hc.1⟩
 refine Calls.call_function_entry kind_len plain_len entry_len (args_len1 _) ?_;unfold Builtin.«len»;refine A0 (m:=oneArg "len" _) (A1 ?_);refine A0 (m:=callSpecial? (.ref d) (Str.ofString "__len__")) (wpAny_callSpecial?_slot (name:=Str.ofString "__len__") ht F.slot_dict_len (call_meetsIn F.slot_dict_len ht F.entry_dict_len (F.args_dict_len_1 _) (kh (knd:=knd) hd) ⟨xs,hm,?_⟩));show wpAny _ _ _ _ _ { s with toks:=s.toks + 1 };refine A0 (wpAny_holding (A1 (A0 (wpAny_letGo ?_))));show wpAny _ _ (if ((xs.length:Nat):Int) < 0 then _ else _) _ _ _;rw [if_neg ⋯];show wpAny _ _ (if ((xs.length:Nat):Int)≥2 ^ 63 then _ else _) _ _ _;rw [if_neg ⋯];exact A0 (wpAny_mkInt (A1 ⟨_,rfl,h⟩))
end
end PySem
namespace L2
open PySem PySem.Spec PyProof.Rows
section
variable {X:Cx}
theorem er:ce X (.builtin "len") (λ xs H Q=>∃a kvs,xs=[V.ref a]/\H a=some (.dT kvs)/\Q (.int kvs.length) H):=by intro pins s σ H xs us Q I r h;obtain ⟨a,kvs,rfl,ha,q⟩:=h;obtain ⟨u,rfl,ru⟩:=dh r;cases ru;obtain ⟨z,hd,ys,rel,dd⟩:=dW I.hok (.inl ha);have hl:kvs.length=ys.length:=C6 rel;refine CS hd dd (by rw [<- hl]; rw [sizeLine_eq] at z; omega) ?_;rw [<- hl];exact ⟨.int kvs.length,H,I.tok _,⟨_,Y⟩,q⟩
end
section
variable {X:Cx}
def yG (K:C1):R2:=λ x y H Q=>∃l b xs zs,x=.ref l/\y=.ref b/\SqL K H l xs/\SqL K H b zs/\xs.length + zs.length<=sizeLine/\∀p,H p=none->Q (.ref p) (upd H p (.lst (xs ++ zs)))
theorem rq:OpR X (binaryOp .Add) (yG X.K):=by
 intro pins s σ H x y v u Q I rx ry h;obtain ⟨l,b,xs,zs,rfl,rfl,hl,hb,hz,q⟩:=h;cases rx;cases ry;obtain ⟨its,r,pl,z⟩:=I.list hl;obtain ⟨its2,r2,pl2,z2⟩:=I.list hb;have hl1:=r.length;have hl2:=r2.length;obtain ⟨⟨cls,dd,data,sl⟩,n,ho,hc,_,hd⟩:=pl;obtain ⟨⟨cls2,dd2,data2,sl2⟩,n2,ho2,hc2,_,hd2⟩:=pl2;simp only at hc hd hc2 hd2;subst hc hd hc2 hd2;have e:its.toArray ++ its2.toArray=(its ++ its2).toArray:=by simp
 refine concat_meets ⟨_,ho,rfl⟩ ⟨_,ho2,rfl⟩ noFill_list_add seq_list_add PySem.F.slot_list_add PySem.F.entry_list_add (PySem.F.args_list_add_2 _ _) (list_addW l b its.toArray its2.toArray n n2 dd dd2 sl sl2 (by rw [List.size_toArray,List.size_toArray]; omega)) ⟨ho,ho2,?_⟩;rw [e];exact ⟨.ref _,_,I.lnew (t':=s.toks) (r.append r2) (by rw [List.length_append]; omega),Y,q _ I.fresh⟩
end
theorem iH (elt tg iter:Expr) (ifs:List Expr) (tg2 iter2:Expr) (ifs2:List Expr) (scope:Scope) (pos:Pos) (it acc:FF) (env:Env) :
  compTurn (.ListComp elt [⟨tg,iter,ifs,0⟩,⟨tg2,iter2,ifs2,0⟩] scope pos) 0 it acc env=(do
   standAt iter.pos
   match<-pyNext it with
   | none=>pure (.done .next)
   | some v =>
    letOwnedTupleGo tg it v
    assign tg env v
    let mut ok:=true
    for c in ifs do
     if ok then ok<-isTrue c env (eval c env)
    if ok then
     let x<-eval iter2 env
     standAt iter2.pos
     let x<-foldedSetIterable iter2 env x
     let i2<-holding [x] (pyIter x)
     let _<-runOwn (.compStart (.ListComp elt [⟨tg,iter,ifs,0⟩,⟨tg2,iter2,ifs2,0⟩] scope pos) 1 i2 acc env) env
    again (.compLoop (.ListComp elt [⟨tg,iter,ifs,0⟩,⟨tg2,iter2,ifs2,0⟩] scope pos) 0 it acc env)):=by rfl
theorem jr (elt tg iter:Expr) (ifs:List Expr) (tg2 iter2:Expr) (ifs2:List Expr) (scope:Scope) (pos:Pos) (it acc:FF) (env:Env) :
  compTurn (.ListComp elt [⟨tg,iter,ifs,0⟩,⟨tg2,iter2,ifs2,0⟩] scope pos) 1 it acc env=(do
   standAt iter2.pos
   match<-pyNext it with
   | none=>pure (.done .next)
   | some v =>
    letOwnedTupleGo tg2 it v
    assign tg2 env v
    let mut ok:=true
    for c in ifs2 do
     if ok then ok<-isTrue c env (eval c env)
    if ok then
     (do let _<-call (.builtin "list.append") [acc,<- eval elt env])
    again (.compLoop (.ListComp elt [⟨tg,iter,ifs,0⟩,⟨tg2,iter2,ifs2,0⟩] scope pos) 1 it acc env)):=by rfl
theorem de {prog:FC} {w:FE} {A:Around} {R:Result->FB->Prop} {s:FB} {elt tg iter tg2 iter2:Expr} {ifs ifs2:List Expr} {scope:Scope} {pos:Pos} {it acc:FF} {env:Env}
  (h0:codeAny (model prog w) A (.compLoop (.ListComp elt [⟨tg,iter,ifs,0⟩,⟨tg2,iter2,ifs2,0⟩] scope pos) 1 it acc env) R s)
  (h:wpAny (model prog w) A (pyIter it) (λ it' s'=>codeAny (model prog w) A (.compLoop (.ListComp elt [⟨tg,iter,ifs,0⟩,⟨tg2,iter2,ifs2,0⟩] scope pos) 1 it' acc env) R s')
   (notedBy (model prog w) A env λ x s'=>R (.error x) s') s) :
  codeAny (model prog w) A (.compStart (.ListComp elt [⟨tg,iter,ifs,0⟩,⟨tg2,iter2,ifs2,0⟩] scope pos) 1 it acc env) R s:=by
 refine codeAny_of_tree ?_;show wpAny _ _ ((compStart (.ListComp elt [⟨tg,iter,ifs,0⟩,⟨tg2,iter2,ifs2,0⟩] scope pos) 1 it acc env).onRaise (λ x=>do noteFrame x env; standAt theWindowsPlace)) _ _ s;refine wpAny_notedAt ?_;unfold compStart;show wpAny _ _ (ask >>= _) _ _ s;refine A0 (wpAny_askSetting (wpAny_ite ?_))
 split
 ·first
   | exact A0 (A1 (A1 (And.intro rfl h0)))
   | exact A1 (And.intro rfl h0)
 ·first
   | exact A0 (wpAny_rule (A0 (wpAny_standAt (A0 (wpAny_mono h (λ it' s' h'=>A1 (And.intro rfl h')) λ _ _ x=>x)))))
   | (refine A0 (wpAny_rule ?_); show wpAny _ _ (standAt iter2.pos >>= _) _ _ s; exact A0 (wpAny_standAt (A0 (wpAny_mono h (λ it' s' h'=>A1 (And.intro rfl h')) λ _ _ x=>x))))
def iI (σ2:St) (J:It) (g:TG) (tt:TT) (te:TE) (N:List V->Hp->Prop) (W:Nat->Nat->List V->Hp->Prop):Prop :=
 ∀i m ys H,W i m ys H->(J.stop i H/\N ys H) \/
  (J.go i H/\ys.length < sizeLine/\∀x H',J.yld i H x H'->g x σ2 H' λ σ3 H2=>leS σ2 σ3/\tt σ3 H2 λ ok H3 =>
   if ok=true then te σ3 H3 (λ v H4=>∃m',m' < m/\W (i + 1) m' (ys ++ [v]) H4) else ∃m',m' < m/\W (i + 1) m' ys H3)
def iJ (σ:St) (cap:List Nat) (k:Nat) (J:It) (g:TG) (tt:TT) (wi2:TI) (g2:TG) (tt2:TT) (te:TE) (Q:List V->Hp->Prop) (W:Nat->Nat->List V->Hp->Prop):Prop :=
 ∀i m ys H,W i m ys H->(J.stop i H/\ys.length<=sizeLine/\Q ys H) \/
  (J.go i H/\∀x H',J.yld i H x H'->g x (aU σ cap k) H' λ σ2 H2=>leS (aU σ cap k) σ2/\tt σ2 H2 λ ok H3 =>
   if ok=true then wi2 σ2 H3 (λ J2 H4=>∃W2:Nat->Nat->List V->Hp->Prop,(∃m2,W2 0 m2 ys H4)/\iI σ2 J2 g2 tt2 te (λ zs H5=>∃m',m' < m/\W (i + 1) m' zs H5) W2) else ∃m',m' < m/\W (i + 1) m' ys H3)
section
variable {X:Cx} {pins:List (Addr×Obj)} {σ:St} {H2:Hp} {s2:FB} {scope:Scope} {own cs:List Str} {cap:List Nat} {fp:List Addr} {it:Addr} {tn:Nat->Heap->Prop}
 {elt tg iter tg2 iter2:Expr} {ifs ifs2:List Expr} {pos:Pos} {J:It} {g g2:TG} {tt tt2:TT} {te:TE} {wi2:TI} {E:FF->FB->Prop} {W:Nat->Nat->List V->Hp->Prop} {Qf:List V->Hp->Prop}
theorem nh {RR:FF->Addr->Result->FB->Prop} (I:Inv X pins σ H2 s2) (ok:CompOk X scope own cs cap) (hc:X.calm=true) (T:Turn X.prog X.w X.K tg J fp it tn) (st:tn 0 s2.heap) (hf:∀b∈fp,dP X pins H2 b)
  (hg:∀C,PG (aE X pins s2 H2 scope C (own ++ cs) fp) tg g) (hi:∀C,iz (aE X pins s2 H2 scope C (own ++ cs) fp) ifs tt) (hit2:∀C,PI (aE X pins s2 H2 scope C (own ++ cs) fp) tg2 iter2 wi2) (hs2:∀C x,foldedSetIterable iter2 (compEnvC scope (aY X.env scope.names []) C X.env) x=pure x) (hg2:∀C,PG (aE X pins s2 H2 scope C (own ++ cs) fp) tg2 g2) (hi2:∀C,iz (aE X pins s2 H2 scope C (own ++ cs) fp) ifs2 tt2) (he:∀C,PE (aE X pins s2 H2 scope C (own ++ cs) fp) elt te)
  (w0:∃m,W 0 m [] H2) (turn:iJ σ cap own.length J g tt wi2 g2 tt2 te Qf W)
  (hRR:∀D C s',BlkEnd X pins σ Qf D C s'->RR (.ref D) C (.ok .next) s') :
  wpAny (model X.prog X.w) X.A (newList []) (λ acc s₃=>wpAny (model X.prog X.w) X.A (newFunctionEnv scope X.env.globals (aY X.env scope.names []) [] X.env.qual none .none (some X.env)) (λ cenv s₄ =>
   codeAny (model X.prog X.w) X.A (.compStart (.ListComp elt [⟨tg,iter,ifs,0⟩,⟨tg2,iter2,ifs2,0⟩] scope pos) 0 (.ref it) acc { cenv with scope:=relabel scope X.env }) (RR acc cenv.locals) s₄) E s₃) E s2:=by
 refine E8 (wpAny_newFunctionEnv ok.cell (by intro y hy; simp at hy) (λ h₁ hns₁ hsb₁=>?_) ok.kind);dsimp only at hns₁ hsb₁ ⊢;generalize hHH:s2.heap.push { cls:=.type "list",dict:=none,data:=.seq ([]:List FF).toArray }=HH at hns₁ hsb₁ ⊢;have hCs:HH.objs.size=s2.heap.objs.size + 1:=by rw [<- hHH,Heap.size_push]
 have hDC:s2.heap.objs.size≠HH.objs.size:=by rw [hCs]; exact B6 (E4 _)
 have hCle:s2.heap.objs.size<=HH.objs.size:=by rw [hCs]; exact Nat.le_succ _
 have hfl:∀b∈fp,b < s2.heap.objs.size:=λ b hb=>by obtain ⟨o,e,_⟩:=T.obj 0 _ st b hb;exact A6 e
 have old:∀b o,s2.heap.get? b=some o->h₁.get? b=some o:=λ b o e=>hsb₁.extBut b o (by rw [hCs]; exact B6 (Nat.lt_succ_of_lt (A6 e))) (A4 _ (hHH ▸ A4 _ e));have hacc:h₁.PlainList s2.heap.objs.size #[]:=⟨_,hsb₁.extBut _ _ hDC (A4 _ (hHH ▸ A5 _ rfl))⟩
 generalize hD:s2.heap.objs.size=D at *;generalize hCC:HH.objs.size=C at *;have hns₁':h₁.Ns C (λ _=>none):=hns₁;have I0:Inv (aE X pins s2 H2 scope C (own ++ cs) fp) [] (aU σ cap own.length) H2 { s2 with heap:=h₁,toks:=s2.toks + ([]:List (Str×FF)).length } :=
  hV I ok hf (λ b hb=>by rw [hD]; exact hfl b hb) (by rw [hD]; exact hCle) hns₁' old
 have Dfs:D∉frs X.stack:=λ hb=>by obtain ⟨_,o,ho,_⟩:=I.stack.mem hb;exact absurd (A6 ho) (by rw [hD]; exact C4 _)
 have Dfp:∀b∈fp,D≠b:=λ b hb z=>absurd (hfl b hb) (by rw [<- z]; exact C4 _);have clt:∀x c,(aY X.env scope.names []).lookup x=some c->c < D:=λ x c e=>by have e':=cq X.env scope.names [] x c (λ y hy e=>I.ok.has y.1 (ok.free y hy e)) (λ _ _ z=>by simp at z) e;obtain ⟨v,o,ho,_⟩:=I.cell x c e';have:=A6 ho;rw [hD] at this; exact this
 have plt:∀p∈X.pn ++ pins,p.1 < D:=λ p hp=>by have:=A6 (I.pin p hp).1;rw [hD] at this; exact this
 have stat:∀ {H':Hp} {ob:Obj},(∀b∈fp,H' b=none)->∀b∈fp,dP (aE X pins s2 H2 scope C (own ++ cs) fp) [(D,ob)] H' b:=λ {H' ob} hn b hb=>by
  have q:=I0.ok.exf b hb;refine ⟨hn b hb,q.1,I0.ok.exfs b hb,.inl hb,q.2,λ p hp=>?_⟩;rcases B9.mp hp with z | z
  ·exact (hf b hb).2.2.2.2.2 p z
  ·have:p=(D,ob):=by simpa using z
   subst this;exact Dfp b hb
 have loop:codeAny (model X.prog X.w) X.A (.compLoop (.ListComp elt [⟨tg,iter,ifs,0⟩,⟨tg2,iter2,ifs2,0⟩] scope pos) 0 (.ref it) (.ref D) (compEnvC scope (aY X.env scope.names []) C X.env)) (RR (.ref D) C)
   { s2 with heap:=h₁,toks:=s2.toks + ([]:List (Str×FF)).length }:=by
  obtain ⟨m0,w0⟩:=w0;refine codeAny_loop rfl (λ n s'=>∃i H' its ys,Inv (aE X pins s2 H2 scope C (own ++ cs) fp) [] (aU σ cap own.length) H' s'/\tn i s'.heap/\(∀b∈fp,H' b=none)/\s'.heap.PlainList D its.toArray/\Vals ys its/\H' D=none/\W i n ys H') ?_ m0
   ⟨0,H2,[],[],I0,T.keep 0 _ _ st λ b _ o e=>old b o e,λ b hb=>(hf b hb).1,hacc,.nil,I.hok.fresh (by rw [hD]; exact B0 _),w0⟩
  rintro n s3 ⟨i,H3,its,ys,I3,st3,fr3,⟨nn,pl3⟩,rv3,hD3,w3⟩;show wpAny _ X.A ((compTurn (.ListComp elt [⟨tg,iter,ifs,0⟩,⟨tg2,iter2,ifs2,0⟩] scope pos) 0 (.ref it) (.ref D) (compEnvC scope (aY X.env scope.names []) C X.env)).onRaise (λ x=>do noteFrame x (compEnvC scope (aY X.env scope.names []) C X.env); theTreesLotGoes x)) _ _ s3;refine wpAny_noted ?_;rw [iH];refine A0 (wpAny_standAt (A0 ?_));have I3':Inv (aE X pins s2 H2 scope C (own ++ cs) fp) [(D, { cls:=.type "list", data:=.seq its.toArray nn })] (aU σ cap own.length) H3 s3 :=
   I3.pins_of λ p hp=>by
    have:p=(D,{ cls:=.type "list",data:=.seq its.toArray nn }):=by simpa using hp
    subst this;exact ⟨pl3,hD3,hDC,Dfs,λ v z=>by cases z⟩
  rcases turn i n ys H3 w3 with ⟨stop,hz,qf⟩ | ⟨go,step⟩
  ·refine thn (T.done (aE X pins s2 H2 scope C (own ++ cs) fp) rfl rfl rfl hc i _ s3 _ H3 _ I3' (stat fr3) st3 stop) λ r s4 ⟨hr,I4⟩=>?_;subst hr;refine A1 (hRR D C s4 ⟨⟨ys,H3,hD3,qf,?_,?_⟩,?_⟩)
   ·have pl4:=(I4.pin (D,_) (A2 _ (C5.mpr rfl))).1;have u4:=I4.base;have Ds2:s2.heap.get? D=none:=Heap.get?_none_of_le (by rw [hD]; exact B0 _);refine I.call' (s':=s4) (ch:=fp) I4.os ⟨u4.keep,u4.slot,λ b o e n hx=>?_,u4.there,λ b xs e=>?_,λ b o u e=>?_,λ b ps e=>?_⟩ ?_ I4.bare λ b hb=>⟨(hf b hb).2.2.2.1,(hf b hb).2.1,(hf b hb).2.2.2.2.1,(hf b hb).2.2.2.2.2⟩
    ·rw [aj (λ z=>by rw [z,Ds2] at e; cases e)];exact u4.free b o e n hx
    ·have:=u4.tups b xs e;rw [aj (ah this hD3)]; exact this
    ·have:=u4.frzs b o u e;rw [aj (ah this hD3)]; exact this
    ·obtain ⟨more,e'⟩:=u4.tbls b ps e;exact ⟨more,by rw [aj (ah e' hD3)]; exact e'⟩
    ·exact I4.hok.add hD3 ⟨hz,its,nn,rv3,pl4⟩
   ·have CH:(upd H3 D (.lst ys)) C=none:=by rw [aj (Ne.symm hDC)]; exact I4.free
    exact I.fpOk (H':=upd H3 D (.lst ys)) (by rw [hD]; exact hCle) CH
   ·obtain ⟨m,hn,_⟩:=I4.loc;exact ⟨m,hn⟩
  ·refine thn (T.item (aE X pins s2 H2 scope C (own ++ cs) fp) rfl rfl rfl hc i _ s3 _ H3 _ I3' (stat fr3) st3 go) λ r s4 ⟨u,hr,h4⟩=>?_;subst hr;refine A0 (thn h4 λ _ s5 ⟨x,H5,I5,r5,y5,st5,fr5⟩=>?_);have I5':=I5.pinned (stat fr5) (T.obj _ _ st5);refine A0 (wpAny_mono (hg C _ s5 _ H5 x u _ I5' r5 (step x H5 y5)) (λ _ s6 ⟨σ6,H6,I6,le6,q6⟩=>?_) λ _ _ z=>E1 z);refine A0 (wpAny_mono (hi C _ s6 σ6 H6 _ I6 q6) (λ b s7 ⟨H7,I7,q7⟩=>?_) λ _ _ z=>E1 z);have back:∀ {pins':List (Addr×Obj)} {H8:Hp} {s8:FB},Inv (aE X pins s2 H2 scope C (own ++ cs) fp) pins' σ6 H8 s8->Inv (aE X pins s2 H2 scope C (own ++ cs) fp) [] (aU σ cap own.length) H8 s8:=λ I8 =>
    I8.bareP.weak le6.1.symm λ i v e=>le6.2 i v e
   cases b with
   | false =>
    rw [if_neg Bool.false_ne_true] at q7;obtain ⟨m',hm,w7⟩:=q7;refine A1 ⟨rfl,m',hm,i + 1,H7,its,ys,back I7,T.keep _ _ _ st5 λ b hb o e=>?_,λ b hb=>?_,⟨nn,?_⟩,rv3,?_,w7⟩
    ·exact (I7.pin (b,o) (A2 _ (A2 _ (aM hb e)))).1
    ·obtain ⟨o,e,d⟩:=T.obj _ _ st5 b hb;exact (I7.pin (b,o) (A2 _ (A2 _ (aM hb e)))).2.1
    ·exact (I7.pin (D,_) (A2 _ (B3 _ (C5.mpr rfl)))).1
    ·exact (I7.pin (D,_) (A2 _ (B3 _ (C5.mpr rfl)))).2.1
   | true =>
    rw [if_pos rfl] at q7;obtain ⟨P5,hP5⟩:∃P5,gh fp s5.heap=P5:=⟨_,Y⟩
    have P5f:∀p∈P5,p.1∈fp:=λ p hp=>by rw [<- hP5] at hp; exact (gY hp).1
    refine A0 (wpAny_mono (hit2 C _ s7 σ6 H7 _ I7 q7) (λ xv s8 h8=>?_) λ _ _ z=>E1 z);refine A0 (wpAny_standAt (A0 (wpAny_of_eq (hs2 C xv) ?_)));refine A0 (wpAny_holding (wpAny_mono h8 (λ itv s9 h9=>?_) λ _ _ z=>E1 z));obtain ⟨it2,fp2,tn2,J2,H9,e9,I9,T2,st9,f9,W2,⟨m2,w20⟩,turn2⟩:=h9;subst e9;have D2:∀b∈fp2,D≠b:=λ b hb=>(f9 b hb).2.2.2.2.2 (D,{ cls:=.type "list",data:=.seq its.toArray nn }) (A2 _ (B3 _ (C5.mpr rfl)));have p2:∀b∈fp2,∀p∈P5,p.1≠b:=λ b hb p hp=>(f9 b hb).2.2.2.2.2 p (A2 _ (A2 _ (by rw [hP5]; exact hp)));have stat2:∀ {H':Hp} {ob:Obj},(∀b∈fp2,H' b=none)->∀b∈fp2,dP (aE X pins s2 H2 scope C (own ++ cs) fp) (P5 ++ [(D,ob)]) H' b:=λ {H' ob} hn b hb=>by
     have q:=f9 b hb;refine ⟨hn b hb,q.2.1,q.2.2.1,q.2.2.2.1,q.2.2.2.2.1,λ p hp=>?_⟩;rcases B9.mp hp with z | z
     ·exact q.2.2.2.2.2 p (B3 _ z)
     ·rcases B9.mp z with z | z
      ·exact p2 b hb p z
      ·have:p=(D,ob):=by simpa using z
       subst this;exact D2 b hb
    have pD9:=I9.pin (D,{ cls:=.type "list",data:=.seq its.toArray nn }) (A2 _ (B3 _ (C5.mpr rfl)));have I9':Inv (aE X pins s2 H2 scope C (own ++ cs) fp) P5 σ6 H9 s9:=I9.pins_of λ p hp=>I9.pin p (A2 _ (A2 _ (by rw [hP5]; exact hp)));have inner:∀ (R2:Result->FB->Prop),(∀s',(∃m' G its ys,m' < n/\Inv (aE X pins s2 H2 scope C (own ++ cs) fp) [] (aU σ cap own.length) G s'/\tn (i + 1) s'.heap/\(∀b∈fp,G b=none)/\s'.heap.PlainList D its.toArray/\Vals ys its/\G D=none/\W (i + 1) m' ys G)->R2 (.ok .next) s')->∀ (s':FB),(∃i H' its ys,Inv (aE X pins s2 H2 scope C (own ++ cs) fp) P5 σ6 H' s'/\tn2 i s'.heap/\(∀b∈fp2,H' b=none)/\s'.heap.PlainList D its.toArray/\Vals ys its/\H' D=none/\∃m,W2 i m ys H')->codeAny (model X.prog X.w) X.A (.compLoop (.ListComp elt [⟨tg,iter,ifs,0⟩,⟨tg2,iter2,ifs2,0⟩] scope pos) 1 (.ref it2) (.ref D) (compEnvC scope (aY X.env scope.names []) C X.env)) R2 s':=by
     rintro R2 hR2 s' ⟨i',H',its',ys',J1,J2',J3,J4,J5,J6,m',J7⟩;refine codeAny_loop rfl (λ n s'=>∃i H' its ys,Inv (aE X pins s2 H2 scope C (own ++ cs) fp) P5 σ6 H' s'/\tn2 i s'.heap/\(∀b∈fp2,H' b=none)/\s'.heap.PlainList D its.toArray/\Vals ys its/\H' D=none/\W2 i n ys H') ?_ m' ⟨i',H',its',ys',J1,J2',J3,J4,J5,J6,J7⟩;clear J1 J2' J3 J4 J5 J6 J7;clear i' H' its' ys' m' s';rintro n2 t3 ⟨j,G3,jts,zs,J3,tt3,fr3',⟨mm,pl3'⟩,rv3',hD3',w3'⟩;show wpAny _ X.A ((compTurn (.ListComp elt [⟨tg,iter,ifs,0⟩,⟨tg2,iter2,ifs2,0⟩] scope pos) 1 (.ref it2) (.ref D) (compEnvC scope (aY X.env scope.names []) C X.env)).onRaise (λ x=>do noteFrame x (compEnvC scope (aY X.env scope.names []) C X.env); theTreesLotGoes x)) _ _ t3;refine wpAny_noted ?_;rw [jr];refine A0 (wpAny_standAt (A0 ?_));have J3':Inv (aE X pins s2 H2 scope C (own ++ cs) fp) (P5 ++ [(D, { cls:=.type "list", data:=.seq jts.toArray mm })]) σ6 G3 t3 :=
      J3.pins_of λ p hp=>by
       rcases B9.mp hp with z | z
       ·exact J3.pin p (A2 _ z)
       ·have:p=(D,{ cls:=.type "list",data:=.seq jts.toArray mm }):=by simpa using z
        subst this;exact ⟨pl3',hD3',hDC,Dfs,λ v z=>by cases z⟩
     rcases turn2 j n2 zs G3 w3' with ⟨stop2,qf2⟩ | ⟨go2,hz2,step2⟩
     ·refine thn (T2.done (aE X pins s2 H2 scope C (own ++ cs) fp) rfl rfl rfl hc j _ t3 _ G3 _ J3' (stat2 fr3') tt3 stop2) λ r t4 ⟨hr,J4⟩=>?_;subst hr;obtain ⟨mo,hmo,wo⟩:=qf2;have pD4:=J4.pin (D,{ cls:=.type "list",data:=.seq jts.toArray mm }) (A2 _ (A2 _ (C5.mpr rfl)));refine A1 (hR2 _ ⟨mo,G3,jts,zs,hmo,back J4,T.keep _ _ _ st5 λ b hb o e=>?_,λ b hb=>?_,⟨mm,pD4.1⟩,rv3',pD4.2.1,wo⟩)
      ·exact (J4.pin (b,o) (A2 _ (B3 _ (by rw [<- hP5]; exact aM hb e)))).1
      ·obtain ⟨o,e,d⟩:=T.obj _ _ st5 b hb;exact (J4.pin (b,o) (A2 _ (B3 _ (by rw [<- hP5]; exact aM hb e)))).2.1
     ·refine thn (T2.item (aE X pins s2 H2 scope C (own ++ cs) fp) rfl rfl rfl hc j _ t3 _ G3 _ J3' (stat2 fr3') tt3 go2) λ r t4 ⟨u2,hr,h4'⟩=>?_;subst hr;refine A0 (thn h4' λ _ t5 ⟨x2,G5,J5,r5',y5',st5',fr5'⟩=>?_);have J5':=J5.pinned (stat2 fr5') (T2.obj _ _ st5');refine A0 (wpAny_mono (hg2 C _ t5 _ G5 x2 u2 _ J5' r5' (step2 x2 G5 y5')) (λ _ t6 ⟨σ7,G6,J6,le7,q7'⟩=>?_) λ _ _ z=>E1 z);refine A0 (wpAny_mono (hi2 C _ t6 σ7 G6 _ J6 q7') (λ b2 t7 ⟨G7,J7,q8'⟩=>?_) λ _ _ z=>E1 z);have back2:∀ {pins':List (Addr×Obj)} {G8:Hp} {t8:FB},Inv (aE X pins s2 H2 scope C (own ++ cs) fp) (P5 ++ pins') σ7 G8 t8->Inv (aE X pins s2 H2 scope C (own ++ cs) fp) P5 σ6 G8 t8:=λ J8 =>
       (J8.pins_of λ p hp=>J8.pin p (A2 _ (B3 _ hp))).weak le7.1.symm λ i v e=>le7.2 i v e
      cases b2 with
      | false =>
       rw [if_neg Bool.false_ne_true] at q8';obtain ⟨m',hm,w7⟩:=q8';rw [List.append_assoc] at J7;refine A1 ⟨rfl,m',hm,j + 1,G7,jts,zs,back2 J7,T2.keep _ _ _ st5' λ b hb o e=>?_,λ b hb=>?_,⟨mm,?_⟩,rv3',?_,w7⟩
       ·exact (J7.pin (b,o) (A2 _ (A2 _ (A2 _ (aM hb e))))).1
       ·obtain ⟨o,e,d⟩:=T2.obj _ _ st5' b hb;exact (J7.pin (b,o) (A2 _ (A2 _ (A2 _ (aM hb e))))).2.1
       ·exact (J7.pin (D,_) (A2 _ (A2 _ (B3 _ (C5.mpr rfl))))).1
       ·exact (J7.pin (D,_) (A2 _ (A2 _ (B3 _ (C5.mpr rfl))))).2.1
      | true =>
       rw [if_pos rfl] at q8';refine A0 (A0 (wpAny_mono (he C _ t7 σ7 G7 _ J7 q8') (λ y2 t8 ⟨v2,G8,J8,r8',m',hm,w8⟩=>?_) λ _ _ z=>E1 z));rw [List.append_assoc] at J8;have pD:=J8.pin (D,{ cls:=.type "list",data:=.seq jts.toArray mm }) (A2 _ (A2 _ (B3 _ (C5.mpr rfl))));have hlen:=rv3'.length;refine A0 (wpAny_list_append_plain (hsz:=by rw [List.size_toArray]; omega) ⟨mm,pD.1⟩ λ h9 pl9 sb9=>A1 (A1 ?_));have J8':=back2 J8;refine ⟨Y,m',hm,j + 1,G8,jts ++ [y2],zs ++ [v2],?_,T2.keep _ _ _ st5' λ b hb o e=>?_,λ b hb=>?_,?_,rv3'.append (.cons r8' .nil),pD.2.1,w8⟩
       ·exact J8'.turned (t':=t8.toks) (λ b o hb e=>sb9.extBut b o hb e) pD.2.1 hDC (.inr (by show s2.heap.objs.size<=D; rw [hD]; exact B0 _)) (λ x c e=>B6 (clt x c e)) λ p hp=>by
         have hp':p∈(X.pn ++ pins) ++ P5:=hp;rcases B9.mp hp' with z | z
         ·exact B6 (plt p z)
         ·exact Ne.symm (Dfp p.1 (P5f p z))
       ·exact sb9.extBut b o (Ne.symm (D2 b hb)) (J8.pin (b,o) (A2 _ (A2 _ (A2 _ (aM hb e))))).1
       ·obtain ⟨o,e,d⟩:=T2.obj _ _ st5' b hb;exact (J8.pin (b,o) (A2 _ (A2 _ (A2 _ (aM hb e))))).2.1
       ·have e:jts.toArray.push y2=(jts ++ [y2]).toArray:=by simp
        rw [<- e]; exact pl9
    have stt:∃i H' its ys,Inv (aE X pins s2 H2 scope C (own ++ cs) fp) P5 σ6 H' s9/\tn2 i s9.heap/\(∀b∈fp2,H' b=none)/\s9.heap.PlainList D its.toArray/\Vals ys its/\H' D=none/\∃m,W2 i m ys H':=⟨0,H9,its,ys,I9',st9,λ b hb=>(f9 b hb).1,⟨nn,pD9.1⟩,rv3,pD9.2.1,m2,w20⟩
    have dj:∀ (R2:Result->FB->Prop),(∀s',(∃m' G its ys,m' < n/\Inv (aE X pins s2 H2 scope C (own ++ cs) fp) [] (aU σ cap own.length) G s'/\tn (i + 1) s'.heap/\(∀b∈fp,G b=none)/\s'.heap.PlainList D its.toArray/\Vals ys its/\G D=none/\W (i + 1) m' ys G)->R2 (.ok .next) s')->codeAny (model X.prog X.w) X.A (.compStart (.ListComp elt [⟨tg,iter,ifs,0⟩,⟨tg2,iter2,ifs2,0⟩] scope pos) 1 (.ref it2) (.ref D) (compEnvC scope (aY X.env scope.names []) C X.env)) R2 s9:=λ R2 hR2 =>
     de (inner R2 hR2 s9 stt) (T2.self _ 0 _ _ _ st9 (inner R2 hR2 s9 stt))
    refine A0 (wpAny_runOwn (dj _ ?_));rintro s' ⟨m',G,its,ys,hm,c1,c2,c3,c4,c5,c6,c7⟩;exact A1 ⟨rfl,m',hm,i + 1,G,its,ys,c1,c2,c3,c4,c5,c6,c7⟩
 exact codeAny_compStart_list loop (T.self _ 0 _ _ _ (T.keep 0 _ _ st λ b _ o e=>old b o e) loop)
def uu (wi:TI) (cap:List Nat) (k:Nat) (g:TG) (tt:TT) (wi2:TI) (g2:TG) (tt2:TT) (te:TE):TE:=λ σ H Q=>wi σ H λ J H1 =>
 ∃W:Nat->Nat->List V->Hp->Prop,(∃m,W 0 m [] H1)/\iJ σ cap k J g tt wi2 g2 tt2 te (λ ys H'=>∀p,H' p=none->Q (.ref p) (upd H' p (.lst ys))) W
theorem pj {wi:TI} (hc:X.calm=true) (hit:PI X tg iter wi) (ok:CompOk X scope own cs cap)
  (hg:∀pins s2 H2 C fp,PG (aE X pins s2 H2 scope C (own ++ cs) fp) tg g) (hi:∀pins s2 H2 C fp,iz (aE X pins s2 H2 scope C (own ++ cs) fp) ifs tt)
  (hit2:∀pins s2 H2 C fp,PI (aE X pins s2 H2 scope C (own ++ cs) fp) tg2 iter2 wi2) (hg2:∀pins s2 H2 C fp,PG (aE X pins s2 H2 scope C (own ++ cs) fp) tg2 g2) (hi2:∀pins s2 H2 C fp,iz (aE X pins s2 H2 scope C (own ++ cs) fp) ifs2 tt2)
  (he:∀pins s2 H2 C fp,PE (aE X pins s2 H2 scope C (own ++ cs) fp) elt te)
  (hs:∀x,foldedSetIterable iter X.env x=pure x:=by intro _; rfl) (hs2:∀C x,foldedSetIterable iter2 (compEnvC scope (aY X.env scope.names []) C X.env) x=pure x:=by intro _ _; rfl):PE X (.ListComp elt [⟨tg,iter,ifs,0⟩,⟨tg2,iter2,ifs2,0⟩] scope pos) (uu wi cap own.length g tt wi2 g2 tt2 te):=by
 intro pins s σ H Q I h;rw [eval_ListComp];refine wpAny_comprehension_free (use:=none) rfl hs (eh λ y hy e=>I.ok.has y.1 (ok.free y hy e)) ok.kind ok.names (thn (hit pins s σ H _ I h) λ v s1 h1=>thn h1 λ itv s2 h2=>?_);obtain ⟨it,fp,tn,J,H2,e,I2,T,st2,f2,W,w0,turn⟩:=h2;subst e;refine nh (RR:=λ acc C=>compPost (model X.prog X.w) X.A X.xe none (EP X pins σ Q) acc C) I2 ok hc T st2 f2 (λ C=>hg _ _ _ _ _) (λ C=>hi _ _ _ _ _) (λ C=>hit2 _ _ _ _ _) hs2 (λ C=>hg2 _ _ _ _ _) (λ C=>hi2 _ _ _ _ _) (λ C=>he _ _ _ _ _) w0 turn λ D C s' B=>?_;obtain ⟨⟨ys,H',hD,q,I',fp'⟩,m,hn⟩:=B;obtain ⟨f0,f1,f2',f3,f4,f5⟩:=fp';exact ⟨m,hn,λ h' sb=>⟨.ref D,_,I'.turned (t':=s'.toks) (λ b o hb e=>sb.extBut b o hb e) f0 f1 f3 f4 f5,Y,q D hD⟩⟩
end
end L2
namespace PySem
open Sem (wp)
section
variable {prog:FC} {w:FE} {A:Around} {E:FF->FB->Prop} {s:FB}
theorem ez {d:Addr} {es:Array DictEntry} {ep:Nat} {Q:FF->FB->Prop} (hd:(d == sysModules)=false) (hm:(∃o,s.heap.get? d=some o/\o.ExactDict/\o.data=.dict es ep))
  (hQ:Q (.ref s.heap.objs.size) { s with heap:=s.heap.push { cls:=.type "dict_keyiterator",data:=.fields #[.ref d,.int 0 0,.int es.size 0,.int ep 0] } }) :
  wpAny (model prog w) A (pyIter (.ref d)) Q E s:=by
 obtain ⟨o,ho,hc,hdat⟩:=id hm;have hT:s.TypeIs (.ref d) "dict" := ⟨_,ho,hc.1⟩
 refine wpAny_pyIter_slot hT F.slot_dict_iter (E7 F.slot_dict_iter hT F.entry_dict_iter ?_ (F.args_dict_iter_1 _));unfold Builtin.«dict.__iter__»;refine A0 ?_;unfold Builtin.Dict.dictSlotNone;refine A0 (wpAny_notOrdered_dict hT ?_);show wpAny _ _ (pure (Value.ref d)) _ _ s;refine A1 ?_;show wpAny _ _ (Builtin.Dict.showsAll d >>= _) _ _ s;unfold Builtin.Dict.showsAll;rw [if_neg (by rw [hd]; exact Bool.false_ne_true)];refine A0 (A1 ?_);refine A0 (wpAny_dictEntries ho hdat ?_);refine A0 (wpAny_dictEpoch ho hdat ?_);have hsz:es.size=es.size:=rfl;refine A0 (E8 (A1 ⟨_,rfl,"dict_keyiterator",_,⟨_,A5 _ rfl,rfl⟩,F.slot_dict_keyiterator_next.lookup,?_⟩));simpa [rawInt,hsz] using hQ
theorem cM {it d:Addr} {i ep:Nat} {es:Array DictEntry} {en:DictEntry} {Q:Option FF->FB->Prop} (hit:s.heap.IsKeyIter it d i es.size ep)
  (hm:(∃o,s.heap.get? d=some o/\o.ExactDict/\o.data=.dict es ep)) (hx:es[i]? = some en)
  (hQ:∀h',h'.IsKeyIter it d (i + 1) es.size ep->Heap.SameBut it s.heap h'->Q (some en.key) { s with heap:=h' }) :
  wpAny (model prog w) A (pyNext (.ref it)) Q E s:=by
 obtain ⟨o,ho,hc,hd⟩:=id hit;obtain ⟨od,hod,hcd,hdd⟩:=id hm;unfold pyNext;refine A0 (wpAny_attempt (wpAny_callSpecial?_slot (name:=Str.ofString "__next__") hit.typeIs F.slot_dict_keyiterator_next
  (E7 F.slot_dict_keyiterator_next hit.typeIs F.entry_dict_keyiterator_next ?_ (F.args_dict_keyiterator_next_1 _))))
 refine A0 (A1 ?_);refine A0 ?_;refine A0 ?_
 first | refine A0 (wpAny_typeNameOfWhole_keyiter hit.typeIs (A1 ?_)) | refine A0 (wpAny_typeNameOf_keyiter hit.typeIs (A1 ?_))
 refine A0 (wpAny_fieldsOf ho hd ?_);have hown:Builtin.Dict_items.ownsTuple "dict_keyiterator" = false:=∅
 simp only [hown,Bool.false_eq_true,if_false];show wpAny _ _ (if (Value.ref d == Value.none)=true then _ else _) _ _ s;rw [if_neg (show ¬ ((Value.ref d == Value.none)=true) from Bool.false_ne_true)];refine A0 (A1 ?_);refine A0 (wpAny_dictEntries hod hdd ?_);have hsz:es.size=es.size:=rfl;rw [if_neg (by simp)];refine A0 (A1 ?_);refine A0 (wpAny_dictEpoch hod hdd ?_);rw [if_neg (by simp)];refine A1 ?_;have hlt:i < es.size:=by
  rcases Nat.lt_or_ge i es.size with h | h
  ·exact h
  ·rw [Array.getElem?_eq_none h] at hx; cases hx
 have hlt':i < es.size:=by rw [hsz]; exact hlt
 have hkey:es[i]=en:=by rw [Array.getElem?_eq_getElem hlt'] at hx; exact B5 hx
 simp only [show ¬ ((i:Int) < 0) from by omega,if_false,Int.toNat_natCast,Array.getElem?_eq_getElem hlt'];refine A0 ?_
 first | refine A0 (wpAny_typeNameOfWhole_keyiter hit.typeIs (A1 ?_)) | refine A0 (wpAny_typeNameOf_keyiter hit.typeIs (A1 ?_))
 refine A0 (wpAny_isOneOf_keyiter hit.typeIs ?_);show wpAny _ _ (setField (.ref it) 1 (rawInt ((i:Int) + 1)) >>= _) _ _ s;refine A0 (wpAny_setField ho hd (by simp) ?_);have hit':(s.heap.update it (Obj.mapFields (·.setIfInBounds 1 (rawInt ((i:Int) + 1))))).IsKeyIter it d (i + 1) es.size ep :=
  ⟨_,Heap.get?_update_self _ ho (Obj.isFreed_of_fields (Obj.data_mapFields hd _)),(Obj.cls_mapFields ..).trans hc,by rw [Obj.data_mapFields hd]; simp [rawInt]⟩
 refine A0 (wpAny_holding ?_);refine A0 (wpAny_isOneOf_keyiter (s:={ s with heap:=s.heap.update it (Obj.mapFields (·.setIfInBounds 1 (rawInt ((i:Int) + 1)))) }) hit'.typeIs ?_);show wpAny _ _ (pure es[i].key) _ _ _;exact A1 (A1 ⟨_,rfl,A1 (by rw [hkey]; exact hQ _ hit' (Heap.SameBut.update ..))⟩)
theorem cU {it d:Addr} {i ep:Nat} {es:Array DictEntry} {Q:Option FF->FB->Prop} (hh:A.handled=none) (hit:s.heap.IsKeyIter it d i es.size ep)
  (hm:(∃o,s.heap.get? d=some o/\o.ExactDict/\o.data=.dict es ep)) (hx:es[i]? = none)
  (hQ:∀h',Heap.ExtBut it s.heap h'->Q none { s with heap:=h' }):wpAny (model prog w) A (pyNext (.ref it)) Q E s:=by
 obtain ⟨o,ho,hc,hd⟩:=id hit;obtain ⟨od,hod,hcd,hdd⟩:=id hm;unfold pyNext;refine A0 (wpAny_attempt (wpAny_callSpecial?_slot (name:=Str.ofString "__next__") hit.typeIs F.slot_dict_keyiterator_next
  (E7 F.slot_dict_keyiterator_next hit.typeIs F.entry_dict_keyiterator_next ?_ (F.args_dict_keyiterator_next_1 _))))
 refine A0 (A1 ?_);refine A0 ?_;refine A0 ?_
 first | refine A0 (wpAny_typeNameOfWhole_keyiter hit.typeIs (A1 ?_)) | refine A0 (wpAny_typeNameOf_keyiter hit.typeIs (A1 ?_))
 refine A0 (wpAny_fieldsOf ho hd ?_);have hown:Builtin.Dict_items.ownsTuple "dict_keyiterator" = false:=∅
 simp only [hown,Bool.false_eq_true,if_false];show wpAny _ _ (if (Value.ref d == Value.none)=true then _ else _) _ _ s;rw [if_neg (show ¬ ((Value.ref d == Value.none)=true) from Bool.false_ne_true)];refine A0 (A1 ?_);refine A0 (wpAny_dictEntries hod hdd ?_);have hsz:es.size=es.size:=rfl;rw [if_neg (by simp)];refine A0 (A1 ?_);refine A0 (wpAny_dictEpoch hod hdd ?_);rw [if_neg (by simp)];refine A1 ?_;have hge:es.size<=i:=by simpa using hx
 simp only [show ¬ ((i:Int) < 0) from by omega,if_false,Int.toNat_natCast,Array.getElem?_eq_none hge];refine A0 ?_
 first | refine A0 (wpAny_typeNameOfWhole_keyiter hit.typeIs (A1 ?_)) | refine A0 (wpAny_typeNameOf_keyiter hit.typeIs (A1 ?_))
 show wpAny _ _ (setField (.ref it) 0 .none >>= _) _ _ s;refine A0 (wpAny_setField ho hd (by simp) ?_);show wpAny _ _ (newExc (.type "StopIteration") [] >>= _) _ _ _;refine A0 ?_;simp only [newExc,newTuple];refine A0 (E8 ?_ (by size_fits));refine A0 (m:=firstArgMember _ _) (wpAny_of_eq (a:=Value.none) (by first | rfl | (simp only [firstArgMember]; rfl)) ?_);refine E8 ?_ (by size_fits);simp only [raiseNew];refine A0 (wpAny_handled ?_);rw [show A.in1.handled=none from hh];refine A0 (A1 (wpAny_throw ?_));refine A0 (wpAny_isInstance (T := "StopIteration") (b:=true) ⟨_,A5 _ rfl,rfl⟩ isSubtype_stop ?_);exact A1 (hQ _ (((Heap.SameBut.update ..).extBut.push _).push _))
end
end PySem
namespace L2
open PySem PySem.Spec PyProof.Rows
def Itd (a:Addr) (ob:Obj) (kvs:List (List Key×V)):It :=
 ⟨λ i H=>i < kvs.length/\H a=some (.frz ob (.dT kvs)),λ i H x H'=>H'=H/\∃q k v,kvs[i]? = some (k,v)/\x=.ref q/\H q= ~~~(k.map kV),λ i H=>i=kvs.length/\H a=some (.frz ob (.dT kvs))⟩
theorem dq {α β:Type} {F:α->β->Prop}:∀ {l₁:List α} {l₂:List β} {i:Nat} {x:α},Paired F l₁ l₂->l₁[i]? = some x->∃y,l₂[i]? = some y/\F x y
 | _,_,0,_,.cons h _,e=>⟨_,Y,by cases e; exact h⟩
 | _,_,i + 1,_,.cons _ r,e=>dq (i:=i) r (by simpa using e)
 | _,_,_,_,.nil,e=>by simp at e
theorem js {α β:Type} {F G:α->β->Prop}:∀ {l₁:List α} {l₂:List β},Paired F l₁ l₂->(∀x y,F x y->G x y)->Paired G l₁ l₂
 | _,_,.nil,_=>.nil
 | _,_,.cons h r,f=>.cons (f _ _ h) (js r f)
theorem cN {α β:Type} {F:α->β->Prop}:∀ {l₁:List α} {l₂:List β},Paired F l₁ l₂->l₁.length=l₂.length
 | _,_,.nil=>rfl
 | _,_,.cons _ r=>by rw [List.length_cons,List.length_cons,cN r]
theorem kj {P:FC} {w:FE} {K:C1} {tg:Expr} (a it:Addr) (ob:Obj) (kvs:List (List Key×V)) (es:Array DictEntry) (ep:Nat) (hx:ob.ExactDict) (hd:ob.data=.dict es ep) (hn:es.size=kvs.length) :
  Turn P w K tg (Itd a ob kvs) [it] it (λ i h=>h.IsKeyIter it a i es.size ep) where
 mem:=by simp
 obj:=λ i h st b hb=>by
  have e:b=it:=by simpa using hb
  subst e;obtain ⟨o,e,c,d⟩:=st;exact ⟨o,e,λ v z=>by rw [d] at z; cases z⟩
 keep:=λ i h h' st k=>st.at λ o e=>k it (by simp) o e
 item:=by
  intro X hP hw hK hc i pins s σ H E I hf st hg;subst hP hw hK;obtain ⟨hi,hH⟩:=hg;obtain ⟨h1,_,_,xs,pr,o,es',ep',h2,_,h3,h4,_⟩:=(show ObjOk X.prog X.w H s.heap a (.frz ob (.dT kvs)) from I.hok a _ hH)
  rw [h1] at h2;cases h2;rw [hd] at h3;cases h3;have hk:kvs[i]? = some kvs[i]:=E5 hi;obtain ⟨⟨k',q,v'⟩,hy,e1,e2,e3⟩:=dq pr hk;have hen:es[i]? = some (entryOfKey (tupleKind (ax X.prog X.w)) (k',q,v')):=by rw [<- Array.getElem?_toList,h4,List.getElem?_map,hy]; rfl
  obtain ⟨f0,f1,f2,f3,f4,f5⟩:=hf it (by simp);refine cM st ⟨ob,h1,hx,hd⟩ hen λ h' st' sb=>?_;have I1:Inv X pins σ H { s with heap:=h' }:=I.turned (t':=s.toks) (λ b o hb e=>(sb.2 b hb).trans e) f0 f1 f3 f4 f5;obtain ⟨o,e,c,d⟩:=id st';exact ⟨_,Y,lG (s:={ s with heap:=h' }) e c d ∅ ⟨.ref q,H,I1,Y,⟨Y,q,kvs[i].1,kvs[i].2,hk,Y,e2⟩,st',λ b hb=>(hf b hb).1⟩⟩
 done:=by
  intro X hP hw hK hc i pins s σ H E I hf st hg;subst hP hw hK;obtain ⟨hi,hH⟩:=hg;obtain ⟨h1,_⟩:=(show ObjOk X.prog X.w H s.heap a (.frz ob (.dT kvs)) from I.hok a _ hH)
  obtain ⟨f0,f1,f2,f3,f4,f5⟩:=hf it (by simp);exact cU (I.ok.hd hc) st ⟨ob,h1,hx,hd⟩ (by rw [Array.getElem?_eq_none]; omega) λ h' eb=>⟨Y,I.turned (t':=s.toks) (λ b o hb e=>eb b o hb e) f0 f1 f3 f4 f5⟩
 self:=λ _ _ _ _ _ st h=>wpAny_pyIter_keyiter st h
section
variable {X:Cx} {tg:Expr}
def uv (tl:TE):TI:=λ σ H R=>tl σ H λ x H1=>∃a kvs,x=.ref a/\H1 a=some (.dT kvs)/\∀ob,R (Itd a ob kvs) (upd H1 a (.frz ob (.dT kvs)))
theorem pp {l:Expr} {tl:TE} (hl:PE X l tl):PI X tg l (uv tl):=by
 intro pins s σ H R I h;refine thn (hl pins s σ H _ I h) λ v s1 ⟨x,H1,I1,r1,q1⟩=>?_;obtain ⟨a,kvs,e,hH,q⟩:=q1;subst e;cases r1;obtain ⟨hz,hs,xs,pr,o,es,ep,h1,h2,h3,h4,h5⟩:=(show ObjOk X.prog X.w H1 s1.heap a (.dT kvs) from I1.hok a _ hH)
 have hn:es.size=kvs.length:=by rw [cN pr,<- Array.length_toList,h4,List.length_map]
 have I2:Inv X pins σ (upd H1 a (.frz o (.dT kvs))) s1:=by
  have:=I1.write (x:=a) (e:=a) (o:=.frz o (.dT kvs)) (h':=s1.heap) (t':=s1.toks) (by rw [hH]; trivial) (.inl rfl) (λ b u _ e=>e) ⟨o,h1⟩ ⟨h1,hz,hs,xs,?_,o,es,ep,h1,h2,h3,h4,h5⟩
  ·exact this
  ·refine js pr λ p q ⟨e1,e2,e3⟩=>⟨e1,?_,e3⟩
   rw [aj (λ z=>by rw [z,hH] at e2; cases e2)];exact e2
 refine ez hs ⟨o,h1,h2,h3⟩ ?_;refine ⟨s1.heap.objs.size,[s1.heap.objs.size],_,_,_,Y,I2.kept (t':=s1.toks) λ b o e=>A4 _ e,kj a _ o kvs es ep h2 h3 hn,⟨_,A5 _ rfl,Y,Y⟩,λ b hb=>?_,q o⟩;have e:b=s1.heap.objs.size:=by simpa using hb
 subst e;exact I2.fpOk (B0 _) (I2.hok.fresh (B0 _))
end
theorem ni {lo:Int} {n:Nat} {σ:St} {cap:List Nat} {k:Nat} {g g2:TG} {tt tt2:TT} {te:TE} {wi2:TI} {Q:List V->Hp->Prop} {H:Hp} (Pv:Nat->List V->Hp->Prop) (h0:Pv 0 [] H)
  (ht:∀i ys H',i < n->Pv i ys H'->g (.int (lo + i)) (aU σ cap k) H' λ σ2 H2=>leS (aU σ cap k) σ2/\tt σ2 H2 λ ok H3=>if ok=true then wi2 σ2 H3 (λ J2 H4=>∃W2:Nat->Nat->List V->Hp->Prop,(∃m2,W2 0 m2 ys H4)/\iI σ2 J2 g2 tt2 te (λ zs H5=>Nx n Pv i zs H5) W2) else Nx n Pv i ys H3)
  (hd:∀ys H',Pv n ys H'->ys.length<=sizeLine/\Q ys H'):∃W,(∃m,W 0 m [] H)/\iJ σ cap k (Itr lo n) g tt wi2 g2 tt2 te Q W:=by
 refine ⟨λ i m ys H'=>m=n - i/\i<=n/\Pv i ys H',⟨_,Y,E2 _,h0⟩,?_⟩;rintro i m ys H' ⟨rfl,hi,p⟩
 by_cases hin:i < n
 ·refine .inr ⟨hin,λ x H2 yl=>?_⟩;obtain ⟨e1,e2⟩:=yl;subst e1 e2;exact ht i ys _ hin p
 ·have e:i=n:=⋯
  subst e;obtain ⟨a1,a2⟩:=hd ys H' p;exact .inl ⟨B0 _,a1,a2⟩
theorem uw {lo:Int} {n:Nat} {σ2:St} {g2:TG} {tt2:TT} {te:TE} {N:List V->Hp->Prop} {H:Hp} {ys:List V} (Pv:Nat->List V->Hp->Prop) (h0:Pv 0 ys H)
  (ht:∀i zs H',i < n->Pv i zs H'->zs.length < sizeLine/\g2 (.int (lo + i)) σ2 H' λ σ3 H2=>leS σ2 σ3/\tt2 σ3 H2 λ ok H3=>if ok=true then te σ3 H3 (λ v H4=>Nx n Pv i (zs ++ [v]) H4) else Nx n Pv i zs H3)
  (hd:∀zs H',Pv n zs H'->N zs H'):∃W2:Nat->Nat->List V->Hp->Prop,(∃m2,W2 0 m2 ys H)/\iI σ2 (Itr lo n) g2 tt2 te N W2:=by
 refine ⟨λ i m zs H'=>m=n - i/\i<=n/\Pv i zs H',⟨_,Y,E2 _,h0⟩,?_⟩;rintro i m zs H' ⟨rfl,hi,p⟩
 by_cases hin:i < n
 ·obtain ⟨e,hg⟩:=ht i zs H' hin p;refine .inr ⟨hin,e,λ x H2 yl=>?_⟩;obtain ⟨e1,e2⟩:=yl;subst e1 e2;exact hg
 ·have e:i=n:=⋯
  subst e;exact .inl ⟨B0 _,hd zs H' p⟩
theorem km {P:FC} {w:FE} {K:C1} {tg:Expr} (it:Addr) (lo left:Int) (h0:left<=0):Turn P w K tg (Itr lo 0) [it] it (λ i h=>IsLongIter h it lo left 1) where
 mem:=by simp
 obj:=λ i h st b hb=>by
  have e:b=it:=by simpa using hb
  subst e;exact ⟨_,st,λ v z=>by
   have z':Data.fields _=Data.cell v:=z;cases z'⟩
 keep:=λ i h h' st k=>k it (by simp) _ st
 item:=by intro X hP hw hK hc i pins s σ H E I hf st hg;exact absurd hg (E3 _)
 done:=by intro X hP hw hK hc i pins s σ H E I hf st hg;subst hP hw hK;obtain ⟨f0,f1,f2,f3,f4,f5⟩:=hf it (by simp);exact wpAny_pyNext_long_end (I.ok.hd hc) st h0 λ h' eb=>⟨Y,I.turned (t':=s.toks) (λ b o hb e=>eb b o hb e) f0 f1 f3 f4 f5⟩
 self:=λ _ _ _ _ _ st h=>wpAny_pyIter_longiter st h
section
variable {X:Cx} {tg:Expr}
def ux (ta:TA):TI:=λ σ H R=>ta σ H λ vs H1=>∃i j:Int,vs=[.int i,.int j]/\(-(2 ^ 62)<=i/\i < 2 ^ 62/\j < 2 ^ 62)/\R (Itr i (j - i).toNat) H1
theorem gA {a b:Expr} {ta:TA} {p pos:Pos} (hg:Gl X "range") (hm:X.mg "range" = none) (ha:PA X [a,b] ta) (hs:starEach [a,b] X.env=[(false,eval a X.env),(false,eval b X.env)]:=by rfl) (hs2:starEach [b] X.env=[(false,eval b X.env)]:=by rfl) :
  PI X tg (.Call (.Name "range" p) [a,b] [] pos) (ux ta):=by
 intro pins s σ H R I h;refine Call_ (dZ I hg hm boot_range (PyProof.Rows.callWith_type1 (thn (ha pos pins s σ H _ I h) λ us s1 ⟨vs,H1,I1,r1,q1⟩=>?_) (by rw [hs,hs2]) (by rw [hs2]; rfl)));obtain ⟨i,j,e,⟨q1,q2,q4⟩,q⟩:=q1;subst e;cases r1 with
 | cons r rr =>
  cases rr with
  | cons r' rr =>
   cases rr;obtain ⟨t,rfl⟩:=r;obtain ⟨t',rfl⟩:=r'
   by_cases q3:-(2 ^ 62)<=j
   ·exact call_range_2 (gg I1 q1 q2 q3 q4 q)
   refine call_range_2 ?_;have z0:(j - i).toNat=0:=⋯
   rw [z0] at q;have I2:Inv X pins σ H1 { s1 with heap:=s1.heap.push { cls:=.type "range", data:=.fields #[.int i t, .int j t', .int 1 s1.toks] }, toks:=s1.toks + 1 }:=I1.kept λ b o e=>A4 _ e;have rs0:Builtin.Range.rangeSize i j 1=0:=by rw [rangeSize_one,if_neg ⋯]
   cases hsm:Builtin.Range.small i j 1 with
   | false =>
    refine wpAny_pyIter_longrange (IsRange.new ..) hsm ?_;refine ⟨_, [(s1.heap.push { cls:=.type "range", data:=.fields #[.int i t, .int j t', .int 1 s1.toks] }).objs.size], _, _, H1, Y, I2.kept (t':=s1.toks + 1) λ b o e=>A4 _ e, km _ i 0 (C8 _), ?_, λ b hb=>?_, q⟩
    ·rw [rs0];exact A5 _ rfl
    ·have e:b=(s1.heap.push { cls:=.type "range", data:=.fields #[.int i t, .int j t', .int 1 s1.toks] }).objs.size:=by simpa using hb
     subst e;exact I2.fpOk (B0 _) (I2.hok.fresh (B0 _))
   | true =>
    refine wpAny_pyIter_range (IsRange.new ..) hsm ?_;refine ⟨_, [(s1.heap.push { cls:=.type "range", data:=.fields #[.int i t, .int j t', .int 1 s1.toks] }).objs.size], _, _, H1, Y, I2.kept (t':=s1.toks + 1) λ b o e=>A4 _ e, gf _ i 0, ?_, λ b hb=>?_, q⟩
    ·rw [rs0];show IsRangeIter _ _ (i + ((0:Nat):Int) * 1) (((0:Nat):Int) - ((0:Nat):Int)) 1;have e1:i + ((0:Nat):Int) * 1=i:=by simp
     have e2:((0:Nat):Int) - ((0:Nat):Int)=0:=rfl;rw [e1,e2];exact A5 _ rfl
    ·have e:b=(s1.heap.push { cls:=.type "range", data:=.fields #[.int i t, .int j t', .int 1 s1.toks] }).objs.size:=by simpa using hb
     subst e;exact I2.fpOk (B0 _) (I2.hok.fresh (B0 _))
end
end L2
namespace PySem
open PySem.W
section
variable {prog:FC} {w:FE} {K:Type} [DecidableEq K] {knd:HeapKind prog w K} {A:Around} {E:FF->FB->Prop} {s:FB} {xs ys:List (K×Addr×FF)} {a b:Addr}
theorem gB {nm:String} {Q:Bool->FB->Prop} (ha:(a == sysModules)=false) (hb:(b == sysModules)=false) (da:s.heap.DictOfH knd a xs) (db:s.heap.DictOfH knd b ys) (hr:knd.room A) (hl:xs.length=ys.length)
  (al:∀ (i:Nat) (k:K) (p:Addr) (v:FF),xs[i]? = some (k,p,v)->∃ (j:Nat) (p':Addr) (v':FF),ys[j]? = some (k,p',v')/\∃n t u,v=.int n t/\v'=.int n u) (h:Q true s) :
  wpAny (model prog w) A (Builtin.Dict.samePairs nm a b) Q E s:=by
 obtain ⟨oa,es,ep,hoa,_,hda,hea,hisa,hna⟩:=da;obtain ⟨ob,es',ep',hob,_,hdb,heb,hisb,hnb⟩:=db;have sza:es.size=xs.length:=size_of_entries hea;have szb:es'.size=ys.length:=size_of_entries heb;unfold Builtin.Dict.samePairs Builtin.Dict.showsAll;rw [if_neg (show ¬ (a == sysModules)=true by rw [ha]; exact Bool.false_ne_true),if_neg (show ¬ (b == sysModules)=true by rw [hb]; exact Bool.false_ne_true)];refine A0 (A1 (A0 (A1 ?_)));refine A0 (wpAny_dictEntries hoa hda ?_);dsimp only;refine A0 (wpAny_dictEntries hob hdb ?_);rw [if_neg (by rw [sza,szb,hl]; simp)];refine A0 (wpAny_dictEpoch hoa hda ?_);refine A0 ?_;rw [Std.Legacy.Range.forIn_eq_forIn_range'];simp only [Std.Legacy.Range.size,Nat.sub_zero,Nat.add_sub_cancel,Nat.div_one];refine wpAny_forIn_list _ (λ rest q s'=>s'=s/\q=(none,())/\∃i,rest=List.range' i (es.size - i)/\i<=es.size) _ ?_ ?_ _ _ ⟨rfl,rfl,0,by simp,E2 _⟩
 ·rintro x rest q s' ⟨rfl,rfl,i,hrr,hi⟩;have hlt:i < es.size:=by
   rcases Nat.lt_or_ge i es.size with h | h
   ·exact h
   ·rw [Nat.sub_eq_zero_of_le h] at hrr; simp at hrr
  obtain ⟨rfl,hrest⟩:x=i/\rest=List.range' (i + 1) (es.size - (i + 1)):=by
   have e:es.size - i=(es.size - (i + 1)) + 1:=⋯
   rw [e,List.range'_succ] at hrr;injection hrr with h1 h2
   exact ⟨h1,h2⟩
  refine A0 (wpAny_dictEntries hoa hda ?_);have hlt':x < xs.length:=⋯
  obtain ⟨k,p,v,hkv⟩:∃k p v,xs[x]? = some (k,p,v):=⟨_,_,_,E5 hlt'⟩
  have hent:es[x]? = some ⟨knd.hash k,.ref p,v⟩:=by rw [entry_at hea x,hkv]; rfl
  rw [hent];obtain ⟨j,p',v',hj,nn,t,u,rfl,rfl⟩:=al x k p v hkv;have hk:=hisa _ (B2 hkv);show wpAny _ _ (holding _ _ >>= _) _ _ _;refine A0 (wpAny_holding (A0 (wpAny_dictFind_heap hr hk hob hdb heb hisb hnb (λ hno=>absurd hj (hno j _)) λ j' p2 hj'=>?_)));have ejj:j'=j:=idxH_unique hnb hj' hj;subst ejj;rw [hj] at hj';cases hj';refine A0 (wpAny_dictEntries hob hdb ?_);have hent2:es'[j']? = some ⟨knd.hash k,.ref p',.int nn u⟩:=by rw [entry_at heb j',hj]; rfl
  rw [hent2];refine wpAny_holding (wpAny_eqBool_int ?_);rw [beq_self_eq_true];show wpAny _ _ (if (!true)=true then _ else _) _ _ _;rw [if_neg ∅];refine A0 (wpAny_dictEpoch hoa hda ?_);rw [if_neg (by simp)];exact A1 ⟨rfl,rfl,x + 1,hrest,hlt⟩
 ·rintro q s' ⟨rfl,rfl,i,hrr,hi⟩;exact A1 h
theorem eqH {Q:FF->FB->Prop} (ha:(a == sysModules)=false) (hb:(b == sysModules)=false) (da:s.heap.DictOfH knd a xs) (db:s.heap.DictOfH knd b ys) (hu:A.units < cLine) (hr:knd.room A.in1) (hl:xs.length=ys.length) (al:∀ (i:Nat) (k:K) (p:Addr) (v:FF),xs[i]? = some (k,p,v)->∃ (j:Nat) (p':Addr) (v':FF),ys[j]? = some (k,p',v')/\∃n t u,v=.int n t/\v'=.int n u) (h:Q (.bool true) s) :
  wpAny (model prog w) A (compareOp .Eq (.ref a) (.ref b)) Q E s:=by
 refine wpAny_richCompare_same_room (op:=.Eq) da.typeIs db.typeIs PySem.F.slot_dict_eq (E7 PySem.F.slot_dict_eq da.typeIs PySem.F.entry_dict_eq ?_ (PySem.F.args_dict_eq_2 _ _)) hu;show wpAny _ _ (Builtin.Dict.dictSlotArgs "__eq__" ⟨[.ref a,.ref b],[]⟩ >>= _) _ _ s;refine A0 ?_;unfold Builtin.Dict.dictSlotArgs;refine A0 (wpAny_notOrdered_dict da.typeIs ?_);show wpAny _ _ (pure (Value.ref a,Value.ref b)) _ _ s;refine A1 ?_;refine A0 (wpAny_isInstance (T := "dict") db.typeIs PySem.F.sub_dict_dict ?_);simp only [Bool.not_true,Bool.false_eq_true,if_false];refine A0 (A1 (A0 (A1 ?_)));refine A0 (gB ha hb da db hr hl al ?_);refine A1 ⟨_,rfl,?_,?_⟩
 ·exact λ x=>nomatch x
 ·exact h
theorem neH {Q:FF->FB->Prop} (ha:(a == sysModules)=false) (hb:(b == sysModules)=false) (da:s.heap.DictOfH knd a xs) (db:s.heap.DictOfH knd b ys) (hu:A.units < cLine) (hr:knd.room A.in1) (hl:xs.length=ys.length) (al:∀ (i:Nat) (k:K) (p:Addr) (v:FF),xs[i]? = some (k,p,v)->∃ (j:Nat) (p':Addr) (v':FF),ys[j]? = some (k,p',v')/\∃n t u,v=.int n t/\v'=.int n u) (h:Q (.bool false) s) :
  wpAny (model prog w) A (compareOp .NotEq (.ref a) (.ref b)) Q E s:=by
 refine wpAny_richCompare_same_room (op:=.NotEq) da.typeIs db.typeIs PySem.F.slot_dict_ne (E7 PySem.F.slot_dict_ne da.typeIs PySem.F.entry_dict_ne ?_ (PySem.F.args_dict_ne_2 _ _)) hu;show wpAny _ _ (Builtin.Dict.dictSlotArgs "__ne__" ⟨[.ref a,.ref b],[]⟩ >>= _) _ _ s;refine A0 ?_;unfold Builtin.Dict.dictSlotArgs;refine A0 (wpAny_notOrdered_dict da.typeIs ?_);show wpAny _ _ (pure (Value.ref a,Value.ref b)) _ _ s;refine A1 ?_;refine A0 (wpAny_isInstance (T := "dict") db.typeIs PySem.F.sub_dict_dict ?_);simp only [Bool.not_true,Bool.false_eq_true,if_false];refine A0 (A1 (A0 (A1 ?_)));refine A0 (gB ha hb da db hr hl al ?_);refine A1 ⟨_,rfl,?_,?_⟩
 ·exact λ x=>nomatch x
 ·exact h
end
end PySem
namespace L2
open PySem PySem.Spec PyProof.Rows
def ic (kvs kws:List (List Key×V)):Prop:=kvs.length=kws.length/\∀k v,(k,v)∈kvs->∃n:Int,v=.int n/\(k,V.int n)∈kws
section
variable {X:Cx}
theorem gC {H:Hp} {P:FC} {w:FE} {kvs kws:List (List Key×V)} {xs ys:List (List Key×Addr×FF)} (s:ic kvs kws) (rx:KT H kvs xs) (ry:KT H kws ys) :
  xs.length=ys.length/\∀ (i:Nat) (k:List Key) (p:Addr) (v:FF),xs[i]? = some (k,p,v)->∃ (j:Nat) (p':Addr) (v':FF),ys[j]? = some (k,p',v')/\∃n t u,v=.int n t/\v'=.int n u:=by
 have lx:kvs.length=xs.length:=cN rx;have ly:kws.length=ys.length:=cN ry;refine ⟨by have:=s.1; omega,λ i k p v hi=>?_⟩;have il:i < xs.length:=(A3.mp hi).1;have hk:kvs[i]? = some kvs[i]:=E5 ⋯;obtain ⟨⟨k',p2,v2⟩,hy,e1,e2,e3⟩:=dq rx hk;rw [hi] at hy;cases hy;obtain ⟨n,en,hm⟩:=s.2 kvs[i].1 kvs[i].2 (B2 hk);obtain ⟨j,hj⟩:=List.mem_iff_getElem?.mp hm;obtain ⟨⟨k3,p3,v3⟩,hy3,f1,f2,f3⟩:=dq ry hj;have f1:kvs[i].1=k3:=f1;have e1:kvs[i].1=k:=e1;rw [en] at e3;obtain ⟨t,et⟩:=e3;obtain ⟨u,eu⟩:=f3;refine ⟨j,p3,v3,by rw [hy3,<- f1,e1],n,t,u,et,eu⟩
theorem Cu (hu:X.A.units + 64 < cLine):OpR X (compareOp .Eq) (λ x y H Q=>∃a b kvs kws,x=.ref a/\y=.ref b/\Rd H a (.dT kvs)/\Rd H b (.dT kws)/\ic kvs kws/\Q (.bl true) H):=by intro pins s σ H x y v u Q I rx ry h;obtain ⟨a,b,kvs,kws,rfl,rfl,ha,hb,sd,q⟩:=h;cases rx;cases ry;obtain ⟨_,sa,xs,ka,da⟩:=dW I.hok ha;obtain ⟨_,sb,ys,kb,db⟩:=dW I.hok hb;obtain ⟨hl,al⟩:=gC (P:=X.prog) (w:=X.w) sd ka kb;exact eqH sa sb da db ⋯ (by show X.A.units + 1 < cLine; omega) hl al ⟨.bl true,H,I,rfl,q⟩
theorem rz (hu:X.A.units + 64 < cLine):OpR X (compareOp .NotEq) (λ x y H Q=>∃a b kvs kws,x=.ref a/\y=.ref b/\Rd H a (.dT kvs)/\Rd H b (.dT kws)/\ic kvs kws/\Q (.bl false) H):=by intro pins s σ H x y v u Q I rx ry h;obtain ⟨a,b,kvs,kws,rfl,rfl,ha,hb,sd,q⟩:=h;cases rx;cases ry;obtain ⟨_,sa,xs,ka,da⟩:=dW I.hok ha;obtain ⟨_,sb,ys,kb,db⟩:=dW I.hok hb;obtain ⟨hl,al⟩:=gC (P:=X.prog) (w:=X.w) sd ka kb;exact neH sa sb da db ⋯ (by show X.A.units + 1 < cLine; omega) hl al ⟨.bl false,H,I,rfl,q⟩
end
theorem nj {a:Addr} {ob:Obj} {kvs:List (List Key×V)} {σ:St} {cap:List Nat} {k:Nat} {g:TG} {tt:TT} {te:TE} {Q:List V->Hp->Prop} {H:Hp} (Pv:Nat->List V->Hp->Prop) (h0:Pv 0 [] H)
  (hl:∀i ys H',i<=kvs.length->Pv i ys H'->H' a=some (.frz ob (.dT kvs)))
  (ht:∀i kk v q ys H',kvs[i]? = some (kk,v)->H' q= ~~~(kk.map kV)->Pv i ys H'->g (.ref q) (aU σ cap k) H' λ σ2 H2=>leS (aU σ cap k) σ2/\tt σ2 H2 λ ok H3=>if ok=true then te σ2 H3 (λ v H4=>Nx kvs.length Pv i (ys ++ [v]) H4) else Nx kvs.length Pv i ys H3)
  (hz:∀i ys H',i < kvs.length->Pv i ys H'->ys.length < sizeLine) (hd:∀ys H',Pv kvs.length ys H'->ys.length<=sizeLine/\Q ys H'):∃W,(∃m,W 0 m [] H)/\dU σ cap k (Itd a ob kvs) g tt te Q W:=by
 refine ⟨λ i m ys H'=>m=kvs.length - i/\i<=kvs.length/\Pv i ys H',⟨_,Y,E2 _,h0⟩,?_⟩;rintro i m ys H' ⟨rfl,hi,p⟩;have q:=hl i ys H' hi p
 by_cases hin:i < kvs.length
 ·refine .inr ⟨⟨hin,q⟩,hz i ys H' hin p,λ x H2 yl=>?_⟩;obtain ⟨e,qa,k',v',e1,e2,e3⟩:=yl;subst e e2;exact ht i k' v' qa ys _ e1 e3 p
 ·have e:i=kvs.length:=⋯
  subst e;obtain ⟨a1,a2⟩:=hd ys H' p;exact .inl ⟨⟨Y,q⟩,a1,a2⟩
theorem pw {P P':FC} {w w':FE}:∀ {ks:List Key} {vs:List FF},ItemsAre (ax P w) ks vs->ItemsAre (ax P' w') ks vs:=by
 intro ks vs h
 induction h with
 | nil=>exact .nil
 | cons h1 _ ih=>exact .cons h1 ih
theorem rA {P P':FC} {w w':FE} (ks:List Key) (h:∀k∈ks,∃i,k=.inl i):tupleKeyHash (ax P w) ks=tupleKeyHash (ax P' w') ks:=by unfold tupleKeyHash;rw [List.map_congr_left (g:=(ax P' w').hash) λ k hk=>by obtain ⟨i,rfl⟩:=h k hk; rfl]
theorem lV {P P':FC} {w w':FE} {h:Heap} {d:Addr} {xs:List (List Key×Addr×FF)} (hk:∀x∈xs,∀k∈x.1,∃i,k=.inl i) (x:h.DictOfH (tupleKind (ax P w)) d xs):h.DictOfH (tupleKind (ax P' w')) d xs:=by
 obtain ⟨o,es,ep,h1,h2,h3,h4,h5,h6⟩:=x;refine ⟨o,es,ep,h1,h2,h3,h4.trans (List.map_congr_left λ y hy=>?_),λ y hy=>?_,h6⟩
 ·show DictEntry.mk (tupleKeyHash (ax P w) y.1) _ _=DictEntry.mk (tupleKeyHash (ax P' w') y.1) _ _;rw [rA (P':=P') (w':=w') y.1 (hk y hy)]
 obtain ⟨ob,items,n,g1,g2,g3,g4⟩:=h5 y hy;exact ⟨ob,items,n,g1,g2,g3,pw g4⟩
theorem kn {A:Around} {s:FB} {P:FC} {w:FE} {a b:Addr} {xs ys:List (List Key×Addr×FF)} (ha:(a == sysModules)=false) (hb:(b == sysModules)=false) (da:s.heap.DictOfH (tupleKind (ax P w)) a xs) (db:s.heap.DictOfH (tupleKind (ax P w)) b ys) (hu:A.units + 1 < cLine) (hx:∀x∈xs,∀k∈x.1,∃i,k=.inl i) (hy:∀x∈ys,∀k∈x.1,∃i,k=.inl i) (hl:xs.length=ys.length)
  (al:∀ (i:Nat) (k:List Key) (p:Addr) (v:FF),xs[i]? = some (k,p,v)->∃ (j:Nat) (p':Addr) (v':FF),ys[j]? = some (k,p',v')/\∃n t u,v=.int n t/\v'=.int n u):SeqAt.EqAt A s (.ref a) (.ref b) true:=by
 by_cases e:a=b
 ·subst e;exact SeqAt.EqAt.same _
 ·refine SeqAt.EqAt.of_refs e λ prog w' E Q h=>?_;exact eqH ha hb (lV (P':=prog) (w':=w') hx da) (lV (P':=prog) (w':=w') hy db) ⋯ (by show A.units + 1 < cLine; exact hu) hl al h
section
variable {X:Cx}
theorem lW {H:Hp} {kvs:List (List Key×V)} {xs:List (List Key×Addr×FF)} (r:KT H kvs xs) (h:∀x∈kvs,∀k∈x.1,∃i,k=.inl i):∀x∈xs,∀k∈x.1,∃i,k=.inl i:=λ x hx=>by obtain ⟨i,hi⟩:=List.mem_iff_getElem?.mp hx;have il:i < xs.length:=(A3.mp hi).1;have lx:kvs.length=xs.length:=cN r;have hk:kvs[i]? = some kvs[i]:=E5 ⋯;obtain ⟨y,hy,e1,_⟩:=dq r hk;rw [hi] at hy;cases hy;rw [<- e1];exact h _ (B2 hk)
theorem rB (hu:X.A.units + 66 < cLine):OpR X (compareOp .Eq) (λ x y H Q=>∃ (a b ta tb:Addr) (n:Int) (v v':V) (d:PyData) (kvs kws:List (List Key×V)),x=.ref a/\y=.ref b/\H a= ~~~[.int n,v,.ref ta]/\H b= ~~~[.int n,v',.ref tb]/\DatV X.K H v d/\DatV X.K H v' d/\SeqAt.shaped d=true/\PyData.canLay0 d=true/\Rd H ta (.dT kvs)/\Rd H tb (.dT kws)/\ic kvs kws/\(∀x∈kvs,∀k∈x.1,∃i,k=.inl i)/\(∀x∈kws,∀k∈x.1,∃i,k=.inl i)/\Q (.bl true) H):=by
 intro pins s σ H x y u1 u2 Q I rx ry h;obtain ⟨a,b,ta,tb,n,v,v',d,kvs,kws,rfl,rfl,ha,hb,hv,hv',sh,ly,rd,rd',sd,i1,i2,q⟩:=h;cases rx;cases ry;obtain ⟨its,rv,p1,_⟩:=I.tuple (FH (K:=X.K) ha);obtain ⟨its2,rv2,p2,_⟩:=I.tuple (FH (K:=X.K) hb);cases rv with
 | cons r1 rr =>
 cases rr with
 | cons r2 rr =>
 cases rr with
 | cons r3 rr =>
 cases rr;cases rv2 with
 | cons s1 ss =>
 cases ss with
 | cons s2 ss =>
 cases ss with
 | cons s3 ss =>
 cases ss;obtain ⟨t1,rfl⟩:=r1;obtain ⟨t2,rfl⟩:=s1;cases r3;cases s3;obtain ⟨as,ra⟩:=I.reads hv r2;obtain ⟨bs,rb⟩:=I.reads hv' s2;obtain ⟨_,sa,xs,ka,da⟩:=dW I.hok rd;obtain ⟨_,sb,ys,kb,db⟩:=dW I.hok rd';obtain ⟨hl,al⟩:=gC (P:=X.prog) (w:=X.w) sd ka kb;have j1:=lW ka i1;have j2:=lW kb i2;have e2:=PySem.W.keq_at (A:=X.A) ra rb sh sh (by show X.A.units + 1 + 64 < cLine; omega);rw [PySem.SeqAt.eqv_refl _ ly] at e2;refine SeqAt.eq_tupleAt (e:=λ _=>true) p1 p2 ⋯ (λ j h1 h2=>?_) ⟨.bl true,H,I,rfl,q⟩;have h1:j < 3:=h1
 match j,h1 with
 | 0,_ =>
  have:=SeqAt.EqAt.int_int (A:=X.A.in1) (s:=s) n t1 n t2;rw [beq_self_eq_true] at this;exact this
 | 1,_=>exact e2
 | 2,_=>exact kn sa sb da db (by show X.A.units + 1 + 1 < cLine; omega) j1 j2 hl al
end
end L2
namespace PySem
open PySem.W
section
variable {prog:FC} {w:FE} {A:Around} {E:FF->FB->Prop} {s:FB} {d:Addr} {o:Obj} {es:Array DictEntry} {ep:Nat}
theorem gD {α:Type} {f:α->Int}:∀ {l:List α},(l.map f).Nodup->∀a∈l,(l.filter (λ x=>f x == f a)).length<=1
 | [],_,a,h=>by simp at h
 | b :: l,hn,a,h=>by
  have hn':=List.nodup_cons.mp hn;rw [List.filter_cons]
  by_cases e:(f b == f a)=true
  ·rw [if_pos e];have e':f b=f a:=by simpa using e
   have:l.filter (λ x=>f x == f a)=[]:=by
    rw [List.filter_eq_nil_iff];intro x hx z;have z:f x=f a:=by simpa using z
    exact hn'.1 (by rw [e',<- z]; exact List.mem_map.mpr ⟨x,hx,Y⟩)
   rw [this]; exact B0 _
  ·rw [if_neg e];rcases List.mem_cons.mp h with rfl | h
   ·exact absurd (by simp) e
   ·exact gD hn'.2 a h
theorem yH {Q:FF->FB->Prop} (hS:(d == sysModules)=false) (ho:s.heap.get? d=some o) (hc:o.ExactDict) (hd:o.data=.dict es ep) (hne:es≠#[]) (hes:es.size<=sizeLine)
  (ht:∀e∈es.toList,∃p,e.key=.ref p/\s.TypeIs (.ref p) "tuple") (hcol:(es.toList.map (·.hash)).Nodup)
  (h:∀h' o' ep',h'.get? s.heap.objs.size=some o'->o'.ExactDict->o'.data=.dict es ep'->(∀b u,s.heap.get? b=some u->h'.get? b=some u)->Q (.ref s.heap.objs.size) { s with heap:=h' }) :
  wpAny (model prog w) A (call (.type "dict") [.ref d]) Q E s:=by
 refine callType_codes (Q₁:=λ obj s₁=>obj=.ref s.heap.objs.size/\s₁={ s with heap:=s.heap.push { cls:=.type "dict",data:=.dict #[] } }) F.kt_called_dict (F.kt_typeCall_dict_1 _) F.entry_dict_init (kt_code_dict_new _ ⟨rfl,rfl⟩) ?_;rintro obj s₁ ⟨rfl,rfl⟩;have hlt:=A6 ho;have hnd:s.heap.objs.size≠d:=λ e=>by rw [<- e] at hlt; exact C4 _ hlt
 have ho':(s.heap.push { cls:=.type "dict", data:=.dict #[] }).get? d=some o:=A4 _ ho;have hn0:(s.heap.push { cls:=.type "dict",data:=.dict #[] }).get? s.heap.objs.size=some { cls:=.type "dict",data:=.dict #[] }:=A5 _ rfl;have tyn:Shared.TypeIs { s with heap:=s.heap.push { cls:=.type "dict",data:=.dict #[] } } (.ref s.heap.objs.size) "dict" := ⟨_,hn0,Y⟩
 have tyo:Shared.TypeIs { s with heap:=s.heap.push { cls:=.type "dict", data:=.dict #[] } } (.ref d) "dict" := ⟨o, ho', hc.1⟩
 refine ⟨tyn,F.args_dict_init_2 _ _,?_⟩;unfold Builtin.«dict.__init__»;refine A0 ?_;unfold Builtin.Dict.selfAndRest;refine A0 (wpAny_notOrdered_dict tyn ?_);show wpAny _ _ (pure (s.heap.objs.size,[Value.ref d])) _ _ _;refine A1 ?_;show wpAny _ _ (Builtin.Dict.updateFrom "dict.__init__" s.heap.objs.size (.ref d) [] .none) _ _ _;unfold Builtin.Dict.updateFrom;refine A0 (wpAny_typeOf tyo ?_);rw [if_neg ∅];refine A0 ?_;unfold Builtin.Dict.merge;refine A0 ?_;unfold Builtin.Dict.readDirectly;refine A0 (wpAny_isInstance tyo isSubtype_dict_dict ?_);simp only [Bool.not_true,Bool.false_eq_true,if_false];refine A0 (wpAny_specialOf tyo F.slot_dict_iter.lookup (A1 ?_));simp only [beq_self_eq_true,if_true];refine A0 (A1 ?_);unfold Builtin.Dict.mergeDict;rw [if_neg (by simpa using hnd)];unfold Builtin.Dict.showsAll;rw [if_neg (by rw [hS]; exact Bool.false_ne_true)];refine A0 (A1 ?_);refine A0 (wpAny_dictEntries ho' hd ?_);have few:(decide (es.size<=8) && es.all λ e=>(keyPart e.key).isSome)=false:=by
  cases q:es.all λ e=>(keyPart e.key).isSome with
  | false=>rw [Bool.and_false]
  | true =>
   exfalso;have hpos:0 < es.size:=Nat.pos_of_ne_zero λ z=>hne (Array.eq_empty_of_size_eq_zero z);have:=(Array.all_eq_true.mp q) 0 hpos;obtain ⟨p,e1,_⟩:=ht es[0] (by rw [Array.mem_toList_iff]; exact Array.getElem_mem hpos);rw [e1] at this;cases this
 dsimp only;rw [few];simp only [Bool.not_false,if_true];refine A0 (wpAny_dictEntries hn0 rfl ?_);rw [if_pos (by rfl)];refine A0 ?_;unfold Builtin.Dict.entriesForEmpty;refine A0 (wpAny_dictEntries ho' hd ?_);refine A0 ?_;rw [<- Array.forIn_toList];refine wpAny_forIn_list _ (λ rest _ s'=>s'={ s with heap:=s.heap.push { cls:=.type "dict", data:=.dict #[] } }/\∀e∈rest, e∈es.toList) _ ?_ ?_ _ _ ⟨rfl, λ e he=>he⟩
 ·rintro e rest _ s' ⟨rfl,hr⟩;have hm:=hr e B4;obtain ⟨p,e1,t1⟩:=ht e hm;have t2:Shared.TypeIs { s with heap:=s.heap.push { cls:=.type "dict",data:=.dict #[] } } (.ref p) "tuple" := by obtain ⟨q,h1,h2⟩:=t1;exact ⟨q,A4 _ h1,h2⟩
  rw [e1];unfold Builtin.Dict.quietEq;refine A0 (A0 (wpAny_specialOf (name := "__eq__") t2 F.slot_tuple_eq.lookup (A1 ?_)));have c:(some (Value.builtin "tuple.__eq__") == some (Value.builtin "object.__eq__"))=false:=∅
  rw [c];simp only [Bool.not_false,if_true];have f1:=gD hcol e hm;have f2:¬ (es.filter (·.hash == e.hash)).size > 1:=by rw [<- Array.length_toList,Array.toList_filter]; omega
  rw [if_neg f2];exact A1 ⟨rfl,λ x hx=>hr x (B1 _ hx)⟩
 ·rintro _ s' ⟨rfl,_⟩;refine A1 ?_;have emp:es.isEmpty=false:=by
   cases q:es.isEmpty with
   | false=>rfl
   | true=>exact absurd (Array.isEmpty_iff.mp q) hne
  rw [emp];simp only [Bool.not_false,if_true];refine A0 (wpAny_updateDictKeysTo hn0 rfl (A1 ?_) (by show es.size<=_; omega));show wpAny _ _ (Builtin.Dict.addKeywords s.heap.objs.size [] >>= _) _ _ _;have q1:=Heap.get?_update_self (h:=s.heap.push { cls:=.type "dict",data:=.dict #[] }) (Obj.mapDictKeys λ _=>es) hn0 (Obj.isFreed_of_dict (Obj.data_mapDictKeys (o:={ cls:=.type "dict",data:=.dict #[] }) rfl _));refine A0 (A1 (A1 ⟨rfl,h _ _ 1 q1 (Obj.ExactDict.mapDictKeys ⟨rfl,rfl,rfl⟩ _) (Obj.data_mapDictKeys rfl _) λ b u e=>?_⟩));have sb:=Heap.SameBut.update (s.heap.push { cls:=.type "dict",data:=.dict #[] }) s.heap.objs.size (f:=Obj.mapDictKeys λ _=>es);exact (sb.2 b (B6 (A6 e))).trans (A4 _ e)
end
end PySem
namespace L2
open PySem PySem.Spec PyProof.Rows
section
variable {X:Cx} {pins:List (Addr×Obj)} {σ:St} {H:Hp} {s:FB} {a:Addr} {ob:Obj} {u:HO}
theorem Inv.thaw (I:Inv X pins σ H s) (e:H a=some (.frz ob u)) (h0:∀o u',X.H₀ a≠some (.frz o u')):Inv X pins σ (upd H a u) s:=by
 have ne:∀ {b:Addr},H b=none->b≠a:=λ h z=>by rw [z,e] at h; cases h
 have al:∀ {b:Addr},H b=none->(upd H a u) b=none:=λ {b} h=>by rw [aj (ne h)]; exact h
 refine ⟨I.ok,I.os,I.bare,⟨I.base.keep,I.base.slot,λ b o q n x=>al (I.base.free b o q n x),I.base.there,λ b xs q=>?_,λ b o v q=>?_,λ b ps q=>?_⟩,I.loc,I.cell,al I.free,λ x c q=>al (I.freeC x c q),λ p hp=>?_,λ b o q=>?_,I.len⟩
 ·have h:=I.base.tups b xs q;rw [aj (λ z=>by rw [z,e] at h; cases h)]; exact h
 ·have h:=I.base.frzs b o v q;rw [aj (λ z=>h0 _ _ (z ▸ q))]; exact h
 ·obtain ⟨more,h⟩:=I.base.tbls b ps q;exact ⟨more,by rw [aj (λ z=>by rw [z,e] at h; cases h)]; exact h⟩
 ·obtain ⟨h1,h2,h3⟩:=I.pin p hp;exact ⟨h1,al h2,h3⟩
 ·have own:∀c y,H c=some (.own y)->(upd H a u) c=some (.own y):=λ c y h=>by rw [aj (λ z=>by rw [z,e] at h; cases h)]; exact h
  have tup:∀c xs,H c= ~~~xs->(upd H a u) c= ~~~xs:=λ c xs h=>by rw [aj (λ z=>by rw [z,e] at h; cases h)]; exact h
  by_cases z:b=a
  ·subst z;rw [ae] at q;cases q;have:=(show ObjOk X.prog X.w H s.heap b (.frz ob u) from I.hok b _ e).2;exact ObjOk.stay this (λ _ _ _ h=>h) (λ c h=>own c _ h) tup
  ·rw [aj z] at q;exact (I.hok b o q).stay (λ _ _ _ h=>h) (λ c h=>own c _ h) tup
end
section
variable {X:Cx}
def yI (H0:Hp) (t:TS):TS:=λ D σ H=>∃a ob u,H a=some (.frz ob u)/\(∀o u',H0 a≠some (.frz o u'))/\t D σ (upd H a u)
theorem rC {st:Stmt} {t:TS} (h:PS X st t):PS X st (yI X.H₀ t):=λ pins s σ H D I ⟨_,_,_,e,h0,q⟩=>h pins s σ _ D (I.thaw e h0) q
def uy (H0:Hp) (t:TE):TE:=λ σ H Q=>t σ H λ v H1=>∃a ob u,H1 a=some (.frz ob u)/\(∀o u',H0 a≠some (.frz o u'))/\Q v (upd H1 a u)
theorem rD {e:Expr} {t:TE} (h:PE X e t):PE X e (uy X.H₀ t):=λ pins s σ H Q I q =>
 thn (h pins s σ H _ I q) λ v s1 ⟨x,H1,I1,r1,_,_,_,e,h0,q1⟩=>⟨x,_,I1.thaw e h0,r1,q1⟩
theorem gE:ce X (.type "dict") (λ xs H Q=>∃a kvs,xs=[V.ref a]/\Rd H a (.dT kvs)/\kvs≠[]/\(kvs.map λ x=>tupleKeyHash (ax X.prog X.w) x.1).Nodup/\∀p,H p=none->Q (.ref p) (upd H p (.dT kvs))):=by
 intro pins s σ H xs us Q I r h;obtain ⟨a,kvs,rfl,ha,hne,hcol,q⟩:=h;obtain ⟨u,rfl,ru⟩:=dh r;cases ru;obtain ⟨hz,hs,xs,pr,o,es,ep,h1,h2,h3,h4,h5⟩:=(show ObjOk X.prog X.w H s.heap a (.dT kvs) from pf I.hok ha)
 have hl:=cN pr;have hn:es.size=kvs.length:=by rw [hl,<- Array.length_toList,h4,List.length_map]
 have keyOf:∀e∈es.toList,∃p ks,e.key=.ref p/\H p= ~~~ks:=λ e he=>by rw [h4] at he;obtain ⟨x,hx,rfl⟩:=List.mem_map.mp he;obtain ⟨i,hi⟩:=List.mem_iff_getElem?.mp hx;have il:i < xs.length:=(A3.mp hi).1;have hk:kvs[i]? = some kvs[i]:=E5 ⋯;obtain ⟨y,hy,e1,e2,_⟩:=dq pr hk;rw [hi] at hy;cases hy;exact ⟨_,_,Y,e2⟩
 refine yH hs h1 h2 h3 (λ z=>?_) ⋯ (λ e he=>?_) ?_ λ h' o' ep' q1 q2 q3 sb=>?_
 ·rw [z] at hn;exact hne (List.length_eq_zero_iff.mp hn.symm)
 ·obtain ⟨p,ks,e1,e2⟩:=keyOf e he;obtain ⟨its,_,p1,_⟩:=I.tuple (FH (K:=X.K) e2);obtain ⟨ob,h1,h2,_⟩:=p1;exact ⟨p,e1,ob,h1,h2⟩
 ·have e:es.toList.map (·.hash)=kvs.map λ x=>tupleKeyHash (ax X.prog X.w) x.1:=by
   rw [h4,List.map_map];have all:∀ {l:List (List Key×V)} {m:List (List Key×Addr×FF)},KT H l m->m.map ((λ x=>x.hash)∘entryOfKey (tupleKind (ax X.prog X.w)))=l.map λ x=>tupleKeyHash (ax X.prog X.w) x.1:=by
    intro l m r
    induction r with
    | nil=>rfl
    | cons h _ ih=>rw [List.map_cons,List.map_cons,ih,h.1]; rfl
   exact all pr
  rw [e];exact hcol
 ·have hf:=I.hok.fresh (B0 s.heap.objs.size);refine ⟨.ref s.heap.objs.size,_,I.laid (a:=s.heap.objs.size) (o:=.dT kvs) (t':=s.toks) sb (B0 _) ⟨hz,beq_eq_false_iff_ne.mpr (Ne.symm (B6 I.big)),xs,?_,o',es,ep',q1,q2,q3,h4,h5⟩,Y,q _ hf⟩;exact js pr λ p q ⟨e1,e2,e3⟩=>⟨e1,by rw [aj (ah e2 hf)]; exact e2,e3⟩
end
end L2
namespace PySem
open Sem (wp)
section
variable {prog:FC} {w:FE} {A:Around} {E:FF->FB->Prop} {s:FB}
theorem ck {v d:Addr} {es:Array DictEntry} {ep:Nat} {Q:FF->FB->Prop} (hv:s.heap.IsItemsView v d) (hm:(∃o,s.heap.get? d=some o/\o.ExactDict/\o.data=.dict es ep))
  (hQ:Q (.ref s.heap.objs.size) { s with heap:=s.heap.push { cls:=.type "dict_itemiterator",data:=.fields #[.none,.bool false,.ref d,.int 0 0,.int es.size 0,.int ep 0,.none,.none] } }) :
  wpAny (model prog w) A (pyIter (.ref v)) Q E s:=by
 obtain ⟨ov,hov,hcv,hdv⟩:=id hv;obtain ⟨o,ho,hc,hdat⟩:=id hm;refine wpAny_pyIter_slot hv.typeIs F.slot_dict_items_iter (E7 F.slot_dict_items_iter hv.typeIs F.entry_dict_items_iter ?_ (F.args_dict_items_iter_1 _));unfold Builtin.«dict_items.__iter__»;refine A0 (A1 ?_);refine A0 ?_;unfold Builtin.Dict_items.dictOf;refine A0 (wpAny_field hov hdv (x:=.ref d) rfl (A1 ?_));refine A0 ?_;unfold Builtin.Dict_items.newIterator;refine A0 (wpAny_dictEntries ho hdat ?_);refine A0 (wpAny_dictEpoch ho hdat ?_);have hsz:es.size=es.size:=rfl;have hown:Builtin.Dict_items.ownsTuple "dict_itemiterator" = true:=∅
 simp only [hown,if_true];refine E8 (A1 ⟨_,rfl,"dict_itemiterator",_,⟨_,A5 _ rfl,rfl⟩,F.slot_dict_itemiterator_next.lookup,?_⟩)
  (by simp only [sizeOk,Builtin.Dict_items.ownedTupleFields,List.size_toArray,List.length_append,List.length_cons,List.length_nil,sizeLine_eq]; omega)
 simpa [rawInt,hsz,Builtin.Dict_items.ownedTupleFields] using hQ
theorem bN {it d:Addr} {i ep:Nat} {es:Array DictEntry} {en:DictEntry} {ok ov:FF} {Q:Option FF->FB->Prop} (hit:IsItemIter s.heap it d i es.size ep ok ov)
  (hm:(∃o,s.heap.get? d=some o/\o.ExactDict/\o.data=.dict es ep)) (hx:es[i]? = some en)
  (hQ:∀h',IsItemIterOut h' it d (i + 1) es.size ep en.key en.val s.heap.objs.size ->
   h'.get? s.heap.objs.size=some { cls:=.type "tuple", data:=.seq #[en.key, en.val] }->h'.objs.size=s.heap.objs.size + 1 ->
   (∀b o,b≠it->s.heap.get? b=some o->h'.get? b=some o)->Q (↑s.heap.objs.size) { s with heap:=h' }) :
  wpAny (model prog w) A (pyNext (.ref it)) Q E s:=by
 obtain ⟨hp,g,dr,tk,os⟩:=s;obtain ⟨od,hod,hcd,hdd⟩:=id hm;have hT:Shared.TypeIs ⟨hp,g,dr,tk,os⟩ (.ref it) "dict_itemiterator" := ⟨_,hit,Y⟩
 unfold pyNext;refine A0 (wpAny_attempt (wpAny_callSpecial?_slot (name:=Str.ofString "__next__") hT F.slot_dict_itemiterator_next
  (E7 F.slot_dict_itemiterator_next hT F.entry_dict_itemiterator_next ?_ (F.args_dict_itemiterator_next_1 _))))
 refine A0 (A1 ?_);refine A0 ?_;refine A0 ?_
 first | refine A0 (wpAny_typeNameOfWhole_itemiter hT (A1 ?_)) | refine A0 (wpAny_typeNameOf_itemiter hT (A1 ?_))
 refine A0 (wpAny_fieldsOf hit rfl ?_);have hown:Builtin.Dict_items.ownsTuple "dict_itemiterator" = true:=∅
 simp only [hown,if_true];show wpAny _ _ (if (Value.ref d == Value.none)=true then _ else _) _ _ _;rw [if_neg (show ¬ ((Value.ref d == Value.none)=true) from Bool.false_ne_true)];refine A0 (A1 ?_);refine A0 (wpAny_dictEntries hod hdd ?_);have hsz:es.size=es.size:=rfl;rw [if_neg (by simp)];refine A0 (A1 ?_);refine A0 (wpAny_dictEpoch hod hdd ?_);rw [if_neg (by simp)];refine A1 ?_;have hlt:i < es.size:=by
  rcases Nat.lt_or_ge i es.size with h | h
  ·exact h
  ·rw [Array.getElem?_eq_none h] at hx; cases hx
 have hlt':i < es.size:=hlt;have hkey:es[i]=en:=by rw [Array.getElem?_eq_getElem hlt'] at hx; exact B5 hx
 subst hkey;simp only [show ¬ ((i:Int) < 0) from by omega,if_false,Int.toNat_natCast,Array.getElem?_eq_getElem hlt'];refine A0 ?_
 first | refine A0 (wpAny_typeNameOfWhole_itemiter hT (A1 ?_)) | refine A0 (wpAny_typeNameOf_itemiter hT (A1 ?_))
 refine A0 (wpAny_isOneOf_itemiter hT ?_);show wpAny _ _ (setField (.ref it) 3 (rawInt ((i:Int) + 1)) >>= _) _ _ ⟨hp,g,dr,tk,os⟩;refine A0 (wpAny_setField_rec hit (by simp) λ h₁ he₁ hs₁=>?_)
 replace hs₁:Heap.SameBut it hp h₁:=hs₁
 replace he₁:IsItemIter h₁ it d (i + 1) es.size ep ok ov:=by
  have e:((i + 1:Nat):Int)=(i:Int) + 1:=⋯
  unfold IsItemIter; rw [e]; simpa [rawInt] using he₁
 have hT₁:Shared.TypeIs ⟨h₁,g,dr,tk,os⟩ (.ref it) "dict_itemiterator" := ⟨_,he₁,Y⟩
 refine A0 (wpAny_holding ?_);refine A0 (wpAny_isOneOf_itemiter hT₁ ?_);refine A0 (wpAny_isOneOf_itemiter hT₁ ?_);show wpAny _ _ (Builtin.Dict_items.pairFromOwner (.ref it) 6 es[i].key es[i].val) _ _ ⟨h₁,g,dr,tk,os⟩;unfold Builtin.Dict_items.pairFromOwner;refine A0 (wpAny_newTuple ?_);have he₂:IsItemIter (h₁.push { cls:=.type "tuple",data:=.seq #[es[i].key,es[i].val] }) it d (i + 1) es.size ep ok ov:=A4 _ he₁;generalize hh₂:h₁.push { cls:=.type "tuple",data:=.seq #[es[i].key,es[i].val] }=h₂ at he₂;have hz₁:h₁.objs.size=hp.objs.size:=hs₁.1;have hil:it < hp.objs.size:=A6 hit;have ht₂:h₂.get? hp.objs.size=some { cls:=.type "tuple",data:=.seq #[es[i].key,es[i].val] }:=by rw [<- hh₂,<- hz₁]; exact A5 _ rfl
 have hz₂:h₂.objs.size=hp.objs.size + 1:=by rw [<- hh₂,Heap.size_push,hz₁]
 have hk₂:∀b o,b≠it->hp.get? b=some o->h₂.get? b=some o:=λ b o hb e=>by rw [<- hh₂]; exact A4 _ (hs₁.extBut b o hb e)
 show wpAny _ _ (Builtin.Dict_items.ownedTupleIsFree (.ref it) >>= _) _ _ ⟨h₂,g,dr,tk,os⟩;rw [hz₁];clear hh₂ he₁ hs₁ hT₁ hz₁ h₁;refine A0 ?_;unfold Builtin.Dict_items.ownedTupleIsFree;refine A0 (wpAny_field he₂ rfl (x:=.none) rfl (A1 ?_));simp only [if_true];refine A0 (wpAny_field he₂ rfl (x:=ok) rfl ?_);refine A0 (wpAny_field he₂ rfl (x:=ov) rfl ?_);refine A0 (wpAny_setField_rec he₂ (by simp) λ h₃ he₃ hs₃=>?_)
 replace hs₃:Heap.SameBut it h₂ h₃:=hs₃
 replace he₃:IsItemIter h₃ it d (i + 1) es.size ep es[i].key ov:=he₃
 refine A0 (wpAny_setField_rec he₃ (by simp) λ h₄ he₄ hs₄=>?_)
 replace hs₄:Heap.SameBut it h₃ h₄:=hs₄
 replace he₄:IsItemIter h₄ it d (i + 1) es.size ep es[i].key es[i].val:=he₄
 refine A0 (wpAny_setField_rec he₄ (by simp) λ h₅ he₅ hs₅=>?_)
 replace hs₅:Heap.SameBut it h₄ h₅:=hs₅
 replace he₅:IsItemIterOut h₅ it d (i + 1) es.size ep es[i].key es[i].val hp.objs.size:=he₅
 refine A0 (wpAny_setField_rec he₅ (by simp) λ h₆ he₆ hs₆=>?_)
 replace hs₆:Heap.SameBut it h₅ h₆:=hs₆
 replace he₆:IsItemIterOut h₆ it d (i + 1) es.size ep es[i].key es[i].val hp.objs.size:=he₆
 refine A0 (wpAny_letGo (A1 (A1 ⟨_,rfl,A1 (hQ h₆ he₆ ?_ ?_ ?_)⟩)))
 ·exact hs₆.extBut _ _ (Nat.ne_of_gt hil) (hs₅.extBut _ _ (Nat.ne_of_gt hil) (hs₄.extBut _ _ (Nat.ne_of_gt hil) (hs₃.extBut _ _ (Nat.ne_of_gt hil) ht₂)))
 ·show h₆.objs.size=hp.objs.size + 1;rw [hs₆.1,hs₅.1,hs₄.1,hs₃.1,hz₂]
 ·exact λ b o hb e=>hs₆.extBut b o hb (hs₅.extBut b o hb (hs₄.extBut b o hb (hs₃.extBut b o hb (hk₂ b o hb e))))
theorem bS {it d:Addr} {i ep:Nat} {es:Array DictEntry} {ok ov:FF} {Q:Option FF->FB->Prop} (hh:A.handled=none) (hit:IsItemIter s.heap it d i es.size ep ok ov)
  (hm:(∃o,s.heap.get? d=some o/\o.ExactDict/\o.data=.dict es ep)) (hx:es[i]? = none)
  (hQ:∀h',Heap.ExtBut it s.heap h'->Q none { s with heap:=h' }):wpAny (model prog w) A (pyNext (.ref it)) Q E s:=by
 obtain ⟨od,hod,hcd,hdd⟩:=id hm;have hT:s.TypeIs (.ref it) "dict_itemiterator" := ⟨_,hit,Y⟩
 unfold pyNext;refine A0 (wpAny_attempt (wpAny_callSpecial?_slot (name:=Str.ofString "__next__") hT F.slot_dict_itemiterator_next
  (E7 F.slot_dict_itemiterator_next hT F.entry_dict_itemiterator_next ?_ (F.args_dict_itemiterator_next_1 _))))
 refine A0 (A1 ?_);refine A0 ?_;refine A0 ?_
 first | refine A0 (wpAny_typeNameOfWhole_itemiter hT (A1 ?_)) | refine A0 (wpAny_typeNameOf_itemiter hT (A1 ?_))
 refine A0 (wpAny_fieldsOf hit rfl ?_);have hown:Builtin.Dict_items.ownsTuple "dict_itemiterator" = true:=∅
 simp only [hown,if_true];show wpAny _ _ (if (Value.ref d == Value.none)=true then _ else _) _ _ s;rw [if_neg (show ¬ ((Value.ref d == Value.none)=true) from Bool.false_ne_true)];refine A0 (A1 ?_);refine A0 (wpAny_dictEntries hod hdd ?_);have hsz:es.size=es.size:=rfl;rw [if_neg (by simp)];refine A0 (A1 ?_);refine A0 (wpAny_dictEpoch hod hdd ?_);rw [if_neg (by simp)];refine A1 ?_;have hge:es.size<=i:=by simpa using hx
 simp only [show ¬ ((i:Int) < 0) from by omega,if_false,Int.toNat_natCast,Array.getElem?_eq_none hge];refine A0 ?_
 first | refine A0 (wpAny_typeNameOfWhole_itemiter hT (A1 ?_)) | refine A0 (wpAny_typeNameOf_itemiter hT (A1 ?_))
 show wpAny _ _ (setField (.ref it) 2 .none >>= _) _ _ s;refine A0 (wpAny_setField hit rfl (by simp) ?_);show wpAny _ _ (newExc (.type "StopIteration") [] >>= _) _ _ _;refine A0 ?_;simp only [newExc,newTuple];refine A0 (E8 ?_ (by size_fits));refine A0 (m:=firstArgMember _ _) (wpAny_of_eq (a:=Value.none) (by first | rfl | (simp only [firstArgMember]; rfl)) ?_);refine E8 ?_ (by size_fits);simp only [raiseNew];refine A0 (wpAny_handled ?_);rw [show A.in1.handled=none from hh];refine A0 (A1 (wpAny_throw ?_));refine A0 (wpAny_isInstance (T := "StopIteration") (b:=true) ⟨_,A5 _ rfl,rfl⟩ isSubtype_stop ?_);exact A1 (hQ _ (((Heap.SameBut.update ..).extBut.push _).push _))
theorem gF:entryFor table "dict_itemiterator.__iter__" = some Builtin.«dict_keyiterator.__iter__» :=
 entryFor_alias (id' := "dict_keyiterator.__iter__") (by kernel_rfl) rfl ∅ (by kernel_rfl)
theorem cb {it d:Addr} {i n ep:Nat} {ok ov:FF} {Q:FF->FB->Prop} (hit:IsItemIter s.heap it d i n ep ok ov) (h:Q (.ref it) s):wpAny (model prog w) A (pyIter (.ref it)) Q E s:=by
 have hT:s.TypeIs (.ref it) "dict_itemiterator" := ⟨_,hit,Y⟩
 refine wpAny_pyIter_slot hT F.slot_dict_itemiterator_iter (E7 F.slot_dict_itemiterator_iter hT gF ?_ (F.args_dict_itemiterator_iter_1 _));show wpAny _ _ (ret (.ref it)) _ _ s;exact A1 ⟨_,rfl,"dict_itemiterator",_,hT,F.slot_dict_itemiterator_next.lookup,h⟩
theorem pC {d:Addr} {o:Obj} {Q:FF->FB->Prop} (ho:s.heap.get? d=some o) (hc:o.ExactDict) (hz:(d == sysModules)=false) (h:Q (.ref s.heap.objs.size) { s with heap:=s.heap.push { cls:=.type "dict_items",data:=.fields #[.ref d] } }) :
  wpAny (model prog w) A (call (.builtin "dict.items") [.ref d]) Q E s:=by
 have ty:s.TypeIs (.ref d) "dict" := ⟨o,ho,hc.1⟩
 refine call_meetsIn (S:=λ _ R s'=>s'=s/\R (.ok (.ret (.ref s.heap.objs.size))) { s with heap:=s.heap.push { cls:=.type "dict_items", data:=.fields #[.ref d] } }) PySem.F.slot_dict_items ty PySem.F.entry_dict_items (PySem.F.args_dict_items_1 _) (.of_wp λ A R s' ⟨e, h⟩=>?_) ⟨rfl, h⟩;subst e;unfold Builtin.«dict.items»;refine A0 ?_;unfold Builtin.Dict.noArgs;refine A0 (wpAny_notOrdered_dict ty ?_);show wpAny _ _ (pure d) _ _ s';refine A1 ?_;show wpAny _ _ (Builtin.Dict.showsAll d >>= _) _ _ s';unfold Builtin.Dict.showsAll;rw [if_neg (by rw [hz]; exact Bool.false_ne_true)];refine A0 (A1 ?_);exact A0 (E8 (A1 ⟨_,rfl,h⟩))
end
end PySem
namespace L2
open PySem PySem.Spec PyProof.Rows
def Iti (a:Addr) (ob:Obj) (kvs:List (List Key×V)):It :=
 ⟨λ i H=>i < kvs.length/\H a=some (.frz ob (.dT kvs)),λ i H x H'=>∃p q k v,kvs[i]? = some (k,v)/\H p=none/\H q= ~~~(k.map kV)/\x=.ref p/\H'=upd H p (.tup [.ref q,v]),λ i H=>i=kvs.length/\H a=some (.frz ob (.dT kvs))⟩
theorem ko {P:FC} {w:FE} {K:C1} {el:List Expr} {kk:Nat} {tp:Pos} (a it:Addr) (ob:Obj) (kvs:List (List Key×V)) (es:Array DictEntry) (ep:Nat) (hx:ob.ExactDict) (hd:ob.data=.dict es ep) (hn:es.size=kvs.length) :
  Turn P w K (.Tuple el kk tp) (Iti a ob kvs) [it] it (λ i h=>∃ok ov,IsItemIter h it a i es.size ep ok ov) where
 mem:=by simp
 obj:=λ i h st b hb=>by
  have e:b=it:=by simpa using hb
  subst e;obtain ⟨ok,ov,st⟩:=st;exact ⟨_,st,λ v z=>by cases z⟩
 keep:=λ i h h' ⟨ok,ov,st⟩ k=>⟨ok,ov,k it (by simp) _ st⟩
 item:=by
  intro X hP hw hK hc i pins s σ H E I hf st hg;subst hP hw hK;obtain ⟨hi,hH⟩:=hg;obtain ⟨ok,ov,st⟩:=st;obtain ⟨h1,_,_,xs,pr,o,es',ep',h2,_,h3,h4,_⟩:=(show ObjOk X.prog X.w H s.heap a (.frz ob (.dT kvs)) from I.hok a _ hH)
  rw [h1] at h2;cases h2;rw [hd] at h3;cases h3;have hk:kvs[i]? = some kvs[i]:=E5 hi;obtain ⟨⟨k',q,v'⟩,hy,e1,e2,e3⟩:=dq pr hk;have hen:es[i]? = some (entryOfKey (tupleKind (ax X.prog X.w)) (k',q,v')):=by rw [<- Array.getElem?_toList,h4,List.getElem?_map,hy]; rfl
  have il:it < s.heap.objs.size:=A6 st;refine bN st ⟨ob,h1,hx,hd⟩ hen λ h' b1 b2 b3 bk=>⟨_,Y,?_⟩
  refine wpAny_letOwnedTupleGo_items (s:={ s with heap:=h' }) b1 λ h'' c1 cs=>?_;have cs:Heap.SameBut it h' h'':=cs;have k2:∀b o,b∉[it]->s.heap.get? b=some o->h''.get? b=some o:=λ b o hb q=>by
   have hb:b≠it:=by simpa using hb
   exact cs.extBut b o hb (bk b o hb q)
  have I1:Inv X pins σ H { s with heap:=h'' }:=I.turnedN (t':=s.toks) hf k2;have hp:=cs.extBut _ _ (Nat.ne_of_gt il) b2;have hn0:H s.heap.objs.size=none:=I.hok.fresh (B0 _);have fpk:=I.fpOk (H':=H) (B0 _) hn0;have I2:Inv X pins σ (upd H s.heap.objs.size (.tup [.ref q,kvs[i].2])) { s with heap:=h'' }:=I1.track fpk I.sz ⟨by show 2<=sizeLine; decide,[.ref q,v'],.cons rfl (.cons e3 .nil),_,hp,Y,_,Y⟩;refine ⟨.ref s.heap.objs.size,_,I2,Y,⟨_,q,_,_,hk,hn0,e2,Y,Y⟩,⟨_,_,c1⟩,λ b hb=>?_⟩;have e:b=it:=by simpa using hb
  subst e;rw [aj (Nat.ne_of_lt il)];exact (hf b hb).1
 done:=by
  intro X hP hw hK hc i pins s σ H E I hf st hg;subst hP hw hK;obtain ⟨hi,hH⟩:=hg;obtain ⟨ok,ov,st⟩:=st;obtain ⟨h1,_⟩:=(show ObjOk X.prog X.w H s.heap a (.frz ob (.dT kvs)) from I.hok a _ hH)
  obtain ⟨f0,f1,f2,f3,f4,f5⟩:=hf it (by simp);exact bS (I.ok.hd hc) st ⟨ob,h1,hx,hd⟩ (by rw [Array.getElem?_eq_none]; omega) λ h' eb=>⟨Y,I.turned (t':=s.toks) (λ b o hb e=>eb b o hb e) f0 f1 f3 f4 f5⟩
 self:=λ A i s Q E ⟨ok,ov,st⟩ h=>cb st h
section
variable {X:Cx}
def uz (tl:TE):TI:=λ σ H R=>tl σ H λ x H1=>∃a kvs,x=.ref a/\H1 a=some (.dT kvs)/\∀ob,R (Iti a ob kvs) (upd H1 a (.frz ob (.dT kvs)))
theorem gG {l:Expr} {tl:TE} {apos cpos tp:Pos} {el:List Expr} {kk:Nat} (hl:PE X l tl)
  (hbase:attributeBase l "items" X.env (eval l X.env)=eval l X.env:=by rfl) (hline:(apos.endLine == cpos.line)=true:=by rfl):PI X (.Tuple el kk tp) (.Call (.Attribute l "items" apos) [] [] cpos) (uz tl):=by
 intro pins s σ H R I h;refine wpAny_Call_method0_late hbase hline (thn (hl pins s σ H _ I h) λ v s1 ⟨x,H1,I1,r1,a,kvs,e,hH,q⟩=>?_);subst e;cases r1;obtain ⟨hz,hs,xs,pr,o,es,ep,h1,h2,h3,h4,h5⟩:=(show ObjOk X.prog X.w H1 s1.heap a (.dT kvs) from I1.hok a _ hH)
 have hn:es.size=kvs.length:=by rw [cN pr,<- Array.length_toList,h4,List.length_map]
 have I2:Inv X pins σ (upd H1 a (.frz o (.dT kvs))) s1:=by
  have:=I1.write (x:=a) (e:=a) (o:=.frz o (.dT kvs)) (h':=s1.heap) (t':=s1.toks) (by rw [hH]; trivial) (.inl rfl) (λ b u _ e=>e) ⟨o,h1⟩ ⟨h1,hz,hs,xs,?_,o,es,ep,h1,h2,h3,h4,h5⟩
  ·exact this
  ·refine js pr λ p q ⟨e1,e2,e3⟩=>⟨e1,?_,e3⟩
   rw [aj (λ z=>by rw [z,hH] at e2; cases e2)];exact e2
 refine ⟨"dict","dict.items",PySem.F.plainAttrs_dict,PySem.F.slot_dict_items,PySem.F.type_dict_items,⟨o,h1,h2.1⟩,(λ b e2=>by cases e2; exact ⟨o,h1,h2.2.1⟩),Calls.callWith_builtin rfl (PySem.evalArgs_none (pC h1 h2 hs ?_))⟩;have h1':(s1.heap.push { cls:=.type "dict_items", data:=.fields #[.ref a] }).get? a=some o:=A4 _ h1;refine ck (d:=a) (es:=es) (ep:=ep) ⟨_,A5 _ rfl,rfl,rfl⟩ ⟨o,h1',h2,h3⟩ ?_;refine ⟨_,[_],_,_,_,Y,I2.kept (t':=s1.toks) λ b o e=>A4 _ (A4 _ e),ko a _ o kvs es ep h2 h3 hn,⟨_,_,A5 _ rfl⟩,λ b hb=>?_,q o⟩;have e:b=(s1.heap.push { cls:=.type "dict_items",data:=.fields #[.ref a] }).objs.size:=by simpa using hb
 have hb':s1.heap.objs.size<=b:=by rw [e,Heap.size_push]; omega
 exact I2.fpOk hb' (I2.hok.fresh hb')
end
theorem kq {a:Addr} {ob:Obj} {kvs:List (List Key×V)} {σ:St} {cap:List Nat} {k:Nat} {g:TG} {tt:TT} {te:TE} {Q:List V->Hp->Prop} {H:Hp} (Pv:Nat->List V->Hp->Prop) (h0:Pv 0 [] H)
  (hl:∀i ys H',i<=kvs.length->Pv i ys H'->H' a=some (.frz ob (.dT kvs)))
  (ht:∀i kk v p q ys H',kvs[i]? = some (kk,v)->H' p=none->H' q= ~~~(kk.map kV)->Pv i ys H'->g (.ref p) (aU σ cap k) (upd H' p (.tup [.ref q,v])) λ σ2 H2=>leS (aU σ cap k) σ2/\tt σ2 H2 λ ok H3=>if ok=true then te σ2 H3 (λ v H4=>Nx kvs.length Pv i (ys ++ [v]) H4) else Nx kvs.length Pv i ys H3)
  (hz:∀i ys H',i < kvs.length->Pv i ys H'->ys.length < sizeLine) (hd:∀ys H',Pv kvs.length ys H'->ys.length<=sizeLine/\Q ys H'):∃W,(∃m,W 0 m [] H)/\dU σ cap k (Iti a ob kvs) g tt te Q W:=by
 refine ⟨λ i m ys H'=>m=kvs.length - i/\i<=kvs.length/\Pv i ys H',⟨_,Y,E2 _,h0⟩,?_⟩;rintro i m ys H' ⟨rfl,hi,p⟩;have q:=hl i ys H' hi p
 by_cases hin:i < kvs.length
 ·refine .inr ⟨⟨hin,q⟩,hz i ys H' hin p,λ x H2 yl=>?_⟩;obtain ⟨pa,qa,k',v',e1,e2,e3,e4,e5⟩:=yl;subst e4 e5;exact ht i k' v' pa qa ys _ e1 e2 e3 p
 ·have e:i=kvs.length:=⋯
  subst e;obtain ⟨a1,a2⟩:=hd ys H' p;exact .inl ⟨⟨Y,q⟩,a1,a2⟩
section
variable {P:FC} {w:FE} {K:C1} {mg:Str->Option FF} {base:Heap}
theorem FnOk.weak {k:Nat} {f:Addr} {fd:FD} {ps:List Str} {sp:Sp} (F:FnOk P w K mg base CX0 k f fd ps sp):FnOk P w K mg base (CXx P w) k f fd ps sp :=
 ⟨F.len,λ A outer s H args us vs Q E hr he hb hv hs=>codeAny_mono (F.run A outer s H args us vs Q E hr he hb hv hs) λ r s' h=>by
  cases r with
  | ok r=>cases r <;> exact h
  | error e=>exact E1 h⟩
theorem FnOk.or {CX:CXT} {k:Nat} {f:Addr} {fd:FD} {ps:List Str} {sp sp':Sp} (F:FnOk P w K mg base CX k f fd ps sp) (G:FnOk P w K mg base CX k f fd ps sp'):FnOk P w K mg base CX k f fd ps (λ vs H Q E=>sp vs H Q E\/sp' vs H Q E) :=
 ⟨λ vs H Q E h=>h.elim (F.len vs H Q E) (G.len vs H Q E),λ A outer s H args us vs Q E hr he hb hv hs=>hs.elim (F.run A outer s H args us vs Q E hr he hb hv) (G.run A outer s H args us vs Q E hr he hb hv)⟩
variable {N:List Str} {qual:Str} {scope:Scope} {f:Addr} {cd:FF} {A:Around} {outer:List Env} {s₀:FB} {H₀:Hp} {E:XK}
theorem fU {e:Expr} {tx:TX} (he:PEx (eF (CXx P w) P w K mg base N qual scope f cd A outer s₀ H₀ E) e tx):PE (eF (CXx P w) P w K mg base N qual scope f cd A outer s₀ H₀ E) e (λ σ H Q=>tx σ H Q E) :=
 λ pins s σ H Q I h=>wpAny_mono (he pins s σ H Q E I h) (λ _ _ z=>z) λ v s1 hx=>rp hx
end
section
variable {X:Cx}
theorem cu:ce X (.builtin "isinstance") (λ xs H Q=>∃a C cv c b,ExK X.K C/\xs=[.ref a,cv]/\H a=some (.ext (IsA a (.ref C)))/\clV cv=some c/\PySem.W.kitOne X.K (.ref C) c=some b/\Q (.bl b) H) :=
 λ pins s σ H xs us Q I rv ⟨a,C,cv,c,b,F0,e1,e2,e3,e4,q⟩=>iF F0 pins s σ H xs us Q I rv ⟨a,cv,c,b,e1,e2,e3,e4,q⟩
theorem dX:ce X (.builtin "isinstance") (λ xs H Q=>∃a C p cvs cs b,ExK X.K C/\xs=[.ref a,.ref p]/\H a=some (.ext (IsA a (.ref C)))/\H p= ~~~cvs/\clVs cvs=some cs/\PySem.W.kitAny X.K (.ref C) cs=some b/\Q (.bl b) H) :=
 λ pins s σ H xs us Q I rv ⟨a,C,p,cvs,cs,b,F0,e1,e2,e3,e4,e5,q⟩=>gT F0 pins s σ H xs us Q I rv ⟨a,p,cvs,cs,b,e1,e2,e3,e4,e5,q⟩
end
end L2
namespace PySem
open PySem.W
section
variable {prog:FC} {w:FE} {A:Around} {E:FF->FB->Prop} {s:FB} {d a:Addr} {o:Obj} {es:Array DictEntry} {ep:Nat} {K:Type} [DecidableEq K] {knd:HeapKind prog w K} {k:K} {xs:List (K×Addr×FF)}
theorem ft {α β:Type} (f:α->β):∀ (l:List α) (j:Nat),(l.map f).eraseIdx j=(l.eraseIdx j).map f
 | [],_=>rfl
 | _ :: _,0=>rfl
 | a :: l,j + 1=>congrArg (f a :: ·) (ft f l j)
theorem CT {j:Nat} {p:Addr×FF} {Q:FF->FB->Prop} (hu:knd.room A.in1) (hkey:knd.is s.heap k a) (ho:s.heap.get? d=some o) (hc:o.ExactDict) (hd:o.data=.dict es ep) (he:es.toList=xs.map (entryOfKey knd)) (his:∀x∈xs,knd.is s.heap x.1 x.2.1) (hn:(xs.map (·.1)).Nodup) (hj:xs[j]? = some (k,p)) (hes:es.size<=sizeLine)
  (h:∀h' o' es' ep',h'.get? d=some o'->o'.ExactDict->o'.data=.dict es' ep'->es'.toList=(xs.eraseIdx j).map (entryOfKey knd)->Heap.SameBut d s.heap h'->Q p.2 { s with heap:=h',toks:=s.toks + knd.draws k }) :
  wpAny (model prog w) A (call (.builtin "dict.pop") [.ref d,.ref a]) Q E s:=by
 have ty:s.TypeIs (.ref d) "dict" := ⟨o,ho,hc.1⟩
 refine call_meetsIn (S:=λ A' R s'=>A'=A/\s'=s/\∀h' o' es' ep',h'.get? d=some o'->o'.ExactDict->o'.data=.dict es' ep'->es'.toList=(xs.eraseIdx j).map (entryOfKey knd)->Heap.SameBut d s.heap h'->R (.ok (.ret p.2)) { s with heap:=h',toks:=s.toks + knd.draws k }) PySem.F.slot_dict_pop ty PySem.F.entry_dict_pop (PySem.F.args_dict_pop_2 _ _) (.of_wp λ A' R s' ⟨e0,e,h⟩=>?_) ⟨rfl,rfl,λ h' o' es' ep' h1 h2 h3 h4 h5=>h h' o' es' ep' h1 h2 h3 h4 h5⟩;subst e e0;unfold Builtin.«dict.pop»;refine A0 ?_;unfold Builtin.Dict.keyAndDefault;refine A0 (wpAny_notOrdered_dict ty ?_);show wpAny _ _ (pure (d,Value.ref a,none)) _ _ s';refine A1 ?_;have jl:j < xs.length:=(A3.mp hj).1;have sz:es.size=xs.length:=size_of_entries he;show wpAny _ _ (dictEntries d >>= _) _ _ s';refine A0 (wpAny_dictEntries ho hd (A0 (A1 ?_)));rw [show es.isEmpty=false from Bool.eq_false_iff.mpr λ z=>by rw [Array.isEmpty_iff.mp z] at sz; exact absurd sz (by simp; omega)];show wpAny _ _ (Builtin.Dict.takeOut d (.ref a) >>= _) _ _ s';refine A0 ?_;unfold Builtin.Dict.takeOut
 try with_reducible refine wpAny_holding ?_
 refine A0 (knd.pyHash hu hkey (A0 (wpAny_dictFind_heap (s:={ s' with toks:=s'.toks + knd.draws k }) hu hkey ho hd he his hn (λ hno=>absurd hj (hno _ _)) λ j' p' hj'=>?_)));have ej:j'=j:=(List.getElem?_inj (by simpa using (A3.mp hj').1) hn).mp (by simp [hj,hj']);subst ej;rw [hj] at hj';cases hj';refine A0 (wpAny_dictEntries (s:={ s' with toks:=s'.toks + knd.draws k }) ho hd ?_);rw [entry_at he j',hj];refine A0 (wpAny_updateDictKeys (hz:=hes) (s:={ s' with toks:=s'.toks + knd.draws k }) ho hd (A1 ?_));simp only [Option.isNone_some,Bool.false_eq_true,if_false];refine A0 (wpAny_letGo (A1 ⟨p.2,rfl,h _ _ _ (ep + 1) (Heap.get?_update_self _ ho (Obj.isFreed_of_dict (Obj.data_mapDictKeys hd _))) (hc.mapDictKeys _) (Obj.data_mapDictKeys hd _) ?_ (Heap.SameBut.update ..)⟩));obtain ⟨l⟩:=es;simp only [List.eraseIdxIfInBounds_toArray] at he ⊢;show l.eraseIdx j'=_;rw [show l=_ from he,ft]
theorem jt {x:Str} {t:Tok} {stored:List FF} {Q:Bool->FB->Prop} (hst:∀v∈stored,∃k' b,v=.ref b/\knd.is s.heap k' b) (h:Q false s):wpAny (model prog w) A (tableMayTell (.str x t) stored) Q E s:=by
 unfold tableMayTell
 split
 ·exact A1 h
 ·show wpAny _ _ (pure true >>= _) _ _ s;refine A0 (A1 ?_);simp only [Bool.not_true,Bool.false_eq_true,if_false];refine A0 ?_;refine wpAny_forIn_list _ (λ rest r s'=>s'=s/\r=(none,())/\∀v∈rest,∃k' b,v=.ref b/\knd.is s.heap k' b) _ ?_ ?_ _ _ ⟨rfl,rfl,hst⟩
  ·rintro x rest r s' ⟨rfl,rfl,hr⟩;obtain ⟨k',b,rfl,hb⟩:=hr x B4;refine A0 (knd.quiet hb ?_);simp only [Bool.not_true,Bool.false_eq_true,if_false];exact A1 ⟨rfl,rfl,λ v hv=>hr v (B1 _ hv)⟩
  ·rintro r s' ⟨rfl,rfl,_⟩;exact A1 h
theorem iK {x:Str} {t:Tok} {h:Int} {Q:Option Nat->FB->Prop} (hu:A.units < cLine) (ho:s.heap.get? d=some o) (hd:o.data=.dict es ep) (hk:∀e∈es,∃b k items,e.key=.ref b/\knd.is s.heap k b/\s.heap.IsTuple b items) (hq:Q none s):wpAny (model prog w) A (dictFind d (.str x t) h) Q E s:=by
 have one:∀ (i:Nat) e,es[i]? = some e->SeqAt.EqAt A s e.key (.str x t) false:=λ i e he=>by obtain ⟨b,k,items,e1,_,e2⟩:=hk e (Array.mem_of_getElem? he);rw [e1];exact SeqAt.EqAt.tuple_str x t e2 hu
 unfold dictFind
 try with_reducible refine wpAny_holding ?_
 refine A0 (wpAny_dictEntries ho hd ?_);dsimp only
 by_cases hall:(es.all λ e=>isExactStrKey e.key)=true
 ·rw [if_pos hall];have e0:es=#[]:=by
   rw [Array.eq_empty_iff_size_eq_zero];rcases Nat.eq_zero_or_pos es.size with z | z
   ·exact z
   ·have:=Array.all_eq_true.mp hall 0 z;obtain ⟨b,_,_,e1,_⟩:=hk es[0] (Array.getElem_mem z);rw [e1] at this; cases this
  subst e0;unfold foundByValue;rw [show (#[]:Array DictEntry).findIdx? (λ y=>y.key.isStr x)=none by simp];exact A1 hq
 ·rw [if_neg hall];have hst:∀v∈(placesWithHash es.size (λ i=>es[i]?.map (·.hash)) h).filterMap (λ i=>es[i]?.map (·.key)),∃k' b,v=.ref b/\knd.is s.heap k' b:=by
   intro v hv;obtain ⟨i,_,hi⟩:=List.mem_filterMap.mp hv;cases hei:es[i]? with
   | none=>rw [hei] at hi; cases hi
   | some e =>
    rw [hei] at hi;obtain rfl:e.key=v:=by simpa using hi
    obtain ⟨b,k,_,e1,e2,_⟩:=hk e (Array.mem_of_getElem? hei);exact ⟨k,b,e1,e2⟩
  by_cases hc:((Value.str x t :: (placesWithHash es.size (λ i=>es[i]?.map (·.hash)) h).filterMap (λ i=>es[i]?.map (·.key))).all carriedByValue)=true
  ·rw [if_pos hc];unfold dictWalkPlain;refine A0 ?_;refine wpAny_forIn_list _ (λ rest b s'=>s'=s/\b.1=none) _ ?_ ?_ _ _ ⟨rfl,rfl⟩
   ·rintro i rest ⟨b1,b2⟩ s' ⟨rfl,rfl⟩;cases hei:es[i]? with
    | none=>exact A1 ⟨rfl,rfl⟩
    | some e =>
     dsimp only
     split
     ·refine A0 (wpAny_dictEpoch ho hd (A0 (one i e hei prog w _ _ (A0 (wpAny_dictEpoch ho hd ?_)))));rw [if_neg (by simp)];simp only [Bool.false_eq_true,if_false];exact A0 (wpAny_rule (A1 ⟨rfl,rfl⟩))
     ·exact A1 ⟨rfl,rfl⟩
   ·rintro ⟨b1,b2⟩ s' ⟨rfl,rfl⟩;exact A1 hq
  ·rw [if_neg hc]
   by_cases hone:(((placesWithHash es.size (λ i=>es[i]?.map (·.hash)) h).filterMap (λ i=>es[i]?.map (·.key))) == [Value.str x t])=true <;>
   (first | rw [if_pos hone] | rw [if_neg hone]) <;> (first | refine A0 (A1 ?_) | refine A0 (jt hst ?_)) <;> (
    rw [if_neg (by simp)];refine A0 ?_;refine wpAny_forIn_list _ (λ rest b s'=>s'=s/\b=(none,none)) _ ?_ ?_ _ _ ⟨rfl,rfl⟩
    ·rintro i rest b s' ⟨rfl,rfl⟩;cases hei:es[i]? with
     | none=>exact A1 ⟨rfl,rfl⟩
     | some e =>
      dsimp only
      split
      ·refine A0 (wpAny_dictEpoch ho hd (A0 (one i e hei prog w _ _ (A0 (wpAny_dictEpoch ho hd ?_)))));rw [if_neg (by simp)];simp only [Bool.false_eq_true,if_false];refine A0 (wpAny_rule ?_)
       first | rw [if_neg (by simp)] | skip
       first | exact A1 ⟨rfl,rfl⟩ | exact A0 (A1 (A1 ⟨rfl,rfl⟩))
      ·exact A1 ⟨rfl,rfl⟩
    ·rintro b s' ⟨rfl,rfl⟩;exact A1 hq)
theorem ju {x:Str} {t:Tok} {v:FF} {Q:Unit->FB->Prop} (hu:A.units + 1 < cLine) (ho:s.heap.get? d=some o) (hc:o.ExactDict) (hd:o.data=.dict es ep) (hk:∀e∈es,∃b k items,e.key=.ref b/\knd.is s.heap k b/\s.heap.IsTuple b items) (hes:es.size<=sizeLine)
  (hQ:∀h' o' ep',h'.get? d=some o'->o'.ExactDict->o'.data=.dict (es.push ⟨hashStr w x,.str x t,v⟩) ep'->Heap.SameBut d s.heap h'->Q () { s with heap:=h',toks:=s.toks + 1 }) :
  wpAny (model prog w) A (setItem (.ref d) (.str x t) v) Q E s:=by
 have ty:s.TypeIs (.ref d) "dict" := ⟨o,ho,hc.1⟩
 unfold setItem
 try with_reducible refine wpAny_holding ?_
 refine A0 (wpAny_sequenceKey ty ∅ ?_);refine A0 (wpAny_callSpecial?_slot (name:=Str.ofString "__setitem__") ty slot_dict_setitem
  (E7 slot_dict_setitem ty entry_dict_setitem ?_ (args_dict_setitem _ _ _)))
 show wpAny _ _ (Builtin.Dict.notOrdered "__setitem__" ⟨[.ref d,.str x t,v],[]⟩ >>= _) _ _ s;refine A0 (wpAny_notOrdered_dict ty ?_);show wpAny _ _ (dictSet d (.str x t) v >>= _) _ _ s;refine A0 ?_;unfold dictSet
 try with_reducible refine wpAny_holding ?_
 refine A0 (wpAny_pyHash_str ?_);unfold dictSetHashed
 try with_reducible refine wpAny_holding ?_
 refine A0 (iK (s:={ s with toks:=s.toks + 1 }) (knd:=knd) (es:=es) (by show A.units + 1 < cLine; exact hu) ho hd hk ?_);exact A0 (wpAny_rule (wpAny_updateDictKeys (hz:=hes) (s:={ s with toks:=s.toks + 1 }) ho hd (A1 ⟨.none,rfl,A1 (hQ _ _ (ep + 1) (Heap.get?_update_self _ ho (Obj.isFreed_of_dict (Obj.data_mapDictKeys hd _))) (hc.mapDictKeys _) (Obj.data_mapDictKeys hd _) (Heap.SameBut.update ..))⟩)))
theorem CU {Q:FF->FB->Prop} (hS:(d == sysModules)=false) (ho:s.heap.get? d=some o) (hc:o.ExactDict) (hd:o.data=.dict es ep) (hfit:(es.size:Int) < 2 ^ 63)
  (h:Q (.int es.size (s.toks + 1)) { s with toks:=s.toks + 1 + 1 }):wpAny (model prog w) A (call (.builtin "len") [.ref d]) Q E s:=by
 have ht:s.TypeIs (.ref d) "dict" := ⟨o,ho,hc.1⟩
 refine Calls.call_function_entry kind_len plain_len entry_len (args_len1 _) ?_;unfold Builtin.«len»;refine A0 (m:=oneArg "len" _) (A1 ?_);refine A0 (m:=callSpecial? (.ref d) (Str.ofString "__len__")) (wpAny_callSpecial?_slot (name:=Str.ofString "__len__") ht F.slot_dict_len (call_meetsIn (S:=λ _ R s'=>s'=s/\R (.ok (.ret (.int es.size s.toks))) { s with toks:=s.toks + 1 }) F.slot_dict_len ht F.entry_dict_len (F.args_dict_len_1 _) (.of_wp λ A R s' ⟨e, hR⟩=>?_) ⟨rfl, ?_⟩))
 ·subst e;show wpAny _ _ (dictSize d >>= _) _ _ s';unfold dictSize;refine A0 (A0 (wpAny_dictEntries ho hd (A1 ?_)));show wpAny _ _ (Builtin.Dict.pendingCount d >>= _) _ _ s';refine A0 (wpAny_pendingCount_other hS (wpAny_ret_mkInt ?_));rw [Nat.add_zero];exact hR
 show wpAny _ _ _ _ _ { s with toks:=s.toks + 1 };refine A0 (wpAny_holding (A1 (A0 (wpAny_letGo ?_))));show wpAny _ _ (if ((es.size:Nat):Int) < 0 then _ else _) _ _ _;rw [if_neg ⋯];show wpAny _ _ (if ((es.size:Nat):Int)≥2 ^ 63 then _ else _) _ _ _;rw [if_neg ⋯];exact A0 (wpAny_mkInt (A1 ⟨_,rfl,h⟩))
end
end PySem
namespace L2
open PySem PySem.Spec PyProof.Rows
section
variable {X:Cx}
theorem tE {α β:Type} {F:α->β->Prop}:∀ {l₁:List α} {l₂:List β} (i:Nat),Paired F l₁ l₂->Paired F (l₁.eraseIdx i) (l₂.eraseIdx i)
 | _,_,_,.nil=>.nil
 | _,_,0,.cons _ r=>r
 | _,_,i + 1,.cons h r=>.cons h (tE i r)
theorem eO (hu:X.A.units + 1 < cLine):MtR X "dict.pop" (λ x ys H Q=>∃ (a b:Addr) (kvs:List (List Key×V)) (k:List Key) (i:Nat) (v:V),x=.ref a/\ys=[.ref b]/\H a=some (.dT kvs)/\H b= ~~~(k.map kV)/\kvs[i]? = some (k,v)/\Q v (upd H a (.dT (kvs.eraseIdx i)))):=by
 intro pins s σ H x ys v us Q I rx rv h;obtain ⟨a,b,kvs,k,i,v',rfl,rfl,hH,hb,hi,q⟩:=h;cases rx;obtain ⟨u,rfl,ru⟩:=dh rv;cases ru;obtain ⟨hz,hs,xs,pr,o,es,ep,h1,h2,h3,h4,h5⟩:=(show ObjOk X.prog X.w H s.heap a (.dT kvs) from I.hok a _ hH)
 obtain ⟨_,_,xs',pr',dd⟩:=tD I.hok hH;have hn:es.size=kvs.length:=by rw [cN pr,<- Array.length_toList,h4,List.length_map]
 obtain ⟨⟨k',p⟩,hy,e1,e2,e3⟩:=dq pr hi;cases e1;have key:∀y∈xs,(tupleKind (ax X.prog X.w)).is s.heap y.1 y.2.1:=λ y hy=>by
  obtain ⟨j,hj⟩:=List.mem_iff_getElem?.mp hy;have jl:j < xs.length:=(A3.mp hj).1;have jk:j < kvs.length:=by rw [cN pr]; exact jl
  have hk:kvs[j]? = some kvs[j]:=E5 jk;obtain ⟨z,hz',z1,z2,_⟩:=dq pr hk;rw [hj] at hz';cases hz';rw [<- z1];exact fo I.hok z2
 refine CT (tupleKind_room_in1 hu) (fo I.hok hb) h1 h2 h3 h4 key h5 hy ⋯ λ h' o' es' ep' q1 q2 q3 q4 sb=>⟨v',_,?_,e3,q⟩
 refine fT I (by rw [hH]; exact True.intro) sb ⟨o',q1⟩ ⟨C2 (List.length_eraseIdx_le _ _) hz,hs,xs.eraseIdx i,?_,o',es',ep',q1,q2,q3,q4,?_⟩
 ·refine js (tE i pr) λ p q ⟨e1,e2,e3⟩=>⟨e1,?_,e3⟩
  rw [aj (λ z=>by rw [z,hH] at e2; cases e2)];exact e2
 ·rw [<- ft];exact h5.sublist (List.eraseIdx_sublist _ _)
def FixD (a:Addr) (o:Obj) (rows:List (V×V)):Heap->Prop:=λ h=>h.get? a=some o/\(a == sysModules)=false/\o.ExactDict/\rows.length<=sizeLine/\∃es ep,o.data=.dict es ep/\Paired (λ (p:V×V) (e:DictEntry)=>RelV p.1 e.key/\RelV p.2 e.val) rows es.toList
theorem FixD.cls {a:Addr} {o:Obj} {rows:List (V×V)}:∀h,FixD a o rows h->∃o,h.get? a=some o/\o.cls=.type "dict" := λ h ⟨e,_,c,_⟩=>⟨o,e,c.1⟩
theorem FixD.ok {P:FC} {w:FE} {H:Hp} {h:Heap} {a:Addr} {o:Obj} {rows:List (V×V)} (f:FixD a o rows h):ObjOk P w H h a (.ext (FixD a o rows)):=⟨f,⟨_,f.1⟩,λ _ _ g k=>⟨k _ g.1,g.2⟩⟩
def gH (H:Hp) (kvs:List (List Key×V)) (rows:List (V×V)):Prop:=Paired (λ (p:List Key×V) (r:V×V)=>∃q,r.1=.ref q/\H q= ~~~(p.1.map kV)/\r.2=p.2) kvs rows
theorem iL {P:FC} {w:FE} {H:Hp}:∀ {kvs:List (List Key×V)} {xs:List (List Key×Addr×FF)},Paired (λ (p:List Key×V) (q:List Key×Addr×FF)=>p.1=q.1/\H q.2.1= ~~~(p.1.map kV)/\RelV p.2 q.2.2) kvs xs ->
  ∃rows,gH H kvs rows/\Paired (λ (p:V×V) (e:DictEntry)=>RelV p.1 e.key/\RelV p.2 e.val) rows (xs.map (entryOfKey (tupleKind (ax P w))))/\rows.length=kvs.length
 | _,_,.nil=>⟨[],.nil,.nil,Y⟩
 | _,_,.cons (a:=p) (b:=q) h r=>by obtain ⟨rows,a1,a2,a3⟩:=iL r;exact ⟨(.ref q.2.1,p.2) :: rows,.cons ⟨_,Y,h.2.1,Y⟩ a1,.cons ⟨Y,h.2.2⟩ a2,by simp [a3]⟩
variable {pins:List (Addr×Obj)} {σ:St} {H:Hp} {s:FB} {a:Addr}
theorem Inv.fix (I:Inv X pins σ H s) {kvs:List (List Key×V)} (hH:H a=some (.dT kvs)):∃o rows,gH H kvs rows/\Inv X pins σ (upd H a (.ext (FixD a o rows))) s:=by
 obtain ⟨hz,hs,xs,pr,o,es,ep,h1,h2,h3,h4,h5⟩:=(show ObjOk X.prog X.w H s.heap a (.dT kvs) from I.hok a _ hH)
 obtain ⟨rows,r1,r2,r3⟩:=iL (P:=X.prog) (w:=X.w) pr;refine ⟨o,rows,r1,?_⟩;have:=I.write (x:=a) (e:=a) (o:=.ext (FixD a o rows)) (h':=s.heap) (t':=s.toks) (by rw [hH]; trivial) (.inl rfl) (λ b u _ e=>e) ⟨o,h1⟩ (FixD.ok ⟨h1,hs,h2,⋯,es,ep,h3,by rw [h4]; exact r2⟩);exact this
def yJ (t:TE):TE:=λ σ H Q=>t σ H λ v H1=>(∃a kvs,v=.ref a/\H1 a=some (.dT kvs)/\∀o rows,gH H1 kvs rows->Q v (upd H1 a (.ext (FixD a o rows))))\/Q v H1
theorem uA {e:Expr} {t:TE} (h:PE X e t):PE X e (yJ t):=λ pins s σ H Q I q =>
 thn (h pins s σ H _ I q) λ u s1 ⟨v,H1,I1,r1,q1⟩=>by
  rcases q1 with ⟨a,kvs,ev,hH,q1⟩ | q1
  ·obtain ⟨o,rows,r,I2⟩:=I1.fix hH;exact ⟨v,_,I2,r1,q1 o rows r⟩
  ·exact ⟨v,H1,I1,r1,q1⟩
def yK (td ty tv:TE):TS:=λ D σ H=>tv σ H λ v H1=>td σ H1 λ x H2=>ty σ H2 λ y H3=>∃a kvs z,x=.ref a/\y=.str z/\H3 a=some (.dT kvs)/\kvs.length < sizeLine/\∀o rows,gH H3 kvs rows->D.nx σ (upd H3 a (.ext (FixD a o (rows ++ [(.str z,v)]))))
theorem rE {o i value:Expr} {td ty tv:TE} {pos pos':Pos} (hu:X.A.units + 1 < cLine) (ho:PE X o td) (hi:PE X i ty) (hv:PE X value tv) (hs:swapsWith value (some (.Subscript o i pos')) pos.line X.env=pure false) :
  PS X (.Assign [.Subscript o i pos'] value pos) (yK td ty tv):=by
 intro pins s σ H D I h;refine wpAny_Assign_Subscript (thn (hv pins s σ H _ I h) λ r s1 ⟨v,H1,I1,rv,q1⟩=>thn (ho pins s1 σ H1 _ I1 q1) λ u s2 ⟨x,H2,I2,rx,q2⟩=>thn (hi pins s2 σ H2 _ I2 q2) λ iv s3 ⟨y,H3,I3,ry,a,kvs,z,ex,ey,hH,hz,q3⟩=>?_) hs;subst ex;subst ey;obtain rfl:u=Value.ref a:=rx;obtain ⟨tk,rfl⟩:=(show ∃t,iv=Value.str z t from ry)
 obtain ⟨hz',hsm,xs,pr,ob,es,ep,h1,h2,h3,h4,h5⟩:=(show ObjOk X.prog X.w H3 s3.heap a (.dT kvs) from I3.hok a _ hH)
 obtain ⟨rows,r1,r2,r3⟩:=iL (P:=X.prog) (w:=X.w) pr;have hn:es.size=kvs.length:=by rw [cN pr,<- Array.length_toList,h4,List.length_map]
 refine ju (knd:=tupleKind (ax X.prog X.w)) hu h1 h2 h3 (λ e he=>?_) ⋯ λ h' o' ep' g1 g2 g3 sb=>?_
 ·have he':=Array.mem_toList_iff.mpr he;rw [h4] at he';obtain ⟨y,hy,rfl⟩:=List.mem_map.mp he';obtain ⟨j,hj⟩:=List.mem_iff_getElem?.mp hy;have jl:j < kvs.length:=by rw [cN pr]; exact (A3.mp hj).1
  obtain ⟨w',hw,z1,z2,_⟩:=dq pr (E5 jl);rw [hj] at hw;cases hw;obtain ⟨its,_,p1,_⟩:=I3.tuple (FH (K:=X.K) z2);exact ⟨_,_,_,Y,fo I3.hok z2,p1⟩
 ·refine ⟨σ,_,?_,q3 o' rows r1⟩;refine fT I3 (by rw [hH]; exact True.intro) sb ⟨o',g1⟩ (FixD.ok ⟨g1,hsm,g2,by rw [List.length_append,r3]; exact hz,_,ep',g3,?_⟩);rw [Array.toList_push,h4];exact Paired.snoc r2 ⟨⟨tk,rfl⟩,rv⟩
theorem nq:ce X (.builtin "len") (λ xs H Q=>∃a o rows,xs=[V.ref a]/\H a=some (.ext (FixD a o rows))/\Q (.int rows.length) H):=by
 intro pins s σ H xs us Q I r h;obtain ⟨a,o,rows,rfl,ha,q⟩:=h;obtain ⟨u,rfl,ru⟩:=dh r;cases ru;obtain ⟨⟨h1,hs,h2,hz,es,ep,h3,pr⟩,_⟩:=(show ObjOk X.prog X.w H s.heap a (.ext (FixD a o rows)) from I.hok a _ ha)
 have hl:rows.length=es.size:=by rw [cN pr,Array.length_toList]
 refine CU hs h1 h2 h3 (by rw [<- hl]; rw [sizeLine_eq] at hz; omega) ?_;rw [<- hl];exact ⟨.int rows.length,H,I.tok _,⟨_,Y⟩,q⟩
def Itx (a:Addr) (ob:Obj) (rows:List (V×V)):It :=
 ⟨λ i H=>i < rows.length/\H a=some (.ext (FixD a ob rows)),λ i H x H'=>∃p k v,rows[i]? = some (k,v)/\H p=none/\x=.ref p/\H'=upd H p (.tup [k,v]),λ i H=>i=rows.length/\H a=some (.ext (FixD a ob rows))⟩
theorem jv {P:FC} {w:FE} {K:C1} {el:List Expr} {kk:Nat} {tp:Pos} (a it:Addr) (ob:Obj) (rows:List (V×V)) (es:Array DictEntry) (ep:Nat) (hd:ob.data=.dict es ep) (hn:es.size=rows.length) :
  Turn P w K (.Tuple el kk tp) (Itx a ob rows) [it] it (λ i h=>∃ok ov,IsItemIter h it a i es.size ep ok ov) where
 mem:=by simp
 obj:=λ i h st b hb=>by
  have e:b=it:=by simpa using hb
  subst e;obtain ⟨ok,ov,st⟩:=st;exact ⟨_,st,λ v z=>by cases z⟩
 keep:=λ i h h' ⟨ok,ov,st⟩ k=>⟨ok,ov,k it (by simp) _ st⟩
 item:=by
  intro X hP hw hK hc i pins s σ H E I hf st hg;subst hP hw hK;obtain ⟨hi,hH⟩:=hg;obtain ⟨ok,ov,st⟩:=st;obtain ⟨⟨h1,hs,hx,hz,es',ep',h3,pr⟩,_⟩:=(show ObjOk X.prog X.w H s.heap a (.ext (FixD a ob rows)) from I.hok a _ hH)
  rw [hd] at h3;cases h3;have hk:rows[i]? = some rows[i]:=E5 hi;obtain ⟨en,hy,e1,e3⟩:=dq pr hk;have hen:es[i]? = some en:=by rw [<- Array.getElem?_toList]; exact hy
  have il:it < s.heap.objs.size:=A6 st;refine bN st ⟨ob,h1,hx,hd⟩ hen λ h' b1 b2 b3 bk=>⟨_,Y,?_⟩
  refine wpAny_letOwnedTupleGo_items (s:={ s with heap:=h' }) b1 λ h'' c1 cs=>?_;have cs:Heap.SameBut it h' h'':=cs;have k2:∀b o,b∉[it]->s.heap.get? b=some o->h''.get? b=some o:=λ b o hb q=>by
   have hb:b≠it:=by simpa using hb
   exact cs.extBut b o hb (bk b o hb q)
  have I1:Inv X pins σ H { s with heap:=h'' }:=I.turnedN (t':=s.toks) hf k2;have hp:=cs.extBut _ _ (Nat.ne_of_gt il) b2;have hn0:H s.heap.objs.size=none:=I.hok.fresh (B0 _);have fpk:=I.fpOk (H':=H) (B0 _) hn0;have I2:Inv X pins σ (upd H s.heap.objs.size (.tup [rows[i].1,rows[i].2])) { s with heap:=h'' }:=I1.track fpk I.sz ⟨by show 2<=sizeLine; decide,[en.key,en.val],.cons e1 (.cons e3 .nil),_,hp,Y,_,Y⟩;refine ⟨.ref s.heap.objs.size,_,I2,Y,⟨_,_,_,hk,hn0,Y,Y⟩,⟨_,_,c1⟩,λ b hb=>?_⟩;have e:b=it:=by simpa using hb
  subst e;rw [aj (Nat.ne_of_lt il)];exact (hf b hb).1
 done:=by
  intro X hP hw hK hc i pins s σ H E I hf st hg;subst hP hw hK;obtain ⟨hi,hH⟩:=hg;obtain ⟨ok,ov,st⟩:=st;obtain ⟨⟨h1,hs,hx,_⟩,_⟩:=(show ObjOk X.prog X.w H s.heap a (.ext (FixD a ob rows)) from I.hok a _ hH)
  obtain ⟨f0,f1,f2,f3,f4,f5⟩:=hf it (by simp);exact bS (I.ok.hd hc) st ⟨ob,h1,hx,hd⟩ (by rw [Array.getElem?_eq_none]; omega) λ h' eb=>⟨Y,I.turned (t':=s.toks) (λ b o hb e=>eb b o hb e) f0 f1 f3 f4 f5⟩
 self:=λ A i s Q E ⟨ok,ov,st⟩ h=>cb st h
def rF (tl:TE):TI:=λ σ H R=>tl σ H λ x H1=>∃a ob rows,x=.ref a/\H1 a=some (.ext (FixD a ob rows))/\R (Itx a ob rows) H1
theorem nr {l:Expr} {tl:TE} {apos cpos tp:Pos} {el:List Expr} {kk:Nat} (hl:PE X l tl)
  (hbase:attributeBase l "items" X.env (eval l X.env)=eval l X.env:=by rfl) (hline:(apos.endLine == cpos.line)=true:=by rfl):PI X (.Tuple el kk tp) (.Call (.Attribute l "items" apos) [] [] cpos) (rF tl):=by
 intro pins s σ H R I h;refine wpAny_Call_method0_late hbase hline (thn (hl pins s σ H _ I h) λ v s1 ⟨x,H1,I1,r1,a,o,rows,e,hH,q⟩=>?_);subst e;cases r1;obtain ⟨⟨h1,hs,h2,hz,es,ep,h3,pr⟩,_⟩:=(show ObjOk X.prog X.w H1 s1.heap a (.ext (FixD a o rows)) from I1.hok a _ hH)
 have hn:es.size=rows.length:=by rw [cN pr,Array.length_toList]
 refine ⟨"dict","dict.items",PySem.F.plainAttrs_dict,PySem.F.slot_dict_items,PySem.F.type_dict_items,⟨o,h1,h2.1⟩,(λ b e2=>by cases e2; exact ⟨o,h1,h2.2.1⟩),Calls.callWith_builtin rfl (PySem.evalArgs_none (pC h1 h2 hs ?_))⟩;have h1':(s1.heap.push { cls:=.type "dict_items", data:=.fields #[.ref a] }).get? a=some o:=A4 _ h1;refine ck (d:=a) (es:=es) (ep:=ep) ⟨_,A5 _ rfl,rfl,rfl⟩ ⟨o,h1',h2,h3⟩ ?_;refine ⟨_,[_],_,_,_,Y,I1.kept (t':=s1.toks) λ b o e=>A4 _ (A4 _ e),jv a _ o rows es ep h3 hn,⟨_,_,A5 _ rfl⟩,λ b hb=>?_,q⟩;have e:b=(s1.heap.push { cls:=.type "dict_items",data:=.fields #[.ref a] }).objs.size:=by simpa using hb
 have hb':s1.heap.objs.size<=b:=by rw [e,Heap.size_push]; omega
 exact I1.fpOk hb' (I1.hok.fresh hb')
theorem jw {a:Addr} {ob:Obj} {rows:List (V×V)} {σ:St} {cap:List Nat} {k:Nat} {g:TG} {tt:TT} {te:TE} {Q:List V->Hp->Prop} {H:Hp} (Pv:Nat->List V->Hp->Prop) (h0:Pv 0 [] H)
  (hl:∀i ys H',i<=rows.length->Pv i ys H'->H' a=some (.ext (FixD a ob rows)))
  (ht:∀i kk v p ys H',rows[i]? = some (kk,v)->H' p=none->Pv i ys H'->g (.ref p) (aU σ cap k) (upd H' p (.tup [kk,v])) λ σ2 H2=>leS (aU σ cap k) σ2/\tt σ2 H2 λ ok H3=>if ok=true then te σ2 H3 (λ v H4=>Nx rows.length Pv i (ys ++ [v]) H4) else Nx rows.length Pv i ys H3)
  (hz:∀i ys H',i < rows.length->Pv i ys H'->ys.length < sizeLine) (hd:∀ys H',Pv rows.length ys H'->ys.length<=sizeLine/\Q ys H'):∃W,(∃m,W 0 m [] H)/\dU σ cap k (Itx a ob rows) g tt te Q W:=by
 refine ⟨λ i m ys H'=>m=rows.length - i/\i<=rows.length/\Pv i ys H',⟨_,Y,E2 _,h0⟩,?_⟩;rintro i m ys H' ⟨rfl,hi,p⟩;have q:=hl i ys H' hi p
 by_cases hin:i < rows.length
 ·refine .inr ⟨⟨hin,q⟩,hz i ys H' hin p,λ x H2 yl=>?_⟩;obtain ⟨pa,k',v',e1,e2,e4,e5⟩:=yl;subst e4 e5;exact ht i k' v' pa ys _ e1 e2 p
 ·have e:i=rows.length:=⋯
  subst e;obtain ⟨a1,a2⟩:=hd ys H' p;exact .inl ⟨⟨Y,q⟩,a1,a2⟩
def yL (te tk:TE):TE:=λ σ H Q=>te σ H λ x H1=>tk σ H1 λ y H2=>y=.int (-1)/\∃a u v,x=.ref a/\H2 a=↥[u,v]/\∀p,H2 p=none->Q (.ref p) (upd H2 p (.lst [v,u]))
theorem yM (u v:FF):slicePick #[u,v] none none (some (-1))=#[v,u]:=by
 have e:sliceRange (sliceBounds none none (some (-1)) 2).1 (sliceBounds none none (some (-1)) 2).2.1 (sliceBounds none none (some (-1)) 2).2.2=[1,0]:=∅
 show ((sliceRange (sliceBounds none none (some (-1)) 2).1 (sliceBounds none none (some (-1)) 2).2.1 (sliceBounds none none (some (-1)) 2).2.2).filterMap _).toArray=_;rw [e]
 rfl
theorem rG {e k:Expr} {te tk:TE} {p2 pos:Pos} (he:PE X e te) (hk:PE X k tk):PE X (.Subscript e (.Slice none none (some k) p2) pos) (yL te tk):=by
 intro pins s σ H Q I h;refine Subscript_ (thn (he pins s σ H _ I h) λ v s1 ⟨x,H1,I1,r1,q1⟩=>?_);refine wpAny_Slice ?_;rw [evalPart_none];refine A1 ?_;refine A1 ?_;rw [evalPart_some];refine thn (hk pins s1 σ H1 _ I1 q1) λ vk s3 ⟨y,H3,I3,r3,q3⟩=>?_;obtain ⟨rfl,a,x1,x2,rfl,hx,q⟩:=q3;cases r1;obtain ⟨u,rfl⟩:=r3;have I4:Inv X pins σ H3 { s3 with heap:=s3.heap.push { cls:=.type "slice", data:=.fields #[.none, .none, .int (-1) u] } }:=I3.kept (t':=s3.toks) λ b ob q=>A4 _ q;obtain ⟨its,r,ht,hz⟩:=I4.list (FI (K:=X.K) hx);cases r with
 | cons ra rr =>
  cases rr with
  | cons rb rr =>
   cases rr;show wpAny (model X.prog X.w) X.A (subscriptTail e (.Slice none none (some k) p2) (.ref a) (.ref s3.heap.objs.size)) (EP X pins σ Q) X.xe { s3 with heap:=s3.heap.push { cls:=.type "slice",data:=.fields #[.none,.none,.int (-1) u] } };refine tail_any (ops:=[.ref a,.ref s3.heap.objs.size]) ht.isList.typeIs slot_list_getitem.lookup (wpAny_getItem_list_slice ht.isList (Heap.IsSliceOf.new ..) .none .none (.int _ _) ∅ ?_ zS2) (by with_unfolding_all rfl);rw [yM];exact ⟨.ref _,_,I4.laid (t':=s3.toks) (o:=.lst [x2,x1]) (λ b ob q=>A4 _ q) (B0 _) ⟨by show 2<=sizeLine; decide,_,0,.cons rb (.cons ra .nil),A5 _ rfl⟩,Y,q _ (I4.hok.fresh (B0 _))⟩
end
end L2
namespace Pc
open PySem L2
def top (i:Nat):Stmt:=PySem.Challenge.pw_platecuts_k46_refused_plates_and_tables.main.body.getD i (.Pass ⟨0,0,0,0⟩)
abbrev iM:Stmt:=top 16
abbrev iN:Stmt:=top 17
abbrev rH:Stmt:=top 18
abbrev bU:Stmt:=top 19
abbrev bV:Stmt:=top 20
abbrev fV:Stmt:=top 25
abbrev cO:Stmt:=top 26
abbrev dI:Stmt:=top 27
abbrev cV:Stmt:=top 28
abbrev cB:Stmt:=top 29
abbrev dJ:Stmt:=top 34
abbrev dL:Stmt:=top 35
abbrev bL:Stmt:=top 36
abbrev dM:Stmt:=top 37
abbrev fu:Stmt:=top 39
abbrev bf:Stmt:=top 40
abbrev cW:Stmt:=top 41
abbrev eA:Stmt:=top 42
abbrev fW:Stmt:=top 46
abbrev fX:Stmt:=top 47
abbrev cP:Stmt:=inClass (top 48) 0
abbrev cX:Stmt:=inClass (top 48) 1
abbrev cY:Stmt:=inClass (top 48) 2
abbrev jx:Stmt:=inClass (top 48) 3
abbrev cH:Stmt:=inClass (top 48) 4
abbrev cw:Stmt:=inClass (top 48) 5
abbrev cZ:Stmt:=inClass (top 48) 6
abbrev rJ:Stmt:=top 50
abbrev lX:Stmt:=top 51
abbrev iO:Stmt:=top 52
abbrev lY:Stmt:=top 53
abbrev pE:Stmt:=top 54
abbrev fY:Stmt:=top 55
abbrev du:Stmt:=top 56
abbrev jy:Stmt:=top 57
section
variable {P:FC} {w:FE} {K:C1} {mg:Str->Option FF} {base:Heap}
structure Blt (mg:Str->Option Value):Prop where
 isi:mg "isinstance" = none
 int:mg "int" = none
 bool:mg "bool" = none
 list:mg "list" = none
 tuple:mg "tuple" = none
 len:mg "len" = none
 range:mg "range" = none
 max:mg "max" = none
 min:mg "min" = none
 abs:mg "abs" = none
 divmod:mg "divmod" = none
 sum:mg "sum" = none
 sorted:mg "sorted" = none
 all:mg "all" = none
 repr:mg "repr" = none
 zip:mg "zip" = none
 enumerate:mg "enumerate" = none
 mostk:∃t,mg "MOST_KINDS" = some (.int 8 t)
 fivek:∃t,mg "THINGS_OF_A_KIND" = some (.int 5 t)
end
theorem eC {p c:Addr} {H0 H:Hp} {o:HO} (b:But p H0 H) (pt:PotB H p) (h:H c=none):∃H',upd H c o=H'/\H' c=some o/\c≠p/\Same H H'/\But p H0 H'/\PotB H' p :=
 ⟨_,rfl,ae,Ne.symm (pt.ne h),FG h,b.trans (But.new h),pt.new h⟩
theorem am {t u:TS} {D:Ends} {σ:St} {H:Hp} (J:St->Hp->Prop) (h1:∀R:St->Hp->Prop,(∀σ' H',J σ' H'->R σ' H')->t { D with nx:=R } σ H) (h2:∀σ' H',J σ' H'->u D σ' H'):yf t u D σ H:=h1 _ h2
section
variable {P:FC} {w:FE} {K:C1} {mg:Str->Option FF} {base:Heap}
theorem rK:FnScope ["thing","least"] ["thing","least"] (defScope iM):=⟨Y,Y,Y,∅,Y,∅,∅⟩
theorem pF {f:Addr} {fd:FD} (F:Fun K "is_whole" "is_whole" iM f fd) (B:Blt mg):FnOk P w K mg base CX0 1 f fd ["thing","least"] (bq K):=by
 refine F.ok rK (λ vs H Q E h=>?_) (λ cdv A outer s H vs Q E hr h=>?_)
 ·obtain ⟨x,T,l,rfl,_⟩:=h
  rfl
 obtain ⟨x,T,l,rfl,⟨tn,ty⟩,q⟩:=h;refine ⟨_,ai (ar (bA (av be rfl B.isi PyProof.Rows.boot_isinstance (aa (pv 0) (aa (bO (v:=.ty "int") rfl B.int PyProof.Rows.boot_int rfl) ad)))
  (bA (oq (av be rfl B.isi PyProof.Rows.boot_isinstance (aa (pv 0) (aa (bO (v:=.ty "bool") rfl B.bool PyProof.Rows.boot_bool rfl) ad))))
  (cj (bJ sW (pv 0) (pv 1) (aw _)))))),?_⟩
 refine ⟨_,Y,x,_,_,_,_,Y,ty,Y,rc T tn,_,Y,?_⟩;have tb:=lR ty;refine fL (λ c=>?_) (λ c=>?_)
 ·refine ⟨_,Y,x,_,_,_,_,Y,ty,Y,jh T tn,_,Y,_,Y,?_⟩;refine fL (λ c2=>?_) (λ c2=>?_)
  ·have hT:(T == "int")=true:=by
    have:(T == "bool")=false:=by simpa using c2
    rw [this,Bool.or_false] at c; exact c
   obtain ⟨i,rfl⟩:=tW ty tn hT;exact ⟨_,Y,_,Y,_,_,Y,Y,q⟩
  ·have hT:mR x=true:=by
    rw [<- tb];cases e:(T == "bool") with
    | true=>rfl
    | false=>rw [e] at c2; exact absurd rfl c2
   cases x <;> first | exact q | (exact absurd hT A9)
 ·have hx:aA x l=false:=by
   cases x with
   | int i =>
    exfalso;have ty':=ty;generalize hv:Value.type T=tv at ty';cases ty' with
    | int=>cases hv; exact c rfl
   | _=>rfl
  rw [hx] at q;exact q
theorem rL:FnScope ["thing"] ["thing"] (defScope iN):=⟨Y,Y,Y,∅,Y,∅,∅⟩
theorem pG {f:Addr} {fd:FD} (F:Fun K "is_truth" "is_truth" iN f fd) (B:Blt mg):FnOk P w K mg base CX0 1 f fd ["thing"] (fN K):=by
 refine F.ok rL (λ vs H Q E h=>?_) (λ cdv A outer s H vs Q E hr h=>?_)
 ·obtain ⟨x,T,rfl,_⟩:=h
  rfl
 obtain ⟨x,T,rfl,⟨tn,ty⟩,q⟩:=h;refine ⟨_,ai (ar (av be rfl B.isi PyProof.Rows.boot_isinstance (aa (pv 0) (aa (bO (v:=.ty "bool") rfl B.bool PyProof.Rows.boot_bool rfl) ad)))),?_⟩;refine ⟨_,Y,x,_,_,_,_,Y,ty,Y,jh T tn,?_⟩;rw [lR ty];exact q
theorem yN:FnScope ["thing"] ["thing"] (defScope rH):=⟨Y,Y,Y,∅,Y,∅,∅⟩
theorem uB {f:Addr} {fd:FD} (F:Fun K "is_row" "is_row" rH f fd) (B:Blt mg):FnOk P w K mg base CX0 1 f fd ["thing"] (lS K):=by
 refine F.ok yN (λ vs H Q E h=>?_) (λ cdv A outer s H vs Q E hr h=>?_)
 ·obtain ⟨x,T,rfl,_⟩:=h
  rfl
 obtain ⟨x,T,rfl,ty,q⟩:=h;refine ⟨_,ai (ar (av iA rfl B.isi PyProof.Rows.boot_isinstance (aa (pv 0) (aa (aF (aa (bO (v:=.ty "list") rfl B.list PyProof.Rows.boot_list rfl) (aa (bO (v:=.ty "tuple") rfl B.tuple PyProof.Rows.boot_tuple rfl) ad))) ad)))),?_⟩;refine ⟨_,Y,zS2,λ p hp=>?_⟩;have s1:Same H (upd H p (.tup [.ty "list",.ty "tuple"])):=λ b o e=>by rw [aj (ah e hp)]; exact e
 have t2:=Ty.same s1 ty;exact ⟨x,p,_,_,_,_,Y,t2.2,ae,Y,re T ty.1,q _ s1⟩
theorem scIsKind:FnScope ["thing","wide","high","worth","wanted","turns"] ["thing"] (defScope fW):=⟨Y,Y,Y,∅,Y,∅,∅⟩
theorem nu {f:Addr} {fd:FD} (F:Fun K "is_kind" "is_kind" fW f fd) (B:Blt mg) (DW:Dn P w K mg base "is_whole" ["thing","least"] 1 (bq K)) (DT:Dn P w K mg base "is_truth" ["thing"] 1 (fN K)) (DR:Dn P w K mg base "is_row" ["thing"] 1 (lS K)) :
  FnOk P w K mg base CX0 2 f fd ["thing"] (eI K):=by
 refine F.ok scIsKind (λ vs H Q E h=>?_) (λ cdv A outer s H vs Q E hr h=>?_)
 ·obtain ⟨x,T,rfl,_⟩:=h
  rfl
 obtain ⟨x,T,rfl,ty,q⟩:=h;obtain ⟨tk,htk⟩:=B.fivek;have nd:=scIsKind.nd;refine ⟨_,ag (aK (PW.pt (bR (aT (aO (aq DR hr rfl (aa (pv 0) ad)))) (bu (az fF (av bK rfl B.len PySem.boot_len (aa (pv 0) ad)) (aJ (v:=.int 5) rfl htk ⟨tk,Y⟩) (aw _))))) (ai (ar bp)) ay)
  (ag (cz (pv 0) (tU rfl (au (ap (i:=1) nd rfl (Or.inl rfl)) (au (ap (i:=2) nd rfl (Or.inl rfl)) (au (ap (i:=3) nd rfl (Or.inl rfl)) (au (ap (i:=4) nd rfl (Or.inl rfl)) (au (ap (i:=5) nd rfl (Or.inl rfl)) bn)))))))
  (ag (aK (PW.pt (bR (aT (aO (aq DW hr rfl (aa (pv 1) (aa af ad))))) (bu (aT (aO (aq DW hr rfl (aa (pv 2) (aa af ad)))))))) (ai (ar bp)) ay)
  (ai (ar (bA (aq DW hr rfl (aa (pv 3) (aa af ad))) (bA (aq DW hr rfl (aa (pv 4) (aa af ad))) (cj (aq DT hr rfl (aa (pv 5) ad))))))))),?_⟩
 refine ⟨_,Y,x,T,Y,ty,λ H1 s1=>⟨_,Y,?_⟩⟩;rcases q with ⟨n1,n2,q⟩ | ⟨a,xs,rfl,hx,its,q⟩
 ·have e:(T == "list" || T == "tuple")=false:=by simp [n1,n2]
  rw [e];refine aP (aP ?_);exact q H1 s1
 ·have e:(T == "list" || T == "tuple")=true:=by
   have t2:=ty.2;generalize hv:Value.type T=tv at t2;generalize hr:V.ref a=rv at t2;cases t2 with
   | lst _=>cases hv; rfl
   | frz _=>cases hv; rfl
   | tup _=>cases hv; rfl
   | dK e=>cases hr; rcases hx with z | z <;> (rw [z] at e; cases e)
   | dT e=>cases hr; rcases hx with z | z <;> (rw [z] at e; cases e)
   | ext e _=>cases hr; rcases hx with z | z <;> (rw [z] at e; cases e)
   | ins=>cases hv
   | _=>cases hr
  rw [e];have sq:SqL K H1 a xs\/SqT K H1 a xs:=by
   rcases hx with z | z
   ·exact .inl (FI (s1 _ _ z))
   ·exact .inr (FH (s1 _ _ z))
  refine aD ⟨_,rfl,a,xs,rfl,sq,rfl,_,rfl,?_⟩;refine fL (λ c=>?_) (λ c=>?_)
  ·have hl:xs.length≠5:=λ z=>by rw [z] at c; exact absurd c ∅
   have:hW xs=false:=by
    unfold hW
    split
    ·exact absurd rfl hl
    ·rfl
   rw [this] at q;exact q H1 s1
  ·have hl:xs.length=5:=by
    by_cases z:xs.length=5
    ·exact z
    ·exfalso;apply c;have:¬ (V.int (xs.length:Int)=V.int 5):=λ h=>z (by have:=V.int.inj h; omega);rw [decide_eq_false this]; rfl
   obtain ⟨x1,x2,x3,x4,x5,rfl⟩:∃x1 x2 x3 x4 x5,xs=[x1,x2,x3,x4,x5]:=by
    match xs,hl with
    | [a,b,c,d,e],_=>exact ⟨a,b,c,d,e,Y⟩
   obtain ⟨T1,t1⟩:=its x1 (by simp);obtain ⟨T2,t2⟩:=its x2 (by simp);obtain ⟨T3,t3⟩:=its x3 (by simp);obtain ⟨T4,t4⟩:=its x4 (by simp);obtain ⟨T5,t5⟩:=its x5 (by simp);refine ⟨_,Y,a,_,Y,sq,Y,x1,_,Y,x2,_,Y,x3,_,Y,x4,_,Y,x5,_,Y,Y,?_⟩;refine ⟨_,Y,x1,T1,1,Y,Ty.same s1 t1,_,Y,?_⟩;have q':∀b,hW [x1,x2,x3,x4,x5]=b->Q (.bl b) H1:=λ b e=>by rw [<- e]; exact q H1 s1
   have k5:hW [x1,x2,x3,x4,x5]=(aA x1 1 && aA x2 1 && aA x3 0 && aA x4 0 && mR x5):=rfl;cases w1:aA x1 1 with
   | false =>
    refine aP (aP ?_);exact q' false (by rw [k5,w1]; rfl)
   | true =>
    refine aD ⟨_,rfl,x2,T2,1,rfl,Ty.same s1 t2,_,rfl,?_⟩;cases w2:aA x2 1 with
    | false =>
     refine aP ?_;exact q' false (by rw [k5,w1,w2]; rfl)
    | true =>
     refine aD ⟨_,rfl,x3,T3,0,rfl,Ty.same s1 t3,_,rfl,?_⟩;cases w3:aA x3 0 with
     | false =>
      refine aD ?_;exact q' false (by rw [k5,w1,w2,w3]; rfl)
     | true =>
      refine aP ⟨_,rfl,x4,T4,0,rfl,Ty.same s1 t4,_,rfl,?_⟩;cases w4:aA x4 0 with
      | false =>
       refine aD ?_;exact q' false (by rw [k5,w1,w2,w3,w4]; rfl)
      | true =>
       refine aP ⟨_,rfl,x5,T5,rfl,Ty.same s1 t5,?_⟩;exact q' _ (by rw [k5,w1,w2,w3,w4]; rfl)
end
section
variable {P:FC} {w:FE} {K:C1} {mg:Str->Option FF} {base:Heap}
theorem scInit:FnScope ["self","blade","kinds","kind"] ["self","blade","kinds"] (defScope cP):=⟨Y,Y,Y,∅,Y,∅,∅⟩
theorem rM {f C:Addr} {fd:FD} (F:Fun K "__init__" "Shop.__init__" cP f fd) (B:Blt mg) (T:ShopTxt K C) (DW:Dn P w K mg base "is_whole" ["thing","least"] 1 (bq K)) (DR:Dn P w K mg base "is_row" ["thing"] 1 (lS K))
  (DK:Dn P w K mg base "is_kind" ["thing"] 2 (eI K)):FnOk P w K mg base CX0 3 f fd ["self","blade","kinds"] (jT C):=by
 refine F.ok scInit (λ vs H Q E h=>?_) (λ cdv A outer s H vs Q E hr h=>?_)
 ·obtain ⟨x,dx,ks,b,rs,kds,rfl,_⟩:=h
  rfl
 obtain ⟨x,dx,ks,b,rs,kds,rfl,hx,b0,hks,hrs,hgd,n1,n8,q⟩:=h;have hr1:=hr.mono (show 1<=2 by decide);obtain ⟨tk,htk⟩:=B.mostk;have nd:=scInit.nd;have n8':(8:Nat) < sizeLine:=∅
 refine ⟨_,ag (aK (aT (aO (aq DW hr1 rfl (aa (pv 1) (aa af ad))))) eZ ay)
  (ag (aK (PW.pt (bR (aT (aO (aq DR hr1 rfl (aa (pv 2) ad)))) (bu (aT (oy fG fG af (av bK rfl B.len PySem.boot_len (aa (pv 2) ad)) (aJ (v:=.int 8) rfl htk ⟨tk,rfl⟩)))))) eZ ay)
  (ag (bX C7 rfl (oO (pv 2)) (ap (i:=3) nd rfl (Or.inl rfl)) (ai (aK (aT (aO (aq DK hr rfl (aa (pv 3) ad)))) eZ ay)))
  (ag (oC (pv 0) (pv 1) rfl)
  (ai (oC (pv 0) (cx dS rfl B.tuple PyProof.Rows.boot_tuple (aa (cg (own:=["kind"]) (cs:=[]) (cap:=[]) rfl (oO (pv 2))
   (aX (sc:=defScope cP) (N:=["self","blade","kinds","kind"]) rfl rfl ∅)
   (λ _ _ _ _ _=>ap (i:=0) (by show List.Nodup (["kind"]:List Str); decide +kernel) rfl (Or.inl rfl) (Or.inr rfl)) (λ _ _ _ _ _=>bi)
   (λ _ _ _ _ _=>cx (r:=oQ K) dS rfl B.tuple PyProof.Rows.boot_tuple (aa (pv 0) ad))) ad)) rfl))))),?_⟩
 refine ⟨_,Y,.int b,_,0,Y,.int,_,Y,?_⟩;have wb:aA (.int b) 0=true:=A7 b0;rw [wb];refine aD ?_;have tyk:∃T,Ty K H (.ref ks) T/\(T == "list" || T == "tuple")=true:=by
  rcases hks with e | e
  ·exact ⟨_,.lst e,Y⟩
  ·exact ⟨_,.tup e,Y⟩
 obtain ⟨T0,ty0,te0⟩:=tyk;refine ⟨_,Y,.ref ks,T0,Y,ty0,λ H1 s1=>⟨_,Y,?_⟩⟩;rw [te0];have sq:∀ {H2:Hp},Same H H2->SqL K H2 ks rs\/SqT K H2 ks rs:=λ s2=>by
  rcases hks with z | z
  ·exact .inl (FI (s2 _ _ z))
  ·exact .inr (FH (s2 _ _ z))
 refine aD ⟨_,rfl,ks,rs,rfl,sq s1,_,_,rfl,rfl,_,rfl,?_⟩;rw [decide_eq_true (show (1:Int)<=(rs.length:Int) by omega)];refine aP ⟨_,_,rfl,rfl,_,rfl,?_⟩;rw [decide_eq_true (show (rs.length:Int)<=8 by omega)];refine aD ?_;have uM:=C6 hrs;refine oR (j:=2) (a:=ks) (xs:=rs) rfl (hks.imp (λ z=>s1 _ _ z) λ z=>s1 _ _ z) (λ i σ H2=>∃v,σ=[↑x,⇑b,↑ks,v]/\Same H1 H2) ⟨none,rfl,Same.refl _⟩ (λ i σ H2 _ ⟨_,_,s2⟩ o e=>s2 _ _ e) ?_ ?_
 ·rintro i y σ H2 hi ⟨v,rfl,s2⟩;obtain ⟨k,hk,rk⟩:=FK hrs hi;refine ⟨_,Y,?_⟩;simp only [jc,List.append_nil];refine mU ((rk.same s1).same s2) (hgd k (B2 hk)) λ H3 s3=>⟨_,Y,aD ?_⟩
  exact ⟨_,Y,s2.trans s3⟩
 rintro σ H2 ⟨v,rfl,s12⟩;have s2:Same H H2:=s1.trans s12;refine ⟨_,Y,_,Y,x,C,dx,[],Y,s2 _ _ hx,T.cl,T.nB,(by show 0 < 1000; decide),?_⟩;have k3:∀c o,c≠x->H c=some o->(upd H2 x (.ins C dx (cD "blade_width" (.int b) []))) c=some o:=λ c o n e=>by rw [aj n]; exact s2 c o e
 have x3:(upd H2 x (.ins C dx (cD "blade_width" (.int b) []))) x=some (.ins C dx (cD "blade_width" (.int b) [])):=ae;generalize upd H2 x (.ins C dx (cD "blade_width" (.int b) []))=H3 at k3 x3 ⊢;have rx:∀c xs,H c=↥xs\/H c= ~~~xs->c≠x:=λ c xs e z=>by subst z;rcases e with e | e <;> (rw [hx] at e; cases e)
 dsimp only [yt,tCB,oE];refine mS (j:=2) (a:=ks) (xs:=rs) rfl (hks.imp (λ z=>k3 _ _ (rx _ _ (.inl z)) z) λ z=>k3 _ _ (rx _ _ (.inr z)) z) (λ i ys H4=>ys.length=i/\Same H3 H4/\Tups H4 ys (kds.take i)) (λ i ys H4 _ ⟨_,s4,_⟩ o e=>s4 _ _ e) ⟨rfl,Same.refl _,.nil⟩ ?_ ?_
 ·rintro i y ys H4 hi ⟨hy,s4,ty4⟩;have hin:i < rs.length:=(A3.mp hi).1;obtain ⟨k,hk,rk⟩:=FK hrs hi;have tk1:kds.take (i + 1)=kds.take i ++ [k]:=by rw [List.take_add_one,hk]; rfl
  refine ⟨⋯,leS.set rfl,bE ?_⟩;rcases rk with ⟨a,rfl,h⟩ | ⟨a,rfl,h⟩
  ·have h4:=s4 _ _ (k3 _ _ (rx _ _ (.inr h)) h);exact ⟨_,Y,a,_,Y,.inr ⟨FH h4,Nx.of hin ⟨by rw [List.length_append,hy]; rfl,s4,by rw [tk1]; exact Paired.snoc ty4 ⟨a,Y,h4⟩⟩⟩⟩
  ·have h4:=s4 _ _ (k3 _ _ (rx _ _ (.inl h)) h);refine ⟨_,Y,a,_,Y,.inl ⟨FI h4,λ l hl=>Nx.of hin ⟨by rw [List.length_append,hy]; rfl,λ c o e=>?_,?_⟩⟩⟩
   ·have e4:=s4 c o e;rw [aj (ah e4 hl)]; exact e4
   ·rw [tk1];exact Paired.snoc (Tups.keep (λ c xs e=>by rw [aj (ah e hl)]; exact e) ty4) ⟨l,rfl,ae⟩
 rintro ys H4 ⟨hy,s4,ty4⟩;refine ⟨⋯,λ p hp=>?_⟩;refine ⟨p,ys,Y,.inl ⟨FI ae,λ r hr'=>?_⟩⟩;have hpr:r≠p:=λ z=>by rw [z,ae] at hr'; cases hr'
 have hr4:H4 r=none:=by rw [aj hpr] at hr'; exact hr'
 have x4:=s4 _ _ x3;have xp:x≠p:=ah x4 hp;have xr:x≠r:=ah x4 hr4;refine ⟨_,Y,x,C,dx,_,Y,(by rw [aj xr,aj xp]; exact x4),T.cl,T.nK,(C3 (di _ _ _) ∅),?_⟩;rw [uM,List.take_length] at ty4;refine q _ ⟨dx,r,ys,ae,by rw [aj (Ne.symm xr),ae],?_⟩ λ c o n e=>?_
 ·refine Tups.keep (λ c xs e=>?_) ty4;rw [aj (λ z=>by rw [z,x4] at e; cases e),aj (ah e hr4),aj (ah e hp)];exact e
 ·have e4:=s4 _ _ (k3 c o n e);rw [aj n,aj (ah e4 hr4),aj (ah e4 hp)];exact e4
theorem rN:FnScope ["self"] ["self"] (defScope cX):=⟨Y,Y,Y,∅,Y,∅,∅⟩
theorem pH {f C:Addr} {fd:FD} (F:Fun K "blade" "Shop.blade" cX f fd) (T:ShopTxt K C):FnOk P w K mg base CX0 1 f fd ["self"] (fO C):=by
 refine F.ok rN (λ vs H Q E h=>?_) (λ cdv A outer s H vs Q E hr h=>?_)
 ·obtain ⟨x,b,ks,rfl,_⟩:=h
  rfl
 obtain ⟨x,b,ks,rfl,⟨dx,r,rs,h1,h2,h3⟩,q⟩:=h;exact ⟨_,ai (ar (fg (pv 0) rfl)),_,Y,x,C,dx,_,_,Y,h1,T.cl,T.nB,jS _ _,q⟩
theorem rO:FnScope ["self"] ["self"] (defScope cY):=⟨Y,Y,Y,∅,Y,∅,∅⟩
theorem pI {f C:Addr} {fd:FD} (F:Fun K "kinds" "Shop.kinds" cY f fd) (T:ShopTxt K C) (ml:mg "list" = none):FnOk P w K mg base CX0 1 f fd ["self"] (fP C):=by
 refine F.ok rO (λ vs H Q E h=>?_) (λ cdv A outer s H vs Q E hr h=>?_)
 ·obtain ⟨x,b,ks,rfl,_⟩:=h
  rfl
 obtain ⟨x,b,ks,rfl,⟨dx,r,rs,h1,h2,h3⟩,q⟩:=h;refine ⟨_,ai (ar (cx iw rfl ml PyProof.Rows.boot_list (aa (fg (pv 0) rfl) ad))),?_⟩;exact ⟨_,Y,x,C,dx,_,_,Y,h1,T.cl,T.nK,cK _ _,r,rs,Y,.inr (FH h2),λ l hl=>q l rs hl h3⟩
end
section
variable {P:FC} {w:FE} {K:C1} {mg:Str->Option FF} {base:Heap}
theorem pJ:FnScope ["kind"] ["kind"] (defScope fX):=⟨Y,Y,Y,∅,Y,∅,∅⟩
theorem nv {f:Addr} {fd:FD} (F:Fun K "can_lie_turned" "can_lie_turned" fX f fd):FnOk P w K mg base CX0 1 f fd ["kind"] (eK K):=by
 refine F.ok pJ (λ vs H Q E h=>?_) (λ cdv A outer s H vs Q E hr h=>?_)
 ·obtain ⟨a,k,rfl,_⟩:=h
  rfl
 obtain ⟨a,k,rfl,ha,q⟩:=h;refine ⟨_,ai (ar (bA (aN bo (pv 0) af (λ _ _=>rfl)) (cj (bJ fF (aN bo (pv 0) af (λ _ _=>rfl)) (aN bo (pv 0) af (λ _ _=>rfl)) (aw _))))),?_⟩;refine ⟨_,Y,a,_,4,_,Y,Y,FH ha,Y,_,Y,?_⟩;unfold bZ at q;refine fL (λ c=>?_) (λ c=>?_)
 ·rw [c,Bool.true_and] at q;refine ⟨_,Y,a,_,0,_,Y,Y,FH ha,Y,_,Y,a,_,1,_,Y,Y,FH ha,Y,Y,?_⟩;rw [io];rw [show (decide (k.w=k.h))=(k.w == k.h) from rfl] at q;exact q
 ·have c':k.tu=false:=by simpa using c
  rw [c',Bool.false_and] at q;exact q
theorem scLyings:FnScope ["self","told","number","kind"] ["self"] (defScope cH):=⟨Y,Y,Y,∅,Y,∅,∅⟩
theorem nw {f C:Addr} {fd:FD} (F:Fun K "lyings" "Shop.lyings" cH f fd) (T:ShopTxt K C) (me:mg "enumerate" = none) (DT:Dn P w K mg base "can_lie_turned" ["kind"] 1 (eK K)) :
  FnOk P w K mg base CX0 2 f fd ["self"] (gv C):=by
 refine F.ok scLyings (λ vs H Q E h=>?_) (λ cdv A outer s H vs Q E hr h=>?_)
 ·obtain ⟨x,b,ks,rfl,_⟩:=h
  rfl
 obtain ⟨x,b,ks,rfl,⟨dx,r,rs,h1,h2,h3⟩,n8,q⟩:=h;have nd:=scLyings.nd;refine ⟨_,ag (aI (i:=1) nd rfl (Or.inl rfl) (aV ad))
  (ag (bX C7 rfl (rh rfl me (aa (fg (pv 0) rfl) ad)) (bQ rfl (au (ap (i:=2) nd rfl (Or.inl rfl)) (au (ap (i:=3) nd rfl (Or.inl rfl)) bn)))
   (ag (bI (fI E9 PySem.F.slot_list_append PySem.F.type_list_append dE (pv 1) (aa (aF (aa (pv 2) (aa bp ad))) ad)))
   (ai (aK (aO (aq DT hr rfl (aa (pv 3) ad)))
    (ai (bI (fI E9 PySem.F.slot_list_append PySem.F.type_list_append dE (pv 1) (aa (aF (aa (pv 2) (aa bp ad))) ad)))) ay))))
  (ai (ar (pv 1)))),?_⟩
 refine ⟨∅,λ l hl=>?_⟩;have s1:Same H (upd H l (.lst [])):=FG hl;have l1:(upd H l (.lst ([]:List V))) l=↥[]:=ae;generalize upd H l (.lst ([]:List V))=H1 at s1 l1 ⊢;have qu:=C6 h3;have n8':(100:Nat) < sizeLine:=∅
 refine ⟨_,Y,x,C,dx,_,_,Y,s1 _ _ h1,T.cl,T.nK,cK _ _,r,rs,Y,.inr ⟨s1 _ _ h2,?_⟩⟩;refine oW (f:=HO.tup) (λ _ _ e=>HO.tup.inj e) (xs:=rs) (λ i σ H2=>∃v2 v3 ys,σ=[↑x,↑l,v2,v3]/\Same H H2/\H2 l=↥ys/\Lys H2 ys (lyK (ks.take i) 0)) ⟨none,none,[],rfl,s1,l1,.nil⟩
  (λ i σ H2 ⟨_,_,_,_,s2,_⟩=>s2 _ _ h2) ?_ ?_
 ·rintro i y p σ H2 hi hp ⟨v2,v3,ys,rfl,s2,l2,y2⟩;obtain ⟨k,hk,a,rfl,ha⟩:=FK h3 hi;have s3:Same H (upd H2 p (.tup [.int i,.ref a])):=s2.trans (FG hp);have l3:(upd H2 p (.tup [.int (i:Int),.ref a])) l=↥ys:=by rw [aj (ah l2 hp)]; exact l2
  have y3:Lys (upd H2 p (.tup [.int (i:Int),.ref a])) ys (lyK (ks.take i) 0):=Lys.keep (λ c xs e=>by rw [aj (ah e hp)]; exact e) y2;have p3:(upd H2 p (.tup [.int (i:Int),.ref a])) p= ~~~[.int (i:Int),.ref a]:=ae;generalize upd H2 p (.tup [.int (i:Int),.ref a])=H3 at s3 l3 y3 p3 ⊢;have hli:i < ks.length:=(A3.mp hk).1;have ylen:ys.length<=16:=by have e1:=C6 y2;have e2:=iG (ks.take i) 0;rw [List.length_take] at e2;omega
  have tk1:lyK (ks.take (i + 1)) 0=lyK (ks.take i) 0 ++ lyT i k:=by rw [List.take_add_one,hk];show lyK (ks.take i ++ [k]) 0=_;rw [jm,List.length_take,Nat.zero_add,Nat.min_eq_left (Nat.le_of_lt hli)]
  refine ⟨p,_,Y,FH p3,Y,_,_,Y,_,_,Y,Y,?_⟩;refine ⟨_,Y,.inl ⟨Y,_,FI l3⟩,_,Y,zS2,λ t ht=>?_⟩;have lt:l≠t:=ah l3 ht;refine ⟨l,ys,_,Y,Y,(by rw [aj lt]; exact l3),⋯,?_⟩;obtain ⟨s4,l4,y4⟩:=oX (b:=false) hl s3 l3 y3 ht;generalize upd (upd H3 t (.tup [.int (i:Int),.bl false])) l (.lst (ys ++ [.ref t]))=H4 at s4 l4 y4 ⊢;refine ⟨_,Y,a,k,Y,s4 _ _ ha,_,Y,?_⟩;refine fL (λ c=>?_) (λ c=>?_)
  ·refine ⟨_,Y,.inl ⟨Y,_,FI l4⟩,_,Y,zS2,λ t' ht'=>?_⟩;have lt':l≠t':=ah l4 ht';refine ⟨l,_,_,Y,Y,(by rw [aj lt']; exact l4),(by rw [List.length_append]; show ys.length + 1 < sizeLine; omega),?_⟩;obtain ⟨s5,l5,y5⟩:=oX (b:=true) hl s4 l4 y4 ht';refine ⟨_,_,_,Y,s5,l5,?_⟩;rw [tk1];unfold lyT;rw [if_pos c];rw [show lyK (ks.take i) 0 ++ [(i,false),(i,true)]=lyK (ks.take i) 0 ++ [(i,false)] ++ [(i,true)] by simp];exact y5
  ·refine ⟨_,_,_,Y,s4,l4,?_⟩;rw [tk1];unfold lyT;rw [if_neg c];exact y4
 ·rintro σ H2 ⟨v2,v3,ys,rfl,s2,l2,y2⟩;rw [qu,List.take_length] at y2;exact ⟨_,Y,q l ys H2 hl l2 y2 s2⟩
theorem ny:FnScope ["self","kind","turned"] ["self","kind","turned"] (defScope cw):=⟨Y,Y,Y,∅,Y,∅,∅⟩
theorem kr {f C:Addr} {fd:FD} (F:Fun K "is_lying" "Shop.is_lying" cw f fd) (B:Blt mg) (T:ShopTxt K C) (DW:Dn P w K mg base "is_whole" ["thing","least"] 1 (bq K)) (DU:Dn P w K mg base "is_truth" ["thing"] 1 (fN K)) (DT:Dn P w K mg base "can_lie_turned" ["kind"] 1 (eK K)) :
  FnOk P w K mg base CX0 2 f fd ["self","kind","turned"] (dG K C):=by
 refine F.ok ny (λ vs H Q E h=>?_) (λ cdv A outer s H vs Q E hr h=>?_)
 ·obtain ⟨s,b,ks,x,t,T0,U,rfl,_⟩:=h
  rfl
 obtain ⟨s,b,ks,x,t,T0,U,rfl,⟨dx,r,rs,h1,h2,h3⟩,tx,tt,q⟩:=h;have qu:=C6 h3;refine ⟨_,ag (aK (PW.pt (bR (aT (aO (aq DW hr rfl (aa (pv 1) (aa af ad))))) (bR (az sW (pv 1) (av bK rfl B.len PySem.boot_len (aa (fg (pv 0) rfl) ad)) (aw _))
   (bu (aT (aO (aq DU hr rfl (aa (pv 2) ad)))))))) (ai (ar bp)) ay)
  (ai (ar (yd (oq (pv 2)) (cj (aq DT hr rfl (aa (aN bo (fg (pv 0) rfl) (pv 1) (λ _ _=>rfl)) ad)))))),?_⟩
 refine ⟨_,Y,x,_,0,Y,tx,_,Y,?_⟩;cases hw:aA x 0 with
 | false =>
  have e:fk ks x t=false:=by
   cases x with
   | int i =>
    have h0:decide (0<=i)=false:=hw;cases t <;> first | rfl | (show (decide (0<=i) && _)=false; rw [h0,Bool.false_and])
   | _=>rfl
  rw [e] at q;exact aP (aP q)
 | true =>
  have ex:∃i,x=.int i/\0<=i:=by
   cases x with
   | int i=>exact ⟨i,Y,B7 hw⟩
   | _=>cases hw
  obtain ⟨i,rfl,i0⟩:=ex;refine aD ⟨_,rfl,_,rfl,s,C,dx,_,_,rfl,h1,T.cl,T.nK,cK _ _,r,rs,rfl,.inr (FH h2),i,_,rfl,rfl,_,rfl,?_⟩
  by_cases hi:(rs.length:Int)<=i
  ·rw [decide_eq_true hi];have e:fk ks (.int i) t=false:=by have hn:ks[i.toNat]? = none:=List.getElem?_eq_none ⋯;cases t <;> first | rfl | (show (decide (0<=i) && match ks[i.toNat]? with | some k=>_ | none=>false)=false; rw [hn,Bool.and_false])
   rw [e] at q;exact aP (aP q)
  ·rw [decide_eq_false hi];refine aD ⟨_,rfl,t,_,rfl,tt,_,rfl,?_⟩;have hlt:i.toNat < ks.length:=⋯
   cases hb:mR t with
   | false =>
    have e:fk ks (.int i) t=false:=by cases t <;> first | rfl | cases hb
    rw [e] at q;exact aP q
   | true =>
    have ex:∃c,t=.bl c:=by cases t <;> first | exact ⟨_,Y⟩ | cases hb
    obtain ⟨c,rfl⟩:=ex;obtain ⟨y,hy⟩:∃y,rs[i.toNat]? = some y:=⟨rs[i.toNat]'⋯,by simp [show i.toNat < rs.length by omega]⟩
    obtain ⟨k,hk,a,rfl,ha⟩:=FK h3 hy;have e:fk ks (.int i) (.bl c)=(!c || bZ k):=by show (decide (0<=i) && match ks[i.toNat]? with | some k=>(!c || bZ k) | none=>false)=_;rw [hk,decide_eq_true i0,Bool.true_and]
    rw [e] at q;refine aD ⟨_,rfl,c,rfl,_,rfl,?_⟩;refine fL (λ d=>?_) (λ d=>?_)
    ·rw [d,Bool.true_or] at q;exact q
    ·have d':(!c)=false:=by simpa using d
     rw [d',Bool.false_or] at q;have at':atI rs i=↑a:=by
      have en:ixN rs.length i=some i.toNat:=by unfold ixN;rw [if_pos i0,if_pos ⋯]
      unfold atI;rw [en];exact hy
     exact ⟨_,Y,s,C,dx,_,_,Y,h1,T.cl,T.nK,cK _ _,_,Y,r,rs,i,_,Y,Y,FH h2,at',a,k,Y,ha,q⟩
end
def pK (k:Kd) (c:Bool):List V:=if c=true then [.int k.h,.int k.w] else [.int k.w,.int k.h]
inductive spSides (K:C1) (C:Addr) (vs:List V) (H:Hp) (Q:VK) (E_:XK):Prop
 | mk (s:Addr) (b:Int) (ks:List Kd) (x t:V) (T U:String) (e_1:vs=[.ref s,x,t]) (e_2:ShopAt C H s b ks) (e_3:Ty K H x T) (e_4:Ty K H t U) (e_5:fk ks x t=true) (e_6:∀ (i:Int) (c:Bool) (k:Kd) (p:Addr),x=.int i->t=.bl c->ks[i.toNat]? = some k->fk ks x t=true->H p=none->Q (.ref p) (upd H p (.tup (pK k c)))):spSides K C vs H Q E_
theorem nz {ks:List Kd} {x t:V} (h:fk ks x t=true):∃ (i:Int) (c:Bool) (k:Kd),x=.int i/\t=.bl c/\0<=i/\ks[i.toNat]? = some k:=by
 unfold fk at h
 split at h
 ·rename_i i c
  rw [Bool.and_eq_true] at h;obtain ⟨h1,h2⟩:=h
  split at h2
  ·rename_i k hk
   exact ⟨i,c,k,Y,Y,B7 h1,hk⟩
  ·cases h2
 ·cases h
theorem uC {rs:List V} {i:Int} {v:V} (i0:0<=i) (h:rs[i.toNat]? = some v):atI rs i=some v:=by
 have en:ixN rs.length i=some i.toNat:=by unfold ixN;have:=(A3.mp h).1;rw [if_pos i0,if_pos ⋯]
 unfold atI;rw [en];exact h
section
variable {P:FC} {w:FE} {K:C1} {mg:Str->Option FF} {base:Heap}
theorem scSides:FnScope ["self","kind","turned","row"] ["self","kind","turned"] (defScope cZ):=⟨Y,Y,Y,∅,Y,∅,∅⟩
theorem pL {f C:Addr} {fd:FD} (F:Fun K "sides" "Shop.sides" cZ f fd) (T:ShopTxt K C) (ML:Mn P w K mg base C "is_lying" ["self","kind","turned"] 2 (dG K C)) :
  FnOk P w K mg base CX0 3 f fd ["self","kind","turned"] (spSides K C):=by
 refine F.ok scSides (λ vs H Q E h=>?_) (λ cdv A outer s H vs Q E hr h=>?_)
 ·obtain ⟨s,b,ks,x,t,T0,U,rfl,_⟩:=h
  rfl
 obtain ⟨s,b,ks,x,t,T0,U,rfl,S,tx,tt,he,hq⟩:=h;have nd:=scSides.nd;refine ⟨_,ag (aK (aT (aO (oY (pv 0) T.cl ML hr (aa (pv 1) (aa (pv 2) ad))))) (ai bB) ay)
  (ag (aI (i:=3) nd rfl (Or.inl rfl) (aN bo (fg (pv 0) rfl) (pv 1) (λ _ _=>rfl)))
  (ag (aK (aO (pv 2)) (ai (ar (aF (aa (aN bo (pv 3) af (λ _ _=>rfl)) (aa (aN bo (pv 3) af (λ _ _=>rfl)) ad))))) ay)
  (ai (ar (aF (aa (aN bo (pv 3) af (λ _ _=>rfl)) (aa (aN bo (pv 3) af (λ _ _=>rfl)) ad))))))),?_⟩
 obtain ⟨dx,r,rs,h1,h2,h3⟩:=id S;refine ⟨_,Y,s,dx,_,Y,h1,cF _ _ ∅ ∅,_,Y,_,Y,s,b,ks,x,t,T0,U,Y,S,tx,tt,_,Y,?_⟩;cases hl:fk ks x t with
 | false=>rw [hl] at he; cases he
 | true =>
  obtain ⟨i,c,k,rfl,rfl,i0,hk⟩:=nz hl;have qu:=C6 h3;have hik:=(A3.mp hk).1;obtain ⟨y,hy⟩:∃y,rs[i.toNat]? = some y:=⟨rs[i.toNat]'⋯,by simp [show i.toNat < rs.length by omega]⟩
  obtain ⟨k',hk',a,rfl,ha⟩:=FK h3 hy;rw [hk] at hk';obtain rfl:=B5 hk';refine aD ?_;refine ⟨_,Y,s,C,dx,_,_,Y,h1,T.cl,T.nK,cK _ _,_,Y,r,rs,i,_,Y,Y,FH h2,uC i0 hy,?_⟩;refine ⟨_,Y,_,Y,?_⟩;cases c with
  | true =>
   refine aP ?_;refine ⟨_,Y,a,_,1,_,Y,Y,FH ha,Y,_,Y,a,_,0,_,Y,Y,FH ha,Y,zS2,λ p hp=>?_⟩;exact hq i true k p rfl rfl hk hl hp
  | false =>
   refine aD ?_;refine ⟨_,Y,a,_,0,_,Y,Y,FH ha,Y,_,Y,a,_,1,_,Y,Y,FH ha,Y,zS2,λ p hp=>?_⟩;exact hq i false k p rfl rfl hk hl hp
end
section
variable {P:FC} {w:FE} {K:C1} {mg:Str->Option FF} {base:Heap}
def sd1 (k:Kd) (c:Bool):Int:=if c=true then k.h else k.w
def sd2 (k:Kd) (c:Bool):Int:=if c=true then k.w else k.h
theorem pM (k:Kd) (c:Bool):pK k c=[.int (sd1 k c),.int (sd2 k c)]:=by cases c <;> rfl
def pN (k:Kd) (c:Bool) (w h:Int):Bool:=decide (sd1 k c<=w) && decide (sd2 k c<=h)
inductive spCP (vs:List V) (H:Hp) (Q:VK) (E_:XK):Prop
 | mk (w h:Int) (e_1:vs=[.int w,.int h]) (e_2:1<=w) (e_3:1<=h) (e_4:Q .non H):spCP vs H Q E_
inductive spCS (vs:List V) (H:Hp) (Q:VK) (E_:XK):Prop
 | mk (w h m:Int) (e_1:vs=[.int w,.int h,.int m]) (e_2:w<=m) (e_3:h<=m) (e_4:Q .non H):spCS vs H Q E_
inductive spLies (C:Addr) (vs:List V) (H:Hp) (Q:VK) (E_:XK):Prop
 | mk (s:Addr) (b:Int) (ks:List Kd) (w h i:Int) (c:Bool) (k:Kd) (e_1:vs=[.ref s,.int w,.int h,.int i,.bl c,.int 0,.int 0]) (e_2:ShopAt C H s b ks) (e_3:fk ks (.int i) (.bl c)=true) (e_4:ks[i.toNat]? = some k) (e_5:∀H',Same H H'->Q (.bl (pN k c w h)) H'):spLies C vs H Q E_
theorem sccplate:FnScope ["wide","high"] ["wide","high"] (defScope bU):=⟨Y,Y,Y,∅,Y,∅,∅⟩
theorem nA {f:Addr} {fd:FD} (F:Fun K "check_plate" "check_plate" bU f fd) (DW:Dn P w K mg base "is_whole" ["thing","least"] 1 (bq K)):FnOk P w K mg base CX0 2 f fd ["wide","high"] (spCP):=by
 refine F.ok sccplate (λ vs H Q E h=>?_) (λ cdv A outer s H vs Q E hr h=>?_)
 ·obtain ⟨w1,h1,rfl,_⟩:=h
  rfl
 obtain ⟨w1,h1,rfl,hw,hh,q⟩:=h;have nd:=sccplate.nd;refine ⟨_,(@ai _ _ _ ((PW.pt (bR (@aT _ _ _ _ (@aO _ _ _ (DW∪((pv 0)^^^(af^^^ad))) (by intro _; rfl))) (bu (@aT _ _ _ _ (@aO _ _ _ (DW∪((pv 1)^^^(af^^^ad))) (by intro _; rfl))))))<|>(@ai _ _ _ bB)<|>ay)),?_⟩;refine ⟨_,Y,.int w1,"int",1,Y,Ty.int,_,Y,?_⟩;rw [show aA (.int w1) 1=true from decide_eq_true hw];refine aD ⟨_,rfl,.int h1,"int",1,rfl,Ty.int,_,rfl,?_⟩;rw [show aA (.int h1) 1=true from decide_eq_true hh];exact aD q
theorem sccsides:FnScope ["wide","high","most"] ["wide","high","most"] (defScope bV):=⟨Y,Y,Y,∅,Y,∅,∅⟩
theorem nC {f:Addr} {fd:FD} (F:Fun K "check_sides" "check_sides" bV f fd)  : FnOk P w K mg base CX0 1 f fd ["wide","high","most"] (spCS):=by
 refine F.ok sccsides (λ vs H Q E h=>?_) (λ cdv A outer s H vs Q E hr h=>?_)
 ·obtain ⟨w1,h1,m,rfl,_⟩:=h
  rfl
 obtain ⟨w1,h1,m,rfl,hw,hh,q⟩:=h;have nd:=sccsides.nd;refine ⟨_,(@ai _ _ _ ((PW.pt (bR ((pv 0)<*>dQ<*>(pv 2)) (bu ((pv 1)<*>dQ<*>(pv 2)))))<|>(@ai _ _ _ bB)<|>ay)),?_⟩;refine ⟨_,Y,_,Y,_,_,Y,Y,_,Y,?_⟩;rw [decide_eq_false (show ¬ m < w1 by omega)];refine aD ⟨_,rfl,_,rfl,_,_,rfl,rfl,_,rfl,?_⟩;rw [decide_eq_false (show ¬ m < h1 by omega)];exact aD q
theorem sclies:FnScope ["shop","wide","high","kind","turned","x","y","piece_wide","piece_high"] ["shop","wide","high","kind","turned","x","y"] (defScope fV):=⟨Y,Y,Y,∅,Y,∅,∅⟩
theorem rP {f C:Addr} {fd:FD} (F:Fun K "lies_in" "lies_in" fV f fd) (T:ShopTxt K C) (DW:Dn P w K mg base "is_whole" ["thing","least"] 1 (bq K)) (MI:Mn P w K mg base C "is_lying" ["self","kind","turned"] 2 (dG K C)) (MS:Mn P w K mg base C "sides" ["self","kind","turned"] 3 (spSides K C)):FnOk P w K mg base CX0 4 f fd ["shop","wide","high","kind","turned","x","y"] (spLies C):=by
 refine F.ok sclies (λ vs H Q E h=>?_) (λ cdv A outer s H vs Q E hr h=>?_)
 ·obtain ⟨s,b,ks,w,h,i,c,k,rfl,_⟩:=h
  rfl
 obtain ⟨s,b,ks,w,h,i,c,k,rfl,S,ly,hk,q⟩:=h;have nd:=sclies.nd;have hr1:=hr.mono (show 1<=3 by decide);have hr2:=hr.mono (show 2<=3 by decide);refine ⟨_,(((PW.pt (bR (@aT _ _ _ _ (@aO _ _ _ (oY (pv 0) T.cl MI hr2 ((pv 3)^^^((pv 4)^^^ad))) (by intro _; rfl))) (bR (@aT _ _ _ _ (@aO _ _ _ (@aq _ _ _ _ _ _ _ _ _ _ DW hr1 Y ((pv 5)^^^(af^^^ad)) ∅ Y Y) (by intro _; rfl))) (bu (@aT _ _ _ _ (@aO _ _ _ (@aq _ _ _ _ _ _ _ _ _ _ DW hr1 Y ((pv 6)^^^(af^^^ad)) ∅ Y Y) (by intro _; rfl)))))))<|>(bp⁻¹)<|>ay)<<<((@cz _ _ _ _ _ _ (oY (pv 0) T.cl MS hr ((pv 3)^^^((pv 4)^^^ad))) (bQ Y (7•(8•bn))) Y Y Y)<<<((bA (@bJ _ _ _ _ _ _ _ _ fG ((pv 5)|||bh|||(pv 7)) (pv 1) (aw _)) (cj (@bJ _ _ _ _ _ _ _ _ fG ((pv 6)|||bh|||(pv 8)) (pv 2) (aw _))))⁻¹))),?_⟩;obtain ⟨dx,r,rs,h1,h2,h3⟩:=id S;refine ⟨_,Y,s,dx,_,Y,h1,cF _ _ ∅ ∅,_,Y,_,Y,s,b,ks,.int i,.bl c,"int","bool",Y,S,Ty.int,Ty.bl,_,Y,?_⟩;rw [ly];refine aD ⟨_,rfl,.int 0,"int",0,rfl,Ty.int,_,rfl,aD ⟨_,rfl,.int 0,"int",0,rfl,Ty.int,_,rfl,aD ?_⟩⟩;refine ⟨_, Y, s, dx, _, Y, h1, cF _ _ ∅ ∅, _, Y, _, Y, s, b, ks, .int i, .bl c, "int", "bool", Y, S, Ty.int, Ty.bl, ly, λ i' c' k' p e1 e2 hk' _ hp=>?_⟩;cases e1;cases e2;rw [hk] at hk';cases hk';rw [pM];have q1:=q _ (FG hp (o:=.tup [.int (sd1 k c),.int (sd2 k c)]));refine ⟨p,_,Y,FH ae,Y,_,_,Y,_,_,Y,Y,?_⟩;refine ⟨_,Y,_,Y,_,_,Y,Y,_,Y,_,_,Y,Y,_,Y,?_⟩;unfold pN at q1;refine fL (λ cc=>?_) (λ cc=>?_)
 ·refine ⟨_,Y,_,Y,_,_,Y,Y,_,Y,_,_,Y,Y,?_⟩;rw [Int.zero_add] at cc ⊢;rw [cc] at q1;exact q1
 ·rw [Int.zero_add] at cc;rw [show decide (sd1 k c<=w)=false by simpa using cc] at q1;exact q1
end
section
variable {P:FC} {w:FE} {K:C1} {mg:Str->Option FF} {base:Heap}
theorem rQ {a b c:St} (h1:leS a b) (h2:leS b c):leS a c:=⟨h2.1.trans h1.1,λ i v e=>h2.2 i v (h1.2 i v e)⟩
theorem rR {i:Nat} {k:Kd} {q:Nat×Bool} (h:q∈lyT i k):q.1=i/\(q.2=false\/bZ k=true):=by
 unfold lyT at h;rcases List.mem_cons.mp h with rfl | h
 ·exact ⟨Y,.inl rfl⟩
 ·by_cases c:bZ k=true
  ·rw [if_pos c] at h;rw [List.mem_singleton.mp h];exact ⟨Y,.inr c⟩
  ·rw [if_neg c] at h;simp at h
theorem lZ:∀ {ks:List Kd} {i:Nat} {q:Nat×Bool},q∈lyK ks i->i<=q.1/\∃k,ks[q.1 - i]? = some k/\(q.2=false\/bZ k=true)
 | [],_,_,h=>by simp [lyK] at h
 | k :: r,i,q,h=>by
  rcases B9.mp h with h | h
  ·obtain ⟨h1,h2⟩:=rR h;exact ⟨⋯,k,by rw [h1,Nat.sub_self]; rfl,h2⟩
  ·obtain ⟨h1,k',h2,h3⟩:=lZ h;refine ⟨⋯,k',?_,h3⟩;rw [show q.1 - i=(q.1 - (i + 1)) + 1 by omega];exact h2
theorem iP {ks:List Kd} {q:Nat×Bool} (h:q∈lyK ks 0):fk ks (.int q.1) (.bl q.2)=true/\∃k,ks[q.1]? = some k:=by
 obtain ⟨_,k,h2,h3⟩:=lZ h;rw [Nat.sub_zero] at h2;refine ⟨?_,k,h2⟩;unfold fk;simp only [Int.toNat_natCast,h2,Bool.and_eq_true];refine ⟨A7 ⋯,?_⟩;rcases h3 with e | e
 ·rw [e]; rfl
 ·rw [e,Bool.or_true]
def dv (ks:List Kd) (w h:Int) (q:Nat×Bool):Bool:=match ks[q.1]? with
 | some k=>pN k q.2 w h
 | none=>false
inductive spLyIn (C:Addr) (vs:List V) (H:Hp) (Q:VK) (E_:XK):Prop
 | mk (s t:Addr) (b:Int) (ks:List Kd) (w h:Int) (e_1:vs=[.ref s,.ref t]) (e_2:ShopAt C H s b ks) (e_3:ks.length<=8) (e_4:H t= ~~~[.int w,.int h]) (e_5:∀ (l:Addr) (ys:List V) (H':Hp),H l=none->H' l=↥ys->Lys H' ys ((lyK ks 0).filter (dv ks w h))->Same H H'->Q (.ref l) H'):spLyIn C vs H Q E_
theorem sclyin:FnScope ["shop","part","wide","high"] ["shop","part"] (defScope cO):=⟨Y,Y,Y,∅,Y,∅,∅⟩
theorem rS {f C:Addr} {fd:FD} (F:Fun K "lyings_in" "lyings_in" cO f fd) (T:ShopTxt K C) (ML:Mn P w K mg base C "lyings" ["self"] 2 (gv C)) (DLI:Dn P w K mg base "lies_in" ["shop","wide","high","kind","turned","x","y"] 4 (spLies C)):FnOk P w K mg base CX0 5 f fd ["shop","part"] (spLyIn C):=by
 refine F.ok sclyin (λ vs H Q E h=>?_) (λ cdv A outer s H vs Q E hr h=>?_)
 ·obtain ⟨s,t,b,ks,w,h,rfl,_⟩:=h
  rfl
 obtain ⟨s,t,b,ks,w,h,rfl,S,k8,ht,q⟩:=h;have nd:=sclyin.nd;have hr2:=hr.mono (show 2<=4 by decide);refine ⟨_,((@cz _ _ _ _ _ _ (pv 1) (bQ Y (au (ap (i:=2) nd Y (Or.inr Y)) (au (ap (i:=3) nd Y (Or.inr Y)) bn))) Y Y Y)<<<((cg (own:=["kind","turned"]) (cs:=["shop","wide","high"]) (cap:=[0,2,3]) Y (bP (gq (pv 0) T.cl ML hr2)) (aX (sc:=defScope cO) (N:=["shop","part","wide","high"]) Y Y ∅) (λ _ _ _ _ _=>fq K Y Y (by show List.Nodup (["kind","turned","shop","wide","high"]:List Str) ; decide +kernel) Y Y Y Y) (λ _ _ _ _ _=>(oM (@aO _ _ _ (DLI∪((pv 2)^^^((pv 3)^^^((pv 4)^^^((pv 0)^^^((pv 1)^^^(af^^^(af^^^ad)))))))) (by intro _; rfl)))) (λ _ _ _ _ _=>(@aF _ _ _ _ _ ((pv 0)^^^((pv 1)^^^ad)))))⁻¹)),?_⟩;have sz:(100:Nat) < sizeLine:=∅
 obtain ⟨dx,r,rs,h1,h2,h3⟩:=id S;refine ⟨_,Y,t,_,Y,FH ht,Y,_,_,Y,_,_,Y,Y,?_⟩;refine ⟨_,Y,s,dx,_,Y,h1,cF _ _ ∅ ∅,s,b,ks,Y,S,k8,λ l1 ys H1 hl1 l1' ly s1=>?_⟩;have lyl:=iG ks 0;have ylen:=C6 ly;refine ⟨l1,Y,⟨_,FI l1'⟩,(eJ (K:=K) (.inl l1') (λ i zs H4=>Same H1 H4/\zs.length<=i/\Lys H4 zs (((lyK ks 0).take i).filter (dv ks w h))) (λ i zs H4 _ ⟨s4,_⟩ o e=>s4 _ _ e) ⟨Same.refl _,B0 _,.nil⟩ ?_ ?_).1 l1'⟩
 ·rintro i y zs H4 hi ⟨s4,zl,lz⟩;have hin:i < ys.length:=(A3.mp hi).1;obtain ⟨qq,hq,a,rfl,ha⟩:=FK ly hi;obtain ⟨li,k,hk⟩:=iP (B2 hq);refine ⟨⋯,a,_,Y,FH (s4 _ _ ha),Y,_,_,Y,_,_,Y,Y,?_⟩;refine ⟨rQ (leS.set rfl) (leS.set rfl),?_⟩;have S4:ShopAt C H4 s b ks:=S.keep (λ c o e=>s4 _ _ (s1 _ _ e)) (λ c C' d fs e=>s4 _ _ (s1 _ _ e));refine ⟨_,Y,_,Y,_,Y,_,Y,_,Y,s,b,ks,w,h,(qq.1:Int),qq.2,k,Y,S4,li,(by rw [Int.toNat_natCast]; exact hk),λ H5 s5=>⟨_,Y,?_⟩⟩;have st:((lyK ks 0).take (i + 1)).filter (dv ks w h)=((lyK ks 0).take i).filter (dv ks w h) ++ (if pN k qq.2 w h=true then [qq] else []):=by rw [List.take_add_one,hq,List.filter_append];simp only [Option.toList_some,List.filter_cons,List.filter_nil];rw [show dv ks w h qq=pN k qq.2 w h by unfold dv; rw [hk]]
  dsimp only;refine fL (λ cc=>?_) (λ cc=>?_)
  ·rw [cc,if_pos rfl] at st;refine ⟨_,Y,_,Y,zS2,λ p hp=>Nx.of hin ⟨(s4.trans s5).trans (FG hp),by rw [List.length_append]; show _ + 1<=_; omega,?_⟩⟩;rw [st];refine Paired.snoc (Lys.keep (λ c o e=>?_) lz) ⟨p,rfl,ae⟩;have e5:=s5 _ _ e;rw [aj (ah e5 hp)]; exact e5
  ·rw [if_neg cc,List.append_nil] at st;refine Nx.of hin ⟨s4.trans s5,⋯,?_⟩;rw [st];exact Lys.keep (λ c o e=>s5 _ _ e) lz
 ·rintro zs H4 ⟨s4,zl,lz⟩;rw [ylen,List.take_length] at lz;refine ⟨⋯,λ p hp=>q p zs _ ((s1.trans s4).free hp) ae (Lys.keep (λ c o e=>?_) lz) ((s1.trans s4).trans (FG hp))⟩;rw [aj (ah e hp)]; exact e
end
def PtAt (H:Hp) (v:V) (p:Int×Int):Prop:=∃q,v=.ref q/\H q= ~~~[.int p.1,.int p.2]
theorem PtAt.keep {H H':Hp} (s:Same H H') {v:V} {p:Int×Int} (h:PtAt H v p):PtAt H' v p:=by obtain ⟨q,e,h⟩:=h;exact ⟨q,e,s _ _ h⟩
def eD (a:Int) (n:Nat):List (Int×Int):=(List.range n).map λ (c:Nat)=>(a,1 + (c:Int))
def ak (m n:Nat):List (Int×Int):=(List.range m).flatMap λ (a:Nat)=>eD (1 + (a:Int)) n
theorem gI (a:Int) (n:Nat):(eD a n).length=n:=by unfold eD; rw [List.length_map,List.length_range]
theorem ci (m n:Nat):ak (m + 1) n=ak m n ++ eD (1 + (m:Int)) n:=by unfold ak;rw [List.range_succ,List.flatMap_append];simp
theorem fA (a:Int) (n:Nat):eD a (n + 1)=eD a n ++ [(a,1 + (n:Int))]:=by
 unfold eD;rw [List.range_succ,List.map_append]
 rfl
theorem bH (m n:Nat):(ak m n).length=m * n:=by
 induction m with
 | zero=>simp [ak]
 | succ m ih=>rw [ci,List.length_append,ih,gI,Nat.succ_mul]
section
variable {P:FC} {w:FE} {K:C1} {mg:Str->Option FF} {base:Heap}
inductive spParts (vs:List V) (H:Hp) (Q:VK) (E_:XK):Prop
 | mk (m n:Nat) (e_1:vs=[.int m,.int n]) (e_2:m<=16) (e_3:n<=16) (e_4:∀ (l:Addr) (ys:List V) (H':Hp),H' l=↥ys->Paired (PtAt H') ys (ak m n)->Same H H'->Q (.ref l) H'):spParts vs H Q E_
theorem scparts:FnScope ["wide","high"] ["wide","high"] (defScope cB):=⟨Y,Y,Y,∅,Y,∅,∅⟩
theorem pO {f:Addr} {fd:FD} (F:Fun K "parts_up_to" "parts_up_to" cB f fd) (B:Blt mg):FnOk P w K mg base CX0 1 f fd ["wide","high"] (spParts):=by
 refine F.ok scparts (λ vs H Q E h=>?_) (λ cdv A outer s H vs Q E hr h=>?_)
 ·obtain ⟨m,n,rfl,_⟩:=h
  rfl
 obtain ⟨m,n,rfl,m16,n16,q⟩:=h;have nd:=scparts.nd;refine ⟨_,((pj (own:=["a","b"]) (cs:=["high"]) (cap:=[1]) Y (dC Y B.range (af^^^(((pv 0)|||bh|||af)^^^ad))) (aX (sc:=defScope cB) (N:=["wide","high"]) Y Y ∅) (λ _ _ _ _ _=>ap (i:=0) (by show List.Nodup (["a","b","high"]:List Str) ; decide +kernel) Y (Or.inl Y) (Or.inr Y)) (λ _ _ _ _ _=>bi) (λ _ _ _ _ _=>(dC Y B.range (af^^^(((pv 2)|||bh|||af)^^^ad)))) (λ _ _ _ _ _=>ap (i:=1) (by show List.Nodup (["a","b","high"]:List Str) ; decide +kernel) Y (Or.inl Y) (Or.inr Y)) (λ _ _ _ _ _=>bi) (λ _ _ _ _ _=>(@aF _ _ _ _ _ ((pv 0)^^^((pv 1)^^^ad)))))⁻¹),?_⟩;have z4:4096<=sizeLine:=∅
 refine ⟨_,Y,_,_,Y,Y,1,_,Y,⟨∅,∅,by show -(2 ^ 62)<=(m:Int) + 1; omega,by show (m:Int) + 1 < 2 ^ 62; omega⟩,?_⟩;have em:((m:Int) + 1 - 1).toNat=m:=⋯
 show ∃W,_/\iJ _ _ _ (Itr 1 ((m:Int) + 1 - 1).toNat) _ _ _ _ _ _ _ W;rw [em];refine ni (lo:=1) (n:=m) (λ i ys Hx=>Same H Hx/\Paired (PtAt Hx) ys (ak i n)) ⟨Same.refl _,.nil⟩ ?_ ?_
 ·rintro i ys Hx hi ⟨sx,py⟩;refine ⟨leS.set rfl,bE ?_⟩;refine ⟨_,Y,_,_,Y,Y,1,_,Y,⟨∅,∅,by show -(2 ^ 62)<=(n:Int) + 1; omega,by show (n:Int) + 1 < 2 ^ 62; omega⟩,?_⟩;have en:((n:Int) + 1 - 1).toNat=n:=⋯
  show ∃W2,_/\iI _ (Itr 1 ((n:Int) + 1 - 1).toNat) _ _ _ _ W2;rw [en];refine uw (lo:=1) (n:=n) (λ j zs Hy=>Same H Hy/\Paired (PtAt Hy) zs (ak i n ++ eD (1 + (i:Int)) j)) ⟨sx,by show Paired _ _ (_ ++ []); rw [List.append_nil]; exact py⟩ ?_ ?_
  ·rintro j zs Hy hj ⟨sy,pz⟩;have pl:=C6 pz;rw [List.length_append,bH,gI] at pl;have:i * n<=16 * 16:=Nat.mul_le_mul ⋯ ⋯;refine ⟨⋯,leS.set rfl,bE ?_⟩;refine ⟨_,Y,_,Y,zS2,λ t ht=>?_⟩;obtain ⟨Hz,e1,k1,s1⟩:∃H',upd Hy t (.tup [.int (1 + i),.int (1 + j)])=H'/\H' t= ~~~[.int (1 + i),.int (1 + j)]/\Same Hy H':=⟨_,Y,ae,FG ht⟩
   rw [show upd Hy t _=Hz from e1];refine Nx.of hj ⟨sy.trans s1,?_⟩;rw [fA,<- List.append_assoc];exact Paired.app (FJ pz λ v p h=>h.keep s1) (.cons ⟨t,Y,k1⟩ .nil)
  ·rintro zs Hy ⟨sy,pz⟩;refine Nx.of hi ⟨sy,?_⟩;rw [ci];exact pz
 ·rintro ys Hx ⟨sx,py⟩;have pl:=C6 py;rw [bH] at pl;have:m * n<=16 * 16:=Nat.mul_le_mul ⋯ ⋯;refine ⟨⋯,λ l hl=>?_⟩;obtain ⟨Hz,e2,k2,s2⟩:∃H',upd Hx l (.lst ys)=H'/\H' l=↥ys/\Same Hx H':=⟨_,Y,ae,FG hl⟩
  rw [show upd Hx l _=Hz from e2];exact q l ys Hz k2 (FJ py λ v p h=>h.keep s2) (sx.trans s2)
end
structure BeC (K:C1) (mg:Str->Option Value) (wa:Addr):Prop where
 dn:∃t,mg "DOWN" = some (.str "down" t)
 rs:∃t,mg "REST" = some (.str "rest" t)
 pc:∃t,mg "PIECE" = some (.str "piece" t)
 ac:∃t,mg "ACROSS" = some (.str "across" t)
 ms:∃t,mg "MOST_SIDE" = some (.int 16 t)
 wy:mg "WAYS" = ↑wa
 wq:∀H,SqT K H wa [.str "down",.str "across"]
abbrev wv (dn:Bool):V:=.str (if dn=true then "down" else "across")
def WpAt (H:Hp) (v:V) (x:Bool×Int):Prop:=∃q,v=.ref q/\H q= ~~~[wv x.1,.int x.2]
theorem WpAt.keep {H H':Hp} (s:Same H H') {v:V} {x:Bool×Int} (h:WpAt H v x):WpAt H' v x:=by obtain ⟨q,e,h⟩:=h;exact ⟨q,e,s _ _ h⟩
def wpL (dn:Bool) (n:Nat):List (Bool×Int):=(List.range n).map λ (j:Nat)=>(dn,1 + (j:Int))
theorem eQ (dn:Bool) (n:Nat):(wpL dn n).length=n:=by unfold wpL; rw [List.length_map,List.length_range]
theorem jz (dn:Bool) (n:Nat):wpL dn (n + 1)=wpL dn n ++ [(dn,1 + (n:Int))]:=by
 unfold wpL;rw [List.range_succ,List.map_append]
 rfl
def cn (b w h:Int):List (Bool×Int):=wpL true (w - b - 1).toNat ++ wpL false (h - b - 1).toNat
def aQ (w h:Int) (x:Bool×Int):Int×Int:=if x.1=true then (x.2,h) else (w,x.2)
def aR (b w h:Int) (x:Bool×Int):Int×Int:=if x.1=true then (w - x.2 - b,h) else (w,h - x.2 - b)
def CutAt (b w h:Int) (H:Hp) (v:V) (x:Bool×Int):Prop:=∃q t1 t2,v=.ref q/\H q= ~~~[wv x.1,.int x.2,.ref t1,.ref t2]/\H t1= ~~~[.int (aQ w h x).1,.int (aQ w h x).2]/\H t2= ~~~[.int (aR b w h x).1,.int (aR b w h x).2]
theorem CutAt.keep {b w h:Int} {H H':Hp} (s:Same H H') {v:V} {x:Bool×Int} (c:CutAt b w h H v x):CutAt b w h H' v x:=by obtain ⟨q,t1,t2,e,h1,h2,h3⟩:=c;exact ⟨q,t1,t2,e,s _ _ h1,s _ _ h2,s _ _ h3⟩
section
variable {P:FC} {w:FE} {K:C1} {mg:Str->Option FF} {base:Heap}
inductive spParts2 (vs:List V) (H:Hp) (Q:VK) (E_:XK):Prop
 | mk (b w h p:Int) (t:Addr) (dn:Bool) (e_1:vs=[.int b, .ref t, .str (if dn=true then "down" else "across"), .int p]) (e_2:H t= ~~~[.int w, .int h]) (e_3:∀ (u t1 t2:Addr) (H':Hp), H' u= ~~~[.ref t1, .ref t2]->H' t1= ~~~(if dn=true then [.int p, .int h] else [.int w, .int p])->H' t2= ~~~(if dn=true then [.int (w - p - b), .int h] else [.int w, .int (h - p - b)])->Same H H'->Q (.ref u) H'):spParts2 vs H Q E_
inductive spCuts (vs:List V) (H:Hp) (Q:VK) (E_:XK):Prop
 | mk (b w h:Int) (t:Addr) (e_1:vs=[.int b,.ref t]) (e_2:H t= ~~~[.int w,.int h]) (e_3:w<=16) (e_4:h<=16) (e_5:0<=b) (e_6:∀ (l:Addr) (ys:List V) (H':Hp),H' l=↥ys->Paired (CutAt b w h H') ys (cn b w h)->Same H H'->Q (.ref l) H'):spCuts vs H Q E_
theorem scparts2:FnScope ["blade","part","way","p","wide","high"] ["blade","part","way","p"] (defScope dI):=⟨Y,Y,Y,∅,Y,∅,∅⟩
theorem nD {f wa:Addr} {fd:FD} (F:Fun K "cut_parts" "cut_parts" dI f fd) (Z:BeC K mg wa):FnOk P w K mg base CX0 1 f fd ["blade","part","way","p"] (spParts2):=by
 refine F.ok scparts2 (λ vs H Q E h=>?_) (λ cdv A outer s H vs Q E hr h=>?_)
 ·obtain ⟨b,w1,h1,p1,t,dn,rfl,_⟩:=h
  rfl
 obtain ⟨b,w1,h1,p1,t,dn,rfl,ht,q⟩:=h;have nd:=scparts2.nd;obtain ⟨tdn,hdn⟩:=Z.dn;obtain ⟨trs,hrs⟩:=Z.rs;obtain ⟨tpc,hpc⟩:=Z.pc;refine ⟨_,((@cz _ _ _ _ _ _ (pv 1) (bQ Y (4•(5•bn))) Y Y Y)<<<((((pv 2)<*>cJ<*>(aJ (v:=.str "down") Y hdn ⟨tdn,Y⟩))<|>((@aF _ _ _ _ _ ((@aF _ _ _ _ _ ((pv 3)^^^((pv 5)^^^ad)))^^^((@aF _ _ _ _ _ ((((pv 4)|||cR|||(pv 3))|||cR|||(pv 0))^^^((pv 5)^^^ad)))^^^ad)))⁻¹)<|>ay)<<<((@aF _ _ _ _ _ ((@aF _ _ _ _ _ ((pv 4)^^^((pv 3)^^^ad)))^^^((@aF _ _ _ _ _ ((pv 4)^^^((((pv 5)|||cR|||(pv 3))|||cR|||(pv 0))^^^ad)))^^^ad)))⁻¹))),?_⟩;refine ⟨_,Y,t,_,Y,FH ht,Y,_,_,Y,_,_,Y,Y,?_⟩;cases dn with
 | true =>
  refine ⟨_,Y,Y,_,Y,aP ?_⟩;refine ⟨_,Y,_,Y,zS2,λ t1 h1'=>?_⟩;have sa:Same H (upd H t1 (.tup [.int p1,.int h1])):=FG h1';have ka:(upd H t1 (.tup [.int p1,.int h1])) t1= ~~~[.int p1,.int h1]:=ae;generalize upd H t1 (.tup [.int p1,.int h1])=Ha at sa ka ⊢;refine ⟨_,Y,_,Y,_,_,Y,Y,_,Y,_,_,Y,Y,_,Y,zS2,λ t2 h2'=>?_⟩;have sb:Same Ha (upd Ha t2 (.tup [.int (w1 - p1 - b),.int h1])):=FG h2';have kb:(upd Ha t2 (.tup [.int (w1 - p1 - b),.int h1])) t2= ~~~[.int (w1 - p1 - b),.int h1]:=ae;generalize upd Ha t2 (.tup [.int (w1 - p1 - b),.int h1])=Hb at sb kb ⊢;refine ⟨zS2,λ u hu=>?_⟩;have sc:Same Hb (upd Hb u (.tup [.ref t1,.ref t2])):=FG hu;have kc:(upd Hb u (.tup [.ref t1,.ref t2])) u= ~~~[.ref t1,.ref t2]:=ae;generalize upd Hb u (.tup [.ref t1,.ref t2])=Hc at sc kc ⊢;exact q u t1 t2 Hc kc (sc _ _ (sb _ _ ka)) (sc _ _ kb) ((sa.trans sb).trans sc)
 | false =>
  refine ⟨_,Y,Y,_,Y,aD ?_⟩;refine ⟨_,Y,_,Y,zS2,λ t1 h1'=>?_⟩;have sa:Same H (upd H t1 (.tup [.int w1,.int p1])):=FG h1';have ka:(upd H t1 (.tup [.int w1,.int p1])) t1= ~~~[.int w1,.int p1]:=ae;generalize upd H t1 (.tup [.int w1,.int p1])=Ha at sa ka ⊢;refine ⟨_,Y,_,Y,_,Y,_,_,Y,Y,_,Y,_,_,Y,Y,zS2,λ t2 h2'=>?_⟩;have sb:Same Ha (upd Ha t2 (.tup [.int w1,.int (h1 - p1 - b)])):=FG h2';have kb:(upd Ha t2 (.tup [.int w1,.int (h1 - p1 - b)])) t2= ~~~[.int w1,.int (h1 - p1 - b)]:=ae;generalize upd Ha t2 (.tup [.int w1,.int (h1 - p1 - b)])=Hb at sb kb ⊢;refine ⟨zS2,λ u hu=>?_⟩;have sc:Same Hb (upd Hb u (.tup [.ref t1,.ref t2])):=FG hu;have kc:(upd Hb u (.tup [.ref t1,.ref t2])) u= ~~~[.ref t1,.ref t2]:=ae;generalize upd Hb u (.tup [.ref t1,.ref t2])=Hc at sc kc ⊢;exact q u t1 t2 Hc kc (sc _ _ (sb _ _ ka)) (sc _ _ kb) ((sa.trans sb).trans sc)
theorem sccuts:FnScope ["blade","part","down","across"] ["blade","part"] (defScope cV):=⟨Y,Y,Y,∅,Y,∅,∅⟩
theorem rT {f wa:Addr} {fd:FD} (F:Fun K "cuts_of" "cuts_of" cV f fd) (B:Blt mg) (Z:BeC K mg wa) (DP:Dn P w K mg base "cut_parts" ["blade","part","way","p"] 1 (spParts2)):FnOk P w K mg base CX0 2 f fd ["blade","part"] (spCuts):=by
 refine F.ok sccuts (λ vs H Q E h=>?_) (λ cdv A outer s H vs Q E hr h=>?_)
 ·obtain ⟨b,w1,h1,t,rfl,_⟩:=h
  rfl
 obtain ⟨b,w1,h1,t,rfl,ht,w16,h16,b0,q⟩:=h;have nd:=sccuts.nd;obtain ⟨tdn,hdn⟩:=Z.dn;obtain ⟨tac,hac⟩:=Z.ac;refine ⟨_,((lP (i:=2) (own:=["p"]) (cs:=[]) (cap:=[]) Y nd Y Y Y (gA Y B.range (af^^^((((pv 1)&&&bo&&&af)|||cR|||(pv 0))^^^ad))) (aX (sc:=defScope cV) (N:=["blade","part","down","across"]) Y Y ∅) (λ _ _ _ _ _=>ap (i:=0) (by show List.Nodup (["p"]:List Str) ; decide +kernel) Y (Or.inl Y) (Or.inr Y)) (λ _ _ _ _ _=>bi) (λ _ _ _ _ _=>(@aF _ _ _ _ _ ((aJ (v:=.str "down") Y hdn ⟨tdn,Y⟩)^^^((pv 0)^^^ad)))))<<<((lP (i:=3) (own:=["p"]) (cs:=[]) (cap:=[]) Y nd Y Y Y (gA Y B.range (af^^^((((pv 1)&&&bo&&&af)|||cR|||(pv 0))^^^ad))) (aX (sc:=defScope cV) (N:=["blade","part","down","across"]) Y Y ∅) (λ _ _ _ _ _=>ap (i:=0) (by show List.Nodup (["p"]:List Str) ; decide +kernel) Y (Or.inl Y) (Or.inr Y)) (λ _ _ _ _ _=>bi) (λ _ _ _ _ _=>(@aF _ _ _ _ _ ((aJ (v:=.str "across") Y hac ⟨tac,Y⟩)^^^((pv 0)^^^ad)))))<<<((cg (own:=["way","p"]) (cs:=["blade","part"]) (cap:=[0,1]) Y (bP ((pv 2)|||ix|||(pv 3))) (aX (sc:=defScope cV) (N:=["blade","part","down","across"]) Y Y ∅) (λ _ _ _ _ _=>fq K Y Y (by show List.Nodup (["way","p","blade","part"]:List Str) ; decide +kernel) Y Y Y Y) (λ _ _ _ _ _=>bi) (λ _ _ _ _ _=>(aB (r:=tq K) lL (@aF _ _ _ _ _ ((pv 0)^^^((pv 1)^^^ad))) (DP∪((pv 2)^^^((pv 3)^^^((pv 0)^^^((pv 1)^^^ad))))))))⁻¹))),?_⟩;have z4:4096<=sizeLine:=∅
 have wn:(w1 - b - 1).toNat<=16:=⋯
 have hn:(h1 - b - 1).toNat<=16:=⋯
 refine am (λ σ' H'=>∃ (dl:Addr) (ys:List V),σ'=[⇑b,↑t,↑dl,none]/\H' dl=↥ys/\Paired (WpAt H') ys (wpL true (w1 - b - 1).toNat)/\Same H H') (λ R hR=>?_) ?_
 ·refine ⟨_,Y,t,_,0,_,Y,Y,FH ht,Y,_,Y,_,_,Y,Y,1,_,Y,⟨∅,∅,by show w1 - b < 2 ^ 62; omega⟩,?_⟩;show ∃W,_/\dU _ _ _ (Itr 1 (w1 - b - 1).toNat) _ _ _ _ W;generalize (w1 - b - 1).toNat=n at *;refine gz (lo:=1) (n:=n) (λ i ys Hx=>Same H Hx/\Paired (WpAt Hx) ys (wpL true i)) ⟨Same.refl _,.nil⟩ ?_ ?_
  ·rintro i ys Hx hi ⟨sx,py⟩;have pl:=C6 py;rw [eQ] at pl;refine ⟨⋯,leS.set rfl,bE ?_⟩;refine ⟨_,Y,zS2,λ q' hq=>?_⟩;obtain ⟨Hy, e9, k9, s9⟩:∃H', upd Hx q' (.tup [.str "down", .int (1 + i)])=H'/\H' q'=some (.tup [.str "down", .int (1 + i)])/\Same Hx H':=⟨_, Y, ae, FG hq⟩
   rw [show upd Hx q' _=Hy from e9];refine Nx.of hi ⟨sx.trans s9,?_⟩;rw [jz];exact Paired.app (FJ py λ v p h=>h.keep s9) (.cons ⟨q',Y,k9⟩ .nil)
  ·rintro ys Hx ⟨sx,py⟩;have pl:=C6 py;rw [eQ] at pl;refine ⟨⋯,λ l hl=>?_⟩;obtain ⟨Hy,e9,k9,s9⟩:∃H',upd Hx l (.lst ys)=H'/\H' l=↥ys/\Same Hx H':=⟨_,Y,ae,FG hl⟩
   rw [show upd Hx l _=Hy from e9];exact hR _ _ ⟨l,ys,rfl,k9,FJ py λ v p h=>h.keep s9,sx.trans s9⟩
 rintro _ H1 ⟨dl,ys,rfl,kd,pd,s1⟩;refine am (λ σ' H'=>∃ (al:Addr) (zs:List V),σ'=[⇑b,↑t,↑dl,↑al]/\H' al=↥zs/\Paired (WpAt H') zs (wpL false (h1 - b - 1).toNat)/\Same H1 H') (λ R hR=>?_) ?_
 ·refine ⟨_,Y,t,_,1,_,Y,Y,FH (s1 _ _ ht),Y,_,Y,_,_,Y,Y,1,_,Y,⟨∅,∅,by show h1 - b < 2 ^ 62; omega⟩,?_⟩;show ∃W,_/\dU _ _ _ (Itr 1 (h1 - b - 1).toNat) _ _ _ _ W;generalize (h1 - b - 1).toNat=n at *;refine gz (lo:=1) (n:=n) (λ i ys Hx=>Same H1 Hx/\Paired (WpAt Hx) ys (wpL false i)) ⟨Same.refl _,.nil⟩ ?_ ?_
  ·rintro i ys Hx hi ⟨sx,py⟩;have pl:=C6 py;rw [eQ] at pl;refine ⟨⋯,leS.set rfl,bE ?_⟩;refine ⟨_,Y,zS2,λ q' hq=>?_⟩;obtain ⟨Hy, e9, k9, s9⟩:∃H', upd Hx q' (.tup [.str "across", .int (1 + i)])=H'/\H' q'=some (.tup [.str "across", .int (1 + i)])/\Same Hx H':=⟨_, Y, ae, FG hq⟩
   rw [show upd Hx q' _=Hy from e9];refine Nx.of hi ⟨sx.trans s9,?_⟩;rw [jz];exact Paired.app (FJ py λ v p h=>h.keep s9) (.cons ⟨q',Y,k9⟩ .nil)
  ·rintro ys Hx ⟨sx,py⟩;have pl:=C6 py;rw [eQ] at pl;refine ⟨⋯,λ l hl=>?_⟩;obtain ⟨Hy,e9,k9,s9⟩:∃H',upd Hx l (.lst ys)=H'/\H' l=↥ys/\Same Hx H':=⟨_,Y,ae,FG hl⟩
   rw [show upd Hx l _=Hy from e9];exact hR _ _ ⟨l,ys,rfl,k9,FJ py λ v p h=>h.keep s9,sx.trans s9⟩
 rintro _ H2 ⟨al,zs,rfl,ka,pa,s2⟩;have s02:=s1.trans s2;have ht2:=s02 _ _ ht;have pd2:Paired (WpAt H2) ys (wpL true (w1 - b - 1).toNat):=FJ pd λ v p h=>h.keep s2;have l1:=C6 pd2;have l2:=C6 pa;rw [eQ] at l1 l2;have pc:Paired (WpAt H2) (ys ++ zs) (cn b w1 h1):=Paired.app pd2 pa;refine ⟨_,Y,_,Y,dl,al,_,_,Y,Y,s2 _ _ kd,ka,⋯,λ cl hcl=>?_⟩;obtain ⟨H3,e3,k3,s3⟩:∃H',upd H2 cl (.lst (ys ++ zs))=H'/\H' cl=↥(ys ++ zs)/\Same H2 H':=⟨_,Y,ae,FG hcl⟩
 rw [show upd H2 cl _=H3 from e3];have pc3:Paired (WpAt H3) (ys ++ zs) (cn b w1 h1):=FJ pc λ v p h=>h.keep s3;have cl32:(ys ++ zs).length<=32:=by rw [List.length_append]; omega
 refine ⟨cl,Y,⟨_,FI k3⟩,(eJ (K:=K) (.inl k3) (λ i us Hx=>Same H3 Hx/\Paired (CutAt b w1 h1 Hx) us ((cn b w1 h1).take i)) (λ i us Hx _ ⟨sx,_⟩ o e=>sx _ _ e) ⟨Same.refl _,.nil⟩ ?_ ?_).1 k3⟩
 ·rintro i y us Hx hi ⟨sx,pu⟩;have hin:i < (ys ++ zs).length:=(A3.mp hi).1;obtain ⟨⟨dn,p⟩,hq,a,rfl,ha⟩:=FK pc3 hi;have ul:=C6 pu;rw [List.length_take] at ul;have hax:=sx _ _ ha;refine ⟨⋯,a,_,Y,FH hax,Y,_,_,Y,_,_,Y,Y,?_⟩;refine ⟨rQ (leS.set rfl) (leS.set rfl),bE ?_⟩;refine ⟨_,Y,_,Y,zS2,λ x hx=>?_⟩;obtain ⟨Hy,e4,k4,s4⟩:∃H',upd Hx x (.tup [wv dn,.int p])=H'/\H' x= ~~~[wv dn,.int p]/\Same Hx H':=⟨_,Y,ae,FG hx⟩
  rw [show upd Hx x _=Hy from e4];refine ⟨_,Y,_,Y,_,Y,_,Y,b,w1,h1,p,t,dn,Y,s4 _ _ (sx _ _ (s3 _ _ ht2)),λ u t1 t2 Hz ku k1 k2 s5=>?_⟩;refine ⟨x,u,_,_,Y,Y,FH (s5 _ _ k4),FH ku,List.cons_ne_nil _ _,zS4,(λ z=>by cases z),λ _ m hm=>?_⟩;rw [show [wv dn,V.int p] ++ [V.ref t1,V.ref t2]=[wv dn,V.int p,V.ref t1,V.ref t2] from rfl];obtain ⟨Hw,e6,k6,s6⟩:∃H',upd Hz m (.tup [wv dn,.int p,.ref t1,.ref t2])=H'/\H' m= ~~~[wv dn,.int p,.ref t1,.ref t2]/\Same Hz H':=⟨_,Y,ae,FG hm⟩
  rw [show upd Hz m _=Hw from e6];have sxw:=s4.trans (s5.trans s6);refine Nx.of hin ⟨sx.trans sxw,?_⟩;rw [List.take_add_one,hq];refine Paired.app (FJ pu λ v p h=>h.keep sxw) (.cons ⟨m,t1,t2,Y,k6,?_,?_⟩ .nil)
  ·cases dn <;> exact s6 _ _ k1
  ·cases dn <;> exact s6 _ _ k2
 ·rintro us Hx ⟨sx,pu⟩;have pl:=C6 pc3;rw [pl,List.take_length] at pu;have ul:=C6 pu;refine ⟨⋯,λ l hl=>?_⟩;obtain ⟨Hy,e7,k7,s7⟩:∃H',upd Hx l (.lst us)=H'/\H' l=↥us/\Same Hx H':=⟨_,Y,ae,FG hl⟩
  rw [show upd Hx l _=Hy from e7];exact q l us Hy k7 (FJ pu λ v p h=>h.keep s7) (s02.trans (s3.trans (sx.trans s7)))
end
inductive Tr where
 | rest
 | piece (i:Nat) (c:Bool) (x y:Int)
 | cut (dn:Bool) (p:Int) (l r:Tr)
def toD:Tr->PyData
 | .rest=>.tuple [.str "rest"]
 | .piece i c x y=>.tuple [.str "piece",.int i,.bool c,.int x,.int y]
 | .cut dn p l r=>.tuple [.str (if dn=true then "down" else "across"),.int p,toD l,toD r]
def TrV (H:Hp):Tr->V->Prop
 | .rest,v=>∃a,v=.ref a/\H a=some (.tup [.str "rest"])
 | .piece i c x y,v=>∃a,v=.ref a/\H a=some (.tup [.str "piece",.int i,.bl c,.int x,.int y])
 | .cut dn p l r,v=>∃a x y,v=.ref a/\H a=some (.tup [.str (if dn=true then "down" else "across"),.int p,x,y])/\TrV H l x/\TrV H r y
theorem TrV.keep {H H':Hp} (k:∀a xs,H a= ~~~xs->H' a= ~~~xs):∀ (t:Tr) {v:V},TrV H t v->TrV H' t v
 | .rest,_,⟨a,e,h⟩=>⟨a,e,k _ _ h⟩
 | .piece ..,_,⟨a,e,h⟩=>⟨a,e,k _ _ h⟩
 | .cut _ _ l r,_,⟨a,x,y,e,h,h1,h2⟩=>⟨a,x,y,e,k _ _ h,TrV.keep k l h1,TrV.keep k r h2⟩
theorem TrV.dat {K:C1} {H:Hp}:∀ (t:Tr) {v:V},TrV H t v->DatV K H v (toD t)
 | .rest,_,⟨a,e,h⟩=>by subst e; exact .tup (FH h) (.cons (.str _) .nil)
 | .piece ..,_,⟨a,e,h⟩=>by subst e; exact .tup (FH h) (.cons (.str _) (.cons (.int _) (.cons (.bl _) (.cons (.int _) (.cons (.int _) .nil)))))
 | .cut _ _ l r,_,⟨a,x,y,e,h,h1,h2⟩=>by subst e; exact .tup (FH h) (.cons (.str _) (.cons (.int _) (.cons (TrV.dat l h1) (.cons (TrV.dat r h2) .nil))))
def dpt:Tr->Nat
 | .cut _ _ l r=>max (dpt l) (dpt r) + 1
 | _=>0
theorem fB:∀t:Tr,(toD t).depth<=dpt t + 1
 | .rest=>∅
 | .piece i c x y=>by show PyData.depthAll [.str "piece",.int i,.bool c,.int x,.int y] + 1<=0 + 1;simp only [PyData.depthAll,PyData.depth];omega
 | .cut dn p l r=>by have h1:=fB l;have h2:=fB r;show PyData.depthAll [.str (if dn=true then "down" else "across"),.int p,toD l,toD r] + 1<=max (dpt l) (dpt r) + 1 + 1;simp only [PyData.depthAll,PyData.depth];omega
theorem fZ:∀t:Tr,PyData.canLay0 (toD t)=true
 | .rest=>∅
 | .piece i c x y=>by
  show (PyData.canLay0 (.str "piece") && (true && (true && (true && (true && true)))))=true
  decide +kernel
 | .cut dn p l r=>by have h1:=fZ l;have h2:=fZ r;show (PyData.canLay0 (.str (if dn=true then "down" else "across")) && (true && (PyData.canLay0 (toD l) && (PyData.canLay0 (toD r) && true))))=true;rw [h1,h2];cases dn <;> decide +kernel
def wq (ks:List Kd) (q:Nat×Bool):Int:=match ks[q.1]? with
 | some k=>k.wo
 | none=>0
def mxL {α:Type} (f:α->Int) (l:List α) (x:Int):Int:=l.foldl (λ m q=>max m (f q)) x
theorem jA {α:Type} (f:α->Int) (l:List α) (x:Int) {i:Nat} {q:α} (h:l[i]? = some q):mxL f (l.take (i + 1)) x=max (mxL f (l.take i) x) (f q):=by
 unfold mxL;rw [List.take_add_one,h,List.foldl_append]
 rfl
def lfW (ks:List Kd) (w h:Int):Int:=mxL (wq ks) ((lyK ks 0).filter (dv ks w h)) 0
def LfV (H:Hp) (v:V):Prop:=∃ (q:Addr) (y:Str) (r:List V),v=.ref q/\H q= ~~~(.str y :: r)/\inV (V.str y) [V.str "down",V.str "across"]=false
def lfF (ks:List Kd) (m:Int×Tr) (q:Nat×Bool):Int×Tr:=if m.1 < wq ks q then (wq ks q,.piece q.1 q.2 0 0) else m
def lfP (ks:List Kd) (l:List (Nat×Bool)):Int×Tr:=l.foldl (lfF ks) (0,.rest)
theorem ma (ks:List Kd):∀ (l:List (Nat×Bool)) (m:Int×Tr),(l.foldl (lfF ks) m).1=mxL (wq ks) l m.1
 | [],_=>rfl
 | q :: l,m=>by
  show (l.foldl (lfF ks) (lfF ks m q)).1=mxL (wq ks) l (max m.1 (wq ks q));rw [ma ks l];unfold lfF
  split
  ·rw [show max m.1 (wq ks q)=wq ks q by omega]
  ·rw [show max m.1 (wq ks q)=m.1 by omega]
theorem rV (ks:List Kd) (l:List (Nat×Bool)):(lfP ks l).1=mxL (wq ks) l 0:=ma ks l _
theorem pP (ks:List Kd) (l:List (Nat×Bool)) {i:Nat} {q:Nat×Bool} (h:l[i]? = some q):lfP ks (l.take (i + 1))=lfF ks (lfP ks (l.take i)) q:=by
 unfold lfP;rw [List.take_add_one,h,List.foldl_append]
 rfl
def pQ:Tr->Bool
 | .cut .. => false
 | _=>true
theorem jB (ks:List Kd):∀ (l:List (Nat×Bool)) (m:Int×Tr),pQ m.2=true->pQ (l.foldl (lfF ks) m).2=true
 | [],_,h=>h
 | q :: l,m,h=>by
  refine jB ks l _ ?_;unfold lfF
  split
  ·rfl
  ·exact h
def lfT (ks:List Kd) (w h:Int):Tr:=(lfP ks ((lyK ks 0).filter (dv ks w h))).2
theorem jC (ks:List Kd) (w h:Int):pQ (lfT ks w h)=true:=jB ks _ _ rfl
theorem TrV.lf {H:Hp} {v:V}:∀ {t:Tr},pQ t=true->TrV H t v->LfV H v
 | .rest,_,⟨a,e,h⟩=>⟨a,_,_,e,h,∅⟩
 | .piece ..,_,⟨a,e,h⟩=>⟨a,_,_,e,h,∅⟩
def stF (g:Bool×Int->Int) (m:Int×Option (Bool×Int)) (c:Bool×Int):Int×Option (Bool×Int):=if m.1 < g c then (g c,some c) else m
def stP (g:Bool×Int->Int) (cs:List (Bool×Int)) (x:Int):Int×Option (Bool×Int):=cs.foldl (stF g) (x,none)
def stC (g:Bool×Int->Int) (cs:List (Bool×Int)) (x:Int):Option (Bool×Int):=(stP g cs x).2
theorem md (g:Bool×Int->Int):∀ (l:List (Bool×Int)) (m:Int×Option (Bool×Int)),(l.foldl (stF g) m).1=mxL g l m.1
 | [],_=>rfl
 | q :: l,m=>by
  show (l.foldl (stF g) (stF g m q)).1=mxL g l (max m.1 (g q));rw [md g l];unfold stF
  split
  ·rw [show max m.1 (g q)=g q by omega]
  ·rw [show max m.1 (g q)=m.1 by omega]
theorem pR (g:Bool×Int->Int) (l:List (Bool×Int)) (x:Int) {i:Nat} {q:Bool×Int} (h:l[i]? = some q):stP g (l.take (i + 1)) x=stF g (stP g (l.take i) x) q:=by
 unfold stP;rw [List.take_add_one,h,List.foldl_append]
 rfl
theorem mf (g:Bool×Int->Int):∀ (l:List (Bool×Int)) (m:Int×Option (Bool×Int)) {c:Bool×Int},(l.foldl (stF g) m).2=some c->c∈l\/m.2=some c
 | [],_,_,h=>.inr h
 | q :: l,m,c,h=>by
  rcases mf g l _ h with h | h
  ·exact .inl (B1 _ h)
  ·unfold stF at h
   split at h
   ·cases h;exact .inl B4
   ·exact .inr h
theorem rW {g:Bool×Int->Int} {l:List (Bool×Int)} {x:Int} {c:Bool×Int} (h:stC g l x=some c):c∈l:=by
 rcases mf g l _ h with h | h
 ·exact h
 ·cases h
def StV (b w h:Int) (H:Hp) (lv v:V):Option (Bool×Int)->Prop
 | none=>v=lv
 | some c=>CutAt b w h H v c
theorem StV.keep {b w h:Int} {H H':Hp} (s:Same H H') {lv v:V}:∀ {o:Option (Bool×Int)},StV b w h H lv v o->StV b w h H' lv v o
 | none,e=>e
 | some _,e=>CutAt.keep s e
abbrev pk (p:Int×Int):List Key:=[.inl p.1,.inl p.2]
section
variable {P:FC} {w:FE} {K:C1} {mg:Str->Option FF} {base:Heap}
inductive spBLeaf (C:Addr) (vs:List V) (H:Hp) (Q:VK) (E_:XK):Prop
 | mk (s t:Addr) (b:Int) (ks:List Kd) (w h:Int) (e_1:vs=[.ref s,.ref t]) (e_2:ShopAt C H s b ks) (e_3:ks.length<=8) (e_4:H t= ~~~[.int w,.int h]) (e_5:∀ (r:Addr) (v:V) (H':Hp),H' r= ~~~[.int (lfW ks w h),v]->TrV H' (lfT ks w h) v->Same H H'->Q (.ref r) H'):spBLeaf C vs H Q E_
inductive spStep (vs:List V) (H:Hp) (Q:VK) (E_:XK):Prop
 | mk (lf cl wt:Addr) (x:Int) (lv:V) (ys:List V) (b w h:Int) (cs:List (Bool×Int)) (f:Int×Int->Int) (kvs:List (List Key×V)) (e_1:vs=[.ref lf,.ref cl,.ref wt]) (e_2:H lf= ~~~[.int x,lv]) (e_3:H cl=↥ys) (e_4:Paired (CutAt b w h H) ys cs) (e_5:H wt=some (.dT kvs)) (e_6:(∀c∈cs,dm kvs (pk (aQ w h c))=⇑(f (aQ w h c))/\dm kvs (pk (aR b w h c))=⇑(f (aR b w h c)))) (e_7:∀ (r:Addr) (v:V) (H':Hp),H' r= ~~~[.int (mxL (λ c=>f (aQ w h c) + f (aR b w h c)) cs x),v]->StV b w h H' lv v (stC (λ c=>f (aQ w h c) + f (aR b w h c)) cs x)->Same H H'->Q (.ref r) H'):spStep vs H Q E_
theorem scbleaf:FnScope ["shop","part","worth","leaf","kinds","kind","turned"] ["shop","part"] (defScope dJ):=⟨Y,Y,Y,∅,Y,∅,∅⟩
theorem pS {f wa C:Addr} {fd:FD} (F:Fun K "best_leaf" "best_leaf" dJ f fd) (Z:BeC K mg wa) (T:ShopTxt K C) (MK:Mn P w K mg base C "kinds" ["self"] 1 (fP C)) (DL:Dn P w K mg base "lyings_in" ["shop","part"] 5 (spLyIn C)):FnOk P w K mg base CX0 6 f fd ["shop","part"] (spBLeaf C):=by
 refine F.ok scbleaf (λ vs H Q E h=>?_) (λ cdv A outer s H vs Q E hr h=>?_)
 ·obtain ⟨s,t,b,ks,w1,h1,rfl,_⟩:=h
  rfl
 obtain ⟨s,t,b,ks,w1,h1,rfl,S0,k8,ht,q⟩:=h;have nd:=scbleaf.nd;obtain ⟨trs,hrs⟩:=Z.rs;obtain ⟨tpc,hpc⟩:=Z.pc;refine ⟨_,((im Y nd Y Y (i:=2) (j:=3) ∅ Y Y (af^^^((@aF _ _ _ _ _ ((aJ (v:=.str "rest") Y hrs ⟨trs,Y⟩)^^^ad))^^^ad)) Y)<<<((4∣(gq (pv 0) T.cl MK (hr.mono ∅)))<<<((@bX _ _ _ _ _ _ _ _ C7 Y (bP (DL∪((pv 0)^^^((pv 1)^^^ad)))) (bQ Y (5•(6•bn))) (@ai _ _ _ (((((pv 4)&&&aW&&&(pv 5))&&&bo&&&af)<*>dQ<*>(pv 2))<|>(@ai _ _ _ (im Y nd Y Y (i:=2) (j:=3) ∅ Y Y ((((pv 4)&&&aW&&&(pv 5))&&&bo&&&af)^^^((@aF _ _ _ _ _ ((aJ (v:=.str "piece") Y hpc ⟨tpc,Y⟩)^^^((pv 5)^^^((pv 6)^^^(af^^^(af^^^ad))))))^^^ad)) Y))<|>ay)) (by intro _; rfl))<<<((@aF _ _ _ _ _ ((pv 2)^^^((pv 3)^^^ad)))⁻¹)))),?_⟩;have z4:4096<=sizeLine:=∅
 refine am (λ σ' H'=>∃lv,σ'=[↑s,↑t,⇑0,some lv,none,none,none]/\TrV H' .rest lv/\Same H H') (λ R hR=>?_) ?_
 ·refine ⟨zS1,λ x hx=>?_⟩;obtain ⟨H1, e1, k1, s1⟩:∃H', upd H x (.tup [.str "rest"])=H'/\H' x=some (.tup [.str "rest"])/\Same H H':=⟨_, Y, ae, FG hx⟩
  rw [show upd H x _=H1 from e1];exact ⟨_,_,Y,hR _ _ ⟨_,Y,⟨x,Y,k1⟩,s1⟩⟩
 rintro _ H1 ⟨lv,rfl,hlv,s1⟩;have S1:=S0.keep (λ c o e=>s1 _ _ e) (λ c C' d fs e=>s1 _ _ e);obtain ⟨dx,r0,rs0,g1,g2,g3⟩:=id S1;refine am (λ σ' H'=>∃ (kl:Addr) (rs:List V),σ'=[↑s,↑t,⇑0,some lv,↑kl,none,none]/\H' kl=↥rs/\Tups H' rs ks/\Same H1 H') (λ R hR=>?_) ?_
 ·refine ⟨_,Y,s,dx,_,Y,g1,cF _ _ ∅ ∅,s,b,ks,Y,S1,λ kl rs hkl tp=>?_⟩;obtain ⟨H2,e2,k2,s2⟩:∃H',upd H1 kl (.lst rs)=H'/\H' kl=↥rs/\Same H1 H':=⟨_,Y,ae,FG hkl⟩
  rw [show upd H1 kl _=H2 from e2];exact hR _ _ ⟨kl,rs,rfl,k2,Tups.keep (λ c o e=>s2 _ _ e) tp,s2⟩
 rintro _ H2 ⟨kl,rs,rfl,kk2,tp2,s2⟩;have s02:=s1.trans s2;have S2:=S0.keep (λ c o e=>s02 _ _ e) (λ c C' d fs e=>s02 _ _ e);refine am (λ σ' H'=>∃ (lv:V) (v5 v6:Option V),σ'=[↑s,↑t,⇑(lfW ks w1 h1),some lv,↑kl,v5,v6]/\TrV H' (lfT ks w1 h1) lv/\Same H2 H') (λ R hR=>?_) ?_
 ·refine ⟨_,Y,_,Y,s,t,b,ks,w1,h1,Y,S2,k8,s02 _ _ ht,λ l ys H3 hl hl3 ly s3=>?_⟩;have kk:=s3 _ _ kk2;have tp3:Tups H3 rs ks:=Tups.keep (λ c o e=>s3 _ _ e) tp2;have yl:=C6 ly;refine ⟨l,Y,⟨_,FI hl3⟩,bY (xs:=ys) (λ i σ' H'=>∃ (lv:V) (v5 v6:Option V),σ'=[↑s,↑t,⇑(mxL (wq ks) (((lyK ks 0).filter (dv ks w1 h1)).take i) 0),some lv,↑kl,v5,v6]/\TrV H' (lfP ks (((lyK ks 0).filter (dv ks w1 h1)).take i)).2 lv/\Same H3 H') ⟨lv,none,none,Y,TrV.keep (λ a xs e=>(s2.trans s3) _ _ e) _ hlv,Same.refl _⟩ (λ i σ Hx _ ⟨_,_,_,_,_,sx⟩=>FI (sx _ _ hl3)) ?_ ?_⟩
  ·rintro i x σ Hx hi ⟨lv,v5,v6,rfl,hlv,sx⟩;obtain ⟨⟨ki,c⟩,hq,qa,rfl,hqa⟩:=FK ly hi;obtain ⟨_,k,hk⟩:=iP (List.mem_filter.mp (B2 hq)).1;have hk:ks[ki]? = some k:=hk;obtain ⟨vv,hvv,hva⟩:=Paired.getL tp3 hk;obtain ⟨a,rfl,ha2⟩:=hva;have hat:atI rs (ki:Int)=↑a:=fR ⋯ (by rw [Int.toNat_natCast]; exact hvv);have ewq:wq ks (ki,c)=k.wo:=by unfold wq; simp only [hk]
   have hmx:=jA (wq ks) ((lyK ks 0).filter (dv ks w1 h1)) 0 hq;rw [ewq] at hmx;have hlt:=pP ks ((lyK ks 0).filter (dv ks w1 h1)) hq;have hlf:=rV ks (((lyK ks 0).filter (dv ks w1 h1)).take i);refine ⟨qa,_,Y,FH (sx _ _ hqa),Y,_,_,Y,_,_,Y,Y,?_⟩;obtain ⟨m,hm⟩:∃m,mxL (wq ks) (((lyK ks 0).filter (dv ks w1 h1)).take i) 0=m:=⟨_,Y⟩
   rw [hm] at hmx hlf ⊢;unfold lfF at hlt;rw [hlf,ewq] at hlt;refine ⟨_,Y,_,Y,kl,_,_,_,Y,Y,FI (sx _ _ kk),hat,a,_,2,_,Y,Y,FH (sx _ _ ha2),Y,_,Y,_,_,Y,Y,_,Y,?_⟩
   by_cases c1:m < k.wo
   ·rw [show decide (m < k.wo)=true from decide_eq_true c1];refine aP ⟨_,rfl,_,rfl,kl,_,_,_,rfl,rfl,FI (sx _ _ kk),hat,a,_,2,_,rfl,rfl,FH (sx _ _ ha2),rfl,_,rfl,_,rfl,zS5,λ x hx=>?_⟩;obtain ⟨Hy, e4, k4, s4⟩:∃H', upd Hx x (.tup [.str "piece", .int ki, .bl c, .int 0, .int 0])=H'/\H' x=some (.tup [.str "piece", .int ki, .bl c, .int 0, .int 0])/\Same Hx H':=⟨_, Y, ae, FG hx⟩
    rw [show upd Hx x _=Hy from e4];refine ⟨_,_,Y,.ref x,⇑ki,some (.bl c),?_,by rw [hlt,if_pos c1]; exact ⟨x,Y,k4⟩,sx.trans s4⟩;rw [hmx,show max m k.wo=k.wo by omega]
    rfl
   ·rw [show decide (m < k.wo)=false from decide_eq_false c1];refine aD ⟨lv,⇑ki,some (.bl c),?_,by rw [hlt,if_neg c1]; exact hlv,sx⟩;rw [hmx,show max m k.wo=m by omega]
    rfl
  ·rintro σ Hx ⟨lv,v5,v6,rfl,hlv,sx⟩;rw [yl,List.take_length] at hlv;refine hR _ _ ⟨lv,v5,v6,?_,hlv,s3.trans sx⟩;rw [yl,List.take_length]
   rfl
 rintro _ H3 ⟨lv,v5,v6,rfl,hlv,s3⟩;refine ⟨_,Y,_,Y,zS2,λ x hx=>?_⟩;obtain ⟨H4,e5,k5,s5⟩:∃H',upd H3 x (.tup [.int (lfW ks w1 h1),lv])=H'/\H' x= ~~~[.int (lfW ks w1 h1),lv]/\Same H3 H':=⟨_,Y,ae,FG hx⟩
 rw [show upd H3 x _=H4 from e5];exact q x lv H4 k5 (TrV.keep (λ a xs e=>s5 _ _ e) _ hlv) (s02.trans (s3.trans s5))
theorem scbstep:FnScope ["leaf_found","cuts","worths","worth","step","cut","together"] ["leaf_found","cuts","worths"] (defScope dL):=⟨Y,Y,Y,∅,Y,∅,∅⟩
theorem pT {f:Addr} {fd:FD} (F:Fun K "best_step" "best_step" dL f fd)  : FnOk P w K mg base CX0 1 f fd ["leaf_found","cuts","worths"] (spStep):=by
 refine F.ok scbstep (λ vs H Q E h=>?_) (λ cdv A outer s H vs Q E hr h=>?_)
 ·obtain ⟨lf,cl,wt,x0,lv,ys,b,w1,h1,cs,f0,kvs,rfl,_⟩:=h
  rfl
 obtain ⟨lf,cl,wt,x0,lv,ys,b,w1,h1,cs,f0,kvs,rfl,hlf,hcl,pc,hwt,hv,q⟩:=h;have nd:=scbstep.nd;have hu:=hr.units;have hu1:=C3 (Nat.add_le_add_left (show 1<=64 by decide) _) hu;refine ⟨_,((@cz _ _ _ _ _ _ (pv 0) (bQ Y (3•(4•bn))) Y Y Y)<<<((@bX _ _ _ _ _ _ _ _ C7 Y (bP (pv 1)) (ap (i:=5) nd Y (Or.inl Y)) ((6∣((cr hu1 (pv 2) ((pv 5)&&&bo&&&af) (λ _ _=>Y))|||bh|||(cr hu1 (pv 2) ((pv 5)&&&bo&&&af) (λ _ _=>Y))))>>>(((pv 6)<*>dQ<*>(pv 3))<|>(@ai _ _ _ (im Y nd Y Y (i:=3) (j:=4) ∅ Y Y ((pv 6)^^^((pv 5)^^^ad)) Y))<|>ay)) (by intro _; rfl))<<<((@aF _ _ _ _ _ ((pv 3)^^^((pv 4)^^^ad)))⁻¹))),?_⟩;have z4:4096<=sizeLine:=∅
 refine am (λ σ' H'=>σ'=[↑lf,↑cl,↑wt,⇑x0,some lv,none,none]/\H=H') (λ R hR=>?_) ?_
 ·exact ⟨_,Y,lf,_,Y,FH hlf,Y,_,_,Y,_,_,Y,Y,hR _ _ ⟨Y,Y⟩⟩
 rintro _ _ ⟨rfl,rfl⟩;have cln:=C6 pc;refine am (λ σ' H'=>∃ (sv:V) (v5 v6:Option V),σ'=[↑lf,↑cl,↑wt,⇑(mxL (λ c=>f0 (aQ w1 h1 c) + f0 (aR b w1 h1 c)) cs x0),some sv,v5,v6]/\StV b w1 h1 H lv sv (stC (λ c=>f0 (aQ w1 h1 c) + f0 (aR b w1 h1 c)) cs x0)/\H=H') (λ R hR=>?_) ?_
 ·refine ⟨_,Y,cl,Y,⟨_,FI hcl⟩,bY (xs:=ys) (λ i σ' H'=>∃ (sv:V) (v5 v6:Option V),σ'=[↑lf,↑cl,↑wt,⇑(mxL (λ c=>f0 (aQ w1 h1 c) + f0 (aR b w1 h1 c)) (cs.take i) x0),some sv,v5,v6]/\StV b w1 h1 H lv sv (stC (λ c=>f0 (aQ w1 h1 c) + f0 (aR b w1 h1 c)) (cs.take i) x0)/\H=H') ⟨lv,none,none,Y,Y,Y⟩ (λ i σ Hx _ ⟨_,_,_,_,_,e⟩=>by subst e; exact FI hcl) ?_ ?_⟩
  ·rintro i x σ Hx hi ⟨sv,v5,v6,rfl,hsv,rfl⟩;obtain ⟨c,hc,ca⟩:=FK pc hi;obtain ⟨q',t1,t2,rfl,h1',h2',h3'⟩:=id ca;have cm:=B2 hc;obtain ⟨e1,e2⟩:=hv c cm;have hmx:=jA (λ c=>f0 (aQ w1 h1 c) + f0 (aR b w1 h1 c)) cs x0 hc;have hst:=pR (λ c=>f0 (aQ w1 h1 c) + f0 (aR b w1 h1 c)) cs x0 hc;have hsf:(stP (λ c=>f0 (aQ w1 h1 c) + f0 (aR b w1 h1 c)) (cs.take i) x0).1=_:=md (λ c=>f0 (aQ w1 h1 c) + f0 (aR b w1 h1 c)) (cs.take i) (x0,none);have hsf:(stP (λ c=>f0 (aQ w1 h1 c) + f0 (aR b w1 h1 c)) (cs.take i) x0).1=mxL (λ c=>f0 (aQ w1 h1 c) + f0 (aR b w1 h1 c)) (cs.take i) x0:=hsf;obtain ⟨m,hm⟩:∃m,mxL (λ c=>f0 (aQ w1 h1 c) + f0 (aR b w1 h1 c)) (cs.take i) x0=m:=⟨_,Y⟩
   rw [hm] at hmx hsf ⊢;unfold stF at hst;rw [hsf] at hst;refine ⟨_,Y,_,Y,q',_,2,_,Y,Y,FH h1',Y,wt,_,Y,e1 ▸ DGet.t (k:=pk (aQ w1 h1 c)) hwt h2',_,Y,_,Y,q',_,3,_,Y,Y,FH h1',Y,wt,_,Y,e2 ▸ DGet.t (k:=pk (aR b w1 h1 c)) hwt h3',_,_,Y,Y,?_⟩;refine ⟨_,Y,_,Y,_,_,Y,Y,_,Y,?_⟩
   by_cases c1:m < (f0 (aQ w1 h1 c) + f0 (aR b w1 h1 c))
   ·rw [show decide (m < (f0 (aQ w1 h1 c) + f0 (aR b w1 h1 c)))=true from decide_eq_true c1];refine aP ⟨_,rfl,_,rfl,_,_,rfl,.ref q',↑q',⇑(f0 (aQ w1 h1 c) + f0 (aR b w1 h1 c)),?_,by unfold stC; rw [hst,if_pos c1]; exact ca,rfl⟩;rw [hmx,show max m (f0 (aQ w1 h1 c) + f0 (aR b w1 h1 c))=(f0 (aQ w1 h1 c) + f0 (aR b w1 h1 c)) by omega]
    rfl
   ·rw [show decide (m < (f0 (aQ w1 h1 c) + f0 (aR b w1 h1 c)))=false from decide_eq_false c1];refine aD ⟨sv,↑q',⇑(f0 (aQ w1 h1 c) + f0 (aR b w1 h1 c)),?_,by unfold stC; rw [hst,if_neg c1]; exact hsv,rfl⟩;rw [hmx,show max m (f0 (aQ w1 h1 c) + f0 (aR b w1 h1 c))=m by omega]
    rfl
  ·rintro σ Hx ⟨sv,v5,v6,rfl,hsv,rfl⟩;rw [cln,List.take_length] at hsv;refine hR _ _ ⟨sv,v5,v6,?_,hsv,rfl⟩;rw [cln,List.take_length]
 rintro _ _ ⟨sv,v5,v6,rfl,hsv,rfl⟩;refine ⟨_,Y,_,Y,zS2,λ x hx=>?_⟩;obtain ⟨H4,e5,k5,s5⟩:∃H',upd H x (.tup [.int (mxL (λ c=>f0 (aQ w1 h1 c) + f0 (aR b w1 h1 c)) cs x0),sv])=H'/\H' x= ~~~[.int (mxL (λ c=>f0 (aQ w1 h1 c) + f0 (aR b w1 h1 c)) cs x0),sv]/\Same H H':=⟨_,Y,ae,FG hx⟩
 rw [show upd H x _=H4 from e5];exact q x sv H4 k5 (hsv.keep s5) s5
end
def msr (p:Int×Int):Nat:=(p.1 + p.2).toNat
theorem mh {dn:Bool} {n:Nat} {x:Bool×Int} (h:x∈wpL dn n):x.1=dn/\1<=x.2/\x.2<=n:=by unfold wpL at h;obtain ⟨j,hj,rfl⟩:=List.mem_map.mp h;have:=List.mem_range.mp hj;exact ⟨Y,by show 1<=1 + (j:Int); omega,by show 1 + (j:Int)<=n; omega⟩
theorem nE {b w h:Int} {x:Bool×Int} (m:x∈cn b w h):1<=x.2/\(if x.1=true then x.2 + b < w else x.2 + b < h):=by
 unfold cn at m;rcases B9.mp m with m | m
 ·obtain ⟨e,h1,h2⟩:=mh m;rw [e,if_pos rfl];exact ⟨h1,⋯⟩
 ·obtain ⟨e,h1,h2⟩:=mh m;rw [e,if_neg Bool.false_ne_true];exact ⟨h1,⋯⟩
theorem dw {b w h:Int} {x:Bool×Int} (b0:0<=b) (w0:1<=w) (h0:1<=h) (m:x∈cn b w h) :
  (1<=(aQ w h x).1/\1<=(aQ w h x).2/\(aQ w h x).1<=w/\(aQ w h x).2<=h/\((aQ w h x).1 < w\/(aQ w h x).1=w/\(aQ w h x).2 < h)/\msr (aQ w h x) < msr (w,h)) /\
  (1<=(aR b w h x).1/\1<=(aR b w h x).2/\(aR b w h x).1<=w/\(aR b w h x).2<=h/\((aR b w h x).1 < w\/(aR b w h x).1=w/\(aR b w h x).2 < h)/\msr (aR b w h x) < msr (w,h)):=by
 obtain ⟨h1,h2⟩:=nE m;obtain ⟨dn,p⟩:=x;cases dn with
 | true =>
  have h2:p + b < w:=h2;have h1:1<=p:=h1;show (1<=p/\1<=h/\p<=w/\h<=h/\(p < w\/p=w/\h < h)/\(p + h).toNat < (w + h).toNat)/\(1<=w - p - b/\1<=h/\w - p - b<=w/\h<=h/\(w - p - b < w\/w - p - b=w/\h < h)/\(w - p - b + h).toNat < (w + h).toNat)
  refine ⟨⟨?_,?_,?_,?_,?_,?_⟩,⟨?_,?_,?_,?_,?_,?_⟩⟩ <;> omega
 | false =>
  have h2:p + b < h:=h2;have h1:1<=p:=h1;show (1<=w/\1<=p/\w<=w/\p<=h/\(w < w\/w=w/\p < h)/\(w + p).toNat < (w + h).toNat)/\(1<=w/\1<=h - p - b/\w<=w/\h - p - b<=h/\(w < w\/w=w/\h - p - b < h)/\(w + (h - p - b)).toNat < (w + h).toNat)
  refine ⟨⟨?_,?_,?_,?_,?_,?_⟩,⟨?_,?_,?_,?_,?_,?_⟩⟩ <;> omega
theorem fC {α:Type} {f g:α->Int}:∀ {l:List α} {x:Int},(∀a∈l,f a=g a)->mxL f l x=mxL g l x
 | [],_,_=>rfl
 | a :: r,x,h=>by show mxL f r (max x (f a))=mxL g r (max x (g a));rw [h a List.mem_cons_self];exact fC λ b hb=>h b (B1 _ hb)
def bF (b:Int) (ks:List Kd):Nat->Int×Int->Int
 | 0,_=>0
 | n + 1,p=>mxL (λ c=>bF b ks n (aQ p.1 p.2 c) + bF b ks n (aR b p.1 p.2 c)) (cn b p.1 p.2) (lfW ks p.1 p.2)
theorem dN {b:Int} {ks:List Kd} (b0:0<=b):∀ (n m:Nat) (p:Int×Int),msr p < n->msr p < m->1<=p.1->1<=p.2->bF b ks n p=bF b ks m p
 | 0,_,_,h,_,_,_=>absurd h (E3 _)
 | _ + 1,0,_,_,h,_,_=>absurd h (E3 _)
 | n + 1,m + 1,p,h1,h2,p1,p2=>by show mxL _ _ _=mxL _ _ _;refine fC λ c hc=>?_;obtain ⟨⟨a1,a2,_,_,_,a3⟩,⟨c1,c2,_,_,_,c3⟩⟩:=dw b0 p1 p2 hc;have e:msr (p.1,p.2)=msr p:=rfl;rw [dN b0 n m _ ⋯ ⋯ a1 a2,dN b0 n m _ ⋯ ⋯ c1 c2]
def bW (b:Int) (ks:List Kd) (p:Int×Int):Int:=bF b ks (msr p + 1) p
theorem yO {b:Int} {ks:List Kd} (b0:0<=b) (p:Int×Int) (p1:1<=p.1) (p2:1<=p.2):bW b ks p=mxL (λ c=>bW b ks (aQ p.1 p.2 c) + bW b ks (aR b p.1 p.2 c)) (cn b p.1 p.2) (lfW ks p.1 p.2):=by show mxL _ _ _=mxL _ _ _;refine fC λ c hc=>?_;obtain ⟨⟨a1,a2,_,_,_,a3⟩,⟨c1,c2,_,_,_,c3⟩⟩:=dw b0 p1 p2 hc;have e:msr (p.1,p.2)=msr p:=rfl;unfold bW;rw [dN b0 (msr p) (msr (aQ p.1 p.2 c) + 1) _ ⋯ ⋯ a1 a2,dN b0 (msr p) (msr (aR b p.1 p.2 c) + 1) _ ⋯ ⋯ c1 c2]
def ltP (p q:Int×Int):Prop:=p.1 < q.1\/p.1=q.1/\p.2 < q.2
theorem rowP_mem {a:Int} {n:Nat} {p:Int×Int}:p∈eD a n↔p.1=a/\1<=p.2/\p.2<=n:=by
 unfold eD;constructor
 ·intro h;obtain ⟨j,hj,rfl⟩:=List.mem_map.mp h;have:=List.mem_range.mp hj;exact ⟨Y,by show 1<=1 + (j:Int); omega,by show 1 + (j:Int)<=n; omega⟩
 ·rintro ⟨e,h1,h2⟩;refine List.mem_map.mpr ⟨(p.2 - 1).toNat,List.mem_range.mpr ⋯,?_⟩;rw [<- e,show 1 + ((p.2 - 1).toNat:Int)=p.2 by omega]
theorem partsL_mem {n:Nat} {p:Int×Int}:∀ {m:Nat},p∈ak m n↔(1<=p.1/\p.1<=m)/\1<=p.2/\p.2<=n
 | 0=>by
  constructor
  ·intro h; simp [ak] at h
  ·rintro ⟨⟨h1,h2⟩,_⟩; exfalso; have h2:p.1<=0:=h2; omega
 | m + 1=>by
  rw [ci,List.mem_append,partsL_mem (m:=m),rowP_mem];constructor
  ·rintro (⟨⟨h1,h2⟩,h3⟩ | ⟨h1,h2⟩)
   ·exact ⟨⟨h1,⋯⟩,h3⟩
   ·exact ⟨⟨⋯,⋯⟩,h2⟩
  ·rintro ⟨⟨h1,h2⟩,h3⟩
   by_cases e:p.1=1 + (m:Int)
   ·exact .inr ⟨e,h3⟩
   ·exact .inl ⟨⟨h1,⋯⟩,h3⟩
theorem ie (a:Int):∀n:Nat,(eD a n).Pairwise ltP
 | 0=>List.Pairwise.nil
 | n + 1=>by rw [fA,List.pairwise_append];refine ⟨ie a n,List.pairwise_singleton _ _,λ p hp q hq=>?_⟩;rw [List.mem_singleton.mp hq];obtain ⟨e,_,h⟩:=rowP_mem.mp hp;exact .inr ⟨e,by show p.2 < 1 + (n:Int); omega⟩
theorem dy (n:Nat):∀m:Nat,(ak m n).Pairwise ltP
 | 0=>List.Pairwise.nil
 | m + 1=>by rw [ci,List.pairwise_append];refine ⟨dy n m,ie _ n,λ p hp q hq=>?_⟩;obtain ⟨⟨_,h⟩,_⟩:=partsL_mem.mp hp;obtain ⟨e,_⟩:=rowP_mem.mp hq;exact .inl ⋯
theorem fJ {m n i:Nat} {p q:Int×Int} (hi:(ak m n)[i]? = some p) (hq:q∈ak m n) (hl:ltP q p):q∈(ak m n).take i:=by
 obtain ⟨j,hj⟩:=List.mem_iff_getElem?.mp hq;obtain ⟨i1,i2⟩:=A3.mp hi;obtain ⟨j1,j2⟩:=A3.mp hj
 by_cases h:j < i
 ·refine List.mem_iff_getElem?.mpr ⟨j,?_⟩;rw [List.getElem?_take_of_lt h]; exact hj
 ·exfalso;rcases Nat.lt_or_ge i j with h' | h'
  ·have:=List.pairwise_iff_getElem.mp (dy n m) i j i1 j1 h';rw [i2,j2] at this;unfold ltP at this hl;omega
  ·have e:i=j:=⋯
   subst e;rw [hi] at hj;cases hj;unfold ltP at hl;omega
theorem gJ {m n i:Nat} {p:Int×Int} (hi:(ak m n)[i]? = some p):p∉(ak m n).take i:=λ h=>by obtain ⟨j,hj⟩:=List.mem_iff_getElem?.mp h;obtain ⟨j0,_⟩:=A3.mp hj;rw [List.length_take] at j0;rw [List.getElem?_take_of_lt ⋯] at hj;obtain ⟨i1,i2⟩:=A3.mp hi;obtain ⟨j1,j2⟩:=A3.mp hj;have:=List.pairwise_iff_getElem.mp (dy n m) j i j1 i1 ⋯;rw [i2,j2] at this;unfold ltP at this;omega
theorem pU {p q:Int×Int} (h:pk p=pk q):p=q:=by
 obtain ⟨a,b⟩:=p;obtain ⟨c,d⟩:=q;have h:([.inl a,.inl b]:List Key)=[.inl c,.inl d]:=h;injection h with h1 h2
 injection h1 with h1
 injection h2 with h2 _
 injection h2 with h2
 rw [h1,h2]
def byP (ss:List ((Int×Int)×V)):List (List Key×V):=ss.map λ s=>(pk s.1,s.2)
theorem iQ {ss:List ((Int×Int)×V)} {p:Int×Int} {v:V} (h:p∉ss.map (·.1)):cI (byP ss) (pk p) v=byP (ss ++ [(p,v)]):=by
 unfold cI;rw [if_neg,byP,byP,List.map_append]
 ·rfl
 ·intro e;obtain ⟨x,hx,e⟩:=List.any_eq_true.mp e;obtain ⟨s,hs,rfl⟩:=List.mem_map.mp hx;have:s.1=p:=pU (B7 e);exact h (List.mem_map.mpr ⟨s,hs,this⟩)
theorem gb:∀ {ss:List ((Int×Int)×V)} {p:Int×Int},p∈ss.map (·.1)->∃v,dm (byP ss) (pk p)=some v/\(p,v)∈ss
 | s :: r,p,h=>by
  by_cases e:s.1=p
  ·refine ⟨s.2,eL (by show pk s.1=pk p; rw [e]),?_⟩;rw [<- e];exact B4
  ·have h:p∈r.map (·.1):=(List.mem_cons.mp h).resolve_left (λ z=>e z.symm);obtain ⟨v,h1,h2⟩:=gb h;refine ⟨v,?_,B1 _ h2⟩;show dm ((pk s.1,s.2) :: byP r) (pk p)=some v;rw [eM (λ z=>e (pU z))];exact h1
def cC (b:Int) (ks:List Kd) (ps:List (Int×Int)):List ((Int×Int)×V):=ps.map λ p=>(p,.int (bW b ks p))
theorem jD (b:Int) (ks:List Kd) (ps:List (Int×Int)):(cC b ks ps).map (·.1)=ps:=by unfold cC;rw [List.map_map];exact List.map_id' ps
theorem gK {b:Int} {ks:List Kd} {ps:List (Int×Int)} {p:Int×Int} (h:p∈ps):dm (byP (cC b ks ps)) (pk p)=⇑(bW b ks p):=by obtain ⟨v,h1,h2⟩:=gb (ss:=cC b ks ps) (p:=p) (by rw [jD]; exact h);unfold cC at h2;obtain ⟨q,_,e⟩:=List.mem_map.mp h2;cases e;exact h1
def bC (b:Int) (ks:List Kd) (p:Int×Int):Option (Bool×Int):=stC (λ c=>bW b ks (aQ p.1 p.2 c) + bW b ks (aR b p.1 p.2 c)) (cn b p.1 p.2) (lfW ks p.1 p.2)
def bT (b:Int) (ks:List Kd):Nat->Int×Int->Tr
 | 0,_=>.rest
 | n + 1,p=>match bC b ks p with
  | none=>lfT ks p.1 p.2
  | some c=>.cut c.1 c.2 (bT b ks n (aQ p.1 p.2 c)) (bT b ks n (aR b p.1 p.2 c))
theorem pV:∀ {t:Tr},pQ t=true->dpt t=0
 | .rest,_=>rfl
 | .piece ..,_=>rfl
theorem ky (b:Int) (ks:List Kd):∀n p,dpt (bT b ks n p)<=n
 | 0,_=>B0 _
 | n + 1,p=>by
  unfold bT
  split
  ·rw [pV (jC ks _ _)]; omega
  ·rename_i c _
   have h1:=ky b ks n (aQ p.1 p.2 c);have h2:=ky b ks n (aR b p.1 p.2 c);show max _ _ + 1<=n + 1;omega
def StOk (b:Int) (ks:List Kd) (H:Hp) (ss:List ((Int×Int)×V)):Prop:=∀p v,(p,v)∈ss->(bC b ks p=none/\TrV H (lfT ks p.1 p.2) v)\/∃x:Bool×Int,bC b ks p=some x/\CutAt b p.1 p.2 H v x/\aQ p.1 p.2 x∈ss.map (·.1)/\aR b p.1 p.2 x∈ss.map (·.1)/\msr (aQ p.1 p.2 x) < msr p/\msr (aR b p.1 p.2 x) < msr p
theorem StOk.keep {b:Int} {ks:List Kd} {H H':Hp} {ss:List ((Int×Int)×V)} (s:∀a xs,H a= ~~~xs->H' a= ~~~xs) (h:StOk b ks H ss):StOk b ks H' ss:=λ p v hm=>by
 rcases h p v hm with ⟨e,h1⟩ | ⟨x,ec,⟨q,t1,t2,e,c1,c2,c3⟩,h1⟩
 ·exact .inl ⟨e,TrV.keep s _ h1⟩
 ·exact .inr ⟨x,ec,⟨q,t1,t2,e,s _ _ c1,s _ _ c2,s _ _ c3⟩,h1⟩
theorem yP (dn:Bool):inV (wv dn) [V.str "down",V.str "across"]=true:=by cases dn <;> decide +kernel
section
variable {P:FC} {w:FE} {K:C1} {mg:Str->Option FF} {base:Heap}
inductive spTBS (n:Nat) (vs:List V) (H:Hp) (Q:VK) (E_:XK):Prop
 | mk (st kt:Addr) (b:Int) (ks:List Kd) (ss:List ((Int×Int)×V)) (p:Int×Int) (e_1:vs=[.ref st,.ref kt]) (e_2:H st=some (.dT (byP ss))) (e_3:H kt= ~~~[.int p.1,.int p.2]) (e_4:StOk b ks H ss) (e_5:p∈ss.map (·.1)) (e_6:msr p < n) (e_7:∀v' H',TrV H' (bT b ks n p) v'->Same H H'->Q v' H'):spTBS n vs H Q E_
inductive spBestOf (C:Addr) (vs:List V) (H:Hp) (Q:VK) (E_:XK):Prop
 | mk (s:Addr) (b:Int) (ks:List Kd) (m n:Nat) (e_1:vs=[.ref s,.int m,.int n]) (e_2:ShopAt C H s b ks) (e_3:ks.length<=8) (e_4:0<=b) (e_5:1<=m) (e_6:m<=16) (e_7:1<=n) (e_8:n<=16) (e_9:∀ (r tb:Addr) (v:V) (H':Hp),H tb=none->H' r= ~~~[.int (bW b ks (m,n)),v,.ref tb]->H' tb=some (.dT (byP (cC b ks (ak m n))))->TrV H' (bT b ks 33 (m,n)) v->Same H H'->Q (.ref r) H'):spBestOf C vs H Q E_
theorem sctbs:FnScope ["steps","key","step","way","p","first","second"] ["steps","key"] (defScope bL):=⟨Y,Y,Y,∅,Y,∅,∅⟩
theorem uD {f wa:Addr} {fd:FD} (F:Fun K "tree_by_steps" "tree_by_steps" bL f fd) (n:Nat) (Z:BeC K mg wa) (DT:Dn P w K mg base "tree_by_steps" ["steps","key"] (1 + n) (spTBS n)):FnOk P w K mg base CX0 (1 + (n + 1)) f fd ["steps","key"] (spTBS (n + 1)):=by
 refine F.ok sctbs (λ vs H Q E h=>?_) (λ cdv A outer s H vs Q E hr h=>?_)
 ·obtain ⟨st,kt,b,ks,ss,p,rfl,_⟩:=h
  rfl
 obtain ⟨st,kt,b,ks,ss,p,rfl,hst,hkt,ok0,hp,hn,q⟩:=h;have nd:=sctbs.nd;have hu:=hr.units;have hu1:=C3 (Nat.add_le_add_left (show 1<=64 by decide) _) hu;refine ⟨_,((2∣(cr hu1 (pv 0) (pv 1) (λ _ _=>Y)))<<<(((@az _ _ _ _ _ _ _ _ iu ((pv 2)&&&bo&&&af) (aJ (v:=.ref wa) Y Z.wy Y) Y)<|>((pv 2)⁻¹)<|>ay)<<<((@cz _ _ _ _ _ _ (pv 2) (bQ Y (3•(4•(5•(6•bn))))) Y Y Y)<<<((@aF _ _ _ _ _ ((pv 3)^^^((pv 4)^^^((DT∪((pv 0)^^^((pv 5)^^^ad)))^^^((DT∪((pv 0)^^^((pv 6)^^^ad)))^^^ad)))))⁻¹)))),?_⟩;obtain ⟨v,hv,hm⟩:=gb hp;refine am (λ σ' H'=>σ'=[↑st,↑kt,some v,none,none,none,none]/\H=H') (λ R hR=>?_) ?_
 ·exact ⟨_,Y,_,Y,st,_,Y,hv ▸ DGet.t (k:=pk p) hst hkt,hR _ _ ⟨Y,Y⟩⟩
 rintro _ _ ⟨rfl,rfl⟩;rcases ok0 p v hm with ⟨ec,hlt⟩ | ⟨x,ec,⟨qa,t1,t2,rfl,c1,c2,c3⟩,m1,m2,l1,l2⟩
 ·obtain ⟨qa,y,r,rfl,h1,h2⟩:=TrV.lf (jC ks _ _) hlt;refine am (λ σ' H'=>False) (λ R hR=>?_) (λ _ _ z=>z.elim);refine ⟨_,Y,qa,_,0,_,Y,Y,FH h1,fR (C8 _) rfl,wa,_,Y,.inr (Z.wq _),Y,Y,_,Y,?_⟩;rw [show (if true=true then !inV (V.str y) [V.str "down",V.str "across"] else inV (V.str y) [V.str "down",V.str "across"])=true by rw [if_pos rfl,h2]; rfl];exact aP ⟨_,rfl,q _ H (by unfold bT; rw [ec]; exact hlt) (Same.refl _)⟩
 refine am (λ σ' H'=>σ'=[↑st,↑kt,↑qa,none,none,none,none]/\H=H') (λ R hR=>?_) ?_
 ·refine ⟨_,Y,qa,_,0,_,Y,Y,FH c1,Y,wa,_,Y,.inr (Z.wq _),Y,Y,_,Y,?_⟩;rw [show (if true=true then !inV (wv x.1) [V.str "down",V.str "across"] else inV (wv x.1) [V.str "down",V.str "across"])=false by rw [if_pos rfl,yP]; rfl];exact aD (hR _ _ ⟨rfl,rfl⟩)
 rintro _ _ ⟨rfl,rfl⟩;refine am (λ σ' H'=>σ'=[↑st,↑kt,↑qa,some (wv x.1),⇑x.2,↑t1,↑t2]/\H=H') (λ R hR=>?_) ?_
 ·exact ⟨_,Y,qa,_,Y,FH c1,Y,_,_,Y,_,_,Y,_,_,Y,_,_,Y,Y,hR _ _ ⟨Y,Y⟩⟩
 rintro _ _ ⟨rfl,rfl⟩;refine ⟨_,Y,_,Y,_,Y,_,Y,st,t1,b,ks,ss,aQ p.1 p.2 x,Y,hst,c2,ok0,m1,⋯,λ v1 H1 hv1 s1=>?_⟩;refine ⟨_,Y,_,Y,st,t2,b,ks,ss,aR b p.1 p.2 x,Y,s1 _ _ hst,s1 _ _ c3,ok0.keep (λ a xs e=>s1 _ _ e),m2,⋯,λ v2 H2 hv2 s2=>?_⟩;exact ⟨zS4,λ t ht=>q _ _ (by
  have sn:Same H2 (upd H2 t (.tup [wv x.1,.int x.2,v1,v2])):=FG ht;unfold bT;rw [ec];exact ⟨t,v1,v2,Y,ae,TrV.keep (λ a xs e=>sn _ _ (s2 _ _ e)) _ hv1,TrV.keep (λ a xs e=>sn _ _ e) _ hv2⟩) ((s1.trans s2).trans (FG ht))⟩
theorem rX {f:Addr} {fd:FD} (F:Fun K "tree_by_steps" "tree_by_steps" bL f fd):FnOk P w K mg base CX0 1 f fd ["steps","key"] (spTBS 0):=by
 refine F.ok sctbs (λ vs H Q E h=>?_) (λ cdv A outer s H vs Q E hr h=>?_)
 ·obtain ⟨st,kt,b,ks,ss,p,rfl,_⟩:=h
  rfl
 ·obtain ⟨st,kt,b,ks,ss,p,_,_,_,_,_,z,_⟩:=h;exact absurd z (E3 _)
theorem mi {f wa:Addr} {fd:FD} (F:Fun K "tree_by_steps" "tree_by_steps" bL f fd) (Z:BeC K mg wa) (mk:∀n,FnOk P w K mg base CX0 (1 + n) f fd ["steps","key"] (spTBS n)->Dn P w K mg base "tree_by_steps" ["steps","key"] (1 + n) (spTBS n)):∀n,FnOk P w K mg base CX0 (1 + n) f fd ["steps","key"] (spTBS n)
 | 0=>rX F
 | n + 1=>uD F n Z (mk n (mi F Z mk n))
theorem scbestof:FnScope ["shop","wide","high","blade","table","steps","part","worth","step","plate"] ["shop","wide","high"] (defScope dM):=⟨Y,Y,Y,∅,Y,∅,∅⟩
theorem ig {f wa C:Addr} {fd:FD} (F:Fun K "best_of" "best_of" dM f fd) (Z:BeC K mg wa) (T:ShopTxt K C) (MB:Mn P w K mg base C "blade" ["self"] 1 (fO C)) (DCP:Dn P w K mg base "check_plate" ["wide","high"] 2 (spCP)) (DCS:Dn P w K mg base "check_sides" ["wide","high","most"] 1 (spCS)) (DPu:Dn P w K mg base "parts_up_to" ["wide","high"] 1 (spParts)) (DCu:Dn P w K mg base "cuts_of" ["blade","part"] 2 (spCuts)) (DBL:Dn P w K mg base "best_leaf" ["shop","part"] 6 (spBLeaf C)) (DBS:Dn P w K mg base "best_step" ["leaf_found","cuts","worths"] 1 (spStep)) (DTB:Dn P w K mg base "tree_by_steps" ["steps","key"] 34 (spTBS 33)):FnOk P w K mg base CX0 35 f fd ["shop","wide","high"] (spBestOf C):=by
 refine F.ok scbestof (λ vs H Q E h=>?_) (λ cdv A outer s H vs Q E hr h=>?_)
 ·obtain ⟨s,b,ks,m,n,rfl,_⟩:=h
  rfl
 obtain ⟨s,b,ks,m,n,rfl,S0,k8,b0,m1,m16,n1,n16,q⟩:=h;have nd:=scbestof.nd;have hu:=hr.units;have hu1:=C3 (Nat.add_le_add_left (show 1<=64 by decide) _) hu;obtain ⟨tms,hms⟩:=Z.ms;refine ⟨_,((@bI _ _ _ _ (DCP∩((pv 1)^^^((pv 2)^^^ad))) Y)<<<((@bI _ _ _ _ (DCS∩((pv 1)^^^((pv 2)^^^((aJ (v:=.int 16) Y hms ⟨tms,Y⟩)^^^ad)))) Y)<<<((3∣(gq (pv 0) T.cl MB (hr.mono ∅)))<<<((4∣gy)<<<((5∣gy)<<<((@bX _ _ _ _ _ _ _ _ C7 Y (bP (DPu∩((pv 1)^^^((pv 2)^^^ad)))) (ap (i:=6) nd Y (Or.inl Y)) ((@cz _ _ _ _ _ _ (DBS∩((DBL∩((pv 0)^^^((pv 6)^^^ad)))^^^((DCu∩((pv 3)^^^((pv 6)^^^ad)))^^^((pv 4)^^^ad)))) (bQ Y (7•(8•bn))) Y Y Y)<<<((cT hu1 (pv 4) (pv 6) (pv 7) Y)>>>(cT hu1 (pv 5) (pv 6) (pv 8) Y))) (by intro _; rfl))<<<((9∣(@aF _ _ _ _ _ ((pv 1)^^^((pv 2)^^^ad))))<<<((@aF _ _ _ _ _ ((cr hu1 (pv 4) (pv 9) (λ _ _=>Y))^^^((DTB∩((pv 5)^^^((pv 9)^^^ad)))^^^((pv 4)^^^ad))))⁻¹)))))))),?_⟩;have z4:4096<=sizeLine:=∅
 refine am (λ σ' H'=>σ'=[↑s,⇑m,⇑n,none,none,none,none,none,none,none]/\H=H') (λ R hR=>?_) ?_
 ·exact ⟨_,Y,_,Y,m,n,Y,⋯,⋯,hR _ _ ⟨Y,Y⟩⟩
 rintro _ _ ⟨rfl,rfl⟩;refine am (λ σ' H'=>σ'=[↑s,⇑m,⇑n,none,none,none,none,none,none,none]/\H=H') (λ R hR=>?_) ?_
 ·exact ⟨_,Y,_,Y,m,n,16,Y,⋯,⋯,hR _ _ ⟨Y,Y⟩⟩
 rintro _ _ ⟨rfl,rfl⟩;obtain ⟨dx,r0,rs0,g1,g2,g3⟩:=id S0;refine am (λ σ' H'=>σ'=[↑s,⇑m,⇑n,⇑b,none,none,none,none,none,none]/\H=H') (λ R hR=>?_) ?_
 ·exact ⟨_,Y,s,dx,_,Y,g1,cF _ _ ∅ ∅,s,b,ks,Y,S0,hR _ _ ⟨Y,Y⟩⟩
 rintro _ _ ⟨rfl,rfl⟩;refine am (λ σ' H'=>∃tb:Addr,σ'=[↑s,⇑m,⇑n,⇑b,↑tb,none,none,none,none,none]/\H tb=none/\H' tb=some (.dT [])/\Same H H') (λ R hR=>?_) ?_
 ·intro tb htb;obtain ⟨H1,e1,k1,s1⟩:∃H',upd H tb (.dT [])=H'/\H' tb=some (.dT [])/\Same H H':=⟨_,Y,ae,FG htb⟩
  rw [show upd H tb _=H1 from e1];exact hR _ _ ⟨tb,rfl,htb,k1,s1⟩
 rintro _ H1 ⟨tb,rfl,htb,k1,s1⟩;refine am (λ σ' H'=>∃st:Addr,σ'=[↑s,⇑m,⇑n,⇑b,↑tb,↑st,none,none,none,none]/\H1 st=none/\H' st=some (.dT [])/\Same H1 H') (λ R hR=>?_) ?_
 ·intro st hst;obtain ⟨H2,e2,k2,s2⟩:∃H',upd H1 st (.dT [])=H'/\H' st=some (.dT [])/\Same H1 H':=⟨_,Y,ae,FG hst⟩
  rw [show upd H1 st _=H2 from e2];exact hR _ _ ⟨st,rfl,hst,k2,s2⟩
 rintro _ H2 ⟨st,rfl,hst1,k2,s2⟩;have hst:H st=none:=s1.free hst1;have nts:tb≠st:=ah k1 hst1;have s02:=s1.trans s2;refine am (λ σ' H'=>∃ (ss:List ((Int×Int)×V)) (v6 v7 v8:Option V),σ'=[↑s,⇑m,⇑n,⇑b,↑tb,↑st,v6,v7,v8,none]/\H' tb=some (.dT (byP (cC b ks (ak m n))))/\H' st=some (.dT (byP ss))/\ss.map (·.1)=ak m n/\StOk b ks H' ss/\Same H H') (λ R hR=>?_) ?_
 ·refine ⟨_,Y,_,Y,m,n,Y,m16,n16,λ pl ys H3 hpl pys s3=>?_⟩;have pln:=C6 pys;have p256:(ak m n).length<=256:=by rw [bH]; exact Nat.mul_le_mul m16 n16
  refine ⟨pl,Y,⟨_,FI hpl⟩,bY (xs:=ys) (λ i σ' H'=>∃ (ss:List ((Int×Int)×V)) (v6 v7 v8:Option V),σ'=[↑s,⇑m,⇑n,⇑b,↑tb,↑st,v6,v7,v8,none]/\H' tb=some (.dT (byP (cC b ks ((ak m n).take i))))/\H' st=some (.dT (byP ss))/\ss.map (·.1)=(ak m n).take i/\StOk b ks H' ss/\Paired (PtAt H') ys (ak m n)/\H' pl=↥ys/\Same H H') ⟨[],none,none,none,Y,s3 _ _ (s2 _ _ k1),s3 _ _ k2,Y,(λ p v h=>by simp at h),pys,hpl,s02.trans s3⟩ (λ i σ Hx _ ⟨_,_,_,_,_,_,_,_,_,_,h,_⟩=>FI h) ?_ ?_⟩
  ·rintro i x σ Hx hi ⟨ss,v6,v7,v8,rfl,ht,hs,es,so,py,hl,sx⟩;obtain ⟨p,hp,ta,rfl,hta⟩:=FK py hi;have pm:=B2 hp;obtain ⟨⟨p1,p2⟩,p3,p4⟩:=partsL_mem.mp pm;have pnew:=gJ hp;have il:i < (ak m n).length:=(A3.mp hp).1;have tl:(cC b ks ((ak m n).take i)).length<=256:=by unfold cC;rw [List.length_map,List.length_take]; omega
   have sl:ss.length<=256:=by have:=congrArg List.length es;rw [List.length_map,List.length_take] at this;omega
   have cutIn:∀c∈cn b p.1 p.2,aQ p.1 p.2 c∈(ak m n).take i/\aR b p.1 p.2 c∈(ak m n).take i:=λ c hc=>by obtain ⟨⟨a1,a2,a3,a4,a5,_⟩,⟨c1,c2,c3,c4,c5,_⟩⟩:=dw b0 p1 p3 hc;exact ⟨fJ hp (partsL_mem.mpr ⟨⟨a1,⋯⟩,a2,⋯⟩) a5,fJ hp (partsL_mem.mpr ⟨⟨c1,⋯⟩,c2,⋯⟩) c5⟩
   refine am (λ σ' H'=>∃ (sv:V),σ'=[↑s,⇑m,⇑n,⇑b,↑tb,↑st,↑ta,⇑(bW b ks p),some sv,none]/\((bC b ks p=none/\TrV H' (lfT ks p.1 p.2) sv)\/∃c,bC b ks p=some c/\CutAt b p.1 p.2 H' sv c)/\Same Hx H') (λ R hR=>?_) ?_
   ·have Sx:=S0.keep (λ c o e=>sx _ _ e) (λ c C' d fs e=>sx _ _ e);refine ⟨_,Y,_,Y,s,ta,b,ks,p.1,p.2,Y,Sx,k8,hta,λ lf lv Ha hlf hlv sa=>?_⟩;refine ⟨_,Y,_,Y,b,p.1,p.2,ta,Y,sa _ _ hta,⋯,⋯,b0,λ cl cy Hb hcl pc sb=>?_⟩;have sab:=sa.trans sb;refine ⟨_,Y,lf,cl,tb,lfW ks p.1 p.2,lv,cy,b,p.1,p.2,cn b p.1 p.2,bW b ks,_,Y,sb _ _ hlf,hcl,pc,sab _ _ ht,λ c hc=>⟨gK (cutIn c hc).1,gK (cutIn c hc).2⟩,λ r sv Hc hr hsv sc=>?_⟩;rw [<- yO b0 p p1 p3] at hr;exact ⟨r,_,Y,FH hr,Y,_,_,Y,_,_,Y,Y,hR _ _ ⟨sv,Y,(by
     change StV b p.1 p.2 Hc lv sv (bC b ks p) at hsv;cases ec:bC b ks p with
     | none=>rw [ec] at hsv; exact .inl ⟨Y,(show sv=lv from hsv) ▸ TrV.keep (λ a xs e=>sc _ _ (sb _ _ e)) _ hlv⟩
     | some c=>rw [ec] at hsv; exact .inr ⟨c,Y,hsv⟩),sab.trans sc⟩⟩
   rintro _ Hy ⟨sv,rfl,hsv,sxy⟩;have ktu:∀ {Hz:Hp} {d:Addr} {o o':HO} {k:List (List Key×V)},Hz d=some (.dT k)->∀a xs,Hz a= ~~~xs->(upd Hz d o) a= ~~~xs:=λ {Hz d o o' k} hd a xs e=>by rw [aj (λ z=>by rw [z,hd] at e; cases e)]; exact e
   have hty:=sxy _ _ ht;have hsy:=sxy _ _ hs;refine am (λ σ' H'=>σ'=[↑s,⇑m,⇑n,⇑b,↑tb,↑st,↑ta,⇑(bW b ks p),some sv,none]/\H'=upd Hy tb (.dT (byP (cC b ks ((ak m n).take (i + 1)))))) (λ R hR=>?_) ?_
   ·refine ⟨_,Y,_,Y,_,Y,tb,_,Y,DPut.t (k:=pk p) hty (sxy _ _ hta) (by unfold byP; rw [List.length_map]; omega),hR _ _ ⟨Y,?_⟩⟩;rw [iQ (by rw [jD]; exact pnew),List.take_add_one,hp];unfold cC;rw [List.map_append]
    rfl
   rintro _ Hz ⟨rfl,eHz⟩;have tz:Hz tb=some (.dT (byP (cC b ks ((ak m n).take (i + 1))))):=by rw [eHz]; exact ae
   have sz:Hz st=some (.dT (byP ss)):=by rw [eHz,aj (Ne.symm nts)]; exact hsy
   have kz:∀a xs,Hy a= ~~~xs->Hz a= ~~~xs:=λ a xs e=>by rw [eHz,aj (λ z=>by rw [z,hty] at e; cases e)]; exact e
   have s0z:Same H Hz:=λ c o e=>by rw [eHz,aj (ah e htb)]; exact sxy _ _ (sx _ _ e)
   have lz:Hz pl=↥ys:=by rw [eHz,aj (λ z=>by rw [z,ht] at hl; cases hl)]; exact sxy _ _ hl
   refine ⟨_,Y,_,Y,_,Y,st,_,Y,DPut.t (k:=pk p) sz (kz _ _ (sxy _ _ hta)) (by unfold byP; rw [List.length_map]; omega),ss ++ [(p,sv)],_,_,_,Y,?_,?_,?_,?_,?_,?_,?_⟩
   ·rw [aj nts]; exact tz
   ·rw [iQ (by rw [es]; exact pnew)]; exact ae
   ·rw [List.map_append,es,List.take_add_one,hp]; rfl
   ·have kw:∀a xs,Hy a= ~~~xs->(upd Hz st (.dT (cI (byP ss) (pk p) sv))) a= ~~~xs:=λ a xs e=>by have e':=kz _ _ e;rw [aj (λ z=>by rw [z,sz] at e'; cases e')]; exact e'
    intro p' v' hm;rcases B9.mp hm with hm | hm
    ·rcases (so.keep (λ a xs e=>kw _ _ (sxy _ _ e))) p' v' hm with h | ⟨x,hc,h1,h2,h3,h4⟩
     ·exact .inl h
     ·exact .inr ⟨x,hc,h1,by rw [List.map_append]; exact B3 _ h2,by rw [List.map_append]; exact B3 _ h3,h4⟩
    ·rw [List.mem_singleton] at hm;cases hm;rcases hsv with ⟨ec,hl'⟩ | ⟨c,ec,⟨q',t1,t2,e,c1,c2,c3⟩⟩
     ·exact .inl ⟨ec,TrV.keep kw _ hl'⟩
     ·have hc:=rW ec;obtain ⟨⟨_,_,_,_,_,l1⟩,⟨_,_,_,_,_,l2⟩⟩:=dw b0 p1 p3 hc;obtain ⟨i1,i2⟩:=cutIn c hc;exact .inr ⟨c,ec,⟨q',t1,t2,e,kw _ _ c1,kw _ _ c2,kw _ _ c3⟩,by rw [List.map_append,es]; exact B3 _ i1,by rw [List.map_append,es]; exact B3 _ i2,l1,l2⟩
   ·refine FJ py λ v p ⟨q',e,h⟩=>⟨q',e,?_⟩
    have e':=kz _ _ (sxy _ _ h);rw [aj (λ z=>by rw [z,sz] at e'; cases e')]; exact e'
   ·rw [aj (λ z=>by rw [z,sz] at lz; cases lz)]; exact lz
   ·exact λ c o e=>by rw [aj (ah e hst)]; exact s0z _ _ e
  ·rintro σ Hx ⟨ss,v6,v7,v8,rfl,ht,hs,es,so,py,hl,sx⟩;rw [pln,List.take_length] at ht es;exact hR _ _ ⟨ss,v6,v7,v8,rfl,ht,hs,es,so,sx⟩
 rintro _ H3 ⟨ss,v6,v7,v8,rfl,ht,hs,es,so,s03⟩;have pmem:((m:Int),(n:Int))∈ak m n:=partsL_mem.mpr ⟨⟨by show (1:Int)<=m; omega,C8 _⟩,by show (1:Int)<=n; omega,C8 _⟩;refine am (λ σ' H'=>∃pa:Addr,σ'=[↑s,⇑m,⇑n,⇑b,↑tb,↑st,v6,v7,v8,↑pa]/\H' pa= ~~~[.int m,.int n]/\Same H3 H') (λ R hR=>?_) ?_
 ·refine ⟨_,Y,_,Y,zS2,λ pa hpa=>?_⟩;obtain ⟨H4,e4,k4,s4⟩:∃H',upd H3 pa (.tup [.int m,.int n])=H'/\H' pa= ~~~[.int m,.int n]/\Same H3 H':=⟨_,Y,ae,FG hpa⟩
  rw [show upd H3 pa _=H4 from e4];exact hR _ _ ⟨pa,rfl,k4,s4⟩
 rintro _ H4 ⟨pa,rfl,hpa,s34⟩;refine ⟨_,Y,_,Y,tb,_,Y,gK pmem ▸ DGet.t (k:=pk (m,n)) (s34 _ _ ht) hpa,?_⟩;refine ⟨_,Y,_,Y,st,pa,b,ks,ss,((m:Int),(n:Int)),Y,s34 _ _ hs,hpa,so.keep (λ a xs e=>s34 _ _ e),(by rw [es]; exact pmem),(by show ((m:Int) + n).toNat < 33; omega),λ v5 H5 hv5 s45=>?_⟩;refine ⟨_,Y,zS3,λ r hr=>?_⟩;obtain ⟨H6,e6,k6,s6⟩:∃H',upd H5 r (.tup [.int (bW b ks (m,n)),v5,.ref tb])=H'/\H' r= ~~~[.int (bW b ks (m,n)),v5,.ref tb]/\Same H5 H':=⟨_,Y,ae,FG hr⟩
 rw [show upd H5 r _=H6 from e6];have s36:=s34.trans (s45.trans s6);exact q r tb v5 H6 htb k6 (s36 _ _ ht) (TrV.keep (λ a xs e=>s6 _ _ e) _ hv5) (s03.trans s36)
end
def EC (k:Kd) (w h:Int):Bool:=(decide (k.w<=w) && decide (k.h<=h)) || (k.tu && (decide (k.h<=w) && decide (k.w<=h)))
theorem pW {α:Type} {f:α->Int}:∀ {l:List α} {x:Int},x<=mxL f l x/\∀a∈l,f a<=mxL f l x
 | [],_=>⟨C8 _,λ a h=>by simp at h⟩
 | a :: r,x=>by
  obtain ⟨h1,h2⟩:=pW (f:=f) (l:=r) (x:=max x (f a));have e:mxL f (a :: r) x=mxL f r (max x (f a)):=rfl;rw [e];refine ⟨⋯,λ b hb=>?_⟩;rcases List.mem_cons.mp hb with rfl | hb
  ·omega
  ·exact h2 b hb
theorem mj {α:Type} {f:α->Int}:∀ {l:List α} {x:Int},mxL f l x=x\/∃a∈l,mxL f l x=f a
 | [],_=>.inl rfl
 | a :: r,x=>by
  have e:mxL f (a :: r) x=mxL f r (max x (f a)):=rfl;rw [e];rcases mj (f:=f) (l:=r) (x:=max x (f a)) with h | ⟨b,hb,h⟩
  ·by_cases c:x<=f a
   ·exact .inr ⟨a,B4,by rw [h]; omega⟩
   ·exact .inl (by rw [h]; omega)
  ·exact .inr ⟨b,B1 _ hb,h⟩
theorem nF {C x dx:Addr} {H:Hp} (hx:H x=none) (hd:H dx=none):Same H (upd (upd H dx (.own x)) x (.ins C dx [])):=λ c o e=>by rw [aj (ah e hx),aj (ah e hd)]; exact e
theorem rY {b:Int} {ks:List Kd} {ps:List (Int×Int)} {i:Nat} {k:List Key} {v:V} (h:(byP (cC b ks ps))[i]? = some (k,v)):∃p∈ps,k=pk p/\v=.int (bW b ks p):=by unfold byP cC at h;rw [List.map_map,List.getElem?_map] at h;obtain ⟨p,hp,e⟩:=Option.map_eq_some_iff.mp h;cases e;exact ⟨p,B2 hp,Y,Y⟩
theorem mq {b:Int} {ks:List Kd} {ps:List (Int×Int)} {k:List Key} {v:V} (h:(k,v)∈byP (cC b ks ps)):∃p∈ps,k=pk p/\v=.int (bW b ks p):=by obtain ⟨i,hi⟩:=List.mem_iff_getElem?.mp h;exact rY hi
theorem uE {b:Int} {ks:List Kd} {ps:List (Int×Int)} {p:Int×Int} (h:p∈ps):(pk p,V.int (bW b ks p))∈byP (cC b ks ps):=by unfold byP cC;exact List.mem_map.mpr ⟨(p,_),List.mem_map.mpr ⟨p,h,Y⟩,Y⟩
theorem pX {b b':Int} {ks ks':List Kd} {ps:List (Int×Int)} (h:∀p∈ps,bW b ks p=bW b' ks' p):ic (byP (cC b ks ps)) (byP (cC b' ks' ps)):=by refine ⟨by unfold byP cC; rw [List.length_map,List.length_map,List.length_map,List.length_map],λ k v hm=>?_⟩;obtain ⟨p,hp,rfl,rfl⟩:=mq hm;exact ⟨_,Y,(h p hp) ▸ uE hp⟩
theorem jE {b:Int} {ks:List Kd} {ps:List (Int×Int)}:∀x∈byP (cC b ks ps),∀k∈x.1,∃i,k=Sum.inl i:=λ x hx k hk=>by
 obtain ⟨p,hp,e1,e2⟩:=mq (k:=x.1) (v:=x.2) hx;rw [e1] at hk;rcases List.mem_cons.mp hk with h | h
 ·exact ⟨_,h⟩
 ·exact ⟨_,C5.mp h⟩
def hsh (p:Int×Int):Int:=reduceHash (Builtin.Tuple.tupleHashOf [hashInt p.1,hashInt p.2])
theorem rZ:((ak 16 16).map hsh).Nodup:=∅
theorem pY {α:Type} {f:α->Int}:∀ {l:List α},(l.map f).Nodup->∀ {p q:α},p∈l->q∈l->f p=f q->p=q
 | [],_,_,_,h,_,_=>by simp at h
 | a :: l,hn,p,q,hp,hq,e=>by
  have hn:=List.nodup_cons.mp hn;rcases List.mem_cons.mp hp with rfl | hp2
  ·rcases List.mem_cons.mp hq with rfl | hq2
   ·rfl
   ·exact absurd (by rw [e]; exact List.mem_map.mpr ⟨q,hq2,Y⟩) hn.1
  ·rcases List.mem_cons.mp hq with rfl | hq2
   ·exact absurd (by rw [<- e]; exact List.mem_map.mpr ⟨p,hp2,Y⟩) hn.1
   ·exact pY hn.2 hp2 hq2 e
theorem pZ {α:Type} {f:α->Int} {l:List α} (hnew:∀ (i:Nat) p,l[i]? = some p->p∉l.take i) (inj:∀p∈l,∀q∈l,f p=f q->p=q):(l.map f).Nodup:=by rw [List.Nodup,List.pairwise_iff_getElem];intro i j hi hj ij e;rw [List.length_map] at hi hj;rw [List.getElem_map,List.getElem_map] at e;have:=inj _ (List.getElem_mem hi) _ (List.getElem_mem hj) e;refine hnew j l[j] (E5 hj) ?_;rw [<- this];exact List.mem_take_iff_getElem.mpr ⟨i,⋯,Y⟩
theorem qb {m n:Nat} (m16:m<=16) (n16:n<=16):((ak m n).map hsh).Nodup:=pZ (λ i p h=>gJ h) λ p hp q hq e=>by
 have up:∀ {r:Int×Int},r∈ak m n->r∈ak 16 16:=λ {r} h=>by obtain ⟨⟨h1,h2⟩,h3,h4⟩:=partsL_mem.mp h;exact partsL_mem.mpr ⟨⟨h1,by show r.1<=(16:Nat); omega⟩,h3,by show r.2<=(16:Nat); omega⟩
 exact pY rZ (up hp) (up hq) e
theorem mr (P:FC) (w:FE) {m n:Nat} (m16:m<=16) (n16:n<=16) {ss:List ((Int×Int)×V)} (e:ss.map (·.1)=ak m n):((byP ss).map λ x=>tupleKeyHash (ax P w) x.1).Nodup:=by
 have:((byP ss).map λ x=>tupleKeyHash (ax P w) x.1)=(ss.map (·.1)).map hsh:=by
  unfold byP;rw [List.map_map,List.map_map]
  rfl
 rw [this,e];exact qb m16 n16
theorem iR {K:C1}:PySem.W.kitOne K (.type "dict") (.type "dict")=some true:=by kernel_rfl
theorem uF {K:C1}:PySem.W.kitOne K (.type "tuple") (.type "tuple")=some true:=by kernel_rfl
def sg (b:Int) (f:Int×Int->Int) (w h:Int) (c:Bool×Int):Int:=f (aQ w h c) + f (aR b w h c)
def qc (b:Int) (ks:List Kd) (f:Int×Int->Int) (w h:Int):Int:=mxL (sg b f w h) (cn b w h) (lfW ks w h)
def aG (f:Int×Int->Int) (ps:List (Int×Int)):List ((Int×Int)×V):=ps.map λ p=>(p,.int (f p))
theorem eR (f:Int×Int->Int) (ps:List (Int×Int)):(aG f ps).map (·.1)=ps:=by unfold aG;rw [List.map_map];exact List.map_id' ps
theorem eS {f:Int×Int->Int} {ps:List (Int×Int)} {p:Int×Int} (h:p∈ps):dm (byP (aG f ps)) (pk p)=⇑(f p):=by obtain ⟨v,h1,h2⟩:=gb (ss:=aG f ps) (p:=p) (by rw [eR]; exact h);unfold aG at h2;obtain ⟨q,_,e⟩:=List.mem_map.mp h2;cases e;exact h1
theorem gc {f:Int×Int->Int} {ps:List (Int×Int)} {i:Nat} {k:List Key} {v:V} (h:(byP (aG f ps))[i]? = some (k,v)):∃p,ps[i]? = some p/\k=pk p/\v=.int (f p):=by unfold byP aG at h;rw [List.map_map,List.getElem?_map] at h;obtain ⟨p,hp,e⟩:=Option.map_eq_some_iff.mp h;cases e;exact ⟨p,hp,Y,Y⟩
theorem cQ (f:Int×Int->Int) (ps:List (Int×Int)):(byP (aG f ps)).length=ps.length:=by unfold byP aG;rw [List.length_map,List.length_map]
def ED (f:Int×Int->Int) (p:Int×Int) (x:Int):Int×Int->Int:=λ q=>if q=p then x else f q
theorem nG {f g:Int×Int->Int} {ps:List (Int×Int)} (h:∀p∈ps,f p=g p):ic (byP (aG f ps)) (byP (aG g ps)):=by refine ⟨by rw [cQ,cQ],λ k v hm=>?_⟩;obtain ⟨i,hi⟩:=List.mem_iff_getElem?.mp hm;obtain ⟨p,hp,rfl,rfl⟩:=gc hi;have hp:=B2 hp;refine ⟨_,Y,?_⟩;rw [h p hp];exact List.mem_map.mpr ⟨(p,.int (g p)),List.mem_map.mpr ⟨p,hp,Y⟩,Y⟩
theorem qd {α:Type} {f:α->Int} {l:List α} {x y:Int}:mxL f l x<=y↔x<=y/\∀a∈l,f a<=y:=by
 obtain ⟨h1,h2⟩:=pW (f:=f) (l:=l) (x:=x);refine ⟨λ h=>⟨⋯,λ a ha=>by have:=h2 a ha; omega⟩,λ ⟨h3,h4⟩=>?_⟩;rcases mj (f:=f) (l:=l) (x:=x) with e | ⟨a,ha,e⟩
 ·omega
 ·have:=h4 a ha; omega
def bj (b:Int) (ks:List Kd) (f:Int×Int->Int) (m n:Nat):Bool:=(ak m n).all λ p=>decide (qc b ks f p.1 p.2<=f p)
def lyB (ks:List Kd) (f:Int×Int->Int) (p:Int×Int) (l:List (Nat×Bool)):Bool:=l.all λ q=>decide (wq ks q<=f p)
def cuB (b:Int) (f:Int×Int->Int) (p:Int×Int) (l:List (Bool×Int)):Bool:=l.all λ c=>decide (sg b f p.1 p.2 c<=f p)
def bM (b:Int) (ks:List Kd) (f:Int×Int->Int) (p:Int×Int):Bool:=lyB ks f p ((lyK ks 0).filter (dv ks p.1 p.2)) && cuB b f p (cn b p.1 p.2)
theorem kA {b:Int} {ks:List Kd} {f:Int×Int->Int} {p:Int×Int} (h0:0<=f p):bM b ks f p=decide (qc b ks f p.1 p.2<=f p):=by
 have e:(qc b ks f p.1 p.2<=f p)↔bM b ks f p=true:=by
  unfold qc lfW bM lyB cuB;rw [qd,qd,Bool.and_eq_true_iff,List.all_eq_true,List.all_eq_true];constructor
  ·rintro ⟨⟨_,h1⟩,h2⟩;exact ⟨λ q hq=>A7 (h1 q hq),λ c hc=>A7 (h2 c hc)⟩
  ·rintro ⟨h1,h2⟩;exact ⟨⟨h0,λ q hq=>B7 (h1 q hq)⟩,λ c hc=>B7 (h2 c hc)⟩
 cases hb:bM b ks f p with
 | true=>exact (A7 (e.mpr hb)).symm
 | false=>exact (A8 (λ z=>by rw [e.mp z] at hb; cases hb)).symm
theorem qg {b:Int} {ks:List Kd} {f:Int×Int->Int} {m n:Nat} (h0:∀p∈ak m n,0<=f p):(ak m n).all (bM b ks f)=bj b ks f m n:=by
 unfold bj;have:∀l:List (Int×Int),(∀p∈l,0<=f p)->l.all (bM b ks f)=l.all λ p=>decide (qc b ks f p.1 p.2<=f p):=by
  intro l
  induction l with
  | nil=>intro _; rfl
  | cons p l ih =>
   intro h;rw [List.all_cons,List.all_cons,ih (λ q hq=>h q (List.mem_cons_of_mem _ hq)),kA (h p List.mem_cons_self)]
 exact this _ h0
theorem jF {α:Type} {f:α->Bool} {l:List α} {i:Nat} {x:α} (h:l[i]? = some x):(l.take (i + 1)).all f=((l.take i).all f && f x):=by rw [List.take_add_one,h,List.all_append];simp
theorem ii {α:Type} {f:α->Bool} {l:List α} {x:α} (h:x∈l) (hf:f x=false):l.all f=false:=by
 cases e:l.all f with
 | false=>rfl
 | true=>rw [List.all_eq_true] at e; rw [e x h] at hf; cases hf
theorem CV {t:Addr} {H H':Hp} {a:Addr} {u:HO} (s:∀c o,c≠t->H c=some o->H' c=some o) (n:a≠t) (h:Rd H a u):Rd H' a u:=h.imp (s _ _ n) λ ⟨o,e⟩=>⟨o,s _ _ n e⟩
theorem iS {H H':Hp} {a:Addr} {u:HO} (h:Rd H a u) (s:Same H H'):Rd H' a u:=h.imp (s _ _) λ ⟨o,e⟩=>⟨o,s _ _ e⟩
theorem yQ {H:Hp} {a b:Addr} {kvs:List (List Key×V)} {xs:List V} (h:Rd H a (.dT kvs)) (e:H b= ~~~xs):b≠a:=λ z=>by subst z;rcases h with h | ⟨_,h⟩ <;> rw [e] at h <;> cases h
theorem yR {H:Hp} {a b C d:Addr} {kvs:List (List Key×V)} {fs} (h:Rd H a (.dT kvs)) (e:H b=some (.ins C d fs)):b≠a:=λ z=>by subst z;rcases h with h | ⟨_,h⟩ <;> rw [e] at h <;> cases h
section
variable {P:FC} {w:FE} {K:C1} {mg:Str->Option FF} {base:Heap}
inductive spIsKey (vs:List V) (H:Hp) (Q:VK) (E_:XK):Prop
 | mk (t:Addr) (m n:Nat) (p:Int×Int) (e_1:vs=[.int (m:Int),.int (n:Int),.ref t]) (e_2:H t= ~~~[.int p.1,.int p.2]) (e_3:p∈ak m n) (e_4:Q (.bl true) H):spIsKey vs H Q E_
inductive spIsTab (vs:List V) (H:Hp) (Q:VK) (E_:XK):Prop
 | mk (td:Addr) (m n:Nat) (f0:Int×Int->Int) (e_1:vs=[.int (m:Int),.int (n:Int),.ref td]) (e_2:m<=16) (e_3:n<=16) (e_4:H td=some (.dT (byP (aG f0 (ak m n))))) (e_5:(∀p∈ak m n,0<=f0 p)) (e_6:∀ (ob:Obj) (H':Hp),H' td=some (.frz ob (.dT (byP (aG f0 (ak m n)))))->But td H H'->Q (.bl true) H'):spIsTab vs H Q E_
inductive spBearsP (C:Addr) (vs:List V) (H:Hp) (Q:VK) (E_:XK):Prop
 | mk (s t td:Addr) (b:Int) (ks:List Kd) (m n:Nat) (p:Int×Int) (f0:Int×Int->Int) (e_1:vs=[.ref s,.ref t,.ref td]) (e_2:ShopAt C H s b ks) (e_3:ks.length<=8) (e_4:0<=b) (e_5:H t= ~~~[.int p.1,.int p.2]) (e_6:p∈ak m n) (e_7:m<=16) (e_8:n<=16) (e_9:Rd H td (.dT (byP (aG f0 (ak m n))))) (e_10:∀H',Same H H'->Q (.bl (bM b ks f0 p)) H'):spBearsP C vs H Q E_
inductive spBearsT (C:Addr) (vs:List V) (H:Hp) (Q:VK) (E_:XK):Prop
 | mk (s td:Addr) (b:Int) (ks:List Kd) (m n:Nat) (f0:Int×Int->Int) (e_1:vs=[.ref s,.int (m:Int),.int (n:Int),.ref td]) (e_2:ShopAt C H s b ks) (e_3:ks.length<=8) (e_4:0<=b) (e_5:1<=m) (e_6:m<=16) (e_7:1<=n) (e_8:n<=16) (e_9:H td=some (.dT (byP (aG f0 (ak m n))))) (e_10:(∀p∈ak m n,0<=f0 p)) (e_11:∀ (ob:Obj) (H':Hp),H' td=some (.frz ob (.dT (byP (aG f0 (ak m n)))))->But td H H'->Q (.bl (bj b ks f0 m n)) H'):spBearsT C vs H Q E_
theorem sciskey:FnScope ["wide","high","thing","a","b"] ["wide","high","thing"] (defScope fu):=⟨Y,Y,Y,∅,Y,∅,∅⟩
theorem qh {f:Addr} {fd:FD} (F:Fun K "is_key" "is_key" fu f fd) (B:Blt mg) (DW:Dn P w K mg base "is_whole" ["thing","least"] 1 (bq K)):FnOk P w K mg base CX0 2 f fd ["wide","high","thing"] (spIsKey):=by
 refine F.ok sciskey (λ vs H Q E h=>?_) (λ cdv A outer s H vs Q E hr h=>?_)
 ·obtain ⟨t,m,n,p,rfl,_⟩:=h
  rfl
 obtain ⟨t,m,n,p,rfl,ht,hp,q⟩:=h;have nd:=sciskey.nd;refine ⟨_,(((PW.pt (bR (@aT _ _ _ _ (@aO _ _ _ (@av _ _ _ _ _ _ _ _ _ be Y B.isi PyProof.Rows.boot_isinstance ((pv 2)^^^((bO (v:=.ty "tuple") Y B.tuple PyProof.Rows.boot_tuple Y)^^^ad)) ∅ ∅ Y Y) (by intro _; rfl))) (bu ((@av _ _ _ _ _ _ _ _ _ bK Y B.len PySem.boot_len ((pv 2)^^^ad) ∅ ∅ Y Y)<*>fF<*>af))))<|>(bp⁻¹)<|>ay)<<<((@cz _ _ _ _ _ _ (pv 2) (bQ Y (3•(4•bn))) Y Y Y)<<<((bA (DW∪((pv 3)^^^(af^^^ad))) (bA (DW∪((pv 4)^^^(af^^^ad))) (bA (@bJ _ _ _ _ _ _ _ _ fG (pv 3) (pv 0) (aw _)) (cj (@bJ _ _ _ _ _ _ _ _ fG (pv 4) (pv 1) (aw _))))))⁻¹))),?_⟩;obtain ⟨⟨p1,p2⟩,p3,p4⟩:=partsL_mem.mp hp;refine am (λ σ' H'=>σ'=[⇑(m:Int),⇑(n:Int),↑t,none,none]/\H=H') (λ R hR=>?_) ?_
 ·exact ⟨_,Y,_,_,_,_,_,Y,.tup ht,Y,uF,_,Y,aD ⟨_,Y,t,_,Y,.inr (FH ht),Y,_,Y,aD (hR _ _ ⟨Y,Y⟩)⟩⟩
 rintro _ _ ⟨rfl,rfl⟩;refine am (λ σ' H'=>σ'=[⇑(m:Int),⇑(n:Int),↑t,⇑p.1,⇑p.2]/\H=H') (λ R hR=>?_) ?_
 ·exact ⟨_,Y,t,_,Y,FH ht,Y,_,_,Y,_,_,Y,Y,hR _ _ ⟨Y,Y⟩⟩
 rintro _ _ ⟨rfl,rfl⟩;refine ⟨_,Y,.int p.1,"int",1,Y,Ty.int,_,Y,?_⟩;rw [show aA (.int p.1) 1=true from decide_eq_true p1];refine aP ⟨_,rfl,.int p.2,"int",1,rfl,Ty.int,_,rfl,?_⟩;rw [show aA (.int p.2) 1=true from decide_eq_true p3];refine aP ⟨_,rfl,_,rfl,_,_,rfl,rfl,_,rfl,?_⟩;rw [show decide (p.1<=(m:Int))=true from decide_eq_true p2];refine aP ⟨_,rfl,_,rfl,_,_,rfl,rfl,?_⟩;show Q (.bl (decide (p.2<=(n:Int)))) H;rw [show decide (p.2<=(n:Int))=true from decide_eq_true p4];exact q
theorem scistab:FnScope ["wide","high","thing"] ["wide","high","thing"] (defScope bf):=⟨Y,Y,Y,∅,Y,∅,∅⟩
theorem qi {f:Addr} {fd:FD} (F:Fun K "is_table" "is_table" bf f fd) (B:Blt mg) (hdc:mg "dict" = none) (DW:Dn P w K mg base "is_whole" ["thing","least"] 1 (bq K)) (DK:Dn P w K mg base "is_key" ["wide","high","thing"] 2 (spIsKey)):FnOk P w K mg base CX0 3 f fd ["wide","high","thing"] (spIsTab):=by
 refine F.ok scistab (λ vs H Q E h=>?_) (λ cdv A outer s H vs Q E hr h=>?_)
 ·obtain ⟨td,m,n,f0,rfl,_⟩:=h
  rfl
 obtain ⟨td,m,n,f0,rfl,m16,n16,htd,h0,q⟩:=h;have nd:=scistab.nd;have hu:=hr.units;have hu1:=C3 (Nat.add_le_add_left (show 1<=64 by decide) _) hu;refine ⟨_,(((PW.pt (bR (@aT _ _ _ _ (@aO _ _ _ (@av _ _ _ _ _ _ _ _ _ be Y B.isi PyProof.Rows.boot_isinstance ((pv 2)^^^((bO (v:=.ty "dict") Y hdc PyProof.Rows.boot_dict Y)^^^ad)) ∅ ∅ Y Y) (by intro _; rfl))) (bu ((@av _ _ _ _ _ _ _ _ _ er Y B.len PySem.boot_len ((pv 2)^^^ad) ∅ ∅ Y Y)<*>fF<*>((pv 0)|||cS|||(pv 1))))))<|>(bp⁻¹)<|>ay)<<<((@av _ _ _ _ _ _ _ _ _ (cL Y) Y B.all PyProof.Rows.boot_all ((cg (own:=["key","number"]) (cs:=["wide","high"]) (cap:=[0,1]) Y (gG (pv 2)) (aX (sc:=defScope bf) (N:=["wide","high","thing"]) Y Y ∅) (λ _ _ _ _ _=>fq K Y Y (by show List.Nodup (["key","number","wide","high"]:List Str) ; decide +kernel) Y Y Y Y) (λ _ _ _ _ _=>bi) (λ _ _ _ _ _=>(bA (DK∪((pv 2)^^^((pv 3)^^^((pv 0)^^^ad)))) (cj (DW∩((pv 1)^^^(af^^^ad)))))))^^^ad) ∅ ∅ Y Y)⁻¹)),?_⟩;have z4:4096<=sizeLine:=∅
 have mn:m * n<=256:=Nat.mul_le_mul m16 n16;have tl:(byP (aG f0 (ak m n))).length=m * n:=by rw [cQ,bH]
 refine am (λ σ' H'=>σ'=[⇑(m:Int),⇑(n:Int),↑td]/\H=H') (λ R hR=>?_) ?_
 ·refine ⟨_,Y,_,_,_,_,_,Y,.dT htd,Y,iR,_,Y,aD ?_⟩;refine ⟨_,Y,td,_,Y,htd,_,Y,_,Y,_,_,Y,Y,.inl ⟨⋯,⋯⟩,Y,_,Y,?_⟩;rw [tl,show (!decide (V.int ((m * n:Nat):Int)=V.int ((m:Int) * (n:Int))))=false by rw [decide_eq_true (by rw [Int.natCast_mul])]; rfl];exact aD (hR _ _ ⟨rfl,rfl⟩)
 rintro _ _ ⟨rfl,rfl⟩;refine ⟨_,Y,td,_,Y,htd,λ ob=>?_⟩;have hf:(upd H td (.frz ob (.dT (byP (aG f0 (ak m n)))))) td=some (.frz ob (.dT (byP (aG f0 (ak m n))))):=ae;have bt:But td H (upd H td (.frz ob (.dT (byP (aG f0 (ak m n)))))):=λ c o nn e=>by rw [aj nn]; exact e
 generalize upd H td (.frz ob (.dT (byP (aG f0 (ak m n)))))=H1 at hf bt ⊢;refine kq (a:=td) (ob:=ob) (kvs:=(byP (aG f0 (ak m n)))) (λ i us Hx=>us=(List.replicate i true).map V.bl/\Same H1 Hx) ⟨rfl,Same.refl _⟩ (λ i us Hx _ ⟨_,sx⟩=>sx _ _ hf) ?_ ?_ ?_
 ·rintro i kk v pa qa us Hx hkv hpa hqa ⟨rfl,sx⟩;obtain ⟨p,hp,rfl,rfl⟩:=gc hkv;have pm:=B2 hp;have il:=(A3.mp hkv).1;obtain ⟨Hy,e1,k1,s1⟩:∃H',upd Hx pa (.tup [.ref qa,.int (f0 p)])=H'/\H' pa= ~~~[.ref qa,.int (f0 p)]/\Same Hx H':=⟨_,Y,ae,FG hpa⟩
  rw [show upd Hx pa _=Hy from e1];have hqa:Hx qa= ~~~[.int p.1,.int p.2]:=hqa;refine ⟨pa,_,Y,FH k1,Y,_,_,Y,_,_,Y,Y,rQ (leS.set rfl) (leS.set rfl),bE ?_⟩;refine ⟨_,Y,_,Y,_,Y,qa,m,n,p,Y,s1 _ _ hqa,pm,_,Y,aP ⟨_,Y,.int (f0 p),"int",0,Y,Ty.int,?_⟩⟩;rw [show aA (.int (f0 p)) 0=true from decide_eq_true (h0 p pm)];refine ⟨_,(by omega:(byP (aG f0 (ak m n))).length - (i + 1) < (byP (aG f0 (ak m n))).length - i),Y,il,?_,sx.trans s1⟩;rw [List.replicate_succ',List.map_append]
  rfl
 ·rintro i us Hx il ⟨rfl,sx⟩;rw [List.length_map,List.length_replicate]; omega
 ·rintro us Hx ⟨rfl,sx⟩;rw [List.length_map,List.length_replicate];refine ⟨⋯,λ l hl=>⟨l,List.replicate (byP (aG f0 (ak m n))).length true,Y,FI ae,?_⟩⟩;rw [show (List.replicate (byP (aG f0 (ak m n))).length true).all id=true by rw [List.all_eq_true]; intro x hx; rw [(List.mem_replicate.mp hx).2]; rfl];exact q ob _ ((FG hl) _ _ (sx _ _ hf)) λ c o nn e=>(FG hl) _ _ (sx _ _ (bt _ _ nn e))
theorem scbearsp:FnScope ["shop","part","table","kinds","kind","turned","way","p","first","second"] ["shop","part","table"] (defScope cW):=⟨Y,Y,Y,∅,Y,∅,∅⟩
theorem nH {f C:Addr} {fd:FD} (F:Fun K "bears_part" "bears_part" cW f fd) (B:Blt mg) (T:ShopTxt K C) (MB:Mn P w K mg base C "blade" ["self"] 1 (fO C)) (MKi:Mn P w K mg base C "kinds" ["self"] 1 (fP C)) (DLy:Dn P w K mg base "lyings_in" ["shop","part"] 5 (spLyIn C)) (DCu:Dn P w K mg base "cuts_of" ["blade","part"] 2 (spCuts)):FnOk P w K mg base CX0 6 f fd ["shop","part","table"] (spBearsP C):=by
 refine F.ok scbearsp (λ vs H Q E h=>?_) (λ cdv A outer s H vs Q E hr h=>?_)
 ·obtain ⟨s,t,td,b,ks,m,n,p,f0,rfl,_⟩:=h
  rfl
 obtain ⟨s,t,td,b,ks,m,n,p,f0,rfl,S0,k8,b0,ht,hp,m16,n16,rd,q⟩:=h;have nd:=scbearsp.nd;have hu:=hr.units;have hu1:=C3 (Nat.add_le_add_left (show 1<=64 by decide) _) hu;refine ⟨_,((3∣(gq (pv 0) T.cl MKi (hr.mono ∅)))<<<((@bX _ _ _ _ _ _ _ _ C7 Y (bP (DLy∩((pv 0)^^^((pv 1)^^^ad)))) (bQ Y (4•(5•bn))) (@ai _ _ _ (((((pv 3)&&&aW&&&(pv 4))&&&bo&&&af)<*>dQ<*>(cr hu1 (pv 2) (pv 1) (λ _ _=>Y)))<|>(bp⁻¹)<|>ay)) (by intro _; rfl))<<<((@bX _ _ _ _ _ _ _ _ C7 Y (bP (DCu∩((gq (pv 0) T.cl MB (hr.mono ∅))^^^((pv 1)^^^ad)))) (bQ Y (6•(7•(8•(9•bn))))) (@ai _ _ _ ((((cr hu1 (pv 2) (pv 8) (λ _ _=>Y))|||bh|||(cr hu1 (pv 2) (pv 9) (λ _ _=>Y)))<*>dQ<*>(cr hu1 (pv 2) (pv 1) (λ _ _=>Y)))<|>(bp⁻¹)<|>ay)) (by intro _; rfl))<<<(bp⁻¹)))),?_⟩;have z4:4096<=sizeLine:=∅
 obtain ⟨⟨p1,p2⟩,p3,p4⟩:=partsL_mem.mp hp;have eT:=eS (f:=f0) hp;obtain ⟨dx,r0,rs0,g1,g2,g3⟩:=id S0;refine am (λ σ' H'=>∃ (kl:Addr) (rs:List V),σ'=[↑s,↑t,↑td,↑kl,none,none,none,none,none,none]/\H' kl=↥rs/\Tups H' rs ks/\Same H H') (λ R hR=>?_) ?_
 ·refine ⟨_,Y,s,dx,_,Y,g1,cF _ _ ∅ ∅,s,b,ks,Y,S0,λ kl rs hkl tp=>?_⟩;obtain ⟨H1,e1,k1,s1⟩:∃H',upd H kl (.lst rs)=H'/\H' kl=↥rs/\Same H H':=⟨_,Y,ae,FG hkl⟩
  rw [show upd H kl _=H1 from e1];exact hR _ _ ⟨kl,rs,rfl,k1,Tups.keep (λ c xs e=>s1 _ _ e) tp,s1⟩
 rintro _ H1 ⟨kl,rs,rfl,hk1,tp1,s1⟩;have S1:=S0.keep (λ c o e=>s1 _ _ e) (λ c C' d fs e=>s1 _ _ e);refine am (λ σ' H'=>∃v4 v5:Option V,σ'=[↑s,↑t,↑td,↑kl,v4,v5,none,none,none,none]/\lyB ks f0 p ((lyK ks 0).filter (dv ks p.1 p.2))=true/\Same H H') (λ R hR=>?_) ?_
 ·refine ⟨_,Y,_,Y,s,t,b,ks,p.1,p.2,Y,S1,k8,s1 _ _ ht,λ l ys H2 hl hl2 ly s2=>?_⟩;have kk:=s2 _ _ hk1;have tp2:Tups H2 rs ks:=Tups.keep (λ c o e=>s2 _ _ e) tp1;have yl:=C6 ly;refine ⟨l,Y,⟨_,FI hl2⟩,bY (xs:=ys) (λ i σ' H'=>∃v4 v5:Option V,σ'=[↑s,↑t,↑td,↑kl,v4,v5,none,none,none,none]/\lyB ks f0 p (((lyK ks 0).filter (dv ks p.1 p.2)).take i)=true/\H2=H') ⟨none,none,Y,Y,Y⟩ (λ i σ Hx _ ⟨_,_,_,_,e⟩=>by subst e; exact FI hl2) ?_ ?_⟩
  ·rintro i x σ Hx hi ⟨v4,v5,rfl,hb,rfl⟩;obtain ⟨⟨ki,c⟩,hq,qa,rfl,hqa⟩:=FK ly hi;obtain ⟨_,k,hk⟩:=iP (List.mem_filter.mp (B2 hq)).1;have hk:ks[ki]? = some k:=hk;obtain ⟨vv,hvv,hva⟩:=Paired.getL tp2 hk;obtain ⟨a,rfl,ha2⟩:=hva;have hat:atI rs (ki:Int)=↑a:=fR ⋯ (by rw [Int.toNat_natCast]; exact hvv);have ewq:wq ks (ki,c)=k.wo:=by unfold wq; simp only [hk]
   refine ⟨qa,_,Y,FH hqa,Y,_,_,Y,_,_,Y,Y,?_⟩;have s02:=s1.trans s2;refine ⟨_,Y,_,Y,kl,_,_,_,Y,Y,FI kk,hat,a,_,2,_,Y,Y,FH ha2,Y,_,Y,_,Y,td,.int (f0 p),Y,.inr ⟨_,pk p,t,iS rd s02,Y,s02 _ _ ht,eT.symm⟩,_,_,Y,Y,_,Y,?_⟩
   by_cases c1:f0 p < k.wo
   ·rw [show decide (f0 p < k.wo)=true from decide_eq_true c1];have e:bM b ks f0 p=false:=by unfold bM lyB;rw [ii (List.mem_of_getElem? hq) (decide_eq_false (by rw [ewq]; omega))]; rfl
    rw [e] at q;exact aP (q H2 s02)
   ·rw [show decide (f0 p < k.wo)=false from decide_eq_false c1];refine aD ⟨_,_,rfl,?_,rfl⟩;unfold lyB at hb ⊢;rw [jF hq,hb,decide_eq_true (by rw [ewq]; omega)]; rfl
  ·rintro σ Hx ⟨v4,v5,rfl,hb,rfl⟩;rw [yl,List.take_length] at hb;exact hR _ _ ⟨v4,v5,rfl,hb,s1.trans s2⟩
 rintro _ H2 ⟨v4,v5,rfl,hly,s2⟩;have S2:=S0.keep (λ c o e=>s2 _ _ e) (λ c C' d fs e=>s2 _ _ e);refine am (λ σ' H'=>∃H2:Hp,cuB b f0 p (cn b p.1 p.2)=true/\Same H H'/\(∃v6 v7 v8 v9:Option V,σ'=[↑s,↑t,↑td,↑kl,v4,v5,v6,v7,v8,v9])) (λ R hR=>?_) ?_
 ·refine ⟨_,Y,s,dx,_,Y,(s2 _ _ g1),cF _ _ ∅ ∅,s,b,ks,Y,S2,_,Y,b,p.1,p.2,t,Y,s2 _ _ ht,⋯,⋯,b0,λ l ys H3 hl pc s3=>?_⟩;have yl:=C6 pc;have s03:=s2.trans s3;refine ⟨l,Y,⟨_,FI hl⟩,bY (xs:=ys) (λ i σ' H'=>(∃v6 v7 v8 v9:Option V,σ'=[↑s,↑t,↑td,↑kl,v4,v5,v6,v7,v8,v9])/\cuB b f0 p ((cn b p.1 p.2).take i)=true/\H3=H') ⟨⟨_,_,_,_,Y⟩,Y,Y⟩ (λ i σ Hx _ ⟨_,_,e⟩=>by subst e; exact FI hl) ?_ ?_⟩
  ·rintro i x σ Hx hi ⟨⟨v6,v7,v8,v9,rfl⟩,hb,rfl⟩;obtain ⟨c,hc,q',t1,t2,rfl,h1',h2',h3'⟩:=FK pc hi;have cm:=B2 hc;obtain ⟨⟨a1,a2,a3,a4,_,_⟩,⟨c1,c2,c3,c4,_,_⟩⟩:=dw b0 p1 p3 cm;have e1:=eS (f:=f0) (p:=aQ p.1 p.2 c) (partsL_mem.mpr ⟨⟨a1,⋯⟩,a2,⋯⟩:_∈ak m n);have e2:=eS (f:=f0) (p:=aR b p.1 p.2 c) (partsL_mem.mpr ⟨⟨c1,⋯⟩,c2,⋯⟩:_∈ak m n);refine ⟨q',_,Y,FH h1',Y,_,_,Y,_,_,Y,_,_,Y,_,_,Y,Y,?_⟩;have rd3:=iS rd s03;refine ⟨_,Y,_,Y,td,.int _,Y,.inr ⟨_,pk (aQ p.1 p.2 c),t1,rd3,Y,h2',e1.symm⟩,_,Y,_,Y,td,.int _,Y,.inr ⟨_,pk (aR b p.1 p.2 c),t2,rd3,Y,h3',e2.symm⟩,_,_,Y,Y,_,Y,_,Y,td,.int (f0 p),Y,.inr ⟨_,pk p,t,rd3,Y,s03 _ _ ht,eT.symm⟩,_,_,Y,Y,_,Y,?_⟩
   by_cases c1:f0 p < f0 (aQ p.1 p.2 c) + f0 (aR b p.1 p.2 c)
   ·rw [show decide (f0 p < f0 (aQ p.1 p.2 c) + f0 (aR b p.1 p.2 c))=true from decide_eq_true c1];have e:bM b ks f0 p=false:=by unfold bM cuB;rw [ii cm (decide_eq_false (by unfold sg; omega)),Bool.and_false]
    rw [e] at q;exact aP (q H3 s03)
   ·rw [show decide (f0 p < f0 (aQ p.1 p.2 c) + f0 (aR b p.1 p.2 c))=false from decide_eq_false c1];refine aD ⟨⟨_,_,_,_,rfl⟩,?_,rfl⟩;unfold cuB at hb ⊢;rw [jF hc,hb,decide_eq_true (by unfold sg; omega)]; rfl
  ·rintro σ Hx ⟨e,hb,rfl⟩;rw [yl,List.take_length] at hb;exact hR _ _ ⟨H3,hb,s03,e⟩
 rintro _ H3 ⟨_,hcu,s3,⟨v6,v7,v8,v9,rfl⟩⟩;have e:bM b ks f0 p=true:=by unfold bM;rw [hly,hcu]; rfl
 rw [e] at q;exact q H3 s3
theorem scbearst:FnScope ["shop","wide","high","table"] ["shop","wide","high","table"] (defScope eA):=⟨Y,Y,Y,∅,Y,∅,∅⟩
theorem nI {f wa C:Addr} {fd:FD} (F:Fun K "bears" "bears" eA f fd) (Z:BeC K mg wa) (B:Blt mg) (DCP:Dn P w K mg base "check_plate" ["wide","high"] 2 (spCP)) (DCS:Dn P w K mg base "check_sides" ["wide","high","most"] 1 (spCS)) (DIT:Dn P w K mg base "is_table" ["wide","high","thing"] 3 (spIsTab)) (DBP:Dn P w K mg base "bears_part" ["shop","part","table"] 6 (spBearsP C)) (DPU:Dn P w K mg base "parts_up_to" ["wide","high"] 1 (spParts)):FnOk P w K mg base CX0 7 f fd ["shop","wide","high","table"] (spBearsT C):=by
 refine F.ok scbearst (λ vs H Q E h=>?_) (λ cdv A outer s H vs Q E hr h=>?_)
 ·obtain ⟨s,td,b,ks,m,n,f0,rfl,_⟩:=h
  rfl
 obtain ⟨s,td,b,ks,m,n,f0,rfl,S0,k8,b0,m1,m16,n1,n16,htd,h0,q⟩:=h;have nd:=scbearst.nd;obtain ⟨tms,hms⟩:=Z.ms;refine ⟨_,((@bI _ _ _ _ (DCP∩((pv 1)^^^((pv 2)^^^ad))) Y)<<<((@bI _ _ _ _ (DCS∩((pv 1)^^^((pv 2)^^^((aJ (v:=.int 16) Y hms ⟨tms,Y⟩)^^^ad)))) Y)<<<(((@aT _ _ _ _ (@aO _ _ _ (DIT∩((pv 1)^^^((pv 2)^^^((pv 3)^^^ad)))) (by intro _; rfl)))<|>(@ai _ _ _ bB)<|>ay)<<<((@av _ _ _ _ _ _ _ _ _ (cL Y) Y B.all PyProof.Rows.boot_all ((cg (own:=["part"]) (cs:=["shop","table"]) (cap:=[0,3]) Y (bP (DPU∩((pv 1)^^^((pv 2)^^^ad)))) (aX (sc:=defScope eA) (N:=["shop","wide","high","table"]) Y Y ∅) (λ _ _ _ _ _=>ap (i:=0) (by show List.Nodup (["part","shop","table"]:List Str) ; decide +kernel) Y (Or.inl Y) (Or.inr Y)) (λ _ _ _ _ _=>bi) (λ _ _ _ _ _=>(DBP∪((pv 1)^^^((pv 0)^^^((pv 2)^^^ad))))))^^^ad) ∅ ∅ Y Y)⁻¹)))),?_⟩;have z4:4096<=sizeLine:=∅
 have mn:m * n<=256:=Nat.mul_le_mul m16 n16;refine am (λ σ' H'=>σ'=[↑s,⇑(m:Int),⇑(n:Int),↑td]/\H=H') (λ R hR=>?_) ?_
 ·exact ⟨_,Y,_,Y,m,n,Y,⋯,⋯,hR _ _ ⟨Y,Y⟩⟩
 rintro _ _ ⟨rfl,rfl⟩;refine am (λ σ' H'=>σ'=[↑s,⇑(m:Int),⇑(n:Int),↑td]/\H=H') (λ R hR=>?_) ?_
 ·exact ⟨_,Y,_,Y,m,n,16,Y,⋯,⋯,hR _ _ ⟨Y,Y⟩⟩
 rintro _ _ ⟨rfl,rfl⟩;refine am (λ σ' H'=>∃ob:Obj,σ'=[↑s,⇑(m:Int),⇑(n:Int),↑td]/\H' td=some (.frz ob (.dT (byP (aG f0 (ak m n)))))/\But td H H') (λ R hR=>?_) ?_
 ·exact ⟨_,Y,_,Y,_,Y,td,m,n,f0,Y,m16,n16,htd,h0,λ ob H1 f1 b1=>⟨_,Y,aD (hR _ _ ⟨ob,Y,f1,b1⟩)⟩⟩
 rintro _ H1 ⟨ob,rfl,f1,b1⟩;have rd0:Rd H td (.dT (byP (aG f0 (ak m n)))):=.inl htd;have S1:ShopAt C H1 s b ks:=S0.keep (λ c xs e=>b1 _ _ (yQ rd0 e) e) (λ c C' d fs e=>b1 _ _ (yR rd0 e) e);rw [<- qg h0] at q;refine ⟨_,Y,_,Y,m,n,Y,m16,n16,λ l ys H2 hl py s2=>?_⟩;have yl:=C6 py;have pl:(ak m n).length=m * n:=bH m n;refine ⟨l,Y,⟨_,FI hl⟩,(eJ (K:=K) (.inl hl) (λ i us Hx=>us=(((ak m n).take i).map (bM b ks f0)).map V.bl/\Same H2 Hx) (λ i us Hx _ ⟨_,sx⟩ o e=>sx _ _ e) ⟨Y,Same.refl _⟩ ?_ ?_).1 hl⟩
 ·rintro i y us Hx hi ⟨rfl,sx⟩;have hin:i < ys.length:=(A3.mp hi).1;obtain ⟨p,hp,qa,rfl,hqa⟩:=FK py hi;have s1x:=s2.trans sx;refine ⟨by rw [List.length_map,List.length_map,List.length_take]; omega,leS.set rfl,bE ?_⟩;refine ⟨_,Y,_,Y,_,Y,s,qa,td,b,ks,m,n,p,f0,Y,S1.keep (λ c xs e=>s1x _ _ e) (λ c C' d fs e=>s1x _ _ e),k8,b0,sx _ _ hqa,B2 hp,m16,n16,.inr ⟨ob,s1x _ _ f1⟩,λ Hy sy=>⟨_,(by omega:ys.length - (i + 1) < ys.length - i),Y,hin,?_,sx.trans sy⟩⟩;rw [List.take_add_one,hp,List.map_append,List.map_append]
  rfl
 ·rintro us Hx ⟨rfl,sx⟩;rw [yl,List.take_length,List.length_map,List.length_map];refine ⟨⋯,λ l2 hl2=>⟨l2,(ak m n).map (bM b ks f0),Y,FI ae,?_⟩⟩;rw [List.all_map];have sz:=FG (o:=.lst (((ak m n).map (bM b ks f0)).map V.bl)) hl2;exact q ob _ (sz _ _ (sx _ _ (s2 _ _ f1))) λ c o nn e=>sz _ _ (sx _ _ (s2 _ _ (b1 _ _ nn e)))
end
theorem uG {K:C1} {H:Hp} {x:V} {T:String} (t:Ty K H x T) (n:T ≠ "dict"):PySem.W.kitOne K (.type T) (.type "dict")=some false:=by
 have h:∀T∈aS,T ≠ "dict" -> PySem.W.kitOne K (.type T) (.type "dict")=some false:=by intro T hT;simp only [aS,List.mem_cons,List.not_mem_nil,or_false] at hT;rcases hT with rfl | rfl | rfl | rfl | rfl | rfl | rfl <;> first | (intro z; exact absurd rfl z) | (intro _; kernel_rfl)
 exact h T t.1 n
theorem mt {K:C1}:PySem.W.kitOne K (.type "tuple") (.type "tuple")=some true:=by kernel_rfl
theorem si {K:C1}:PySem.W.kitOne K (.type "str") (.type "tuple")=some false:=by kernel_rfl
def KeyV (H:Hp) (v:V) (k:Option (List Int)):Prop:=(k=none/\∃z,v=.str z)\/∃t is,k=some is/\v=.ref t/\is.length<=9/\H t= ~~~(is.map V.int)
theorem KeyV.same {H H':Hp} (s:Same H H') {v:V} {k:Option (List Int)} (h:KeyV H v k):KeyV H' v k:=h.imp id λ ⟨t,is,a,b,l,c⟩=>⟨t,is,a,b,l,s _ _ c⟩
def iT (m n:Nat):Option (List Int)->Bool
 | some [a,b]=>decide (1<=a) && decide (1<=b) && decide (a<=(m:Int)) && decide (b<=(n:Int))
 | _=>false
inductive RowsV (K:C1) (H:Hp):List (V×V)->List (Option (List Int)×V)->Prop
 | nil:RowsV K H [] []
 | cons {v x:V} {k:Option (List Int)} {T:String} {rs:List (V×V)} {qs:List (Option (List Int)×V)}:KeyV H v k->Ty K H x T->RowsV K H rs qs->RowsV K H ((v,x) :: rs) ((k,x) :: qs)
theorem RowsV.same {K:C1} {H H':Hp} (s:Same H H'):∀ {rs:List (V×V)} {qs:List (Option (List Int)×V)},RowsV K H rs qs->RowsV K H' rs qs
 | _,_,.nil=>.nil
 | _,_,.cons h t r=>.cons (h.same s) (Ty.same s t) (r.same s)
theorem RowsV.len {K:C1} {H:Hp}:∀ {rs:List (V×V)} {qs:List (Option (List Int)×V)},RowsV K H rs qs->rs.length=qs.length
 | _,_,.nil=>rfl
 | _,_,.cons _ _ r=>congrArg (· + 1) r.len
theorem RowsV.get {K:C1} {H:Hp}:∀ {rs:List (V×V)} {qs:List (Option (List Int)×V)} {i:Nat} {v x:V},RowsV K H rs qs->rs[i]? = some (v,x)->∃k T,qs[i]? = some (k,x)/\KeyV H v k/\Ty K H x T
 | _,_,0,_,_,.cons h t _,e=>by cases e; exact ⟨_,_,Y,h,t⟩
 | _,_,i + 1,_,_,.cons _ _ r,e=>by obtain ⟨k,T,a,b,c⟩:=r.get (i:=i) (by simpa using e);exact ⟨k,T,by simpa using a,b,c⟩
def dz (m n:Nat) (q:Option (List Int)×V):Bool:=iT m n q.1 && aA q.2 0
def NoTb (K:C1) (H:Hp) (m n:Nat) (v:V):Prop:=(∃T,Ty K H v T/\T ≠ "dict")\/(∃td kvs,v=.ref td/\H td=some (.dT kvs)/\kvs.length≠m * n)\/∃td ob rows qs,v=.ref td/\H td=some (.ext (FixD td ob rows))/\RowsV K H rows qs/\qs.length<=300/\(qs.length=m * n->qs.all (dz m n)=false)
section
variable {P:FC} {w:FE} {K:C1} {mg:Str->Option FF} {base:Heap}
def mw (K:C1) (NP:Addr):Sp:=λ vs H Q E=>∃ (wv hv:V),vs=[wv,hv]/\(∃T,Ty K H wv T)/\(∃T,Ty K H hv T)/\((aA wv 1 && aA hv 1)=false->E (.ref NP) none H)/\((aA wv 1 && aA hv 1)=true->Q .non H)
def mx (TL:Addr):Sp:=λ vs H Q E=>∃ (w h:Int),vs=[.int w,.int h,.int 16]/\((16 < w\/16 < h)->E (.ref TL) none H)/\(w<=16->h<=16->Q .non H)
def iU (K:C1) (NP TL:Addr):Sp:=λ vs H Q E=>∃ (s:Addr) (wv hv:V),vs=[.ref s,wv,hv]/\(∃T,Ty K H wv T)/\(∃T,Ty K H hv T)/\(((aA wv 1 && aA hv 1)=false/\E (.ref NP) none H)\/∃w h:Int,wv=.int w/\hv=.int h/\1<=w/\1<=h/\(16 < w\/16 < h)/\E (.ref TL) none H)
def gL (K:C1) (NP TL NB:Addr):Sp:=λ vs H Q E=>∃ (s:Addr) (wv hv v:V),vs=[.ref s,wv,hv,v]/\(∃T,Ty K H wv T)/\(∃T,Ty K H hv T)/\(((aA wv 1 && aA hv 1)=false/\E (.ref NP) none H)\/∃w h:Int,wv=.int w/\hv=.int h/\1<=w/\1<=h/\(((16 < w\/16 < h)/\E (.ref TL) none H)\/∃m n:Nat,w=m/\h=n/\m<=16/\n<=16/\NoTb K H m n v/\∀H',Same H H'->E (.ref NB) none H'))
def dA:Sp:=λ vs H Q _=>∃ (m n:Nat) (v:V) (k:Option (List Int)),vs=[.int (m:Int),.int (n:Int),v]/\KeyV H v k/\Q (.bl (iT m n k)) H
def gM (K:C1):Sp:=λ vs H Q _=>∃ (m n:Nat) (v:V) (T:String),vs=[.int (m:Int),.int (n:Int),v]/\Ty K H v T/\T ≠ "dict" /\ Q (.bl false) H
def gN:Sp:=λ vs H Q _=>∃ (m n:Nat) (td:Addr) (kvs:List (List Key×V)),vs=[.int (m:Int),.int (n:Int),.ref td]/\m<=17/\n<=17/\H td=some (.dT kvs)/\kvs.length≠m * n/\Q (.bl false) H
def gO (K:C1):Sp:=λ vs H Q _=>∃ (m n:Nat) (td:Addr) (ob:Obj) (rows:List (V×V)) (qs:List (Option (List Int)×V)),vs=[.int (m:Int),.int (n:Int),.ref td]/\m<=17/\n<=17/\H td=some (.ext (FixD td ob rows))/\RowsV K H rows qs/\qs.length<=300/\∀H',Same H H'->Q (.bl (decide (qs.length=m * n) && qs.all (dz m n))) H'
theorem sccplateX:FnScope ["wide","high"] ["wide","high"] (defScope bU):=⟨Y,Y,Y,∅,Y,∅,∅⟩
theorem kB {f NP:Addr} {fd:FD} (F:Fun K "check_plate" "check_plate" bU f fd) (mP:mg "NoPlate" = ↑NP) (eP:ExcC K NP) (DW:Dn P w K mg base "is_whole" ["thing","least"] 1 (bq K)):FnOk P w K mg base (CXx P w) 2 f fd ["wide","high"] (mw K NP):=by
 refine F.okX sccplateX (λ vs H Q E h=>?_) (λ cdv A outer s H vs Q E hr h=>?_)
 ·obtain ⟨wv,hv,rfl,_⟩:=h
  rfl
 obtain ⟨wv,hv,rfl,⟨Tw,tw⟩,⟨Th,th⟩,qe,q⟩:=h;have nd:=sccplateX.nd;refine ⟨_,(@ai _ _ _ ((PW.pt (bR (@aT _ _ _ _ (@aO _ _ _ (DW∪((pv 0)^^^(af^^^ad))) (by intro _; rfl))) (bu (@aT _ _ _ _ (@aO _ _ _ (DW∪((pv 1)^^^(af^^^ad))) (by intro _; rfl))))))<|>(@ai _ _ _ (gt (R:=λ c H=>E c none H) Y Y mP eP (eY^^^ad) ek))<|>ay)),?_⟩;refine ⟨_,Y,wv,_,1,Y,tw,_,Y,?_⟩;cases hw:aA wv 1 with
 | false=>exact aP (aP ⟨zS1,qe (by rw [hw]; rfl)⟩)
 | true =>
  refine aD ⟨_,rfl,hv,_,1,rfl,th,_,rfl,?_⟩;cases hh:aA hv 1 with
  | false=>exact aP ⟨zS1,qe (by rw [hw,hh]; rfl)⟩
  | true=>exact aD (q (by rw [hw,hh]; rfl))
theorem sccsidesX:FnScope ["wide","high","most"] ["wide","high","most"] (defScope bV):=⟨Y,Y,Y,∅,Y,∅,∅⟩
theorem kC {f TL:Addr} {fd:FD} (F:Fun K "check_sides" "check_sides" bV f fd) (mT:mg "TooLarge" = ↑TL) (eT:ExcC K TL):FnOk P w K mg base (CXx P w) 1 f fd ["wide","high","most"] (mx TL):=by
 refine F.okX sccsidesX (λ vs H Q E h=>?_) (λ cdv A outer s H vs Q E hr h=>?_)
 ·obtain ⟨w1,h1,rfl,_⟩:=h
  rfl
 obtain ⟨w1,h1,rfl,qe,q⟩:=h;have nd:=sccsidesX.nd;refine ⟨_,(@ai _ _ _ ((PW.pt (bR ((pv 0)<*>dQ<*>(pv 2)) (bu ((pv 1)<*>dQ<*>(pv 2)))))<|>(@ai _ _ _ (gt (R:=λ c H=>E c none H) Y Y mT eT ((mX (uj (uk (pv 2) ui)))^^^ad) ek))<|>ay)),?_⟩;have sz:(1000:Nat)<=sizeLine:=∅
 have ra:(16 < w1\/16 < h1)->oU (λ c H=>E c none H) TL (oE (λ σ H Q=>tJC "a side of the plate is above " (tJF (tVar 2) (λ _ H out Q=>out.length<=sizeLine/\Q out H)) σ H Str.empty λ z H'=>Q (.str z) H') jc) { nx:=λ x H'=>Q V.non H', rt:=Q } [⇑w1, ⇑h1, ⇑16] H:=λ z =>
  ⟨∅,_,rfl,_,.inl ⟨16,rfl,∅,rfl⟩,∅,∅,zS1,qe z⟩
 refine ⟨_,Y,_,Y,_,_,Y,Y,_,Y,?_⟩
 by_cases c1:16 < w1
 ·rw [decide_eq_true c1];exact aP (aP (ra (.inl c1)))
 ·rw [decide_eq_false c1];refine aD ⟨_,rfl,_,rfl,_,_,rfl,rfl,_,rfl,?_⟩
  by_cases c2:16 < h1
  ·rw [decide_eq_true c2];exact aP (ra (.inr c2))
  ·rw [decide_eq_false c2];exact aD (q ⋯ ⋯)
theorem scbestX:FnScope ["shop","wide","high","blade","table","steps","part","worth","step","plate"] ["shop","wide","high"] (defScope dM):=⟨Y,Y,Y,∅,Y,∅,∅⟩
theorem qj {f NP TL:Addr} {fd:FD} (F:Fun K "best_of" "best_of" dM f fd) (ms:∃t,mg "MOST_SIDE" = some (.int 16 t)) (DCP:DnX P w K mg base "check_plate" ["wide","high"] 2 (mw K NP)) (DCS:DnX P w K mg base "check_sides" ["wide","high","most"] 1 (mx TL)):FnOk P w K mg base (CXx P w) 3 f fd ["shop","wide","high"] (iU K NP TL):=by
 refine F.okX scbestX (λ vs H Q E h=>?_) (λ cdv A outer s H vs Q E hr h=>?_)
 ·obtain ⟨s,wv,hv,rfl,_⟩:=h
  rfl
 obtain ⟨s,wv,hv,rfl,⟨_,tw⟩,⟨_,th⟩,cs⟩:=h;have nd:=scbestX.nd;obtain ⟨tms,hms⟩:=ms;refine ⟨_,((@bI _ _ _ _ (fU (fm DCP (hr.mono ∅) Y ((pv 1)^^^((pv 2)^^^ad)))) Y)<<<((@bI _ _ _ _ (fU (fm DCS (hr.mono ∅) Y ((pv 1)^^^((pv 2)^^^((aJ (v:=.int 16) Y hms ⟨tms,Y⟩)^^^ad))))) Y)<<<(bB<<<(bB<<<(bB<<<(bB<<<(bB>>>bB))))))),?_⟩;rcases cs with ⟨bad,e⟩ | ⟨w1,h1,rfl,rfl,w0,h0,cs⟩
 ·refine am (λ σ' H'=>False) (λ R hR=>?_) (λ _ _ z=>z.elim);exact ⟨_,Y,_,Y,wv,hv,Y,⟨_,tw⟩,⟨_,th⟩,λ _=>e,λ g=>by rw [bad] at g; cases g⟩
 have gw:(aA (.int w1) 1 && aA (.int h1) 1)=true:=by rw [show aA (.int w1) 1=true from decide_eq_true w0,show aA (.int h1) 1=true from decide_eq_true h0]; rfl
 refine am (λ σ' H'=>σ'=[↑s,⇑w1,⇑h1,none,none,none,none,none,none,none]/\H=H') (λ R hR=>?_) ?_
 ·exact ⟨_,Y,_,Y,.int w1,.int h1,Y,⟨_,Ty.int⟩,⟨_,Ty.int⟩,(λ z=>by rw [gw] at z; cases z),λ _=>hR _ _ ⟨Y,Y⟩⟩
 rintro _ _ ⟨rfl,rfl⟩;obtain ⟨big,e⟩:=cs;refine am (λ σ' H'=>False) (λ R hR=>?_) (λ _ _ z=>z.elim);exact ⟨_,Y,_,Y,w1,h1,Y,λ _=>e,λ a b=>⋯⟩
theorem sciskeyG:FnScope ["wide","high","thing","a","b"] ["wide","high","thing"] (defScope fu):=⟨Y,Y,Y,∅,Y,∅,∅⟩
theorem nJ {f:Addr} {fd:FD} (F:Fun K "is_key" "is_key" fu f fd) (B:Blt mg) (DW:Dn P w K mg base "is_whole" ["thing","least"] 1 (bq K)):FnOk P w K mg base CX0 2 f fd ["wide","high","thing"] (dA):=by
 refine F.ok sciskeyG (λ vs H Q E h=>?_) (λ cdv A outer s H vs Q E hr h=>?_)
 ·obtain ⟨m,n,v,k,rfl,_⟩:=h
  rfl
 obtain ⟨m,n,v,k,rfl,hk,q⟩:=h;have nd:=sciskeyG.nd;refine ⟨_,(((PW.pt (bR (@aT _ _ _ _ (@aO _ _ _ (@av _ _ _ _ _ _ _ _ _ be Y B.isi PyProof.Rows.boot_isinstance ((pv 2)^^^((bO (v:=.ty "tuple") Y B.tuple PyProof.Rows.boot_tuple Y)^^^ad)) ∅ ∅ Y Y) (by intro _; rfl))) (bu ((@av _ _ _ _ _ _ _ _ _ bK Y B.len PySem.boot_len ((pv 2)^^^ad) ∅ ∅ Y Y)<*>fF<*>af))))<|>(bp⁻¹)<|>ay)<<<((@cz _ _ _ _ _ _ (pv 2) (bQ Y (3•(4•bn))) Y Y Y)<<<((bA (DW∪((pv 3)^^^(af^^^ad))) (bA (DW∪((pv 4)^^^(af^^^ad))) (bA (@bJ _ _ _ _ _ _ _ _ fG (pv 3) (pv 0) (aw _)) (cj (@bJ _ _ _ _ _ _ _ _ fG (pv 4) (pv 1) (aw _))))))⁻¹))),?_⟩;rcases hk with ⟨rfl,z,rfl⟩ | ⟨t,is,rfl,rfl,i9,ht⟩
 ·refine am (λ σ' H'=>False) (λ R hR=>?_) (λ _ _ z=>z.elim);exact ⟨_,Y,_,_,_,_,_,Y,.str _,Y,si,_,Y,aP (aP q)⟩
 by_cases h2:is.length=2
 ·match is,h2 with
  | [a,b],_ =>
   have ht:H t= ~~~[.int a,.int b]:=ht;refine am (λ σ' H'=>σ'=[⇑(m:Int),⇑(n:Int),↑t,none,none]/\H=H') (λ R hR=>?_) ?_
   ·exact ⟨_,Y,_,_,_,_,_,Y,.tup ht,Y,mt,_,Y,aD ⟨_,Y,t,_,Y,.inr (FH ht),Y,_,Y,aD (hR _ _ ⟨Y,Y⟩)⟩⟩
   rintro _ _ ⟨rfl,rfl⟩;refine am (λ σ' H'=>σ'=[⇑(m:Int),⇑(n:Int),↑t,⇑a,⇑b]/\H=H') (λ R hR=>?_) ?_
   ·exact ⟨_,Y,t,_,Y,FH ht,Y,_,_,Y,_,_,Y,Y,hR _ _ ⟨Y,Y⟩⟩
   rintro _ _ ⟨rfl,rfl⟩;dsimp only [iT] at q;refine ⟨_,Y,.int a,"int",1,Y,Ty.int,_,Y,?_⟩;rw [show aA (.int a) 1=decide (1<=a) from rfl];cases c1:decide (1<=a) with
   | false=>rw [c1] at q; exact aD q
   | true =>
    rw [c1] at q;refine aP ⟨_,rfl,.int b,"int",1,rfl,Ty.int,_,rfl,?_⟩;rw [show aA (.int b) 1=decide (1<=b) from rfl];cases c2:decide (1<=b) with
    | false=>rw [c2] at q; exact aD q
    | true =>
     rw [c2] at q;refine aP ⟨_,rfl,_,rfl,_,_,rfl,rfl,_,rfl,?_⟩;cases c3:decide (a<=(m:Int)) with
     | false=>rw [c3] at q; exact aD q
     | true =>
      rw [c3] at q;refine aP ⟨_,rfl,_,rfl,_,_,rfl,rfl,?_⟩;exact q
 ·have q:Q (.bl false) H:=by
   have:iT m n (some is)=false:=by
    unfold iT
    split
    ·rename_i e; cases e; exact absurd rfl h2
    ·rfl
   rw [this] at q; exact q
  refine am (λ σ' H'=>False) (λ R hR=>?_) (λ _ _ z=>z.elim);refine ⟨_,Y,_,_,_,_,_,Y,.tup ht,Y,mt,_,Y,aD ⟨_,Y,t,_,Y,.inr (FH ht),Y,_,Y,?_⟩⟩;rw [show (!decide (V.int ((is.map V.int).length:Int)=V.int 2))=true by rw [List.length_map,decide_eq_false (λ z=>h2 (by injection z with z; omega))]; rfl];exact aP q
theorem scistabN:FnScope ["wide","high","thing"] ["wide","high","thing"] (defScope bf):=⟨Y,Y,Y,∅,Y,∅,∅⟩
theorem nL {f:Addr} {fd:FD} (F:Fun K "is_table" "is_table" bf f fd) (B:Blt mg) (hdc:mg "dict" = none) (DW:Dn P w K mg base "is_whole" ["thing","least"] 1 (bq K)) (DK:Dn P w K mg base "is_key" ["wide","high","thing"] 2 (dA)):FnOk P w K mg base CX0 3 f fd ["wide","high","thing"] (gM K):=by
 refine F.ok scistabN (λ vs H Q E h=>?_) (λ cdv A outer s H vs Q E hr h=>?_)
 ·obtain ⟨m,n,v,T,rfl,_⟩:=h
  rfl
 obtain ⟨m,n,v,T,rfl,ty,ne,q⟩:=h;have nd:=scistabN.nd;have hu:=hr.units;have hu1:=C3 (Nat.add_le_add_left (show 1<=64 by decide) _) hu;refine ⟨_,(((PW.pt (bR (@aT _ _ _ _ (@aO _ _ _ (@av _ _ _ _ _ _ _ _ _ be Y B.isi PyProof.Rows.boot_isinstance ((pv 2)^^^((bO (v:=.ty "dict") Y hdc PyProof.Rows.boot_dict Y)^^^ad)) ∅ ∅ Y Y) (by intro _; rfl))) (bu ((@av _ _ _ _ _ _ _ _ _ er Y B.len PySem.boot_len ((pv 2)^^^ad) ∅ ∅ Y Y)<*>fF<*>((pv 0)|||cS|||(pv 1))))))<|>(bp⁻¹)<|>ay)<<<((@av _ _ _ _ _ _ _ _ _ (cL Y) Y B.all PyProof.Rows.boot_all ((cg (own:=["key","number"]) (cs:=["wide","high"]) (cap:=[0,1]) Y (gG (pv 2)) (aX (sc:=defScope bf) (N:=["wide","high","thing"]) Y Y ∅) (λ _ _ _ _ _=>fq K Y Y (by show List.Nodup (["key","number","wide","high"]:List Str) ; decide +kernel) Y Y Y Y) (λ _ _ _ _ _=>bi) (λ _ _ _ _ _=>(bA (DK∪((pv 2)^^^((pv 3)^^^((pv 0)^^^ad)))) (cj (DW∩((pv 1)^^^(af^^^ad)))))))^^^ad) ∅ ∅ Y Y)⁻¹)),?_⟩;refine am (λ σ' H'=>False) (λ R hR=>?_) (λ _ _ z=>z.elim);exact ⟨_,Y,_,_,_,_,_,Y,ty.2,Y,uG ty ne,_,Y,aP (aP q)⟩
theorem scistabL:FnScope ["wide","high","thing"] ["wide","high","thing"] (defScope bf):=⟨Y,Y,Y,∅,Y,∅,∅⟩
theorem nM {f:Addr} {fd:FD} (F:Fun K "is_table" "is_table" bf f fd) (B:Blt mg) (hdc:mg "dict" = none) (DW:Dn P w K mg base "is_whole" ["thing","least"] 1 (bq K)) (DK:Dn P w K mg base "is_key" ["wide","high","thing"] 2 (dA)):FnOk P w K mg base CX0 3 f fd ["wide","high","thing"] (gN):=by
 refine F.ok scistabL (λ vs H Q E h=>?_) (λ cdv A outer s H vs Q E hr h=>?_)
 ·obtain ⟨m,n,td,kvs,rfl,_⟩:=h
  rfl
 obtain ⟨m,n,td,kvs,rfl,m17,n17,htd,ne,q⟩:=h;have nd:=scistabL.nd;have hu:=hr.units;have hu1:=C3 (Nat.add_le_add_left (show 1<=64 by decide) _) hu;refine ⟨_,(((PW.pt (bR (@aT _ _ _ _ (@aO _ _ _ (@av _ _ _ _ _ _ _ _ _ be Y B.isi PyProof.Rows.boot_isinstance ((pv 2)^^^((bO (v:=.ty "dict") Y hdc PyProof.Rows.boot_dict Y)^^^ad)) ∅ ∅ Y Y) (by intro _; rfl))) (bu ((@av _ _ _ _ _ _ _ _ _ er Y B.len PySem.boot_len ((pv 2)^^^ad) ∅ ∅ Y Y)<*>fF<*>((pv 0)|||cS|||(pv 1))))))<|>(bp⁻¹)<|>ay)<<<((@av _ _ _ _ _ _ _ _ _ (cL Y) Y B.all PyProof.Rows.boot_all ((cg (own:=["key","number"]) (cs:=["wide","high"]) (cap:=[0,1]) Y (gG (pv 2)) (aX (sc:=defScope bf) (N:=["wide","high","thing"]) Y Y ∅) (λ _ _ _ _ _=>fq K Y Y (by show List.Nodup (["key","number","wide","high"]:List Str) ; decide +kernel) Y Y Y Y) (λ _ _ _ _ _=>bi) (λ _ _ _ _ _=>(bA (DK∪((pv 2)^^^((pv 3)^^^((pv 0)^^^ad)))) (cj (DW∩((pv 1)^^^(af^^^ad)))))))^^^ad) ∅ ∅ Y Y)⁻¹)),?_⟩;have z4:4096<=sizeLine:=∅
 have mn:m * n<=289:=Nat.mul_le_mul m17 n17;refine am (λ σ' H'=>False) (λ R hR=>?_) (λ _ _ z=>z.elim);refine ⟨_,Y,_,_,_,_,_,Y,.dT htd,Y,iR,_,Y,aD ?_⟩;refine ⟨_,Y,td,_,Y,htd,_,Y,_,Y,_,_,Y,Y,.inl ⟨⋯,⋯⟩,Y,_,Y,?_⟩;rw [show (!decide (V.int ((kvs.length:Nat):Int)=V.int ((m:Int) * (n:Int))))=true by rw [decide_eq_false (λ z=>by injection z with z; exact ne (by rw [<- Int.natCast_mul] at z; omega))]; rfl];exact aP q
theorem scistabX:FnScope ["wide","high","thing"] ["wide","high","thing"] (defScope bf):=⟨Y,Y,Y,∅,Y,∅,∅⟩
theorem nN {f:Addr} {fd:FD} (F:Fun K "is_table" "is_table" bf f fd) (B:Blt mg) (hdc:mg "dict" = none) (DW:Dn P w K mg base "is_whole" ["thing","least"] 1 (bq K)) (DK:Dn P w K mg base "is_key" ["wide","high","thing"] 2 (dA)):FnOk P w K mg base CX0 3 f fd ["wide","high","thing"] (gO K):=by
 refine F.ok scistabX (λ vs H Q E h=>?_) (λ cdv A outer s H vs Q E hr h=>?_)
 ·obtain ⟨m,n,td,ob,rows,qs,rfl,_⟩:=h
  rfl
 obtain ⟨m,n,td,ob,rows,qs,rfl,m17,n17,htd,rv,z300,q⟩:=h;have nd:=scistabX.nd;have hu:=hr.units;have hu1:=C3 (Nat.add_le_add_left (show 1<=64 by decide) _) hu;refine ⟨_,(((PW.pt (bR (@aT _ _ _ _ (@aO _ _ _ (@av _ _ _ _ _ _ _ _ _ be Y B.isi PyProof.Rows.boot_isinstance ((pv 2)^^^((bO (v:=.ty "dict") Y hdc PyProof.Rows.boot_dict Y)^^^ad)) ∅ ∅ Y Y) (by intro _; rfl))) (bu ((@av _ _ _ _ _ _ _ _ _ nq Y B.len PySem.boot_len ((pv 2)^^^ad) ∅ ∅ Y Y)<*>fF<*>((pv 0)|||cS|||(pv 1))))))<|>(bp⁻¹)<|>ay)<<<((@av _ _ _ _ _ _ _ _ _ (cL Y) Y B.all PyProof.Rows.boot_all ((cg (own:=["key","number"]) (cs:=["wide","high"]) (cap:=[0,1]) Y (nr (pv 2)) (aX (sc:=defScope bf) (N:=["wide","high","thing"]) Y Y ∅) (λ _ _ _ _ _=>fq K Y Y (by show List.Nodup (["key","number","wide","high"]:List Str) ; decide +kernel) Y Y Y Y) (λ _ _ _ _ _=>bi) (λ _ _ _ _ _=>(bA (DK∪((pv 2)^^^((pv 3)^^^((pv 0)^^^ad)))) (cj (DW∩((pv 1)^^^(af^^^ad)))))))^^^ad) ∅ ∅ Y Y)⁻¹)),?_⟩;have z4:4096<=sizeLine:=∅
 have mn:m * n<=289:=Nat.mul_le_mul m17 n17;have rl:=rv.len
 by_cases ne:qs.length=m * n
 ·rw [decide_eq_true ne,Bool.true_and] at q;refine am (λ σ' H'=>σ'=[⇑(m:Int),⇑(n:Int),↑td]/\H=H') (λ R hR=>?_) ?_
  ·refine ⟨_,Y,_,_,_,_,_,Y,.ext htd FixD.cls,Y,iR,_,Y,aD ?_⟩;refine ⟨_,Y,td,ob,rows,Y,htd,_,Y,_,Y,_,_,Y,Y,.inl ⟨⋯,⋯⟩,Y,_,Y,?_⟩;rw [rl,ne,show (!decide (V.int ((m * n:Nat):Int)=V.int ((m:Int) * (n:Int))))=false by rw [decide_eq_true (by rw [Int.natCast_mul])]; rfl];exact aD (hR _ _ ⟨rfl,rfl⟩)
  rintro _ _ ⟨rfl,rfl⟩;refine ⟨_,Y,td,ob,rows,Y,htd,?_⟩;refine jw (a:=td) (ob:=ob) (rows:=rows) (λ i us Hx=>us=((qs.take i).map (dz m n)).map V.bl/\Same H Hx) ⟨rfl,Same.refl _⟩ (λ i us Hx _ ⟨_,sx⟩=>sx _ _ htd) ?_ ?_ ?_
  ·rintro i kk v pa us Hx hkv hpa ⟨rfl,sx⟩;obtain ⟨k,T,hq,hk,ty⟩:=rv.get hkv;have il:=(A3.mp hkv).1;obtain ⟨Hy,e1,k1,s1⟩:∃H',upd Hx pa (.tup [kk,v])=H'/\H' pa= ~~~[kk,v]/\Same Hx H':=⟨_,Y,ae,FG hpa⟩
   rw [show upd Hx pa _=Hy from e1];have sy:=sx.trans s1;refine ⟨pa,_,Y,FH k1,Y,_,_,Y,_,_,Y,Y,rQ (leS.set rfl) (leS.set rfl),bE ?_⟩;refine ⟨_,Y,_,Y,_,Y,m,n,kk,k,Y,hk.same sy,_,Y,?_⟩;have nx:Nx rows.length (λ i us Hx=>us=((qs.take i).map (dz m n)).map V.bl/\Same H Hx) i (((qs.take i).map (dz m n)).map V.bl ++ [.bl (dz m n (k,v))]) Hy:=Nx.of il ⟨by rw [List.take_add_one,hq,List.map_append,List.map_append]; rfl,sy⟩;unfold dz at nx;dsimp only at nx;cases c1:iT m n k with
   | false=>rw [c1] at nx; exact aD nx
   | true =>
    rw [c1] at nx;exact aP ⟨_,rfl,v,T,0,rfl,Ty.same sy ty,nx⟩
  ·rintro i us Hx il ⟨rfl,sx⟩;rw [List.length_map,List.length_map,List.length_take]; omega
  ·rintro us Hx ⟨rfl,sx⟩;rw [rl,List.take_length,List.length_map,List.length_map];refine ⟨⋯,λ l hl=>⟨l,qs.map (dz m n),Y,FI ae,?_⟩⟩;rw [List.all_map];exact q _ (sx.trans (FG hl))
 ·rw [decide_eq_false ne,Bool.false_and] at q;refine am (λ σ' H'=>False) (λ R hR=>?_) (λ _ _ z=>z.elim);refine ⟨_,Y,_,_,_,_,_,Y,.ext htd FixD.cls,Y,iR,_,Y,aD ?_⟩;refine ⟨_,Y,td,ob,rows,Y,htd,_,Y,_,Y,_,_,Y,Y,.inl ⟨⋯,⋯⟩,Y,_,Y,?_⟩;rw [rl];rw [show (!decide (V.int ((qs.length:Nat):Int)=V.int ((m:Int) * (n:Int))))=true by rw [decide_eq_false (λ z=>by injection z with z; exact ne (by rw [<- Int.natCast_mul] at z; omega))]; rfl];exact aP (q _ (Same.refl _))
theorem scbearsX:FnScope ["shop","wide","high","table"] ["shop","wide","high","table"] (defScope eA):=⟨Y,Y,Y,∅,Y,∅,∅⟩
theorem nO {f NP TL NB:Addr} {fd:FD} (F:Fun K "bears" "bears" eA f fd) (ms:∃t,mg "MOST_SIDE" = some (.int 16 t)) (mN:mg "NoTable" = ↑NB) (eN:ExcC K NB) (DCP:DnX P w K mg base "check_plate" ["wide","high"] 2 (mw K NP)) (DCS:DnX P w K mg base "check_sides" ["wide","high","most"] 1 (mx TL)) (DIT:Dn P w K mg base "is_table" ["wide","high","thing"] 3 (λ vs H Q E=>gM K vs H Q E\/(gN vs H Q E\/gO K vs H Q E))):FnOk P w K mg base (CXx P w) 7 f fd ["shop","wide","high","table"] (gL K NP TL NB):=by
 refine F.okX scbearsX (λ vs H Q E h=>?_) (λ cdv A outer s H vs Q E hr h=>?_)
 ·obtain ⟨s,wv,hv,v,rfl,_⟩:=h
  rfl
 obtain ⟨s,wv,hv,v,rfl,⟨_,tw⟩,⟨_,th⟩,cs⟩:=h;have nd:=scbearsX.nd;obtain ⟨tms,hms⟩:=ms;refine ⟨_,((@bI _ _ _ _ (fU (fm DCP (hr.mono ∅) Y ((pv 1)^^^((pv 2)^^^ad)))) Y)<<<((@bI _ _ _ _ (fU (fm DCS (hr.mono ∅) Y ((pv 1)^^^((pv 2)^^^((aJ (v:=.int 16) Y hms ⟨tms,Y⟩)^^^ad))))) Y)<<<(((@aT _ _ _ _ (@aO _ _ _ (DIT∩((pv 1)^^^((pv 2)^^^((pv 3)^^^ad)))) (by intro _; rfl)))<|>(@ai _ _ _ (gt (R:=λ c H=>E c none H) Y Y mN eN (eY^^^ad) ek))<|>ay)>>>bB))),?_⟩;rcases cs with ⟨bad,e⟩ | ⟨w1,h1,rfl,rfl,w0,h0,cs⟩
 ·refine am (λ σ' H'=>False) (λ R hR=>?_) (λ _ _ z=>z.elim);exact ⟨_,Y,_,Y,wv,hv,Y,⟨_,tw⟩,⟨_,th⟩,λ _=>e,λ g=>by rw [bad] at g; cases g⟩
 have gw:(aA (.int w1) 1 && aA (.int h1) 1)=true:=by rw [show aA (.int w1) 1=true from decide_eq_true w0,show aA (.int h1) 1=true from decide_eq_true h0]; rfl
 refine am (λ σ' H'=>σ'=[↑s,⇑w1,⇑h1,some v]/\H=H') (λ R hR=>?_) ?_
 ·exact ⟨_,Y,_,Y,.int w1,.int h1,Y,⟨_,Ty.int⟩,⟨_,Ty.int⟩,(λ z=>by rw [gw] at z; cases z),λ _=>hR _ _ ⟨Y,Y⟩⟩
 rintro _ _ ⟨rfl,rfl⟩;rcases cs with ⟨big,e⟩ | ⟨m,n,rfl,rfl,m16,n16,nt,e⟩
 ·refine am (λ σ' H'=>False) (λ R hR=>?_) (λ _ _ z=>z.elim);exact ⟨_,Y,_,Y,w1,h1,Y,λ _=>e,λ a b=>⋯⟩
 refine am (λ σ' H'=>σ'=[↑s,⇑(m:Int),⇑(n:Int),some v]/\H=H') (λ R hR=>?_) ?_
 ·exact ⟨_,Y,_,Y,m,n,Y,(λ z=>⋯),λ _ _=>hR _ _ ⟨Y,Y⟩⟩
 rintro _ _ ⟨rfl,rfl⟩;refine am (λ σ' H'=>False) (λ R hR=>?_) (λ _ _ z=>z.elim);refine ⟨_,Y,_,Y,_,Y,?_⟩;dsimp only [jc];rcases nt with ⟨T,ty,ne⟩ | ⟨td,kvs,rfl,htd,ne⟩ | ⟨td,ob,rows,qs,rfl,htd,rv,z3,al⟩
 ·exact .inl ⟨m,n,v,T,Y,ty,ne,_,Y,aP ⟨zS1,e _ (Same.refl _)⟩⟩
 ·exact .inr (.inl ⟨m,n,td,kvs,Y,⋯,⋯,htd,ne,_,Y,aP ⟨zS1,e _ (Same.refl _)⟩⟩)
 ·refine .inr (.inr ⟨m,n,td,ob,rows,qs,Y,⋯,⋯,htd,rv,z3,λ H' sh=>⟨_,Y,?_⟩⟩);rw [show (decide (qs.length=m * n) && qs.all (dz m n))=false by by_cases h:qs.length=m * n; rw [al h,Bool.and_false]; rw [decide_eq_false h,Bool.false_and]];exact aP ⟨zS1,e _ sh⟩
end
section
variable {P:FC} {w:FE} {K:C1} {mg:Str->Option FF} {base:Heap}
def eU:Sp:=λ vs H Q _=>∃ (p:Addr) (m:Int),vs=[.ref p,.int m]/\PotB H p/\0 < m/\m<=10 ^ 60/\∀ (r:Int) (H':Hp),0<=r->r < m->PotB H' p->But p H H'->Q (.int r) H'
def Cv:Sp:=λ vs H Q _=>∃ (p:Addr),vs=[.ref p]/\PotB H p/\∀ (r:Int) (H':Hp),1<=r->r < 10 ^ 60->PotB H' p->But p H H'->Q (.int r) H'
theorem scpot:FnScope ["_law_cell"] ["_law_cell"] (defScope rJ):=⟨Y,Y,Y,∅,Y,∅,∅⟩
theorem uH {f:Addr} {fd:FD} (F:Fun K "_law_pot" "_law_pot" rJ f fd) (B:Blt mg):FnOk P w K mg base CX0 1 f fd ["_law_cell"] (jZ):=by
 refine F.ok scpot (λ vs H Q E h=>?_) (λ cdv A outer s H vs Q E hr h=>?_)
 ·obtain ⟨c,rfl,_⟩:=h
  rfl
 obtain ⟨c,rfl,q⟩:=h;have nd:=scpot.nd;refine ⟨_,((@aV _ _ _ _ ((@av _ _ _ _ _ _ _ _ _ (mG Y) Y B.max PyProof.Rows.boot_max (af^^^(((pv 0)|||cR|||(af|||gi|||af))^^^ad)) ∅ ∅ Y Y)^^^((((@av _ _ _ _ _ _ _ _ _ oz Y B.abs PyProof.Rows.boot_abs ((pv 0)^^^ad) ∅ ∅ Y Y)|||fe|||af)|||bh|||af)^^^ad)))⁻¹),?_⟩;refine ⟨_,Y,_,_,Y,Y,⟨∅,∅,∅⟩,_,_,Y,Y,_,_,Y,_,Y,_,Y,_,_,Y,Y,(by show (0:Int) < 2147483629; decide),_,_,Y,Y,zS2,λ p hp=>?_⟩;refine q p _ hp ⟨_,_,?_,?_,?_,ae⟩ (FG hp)
 ·split <;> omega
 ·have:=Int.emod_nonneg (if c < 0 then -c else c) (show (2147483629:Int)≠0 by decide);omega
 ·have:=Int.emod_lt_of_pos (if c < 0 then -c else c) (show (0:Int) < 2147483629 by decide);omega
theorem scdraw:FnScope ["_law_pot_here","_law_many","_law_number"] ["_law_pot_here","_law_many"] (defScope lX):=⟨Y,Y,Y,∅,Y,∅,∅⟩
theorem sj {f:Addr} {fd:FD} (F:Fun K "_law_draw" "_law_draw" lX f fd) (B:Blt mg):FnOk P w K mg base CX0 1 f fd ["_law_pot_here","_law_many"] (dH):=by
 refine F.ok scdraw (λ vs H Q E h=>?_) (λ cdv A outer s H vs Q E hr h=>?_)
 ·obtain ⟨p,m,rfl,_⟩:=h
  rfl
 obtain ⟨p,m,rfl,⟨a,b,a0,b0,b1,hp⟩,m0,m1,q⟩:=h;have nd:=scdraw.nd;refine ⟨_,(((((pv 0)&&&aW&&&af)<*>dQ<*>af)<|>((2∣(((pv 0)&&&aW&&&af)|||fe|||(pv 1)))<<<((@cz _ _ _ _ _ _ (((pv 0)&&&aW&&&af)|||jg|||(pv 1)) (ou (pv 0) af je) Y Y Y)<<<((pv 2)⁻¹)))<|>ay)<<<((@cz _ _ _ _ _ _ ((((pv 0)&&&aW&&&af)|||cS|||af)|||fe|||af) (ou (pv 0) af je) Y Y Y)<<<(((((((pv 0)&&&aW&&&af)|||cS|||((pv 0)&&&aW&&&af))|||fe|||af)|||jg|||af)|||fe|||(pv 1))⁻¹))),?_⟩;have at0:atI [V.int a,V.int b] 0=⇑a:=rfl;have at1:atI [V.int a,V.int b] 1=⇑b:=rfl;refine ⟨_,Y,p,_,_,_,Y,Y,FI hp,at0,_,_,Y,Y,_,Y,?_⟩;refine fL (λ c=>?_) (λ c=>?_)
 ·have c':0 < a:=B7 c;refine ⟨_,Y,p,_,_,_,Y,Y,FI hp,at0,_,Y,_,_,Y,Y,m0,?_⟩;refine ⟨_,Y,p,_,_,_,Y,Y,FI hp,at0,_,Y,_,_,Y,Y,⟨m0,m1⟩,_,Y,p,_,_,_,Y,Y,hp,Y,?_⟩;refine ⟨_,Y,q _ _ (Int.emod_nonneg _ ⋯) (Int.emod_lt_of_pos _ m0) ⟨a / m,b,Int.ediv_nonneg a0 ⋯,b0,b1,ae⟩ But.upd⟩
 ·refine ⟨_,Y,p,_,_,_,Y,Y,FI hp,at1,_,_,Y,Y,.inr ⟨∅,∅⟩,_,_,Y,Y,(by show (0:Int) < 2147483647; decide),_,Y,p,_,_,_,Y,Y,hp,Y,?_⟩;have n0:0<=(b * 48271) % 2147483647:=Int.emod_nonneg _ ∅;have n1:(b * 48271) % 2147483647 < 2147483647:=Int.emod_lt_of_pos _ ∅;refine ⟨_,Y,p,_,_,_,Y,Y,FI ae,Y,_,Y,p,_,_,_,Y,Y,FI ae,Y,_,_,Y,Y,.inl ⟨⋯,⋯⟩,_,_,Y,Y,(by show (0:Int) < 2147483629; decide),_,_,Y,Y,⟨∅,∅⟩,_,Y,_,_,Y,Y,m0,?_⟩;exact q _ _ (Int.emod_nonneg _ ⋯) (Int.emod_lt_of_pos _ m0) ⟨a,_,a0,n0,⋯,ae⟩ But.upd
theorem scgreatm:FnScope ["_law_pot_here","_law_many","_law_found","_law_k"] ["_law_pot_here","_law_many"] (defScope iO):=⟨Y,Y,Y,∅,Y,∅,∅⟩
theorem nP {f:Addr} {fd:FD} (F:Fun K "_law_great" "_law_great" iO f fd) (B:Blt mg) (DD:Dn P w K mg base "_law_draw" ["_law_pot_here","_law_many"] 1 (dH)):FnOk P w K mg base CX0 2 f fd ["_law_pot_here","_law_many"] (eU):=by
 refine F.ok scgreatm (λ vs H Q E h=>?_) (λ cdv A outer s H vs Q E hr h=>?_)
 ·obtain ⟨p,m,rfl,_⟩:=h
  rfl
 obtain ⟨p,m,rfl,pt,m0,m1,q⟩:=h;have nd:=scgreatm.nd;refine ⟨_,(((((pv 0)&&&aW&&&af)<*>dQ<*>af)<|>((DD∪((pv 0)^^^((pv 1)^^^ad)))⁻¹)<|>ay)<<<((2∣af)<<<((@bX _ _ _ _ _ _ _ _ C7 Y (fc Y B.range (af^^^ad)) (ap (i:=3) nd Y (Or.inl Y)) (@ai _ _ _ (2∣(((pv 2)|||cS|||af)|||bh|||(DD∪((pv 0)^^^(af^^^ad)))))) (by intro _; rfl))<<<(((pv 2)|||fe|||(pv 1))⁻¹)))),?_⟩;obtain ⟨a,b,a0,b0,b1,hp⟩:=id pt;have at0:atI [V.int a,V.int b] 0=⇑a:=rfl;refine am (λ σ' H'=>σ'=[↑p,⇑m,none,none]/\H=H') (λ R hR=>?_) ?_
 ·refine ⟨_,Y,p,_,_,_,Y,Y,FI hp,at0,_,_,Y,Y,_,Y,?_⟩;refine fL (λ c=>?_) (λ c=>?_)
  ·exact ⟨_,Y,_,Y,p,m,Y,pt,m0,m1,λ r H1 r0 r1 pt1 b1'=>q r H1 r0 r1 pt1 b1'⟩
  ·exact hR _ _ ⟨rfl,rfl⟩
 rintro _ _ ⟨rfl,rfl⟩;refine am (λ σ' H'=>σ'=[↑p,⇑m,⇑0,none]/\H=H') (λ R hR=>hR _ _ ⟨rfl,rfl⟩) ?_;rintro _ _ ⟨rfl,rfl⟩;refine am (λ σ' H'=>∃ (f:Int) (v3:Option V),σ'=[↑p,⇑m,⇑f,v3]/\PotB H' p/\But p H H') (λ R hR=>?_) ?_
 ·refine ⟨_,Y,∅,∅,dD (lo:=0) (n:=7) (λ i σ' H'=>∃ (f:Int) (v3:Option V),σ'=[↑p,⇑m,⇑f,v3]/\PotB H' p/\But p H H') ⟨0,none,Y,pt,λ _ _ _ e=>e⟩ ?_ (λ σ H1 ⟨f,v3,e,pt1,b1⟩=>hR _ _ ⟨f,v3,e,pt1,b1⟩)⟩;rintro i σ H1 hi ⟨f,v3,rfl,pt1,b1⟩;exact ⟨_,Y,_,_,Y,Y,.inr ⟨∅,∅⟩,_,Y,p,_,Y,pt1,∅,∅,λ r H2 r0 r1 pt2 b2=>⟨_,_,Y,Y,_,_,Y,pt2,b1.trans b2⟩⟩
 rintro _ H1 ⟨f,v3,rfl,pt1,b1⟩;exact ⟨_,Y,_,Y,_,_,Y,Y,m0,q _ _ (Int.emod_nonneg _ ⋯) (Int.emod_lt_of_pos _ m0) pt1 b1⟩
def jG (n:Int):List V:=[.bl true,.bl (decide (V.int 0=V.int n)),.bl (decide (V.int 1=V.int n)),.bl (decide (V.int 2=V.int n)),.bl false,.bl false]
def kD:Sp:=λ vs H Q _=>∃ (n:Int),vs=[.int n]/\∀ (l:Addr) (H':Hp),H l=none->H' l=↥(jG n)->Same H H'->Q (.ref l) H'
def Thg (p:Addr) (H:Hp) (x:V):Prop:=dR x=true\/∃a,x=.ref a/\a≠p/\((∃xs,H a=↥xs)\/(∃xs,H a= ~~~xs)\/∃kvs,H a=some (.dK kvs))
theorem Thg.but {p:Addr} {H H':Hp} {x:V} (h:Thg p H x) (b:But p H H'):Thg p H' x:=by
 rcases h with h | ⟨a,e,n,h⟩
 ·exact .inl h
 ·exact .inr ⟨a,e,n,h.imp (λ ⟨xs,h⟩=>⟨xs,b _ _ n h⟩) λ h=>h.imp (λ ⟨xs,h⟩=>⟨xs,b _ _ n h⟩) λ ⟨xs,h⟩=>⟨xs,b _ _ n h⟩⟩
def gP:Sp:=λ vs H Q _=>∃ (p:Addr),vs=[.ref p]/\PotB H p/\∀ (x:V) (H':Hp),Thg p H' x->aA x 1=false->PotB H' p->But p H H'->Q x H'
theorem scdue5:FnScope ["_law_which"] ["_law_which"] (defScope pE):=⟨Y,Y,Y,∅,Y,∅,∅⟩
theorem sk {f:Addr} {fd:FD} (F:Fun K "_law_due" "_law_due" pE f fd) (B:Blt mg):FnOk P w K mg base CX0 1 f fd ["_law_which"] (kD):=by
 refine F.ok scdue5 (λ vs H Q E h=>?_) (λ cdv A outer s H vs Q E hr h=>?_)
 ·obtain ⟨n,rfl,_⟩:=h
  rfl
 obtain ⟨n,rfl,q⟩:=h;have nd:=scdue5.nd;refine ⟨_,((((@aV _ _ _ _ (bp^^^ad))|||ix|||(cg (own:=["_law_k"]) (cs:=["_law_which"]) (cap:=[0]) Y (fc Y B.range (af^^^ad)) (aX (sc:=defScope pE) (N:=["_law_which"]) Y Y ∅) (λ _ _ _ _ _=>ap (i:=0) (by show List.Nodup (["_law_k","_law_which"]:List Str) ; decide +kernel) Y (Or.inl Y) (Or.inr Y)) (λ _ _ _ _ _=>bi) (λ _ _ _ _ _=>(@bJ _ _ _ _ _ _ _ _ cJ (pv 0) (pv 1) (aw _)))))|||ix|||(@aV _ _ _ _ (bp^^^(bp^^^ad))))⁻¹),?_⟩;have z4:4096<=sizeLine:=∅
 refine ⟨zS1,λ l1 h1=>?_⟩;obtain ⟨H1,e1,k1,s1⟩:∃H',upd H l1 (.lst [.bl true])=H'/\H' l1=↥[.bl true]/\Same H H':=⟨_,Y,ae,FG h1⟩
 rw [show upd H l1 _=H1 from e1];refine ⟨_,Y,∅,∅,?_⟩;refine gz (lo:=0) (n:=3) (λ i us Hx=>H1=Hx/\us=([V.bl (decide (V.int 0=V.int n)),.bl (decide (V.int 1=V.int n)),.bl (decide (V.int 2=V.int n))].take i)) ⟨rfl,rfl⟩ ?_ ?_
 ·rintro i us _ hi ⟨rfl,rfl⟩;refine ⟨by rw [List.length_take]; show min i 3 < _; omega,leS.set rfl,bE ?_⟩;refine ⟨_,Y,_,Y,Y,Nx.of hi ⟨Y,?_⟩⟩
  match i,hi with
  | 0,_=>rfl
  | 1,_=>rfl
  | 2,_=>rfl
 ·rintro us _ ⟨rfl,rfl⟩;refine ⟨zS3,λ l2 h2=>?_⟩;obtain ⟨H2,e2,k2,s2⟩:∃H',upd H1 l2 (.lst ([V.bl (decide (V.int 0=V.int n)),.bl (decide (V.int 1=V.int n)),.bl (decide (V.int 2=V.int n))].take 3))=H'/\H' l2=↥([V.bl (decide (V.int 0=V.int n)),.bl (decide (V.int 1=V.int n)),.bl (decide (V.int 2=V.int n))].take 3)/\Same H1 H':=⟨_,Y,ae,FG h2⟩
  rw [show upd H1 l2 _=H2 from e2];refine ⟨l1,l2,_,_,Y,Y,s2 _ _ k1,k2,zS4,λ l3 h3=>?_⟩;obtain ⟨H3,e3,k3,s3⟩:∃H',upd H2 l3 (.lst ([.bl true] ++ ([V.bl (decide (V.int 0=V.int n)),.bl (decide (V.int 1=V.int n)),.bl (decide (V.int 2=V.int n))].take 3)))=H'/\H' l3=↥([.bl true] ++ ([V.bl (decide (V.int 0=V.int n)),.bl (decide (V.int 1=V.int n)),.bl (decide (V.int 2=V.int n))].take 3))/\Same H2 H':=⟨_,Y,ae,FG h3⟩
  rw [show upd H2 l3 _=H3 from e3];refine ⟨zS2,λ l4 h4=>?_⟩;obtain ⟨H4,e4,k4,s4⟩:∃H',upd H3 l4 (.lst [.bl false,.bl false])=H'/\H' l4=↥[.bl false,.bl false]/\Same H3 H':=⟨_,Y,ae,FG h4⟩
  rw [show upd H3 l4 _=H4 from e4];refine ⟨l3,l4,_,_,Y,Y,s4 _ _ k3,k4,zS6,λ l5 h5=>?_⟩;have s05:=s1.trans (s2.trans (s3.trans s4));exact q l5 _ (s05.free h5) ae (s05.trans (FG h5))
theorem scnoside:FnScope ["_law_pot_here","_law_far","_law_some"] ["_law_pot_here"] (defScope fY):=⟨Y,Y,Y,∅,Y,∅,∅⟩
theorem nQ {f:Addr} {fd:FD} (F:Fun K "_law_no_side" "_law_no_side" fY f fd) (B:Blt mg) (DD:Dn P w K mg base "_law_draw" ["_law_pot_here","_law_many"] 1 (dH)) (DG:Dn P w K mg base "_law_great" ["_law_pot_here","_law_many"] 2 (eU)):FnOk P w K mg base CX0 3 f fd ["_law_pot_here"] (gP):=by
 refine F.ok scnoside (λ vs H Q E h=>?_) (λ cdv A outer s H vs Q E hr h=>?_)
 ·obtain ⟨p,rfl,_⟩:=h
  rfl
 obtain ⟨p,rfl,pt,q⟩:=h;have nd:=scnoside.nd;refine ⟨_,((1∣(DG∩((pv 0)^^^((af|||gi|||af)^^^ad))))<<<((2∣(@aV _ _ _ _ (af^^^(((@ow _ _ _ _ _ _ jJ af)|||cR|||(pv 1))^^^(bp^^^(bp^^^(dY^^^(eY^^^((@aV _ _ _ _ ((pv 1)^^^ad))^^^((@aF _ _ _ _ _ (af^^^ad))^^^((oZ af (pv 1))^^^(eY^^^ad))))))))))))<<<(((pv 2)&&&aW&&&(DD∩((pv 0)^^^((@av _ _ _ _ _ _ _ _ _ bK Y B.len PySem.boot_len ((pv 2)^^^ad) ∅ ∅ Y Y)^^^ad))))⁻¹))),?_⟩;refine am (λ σ' H'=>∃fa:Int,σ'=[↑p,⇑fa,none]/\0<=fa/\PotB H' p/\But p H H') (λ R hR=>?_) ?_
 ·exact ⟨_,Y,_,_,Y,Y,⟨∅,∅,∅⟩,p,_,Y,pt,(by show (0:Int) < 10 ^ (59:Int).toNat; decide),(by show (10:Int) ^ (59:Int).toNat<=10 ^ 60; decide),λ r H1 r0 r1 pt1 b1=>hR _ _ ⟨r,Y,r0,pt1,b1⟩⟩
 rintro _ H1 ⟨fa,rfl,fa0,pt1,b1⟩;refine am (λ σ' H'=>∃so l1 t1 d1:Addr, σ'=[↑p, ⇑fa, ↑so]/\so≠p/\l1≠p/\t1≠p/\d1≠p/\H' so=some (.lst [.int 0, .int (-1 - fa), .bl true, .bl false, .non, .str "7", .ref l1, .ref t1, .ref d1, .str "16 x 16"])/\H' l1=↥[.int fa]/\H' t1= ~~~[.int 1]/\(∃kvs, H' d1=some (.dK kvs))/\PotB H' p/\But p H H') (λ R hR=>?_) ?_
 ·refine ⟨1,Y,_,Y,_,_,Y,Y,_,Y,zS1,λ l1 hl1=>?_⟩;obtain ⟨H2,e2,k2,n2,s2,b2,pt2⟩:=eC (o:=.lst [.int fa]) b1 pt1 hl1;rw [show upd H1 l1 _=H2 from e2];refine ⟨zS1,λ t1 ht1=>?_⟩;obtain ⟨H3,e3,k3,n3,s3,b3,pt3⟩:=eC (o:=.tup [.int 1]) b2 pt2 ht1;rw [show upd H2 t1 _=H3 from e3];refine λ d1 hd1=>⟨_,Y,ae,1,Y,?_⟩
  rw [qK];obtain ⟨H4,e4,k4,n4,s4,b4,pt4⟩:=eC (o:=.dK [(.inl 1,.int fa)]) b3 pt3 hd1;rw [show upd H3 d1 _=H4 from e4];refine ⟨zS10,λ so hso=>?_⟩;obtain ⟨H5,e5,k5,n5,s5,b5,pt5⟩:=eC (o:=.lst [.int 0,.int (-1 - fa),.bl true,.bl false,.non,.str "7",.ref l1,.ref t1,.ref d1,.str "16 x 16"]) b4 pt4 hso;rw [show upd H4 so _=H5 from e5];exact hR _ _ ⟨so,l1,t1,d1,rfl,n5,n2,n3,n4,k5,s5 _ _ (s4 _ _ (s3 _ _ k2)),s5 _ _ (s4 _ _ k3),⟨_,s5 _ _ k4⟩,pt5,b5⟩
 rintro _ H2 ⟨so,l1,t1,d1,rfl,nso,nl,nt,nd1,hso,hl1,ht1,hd1,pt2,b2⟩;refine ⟨_,Y,_,Y,_,Y,so,_,Y,.inl (FI hso),p,_,Y,pt2,(by show (0:Int) < 10; decide),(by show (10:Int)<=10 ^ 60; decide),λ z H3 z0 z1 pt3 b3=>?_⟩;have z1:z < 10:=z1;obtain ⟨x,hx,hb,hw⟩:∃x:V,atI [.int 0,.int (-1 - fa),.bl true,.bl false,.non,.str "7",.ref l1,.ref t1,.ref d1,.str "16 x 16"] z=some x/\Thg p H2 x/\aA x 1=false:=by
  rcases (by omega:z=0\/z=1\/z=2\/z=3\/z=4\/z=5\/z=6\/z=7\/z=8\/z=9) with rfl | rfl | rfl | rfl | rfl | rfl | rfl | rfl | rfl | rfl
  ·exact ⟨_,Y,.inl rfl,Y⟩
  ·exact ⟨_,Y,.inl rfl,A8 ⋯⟩
  ·exact ⟨_,Y,.inl rfl,Y⟩
  ·exact ⟨_,Y,.inl rfl,Y⟩
  ·exact ⟨_,Y,.inl rfl,Y⟩
  ·exact ⟨_,Y,.inl rfl,Y⟩
  ·exact ⟨_,Y,.inr ⟨l1,Y,nl,.inl ⟨_,hl1⟩⟩,Y⟩
  ·exact ⟨_,Y,.inr ⟨t1,Y,nt,.inr (.inl ⟨_,ht1⟩)⟩,Y⟩
  ·exact ⟨_,Y,.inr ⟨d1,Y,nd1,.inr (.inr hd1)⟩,Y⟩
  ·exact ⟨_,Y,.inl rfl,Y⟩
 exact ⟨so,_,_,_,Y,Y,FI (b3 _ _ nso hso),hx,q x H3 (hb.but b3) hw pt3 (b2.trans b3)⟩
end
section
variable {P:FC} {w:FE} {K:C1} {mg:Str->Option FF} {base:Heap}
theorem NoTb.same {H H':Hp} (s:Same H H') {m n:Nat} {v:V} (h:NoTb K H m n v):NoTb K H' m n v:=by
 rcases h with ⟨T,t,e⟩ | ⟨td,kvs,e,h,l⟩ | ⟨td,ob,rows,qs,e,h,r,z⟩
 ·exact .inl ⟨T,Ty.same s t,e⟩
 ·exact .inr (.inl ⟨td,kvs,e,s _ _ h,l⟩)
 ·exact .inr (.inr ⟨td,ob,rows,qs,e,s _ _ h,r.same s,z⟩)
theorem uI:bootBuiltins "ValueError" = some (.type "ValueError"):=∅
theorem gU {H:Hp} {l ea:Addr} {xs:List V} {o:HO} (h:H l=↥xs) (he:H ea=some o) {c:Addr} (x:V) (ho:o=.ext (IsA ea (.ref c)):=by rfl):∃H',upd H l (.lst (xs ++ [x]))=H'/\H' l=↥(xs ++ [x])/\H' ea=some o/\But l H H' :=
 ⟨_,rfl,ae,by rw [aj (λ z=>by rw [z,h] at he; rw [ho] at he; cases he)]; exact he,λ a o n e=>by rw [aj n]; exact e⟩
structure Cl (mg:Str->Option Value) (x0 x1 x2 x3 x4 x5 x6 x7 x8 x9 x10 x11 x12:Addr):Prop where
 m0:mg "NoPlate" = ↑x0
 m1:mg "TooLarge" = ↑x1
 m2:mg "NoTable" = ↑x2
 m3:mg "NoBlade" = ↑x3
 m4:mg "NoKind" = ↑x4
 m5:mg "NoKinds" = ↑x5
 m6:mg "NoLaying" = ↑x6
 m7:mg "NoLying" = ↑x7
 m8:mg "NoNumber" = ↑x8
 m9:mg "NoTelling" = ↑x9
 m10:mg "NoText" = ↑x10
 m11:mg "NoTree" = ↑x11
 m12:mg "NoWeights" = ↑x12
 mv:mg "ValueError" = none
structure Ec (K:C1) (CE c x0 x1 x2 x3 x4 x5 x6 x7 x8 x9 x10 x11 x12:Addr) (n:Int):Prop where
 F0:ExK K c
 k0:PySem.W.kitOne K (.ref c) (.ref x0)=some (decide (V.int 0=V.int n))
 k1:PySem.W.kitOne K (.ref c) (.ref x1)=some (decide (V.int 1=V.int n))
 k2:PySem.W.kitOne K (.ref c) (.ref x2)=some (decide (V.int 2=V.int n))
 kv:PySem.W.kitOne K (.ref c) (.type "ValueError")=some true
 a1:PySem.W.kitAny K (.ref c) [.ref x3,.ref x4,.ref x5,.ref x6,.ref x7]=some false
 a2:PySem.W.kitAny K (.ref c) [.ref x8,.ref x9,.ref x10,.ref x11,.ref x12]=some false
 xm:PySem.W.exmOne K (.ref c) (.ref CE)=some true
def yS (K:C1) (C:Addr) (H:Hp) (way:Int) (s:Addr) (wv hv x:V) (ans:List V):Prop :=
 (way=0/\((∃n,ans=jG n/\(∃T,Ty K H wv T)/\(∃T,Ty K H hv T)/\((n=0/\(aA wv 1 && aA hv 1)=false)\/∃w h:Int,wv=.int w/\hv=.int h/\1<=w/\1<=h/\n=1/\(16 < w\/16 < h)))
  \/ (ans=[]/\∃ (b:Int) (ks:List Kd) (m n:Nat),wv=.int m/\hv=.int n/\ShopAt C H s b ks/\ks.length<=8/\0<=b/\1<=m/\m<=16/\1<=n/\n<=16)))
 \/ (way=1/\∃n,ans=jG n/\(∃T,Ty K H wv T)/\(∃T,Ty K H hv T)/\((n=0/\(aA wv 1 && aA hv 1)=false)\/∃w h:Int,wv=.int w/\hv=.int h/\1<=w/\1<=h/\((n=1/\(16 < w\/16 < h))\/(n=2/\∃p q:Nat,w=p/\h=q/\p<=16/\q<=16/\NoTb K H p q x))))
def iV (K:C1) (C:Addr):Sp:=λ vs H Q _=>∃ (way:Int) (s:Addr) (wv hv x:V) (ans:List V),vs=[.int way,.ref s,wv,hv,x]/\yS K C H way s wv hv x ans/\∀ (l:Addr) (H':Hp),H l=none->H' l=↥ans->Same H H'->Q (.ref l) H'
theorem sctold5:FnScope ["_law_way","_law_shop","_law_wide","_law_high","_law_table","_law_told_here","e"] ["_law_way","_law_shop","_law_wide","_law_high","_law_table"] (defScope lY):=⟨Y,Y,Y,∅,Y,∅,∅⟩
theorem qk {f C CE x0 x1 x2 x3 x4 x5 x6 x7 x8 x9 x10 x11 x12:Addr} {fd:FD} (F:Fun K "_law_told" "_law_told" lY f fd) (B:Blt mg) (Z:Cl mg x0 x1 x2 x3 x4 x5 x6 x7 x8 x9 x10 x11 x12) (Y0:Ec K CE x0 x0 x1 x2 x3 x4 x5 x6 x7 x8 x9 x10 x11 x12 0) (Y1:Ec K CE x1 x0 x1 x2 x3 x4 x5 x6 x7 x8 x9 x10 x11 x12 1) (Y2:Ec K CE x2 x0 x1 x2 x3 x4 x5 x6 x7 x8 x9 x10 x11 x12 2) (mp:mg "PlateError" = ↑CE) (DBe:DnX P w K mg base "best_of" ["shop","wide","high"] 35 (λ vs H Q E=>spBestOf C vs H Q E\/iU K x0 x1 vs H Q E)) (DBr:DnX P w K mg base "bears" ["shop","wide","high","table"] 7 (gL K x0 x1 x2)):FnOk P w K mg base CX0 36 f fd ["_law_way","_law_shop","_law_wide","_law_high","_law_table"] (iV K C):=by
 refine F.ok sctold5 (λ vs H Q E h=>?_) (λ cdv A outer s0 H vs Q E hr h=>?_)
 ·obtain ⟨way,s,wv,hv,x,ans,rfl,_⟩:=h
  rfl
 obtain ⟨way,s,wv,hv,x,ans,rfl,h,q⟩:=h;have nd:=sctold5.nd;refine ⟨_,((5∣(@aV _ _ _ _ ad))<<<((rn (i:=6) Y Y Y (ur ((pv 0)<*>cJ<*>af) (jq (fm DBe (hr.mono ∅) Y ((pv 1)^^^((pv 2)^^^((pv 3)^^^ad))))) (jq (fm DBr (hr.mono ∅) Y ((pv 1)^^^((pv 2)^^^((pv 3)^^^((pv 4)^^^ad))))))) nd Y Y Y mp (λ ea=>((5∣(@aV _ _ _ _ ((@av _ _ _ _ _ _ _ _ _ cu Y B.isi PyProof.Rows.boot_isinstance ((pv 6)^^^((bO (v:=.ty "ValueError") Y Z.mv uI Y)^^^ad)) ∅ ∅ Y Y)^^^((@av _ _ _ _ _ _ _ _ _ cu Y B.isi PyProof.Rows.boot_isinstance ((pv 6)^^^((aJ (v:=.ref x0) Y Z.m0 Y)^^^ad)) ∅ ∅ Y Y)^^^((@av _ _ _ _ _ _ _ _ _ cu Y B.isi PyProof.Rows.boot_isinstance ((pv 6)^^^((aJ (v:=.ref x1) Y Z.m1 Y)^^^ad)) ∅ ∅ Y Y)^^^((@av _ _ _ _ _ _ _ _ _ cu Y B.isi PyProof.Rows.boot_isinstance ((pv 6)^^^((aJ (v:=.ref x2) Y Z.m2 Y)^^^ad)) ∅ ∅ Y Y)^^^ad))))))<<<((@bI _ _ _ _ (@fI _ _ _ _ _ _ _ _ _ _ _ _ E9 PySem.F.slot_list_append PySem.F.type_list_append dE (pv 5) ((@av _ _ _ _ _ _ _ _ _ dX Y B.isi PyProof.Rows.boot_isinstance ((pv 6)^^^((@aF _ _ _ _ _ ((aJ (v:=.ref x3) Y Z.m3 Y)^^^((aJ (v:=.ref x4) Y Z.m4 Y)^^^((aJ (v:=.ref x5) Y Z.m5 Y)^^^((aJ (v:=.ref x6) Y Z.m6 Y)^^^((aJ (v:=.ref x7) Y Z.m7 Y)^^^ad))))))^^^ad)) ∅ ∅ Y Y)^^^ad) Y Y Y Y Y) Y)>>>(@bI _ _ _ _ (@fI _ _ _ _ _ _ _ _ _ _ _ _ E9 PySem.F.slot_list_append PySem.F.type_list_append dE (pv 5) ((@av _ _ _ _ _ _ _ _ _ dX Y B.isi PyProof.Rows.boot_isinstance ((pv 6)^^^((@aF _ _ _ _ _ ((aJ (v:=.ref x8) Y Z.m8 Y)^^^((aJ (v:=.ref x9) Y Z.m9 Y)^^^((aJ (v:=.ref x10) Y Z.m10 Y)^^^((aJ (v:=.ref x11) Y Z.m11 Y)^^^((aJ (v:=.ref x12) Y Z.m12 Y)^^^ad))))))^^^ad)) ∅ ∅ Y Y)^^^ad) Y Y Y Y Y) Y)))))<<<((pv 5)⁻¹))),?_⟩;refine ⟨∅,λ l0 hl0=>?_⟩;obtain ⟨H1,e1,k1,s1⟩:∃H',upd H l0 (.lst [])=H'/\H' l0=↥[]/\Same H H':=⟨_,Y,ae,FG hl0⟩
 rw [show upd H l0 _=H1 from e1];refine ⟨_,Y,Y,_,Y,?_⟩;rcases h with ⟨rfl,h⟩ | ⟨rfl,n,rfl,⟨Tw,tw⟩,⟨Th,th⟩,h⟩
 ·refine aP ?_;refine ⟨_,Y,_,Y,_,Y,?_⟩;dsimp only [jc];rcases h with ⟨n,rfl,⟨Tw,tw⟩,⟨Th,th⟩,h⟩ | ⟨rfl,b,ks,m,n,rfl,rfl,S0,k8,b0,m1,m16,n1,n16⟩
  ·have tw1:=Ty.same s1 tw;have th1:=Ty.same s1 th;rcases h with ⟨rfl,bad⟩ | ⟨w1,h1,rfl,rfl,w0,h0,rfl,big⟩
   ·refine .inr ⟨s,wv,hv,Y,⟨_,tw1⟩,⟨_,th1⟩,.inl ⟨bad,Y0.xm,λ ea hea=>?_⟩⟩;obtain ⟨Hs,es,kes,ss⟩:∃H',upd H1 ea (.ext (IsA ea (.ref x0)))=H'/\H' ea=some (.ext (IsA ea (.ref x0)))/\Same H1 H':=⟨_,Y,ae,FG hea⟩
    rw [show upd H1 ea _=Hs from es];refine ⟨_,Y,ea,x0,_,_,_,Y0.F0,Y,kes,Y,Y0.kv,_,Y,ea,x0,_,_,_,Y0.F0,Y,kes,Y,Y0.k0,_,Y,ea,x0,_,_,_,Y0.F0,Y,kes,Y,Y0.k1,_,Y,ea,x0,_,_,_,Y0.F0,Y,kes,Y,Y0.k2,zS4,λ l1 hl1=>?_⟩;obtain ⟨Ha,e11,k11,s11⟩:∃H',upd Hs l1 (.lst [.bl true,.bl (decide (V.int 0=V.int 0)),.bl (decide (V.int 1=V.int 0)),.bl (decide (V.int 2=V.int 0))])=H'/\H' l1=↥[.bl true,.bl (decide (V.int 0=V.int 0)),.bl (decide (V.int 1=V.int 0)),.bl (decide (V.int 2=V.int 0))]/\Same Hs H':=⟨_,Y,ae,FG hl1⟩
    rw [show upd Hs l1 _=Ha from e11];refine ⟨_,Y,.inl ⟨Y,_,FI k11⟩,_,Y,zS5,λ t1 ht1=>?_⟩;obtain ⟨Hc,e12,k12,s12⟩:∃H',upd Ha t1 (.tup [.ref x3,.ref x4,.ref x5,.ref x6,.ref x7])=H'/\H' t1= ~~~[.ref x3,.ref x4,.ref x5,.ref x6,.ref x7]/\Same Ha H':=⟨_,Y,ae,FG ht1⟩
    rw [show upd Ha t1 _=Hc from e12];refine ⟨ea,x0,t1,_,_,_,Y0.F0,Y,s12 _ _ (s11 _ _ kes),k12,Y,Y0.a1,l1,_,_,Y,Y,s12 _ _ k11,(by show 4 < sizeLine; decide),?_⟩;obtain ⟨Hd,ed,kd,kde,bd⟩:=gU (ea:=ea) (s12 _ _ k11) (s12 _ _ (s11 _ _ kes)) (.bl false);rw [show upd Hc l1 _=Hd from ed];refine ⟨_,Y,.inl ⟨Y,_,FI kd⟩,_,Y,zS5,λ t2 ht2=>?_⟩;obtain ⟨Hf,e13,k13,s13⟩:∃H',upd Hd t2 (.tup [.ref x8,.ref x9,.ref x10,.ref x11,.ref x12])=H'/\H' t2= ~~~[.ref x8,.ref x9,.ref x10,.ref x11,.ref x12]/\Same Hd H':=⟨_,Y,ae,FG ht2⟩
    rw [show upd Hd t2 _=Hf from e13];refine ⟨ea,x0,t2,_,_,_,Y0.F0,Y,s13 _ _ kde,k13,Y,Y0.a2,l1,_,_,Y,Y,s13 _ _ kd,(by show 5 < sizeLine; decide),?_⟩;obtain ⟨Hg,eg,kg,kge,bg⟩:=gU (ea:=ea) (s13 _ _ kd) (s13 _ _ kde) (.bl false);rw [show upd Hf l1 _=Hg from eg];have sl:Same H Hs:=(s1.trans (Same.refl H1)).trans ss;refine ⟨_,Y,q l1 Hg (sl.free hl1) kg λ a o e=>?_⟩;have ha:=sl _ _ e;have na:a≠l1:=ah ha hl1;exact bg _ _ na (s13 _ _ (bd _ _ na (s12 _ _ (s11 _ _ ha))))
   ·refine .inr ⟨s,_,_,Y,⟨_,tw1⟩,⟨_,th1⟩,.inr ⟨w1,h1,Y,Y,w0,h0,big,Y1.xm,λ ea hea=>?_⟩⟩;obtain ⟨Hs,es,kes,ss⟩:∃H',upd H1 ea (.ext (IsA ea (.ref x1)))=H'/\H' ea=some (.ext (IsA ea (.ref x1)))/\Same H1 H':=⟨_,Y,ae,FG hea⟩
    rw [show upd H1 ea _=Hs from es];refine ⟨_,Y,ea,x1,_,_,_,Y1.F0,Y,kes,Y,Y1.kv,_,Y,ea,x1,_,_,_,Y1.F0,Y,kes,Y,Y1.k0,_,Y,ea,x1,_,_,_,Y1.F0,Y,kes,Y,Y1.k1,_,Y,ea,x1,_,_,_,Y1.F0,Y,kes,Y,Y1.k2,zS4,λ l1 hl1=>?_⟩;obtain ⟨Ha,e11,k11,s11⟩:∃H',upd Hs l1 (.lst [.bl true,.bl (decide (V.int 0=V.int 1)),.bl (decide (V.int 1=V.int 1)),.bl (decide (V.int 2=V.int 1))])=H'/\H' l1=↥[.bl true,.bl (decide (V.int 0=V.int 1)),.bl (decide (V.int 1=V.int 1)),.bl (decide (V.int 2=V.int 1))]/\Same Hs H':=⟨_,Y,ae,FG hl1⟩
    rw [show upd Hs l1 _=Ha from e11];refine ⟨_,Y,.inl ⟨Y,_,FI k11⟩,_,Y,zS5,λ t1 ht1=>?_⟩;obtain ⟨Hc,e12,k12,s12⟩:∃H',upd Ha t1 (.tup [.ref x3,.ref x4,.ref x5,.ref x6,.ref x7])=H'/\H' t1= ~~~[.ref x3,.ref x4,.ref x5,.ref x6,.ref x7]/\Same Ha H':=⟨_,Y,ae,FG ht1⟩
    rw [show upd Ha t1 _=Hc from e12];refine ⟨ea,x1,t1,_,_,_,Y1.F0,Y,s12 _ _ (s11 _ _ kes),k12,Y,Y1.a1,l1,_,_,Y,Y,s12 _ _ k11,(by show 4 < sizeLine; decide),?_⟩;obtain ⟨Hd,ed,kd,kde,bd⟩:=gU (ea:=ea) (s12 _ _ k11) (s12 _ _ (s11 _ _ kes)) (.bl false);rw [show upd Hc l1 _=Hd from ed];refine ⟨_,Y,.inl ⟨Y,_,FI kd⟩,_,Y,zS5,λ t2 ht2=>?_⟩;obtain ⟨Hf,e13,k13,s13⟩:∃H',upd Hd t2 (.tup [.ref x8,.ref x9,.ref x10,.ref x11,.ref x12])=H'/\H' t2= ~~~[.ref x8,.ref x9,.ref x10,.ref x11,.ref x12]/\Same Hd H':=⟨_,Y,ae,FG ht2⟩
    rw [show upd Hd t2 _=Hf from e13];refine ⟨ea,x1,t2,_,_,_,Y1.F0,Y,s13 _ _ kde,k13,Y,Y1.a2,l1,_,_,Y,Y,s13 _ _ kd,(by show 5 < sizeLine; decide),?_⟩;obtain ⟨Hg,eg,kg,kge,bg⟩:=gU (ea:=ea) (s13 _ _ kd) (s13 _ _ kde) (.bl false);rw [show upd Hf l1 _=Hg from eg];have sl:Same H Hs:=(s1.trans (Same.refl H1)).trans ss;refine ⟨_,Y,q l1 Hg (sl.free hl1) kg λ a o e=>?_⟩;have ha:=sl _ _ e;have na:a≠l1:=ah ha hl1;exact bg _ _ na (s13 _ _ (bd _ _ na (s12 _ _ (s11 _ _ ha))))
  ·exact .inl ⟨s,b,ks,m,n,Y,S0.keep (λ c o e=>s1 _ _ e) (λ c C' d fs e=>s1 _ _ e),k8,b0,m1,m16,n1,n16,λ r tb v H2 _ hr ht hv s2=>⟨_,Y,q l0 H2 hl0 (s2 _ _ k1) (s1.trans s2)⟩⟩
 ·refine aD ?_;refine ⟨_,Y,_,Y,_,Y,_,Y,?_⟩;dsimp only [jc];have tw1:=Ty.same s1 tw;have th1:=Ty.same s1 th;rcases h with ⟨rfl,bad⟩ | ⟨w1,h1,rfl,rfl,w0,h0,⟨rfl,big⟩ | ⟨rfl,p,q',rfl,rfl,p16,q16,nt⟩⟩
  ·refine ⟨s,wv,hv,x,Y,⟨_,tw1⟩,⟨_,th1⟩,.inl ⟨bad,Y0.xm,λ ea hea=>?_⟩⟩;obtain ⟨Hs,es,kes,ss⟩:∃H',upd H1 ea (.ext (IsA ea (.ref x0)))=H'/\H' ea=some (.ext (IsA ea (.ref x0)))/\Same H1 H':=⟨_,Y,ae,FG hea⟩
   rw [show upd H1 ea _=Hs from es];refine ⟨_,Y,ea,x0,_,_,_,Y0.F0,Y,kes,Y,Y0.kv,_,Y,ea,x0,_,_,_,Y0.F0,Y,kes,Y,Y0.k0,_,Y,ea,x0,_,_,_,Y0.F0,Y,kes,Y,Y0.k1,_,Y,ea,x0,_,_,_,Y0.F0,Y,kes,Y,Y0.k2,zS4,λ l1 hl1=>?_⟩;obtain ⟨Ha,e11,k11,s11⟩:∃H',upd Hs l1 (.lst [.bl true,.bl (decide (V.int 0=V.int 0)),.bl (decide (V.int 1=V.int 0)),.bl (decide (V.int 2=V.int 0))])=H'/\H' l1=↥[.bl true,.bl (decide (V.int 0=V.int 0)),.bl (decide (V.int 1=V.int 0)),.bl (decide (V.int 2=V.int 0))]/\Same Hs H':=⟨_,Y,ae,FG hl1⟩
   rw [show upd Hs l1 _=Ha from e11];refine ⟨_,Y,.inl ⟨Y,_,FI k11⟩,_,Y,zS5,λ t1 ht1=>?_⟩;obtain ⟨Hc,e12,k12,s12⟩:∃H',upd Ha t1 (.tup [.ref x3,.ref x4,.ref x5,.ref x6,.ref x7])=H'/\H' t1= ~~~[.ref x3,.ref x4,.ref x5,.ref x6,.ref x7]/\Same Ha H':=⟨_,Y,ae,FG ht1⟩
   rw [show upd Ha t1 _=Hc from e12];refine ⟨ea,x0,t1,_,_,_,Y0.F0,Y,s12 _ _ (s11 _ _ kes),k12,Y,Y0.a1,l1,_,_,Y,Y,s12 _ _ k11,(by show 4 < sizeLine; decide),?_⟩;obtain ⟨Hd,ed,kd,kde,bd⟩:=gU (ea:=ea) (s12 _ _ k11) (s12 _ _ (s11 _ _ kes)) (.bl false);rw [show upd Hc l1 _=Hd from ed];refine ⟨_,Y,.inl ⟨Y,_,FI kd⟩,_,Y,zS5,λ t2 ht2=>?_⟩;obtain ⟨Hf,e13,k13,s13⟩:∃H',upd Hd t2 (.tup [.ref x8,.ref x9,.ref x10,.ref x11,.ref x12])=H'/\H' t2= ~~~[.ref x8,.ref x9,.ref x10,.ref x11,.ref x12]/\Same Hd H':=⟨_,Y,ae,FG ht2⟩
   rw [show upd Hd t2 _=Hf from e13];refine ⟨ea,x0,t2,_,_,_,Y0.F0,Y,s13 _ _ kde,k13,Y,Y0.a2,l1,_,_,Y,Y,s13 _ _ kd,(by show 5 < sizeLine; decide),?_⟩;obtain ⟨Hg,eg,kg,kge,bg⟩:=gU (ea:=ea) (s13 _ _ kd) (s13 _ _ kde) (.bl false);rw [show upd Hf l1 _=Hg from eg];have sl:Same H Hs:=(s1.trans (Same.refl H1)).trans ss;refine ⟨_,Y,q l1 Hg (sl.free hl1) kg λ a o e=>?_⟩;have ha:=sl _ _ e;have na:a≠l1:=ah ha hl1;exact bg _ _ na (s13 _ _ (bd _ _ na (s12 _ _ (s11 _ _ ha))))
  ·refine ⟨s,_,_,x,Y,⟨_,tw1⟩,⟨_,th1⟩,.inr ⟨w1,h1,Y,Y,w0,h0,.inl ⟨big,Y1.xm,λ ea hea=>?_⟩⟩⟩;obtain ⟨Hs,es,kes,ss⟩:∃H',upd H1 ea (.ext (IsA ea (.ref x1)))=H'/\H' ea=some (.ext (IsA ea (.ref x1)))/\Same H1 H':=⟨_,Y,ae,FG hea⟩
   rw [show upd H1 ea _=Hs from es];refine ⟨_,Y,ea,x1,_,_,_,Y1.F0,Y,kes,Y,Y1.kv,_,Y,ea,x1,_,_,_,Y1.F0,Y,kes,Y,Y1.k0,_,Y,ea,x1,_,_,_,Y1.F0,Y,kes,Y,Y1.k1,_,Y,ea,x1,_,_,_,Y1.F0,Y,kes,Y,Y1.k2,zS4,λ l1 hl1=>?_⟩;obtain ⟨Ha,e11,k11,s11⟩:∃H',upd Hs l1 (.lst [.bl true,.bl (decide (V.int 0=V.int 1)),.bl (decide (V.int 1=V.int 1)),.bl (decide (V.int 2=V.int 1))])=H'/\H' l1=↥[.bl true,.bl (decide (V.int 0=V.int 1)),.bl (decide (V.int 1=V.int 1)),.bl (decide (V.int 2=V.int 1))]/\Same Hs H':=⟨_,Y,ae,FG hl1⟩
   rw [show upd Hs l1 _=Ha from e11];refine ⟨_,Y,.inl ⟨Y,_,FI k11⟩,_,Y,zS5,λ t1 ht1=>?_⟩;obtain ⟨Hc,e12,k12,s12⟩:∃H',upd Ha t1 (.tup [.ref x3,.ref x4,.ref x5,.ref x6,.ref x7])=H'/\H' t1= ~~~[.ref x3,.ref x4,.ref x5,.ref x6,.ref x7]/\Same Ha H':=⟨_,Y,ae,FG ht1⟩
   rw [show upd Ha t1 _=Hc from e12];refine ⟨ea,x1,t1,_,_,_,Y1.F0,Y,s12 _ _ (s11 _ _ kes),k12,Y,Y1.a1,l1,_,_,Y,Y,s12 _ _ k11,(by show 4 < sizeLine; decide),?_⟩;obtain ⟨Hd,ed,kd,kde,bd⟩:=gU (ea:=ea) (s12 _ _ k11) (s12 _ _ (s11 _ _ kes)) (.bl false);rw [show upd Hc l1 _=Hd from ed];refine ⟨_,Y,.inl ⟨Y,_,FI kd⟩,_,Y,zS5,λ t2 ht2=>?_⟩;obtain ⟨Hf,e13,k13,s13⟩:∃H',upd Hd t2 (.tup [.ref x8,.ref x9,.ref x10,.ref x11,.ref x12])=H'/\H' t2= ~~~[.ref x8,.ref x9,.ref x10,.ref x11,.ref x12]/\Same Hd H':=⟨_,Y,ae,FG ht2⟩
   rw [show upd Hd t2 _=Hf from e13];refine ⟨ea,x1,t2,_,_,_,Y1.F0,Y,s13 _ _ kde,k13,Y,Y1.a2,l1,_,_,Y,Y,s13 _ _ kd,(by show 5 < sizeLine; decide),?_⟩;obtain ⟨Hg,eg,kg,kge,bg⟩:=gU (ea:=ea) (s13 _ _ kd) (s13 _ _ kde) (.bl false);rw [show upd Hf l1 _=Hg from eg];have sl:Same H Hs:=(s1.trans (Same.refl H1)).trans ss;refine ⟨_,Y,q l1 Hg (sl.free hl1) kg λ a o e=>?_⟩;have ha:=sl _ _ e;have na:a≠l1:=ah ha hl1;exact bg _ _ na (s13 _ _ (bd _ _ na (s12 _ _ (s11 _ _ ha))))
  ·refine ⟨s,_,_,x,Y,⟨_,tw1⟩,⟨_,th1⟩,.inr ⟨_,_,Y,Y,w0,h0,.inr ⟨p,q',Y,Y,p16,q16,nt.same s1,λ H2 s2=>⟨Y2.xm,λ ea hea=>?_⟩⟩⟩⟩;obtain ⟨Hs,es,kes,ss⟩:∃H',upd H2 ea (.ext (IsA ea (.ref x2)))=H'/\H' ea=some (.ext (IsA ea (.ref x2)))/\Same H2 H':=⟨_,Y,ae,FG hea⟩
   rw [show upd H2 ea _=Hs from es];refine ⟨_,Y,ea,x2,_,_,_,Y2.F0,Y,kes,Y,Y2.kv,_,Y,ea,x2,_,_,_,Y2.F0,Y,kes,Y,Y2.k0,_,Y,ea,x2,_,_,_,Y2.F0,Y,kes,Y,Y2.k1,_,Y,ea,x2,_,_,_,Y2.F0,Y,kes,Y,Y2.k2,zS4,λ l1 hl1=>?_⟩;obtain ⟨Ha,e11,k11,s11⟩:∃H',upd Hs l1 (.lst [.bl true,.bl (decide (V.int 0=V.int 2)),.bl (decide (V.int 1=V.int 2)),.bl (decide (V.int 2=V.int 2))])=H'/\H' l1=↥[.bl true,.bl (decide (V.int 0=V.int 2)),.bl (decide (V.int 1=V.int 2)),.bl (decide (V.int 2=V.int 2))]/\Same Hs H':=⟨_,Y,ae,FG hl1⟩
   rw [show upd Hs l1 _=Ha from e11];refine ⟨_,Y,.inl ⟨Y,_,FI k11⟩,_,Y,zS5,λ t1 ht1=>?_⟩;obtain ⟨Hc,e12,k12,s12⟩:∃H',upd Ha t1 (.tup [.ref x3,.ref x4,.ref x5,.ref x6,.ref x7])=H'/\H' t1= ~~~[.ref x3,.ref x4,.ref x5,.ref x6,.ref x7]/\Same Ha H':=⟨_,Y,ae,FG ht1⟩
   rw [show upd Ha t1 _=Hc from e12];refine ⟨ea,x2,t1,_,_,_,Y2.F0,Y,s12 _ _ (s11 _ _ kes),k12,Y,Y2.a1,l1,_,_,Y,Y,s12 _ _ k11,(by show 4 < sizeLine; decide),?_⟩;obtain ⟨Hd,ed,kd,kde,bd⟩:=gU (ea:=ea) (s12 _ _ k11) (s12 _ _ (s11 _ _ kes)) (.bl false);rw [show upd Hc l1 _=Hd from ed];refine ⟨_,Y,.inl ⟨Y,_,FI kd⟩,_,Y,zS5,λ t2 ht2=>?_⟩;obtain ⟨Hf,e13,k13,s13⟩:∃H',upd Hd t2 (.tup [.ref x8,.ref x9,.ref x10,.ref x11,.ref x12])=H'/\H' t2= ~~~[.ref x8,.ref x9,.ref x10,.ref x11,.ref x12]/\Same Hd H':=⟨_,Y,ae,FG ht2⟩
   rw [show upd Hd t2 _=Hf from e13];refine ⟨ea,x2,t2,_,_,_,Y2.F0,Y,s13 _ _ kde,k13,Y,Y2.a2,l1,_,_,Y,Y,s13 _ _ kd,(by show 5 < sizeLine; decide),?_⟩;obtain ⟨Hg,eg,kg,kge,bg⟩:=gU (ea:=ea) (s13 _ _ kd) (s13 _ _ kde) (.bl false);rw [show upd Hf l1 _=Hg from eg];have sl:Same H Hs:=(s1.trans s2).trans ss;refine ⟨_,Y,q l1 Hg (sl.free hl1) kg λ a o e=>?_⟩;have ha:=sl _ _ e;have na:a≠l1:=ah ha hl1;exact bg _ _ na (s13 _ _ (bd _ _ na (s12 _ _ (s11 _ _ ha))))
end
def Fr2 (p d:Addr) (H H':Hp):Prop:=∀a o,a≠p->a≠d->H a=some o->H' a=some o
def sr (K:C1) (p d:Addr) (H:Hp) (x:V):Prop:=∀H',Fr2 p d H H'->∃T,Ty K H' x T
def OkK (K:C1) (p d:Addr) (H:Hp) (kvs:List (List Key×V)):Prop:=∀q∈kvs,(∃is:List Int,q.1=is.map Sum.inl/\is.length<=9)/\sr K p d H q.2
def kI:Key->Int
 | .inl i=>i
 | .inr _=>0
def qOf (q:List Key×V):Option (List Int)×V:=(some (q.1.map kI),q.2)
theorem ql (is:List Int):(is.map (Sum.inl:Int->Key)).map kI=is:=by rw [List.map_map]; exact List.map_id is
theorem uJ (is:List Int):(is.map (Sum.inl:Int->Key)).map kV=is.map V.int:=by rw [List.map_map]; rfl
theorem gQ {K:C1} {p d:Addr} {H H':Hp} {xs:List V} {kv0:List (List Key×V)} (hp:H p=↥xs) (hd:H d=some (.dT kv0)) (f:Fr2 p d H H'):∀ {kvs:List (List Key×V)} {rows:List (V×V)},gH H kvs rows->OkK K p d H kvs->RowsV K H' rows (kvs.map qOf)
 | _,_,.nil,_=>.nil
 | _,_,.cons (a:=q) (b:=r) h t,ok=>by
  obtain ⟨⟨is,e,l⟩,fv⟩:=ok q (B4 ..);obtain ⟨T,ty⟩:=fv H' f;obtain ⟨z,e1,e2,e3⟩:=h;obtain ⟨r1,r2⟩:=r;cases e1;cases e3;rw [e,uJ] at e2;refine RowsV.cons (.inr ⟨z,is,?_,Y,l,f _ _ (λ x=>?_) (λ x=>?_) e2⟩) ty (gQ hp hd f t λ q hq=>ok q (B1 _ hq))
  ·show some (q.1.map kI)=_;rw [e,ql]
  ·rw [x,hp] at e2; cases e2
  ·rw [x,hd] at e2; cases e2
theorem eV {p d:Addr} {H H':Hp} {o:HO} (b:But p (upd H d o) H'):Fr2 p d H H':=λ a u n1 n2 e=>b a u n1 (by rw [aj n2]; exact e)
theorem my {m n:Nat} {qs:List (Option (List Int)×V)} {q:Option (List Int)×V} (h:q∈qs) (b:dz m n q=false):qs.all (dz m n)=false:=by rw [List.all_eq_false];exact ⟨q,h,by rw [b]; exact A9⟩
theorem qm {K:C1} {p d:Addr} {H H':Hp} {xs:List V} {kvs:List (List Key×V)} {m n:Nat} {o:Obj} {rows:List (V×V)} (hp:H p=↥xs) (hd:H d=some (.dT kvs)) (ok:OkK K p d H kvs) (l:kvs.length<=300) (bad:kvs.length≠m * n\/∃q∈kvs,dz m n (qOf q)=false) (r:gH H kvs rows)
  (b:But p (upd H d (.ext (FixD d o rows))) H'):NoTb K H' m n (.ref d):=by
 refine .inr (.inr ⟨d,o,rows,kvs.map qOf,Y,b _ _ (λ x=>?_) ae,gQ hp hd (eV b) r ok,by rw [List.length_map]; exact l,λ e=>?_⟩)
 ·rw [x,hp] at hd; cases hd
 ·rw [List.length_map] at e;rcases bad with z | ⟨q,hq,z⟩
  ·exact absurd e z
  ·exact my (List.mem_map_of_mem hq) z
theorem RowsV.snoc {K:C1} {H:Hp} {v x:V} {k:Option (List Int)} {T:String} (h:KeyV H v k) (t:Ty K H x T):∀ {rs:List (V×V)} {qs:List (Option (List Int)×V)},RowsV K H rs qs->RowsV K H (rs ++ [(v,x)]) (qs ++ [(k,x)])
 | _,_,.nil=>.cons h t .nil
 | _,_,.cons a b r=>.cons a b (r.snoc h t)
theorem qo {K:C1} {p d:Addr} {H H':Hp} {xs:List V} {kvs:List (List Key×V)} {m n:Nat} {o:Obj} {rows:List (V×V)} {z:Str} {x:V} (hp:H p=↥xs) (hd:H d=some (.dT kvs)) (ok:OkK K p d H kvs) (fx:sr K p d H x) (l:kvs.length<=299) (r:gH H kvs rows)
  (b:But p (upd H d (.ext (FixD d o (rows ++ [(.str z,x)])))) H'):NoTb K H' m n (.ref d):=by
 obtain ⟨T,ty⟩:=fx H' (eV b);refine .inr (.inr ⟨d,o,_,kvs.map qOf ++ [(none,x)],Y,b _ _ (λ x=>?_) ae,(gQ hp hd (eV b) r ok).snoc (.inl ⟨Y,z,Y⟩) ty,?_,λ e=>?_⟩)
 ·rw [x,hp] at hd; cases hd
 ·rw [List.length_append,List.length_map]; show kvs.length + 1<=300; omega
 ·exact my (q:=(none,x)) (by simp) rfl
theorem eW {kvs:List (List Key×V)} {k:List Key} {v:V}:(k,v)∈cI kvs k v:=by
 unfold cI
 split
 ·rename_i h
  obtain ⟨q,hq,e⟩:=List.any_eq_true.mp h;have e:q.1=k:=B7 e;exact List.mem_map.mpr ⟨q,hq,by rw [if_pos e,e]⟩
 ·simp
theorem qp {kvs:List (List Key×V)} {k:List Key} {v:V} {q:List Key×V} (h:q∈cI kvs k v):q=(k,v)\/q∈kvs:=by
 unfold cI at h
 split at h
 ·obtain ⟨r,hr,rfl⟩:=List.mem_map.mp h
  by_cases e:r.1=k
  ·rw [if_pos e,e]; exact .inl rfl
  ·rw [if_neg e]; exact .inr hr
 ·rcases B9.mp h with h | h
  ·exact .inr h
  ·exact .inl (C5.mp h)
theorem OkK.put {K:C1} {p d:Addr} {H:Hp} {kvs:List (List Key×V)} {is:List Int} {v:V} (h:OkK K p d H kvs) (l:is.length<=9) (f:sr K p d H v):OkK K p d H (cI kvs (is.map Sum.inl) v):=λ q hq=>by
 rcases qp hq with rfl | hq
 ·exact ⟨⟨is,Y,l⟩,f⟩
 ·exact h q hq
theorem OkK.erase {K:C1} {p d:Addr} {H:Hp} {kvs:List (List Key×V)} {i:Nat} (h:OkK K p d H kvs):OkK K p d H (kvs.eraseIdx i):=λ q hq=>h q (List.mem_of_mem_eraseIdx hq)
theorem OkK.tab (K:C1) (p d:Addr) (H:Hp) (f:Int×Int->Int) (ps:List (Int×Int)):OkK K p d H (byP (aG f ps)):=λ q hq=>by obtain ⟨i,hi⟩:=List.getElem?_of_mem hq;obtain ⟨z,_,e1,e2⟩:=gc (f:=f) (ps:=ps) (i:=i) (k:=q.1) (v:=q.2) hi;rw [e1,e2];exact ⟨⟨[z.1,z.2],Y,by show 2<=9; decide⟩,λ H' _=>⟨_,Ty.int⟩⟩
theorem OkK.fr {K:C1} {p d:Addr} {H H':Hp} {kvs:List (List Key×V)} (f:Fr2 p d H H') (h:OkK K p d H kvs):OkK K p d H' kvs:=λ q hq=>⟨(h q hq).1,λ H2 f2=>(h q hq).2 H2 λ a o n1 n2 e=>f2 a o n1 n2 (f a o n1 n2 e)⟩
theorem kF {m n:Nat} {is:List Int} {v:V} (h:iT m n (some is)=false):dz m n (qOf (is.map Sum.inl,v))=false:=by unfold dz qOf;dsimp only;rw [ql,h,Bool.false_and]
theorem uK {m n:Nat} {k:List Key} {v:V} (h:aA v 0=false):dz m n (qOf (k,v))=false:=by unfold dz qOf;dsimp only;rw [h,Bool.and_false]
section
variable {P:FC} {w:FE} {K:C1} {mg:Str->Option FF} {base:Heap}
def iW (K:C1):Sp:=λ vs H Q _=>∃ (p td:Addr) (m n:Nat) (f0:Int×Int->Int),vs=[.ref p,.ref td,.int (m:Int),.int (n:Int)]/\PotB H p/\1<=m/\m<=16/\1<=n/\n<=16/\H td=some (.dT (byP (aG f0 (ak m n))))/\∀ (v:V) (H':Hp),(∀H2,But p H' H2->NoTb K H2 m n v)->PotB H' p->But p H H'->Q v H'
theorem scspoil:FnScope ["_law_pot_here","_law_table","_law_wide","_law_high","_law_found","_law_part","_law_bad","_law_way"] ["_law_pot_here","_law_table","_law_wide","_law_high"] (defScope du):=⟨Y,Y,Y,∅,Y,∅,∅⟩
theorem qr {f:Addr} {fd:FD} (F:Fun K "_law_spoiled" "_law_spoiled" du f fd) (B:Blt mg) (hdc:mg "dict" = none) (DD:Dn P w K mg base "_law_draw" ["_law_pot_here","_law_many"] 1 (dH)):FnOk P w K mg base CX0 3 f fd ["_law_pot_here","_law_table","_law_wide","_law_high"] (iW K):=by
 refine F.ok scspoil (λ vs H Q E h=>?_) (λ cdv A outer s H vs Q E hr h=>?_)
 ·obtain ⟨p,td,m,n,f0,rfl,_⟩:=h
  rfl
 obtain ⟨p,td,m,n,f0,rfl,pt,m1,m16,n1,n16,htd,q⟩:=h;have nd:=scspoil.nd;have hu:=hr.units;have hu1:=C3 (Nat.add_le_add_left (show 1<=64 by decide) _) hu;refine ⟨_,((4∣(@cx _ _ _ _ _ _ _ _ _ gE Y hdc PyProof.Rows.boot_dict ((pv 1)^^^ad) ∅ ∅ Y Y))<<<((5∣(@aF _ _ _ _ _ ((af|||bh|||(DD∩((pv 0)^^^((pv 2)^^^ad))))^^^((af|||bh|||(DD∩((pv 0)^^^((pv 3)^^^ad))))^^^ad))))<<<((6∣(@aV _ _ _ _ (((@ow _ _ _ _ _ _ jJ af)|||cR|||(DD∩((pv 0)^^^(af^^^ad))))^^^(bp^^^(dY^^^(eY^^^((@aV _ _ _ _ (af^^^ad))^^^((@aF _ _ _ _ _ (af^^^ad))^^^ad))))))))<<<((7∣(DD∩((pv 0)^^^(af^^^ad))))<<<((((pv 7)<*>yq<*>af)<|>(@ai _ _ _ (cT hu1 (pv 4) (pv 5) ((pv 6)&&&aW&&&(pv 7)) Y))<|>(@ai _ _ _ (((pv 7)<*>cJ<*>af)<|>(@ai _ _ _ (@bI _ _ _ _ (@fI _ _ _ _ _ _ _ _ _ _ _ _ PySem.F.plainAttrs_dict PySem.F.slot_dict_pop PySem.F.type_dict_pop (eO hu1) (pv 4) ((pv 5)^^^ad) Y Y Y Y Y) Y))<|>(@ai _ _ _ (((pv 7)<*>cJ<*>af)<|>(@ai _ _ _ (cT hu1 (pv 4) (@aF _ _ _ _ _ (((pv 2)|||bh|||af)^^^(((pv 5)&&&bo&&&af)^^^ad))) (af|||gi|||af) Y))<|>(@ai _ _ _ (((pv 7)<*>cJ<*>af)<|>(@ai _ _ _ (cT hu1 (pv 4) (@aF _ _ _ _ _ (((pv 5)&&&bo&&&af)^^^(af^^^ad))) (@fI _ _ _ _ _ _ _ _ _ _ _ _ PySem.F.plainAttrs_dict PySem.F.slot_dict_pop PySem.F.type_dict_pop (eO hu1) (pv 4) ((pv 5)^^^ad) Y Y Y Y Y) Y))<|>(@ai _ _ _ (((pv 7)<*>cJ<*>af)<|>(@ai _ _ _ (rE hu1 (pv 4) eY (@fI _ _ _ _ _ _ _ _ _ _ _ _ PySem.F.plainAttrs_dict PySem.F.slot_dict_pop PySem.F.type_dict_pop (eO hu1) (pv 4) ((pv 5)^^^ad) Y Y Y Y Y) Y))<|>(@ai _ _ _ (((pv 7)<*>cJ<*>af)<|>((@rD _ _ _ (cg (own:=["_law_key"]) (cs:=["_law_table"]) (cap:=[1]) Y (pp (pv 1)) (aX (sc:=defScope du) (N:=["_law_pot_here","_law_table","_law_wide","_law_high","_law_found","_law_part","_law_bad","_law_way"]) Y Y ∅) (λ _ _ _ _ _=>ap (i:=0) (by show List.Nodup (["_law_key","_law_table"]:List Str) ; decide +kernel) Y (Or.inl Y) (Or.inr Y)) (λ _ _ _ _ _=>bi) (λ _ _ _ _ _=>(@aV _ _ _ _ ((pv 0)^^^((cr hu1 (pv 1) (pv 0) (λ _ _=>Y))^^^ad))))))⁻¹)<|>(@ai _ _ _ (cT hu1 (pv 4) ((pv 5)|||lL|||(@aF _ _ _ _ _ (af^^^ad))) (@fI _ _ _ _ _ _ _ _ _ _ _ _ PySem.F.plainAttrs_dict PySem.F.slot_dict_pop PySem.F.type_dict_pop (eO hu1) (pv 4) ((pv 5)^^^ad) Y Y Y Y Y) Y)))))))))))))<<<((uA (pv 4))⁻¹)))))),?_⟩;have z4:4096<=sizeLine:=∅
 have mn:m * n<=256:=Nat.mul_le_mul m16 n16;have kl:(byP (aG f0 (ak m n))).length=m * n:=by rw [cQ,bH]
 have mn1:1<=m * n:=Nat.mul_le_mul m1 n1;have b16:∀ {x:Nat},x<=16->(x:Int)<=10 ^ 60:=λ h=>Int.le_trans (show ((_:Nat):Int)<=16 by omega) ∅;have ptd:td≠p:=λ z=>by obtain ⟨_,_,_,_,_,e⟩:=pt; rw [z,e] at htd; cases htd
 refine am (λ σ' H'=>∃fd:Addr,σ'=[↑p,↑td,⇑(m:Int),⇑(n:Int),↑fd,none,none,none]/\H fd=none/\H' fd=some (.dT (byP (aG f0 (ak m n))))/\Same H H') (λ R hR=>?_) ?_
 ·exact ⟨_,Y,td,_,Y,.inl htd,(λ z=>by rw [z] at kl; simp at kl; omega),mr _ _ m16 n16 (eR f0 _),λ fd hfd=>hR _ _ ⟨fd,Y,hfd,ae,FG hfd⟩⟩
 rintro _ H1 ⟨fd,rfl,hfd,hf1,s1⟩;have pfd:fd≠p:=Ne.symm (pt.ne hfd);have pt1:=pt.same s1;refine am (λ σ' H'=>∃ (pa:Addr) (a b:Int),σ'=[↑p,↑td,⇑(m:Int),⇑(n:Int),↑fd,↑pa,none,none]/\1<=a/\a<=m/\1<=b/\b<=n/\H' pa= ~~~[.int a,.int b]/\H' fd=some (.dT (byP (aG f0 (ak m n))))/\PotB H' p/\But p H H') (λ R hR=>?_) ?_
 ·refine ⟨_,Y,_,Y,p,_,Y,pt1,⋯,b16 m16,λ r H2 r0 r1 pt2 b2=>⟨_,_,Y,Y,_,Y,_,Y,p,_,Y,pt2,⋯,b16 n16,λ r' H3 r0' r1' pt3 b3=>⟨_,_,Y,Y,zS2,λ pa hpa=>?_⟩⟩⟩;have bt3:But p H H3:=(Same.but s1).trans (b2.trans b3);obtain ⟨H4,e4,k4,n4,s4,b4,pt4⟩:=eC (o:=.tup [.int (1 + r),.int (1 + r')]) bt3 pt3 hpa;rw [show upd H3 pa _=H4 from e4];exact hR _ _ ⟨pa,1 + r,1 + r',rfl,⋯,⋯,⋯,⋯,k4,s4 _ _ (b3 _ _ pfd (b2 _ _ pfd hf1)),pt4,b4⟩
 rintro _ H2 ⟨pa,a,b,rfl,a1,a2,b1,b2,hpa,hf2,pt2,bt2⟩;refine am (λ σ' H'=>∃ (bl l1 t1:Addr) (z:Int), σ'=[↑p, ↑td, ⇑(m:Int), ⇑(n:Int), ↑fd, ↑pa, ↑bl, none]/\0<=z/\H' bl=some (.lst [.int (-1 - z), .bl true, .non, .str "1", .ref l1, .ref t1])/\H' l1=↥[.int 1]/\H' t1= ~~~[.int 1]/\bl≠p/\l1≠p/\t1≠p/\H' pa= ~~~[.int a, .int b]/\H' fd=some (.dT (byP (aG f0 (ak m n))))/\PotB H' p/\But p H H') (λ R hR=>?_) ?_
 ·refine ⟨1,Y,_,Y,p,_,Y,pt2,∅,∅,λ z H3 z0 z1 pt3 b3=>⟨_,_,Y,Y,zS1,λ l1 hl1=>?_⟩⟩;have npa:pa≠p:=λ e=>by obtain ⟨_,_,_,_,_,x⟩:=pt2; rw [e,x] at hpa; cases hpa
  have bt3:But p H H3:=bt2.trans b3;obtain ⟨H4,e4,k4,n4,s4,b4,pt4⟩:=eC (o:=.lst [.int 1]) bt3 pt3 hl1;rw [show upd H3 l1 _=H4 from e4];refine ⟨zS1,λ t1 ht1=>?_⟩;obtain ⟨H5,e5,k5,n5,s5,b5,pt5⟩:=eC (o:=.tup [.int 1]) b4 pt4 ht1;rw [show upd H4 t1 _=H5 from e5];refine ⟨zS6,λ bl hbl=>?_⟩;obtain ⟨H6,e6,k6,n6,s6,b6,pt6⟩:=eC (o:=.lst [.int (-1 - z),.bl true,.non,.str "1",.ref l1,.ref t1]) b5 pt5 hbl;rw [show upd H5 bl _=H6 from e6];have s46:=s4.trans (s5.trans s6);exact hR _ _ ⟨bl,l1,t1,z,rfl,z0,k6,s6 _ _ (s5 _ _ k4),s6 _ _ k5,n6,n4,n5,s46 _ _ (b3 _ _ npa hpa),s46 _ _ (b3 _ _ pfd hf2),pt6,b6⟩
 rintro _ H3 ⟨bl,l1,t1,z,rfl,z0,hbl,hl1,ht1,nbl,nl1,nt1,hpa,hf3,pt3,bt3⟩;refine am (λ σ' H'=>∃wy:Int, σ'=[↑p, ↑td, ⇑(m:Int), ⇑(n:Int), ↑fd, ↑pa, ↑bl, ⇑wy]/\0<=wy/\wy < 12/\H' bl=some (.lst [.int (-1 - z), .bl true, .non, .str "1", .ref l1, .ref t1])/\H' l1=↥[.int 1]/\H' t1= ~~~[.int 1]/\H' pa= ~~~[.int a, .int b]/\H' fd=some (.dT (byP (aG f0 (ak m n))))/\PotB H' p/\But p H H') (λ R hR=>?_) ?_
 ·have npa:pa≠p:=λ e=>by obtain ⟨_,_,_,_,_,x⟩:=pt3; rw [e,x] at hpa; cases hpa
  exact ⟨_,Y,p,_,Y,pt3,∅,∅,λ wy H4 w0 w1 pt4 b4=>hR _ _ ⟨wy,Y,w0,w1,b4 _ _ nbl hbl,b4 _ _ nl1 hl1,b4 _ _ nt1 ht1,b4 _ _ npa hpa,b4 _ _ pfd hf3,pt4,bt3.trans b4⟩⟩
 rintro _ H4 ⟨wy,rfl,w0,w1,hbl,hl1,ht1,hpa,hf4,pt4,bt4⟩;obtain ⟨xs,hp4⟩:∃xs,H4 p=↥xs:=by obtain ⟨_,_,_,_,_,x⟩:=pt4; exact ⟨_,x⟩
 have hab:(a,b)∈ak m n:=partsL_mem.mpr ⟨⟨a1,a2⟩,b1,b2⟩;obtain ⟨i,hi⟩:∃i:Nat,(byP (aG f0 (ak m n)))[i]? = some (pk (a,b),.int (f0 (a,b))):=by obtain ⟨i,hi⟩:=List.getElem?_of_mem hab;exact ⟨i,by unfold byP aG; rw [List.getElem?_map,List.getElem?_map,hi]; rfl⟩
 have ok0:∀Hx:Hp,OkK K p fd Hx (byP (aG f0 (ak m n))):=λ Hx=>OkK.tab K p fd Hx f0 _;have ln9:∀k v,(cI (byP (aG f0 (ak m n))) k v).length<=299:=λ k v=>by have:=cG (byP (aG f0 (ak m n))) k v; omega
 have er9:((byP (aG f0 (ak m n))).eraseIdx i).length<=298:=by have:=List.length_eraseIdx_le (byP (aG f0 (ak m n))) i; omega
 have le9:∀k v,(cI ((byP (aG f0 (ak m n))).eraseIdx i) k v).length<=299:=λ k v=>by have:=cG ((byP (aG f0 (ak m n))).eraseIdx i) k v; omega
 have fit:∀ (o:HO),But p H (upd H4 fd o):=λ o c u nc e=>by rw [aj (ah e hfd)]; exact bt4 _ _ nc e
 have ptu:∀ (o:HO),PotB (upd H4 fd o) p:=λ o=>by obtain ⟨x,y,e1,e2,e3,e4⟩:=pt4; exact ⟨x,y,e1,e2,e3,by rw [aj (Ne.symm pfd)]; exact e4⟩
 have npf:pa≠fd:=λ e=>by rw [e,hf4] at hpa; cases hpa
 have fitX:∀ {Hx:Hp} {o:HO},But fd H4 Hx->But p H (upd Hx fd o):=λ bx c u nc e=>by rw [aj (ah e hfd)]; exact bx _ _ (ah e hfd) (bt4 _ _ nc e)
 have ptX:∀ {Hx:Hp} {o:HO},But fd H4 Hx->PotB (upd Hx fd o) p:=λ bx=>by obtain ⟨x,y,e1,e2,e3,e4⟩:=pt4; exact ⟨x,y,e1,e2,e3,by rw [aj (Ne.symm pfd)]; exact bx _ _ (Ne.symm pfd) e4⟩
 have xE:∀ (o:HO) {c:Addr} {u:HO},H4 c=some u->c≠fd->upd H4 fd o c=some u:=λ o c u e nc=>by rw [aj nc]; exact e
 refine am (λ σ' H'=>σ'=[↑p,↑td,⇑(m:Int),⇑(n:Int),↑fd,↑pa,↑bl,⇑wy]/\PotB H' p/\But p H H'/\((∃kvs,H' fd=some (.dT kvs)/\OkK K p fd H' kvs/\kvs.length<=299/\(kvs.length≠m * n\/∃q∈kvs,dz m n (qOf q)=false))\/∀H2,But p H' H2->NoTb K H2 m n (.ref fd))) (λ R hR=>?_) ?_
 ·refine ⟨_,Y,_,_,Y,Y,_,Y,?_⟩;rcases (by omega:wy < 6\/wy=6\/wy=7\/wy=8\/wy=9\/wy=10\/wy=11) with h6 | rfl | rfl | rfl | rfl | rfl | rfl
  ·rw [decide_eq_true h6];refine aP ?_;obtain ⟨v,hv,fv,wv⟩:∃v,atI [.int (-1 - z),.bl true,.non,.str "1",.ref l1,.ref t1] wy=some v/\sr K p fd H4 v/\aA v 0=false:=by
    rcases (by omega:wy=0\/wy=1\/wy=2\/wy=3\/wy=4\/wy=5) with rfl | rfl | rfl | rfl | rfl | rfl
    ·exact ⟨_,Y,λ _ _=>⟨_,Ty.int⟩,A8 ⋯⟩
    ·exact ⟨_,Y,λ _ _=>⟨_,Ty.bl⟩,Y⟩
    ·exact ⟨_,Y,λ _ _=>⟨_,Ty.non⟩,Y⟩
    ·exact ⟨_,Y,λ _ _=>⟨_,Ty.str⟩,Y⟩
    ·exact ⟨_,Y,λ H' f=>⟨_,Ty.lst (f _ _ nl1 (λ e=>by rw [e,hf4] at hl1; cases hl1) hl1)⟩,Y⟩
    ·exact ⟨_,Y,λ H' f=>⟨_,Ty.tup (f _ _ nt1 (λ e=>by rw [e,hf4] at ht1; cases ht1) ht1)⟩,Y⟩
   refine ⟨_,Y,_,Y,bl,_,_,_,Y,Y,FI hbl,hv,_,Y,_,Y,fd,_,Y,DPut.t (k:=pk (a,b)) hf4 hpa ⋯,hR _ _ ⟨Y,ptu _,fit _,.inl ⟨_,ae,((ok0 H4).put (is:=[a,b]) (by show 2<=9; decide) fv).fr (eV But.refl),ln9 _ _,.inr ⟨_,eW,uK wv⟩⟩⟩⟩
  ·refine aD ⟨_,rfl,rfl,_,rfl,aP ?_⟩;refine ⟨_,Y,.inr (.inr (.inl ⟨Y,.inr ⟨_,hf4⟩⟩)),_,Y,fd,pa,_,pk (a,b),i,_,Y,Y,hf4,hpa,hi,hR _ _ ⟨Y,ptu _,fit _,.inl ⟨_,ae,((ok0 H4).erase).fr (eV But.refl),⋯,.inl ?_⟩⟩⟩;rw [List.length_eraseIdx_of_lt (List.getElem?_eq_some_iff.mp hi).1,kl]; omega
  ·refine aD ⟨_,rfl,rfl,_,rfl,aD ⟨_,rfl,rfl,_,rfl,aP ?_⟩⟩;refine ⟨_,_,Y,Y,⟨∅,∅,∅⟩,_,Y,_,Y,_,_,Y,Y,_,Y,pa,_,1,_,Y,Y,FH hpa,Y,zS2,λ kt hkt=>?_⟩;obtain ⟨H5,e5,k5,s5⟩:∃H',upd H4 kt (.tup [.int ((m:Int) + 1),.int b])=H'/\H' kt= ~~~[.int ((m:Int) + 1),.int b]/\Same H4 H':=⟨_,Y,ae,FG hkt⟩
   rw [show upd H4 kt _=H5 from e5];exact ⟨fd,_,Y,DPut.t (k:=[Sum.inl ((m:Int) + 1),Sum.inl b]) (s5 _ _ hf4) k5 ⋯,hR _ _ ⟨Y,ptX (λ c o _ e=>s5 _ _ e),fitX (λ c o _ e=>s5 _ _ e),.inl ⟨_,ae,(ok0 _).put (is:=[(m:Int) + 1,b]) (by show 2<=9; decide) (λ _ _=>⟨_,Ty.int⟩),ln9 _ _,.inr ⟨_,eW,kF (is:=[(m:Int) + 1,b]) (by simp only [iT,Bool.and_eq_false_iff]; exact .inl (.inr (A8 ⋯)))⟩⟩⟩⟩
  ·refine aD ⟨_,rfl,rfl,_,rfl,aD ⟨_,rfl,rfl,_,rfl,aD ⟨_,rfl,rfl,_,rfl,aP ?_⟩⟩⟩;refine ⟨_,Y,.inr (.inr (.inl ⟨Y,.inr ⟨_,hf4⟩⟩)),_,Y,fd,pa,_,pk (a,b),i,_,Y,Y,hf4,hpa,hi,_,Y,_,Y,pa,_,0,_,Y,Y,FH (xE _ hpa npf),Y,zS2,λ kt hkt=>?_⟩;obtain ⟨H5,e5,k5,s5⟩:∃H',upd (upd H4 fd (.dT ((byP (aG f0 (ak m n))).eraseIdx i))) kt (.tup [.int a,.int 0])=H'/\H' kt= ~~~[.int a,.int 0]/\Same (upd H4 fd (.dT ((byP (aG f0 (ak m n))).eraseIdx i))) H':=⟨_,Y,ae,FG hkt⟩
   rw [show upd (upd H4 fd (.dT ((byP (aG f0 (ak m n))).eraseIdx i))) kt _=H5 from e5];have b5:But fd H4 H5:=λ c o nc e=>s5 _ _ (xE _ e nc);exact ⟨fd,_,Y,DPut.t (k:=[Sum.inl a,Sum.inl 0]) (s5 _ _ ae) k5 ⋯,hR _ _ ⟨Y,ptX b5,fitX b5,.inl ⟨_,ae,((ok0 _).erase).put (is:=[a,0]) (by show 2<=9; decide) (λ _ _=>⟨_,Ty.int⟩),le9 _ _,.inr ⟨_,eW,kF (is:=[a,0]) (by simp only [iT,Bool.and_eq_false_iff]; exact .inl (.inl (.inr (A8 ⋯))))⟩⟩⟩⟩
  ·refine aD ⟨_,rfl,rfl,_,rfl,aD ⟨_,rfl,rfl,_,rfl,aD ⟨_,rfl,rfl,_,rfl,aD ⟨_,rfl,rfl,_,rfl,aP ?_⟩⟩⟩⟩;exact ⟨_,Y,.inr (.inr (.inl ⟨Y,.inr ⟨_,hf4⟩⟩)),_,Y,fd,pa,_,pk (a,b),i,_,Y,Y,hf4,hpa,hi,_,Y,fd,_,_,Y,Y,ae,⋯,λ o rows r=>hR _ _ ⟨Y,ptX (Hx:=(upd H4 fd (.dT ((byP (aG f0 (ak m n))).eraseIdx i)))) (λ c o nc e=>xE _ e nc),fitX (Hx:=(upd H4 fd (.dT ((byP (aG f0 (ak m n))).eraseIdx i)))) (λ c o nc e=>xE _ e nc),.inr λ H2 b2=>qo (xE _ hp4 (Ne.symm pfd)) ae ((ok0 _).erase) (λ _ _=>⟨_,Ty.int⟩) ⋯ r b2⟩⟩
  ·refine aD ⟨_,rfl,rfl,_,rfl,aD ⟨_,rfl,rfl,_,rfl,aD ⟨_,rfl,rfl,_,rfl,aD ⟨_,rfl,rfl,_,rfl,aD ⟨_,rfl,rfl,_,rfl,aP ?_⟩⟩⟩⟩⟩;have htd4:=bt4 _ _ ptd htd;refine ⟨_,Y,td,_,Y,htd4,λ ob=>?_⟩;have hfz:(upd H4 td (.frz ob (.dT (byP (aG f0 (ak m n)))))) td=some (.frz ob (.dT (byP (aG f0 (ak m n))))):=ae;have btd:But td H4 (upd H4 td (.frz ob (.dT (byP (aG f0 (ak m n)))))):=λ c o nn e=>by rw [aj nn]; exact e
   generalize upd H4 td (.frz ob (.dT (byP (aG f0 (ak m n)))))=Hf at hfz btd ⊢;refine nj (a:=td) (ob:=ob) (kvs:=(byP (aG f0 (ak m n)))) (λ i us Hx=>us.length=i/\Same Hf Hx) ⟨rfl,Same.refl _⟩ (λ i us Hx _ ⟨_,sx⟩=>sx _ _ hfz) ?_ ?_ ?_
   ·rintro i kk v qa us Hx hkv hqa ⟨ul,sx⟩;obtain ⟨pq,hpq,rfl,rfl⟩:=gc hkv;have il:=(A3.mp hkv).1;refine ⟨leS.set rfl,bE ?_⟩;refine ⟨_,Y,_,Y,_,Y,td,.int (f0 pq),Y,.inr ⟨_,pk pq,qa,.inr ⟨ob,sx _ _ hfz⟩,Y,hqa,(eS (B2 hpq)).symm⟩,zS2,λ t2 ht2=>?_⟩;exact ⟨_,(by omega:(byP (aG f0 (ak m n))).length - (i + 1) < (byP (aG f0 (ak m n))).length - i),Y,il,by rw [List.length_append,ul]; rfl,sx.trans (FG ht2)⟩
   ·rintro i us Hx il ⟨ul,sx⟩;omega
   ·rintro us Hx ⟨ul,sx⟩;refine ⟨⋯,λ l hl=>?_⟩;have nlt:l≠td:=λ e=>by rw [e,sx _ _ hfz] at hl; cases hl
    have hpx:Hx p=↥xs:=sx _ _ (btd _ _ (Ne.symm ptd) hp4);have nlp:l≠p:=λ e=>by rw [e,hpx] at hl; cases hl
    refine ⟨td, ob, _, by rw [aj (Ne.symm nlt)]; exact sx _ _ hfz, (λ o u' z=>by cases htd.symm.trans (show H td=_ from z)), q (.ref l) _ (λ H2 b2=>.inl ⟨"list", Ty.lst (b2 _ _ nlp (by rw [aj nlt]; exact ae)), by decide⟩) ?_ λ c u nc e=>?_⟩
    ·obtain ⟨x,y,e1,e2,e3,e4⟩:=pt4;exact ⟨x,y,e1,e2,e3,by rw [aj (Ne.symm ptd),aj (Ne.symm nlp)]; exact sx _ _ (btd _ _ (Ne.symm ptd) e4)⟩
    ·by_cases ct:c=td
     ·subst ct;rw [htd] at e; cases e;exact ae
     ·have hx:=sx _ _ (btd _ _ ct (bt4 _ _ nc e));rw [aj ct,aj (ah hx hl)];exact hx
  ·refine aD ⟨_,rfl,rfl,_,rfl,aD ⟨_,rfl,rfl,_,rfl,aD ⟨_,rfl,rfl,_,rfl,aD ⟨_,rfl,rfl,_,rfl,aD ⟨_,rfl,rfl,_,rfl,aD ?_⟩⟩⟩⟩⟩;refine ⟨_,Y,.inr (.inr (.inl ⟨Y,.inr ⟨_,hf4⟩⟩)),_,Y,fd,pa,_,pk (a,b),i,_,Y,Y,hf4,hpa,hi,_,Y,_,Y,zS1,λ t2 ht2=>?_⟩;obtain ⟨H5,e5,k5,s5⟩:∃H',upd (upd H4 fd (.dT ((byP (aG f0 (ak m n))).eraseIdx i))) t2 (.tup [.int 1])=H'/\H' t2= ~~~[.int 1]/\Same (upd H4 fd (.dT ((byP (aG f0 (ak m n))).eraseIdx i))) H':=⟨_,Y,ae,FG ht2⟩
   rw [show upd (upd H4 fd (.dT ((byP (aG f0 (ak m n))).eraseIdx i))) t2 _=H5 from e5];refine ⟨pa,t2,_,_,Y,Y,FH (s5 _ _ (xE _ hpa npf)),FH k5,by simp,zS3,(λ z=>by cases z),λ _ kt hkt=>?_⟩;obtain ⟨H6,e6,k6,s6⟩:∃H',upd H5 kt (.tup ([.int a,.int b] ++ [.int 1]))=H'/\H' kt= ~~~([.int a,.int b] ++ [.int 1])/\Same H5 H':=⟨_,Y,ae,FG hkt⟩
   rw [show upd H5 kt _=H6 from e6];have b6:But fd H4 H6:=λ c o nc e=>s6 _ _ (s5 _ _ (xE _ e nc));exact ⟨fd,_,Y,DPut.t (k:=[Sum.inl a,Sum.inl b,Sum.inl 1]) (s6 _ _ (s5 _ _ ae)) k6 ⋯,hR _ _ ⟨Y,ptX b6,fitX b6,.inl ⟨_,ae,((ok0 _).erase).put (is:=[a,b,1]) (by show 3<=9; decide) (λ _ _=>⟨_,Ty.int⟩),le9 _ _,.inr ⟨_,eW,kF (is:=[a,b,1]) rfl⟩⟩⟩⟩
 rintro _ H5 ⟨rfl,pt5,bt5,h⟩;obtain ⟨xs5,hp5⟩:∃xs,H5 p=↥xs:=by obtain ⟨_,_,_,_,_,x⟩:=pt5; exact ⟨_,x⟩
 rcases h with ⟨kvs,hk,ok5,l5,bad⟩ | h
 ·refine ⟨_,Y,.inl ⟨fd,kvs,Y,hk,λ o rows r=>q _ _ (λ H2 b2=>qm hp5 hk ok5 ⋯ bad r b2) ?_ λ c u nc e=>?_⟩⟩
  ·obtain ⟨x,y,e1,e2,e3,e4⟩:=pt5;exact ⟨x,y,e1,e2,e3,by rw [aj (Ne.symm pfd)]; exact e4⟩
  ·rw [aj (ah e hfd)]; exact bt5 _ _ nc e
 ·exact ⟨_,Y,.inr (q _ _ h pt5 bt5)⟩
end
theorem qt {ns:List Int} {lo hi:Option Int} {x:V} {c0:Int} (h:x∈gj (ns.map V.int) lo hi ++ [.int c0]):∃c,x=.int c:=by
 rcases B9.mp h with h | h
 ·unfold gj at h;obtain ⟨c,_,e⟩:=List.mem_map.mp (List.mem_of_mem_drop (List.mem_of_mem_take h));exact ⟨c,e.symm⟩
 ·exact ⟨c0,C5.mp h⟩
theorem Thg.ty {K:C1} {p:Addr} {H:Hp} {x:V} (h:Thg p H x):∃T,Ty K H x T:=by
 rcases h with h | ⟨a,rfl,_,⟨xs,h⟩ | ⟨xs,h⟩ | ⟨xs,h⟩⟩
 ·exact (TyS.flat (K:=K) (S:=λ _=>True) (H:=H) h).2
 ·exact ⟨_,Ty.lst h⟩
 ·exact ⟨_,Ty.tup h⟩
 ·exact ⟨_,Ty.dK h⟩
theorem Thg.same {p:Addr} {H H':Hp} {x:V} (s:Same H H') (h:Thg p H x):Thg p H' x:=h.but (Pc.Same.but s)
def gR (n:Int):PyData:=.list [.bool true,.bool (decide (V.int 0=V.int n)),.bool (decide (V.int 1=V.int n)),.bool (decide (V.int 2=V.int n)),.bool false,.bool false]
theorem dO {K:C1} {H:Hp} {l:Addr} {n:Int} (h:H l=↥(jG n)):DatV K H (.ref l) (gR n):=.lst (FI h) (.cons (.bl _) (.cons (.bl _) (.cons (.bl _) (.cons (.bl _) (.cons (.bl _) (.cons (.bl _) .nil))))))
theorem fD (n:Int):SeqAt.shaped (gR n)=true:=rfl
theorem kG (n:Int):(!PyData.eqv (gR n) (gR n))=false:=by rw [PySem.SeqAt.eqv_refl _ (show PyData.canLay0 (gR n)=true from rfl)]; rfl
theorem kH {t:Tr} (h:dpt t<=60):SeqAt.shaped (toD t)=true:=by unfold SeqAt.shaped;rw [fZ,decide_eq_true (by have:=fB t; omega)]; rfl
theorem nR (f:Int×Int->Int) (ps:List (Int×Int)) (p:Int×Int):aG f (ps ++ [p])=aG f ps ++ [(p,.int (f p))]:=by unfold aG; rw [List.map_append]; rfl
section
variable {P:FC} {w:FE} {K:C1} {mg:Str->Option FF} {base:Heap}
def SdV (p:Addr) (H:Hp) (wh:Int) (wv hv:V):Prop:=(wh=0/\Thg p H wv/\Thg p H hv/\(aA wv 1 && aA hv 1)=false)\/(wh=1/\∃w2 h2:Int,wv=.int w2/\hv=.int h2/\1<=w2/\1<=h2/\(16 < w2\/16 < h2))
theorem SdV.but {p:Addr} {H H':Hp} {wh:Int} {wv hv:V} (h:SdV p H wh wv hv) (b:But p H H'):SdV p H' wh wv hv:=h.imp (λ ⟨a,x,y,z⟩=>⟨a,x.but b,y.but b,z⟩) id
theorem SdV.swap {p:Addr} {H:Hp} {wh:Int} {wv hv:V} (h:SdV p H wh wv hv):SdV p H wh hv wv:=h.imp (λ ⟨a,x,y,z⟩=>⟨a,y,x,by rw [Bool.and_comm]; exact z⟩) λ ⟨a,w2,h2,x,y,c,d,e⟩=>⟨a,h2,w2,y,x,d,c,e.symm⟩
theorem SdV.due {K:C1} {C p s:Addr} {H:Hp} {wh:Int} {wv hv x:V} {way:Int} (h:SdV p H wh wv hv) (w:way=0\/way=1):yS K C H way s wv hv x (jG wh):=by
 rcases w with w | w
 ·rcases h with ⟨e,a,b,c⟩ | ⟨e,w2,h2,rfl,rfl,c1,c2,c3⟩
  ·exact .inl ⟨w,.inl ⟨wh,Y,a.ty,b.ty,.inl ⟨e,c⟩⟩⟩
  ·exact .inl ⟨w,.inl ⟨wh,Y,⟨_,Ty.int⟩,⟨_,Ty.int⟩,.inr ⟨w2,h2,Y,Y,c1,c2,e,c3⟩⟩⟩
 ·rcases h with ⟨e,a,b,c⟩ | ⟨e,w2,h2,rfl,rfl,c1,c2,c3⟩
  ·exact .inr ⟨w,wh,Y,a.ty,b.ty,.inl ⟨e,c⟩⟩
  ·exact .inr ⟨w,wh,Y,⟨_,Ty.int⟩,⟨_,Ty.int⟩,.inr ⟨w2,h2,Y,Y,c1,c2,.inl ⟨e,c3⟩⟩⟩
def mz (K:C1):Sp:=λ vs H Q _=>∃ (a:Addr) (ns:List Int),vs=[.ref a]/\SqL K H a (ns.map V.int)/\ns.length<=63/\∀H',Q (.bl true) H'
theorem sclaw:FnScope ["_law_script","_law_pot_here","_law_worth","_law_shop","_law_wide","_law_high","_law_table","_law_own_wide","_law_own_high","_law_kept","_law_told_here","_law_first","_law_cell","_law_bad","_law_at","_law_spoiled_here","_law_which","_law_sides","_law_way","_law_thing"] ["_law_script"] (defScope jy):=⟨Y,Y,Y,∅,Y,∅,∅⟩
theorem uL {f C:Addr} {fd:FD} (F:Fun K "law" "law" jy f fd) (B:Blt mg) (hdc:mg "dict" = none) (DP:Dn P w K mg base "_law_pot" ["_law_cell"] 1 (jZ)) (DD:Dn P w K mg base "_law_draw" ["_law_pot_here","_law_many"] 1 (dH)) (DG:Dn P w K mg base "_law_great" ["_law_pot_here","_law_many"] 2 (eU)) (DBe:Dn P w K mg base "best_of" ["shop","wide","high"] 35 (spBestOf C)) (DBr:Dn P w K mg base "bears" ["shop","wide","high","table"] 7 (spBearsT C)) (DNS:Dn P w K mg base "_law_no_side" ["_law_pot_here"] 3 (gP)) (DSp:Dn P w K mg base "_law_spoiled" ["_law_pot_here","_law_table","_law_wide","_law_high"] 3 (iW K)) (DTo:Dn P w K mg base "_law_told" ["_law_way","_law_shop","_law_wide","_law_high","_law_table"] 36 (iV K C)) (DDu:Dn P w K mg base "_law_due" ["_law_which"] 1 (kD)) (DSh:Kn P w K mg base "Shop" C ["self","blade","kinds"] 3 (jT C)):FnOk P w K mg base CX0 37 f fd ["_law_script"] (mz K):=by
 refine F.ok sclaw (λ vs H Q E h=>?_) (λ cdv A outer s H vs Q E hr h=>?_)
 ·obtain ⟨a,ns,rfl,_⟩:=h
  rfl
 obtain ⟨a,ns,rfl,hS,n63,q⟩:=h;have nd:=sclaw.nd;have hu:=hr.units;have hu1:=C3 (Nat.add_le_add_left (show 1<=64 by decide) _) hu;have hu2:=hr.units66;refine ⟨_,((1∣(DP∩((((pv 0)|||rq|||(@aV _ _ _ _ (af^^^ad)))&&&aW&&&af)^^^ad)))<<<((2∣(DG∩((pv 1)^^^((af|||gi|||af)^^^ad))))<<<((3∣(yy DSh (hr.mono ∅) Y ((DD∩((pv 1)^^^(af^^^ad)))^^^((@aV _ _ _ _ ((@aF _ _ _ _ _ ((af|||bh|||(DD∩((pv 1)^^^(af^^^ad))))^^^((af|||bh|||(DD∩((pv 1)^^^(af^^^ad))))^^^((pv 2)^^^(af^^^((@bJ _ _ _ _ _ _ _ _ cJ (DD∩((pv 1)^^^(af^^^ad))) af (aw _))^^^ad))))))^^^ad))^^^ad))))<<<((im Y nd Y Y (i:=4) (j:=5) ∅ Y Y ((af|||bh|||(DD∩((pv 1)^^^(af^^^ad))))^^^((af|||bh|||(DD∩((pv 1)^^^(af^^^ad))))^^^ad)) Y)<<<((6∣gy)<<<((@bX _ _ _ _ _ _ _ _ C7 Y (dC Y B.range (af^^^(((pv 4)|||bh|||af)^^^ad))) (ap (i:=7) nd Y (Or.inl Y)) (@ai _ _ _ (@bX _ _ _ _ _ _ _ _ C7 Y (dC Y B.range (af^^^(((pv 5)|||bh|||af)^^^ad))) (ap (i:=8) nd Y (Or.inl Y)) (@ai _ _ _ (cT hu1 (pv 6) (@aF _ _ _ _ _ ((pv 7)^^^((pv 8)^^^ad))) (((pv 2)|||cS|||(pv 7))|||cS|||(pv 8)) Y)) (by intro _; rfl))) (by intro _; rfl))<<<((9∣(@cx _ _ _ _ _ _ _ _ _ gE Y hdc PyProof.Rows.boot_dict ((pv 6)^^^ad) ∅ ∅ Y Y))<<<((10∣(DBr∩((pv 3)^^^((pv 4)^^^((pv 5)^^^((pv 6)^^^ad))))))<<<((@rC _ _ _ (11∣(DBe∩((pv 3)^^^((pv 4)^^^((pv 5)^^^ad))))))<<<((@bX _ _ _ _ _ _ _ _ C7 Y (bP ((@oH _ _ _ _ _ _ _ _ _ _ qY (pv 0) (lK af) (lK af))|||ix|||(@aV _ _ _ _ (af^^^ad)))) (ap (i:=12) nd Y (Or.inl Y)) ((1∣(DP∩((pv 12)^^^ad)))<<<((13∣(@aV _ _ _ _ ((DNS∩((pv 1)^^^ad))^^^((af|||bh|||(DG∩((pv 1)^^^(((@aV _ _ _ _ (af^^^((af|||gi|||af)^^^ad)))&&&aW&&&(DD∩((pv 1)^^^(af^^^ad))))^^^ad))))^^^ad))))<<<((14∣(DD∩((pv 1)^^^(af^^^ad))))<<<((15∣(DSp∩((pv 1)^^^((pv 6)^^^((pv 4)^^^((pv 5)^^^ad))))))<<<((@bX _ _ _ _ _ _ _ _ C7 Y (fc Y B.range (af^^^ad)) (ap (i:=16) nd Y (Or.inl Y)) ((17∣(@aV _ _ _ _ (((@aV _ _ _ _ ((pv 4)^^^((pv 5)^^^ad)))&&&aW&&&(@cx _ _ _ _ _ _ _ _ _ mH Y B.int PyProof.Rows.boot_int ((@bJ _ _ _ _ _ _ _ _ cJ (pv 14) af (aw _))^^^ad) ∅ ∅ Y Y))^^^(((pv 13)&&&aW&&&(pv 16))^^^ad))))<<<((((DD∩((pv 1)^^^(af^^^ad)))<*>cJ<*>af)<|>(@ai _ _ _ (17∣(@aV _ _ _ _ (((pv 13)&&&aW&&&(pv 16))^^^((af|||bh|||(DD∩((pv 1)^^^(af^^^ad))))^^^ad)))))<|>ay)<<<((((pv 14)<*>cJ<*>af)<|>(@ai _ _ _ (17∣(rG (pv 17) (@ow _ _ _ _ _ _ jJ af))))<|>ay)>>>(@bX _ _ _ _ _ _ _ _ C7 Y (bP (@aV _ _ _ _ ((@aF _ _ _ _ _ (af^^^((pv 6)^^^ad)))^^^((@aF _ _ _ _ _ (af^^^((pv 6)^^^ad)))^^^((@aF _ _ _ _ _ (af^^^((pv 15)^^^ad)))^^^((@aF _ _ _ _ _ (af^^^(dY^^^ad)))^^^ad)))))) (bQ Y (18•(19•bn))) (@ai _ _ _ (((DTo∪((pv 18)^^^((pv 3)^^^(((pv 17)&&&aW&&&af)^^^(((pv 17)&&&aW&&&af)^^^((pv 19)^^^ad))))))<*>(fj hu)<*>(DDu∩((pv 16)^^^ad)))<|>(bp⁻¹)<|>ay)) (by intro _; rfl))))) (by intro _; rfl))<<<((@bX _ _ _ _ _ _ _ _ C7 Y (bP (@aV _ _ _ _ ((pv 15)^^^(dY^^^ad)))) (ap (i:=19) nd Y (Or.inl Y)) (@ai _ _ _ (((DTo∪(af^^^((pv 3)^^^((pv 4)^^^((pv 5)^^^((pv 19)^^^ad))))))<*>(fj hu)<*>(DDu∩(af^^^ad)))<|>(bp⁻¹)<|>ay)) (by intro _; rfl))>>>((PW.pt (bR ((DTo∪(af^^^((pv 3)^^^(((pv 4)|||bh|||af)^^^((pv 5)^^^((pv 6)^^^ad))))))<*>(fj hu)<*>(DDu∩(af^^^ad))) (bu ((DTo∪(af^^^((pv 3)^^^((pv 4)^^^((pv 5)^^^(dY^^^ad))))))<*>(fj hu)<*>(@aV _ _ _ _ ad)))))<|>(bp⁻¹)<|>ay))))))) (by intro _; rfl))<<<(((PW.pt (bR ((DTo∪(af^^^((pv 3)^^^(af^^^(af^^^(dY^^^ad))))))<*>(fj hu)<*>(@aV _ _ _ _ ad)) (bR ((DTo∪(af^^^((pv 3)^^^(af^^^(af^^^(dY^^^ad))))))<*>(fj hu)<*>(@aV _ _ _ _ ad)) (bu ((pv 6)<*>(rz hu)<*>(pv 9))))))<|>(bp⁻¹)<|>ay)<<<((bA (@bJ _ _ _ _ _ _ _ _ cJ (DBr∩((pv 3)^^^((pv 4)^^^((pv 5)^^^((pv 6)^^^ad))))) (pv 10) (aw _)) (cj (@bJ _ _ _ _ _ _ _ _ (rB hu2) (DBe∩((pv 3)^^^((pv 4)^^^((pv 5)^^^ad)))) (pv 11) (aw _))))⁻¹)))))))))))),?_⟩
 have z4:4096<=sizeLine:=∅
 have ln:(ns.map V.int).length=ns.length:=List.length_map _;refine am (λ σ' H'=>∃p,σ'=[↑a,↑p,none,none,none,none,none,none,none,none,none,none,none,none,none,none,none,none,none,none]/\H p=none/\PotB H' p/\But p H H') (λ R hR=>?_) ?_
 ·refine ⟨_,Y,zS1,λ u hu=>?_⟩;obtain ⟨H1,e1,k1,s1⟩:∃H',upd H u (.lst [.int 0])=H'/\H' u=↥[.int 0]/\Same H H':=⟨_,Y,ae,FG hu⟩
  rw [show upd H u _=H1 from e1];refine ⟨a,u,_,_,Y,Y,hS.imp (λ h=>iS h s1) id,FI k1,(by show _ + 1<=_; omega),λ l hl=>?_⟩;obtain ⟨H2,e2,k2,s2⟩:∃H',upd H1 l (.lst (ns.map V.int ++ [.int 0]))=H'/\H' l=↥(ns.map V.int ++ [.int 0])/\Same H1 H':=⟨_,Y,ae,FG hl⟩
  rw [show upd H1 l _=H2 from e2];have l0:0 < (ns.map V.int ++ [V.int 0]).length:=by rw [List.length_append]; exact Nat.succ_pos _
  obtain ⟨c,hc⟩:∃c,(ns.map V.int ++ [V.int 0])[0]'l0=V.int c:=by
   rcases B9.mp (List.getElem_mem l0) with h | h
   ·obtain ⟨c,_,e⟩:=List.mem_map.mp h;exact ⟨c,e.symm⟩
   ·exact ⟨0,C5.mp h⟩
  exact ⟨l,_,0,_,Y,Y,FI k2,fR (C8 _) (by show (ns.map V.int ++ [V.int 0])[0]? = _; rw [List.getElem?_eq_getElem l0,hc]),c,Y,λ p H3 hp pt3 s3=>hR _ _ ⟨p,Y,(s1.trans s2).free hp,pt3,Pc.Same.but (s1.trans (s2.trans s3))⟩⟩
 rintro _ H1 ⟨p,rfl,hp,pt1,b1⟩;refine am (λ σ' H'=>∃wo:Int,σ'=[↑a,↑p,⇑wo,none,none,none,none,none,none,none,none,none,none,none,none,none,none,none,none,none]/\0<=wo/\wo < 10 ^ 57/\PotB H' p/\But p H H') (λ R hR=>?_) ?_
 ·exact ⟨_,Y,_,_,Y,Y,⟨∅,∅,∅⟩,p,_,Y,pt1,(by show (0:Int) < 10 ^ (57:Int).toNat; decide),(by show (10:Int) ^ (57:Int).toNat<=10 ^ 60; decide),λ z Hz z0 z1 ptz bz=>hR _ _ ⟨z,Y,z0,z1,ptz,b1.trans bz⟩⟩
 rintro _ H2 ⟨wo,rfl,wo0,wo57,pt2,b2⟩;refine am (λ σ' H'=>∃ (sh:Addr) (b:Int) (k:Kd),σ'=[↑a,↑p,⇑wo,↑sh,none,none,none,none,none,none,none,none,none,none,none,none,none,none,none,none]/\0<=b/\ShopAt C H' sh b [k]/\PotB H' p/\But p H H') (λ R hR=>?_) ?_
 ·refine ⟨_,Y,p,4,Y,pt2,∅,∅,λ b Ha b0 b1' pa ba=>?_⟩;refine ⟨_,Y,p,5,Y,pa,∅,∅,λ y1 Hb y10 y11 pb bb=>⟨_,_,Y,Y,_,Y,p,5,Y,pb,∅,∅,λ y2 Hc y20 y21 pc bc=>⟨_,_,Y,Y,_,Y,_,Y,p,2,Y,pc,∅,∅,λ y4 Hd y40 y41 pd bd=>⟨Y,zS5,λ t ht=>?_⟩⟩⟩⟩;have b2d:=b2.trans (ba.trans (bb.trans (bc.trans bd)));obtain ⟨H3,e3,k3,n3,s3,b3,pt3⟩:=eC (o:=.tup [.int (1 + y1),.int (1 + y2),.int wo,.int 0,.bl (decide (V.int y4=V.int 1))]) b2d pd ht;rw [show upd Hd t _=H3 from e3];refine ⟨zS1,λ l2 hl2=>?_⟩;obtain ⟨H4,e4,k4,s4⟩:∃H',upd H3 l2 (.lst [.ref t])=H'/\H' l2=↥[.ref t]/\Same H3 H':=⟨_,Y,ae,FG hl2⟩
  rw [show upd H3 l2 _=H4 from e4];refine λ x dx hx hdx ne0=>?_;have sm:Same H4 (upd (upd H4 dx (.own x)) x (.ins C dx [])):=nF hx hdx;have e60:(100:Int) < 10 ^ 60:=∅
  have e57:(10:Int) ^ 57 < 10 ^ 60:=∅
  have gk:Good ⟨1 + y1,1 + y2,wo,0,decide (V.int y4=V.int 1)⟩:=⟨by show 1<=1 + y1; omega,by show 1<=1 + y2; omega,wo0,C8 _,by show 1 + y1 < _; omega,by show 1 + y2 < _; omega,by show wo < _; omega,(by show (0:Int) < 10 ^ 60; decide)⟩
  refine ⟨x,dx,l2,b,[.ref t],[⟨1 + y1,1 + y2,wo,0,decide (V.int y4=V.int 1)⟩],Y,ae,b0,.inl (sm _ _ k4),.cons (.inl ⟨t,Y,sm _ _ (s4 _ _ k3)⟩) .nil,(λ k' hk'=>by rw [List.mem_singleton.mp hk']; exact gk),(by show 1<=1; decide),(by show 1<=8; decide),λ Hb Sb kb=>⟨Y,?_⟩⟩;have sb:Same H3 Hb:=λ c o e=>kb c o (ah (s4 _ _ e) hx) (sm _ _ (s4 _ _ e));exact hR _ _ ⟨x,b,_,rfl,b0,Sb,pt3.same sb,λ c o nn e=>sb _ _ (b3 _ _ nn e)⟩
 rintro _ H3 ⟨sh,b,k,rfl,b0,S3,pt3,b3⟩;refine am (λ σ' H'=>∃ (m n:Nat),σ'=[↑a,↑p,⇑wo,↑sh,⇑(m:Int),⇑(n:Int),none,none,none,none,none,none,none,none,none,none,none,none,none,none]/\1<=m/\m<=4/\1<=n/\n<=4/\ShopAt C H' sh b [k]/\Same H H') (λ R hR=>?_) ?_
 ·refine ⟨_,Y,p,4,Y,pt3,∅,∅,λ y1 Ha y10 y11 pa ba=>⟨_,_,Y,Y,_,Y,p,4,Y,pa,∅,∅,λ y2 H5 y20 y21 pb bb=>⟨_,_,Y,Y,_,_,Y,?_⟩⟩⟩;have b5:=ba.trans bb;have npt:∀ {c:Addr} {o:HO},H3 c=some o->(∀xs,o≠.lst xs)->c≠p:=λ {c o} h hn z=>by obtain ⟨_,_,_,_,_,e⟩:=pt3;rw [z,e] at h;exact hn _ (B5 h).symm
  have z:=hR _ H5 ⟨(1 + y1).toNat,(1 + y2).toNat,rfl,⋯,⋯,⋯,⋯,S3.keep (λ c xs h=>b5 _ _ (npt h (λ _ z=>by cases z)) h) (λ c C' d fs h=>b5 _ _ (npt h (λ _ z=>by cases z)) h),But.same (b3.trans b5) hp⟩;rw [show (((1 + y1).toNat:Nat):Int)=1 + y1 by omega,show (((1 + y2).toNat:Nat):Int)=1 + y2 by omega] at z;exact z
 rintro _ H4 ⟨m,n,rfl,m1,m4,n1,n4,S4,s04⟩;refine am (λ σ' H'=>∃td:Addr,σ'=[↑a,↑p,⇑wo,↑sh,⇑(m:Int),⇑(n:Int),↑td,none,none,none,none,none,none,none,none,none,none,none,none,none]/\H4 td=none/\H' td=some (.dT [])/\Same H4 H') (λ R hR=>?_) ?_
 ·exact λ td htd=>hR _ _ ⟨td,rfl,htd,ae,FG htd⟩
 rintro _ H5 ⟨td,rfl,htd4,htd5,s45⟩;have wo60:wo < 10 ^ 57:=wo57;refine am (λ σ' H'=>(∃v7 v8:Option V,σ'=[↑a,↑p,⇑wo,↑sh,⇑(m:Int),⇑(n:Int),↑td,v7,v8,none,none,none,none,none,none,none,none,none,none,none])/\H' td=some (.dT (byP (aG (λ q:Int×Int=>wo * q.1 * q.2) (ak m n))))/\But td H5 H') (λ R hR=>?_) ?_
 ·refine ⟨_,Y,_,_,Y,Y,1,_,Y,⟨∅,∅,⋯,⋯⟩,?_⟩;rw [show ((m:Int) + 1 - 1).toNat=m by omega];refine dD (lo:=1) (n:=m) (λ i σ' H'=>(∃v7 v8:Option V,σ'=[↑a,↑p,⇑wo,↑sh,⇑(m:Int),⇑(n:Int),↑td,v7,v8,none,none,none,none,none,none,none,none,none,none,none])/\H' td=some (.dT (byP (aG (λ q:Int×Int=>wo * q.1 * q.2) (ak i n))))/\But td H5 H') ⟨⟨_,_,rfl⟩,htd5,But.refl⟩ ?_ (λ σ Hx ⟨e,h,b⟩=>hR _ _ ⟨e,h,b⟩);rintro i _ Hx hi ⟨⟨v7,v8,rfl⟩,htx,bx⟩;refine ⟨_,Y,_,_,Y,Y,1,_,Y,⟨∅,∅,⋯,⋯⟩,?_⟩;rw [show ((n:Int) + 1 - 1).toNat=n by omega];refine dD (lo:=1) (n:=n) (λ j σ' H'=>(∃v8:Option V,σ'=[↑a,↑p,⇑wo,↑sh,⇑(m:Int),⇑(n:Int),↑td,⇑(1 + (i:Int)),v8,none,none,none,none,none,none,none,none,none,none,none])/\H' td=some (.dT (byP (aG (λ q:Int×Int=>wo * q.1 * q.2) (ak i n ++ eD (1 + (i:Int)) j))))/\But td H5 H') ⟨⟨_,rfl⟩,by rw [show eD (1 + (i:Int)) 0=[] from rfl,List.append_nil]; exact htx,bx⟩ ?_ (λ σ Hy ⟨⟨v8,e⟩,h,b⟩=>⟨⟨_,v8,e⟩,by rw [ci]; exact h,b⟩);rintro j _ Hy hj ⟨⟨v8,rfl⟩,hty,by1⟩;refine ⟨_,Y,_,Y,_,_,Y,Y,.inr ⟨⋯,⋯⟩,_,Y,_,_,Y,Y,.inr ⟨⋯,⋯⟩,_,Y,_,Y,_,Y,zS2,λ kt hkt=>?_⟩;obtain ⟨Hz,e1,k1,s1⟩:∃H',upd Hy kt (.tup [.int (1 + (i:Int)),.int (1 + (j:Int))])=H'/\H' kt= ~~~[.int (1 + (i:Int)),.int (1 + (j:Int))]/\Same Hy H':=⟨_,Y,ae,FG hkt⟩
  rw [show upd Hy kt _=Hz from e1];have nk:kt≠td:=λ z=>by rw [z,hty] at hkt; cases hkt
  have pl:(ak i n ++ eD (1 + (i:Int)) j).length<=100:=by rw [List.length_append,bH,gI];have:i * n<=16:=C2 (Nat.mul_le_mul (show i<=4 by omega) n4) ∅;omega
  have nm:(1 + (i:Int),1 + (j:Int))∉ak i n ++ eD (1 + (i:Int)) j:=λ z=>by
   rcases B9.mp z with z | z
   ·have:=(partsL_mem.mp z).1.2;have:1 + (i:Int)<=i:=this;omega
   ·have:=(rowP_mem.mp z).2.2;have:1 + (j:Int)<=j:=this;omega
  refine ⟨td,_,Y,DPut.t (k:=pk (1 + (i:Int),1 + (j:Int))) (s1 _ _ hty) k1 (by rw [cQ]; omega),⟨_,Y⟩,?_,λ c o nc e=>by rw [aj nc]; exact s1 _ _ (by1 _ _ nc e)⟩;rw [ae,iQ (by rw [eR]; exact nm),fA,<- List.append_assoc,nR]
 rintro _ H6 ⟨⟨v7,v8,rfl⟩,htd6,b56⟩;have s46:Same H4 H6:=λ c o e=>b56 _ _ (ah e htd4) (s45 _ _ e);have f00:∀q∈ak m n,0<=(λ q:Int×Int=>wo * q.1 * q.2) q:=λ q hq=>by obtain ⟨⟨p1,_⟩,p3,_⟩:=partsL_mem.mp hq;exact Int.mul_nonneg (Int.mul_nonneg wo0 ⋯) ⋯
 have mn1:1<=m * n:=Nat.mul_le_mul m1 n1;have kl:(byP (aG (λ q:Int×Int=>wo * q.1 * q.2) (ak m n))).length=m * n:=by rw [cQ,bH]
 refine am (λ σ' H'=>∃ke:Addr,σ'=[↑a,↑p,⇑wo,↑sh,⇑(m:Int),⇑(n:Int),↑td,v7,v8,↑ke,none,none,none,none,none,none,none,none,none,none]/\H' ke=some (.dT (byP (aG (λ q:Int×Int=>wo * q.1 * q.2) (ak m n))))/\H' td=some (.dT (byP (aG (λ q:Int×Int=>wo * q.1 * q.2) (ak m n))))/\ke≠td/\Same H6 H') (λ R hR=>?_) ?_
 ·exact ⟨_,Y,td,_,Y,.inl htd6,(λ z=>by rw [z] at kl; simp at kl; omega),mr _ _ ⋯ ⋯ (eR (λ q:Int×Int=>wo * q.1 * q.2) _),λ ke hke=>hR _ _ ⟨ke,Y,ae,(FG hke) _ _ htd6,Ne.symm (ah htd6 hke),FG hke⟩⟩
 rintro _ H7 ⟨ke,rfl,hke7,htd7,nkt,s67⟩;have s47:=s46.trans s67;have S7:ShopAt C H7 sh b [k]:=S4.keep (λ c o e=>s47 _ _ e) (λ c C' d fs e=>s47 _ _ e);refine am (λ σ' H'=>∃ob:Obj,σ'=[↑a,↑p,⇑wo,↑sh,⇑(m:Int),⇑(n:Int),↑td,v7,v8,↑ke,some (.bl (bj b [k] (λ q:Int×Int=>wo * q.1 * q.2) m n)),none,none,none,none,none,none,none,none,none]/\H' td=some (.frz ob (.dT (byP (aG (λ q:Int×Int=>wo * q.1 * q.2) (ak m n)))))/\But td H7 H') (λ R hR=>?_) ?_
 ·exact ⟨_,Y,_,Y,_,Y,_,Y,sh,td,b,[k],m,n,_,Y,S7,(by show 1<=8; decide),b0,m1,⋯,n1,⋯,htd7,f00,λ ob H8 f8 b8=>hR _ _ ⟨ob,Y,f8,b8⟩⟩
 rintro _ H8 ⟨ob,rfl,ftd8,b78⟩;have s4u:Same H4 (upd H8 td (.dT (byP (aG (λ q:Int×Int=>wo * q.1 * q.2) (ak m n))))):=λ c o e=>by rw [aj (ah e htd4)]; exact b78 _ _ (ah e htd4) (s47 _ _ e)
 have Su:ShopAt C (upd H8 td (.dT (byP (aG (λ q:Int×Int=>wo * q.1 * q.2) (ak m n))))) sh b [k]:=S4.keep (λ c o e=>s4u _ _ e) (λ c C' d fs e=>s4u _ _ e);refine am (λ σ' H'=>∃ (fi fb:Addr) (fv:V),σ'=[↑a,↑p,⇑wo,↑sh,⇑(m:Int),⇑(n:Int),↑td,v7,v8,↑ke,some (.bl (bj b [k] (λ q:Int×Int=>wo * q.1 * q.2) m n)),↑fi,none,none,none,none,none,none,none,none]/\H' td=some (.dT (byP (aG (λ q:Int×Int=>wo * q.1 * q.2) (ak m n))))/\H' ke=some (.dT (byP (aG (λ q:Int×Int=>wo * q.1 * q.2) (ak m n))))/\H' fi=some (.tup [.int (bW b [k] ((m:Int),(n:Int))),fv,.ref fb])/\H' fb=some (.dT (byP (cC b [k] (ak m n))))/\fb≠td/\TrV H' (bT b [k] 33 ((m:Int),(n:Int))) fv/\Same H4 H') (λ R hR=>?_) ?_
 ·refine ⟨td,ob,_,ftd8,(λ o u' z=>by have e:=s04 _ _ (show H td=_ from z); rw [htd4] at e; cases e),?_⟩;refine ⟨_,Y,_,Y,_,Y,sh,b,[k],m,n,Y,Su,(by show 1<=8; decide),b0,m1,⋯,n1,⋯,λ r tb v H9 ntb hr ht hv s9=>hR _ _ ⟨r,tb,v,Y,s9 _ _ ae,s9 _ _ (by rw [aj nkt]; exact b78 _ _ nkt hke7),hr,ht,(λ z=>by rw [z,ae] at ntb; cases ntb),hv,s4u.trans s9⟩⟩
 rintro _ H9 ⟨fi,fb,fv,rfl,htd9,hke9,hfi9,hfb9,nfb,hfv9,s49⟩;have hS9:SqL K H9 a (ns.map V.int):=hS.imp (λ h=>iS h (s04.trans s49)) id;refine am (λ σ' H'=>(∃v1 v12 v13 v14 v15 v16 v17 v18 v19:Option V,σ'=[↑a,v1,⇑wo,↑sh,⇑(m:Int),⇑(n:Int),↑td,v7,v8,↑ke,some (.bl (bj b [k] (λ q:Int×Int=>wo * q.1 * q.2) m n)),↑fi,v12,v13,v14,v15,v16,v17,v18,v19])/\Same H9 H') (λ R hR=>?_) ?_
 ·refine ⟨_,Y,_,Y,_,Y,a,_,Y,hS9,λ u hu=>?_⟩;obtain ⟨Ha,e1,k1,s1⟩:∃H',upd H9 u (.lst (gj (ns.map V.int) (some 1) (some 21)))=H'/\H' u=↥(gj (ns.map V.int) (some 1) (some 21))/\Same H9 H':=⟨_,Y,ae,FG hu⟩
  rw [show upd H9 u _=Ha from e1];refine ⟨zS1,λ u2 hu2=>?_⟩;obtain ⟨Hb,e2,k2,s2⟩:∃H',upd Ha u2 (.lst [.int 1])=H'/\H' u2=↥[.int 1]/\Same Ha H':=⟨_,Y,ae,FG hu2⟩
  rw [show upd Ha u2 _=Hb from e2];have cl:=fH (ns.map V.int) (some 1) (some 21);refine ⟨u,u2,_,_,Y,Y,s2 _ _ k1,k2,(by show _ + 1<=_; omega),λ l hl=>?_⟩;obtain ⟨Hc,e3,k3,s3⟩:∃H',upd Hb l (.lst (gj (ns.map V.int) (some 1) (some 21) ++ [.int 1]))=H'/\H' l=↥(gj (ns.map V.int) (some 1) (some 21) ++ [.int 1])/\Same Hb H':=⟨_,Y,ae,FG hl⟩
  rw [show upd Hb l _=Hc from e3];have s9c:=s1.trans (s2.trans s3);refine ⟨l,Y,⟨_,FI k3⟩,bY (xs:=gj (ns.map V.int) (some 1) (some 21) ++ [.int 1]) (λ i σ' H'=>(∃v1 v12 v13 v14 v15 v16 v17 v18 v19:Option V,σ'=[↑a,v1,⇑wo,↑sh,⇑(m:Int),⇑(n:Int),↑td,v7,v8,↑ke,some (.bl (bj b [k] (λ q:Int×Int=>wo * q.1 * q.2) m n)),↑fi,v12,v13,v14,v15,v16,v17,v18,v19])/\Same Hc H') ⟨⟨_,_,_,_,_,_,_,_,_,Y⟩,Same.refl _⟩ (λ i σ Hx _ ⟨_,sx⟩=>FI (sx _ _ k3)) ?_ (λ σ Hx ⟨e,sx⟩=>hR _ _ ⟨e,s9c.trans sx⟩)⟩;rintro i0 x _ Hx hi ⟨⟨v1,v12,v13,v14,v15,v16,v17,v18,v19,rfl⟩,sx⟩;obtain ⟨c,rfl⟩:=qt (B2 hi);have s9x:=s9c.trans sx;have s4x:=s49.trans s9x;have htdx:=s9x _ _ htd9;refine am (λ σ' H'=>∃p2:Addr,σ'=[↑a,↑p2,⇑wo,↑sh,⇑(m:Int),⇑(n:Int),↑td,v7,v8,↑ke,some (.bl (bj b [k] (λ q:Int×Int=>wo * q.1 * q.2) m n)),↑fi,⇑c,v13,v14,v15,v16,v17,v18,v19]/\Hx p2=none/\PotB H' p2/\But p2 Hx H') (λ R hR=>?_) ?_
  ·exact ⟨_,Y,c,Y,λ p2 Hy hp2 pt2 sy=>hR _ _ ⟨p2,Y,hp2,pt2,Pc.Same.but sy⟩⟩
  rintro _ Hy ⟨p2,rfl,hp2,pty,by2⟩;have ntd:td≠p2:=ah htdx hp2;refine am (λ σ' H'=>∃ (bl:Addr) (x1:V) (g:Int),σ'=[↑a,↑p2,⇑wo,↑sh,⇑(m:Int),⇑(n:Int),↑td,v7,v8,↑ke,some (.bl (bj b [k] (λ q:Int×Int=>wo * q.1 * q.2) m n)),↑fi,⇑c,↑bl,v14,v15,v16,v17,v18,v19]/\bl≠p2/\H' bl=↥[x1,.int g]/\Thg p2 H' x1/\aA x1 1=false/\17<=g/\PotB H' p2/\But p2 Hx H') (λ R hR=>?_) ?_
  ·refine ⟨_,Y,p2,Y,pty,λ x1 Hd1 tg1 wx1 ptd bd=>?_⟩;refine ⟨_,Y,_,_,Y,Y,⟨∅,∅,∅⟩,zS2,λ l1 hl1=>?_⟩;obtain ⟨H12,e12,k12,n12,s12,b12,pt12⟩:=eC (o:=.lst [.int 1,.int (10 ^ (59:Int).toNat)]) bd ptd hl1;rw [show upd Hd1 l1 _=H12 from e12];refine ⟨_,Y,p2,2,Y,pt12,∅,∅,λ z H13 z0 z1 pt13 b13=>?_⟩;obtain ⟨nn,hnn,nn1,nn60⟩:∃nn:Int,atI [V.int 1,V.int (10 ^ (59:Int).toNat)] z=⇑nn/\0 < nn/\nn<=10 ^ 60:=by
    rcases (by omega:z=0\/z=1) with rfl | rfl
    ·exact ⟨1,Y,∅,∅⟩
    ·exact ⟨_,Y,∅,∅⟩
   refine ⟨l1,_,_,_,Y,Y,FI (b13 _ _ n12 k12),hnn,p2,nn,Y,pt13,nn1,nn60,λ gr H14 gr0 gr1 pt14 b14=>⟨_,_,Y,Y,zS2,λ bl hbl=>?_⟩⟩;have bcE:But p2 Hx H14:=by2.trans (b12.trans (b13.trans b14));obtain ⟨H15,e15,k15,n15,s15,b15,pt15⟩:=eC (o:=.lst [x1,.int (17 + gr)]) bcE pt14 hbl;rw [show upd H14 bl _=H15 from e15];exact hR _ _ ⟨bl,x1,17 + gr,rfl,n15,k15,(tg1.but (But.trans (Pc.Same.but s12) (b13.trans b14))).same s15,wx1,⋯,pt15,b15⟩
  rintro _ Ha1 ⟨bl,x1,g,rfl,nbl,hbl,tg1,wx1,g17,pta,ba⟩;refine am (λ σ' H'=>∃at1:Int,σ'=[↑a,↑p2,⇑wo,↑sh,⇑(m:Int),⇑(n:Int),↑td,v7,v8,↑ke,some (.bl (bj b [k] (λ q:Int×Int=>wo * q.1 * q.2) m n)),↑fi,⇑c,↑bl,⇑at1,v15,v16,v17,v18,v19]/\H' bl=↥[x1,.int g]/\Thg p2 H' x1/\PotB H' p2/\But p2 Hx H') (λ R hR=>?_) ?_
  ·exact ⟨_,Y,p2,2,Y,pta,∅,∅,λ z Hz z0 z1 ptz bz=>hR _ _ ⟨z,Y,bz _ _ nbl hbl,tg1.but bz,ptz,ba.trans bz⟩⟩
  rintro _ Hb1 ⟨at1,rfl,hblb,tgb,ptb,bb⟩;refine am (λ σ' H'=>∃spv:V,σ'=[↑a,↑p2,⇑wo,↑sh,⇑(m:Int),⇑(n:Int),↑td,v7,v8,↑ke,some (.bl (bj b [k] (λ q:Int×Int=>wo * q.1 * q.2) m n)),↑fi,⇑c,↑bl,⇑at1,some spv,v16,v17,v18,v19]/\H' bl=↥[x1,.int g]/\Thg p2 H' x1/\(∀H2,But p2 H' H2->NoTb K H2 m n spv)/\PotB H' p2/\But p2 Hx H') (λ R hR=>?_) ?_
  ·exact ⟨_,Y,_,Y,_,Y,_,Y,p2,td,m,n,_,Y,ptb,m1,⋯,n1,⋯,bb _ _ ntd htdx,λ v Hz nt ptz bz=>hR _ _ ⟨v,Y,bz _ _ nbl hblb,tgb.but bz,nt,ptz,bb.trans bz⟩⟩
  rintro _ Hs ⟨spv,rfl,hbls,tgs,nts,pts,bs⟩;refine am (λ σ' H'=>(∃v16 v17 v18 v19:Option V,σ'=[↑a,↑p2,⇑wo,↑sh,⇑(m:Int),⇑(n:Int),↑td,v7,v8,↑ke,some (.bl (bj b [k] (λ q:Int×Int=>wo * q.1 * q.2) m n)),↑fi,⇑c,↑bl,⇑at1,some spv,v16,v17,v18,v19])/\PotB H' p2/\But p2 Hs H') (λ R hR=>?_) ?_
  ·refine ⟨_,Y,∅,∅,?_⟩;refine dD (lo:=0) (n:=2) (λ i σ' H'=>(∃v16 v17 v18 v19:Option V,σ'=[↑a,↑p2,⇑wo,↑sh,⇑(m:Int),⇑(n:Int),↑td,v7,v8,↑ke,some (.bl (bj b [k] (λ q:Int×Int=>wo * q.1 * q.2) m n)),↑fi,⇑c,↑bl,⇑at1,some spv,v16,v17,v18,v19])/\PotB H' p2/\But p2 Hs H') ⟨⟨_,_,_,_,rfl⟩,pts,But.refl⟩ ?_ (λ σ Hz ⟨e,pz,bz⟩=>hR _ _ ⟨e,pz,bz⟩);rintro i _ Hz hi2 ⟨⟨v16,v17,v18,v19,rfl⟩,ptz,bz⟩;have hblz:=bz _ _ nbl hbls;have tgz:=tgs.but bz;obtain ⟨bv,hbv,sdb⟩:∃bv:V,atI [x1,V.int g] (0 + (i:Int))=some bv/\∀ (H2:Hp),But p2 Hz H2->∀v:Int,1<=v->SdV p2 H2 (0 + (i:Int)) (.int v) bv:=by
    match i,hi2 with
    | 0,_=>exact ⟨x1,Y,λ H2 b2 v v1=>.inl ⟨Y,.inl rfl,tgz.but b2,by rw [wx1,Bool.and_false]⟩⟩
    | 1,_=>exact ⟨.int g,Y,λ H2 b2 v v1=>.inr ⟨Y,v,g,Y,Y,v1,⋯,.inr ⋯⟩⟩
   refine am (λ σ' H'=>∃ (sd:Addr) (sv:Int),σ'=[↑a,↑p2,⇑wo,↑sh,⇑(m:Int),⇑(n:Int),↑td,v7,v8,↑ke,some (.bl (bj b [k] (λ q:Int×Int=>wo * q.1 * q.2) m n)),↑fi,⇑c,↑bl,⇑at1,some spv,⇑(0 + (i:Int)),↑sd,v18,v19]/\sd≠p2/\1<=sv/\H' sd=↥[.int sv,bv]/\PotB H' p2/\But p2 Hz H') (λ R hR=>?_) ?_
   ·refine ⟨_,Y,_,Y,zS2,λ l1 hl1=>?_⟩;obtain ⟨H12,e12,k12,n12,s12,b12,pt12⟩:=eC (o:=.lst [.int (m:Int),.int (n:Int)]) (But.refl (p:=p2) (H:=Hz)) ptz hl1;rw [show upd Hz l1 _=H12 from e12];refine ⟨_,Y,Y,.inr ⟨_,Y,?_⟩⟩;obtain ⟨sv,hsv,sv1⟩:∃sv:Int,atI [V.int (m:Int),V.int (n:Int)] (if decide (V.int at1=V.int 1)=true then (1:Int) else 0)=⇑sv/\1<=sv:=by
     by_cases c:V.int at1=V.int 1
     ·exact ⟨n,by rw [decide_eq_true c]; rfl,⋯⟩
     ·exact ⟨m,by rw [decide_eq_false c]; rfl,⋯⟩
    refine ⟨l1,_,_,_,Y,Y,FI k12,hsv,_,Y,_,Y,bl,_,_,_,Y,Y,FI (s12 _ _ hblz),hbv,zS2,λ sd hsd=>?_⟩;obtain ⟨H13,e13,k13,n13,s13,b13,pt13⟩:=eC (o:=.lst [.int sv,bv]) b12 pt12 hsd;rw [show upd H12 sd _=H13 from e13];exact hR _ _ ⟨sd,sv,rfl,n13,sv1,k13,pt13,b13⟩
   rintro _ Hw ⟨sd,sv,rfl,nsd,sv1,hsd,ptw,bw⟩;refine am (λ σ' H'=>∃ (sd:Addr) (wv hv:V),σ'=[↑a,↑p2,⇑wo,↑sh,⇑(m:Int),⇑(n:Int),↑td,v7,v8,↑ke,some (.bl (bj b [k] (λ q:Int×Int=>wo * q.1 * q.2) m n)),↑fi,⇑c,↑bl,⇑at1,some spv,⇑(0 + (i:Int)),↑sd,v18,v19]/\sd≠p2/\H' sd=↥[wv,hv]/\(∀H2,But p2 H' H2->SdV p2 H2 (0 + (i:Int)) wv hv)/\PotB H' p2/\But p2 Hz H') (λ R hR=>?_) ?_
   ·refine ⟨_,Y,p2,2,Y,ptw,∅,∅,λ z H12 z0 z1 pt12 b12=>?_⟩;have bw12:=bw.trans b12;refine ⟨Y,_,Y,?_⟩;refine fL (λ cc=>?_) (λ cc=>hR _ _ ⟨sd,_,_,rfl,nsd,b12 _ _ nsd hsd,λ H2 b2=>sdb H2 (bw12.trans b2) sv sv1,pt12,bw12⟩);refine ⟨_,Y,_,Y,bl,_,_,_,Y,Y,FI (bw12 _ _ nbl hblz),hbv,_,Y,p2,9,Y,pt12,∅,∅,λ y H13 y0 y1 pt13 b13=>⟨_,_,Y,Y,zS2,λ sd2 hsd2=>?_⟩⟩;have bw13:=bw12.trans b13;obtain ⟨H14,e14,k14,n14,s14,b14,pt14⟩:=eC (o:=.lst [bv,.int (17 + y)]) bw13 pt13 hsd2;rw [show upd H13 sd2 _=H14 from e14];exact hR _ _ ⟨sd2,_,_,rfl,n14,k14,λ H2 b2=>(sdb H2 (b14.trans b2) (17 + y) ⋯).swap,pt14,b14⟩
   rintro _ Hv ⟨sd,wv,hv,rfl,nsd,hsd,sdv,ptv,bv2⟩;refine am (λ σ' H'=>∃ (sd:Addr) (wv hv:V),σ'=[↑a,↑p2,⇑wo,↑sh,⇑(m:Int),⇑(n:Int),↑td,v7,v8,↑ke,some (.bl (bj b [k] (λ q:Int×Int=>wo * q.1 * q.2) m n)),↑fi,⇑c,↑bl,⇑at1,some spv,⇑(0 + (i:Int)),↑sd,v18,v19]/\sd≠p2/\H' sd=↥[wv,hv]/\(∀H2,But p2 H' H2->SdV p2 H2 (0 + (i:Int)) wv hv)/\PotB H' p2/\But p2 Hz H') (λ R hR=>?_) ?_
   ·refine ⟨_,Y,Y,_,Y,?_⟩;refine fL (λ cc=>?_) (λ cc=>hR _ _ ⟨sd,_,_,rfl,nsd,hsd,sdv,ptv,bv2⟩);refine ⟨_,Y,1,Y,Y,sd,_,_,Y,hsd,λ sd2 hsd2=>?_⟩;obtain ⟨H14,e14,k14,n14,s14,b14,pt14⟩:=eC (o:=.lst [hv,wv]) bv2 ptv hsd2;rw [show upd Hv sd2 _=H14 from e14];exact hR _ _ ⟨sd2,_,_,rfl,n14,k14,λ H2 b2=>(sdv H2 (But.trans (Pc.Same.but s14) b2)).swap,pt14,b14⟩
   rintro _ Hr ⟨sd,wv,hv,rfl,nsd,hsd,sdv,ptr,br⟩;refine ⟨_,Y,zS2,λ t1 ht1=>?_⟩;obtain ⟨Ha,e1,k1,s1⟩:∃H',upd Hr t1 (.tup [.int 0,.ref td])=H'/\H' t1= ~~~[.int 0,.ref td]/\Same Hr H':=⟨_,Y,ae,FG ht1⟩
   rw [show upd Hr t1 _=Ha from e1];refine ⟨_,Y,zS2,λ t2 ht2=>?_⟩;obtain ⟨Hb,e2,k2,s2⟩:∃H',upd Ha t2 (.tup [.int 1,.ref td])=H'/\H' t2= ~~~[.int 1,.ref td]/\Same Ha H':=⟨_,Y,ae,FG ht2⟩
   rw [show upd Ha t2 _=Hb from e2];refine ⟨_,Y,zS2,λ t3 ht3=>?_⟩;obtain ⟨Hc',e3,k3,s3⟩:∃H',upd Hb t3 (.tup [.int 1,spv])=H'/\H' t3= ~~~[.int 1,spv]/\Same Hb H':=⟨_,Y,ae,FG ht3⟩
   rw [show upd Hb t3 _=Hc' from e3];refine ⟨zS2,λ t4 ht4=>?_⟩;obtain ⟨Hd,e4,k4,s4⟩:∃H',upd Hc' t4 (.tup [.int 1,.non])=H'/\H' t4= ~~~[.int 1,.non]/\Same Hc' H':=⟨_,Y,ae,FG ht4⟩
   rw [show upd Hc' t4 _=Hd from e4];refine ⟨zS4,λ li hli=>?_⟩;obtain ⟨He,e5,k5,s5⟩:∃H',upd Hd li (.lst [.ref t1,.ref t2,.ref t3,.ref t4])=H'/\H' li=↥[.ref t1,.ref t2,.ref t3,.ref t4]/\Same Hd H':=⟨_,Y,ae,FG hli⟩
   rw [show upd Hd li _=He from e5];have sre:=s1.trans (s2.trans (s3.trans (s4.trans s5)));refine ⟨li,Y,⟨_,FI k5⟩,bY (xs:=[.ref t1,.ref t2,.ref t3,.ref t4]) (λ j σ' H'=>(∃v18 v19:Option V,σ'=[↑a,↑p2,⇑wo,↑sh,⇑(m:Int),⇑(n:Int),↑td,v7,v8,↑ke,some (.bl (bj b [k] (λ q:Int×Int=>wo * q.1 * q.2) m n)),↑fi,⇑c,↑bl,⇑at1,some spv,⇑(0 + (i:Int)),↑sd,v18,v19])/\Same He H') ⟨⟨_,_,Y⟩,Same.refl _⟩ (λ j σ Hx _ ⟨_,sx⟩=>FI (sx _ _ k5)) ?_ (λ σ Hf ⟨⟨v18,v19,e⟩,sf⟩=>⟨⟨_,_,_,_,e⟩,ptr.same (sre.trans sf),bz.trans (br.trans (Pc.Same.but (sre.trans sf)))⟩)⟩;rintro j x _ Hf hj ⟨⟨v18,v19,rfl⟩,sf⟩;have j4:j < 4:=(A3.mp hj).1;obtain ⟨t,way,th,rfl,ht,hw⟩:∃ (t:Addr) (way:Int) (th:V),x=.ref t/\Hf t= ~~~[.int way,th]/\(way=0\/way=1):=by
    match j,j4 with
    | 0,_=>exact ⟨t1,0,_,(B5 hj).symm,sf _ _ (s5 _ _ (s4 _ _ (s3 _ _ (s2 _ _ k1)))),.inl rfl⟩
    | 1,_=>exact ⟨t2,1,_,(B5 hj).symm,sf _ _ (s5 _ _ (s4 _ _ (s3 _ _ k2))),.inr rfl⟩
    | 2,_=>exact ⟨t3,1,_,(B5 hj).symm,sf _ _ (s5 _ _ (s4 _ _ k3)),.inr rfl⟩
    | 3,_=>exact ⟨t4,1,_,(B5 hj).symm,sf _ _ (s5 _ _ k4),.inr rfl⟩
   refine ⟨t,_,Y,FH ht,Y,_,_,Y,_,_,Y,Y,?_⟩;have hsdf:=sf _ _ (sre _ _ hsd);refine ⟨_,Y,_,Y,_,Y,sd,_,0,_,Y,Y,FI hsdf,Y,_,Y,sd,_,1,_,Y,Y,FI hsdf,Y,_,Y,way,sh,wv,hv,th,jG (0 + (i:Int)),Y,(sdv Hf (Pc.Same.but (sre.trans sf))).due hw,λ lA HqA hlA hkA sqA=>?_⟩;refine ⟨_,Y,(0 + (i:Int)),Y,λ mA Hg hmA hnA srA=>?_⟩;refine ⟨gR (0 + (i:Int)),gR (0 + (i:Int)),dO (srA _ _ hkA),dO hnA,fD _,fD _,_,Y,?_⟩;rw [kG (0 + (i:Int))];exact aD ⟨⟨_,_,rfl⟩,sf.trans (sqA.trans srA)⟩
  rintro _ Hd1 ⟨⟨v16,v17,v18,v19,rfl⟩,ptd,bd⟩;have bxd:But p2 Hx Hd1:=bs.trans bd;have sxd:Same Hx Hd1:=But.same bxd hp2;have s4d:=s4x.trans sxd;have Sd:ShopAt C Hd1 sh b [k]:=S4.keep (λ c o e=>s4d _ _ e) (λ c C' d fs e=>s4d _ _ e);refine am (λ σ' H'=>(∃v19:Option V,σ'=[↑a,↑p2,⇑wo,↑sh,⇑(m:Int),⇑(n:Int),↑td,v7,v8,↑ke,some (.bl (bj b [k] (λ q:Int×Int=>wo * q.1 * q.2) m n)),↑fi,⇑c,↑bl,⇑at1,some spv,v16,v17,v18,v19])/\Same Hd1 H') (λ R hR=>?_) ?_
  ·refine ⟨_,Y,zS2,λ li hli=>?_⟩;obtain ⟨He,e5,k5,s5⟩:∃H',upd Hd1 li (.lst [spv,.non])=H'/\H' li=↥[spv,.non]/\Same Hd1 H':=⟨_,Y,ae,FG hli⟩
   rw [show upd Hd1 li _=He from e5];refine ⟨li,Y,⟨_,FI k5⟩,bY (xs:=[spv,.non]) (λ j σ' H'=>(∃v19:Option V,σ'=[↑a,↑p2,⇑wo,↑sh,⇑(m:Int),⇑(n:Int),↑td,v7,v8,↑ke,some (.bl (bj b [k] (λ q:Int×Int=>wo * q.1 * q.2) m n)),↑fi,⇑c,↑bl,⇑at1,some spv,v16,v17,v18,v19])/\Same He H') ⟨⟨_,Y⟩,Same.refl _⟩ (λ j σ Hx _ ⟨_,sx⟩=>FI (sx _ _ k5)) ?_ (λ σ Hf ⟨e,sf⟩=>hR _ _ ⟨e,s5.trans sf⟩)⟩;rintro j th _ Hf hj ⟨⟨v19,rfl⟩,sf⟩;have j2:j < 2:=(A3.mp hj).1;have nt:NoTb K Hf m n th:=by
    match j,j2 with
    | 0,_=>rw [<- Option.some.inj hj]; exact nts Hf (bd.trans (Pc.Same.but (s5.trans sf)))
    | 1,_=>rw [<- Option.some.inj hj]; exact .inl ⟨_,Ty.non,∅⟩
   refine ⟨_,Y,_,Y,_,Y,_,Y,1,sh,_,_,th,jG 2,Y,.inr ⟨Y,2,Y,⟨_,Ty.int⟩,⟨_,Ty.int⟩,.inr ⟨m,n,Y,Y,⋯,⋯,.inr ⟨Y,m,n,Y,Y,⋯,⋯,nt⟩⟩⟩,λ lA HqA hlA hkA sqA=>?_⟩;refine ⟨2,Y,λ mA Hg hmA hnA srA=>?_⟩;refine ⟨gR 2,gR 2,dO (srA _ _ hkA),dO hnA,fD _,fD _,_,Y,?_⟩;rw [kG 2];exact aD ⟨⟨_,rfl⟩,sf.trans (sqA.trans srA)⟩
  rintro _ He1 ⟨⟨v19,rfl⟩,sde⟩;have s4e:=s4d.trans sde;have Se:ShopAt C He1 sh b [k]:=S4.keep (λ c o e=>s4e _ _ e) (λ c C' d fs e=>s4e _ _ e);have htde:=sde _ _ (sxd _ _ htdx);have fin:∀ {Hq:Hp},Same He1 Hq->Same Hc Hq:=λ {Hq} sq=>sx.trans (sxd.trans (sde.trans sq));have mm:(byP (aG (λ q:Int×Int=>wo * q.1 * q.2) (ak m n))).length≠(m + 1) * n:=by rw [kl,Nat.succ_mul]; omega
  refine ⟨_,Y,_,Y,_,_,Y,Y,_,Y,_,Y,1,sh,_,_,(.ref td),jG 2,Y,.inr ⟨Y,2,Y,⟨_,Ty.int⟩,⟨_,Ty.int⟩,.inr ⟨(m:Int) + 1,n,Y,Y,⋯,⋯,.inr ⟨Y,m + 1,n,⋯,Y,⋯,⋯,.inr (.inl ⟨td,_,Y,htde,mm⟩)⟩⟩⟩,λ lA HqA hlA hkA sqA=>?_⟩;refine ⟨2,Y,λ mA Hg hmA hnA srA=>?_⟩;refine ⟨gR 2,gR 2,dO (srA _ _ hkA),dO hnA,fD _,fD _,_,Y,?_⟩;rw [kG 2];have sA:=sqA.trans srA;refine aD ?_;refine ⟨_,Y,_,Y,_,Y,0,sh,_,_,.non,[],Y,.inl ⟨Y,.inr ⟨Y,b,[k],m,n,Y,Y,Se.keep (λ c o e=>sA _ _ e) (λ c C' d fs e=>sA _ _ e),(by show 1<=8; decide),b0,m1,⋯,n1,⋯⟩⟩,λ lB HqB hlB hkB sqB=>?_⟩;refine ⟨∅,λ mB hmB=>?_⟩;obtain ⟨Hh,emB,hnB,srB⟩:∃H',upd HqB mB (.lst [])=H'/\H' mB=↥[]/\Same HqB H':=⟨_,Y,ae,FG hmB⟩
  rw [show upd HqB mB _=Hh from emB];refine ⟨.list [],.list [],.lst (FI (srB _ _ hkB)) .nil,.lst (FI hnB) .nil,∅,∅,_,Y,?_⟩;rw [show (!PyData.eqv (.list []) (.list []))=false by decide +kernel];exact aD ⟨⟨_,_,_,_,_,_,_,_,_,rfl⟩,fin (sA.trans (sqB.trans srB))⟩
 rintro _ Hx ⟨⟨v1,v12,v13,v14,v15,v16,v17,v18,v19,rfl⟩,s9x⟩;have s4x:=s49.trans s9x;have Sx:ShopAt C Hx sh b [k]:=S4.keep (λ c o e=>s4x _ _ e) (λ c C' d fs e=>s4x _ _ e);refine am (λ σ' H'=>σ'=[↑a,v1,⇑wo,↑sh,⇑(m:Int),⇑(n:Int),↑td,v7,v8,↑ke,some (.bl (bj b [k] (λ q:Int×Int=>wo * q.1 * q.2) m n)),↑fi,v12,v13,v14,v15,v16,v17,v18,v19]/\Same Hx H') (λ R hR=>?_) ?_
 ·refine ⟨_,Y,0,sh,_,_,.non,[],Y,.inl ⟨Y,.inr ⟨Y,b,[k],16,2,Y,Y,Sx,(by show 1<=8; decide),b0,∅,∅,∅,∅⟩⟩,λ lA HqA hlA hkA sqA=>?_⟩;refine ⟨∅,λ mA hmA=>?_⟩;obtain ⟨Hh,emA,hnA,srA⟩:∃H',upd HqA mA (.lst [])=H'/\H' mA=↥[]/\Same HqA H':=⟨_,Y,ae,FG hmA⟩
  rw [show upd HqA mA _=Hh from emA];refine ⟨.list [],.list [],.lst (FI (srA _ _ hkA)) .nil,.lst (FI hnA) .nil,∅,∅,_,Y,?_⟩;rw [show (!PyData.eqv (.list []) (.list []))=false by decide +kernel];have sA:=sqA.trans srA;refine aD ?_;refine ⟨_,Y,0,sh,_,_,.non,[],Y,.inl ⟨Y,.inr ⟨Y,b,[k],2,16,Y,Y,(Sx.keep (λ c o e=>sA _ _ e) (λ c C' d fs e=>sA _ _ e)),(by show 1<=8; decide),b0,∅,∅,∅,∅⟩⟩,λ lB HqB hlB hkB sqB=>?_⟩;refine ⟨∅,λ mB hmB=>?_⟩;obtain ⟨Hg,emB,hnB,srB⟩:∃H',upd HqB mB (.lst [])=H'/\H' mB=↥[]/\Same HqB H':=⟨_,Y,ae,FG hmB⟩
  rw [show upd HqB mB _=Hg from emB];refine ⟨.list [],.list [],.lst (FI (srB _ _ hkB)) .nil,.lst (FI hnB) .nil,∅,∅,_,Y,?_⟩;rw [show (!PyData.eqv (.list []) (.list []))=false by decide +kernel];have sB:=sA.trans (sqB.trans srB);exact aD ⟨_,rfl,_,rfl,td,ke,_,_,rfl,rfl,.inl (sB _ _ (s9x _ _ htd9)),.inl (sB _ _ (s9x _ _ hke9)),nG (λ _ _=>rfl),_,rfl,aD (hR _ _ ⟨rfl,sB⟩)⟩
 rintro _ Hy ⟨rfl,sxy⟩;have s9y:=s9x.trans sxy;have s4y:=s49.trans s9y;have Sy:ShopAt C Hy sh b [k]:=S4.keep (λ c o e=>s4y _ _ e) (λ c C' d fs e=>s4y _ _ e);have htdy:=s9y _ _ htd9;refine ⟨_,Y,_,Y,_,Y,_,Y,sh,td,b,[k],m,n,_,Y,Sy,(by show 1<=8; decide),b0,m1,⋯,n1,⋯,htdy,f00,λ ob Hz fz bz=>?_⟩;refine ⟨_,Y,Y,_,Y,?_⟩;rw [decide_eq_true rfl];have nt:∀ {c:Addr} {o:HO},Hy c=some o->(∀kvs,o≠.dT kvs)->c≠td:=λ {c o} h hn z=>by rw [z,htdy] at h;exact hn _ (B5 h).symm
 have Sz:ShopAt C Hz sh b [k]:=Sy.keep (λ c o e=>bz _ _ (nt e (λ _ z=>by cases z)) e) (λ c C' d fs e=>bz _ _ (nt e (λ _ z=>by cases z)) e);have hfiz:=bz _ _ (nt (s9y _ _ hfi9) (λ _ z=>by cases z)) (s9y _ _ hfi9);have hfbz:=bz _ _ nfb (s9y _ _ hfb9);have hfvz:TrV Hz (bT b [k] 33 ((m:Int),(n:Int))) fv:=TrV.keep (λ c xs e=>bz _ _ (nt (s9y _ _ e) (λ _ z=>by cases z)) (s9y _ _ e)) _ hfv9;refine aP ⟨_,rfl,_,rfl,_,rfl,sh,b,[k],m,n,rfl,Sz,(by show 1<=8; decide),b0,m1,⋯,n1,⋯,λ r ta tv2 He hta' hr hte hve se=>?_⟩;have dp:dpt (bT b [k] 33 ((m:Int),(n:Int)))<=60:=C2 (ky _ _ _ _) ∅;exact ⟨_,Y,r,fi,ta,fb,_,_,_,toD (bT b [k] 33 ((m:Int),(n:Int))),_,_,Y,Y,hr,se _ _ hfiz,TrV.dat _ hve,TrV.dat _ (TrV.keep (λ c xs e=>se _ _ e) _ hfvz),kH dp,fZ _,.inl hte,.inl (se _ _ hfbz),pX (λ p hp=>rfl),jE,jE,q He⟩
end
theorem CW {α:Type} {us:List α} (h:us.length=1):∃a,us=[a]:=by
 match us,h with
 | [a],_=>exact ⟨a,Y⟩
theorem uM {α:Type} {us:List α} (h:us.length=2):∃a b,us=[a,b]:=by
 match us,h with
 | [a,b],_=>exact ⟨a,b,Y⟩
theorem qu {α:Type} {us:List α} (h:us.length=3):∃a b c,us=[a,b,c]:=by
 match us,h with
 | [a,b,c],_=>exact ⟨a,b,c,Y⟩
theorem CY {α:Type} {us:List α} (h:us.length=4):∃a b c d,us=[a,b,c,d]:=by
 match us,h with
 | [a,b,c,d],_=>exact ⟨a,b,c,d,Y⟩
theorem CZ {α:Type} {us:List α} (h:us.length=5):∃a b c d e,us=[a,b,c,d,e]:=by
 match us,h with
 | [a,b,c,d,e],_=>exact ⟨a,b,c,d,e,Y⟩
abbrev DI (K:C1) (n:Str) (st:Stmt) (f:Addr):Prop:=∃ (od an:Option Addr) (sl:Array (Option FF)) (oc kV dc pm cd ct:FF),PySem.W.nsIn K mainGlobals n=some (↑f)/\K.lookup f=some ⟨oc,od,.func (C9 n n (defArgs st) (defBody st) (defScope st) .none kV dc pm an cd ct),sl⟩/\PySem.W.codeIn K cd n=true/\PySem.W.keepIn K (.ref f)=true
abbrev MI (K:C1) (C:Addr) (n q:Str) (st:Stmt) (f:Addr):Prop:=∃ (od an:Option Addr) (sl:Array (Option FF)) (oc kV dc pm cd ct:FF),PySem.W.findIn K (.ref C) n=some (↑f)/\PySem.W.isFn K (.ref f)=true/\K.lookup f=some ⟨oc,od,.func (C9 n q (defArgs st) (defBody st) (defScope st) .none kV dc pm an cd ct),sl⟩/\PySem.W.codeIn K cd q=true/\PySem.W.keepIn K (.ref f)=true
theorem diM {K:C1} {n:Str} {st:Stmt} {f:Addr} {od an:Option Addr} {sl:Array (Option FF)} {oc kV dc pm cd ct:FF} (a:PySem.W.nsIn K mainGlobals n=some (↑f)) (l:K.lookup f=some ⟨oc,od,.func (C9 n n (defArgs st) (defBody st) (defScope st) .none kV dc pm an cd ct),sl⟩) (c:PySem.W.codeIn K cd n=true) (k:PySem.W.keepIn K (.ref f)=true):DI K n st f:=⟨_,_,_,_,_,_,_,_,_,a,l,c,k⟩
theorem miM {K:C1} {C:Addr} {n q:Str} {st:Stmt} {f:Addr} {od an:Option Addr} {sl:Array (Option FF)} {oc kV dc pm cd ct:FF} (a:PySem.W.findIn K (.ref C) n=some (↑f)) (i:PySem.W.isFn K (.ref f)=true) (l:K.lookup f=some ⟨oc,od,.func (C9 n q (defArgs st) (defBody st) (defScope st) .none kV dc pm an cd ct),sl⟩) (c:PySem.W.codeIn K cd q=true) (k:PySem.W.keepIn K (.ref f)=true):MI K C n q st f:=⟨_,_,_,_,_,_,_,_,_,a,i,l,c,k⟩
inductive DE (K:C1) (mg:Str->Option Value) (n:Str) (st:Stmt) (f:Addr) (ps:List Str):Prop
 | mk (fd:FD) (F:Fun K n n st f fd) (b:Binds K fd ps []) (k:PySem.W.keepIn K (.ref f)=true) (q:mg n=↑f):DE K mg n st f ps
theorem diE {K:C1} {h:Heap} {mg:Str->Option FF} {n:Str} {st:Stmt} {f:Addr} (X:K.In h) (G:h.Ns mainGlobals mg) (d:DI K n st f) (ps:List Str) (hb:∀ (kV dc pm:FF) (an:Option Addr) (cd ct:FF) (us:List FF),us.length=ps.length->bindArgs (C9 n n (defArgs st) (defBody st) (defScope st) .none kV dc pm an cd ct) ⟨us,[]⟩=pure (ps.zip us)):DE K mg n st f ps:=by obtain ⟨_,_,_,_,_,_,_,_,_,a,l,c,k⟩:=d;have F:=jQ (st:=st) l c k;exact ⟨_,F,F.binds hb,k,PySem.W.mg_of X G a⟩
inductive ME (K:C1) (C:Addr) (n q:Str) (st:Stmt) (f:Addr) (ps:List Str):Prop
 | mk (fd:FD) (F:Fun K n q st f fd) (b:Binds K fd ps []) (k:PySem.W.keepIn K (.ref f)=true) (a:PySem.W.findIn K (.ref C) n=some (↑f)) (i:PySem.W.isFn K (.ref f)=true):ME K C n q st f ps
theorem miE {K:C1} {C:Addr} {n q:Str} {st:Stmt} {f:Addr} (d:MI K C n q st f) (ps:List Str) (hb:∀ (kV dc pm:FF) (an:Option Addr) (cd ct:FF) (us:List FF),us.length=ps.length->bindArgs (C9 n q (defArgs st) (defBody st) (defScope st) .none kV dc pm an cd ct) ⟨us,[]⟩=pure (ps.zip us)):ME K C n q st f ps:=by obtain ⟨_,_,_,_,_,_,_,_,_,a,i,l,c,k⟩:=d;have F:=jQ (st:=st) l c k;exact ⟨_,F,F.binds hb,k,a,i⟩
theorem bd1 {n q:Str} {st:Stmt} {a:Str} (h:∀ (kV dc pm:FF) (an:Option Addr) (cd ct ua:FF),bindArgs (C9 n q (defArgs st) (defBody st) (defScope st) .none kV dc pm an cd ct) ⟨[ua],[]⟩=pure [(a,ua)]):∀ (kV dc pm:FF) (an:Option Addr) (cd ct:FF) (us:List FF),us.length=[a].length->bindArgs (C9 n q (defArgs st) (defBody st) (defScope st) .none kV dc pm an cd ct) ⟨us,[]⟩=pure ([a].zip us):=by intro _ _ _ _ _ _ us hl;obtain ⟨_,rfl⟩:=CW hl;exact h _ _ _ _ _ _ _
theorem bd2 {n q:Str} {st:Stmt} {a b:Str} (h:∀ (kV dc pm:FF) (an:Option Addr) (cd ct ua ub:FF),bindArgs (C9 n q (defArgs st) (defBody st) (defScope st) .none kV dc pm an cd ct) ⟨[ua,ub],[]⟩=pure [(a,ua),(b,ub)]):∀ (kV dc pm:FF) (an:Option Addr) (cd ct:FF) (us:List FF),us.length=[a,b].length->bindArgs (C9 n q (defArgs st) (defBody st) (defScope st) .none kV dc pm an cd ct) ⟨us,[]⟩=pure ([a,b].zip us):=by intro _ _ _ _ _ _ us hl;obtain ⟨_,_,rfl⟩:=uM hl;exact h _ _ _ _ _ _ _ _
theorem bd3 {n q:Str} {st:Stmt} {a b c:Str} (h:∀ (kV dc pm:FF) (an:Option Addr) (cd ct ua ub uc:FF),bindArgs (C9 n q (defArgs st) (defBody st) (defScope st) .none kV dc pm an cd ct) ⟨[ua,ub,uc],[]⟩=pure [(a,ua),(b,ub),(c,uc)]):∀ (kV dc pm:FF) (an:Option Addr) (cd ct:FF) (us:List FF),us.length=[a,b,c].length->bindArgs (C9 n q (defArgs st) (defBody st) (defScope st) .none kV dc pm an cd ct) ⟨us,[]⟩=pure ([a,b,c].zip us):=by intro _ _ _ _ _ _ us hl;obtain ⟨_,_,_,rfl⟩:=qu hl;exact h _ _ _ _ _ _ _ _ _
theorem bd4 {n q:Str} {st:Stmt} {a b c d:Str} (h:∀ (kV dc pm:FF) (an:Option Addr) (cd ct ua ub uc ud:FF),bindArgs (C9 n q (defArgs st) (defBody st) (defScope st) .none kV dc pm an cd ct) ⟨[ua,ub,uc,ud],[]⟩=pure [(a,ua),(b,ub),(c,uc),(d,ud)]):∀ (kV dc pm:FF) (an:Option Addr) (cd ct:FF) (us:List FF),us.length=[a,b,c,d].length->bindArgs (C9 n q (defArgs st) (defBody st) (defScope st) .none kV dc pm an cd ct) ⟨us,[]⟩=pure ([a,b,c,d].zip us):=by intro _ _ _ _ _ _ us hl;obtain ⟨_,_,_,_,rfl⟩:=CY hl;exact h _ _ _ _ _ _ _ _ _ _
theorem bd5 {n q:Str} {st:Stmt} {a b c d e:Str} (h:∀ (kV dc pm:FF) (an:Option Addr) (cd ct ua ub uc ud ue:FF),bindArgs (C9 n q (defArgs st) (defBody st) (defScope st) .none kV dc pm an cd ct) ⟨[ua,ub,uc,ud,ue],[]⟩=pure [(a,ua),(b,ub),(c,uc),(d,ud),(e,ue)]):∀ (kV dc pm:FF) (an:Option Addr) (cd ct:FF) (us:List FF),us.length=[a,b,c,d,e].length->bindArgs (C9 n q (defArgs st) (defBody st) (defScope st) .none kV dc pm an cd ct) ⟨us,[]⟩=pure ([a,b,c,d,e].zip us):=by intro _ _ _ _ _ _ us hl;obtain ⟨_,_,_,_,_,rfl⟩:=CZ hl;exact h _ _ _ _ _ _ _ _ _ _ _
theorem lx7 {α:Type} {us:List α} (h:us.length=7):∃a b c d e f g,us=[a,b,c,d,e,f,g]:=by
 match us,h with
 | [a,b,c,d,e,f,g],_=>exact ⟨a,b,c,d,e,f,g,Y⟩
theorem bd7 {n q:Str} {st:Stmt} {a b c d e f g:Str} (h:∀ (kV dc pm:FF) (an:Option Addr) (cd ct ua ub uc ud ue uf ug:FF),bindArgs (C9 n q (defArgs st) (defBody st) (defScope st) .none kV dc pm an cd ct) ⟨[ua,ub,uc,ud,ue,uf,ug],[]⟩=pure [(a,ua),(b,ub),(c,uc),(d,ud),(e,ue),(f,uf),(g,ug)]):∀ (kV dc pm:FF) (an:Option Addr) (cd ct:FF) (us:List FF),us.length=[a,b,c,d,e,f,g].length->bindArgs (C9 n q (defArgs st) (defBody st) (defScope st) .none kV dc pm an cd ct) ⟨us,[]⟩=pure ([a,b,c,d,e,f,g].zip us):=by intro _ _ _ _ _ _ us hl;obtain ⟨_,_,_,_,_,_,_,rfl⟩:=lx7 hl;exact h _ _ _ _ _ _ _ _ _ _ _ _ _
theorem EE {α:Type} {us:List α} (h:us.length=6):∃a b c d e f,us=[a,b,c,d,e,f]:=by
 match us,h with
 | [a,b,c,d,e,f],_=>exact ⟨a,b,c,d,e,f,Y⟩
theorem EF {α:Type} {us:List α} (h:us.length=7):∃a b c d e f g,us=[a,b,c,d,e,f,g]:=by
 match us,h with
 | [a,b,c,d,e,f,g],_=>exact ⟨a,b,c,d,e,f,g,Y⟩
open PySem.W in
theorem all_mk {l:OpenLaw} {w:FE} {K:Frag} {h:Heap} {mg:Str->Option FF} {fa f0 f1 f2 f3 f4 f5 f6 f7 f8 f9 f10 f11 f12 f13 f14 f15 f16 f17 f18 f19 f20 f21 f22 f23 f24 f25 f26 f27 C fm0 fm1 fm2 fm3 fm4 fm5 xWAYS xPlateError xNoPlate xTooLarge xNoTable xNoBlade xNoKind xNoKinds xNoLaying xNoLying xNoNumber xNoTelling xNoText xNoTree xNoWeights:Addr} (X:K.In h) (G:h.Ns mainGlobals mg) (hfa:mg "law" = ↑fa)
  {tc0:Tok} {tc1:Tok} {tc2:Tok} {tc3:Tok} {tc4:Tok} {tc5:Tok} {tc6:Tok}
  (d0:DI K "is_whole" iM f0)
  (d1:DI K "is_truth" iN f1)
  (d2:DI K "is_row" rH f2)
  (d3:DI K "is_kind" fW f3)
  (d4:DI K "can_lie_turned" fX f4)
  (d5:DI K "check_plate" bU f5)
  (d6:DI K "check_sides" bV f6)
  (d7:DI K "lies_in" fV f7)
  (d8:DI K "lyings_in" cO f8)
  (d9:DI K "parts_up_to" cB f9)
  (d10:DI K "cut_parts" dI f10)
  (d11:DI K "cuts_of" cV f11)
  (d12:DI K "best_leaf" dJ f12)
  (d13:DI K "best_step" dL f13)
  (d14:DI K "tree_by_steps" bL f14)
  (d15:DI K "best_of" dM f15)
  (d16:DI K "is_key" fu f16)
  (d17:DI K "is_table" bf f17)
  (d18:DI K "bears_part" cW f18)
  (d19:DI K "bears" eA f19)
  (d20:DI K "_law_pot" rJ f20)
  (d21:DI K "_law_draw" lX f21)
  (d22:DI K "_law_great" iO f22)
  (d23:DI K "_law_told" lY f23)
  (d24:DI K "_law_due" pE f24)
  (d25:DI K "_law_no_side" fY f25)
  (d26:DI K "_law_spoiled" du f26)
  (d27:DI K "law" jy f27)
  (aC:nsIn K mainGlobals "Shop" = some (↑C))
  (dm0:MI K C "__init__" "Shop.__init__" cP fm0)
  (dm1:MI K C "blade" "Shop.blade" cX fm1)
  (dm2:MI K C "kinds" "Shop.kinds" cY fm2)
  (dm3:MI K C "lyings" "Shop.lyings" cH fm3)
  (dm4:MI K C "is_lying" "Shop.is_lying" cw fm4)
  (dm5:MI K C "sides" "Shop.sides" cZ fm5)
  (pg:plainGet K C Str.empty=true)
  (hd:hasDictIn K C=true)
  (po:plainOver K C=true)
  (sa:findIn K (.ref C) "__setattr__" = some (some (.builtin "object.__setattr__")))
  (mk:makesIn K C=true)
  (kc:keepIn K (.ref C)=true)
  (n0:findIn K (.ref C) "blade_width" = some none)
  (n1:findIn K (.ref C) "kind_rows" = some none)
  (eWAYS:nsIn K mainGlobals "WAYS" = some (↑xWAYS))
  (ePlateError:nsIn K mainGlobals "PlateError" = some (↑xPlateError))
  (eNoPlate:nsIn K mainGlobals "NoPlate" = some (↑xNoPlate))
  (eTooLarge:nsIn K mainGlobals "TooLarge" = some (↑xTooLarge))
  (eNoTable:nsIn K mainGlobals "NoTable" = some (↑xNoTable))
  (eNoBlade:nsIn K mainGlobals "NoBlade" = some (↑xNoBlade))
  (eNoKind:nsIn K mainGlobals "NoKind" = some (↑xNoKind))
  (eNoKinds:nsIn K mainGlobals "NoKinds" = some (↑xNoKinds))
  (eNoLaying:nsIn K mainGlobals "NoLaying" = some (↑xNoLaying))
  (eNoLying:nsIn K mainGlobals "NoLying" = some (↑xNoLying))
  (eNoNumber:nsIn K mainGlobals "NoNumber" = some (↑xNoNumber))
  (eNoTelling:nsIn K mainGlobals "NoTelling" = some (↑xNoTelling))
  (eNoText:nsIn K mainGlobals "NoText" = some (↑xNoText))
  (eNoTree:nsIn K mainGlobals "NoTree" = some (↑xNoTree))
  (eNoWeights:nsIn K mainGlobals "NoWeights" = some (↑xNoWeights))
  (lWAYS:∃ (o:Obj) (its:Array FF) (n:Nat),K.lookup xWAYS=some o/\o.cls=.type "tuple" /\ o.data=.seq its n/\its.size<=sizeLine/\Vals [.str "down",.str "across"] its.toList)
  (cPlateError:excIn K xPlateError L2.bmVE "ValueError.__new__" = true)
  (cNoPlate:excIn K xNoPlate L2.bmVE "ValueError.__new__" = true)
  (cTooLarge:excIn K xTooLarge L2.bmVE "ValueError.__new__" = true)
  (cNoTable:excIn K xNoTable L2.bmVE "ValueError.__new__" = true)
  (cNoBlade:excIn K xNoBlade L2.bmVE "ValueError.__new__" = true)
  (cNoKind:excIn K xNoKind L2.bmVE "ValueError.__new__" = true)
  (cNoKinds:excIn K xNoKinds L2.bmVE "ValueError.__new__" = true)
  (cNoLaying:excIn K xNoLaying L2.bmVE "ValueError.__new__" = true)
  (cNoLying:excIn K xNoLying L2.bmVE "ValueError.__new__" = true)
  (cNoNumber:excIn K xNoNumber L2.bmVE "ValueError.__new__" = true)
  (cNoTelling:excIn K xNoTelling L2.bmVE "ValueError.__new__" = true)
  (cNoText:excIn K xNoText L2.bmVE "ValueError.__new__" = true)
  (cNoTree:excIn K xNoTree L2.bmVE "ValueError.__new__" = true)
  (cNoWeights:excIn K xNoWeights L2.bmVE "ValueError.__new__" = true)
  (sNoPlatePlateError:subIn K (.ref xNoPlate) (.ref xPlateError)=some true)
  (sNoPlateNoPlate:subIn K (.ref xNoPlate) (.ref xNoPlate)=some true)
  (sNoPlateTooLarge:subIn K (.ref xNoPlate) (.ref xTooLarge)=some false)
  (sNoPlateNoTable:subIn K (.ref xNoPlate) (.ref xNoTable)=some false)
  (sNoPlateNoBlade:subIn K (.ref xNoPlate) (.ref xNoBlade)=some false)
  (sNoPlateNoKind:subIn K (.ref xNoPlate) (.ref xNoKind)=some false)
  (sNoPlateNoKinds:subIn K (.ref xNoPlate) (.ref xNoKinds)=some false)
  (sNoPlateNoLaying:subIn K (.ref xNoPlate) (.ref xNoLaying)=some false)
  (sNoPlateNoLying:subIn K (.ref xNoPlate) (.ref xNoLying)=some false)
  (sNoPlateNoNumber:subIn K (.ref xNoPlate) (.ref xNoNumber)=some false)
  (sNoPlateNoTelling:subIn K (.ref xNoPlate) (.ref xNoTelling)=some false)
  (sNoPlateNoText:subIn K (.ref xNoPlate) (.ref xNoText)=some false)
  (sNoPlateNoTree:subIn K (.ref xNoPlate) (.ref xNoTree)=some false)
  (sNoPlateNoWeights:subIn K (.ref xNoPlate) (.ref xNoWeights)=some false)
  (vNoPlate:subIn K (.ref xNoPlate) (.type "ValueError")=some true)
  (kaNoPlate:findIn K (.ref xNoPlate) "__class__" = some (some (.builtin "object.__class__")))
  (kbNoPlate:findIn K (.ref xNoPlate) "__getattribute__" = some (some (.builtin "BaseException.__getattribute__")))
  (kcNoPlate:findIn K (.ref xNoPlate) "__getattr__" = some none)
  (kdNoPlate:subIn K (.ref xNoPlate) (.type "BaseException")=some true)
  (keNoPlate:subIn K (.ref xNoPlate) (.type "object")=some true)
  (sTooLargePlateError:subIn K (.ref xTooLarge) (.ref xPlateError)=some true)
  (sTooLargeNoPlate:subIn K (.ref xTooLarge) (.ref xNoPlate)=some false)
  (sTooLargeTooLarge:subIn K (.ref xTooLarge) (.ref xTooLarge)=some true)
  (sTooLargeNoTable:subIn K (.ref xTooLarge) (.ref xNoTable)=some false)
  (sTooLargeNoBlade:subIn K (.ref xTooLarge) (.ref xNoBlade)=some false)
  (sTooLargeNoKind:subIn K (.ref xTooLarge) (.ref xNoKind)=some false)
  (sTooLargeNoKinds:subIn K (.ref xTooLarge) (.ref xNoKinds)=some false)
  (sTooLargeNoLaying:subIn K (.ref xTooLarge) (.ref xNoLaying)=some false)
  (sTooLargeNoLying:subIn K (.ref xTooLarge) (.ref xNoLying)=some false)
  (sTooLargeNoNumber:subIn K (.ref xTooLarge) (.ref xNoNumber)=some false)
  (sTooLargeNoTelling:subIn K (.ref xTooLarge) (.ref xNoTelling)=some false)
  (sTooLargeNoText:subIn K (.ref xTooLarge) (.ref xNoText)=some false)
  (sTooLargeNoTree:subIn K (.ref xTooLarge) (.ref xNoTree)=some false)
  (sTooLargeNoWeights:subIn K (.ref xTooLarge) (.ref xNoWeights)=some false)
  (vTooLarge:subIn K (.ref xTooLarge) (.type "ValueError")=some true)
  (kaTooLarge:findIn K (.ref xTooLarge) "__class__" = some (some (.builtin "object.__class__")))
  (kbTooLarge:findIn K (.ref xTooLarge) "__getattribute__" = some (some (.builtin "BaseException.__getattribute__")))
  (kcTooLarge:findIn K (.ref xTooLarge) "__getattr__" = some none)
  (kdTooLarge:subIn K (.ref xTooLarge) (.type "BaseException")=some true)
  (keTooLarge:subIn K (.ref xTooLarge) (.type "object")=some true)
  (sNoTablePlateError:subIn K (.ref xNoTable) (.ref xPlateError)=some true)
  (sNoTableNoPlate:subIn K (.ref xNoTable) (.ref xNoPlate)=some false)
  (sNoTableTooLarge:subIn K (.ref xNoTable) (.ref xTooLarge)=some false)
  (sNoTableNoTable:subIn K (.ref xNoTable) (.ref xNoTable)=some true)
  (sNoTableNoBlade:subIn K (.ref xNoTable) (.ref xNoBlade)=some false)
  (sNoTableNoKind:subIn K (.ref xNoTable) (.ref xNoKind)=some false)
  (sNoTableNoKinds:subIn K (.ref xNoTable) (.ref xNoKinds)=some false)
  (sNoTableNoLaying:subIn K (.ref xNoTable) (.ref xNoLaying)=some false)
  (sNoTableNoLying:subIn K (.ref xNoTable) (.ref xNoLying)=some false)
  (sNoTableNoNumber:subIn K (.ref xNoTable) (.ref xNoNumber)=some false)
  (sNoTableNoTelling:subIn K (.ref xNoTable) (.ref xNoTelling)=some false)
  (sNoTableNoText:subIn K (.ref xNoTable) (.ref xNoText)=some false)
  (sNoTableNoTree:subIn K (.ref xNoTable) (.ref xNoTree)=some false)
  (sNoTableNoWeights:subIn K (.ref xNoTable) (.ref xNoWeights)=some false)
  (vNoTable:subIn K (.ref xNoTable) (.type "ValueError")=some true)
  (kaNoTable:findIn K (.ref xNoTable) "__class__" = some (some (.builtin "object.__class__")))
  (kbNoTable:findIn K (.ref xNoTable) "__getattribute__" = some (some (.builtin "BaseException.__getattribute__")))
  (kcNoTable:findIn K (.ref xNoTable) "__getattr__" = some none)
  (kdNoTable:subIn K (.ref xNoTable) (.type "BaseException")=some true)
  (keNoTable:subIn K (.ref xNoTable) (.type "object")=some true)
  (bPlateError:subIn K (.ref xPlateError) (.type "BaseException")=some true)
  (z0:nsIn K mainGlobals "isinstance" = some none)
  (z1:nsIn K mainGlobals "int" = some none)
  (z2:nsIn K mainGlobals "bool" = some none)
  (z3:nsIn K mainGlobals "list" = some none)
  (z4:nsIn K mainGlobals "tuple" = some none)
  (z5:nsIn K mainGlobals "len" = some none)
  (z6:nsIn K mainGlobals "range" = some none)
  (z7:nsIn K mainGlobals "max" = some none)
  (z8:nsIn K mainGlobals "min" = some none)
  (z9:nsIn K mainGlobals "abs" = some none)
  (z10:nsIn K mainGlobals "divmod" = some none)
  (z11:nsIn K mainGlobals "sum" = some none)
  (z12:nsIn K mainGlobals "sorted" = some none)
  (z13:nsIn K mainGlobals "all" = some none)
  (z14:nsIn K mainGlobals "repr" = some none)
  (z15:nsIn K mainGlobals "zip" = some none)
  (z16:nsIn K mainGlobals "enumerate" = some none)
  (z17:nsIn K mainGlobals "str" = some none)
  (z18:nsIn K mainGlobals "dict" = some none)
  (z19:nsIn K mainGlobals "ValueError" = some none)
  (uc0:nsIn K mainGlobals "MOST_KINDS" = some (some (.int 8 tc0)))
  (uc1:nsIn K mainGlobals "THINGS_OF_A_KIND" = some (some (.int 5 tc1)))
  (uc2:nsIn K mainGlobals "DOWN" = some (some (.str "down" tc2)))
  (uc3:nsIn K mainGlobals "REST" = some (some (.str "rest" tc3)))
  (uc4:nsIn K mainGlobals "PIECE" = some (some (.str "piece" tc4)))
  (uc5:nsIn K mainGlobals "ACROSS" = some (some (.str "across" tc5)))
  (uc6:nsIn K mainGlobals "MOST_SIDE" = some (some (.int 16 tc6))) :
  ∃fd:FD,(∀ (s:FB) (v:FF),BindsTo s fd ⟨[v],[]⟩ [("_law_script",v)])/\∀base:Heap,K.In base->base.Ns mainGlobals mg->FnOk l.prog w K mg base CX0 37 fa fd ["_law_script"] (mz K):=by
 obtain ⟨_,F0,b0,k0,q0⟩:=diE X G d0 ["thing","least"] (bd2 λ _ _ _ _ _ _ _ _=>rfl);obtain ⟨_,F1,b1,k1,q1⟩:=diE X G d1 ["thing"] (bd1 λ _ _ _ _ _ _ _=>rfl);obtain ⟨_,F2,b2,k2,q2⟩:=diE X G d2 ["thing"] (bd1 λ _ _ _ _ _ _ _=>rfl);obtain ⟨_,F3,b3,k3,q3⟩:=diE X G d3 ["thing"] (bd1 λ _ _ _ _ _ _ _=>rfl);obtain ⟨_,F4,b4,k4,q4⟩:=diE X G d4 ["kind"] (bd1 λ _ _ _ _ _ _ _=>rfl);obtain ⟨_,F5,b5,k5,q5⟩:=diE X G d5 ["wide","high"] (bd2 λ _ _ _ _ _ _ _ _=>rfl);obtain ⟨_,F6,b6,k6,q6⟩:=diE X G d6 ["wide","high","most"] (bd3 λ _ _ _ _ _ _ _ _ _=>rfl);obtain ⟨_,F7,b7,k7,q7⟩:=diE X G d7 ["shop","wide","high","kind","turned","x","y"] (bd7 λ _ _ _ _ _ _ _ _ _ _ _ _ _=>rfl);obtain ⟨_,F8,b8,k8,q8⟩:=diE X G d8 ["shop","part"] (bd2 λ _ _ _ _ _ _ _ _=>rfl);obtain ⟨_,F9,b9,k9,q9⟩:=diE X G d9 ["wide","high"] (bd2 λ _ _ _ _ _ _ _ _=>rfl);obtain ⟨_,F10,b10,k10,q10⟩:=diE X G d10 ["blade","part","way","p"] (bd4 λ _ _ _ _ _ _ _ _ _ _=>rfl);obtain ⟨_,F11,b11,k11,q11⟩:=diE X G d11 ["blade","part"] (bd2 λ _ _ _ _ _ _ _ _=>rfl);obtain ⟨_,F12,b12,k12,q12⟩:=diE X G d12 ["shop","part"] (bd2 λ _ _ _ _ _ _ _ _=>rfl);obtain ⟨_,F13,b13,k13,q13⟩:=diE X G d13 ["leaf_found","cuts","worths"] (bd3 λ _ _ _ _ _ _ _ _ _=>rfl);obtain ⟨_,F14,b14,k14,q14⟩:=diE X G d14 ["steps","key"] (bd2 λ _ _ _ _ _ _ _ _=>rfl);obtain ⟨_,F15,b15,k15,q15⟩:=diE X G d15 ["shop","wide","high"] (bd3 λ _ _ _ _ _ _ _ _ _=>rfl);obtain ⟨_,F16,b16,k16,q16⟩:=diE X G d16 ["wide","high","thing"] (bd3 λ _ _ _ _ _ _ _ _ _=>rfl);obtain ⟨_,F17,b17,k17,q17⟩:=diE X G d17 ["wide","high","thing"] (bd3 λ _ _ _ _ _ _ _ _ _=>rfl);obtain ⟨_,F18,b18,k18,q18⟩:=diE X G d18 ["shop","part","table"] (bd3 λ _ _ _ _ _ _ _ _ _=>rfl);obtain ⟨_,F19,b19,k19,q19⟩:=diE X G d19 ["shop","wide","high","table"] (bd4 λ _ _ _ _ _ _ _ _ _ _=>rfl);obtain ⟨_,F20,b20,k20,q20⟩:=diE X G d20 ["_law_cell"] (bd1 λ _ _ _ _ _ _ _=>rfl);obtain ⟨_,F21,b21,k21,q21⟩:=diE X G d21 ["_law_pot_here","_law_many"] (bd2 λ _ _ _ _ _ _ _ _=>rfl);obtain ⟨_,F22,b22,k22,q22⟩:=diE X G d22 ["_law_pot_here","_law_many"] (bd2 λ _ _ _ _ _ _ _ _=>rfl);obtain ⟨_,F23,b23,k23,q23⟩:=diE X G d23 ["_law_way","_law_shop","_law_wide","_law_high","_law_table"] (bd5 λ _ _ _ _ _ _ _ _ _ _ _=>rfl);obtain ⟨_,F24,b24,k24,q24⟩:=diE X G d24 ["_law_which"] (bd1 λ _ _ _ _ _ _ _=>rfl);obtain ⟨_,F25,b25,k25,q25⟩:=diE X G d25 ["_law_pot_here"] (bd1 λ _ _ _ _ _ _ _=>rfl);obtain ⟨_,F26,b26,k26,q26⟩:=diE X G d26 ["_law_pot_here","_law_table","_law_wide","_law_high"] (bd4 λ _ _ _ _ _ _ _ _ _ _=>rfl);obtain ⟨_,an,_,_,kV,dc,pm,cd,ct,a27,l27,c27,k27⟩:=d27;have F27:=jQ (st:=jy) l27 c27 k27;obtain ⟨_,Fm0,bm0,km0,am0,im0⟩:=miE dm0 ["self","blade","kinds"] (bd3 λ _ _ _ _ _ _ _ _ _=>rfl);obtain ⟨_,Fm1,bm1,km1,am1,im1⟩:=miE dm1 ["self"] (bd1 λ _ _ _ _ _ _ _=>rfl);obtain ⟨_,Fm2,bm2,km2,am2,im2⟩:=miE dm2 ["self"] (bd1 λ _ _ _ _ _ _ _=>rfl);obtain ⟨_,Fm3,bm3,km3,am3,im3⟩:=miE dm3 ["self"] (bd1 λ _ _ _ _ _ _ _=>rfl);obtain ⟨_,Fm4,bm4,km4,am4,im4⟩:=miE dm4 ["self","kind","turned"] (bd3 λ _ _ _ _ _ _ _ _ _=>rfl);obtain ⟨_,Fm5,bm5,km5,am5,im5⟩:=miE dm5 ["self","kind","turned"] (bd3 λ _ _ _ _ _ _ _ _ _=>rfl);have e:=hfa.symm.trans (mg_of X G a27);cases e;have y0:=mg_none_of X G z0;have y1:=mg_none_of X G z1;have y2:=mg_none_of X G z2;have y3:=mg_none_of X G z3;have y4:=mg_none_of X G z4;have y5:=mg_none_of X G z5;have y6:=mg_none_of X G z6;have y7:=mg_none_of X G z7;have y8:=mg_none_of X G z8;have y9:=mg_none_of X G z9;have y10:=mg_none_of X G z10;have y11:=mg_none_of X G z11;have y12:=mg_none_of X G z12;have y13:=mg_none_of X G z13;have y14:=mg_none_of X G z14;have y15:=mg_none_of X G z15;have y16:=mg_none_of X G z16;have y17:=mg_none_of X G z17;have y18:=mg_none_of X G z18;have y19:=mg_none_of X G z19;have gWAYS:=mg_of X G eWAYS;have gPlateError:=mg_of X G ePlateError;have gNoPlate:=mg_of X G eNoPlate;have gTooLarge:=mg_of X G eTooLarge;have gNoTable:=mg_of X G eNoTable;have gNoBlade:=mg_of X G eNoBlade;have gNoKind:=mg_of X G eNoKind;have gNoKinds:=mg_of X G eNoKinds;have gNoLaying:=mg_of X G eNoLaying;have gNoLying:=mg_of X G eNoLying
 have gNoNumber:=mg_of X G eNoNumber;have gNoTelling:=mg_of X G eNoTelling;have gNoText:=mg_of X G eNoText;have gNoTree:=mg_of X G eNoTree;have gNoWeights:=mg_of X G eNoWeights;have u0:=mg_of X G uc0;have u1:=mg_of X G uc1;have u2:=mg_of X G uc2;have u3:=mg_of X G uc3;have u4:=mg_of X G uc4;have u5:=mg_of X G uc5;have u6:=mg_of X G uc6;have qC:=mg_of X G aC;refine ⟨fnOf "law" "law" (defArgs jy) (defBody jy) (defScope jy) .none kV dc pm an cd ct,λ s v=>.of_eq rfl,λ base _ _=>?_⟩;have B:Blt mg:=⟨y0,y1,y2,y3,y4,y5,y6,y7,y8,y9,y10,y11,y12,y13,y14,y15,y16,⟨_,u0⟩,⟨_,u1⟩⟩
 have T:ShopTxt K C:=⟨⟨pg,hd,po,sa⟩,n0,n1⟩
 have ZB:BeC K mg xWAYS:=⟨⟨_,u2⟩,⟨_,u3⟩,⟨_,u4⟩,⟨_,u5⟩,⟨_,u6⟩,gWAYS,λ H=>.inr lWAYS⟩
 have D0:Dn l.prog w K mg base "is_whole" ["thing","least"] 1 (bq K):=⟨_,_,pF F0 B,b0,k0,q0⟩
 have D1:Dn l.prog w K mg base "is_truth" ["thing"] 1 (fN K):=⟨_,_,pG F1 B,b1,k1,q1⟩
 have D2:Dn l.prog w K mg base "is_row" ["thing"] 1 (lS K):=⟨_,_,uB F2 B,b2,k2,q2⟩
 have D3:Dn l.prog w K mg base "is_kind" ["thing"] 2 (eI K):=⟨_,_,nu F3 B D0 D1 D2,b3,k3,q3⟩
 have D4:Dn l.prog w K mg base "can_lie_turned" ["kind"] 1 (eK K):=⟨_,_,nv F4,b4,k4,q4⟩
 have MB:Mn l.prog w K mg base C "blade" ["self"] 1 (fO C):=⟨_,_,pH Fm1 T,bm1,⟨am1,im1,km1⟩⟩
 have MK:Mn l.prog w K mg base C "kinds" ["self"] 1 (fP C):=⟨_,_,pI Fm2 T y3,bm2,⟨am2,im2,km2⟩⟩
 have ML:Mn l.prog w K mg base C "lyings" ["self"] 2 (gv C):=⟨_,_,nw Fm3 T y16 D4,bm3,⟨am3,im3,km3⟩⟩
 have MI:Mn l.prog w K mg base C "is_lying" ["self","kind","turned"] 2 (dG K C):=⟨_,_,kr Fm4 B T D0 D1 D4,bm4,⟨am4,im4,km4⟩⟩
 have MS:Mn l.prog w K mg base C "sides" ["self","kind","turned"] 3 (spSides K C):=⟨_,_,pL Fm5 T MI,bm5,⟨am5,im5,km5⟩⟩
 have DS:Kn l.prog w K mg base "Shop" C ["self","blade","kinds"] 3 (jT C):=⟨_,_,⟨mk,am0,im0,kc⟩,rM Fm0 B T D0 D2 D3,bm0,qC⟩
 have D5:Dn l.prog w K mg base "check_plate" ["wide","high"] 2 (spCP):=⟨_,_,nA F5 D0,b5,k5,q5⟩
 have D6:Dn l.prog w K mg base "check_sides" ["wide","high","most"] 1 (spCS):=⟨_,_,nC F6,b6,k6,q6⟩
 have D7:Dn l.prog w K mg base "lies_in" ["shop","wide","high","kind","turned","x","y"] 4 (spLies C):=⟨_,_,rP F7 T D0 MI MS,b7,k7,q7⟩
 have D8:Dn l.prog w K mg base "lyings_in" ["shop","part"] 5 (spLyIn C):=⟨_,_,rS F8 T ML D7,b8,k8,q8⟩
 have D9:Dn l.prog w K mg base "parts_up_to" ["wide","high"] 1 (spParts):=⟨_,_,pO F9 B,b9,k9,q9⟩
 have D10:Dn l.prog w K mg base "cut_parts" ["blade","part","way","p"] 1 (spParts2):=⟨_,_,nD F10 ZB,b10,k10,q10⟩
 have D11:Dn l.prog w K mg base "cuts_of" ["blade","part"] 2 (spCuts):=⟨_,_,rT F11 B ZB D10,b11,k11,q11⟩
 have D12:Dn l.prog w K mg base "best_leaf" ["shop","part"] 6 (spBLeaf C):=⟨_,_,pS F12 ZB T MK D8,b12,k12,q12⟩
 have D13:Dn l.prog w K mg base "best_step" ["leaf_found","cuts","worths"] 1 (spStep):=⟨_,_,pT F13,b13,k13,q13⟩
 have D14:Dn l.prog w K mg base "tree_by_steps" ["steps","key"] 34 (spTBS 33):=⟨_,_,mi F14 ZB (λ n h=>⟨_,_,h,b14,k14,q14⟩) 33,b14,k14,q14⟩
 have D15:Dn l.prog w K mg base "best_of" ["shop","wide","high"] 35 (spBestOf C):=⟨_,_,ig F15 ZB T MB D5 D6 D9 D11 D12 D13 D14,b15,k15,q15⟩
 have XCP:L2.DnX l.prog w K mg base "check_plate" ["wide","high"] 2 (mw K xNoPlate):=⟨_,_,kB F5 gNoPlate cNoPlate D0,b5,k5,q5⟩
 have XCS:L2.DnX l.prog w K mg base "check_sides" ["wide","high","most"] 1 (mx xTooLarge):=⟨_,_,kC F6 gTooLarge cTooLarge,b6,k6,q6⟩
 have XBE:L2.DnX l.prog w K mg base "best_of" ["shop","wide","high"] 35 (λ vs H Q E=>spBestOf C vs H Q E\/iU K xNoPlate xTooLarge vs H Q E):=⟨_,_,FnOk.or (FnOk.weak (ig F15 ZB T MB D5 D6 D9 D11 D12 D13 D14)) (FnOk.mono (qj F15 ⟨_,u6⟩ XCP XCS) ∅),b15,k15,q15⟩
 have D16:Dn l.prog w K mg base "is_key" ["wide","high","thing"] 2 (spIsKey):=⟨_,_,qh F16 B D0,b16,k16,q16⟩
 have D17:Dn l.prog w K mg base "is_table" ["wide","high","thing"] 3 (spIsTab):=⟨_,_,qi F17 B y18 D0 D16,b17,k17,q17⟩
 have D18:Dn l.prog w K mg base "bears_part" ["shop","part","table"] 6 (spBearsP C):=⟨_,_,nH F18 B T MB MK D8 D11,b18,k18,q18⟩
 have D19:Dn l.prog w K mg base "bears" ["shop","wide","high","table"] 7 (spBearsT C):=⟨_,_,nI F19 ZB B D5 D6 D17 D18 D9,b19,k19,q19⟩
 have DKG:Dn l.prog w K mg base "is_key" ["wide","high","thing"] 2 dA:=⟨_,_,nJ F16 B D0,b16,k16,q16⟩
 have DTG:Dn l.prog w K mg base "is_table" ["wide","high","thing"] 3 (λ vs H Q E=>gM K vs H Q E\/(gN vs H Q E\/gO K vs H Q E)):=⟨_,_,FnOk.or (nL F17 B y18 D0 DKG) (FnOk.or (nM F17 B y18 D0 DKG) (nN F17 B y18 D0 DKG)),b17,k17,q17⟩
 have XBR:L2.DnX l.prog w K mg base "bears" ["shop","wide","high","table"] 7 (gL K xNoPlate xTooLarge xNoTable):=⟨_,_,nO F19 ⟨_,u6⟩ gNoTable cNoTable XCP XCS DTG,b19,k19,q19⟩
 have ZC:Cl mg xNoPlate xTooLarge xNoTable xNoBlade xNoKind xNoKinds xNoLaying xNoLying xNoNumber xNoTelling xNoText xNoTree xNoWeights:=⟨gNoPlate,gTooLarge,gNoTable,gNoBlade,gNoKind,gNoKinds,gNoLaying,gNoLying,gNoNumber,gNoTelling,gNoText,gNoTree,gNoWeights,y19⟩
 have XNoPlate:ExK K xNoPlate:=⟨kaNoPlate,kbNoPlate,kcNoPlate,kdNoPlate,keNoPlate,(fQ cNoPlate).1⟩
 have Y0:Ec K xPlateError xNoPlate xNoPlate xTooLarge xNoTable xNoBlade xNoKind xNoKinds xNoLaying xNoLying xNoNumber xNoTelling xNoText xNoTree xNoWeights 0:=⟨XNoPlate,gx,(aH sNoPlateNoPlate cTooLarge sNoPlateTooLarge),(aH sNoPlateNoPlate cNoTable sNoPlateNoTable),jX vNoPlate,(ao (aH sNoPlateNoPlate cNoBlade sNoPlateNoBlade) (ao (aH sNoPlateNoPlate cNoKind sNoPlateNoKind) (ao (aH sNoPlateNoPlate cNoKinds sNoPlateNoKinds) (ao (aH sNoPlateNoPlate cNoLaying sNoPlateNoLaying) (ao (aH sNoPlateNoPlate cNoLying sNoPlateNoLying) cf))))),(ao (aH sNoPlateNoPlate cNoNumber sNoPlateNoNumber) (ao (aH sNoPlateNoPlate cNoTelling sNoPlateNoTelling) (ao (aH sNoPlateNoPlate cNoText sNoPlateNoText) (ao (aH sNoPlateNoPlate cNoTree sNoPlateNoTree) (ao (aH sNoPlateNoPlate cNoWeights sNoPlateNoWeights) cf))))),jY cPlateError bPlateError sNoPlatePlateError⟩
 have XTooLarge:ExK K xTooLarge:=⟨kaTooLarge,kbTooLarge,kcTooLarge,kdTooLarge,keTooLarge,(fQ cTooLarge).1⟩
 have Y1:Ec K xPlateError xTooLarge xNoPlate xTooLarge xNoTable xNoBlade xNoKind xNoKinds xNoLaying xNoLying xNoNumber xNoTelling xNoText xNoTree xNoWeights 1:=⟨XTooLarge,(aH sTooLargeTooLarge cNoPlate sTooLargeNoPlate),gx,(aH sTooLargeTooLarge cNoTable sTooLargeNoTable),jX vTooLarge,(ao (aH sTooLargeTooLarge cNoBlade sTooLargeNoBlade) (ao (aH sTooLargeTooLarge cNoKind sTooLargeNoKind) (ao (aH sTooLargeTooLarge cNoKinds sTooLargeNoKinds) (ao (aH sTooLargeTooLarge cNoLaying sTooLargeNoLaying) (ao (aH sTooLargeTooLarge cNoLying sTooLargeNoLying) cf))))),(ao (aH sTooLargeTooLarge cNoNumber sTooLargeNoNumber) (ao (aH sTooLargeTooLarge cNoTelling sTooLargeNoTelling) (ao (aH sTooLargeTooLarge cNoText sTooLargeNoText) (ao (aH sTooLargeTooLarge cNoTree sTooLargeNoTree) (ao (aH sTooLargeTooLarge cNoWeights sTooLargeNoWeights) cf))))),jY cPlateError bPlateError sTooLargePlateError⟩
 have XNoTable:ExK K xNoTable:=⟨kaNoTable,kbNoTable,kcNoTable,kdNoTable,keNoTable,(fQ cNoTable).1⟩
 have Y2:Ec K xPlateError xNoTable xNoPlate xTooLarge xNoTable xNoBlade xNoKind xNoKinds xNoLaying xNoLying xNoNumber xNoTelling xNoText xNoTree xNoWeights 2:=⟨XNoTable,(aH sNoTableNoTable cNoPlate sNoTableNoPlate),(aH sNoTableNoTable cTooLarge sNoTableTooLarge),gx,jX vNoTable,(ao (aH sNoTableNoTable cNoBlade sNoTableNoBlade) (ao (aH sNoTableNoTable cNoKind sNoTableNoKind) (ao (aH sNoTableNoTable cNoKinds sNoTableNoKinds) (ao (aH sNoTableNoTable cNoLaying sNoTableNoLaying) (ao (aH sNoTableNoTable cNoLying sNoTableNoLying) cf))))),(ao (aH sNoTableNoTable cNoNumber sNoTableNoNumber) (ao (aH sNoTableNoTable cNoTelling sNoTableNoTelling) (ao (aH sNoTableNoTable cNoText sNoTableNoText) (ao (aH sNoTableNoTable cNoTree sNoTableNoTree) (ao (aH sNoTableNoTable cNoWeights sNoTableNoWeights) cf))))),jY cPlateError bPlateError sNoTablePlateError⟩
 have D20:Dn l.prog w K mg base "_law_pot" ["_law_cell"] 1 (jZ):=⟨_,_,uH F20 B,b20,k20,q20⟩
 have D21:Dn l.prog w K mg base "_law_draw" ["_law_pot_here","_law_many"] 1 (dH):=⟨_,_,sj F21 B,b21,k21,q21⟩
 have D22:Dn l.prog w K mg base "_law_great" ["_law_pot_here","_law_many"] 2 (eU):=⟨_,_,nP F22 B D21,b22,k22,q22⟩
 have D23:Dn l.prog w K mg base "_law_told" ["_law_way","_law_shop","_law_wide","_law_high","_law_table"] 36 (iV K C):=⟨_,_,qk F23 B ZC Y0 Y1 Y2 gPlateError XBE XBR,b23,k23,q23⟩
 have D24:Dn l.prog w K mg base "_law_due" ["_law_which"] 1 (kD):=⟨_,_,sk F24 B,b24,k24,q24⟩
 have D25:Dn l.prog w K mg base "_law_no_side" ["_law_pot_here"] 3 (gP):=⟨_,_,nQ F25 B D21 D22,b25,k25,q25⟩
 have D26:Dn l.prog w K mg base "_law_spoiled" ["_law_pot_here","_law_table","_law_wide","_law_high"] 3 (iW K):=⟨_,_,qr F26 B y18 D21,b26,k26,q26⟩
 exact uL F27 B y18 D20 D21 D22 D15 D19 D25 D26 D23 D24 DS
theorem walk {l:PySem.W.OpenLaw} {q:FC} {loose:List Str} {XP:(Str->Option FF)->Heap->Prop} {YP:FE->Heap->Prop} {d:DefRec} {K:Params->C1} (hn:l.most=some 63) (hdf:d.params.defaults=[])
  (hY:∀ (w:FE) (h:Heap),YP w h->(K w.params).In h)
  (F:∀ (w:FE) (mg:Str->Option FF) (fa:Addr) (h:Heap),(K w.params).In h->h.Ns mainGlobals mg->mg d.name=↑fa ->
   ∃fd:FD,(∀ (s:FB) (u:FF),BindsTo s fd ⟨[u],[]⟩ [("_law_script",u)])/\∀base:Heap,(K w.params).In base->base.Ns mainGlobals mg->FnOk l.prog w (K w.params) mg base CX0 37 fa fd ["_law_script"] (mz (K w.params))) :
  PySem.W.WalkO q loose XP YP l.row.toRowW d [] (λ f vs=>PySem.call f vs) :=
 L2.walk_of (n:=63) (k:=37) (x := "_law_script") (CX:=λ _=>CX0) (sp:=λ w=>mz (K w.params)) hn ∅ hdf ⟨rfl,∅,∅,rfl⟩ hY F (λ _ _ a ns hl _ hS=>⟨a,ns,Y,hS,hl,λ _=>rfl⟩) λ _ _ _ _ _ z=>z
end Pc
namespace Pc
open PySem L2
section
open PySem.W
def kE (P:Params) (n:Str) (t:Nat) (v:FF):DictEntry:=⟨PyData.keyHash P n,.str n t,v⟩
def kO3 (P:Params):Obj:=⟨(.type "dict"),none,(.dict #[kE P "__name__" 165 (.str "law_platecuts_k46_refused_plates_and_tables" 714),kE P "__doc__" 166 .none,kE P "__package__" 167 .none,kE P "__loader__" 168 (.builtin "__main__.__loader__#opaque"),kE P "__spec__" 169 .none,kE P "__annotations__" 170 (.ref 6),kE P "__builtins__" 171 (.ref 4),kE P "__file__" 173 (.str "/claim/cut.py" 172),kE P "__cached__" 174 .none,kE P "PlateError" 206 (.ref 24),kE P "NoBlade" 222 (.ref 37),kE P "NoKinds" 238 (.ref 49),kE P "NoKind" 254 (.ref 61),kE P "NoLying" 270 (.ref 73),kE P "NoText" 286 (.ref 85),kE P "NoPlate" 302 (.ref 97),kE P "NoTree" 318 (.ref 109),kE P "NoLaying" 334 (.ref 121),kE P "TooLarge" 350 (.ref 133),kE P "NoTable" 366 (.ref 145),kE P "NoNumber" 382 (.ref 157),kE P "NoWeights" 398 (.ref 169),kE P "NoTelling" 414 (.ref 181),kE P "is_whole" 424 (.ref 190),kE P "is_truth" 431 (.ref 197),kE P "is_row" 438 (.ref 204),kE P "check_plate" 446 (.ref 211),kE P "check_sides" 455 (.ref 218),kE P "DOWN" 459 (.str "down" 458),kE P "ACROSS" 461 (.str "across" 460),kE P "WAYS" 462 (.ref 219),kE P "lies_in" 477 (.ref 226),kE P "lyings_in" 483 (.ref 231),kE P "cut_parts" 495 (.ref 238),kE P "cuts_of" 501 (.ref 243),kE P "parts_up_to" 507 (.ref 248),kE P "REST" 509 (.str "rest" 508),kE P "PIECE" 511 (.str "piece" 510),kE P "MOST_SIDE" 515 (.int 16 514),kE P "best_leaf" 528 (.ref 255),kE P "best_step" 541 (.ref 262),kE P "tree_by_steps" 554 (.ref 269),kE P "best_of" 570 (.ref 276),kE P "is_key" 583 (.ref 283),kE P "is_table" 589 (.ref 288),kE P "bears_part" 605 (.ref 295),kE P "bears" 611 (.ref 300),kE P "MOST_KINDS" 615 (.int 8 614),kE P "THINGS_OF_A_KIND" 617 (.int 5 616),kE P "is_kind" 629 (.ref 307),kE P "can_lie_turned" 636 (.ref 314),kE P "Shop" 713 (.ref 369),kE P "_law_pot" 722 (.ref 380),kE P "_law_draw" 731 (.ref 387),kE P "_law_great" 741 (.ref 394),kE P "_law_told" 754 (.ref 401),kE P "_law_due" 760 (.ref 406),kE P "_law_no_side" 769 (.ref 413),kE P "_law_spoiled" 775 (.ref 418),kE P "law" 801 (.ref 425)] 60),#[]⟩
def Da (P:Params):Obj:=⟨(.type "dict"),none,(.dict #[kE P "__module__" 196 (.str "platecuts.errors" 187),kE P "__firstlineno__" 200 (.int 2 199),kE P "__static_attributes__" 201 (.ref 22),kE P "__weakref__" 203 (.ref 25),kE P "__doc__" 204 .none] 3),#[]⟩
def Db (P:Params):Obj:=⟨(.type "type"),none,(.cls ⟨"PlateError",[.type "ValueError"],[.ref 24,.type "ValueError",.type "Exception",.type "BaseException",.type "object"],23,"PlateError",true,[],[.ref 37,.ref 49,.ref 61,.ref 73,.ref 85,.ref 97,.ref 109,.ref 121,.ref 133,.ref 145,.ref 157,.ref 169,.ref 181],false,none,false⟩),#[↑15,none,some (.str "PlateError" 189),some (.str "PlateError" 197),some (.builtin "ValueError.__new__"),some (.bool true)]⟩
def gk0 (x0 x1 x2 x3 x4 x5 x6:Nat)(P:Params):Obj:=⟨(.type "dict"),none,(.dict #[kE P "__module__" x0 (.str "platecuts.errors" 187),kE P "__firstlineno__" x1 (.int x2 x3),kE P "__static_attributes__" x4 (.ref x5),kE P "__doc__" x6 .none] 2),#[]⟩
def Dc:=gk0 214 218 4 217 219 35 220
def gk1 (x0:Str)(x1 x2 x3 x4 x5:Nat)(P:Params):Obj:=⟨(.type "type"),none,(.cls ⟨x0,[.ref 24],[.ref x1,.ref 24,.type "ValueError",.type "Exception",.type "BaseException",.type "object"],x2,x0,true,[],[],false,none,false⟩),#[↑x3,none,some (.str x0 x4),some (.str x0 x5),some (.builtin "ValueError.__new__"),some (.bool true)]⟩
def Dd:=gk1 "NoBlade" 37 36 28 207 215
def De:=gk0 230 234 6 233 235 47 236
def Df:=gk1 "NoKinds" 49 48 40 223 231
def Dg:=gk0 246 250 8 249 251 59 252
def Dh:=gk1 "NoKind" 61 60 52 239 247
def Di:=gk0 262 266 10 265 267 71 268
def Dj:=gk1 "NoLying" 73 72 64 255 263
def Dk:=gk0 278 282 12 281 283 83 284
def Dl:=gk1 "NoText" 85 84 76 271 279
def Dm:=gk0 294 298 14 297 299 95 300
def Do:=gk1 "NoPlate" 97 96 88 287 295
def yT:=gk0 310 314 16 313 315 107 316
def yU:=gk1 "NoTree" 109 108 100 303 311
def yV:=gk0 326 330 18 329 331 119 332
def yW:=gk1 "NoLaying" 121 120 112 319 327
def yX:=gk0 342 346 20 345 347 131 348
def yY:=gk1 "TooLarge" 133 132 124 335 343
def yZ:=gk0 358 362 22 361 363 143 364
def za:=gk1 "NoTable" 145 144 136 351 359
def zb:=gk0 374 378 24 377 379 155 380
def zc:=gk1 "NoNumber" 157 156 148 367 375
def zd:=gk0 390 394 26 393 395 167 396
def ze:=gk1 "NoWeights" 169 168 160 383 391
def zf:=gk0 406 410 28 409 411 179 412
def zg:=gk1 "NoTelling" 181 180 172 399 407
def gk2 (x0:Str)(x1:Nat)(x2:Str)(x3 x4 x5 x6 x7 x8 x9 x10 x11 x12 x13:Nat)(P:Params):Obj:=⟨(.type "code"),none,(.fields #[.str x0 x1,.str x2 x3,.str "/claim/cut.py" x4,.int x5 0,.int x6 0,.int 0 0,.int 0 0,.int 3 0,.ref x7,.bool true,.int 181 0,.ref x8,.none,.ref x9,.ref x10,.ref x11,.int x12 0,.int x5 0,.str "/claim/cut.py" x13]),#[]⟩
def zh:=gk2 "is_whole" 417 "is_whole" 418 419 31 2 184 185 186 187 188 422 423
def gk3 (x0 x1:Str)(x2:Stmt)(x3:Str)(x4 x5:Nat)(P:Params):Obj:=⟨(.type "function"),none,(.func (fnOf x0 x1 (defArgs x2) (defBody x2) (defScope x2) .none .none .none (.str x3 x4) none (.ref x5) .none)),#[]⟩
def zi:=gk3 "is_whole" "is_whole" iM "platecuts.checks" 415 189
def zj:=gk2 "is_truth" 425 "is_truth" 426 427 33 1 191 192 193 194 195 429 430
def zk:=gk3 "is_truth" "is_truth" iN "platecuts.checks" 415 196
def zm:=gk2 "is_row" 432 "is_row" 433 434 35 1 198 199 200 201 202 436 437
def zn:=gk3 "is_row" "is_row" rH "platecuts.checks" 415 203
def zo:=gk2 "check_plate" 439 "check_plate" 440 441 37 2 205 206 207 208 209 444 445
def zp:=gk3 "check_plate" "check_plate" bU "platecuts.checks" 415 210
def zq:=gk2 "check_sides" 447 "check_sides" 448 449 40 3 212 213 214 215 216 453 454
def zr:=gk3 "check_sides" "check_sides" bV "platecuts.checks" 415 217
def zt (P:Params):Obj:=⟨(.type "tuple"),none,(.seq #[.str "down" 458,.str "across" 460] 0),#[]⟩
def zu:=gk2 "lies_in" 463 "lies_in" 464 465 47 7 220 221 222 223 224 475 476
def zv:=gk3 "lies_in" "lies_in" fV "platecuts.parts" 456 225
def gk4 (x0:Str)(x1:Nat)(x2:Str)(x3 x4 x5 x6 x7 x8 x9 x10 x11:Nat)(P:Params):Obj:=⟨(.type "code"),none,(.fields #[.str x0 x1,.str x2 x3,.str "/claim/cut.py" x4,.int x5 0,.int x6 0,.int 0 0,.int 0 0,.int 3 0,.ref x7,.bool true,.int 181 0,.ref x8,.none,.none,.none,.ref x9,.int x10 0,.int x5 0,.str "/claim/cut.py" x11]),#[]⟩
def zw:=gk4 "lyings_in" 478 "lyings_in" 479 480 52 2 227 228 229 481 482
def zx:=gk3 "lyings_in" "lyings_in" cO "platecuts.parts" 456 230
def zy:=gk2 "cut_parts" 484 "cut_parts" 485 486 55 4 232 233 234 235 236 493 494
def zA:=gk3 "cut_parts" "cut_parts" dI "platecuts.parts" 456 237
def zB:=gk4 "cuts_of" 496 "cuts_of" 497 498 60 2 239 240 241 499 500
def zC:=gk3 "cuts_of" "cuts_of" cV "platecuts.parts" 456 242
def zD:=gk4 "parts_up_to" 502 "parts_up_to" 503 504 64 2 244 245 246 505 506
def zE:=gk3 "parts_up_to" "parts_up_to" cB "platecuts.parts" 456 247
def zF:=gk2 "best_leaf" 516 "best_leaf" 517 518 70 2 249 250 251 252 253 526 527
def zG:=gk3 "best_leaf" "best_leaf" dJ "platecuts.best" 512 254
def zH:=gk2 "best_step" 529 "best_step" 530 531 77 3 256 257 258 259 260 539 540
def zI:=gk3 "best_step" "best_step" dL "platecuts.best" 512 261
def zJ:=gk2 "tree_by_steps" 542 "tree_by_steps" 543 544 84 2 263 264 265 266 267 552 553
def zK:=gk3 "tree_by_steps" "tree_by_steps" bL "platecuts.best" 512 268
def zL:=gk2 "best_of" 555 "best_of" 556 557 90 3 270 271 272 273 274 568 569
def zM:=gk3 "best_of" "best_of" dM "platecuts.best" 512 275
def zN:=gk2 "is_key" 573 "is_key" 574 575 103 3 277 278 279 280 281 581 582
def zO:=gk3 "is_key" "is_key" fu "platecuts.tables" 571 282
def zP:=gk4 "is_table" 584 "is_table" 585 586 108 3 284 285 286 587 588
def zQ:=gk3 "is_table" "is_table" bf "platecuts.tables" 571 287
def zR:=gk2 "bears_part" 590 "bears_part" 591 592 112 3 289 290 291 292 293 603 604
def zS:=gk3 "bears_part" "bears_part" cW "platecuts.tables" 571 294
def zT:=gk4 "bears" 606 "bears" 607 608 121 4 296 297 298 609 610
def zU:=gk3 "bears" "bears" eA "platecuts.tables" 571 299
def zV:=gk2 "is_kind" 618 "is_kind" 619 620 130 1 301 302 303 304 305 627 628
def zW:=gk3 "is_kind" "is_kind" fW "platecuts.shops" 612 306
def zX:=gk2 "can_lie_turned" 630 "can_lie_turned" 631 632 137 1 308 309 310 311 312 634 635
def zY:=gk3 "can_lie_turned" "can_lie_turned" fX "platecuts.shops" 612 313
def zZ:=gk4 "__init__" 649 "Shop.__init__" 650 651 141 3 322 323 324 652 653
def Aa:=gk3 "__init__" "Shop.__init__" cP "platecuts.shops" 612 325
def Ab:=gk2 "blade" 655 "Shop.blade" 656 657 152 1 327 328 329 330 331 659 660
def Ac:=gk3 "blade" "Shop.blade" cX "platecuts.shops" 612 332
def Ad:=gk2 "kinds" 662 "Shop.kinds" 663 664 155 1 334 335 336 337 338 666 667
def Ae:=gk3 "kinds" "Shop.kinds" cY "platecuts.shops" 612 339
def Af:=gk4 "wanted" 669 "Shop.wanted" 670 671 158 1 341 342 343 672 673
def Ag:=gk3 "wanted" "Shop.wanted" jx "platecuts.shops" 612 344
def Ah:=gk2 "lyings" 675 "Shop.lyings" 676 677 161 1 346 347 348 349 350 682 683
def Ai:=gk3 "lyings" "Shop.lyings" cH "platecuts.shops" 612 351
def Aj:=gk2 "is_lying" 685 "Shop.is_lying" 686 687 169 3 353 354 355 356 357 691 692
def Ak:=gk3 "is_lying" "Shop.is_lying" cw "platecuts.shops" 612 358
def Al:=gk2 "sides" 694 "Shop.sides" 695 696 174 3 360 361 362 363 364 701 702
def Am:=gk3 "sides" "Shop.sides" cZ "platecuts.shops" 612 365
def An (P:Params):Obj:=⟨(.type "dict"),none,(.dict #[kE P "__module__" 644 (.str "platecuts.shops" 612),kE P "__firstlineno__" 648 (.int 139 647),kE P "__init__" 654 (.ref 326),kE P "blade" 661 (.ref 333),kE P "kinds" 668 (.ref 340),kE P "wanted" 674 (.ref 345),kE P "lyings" 684 (.ref 352),kE P "is_lying" 693 (.ref 359),kE P "sides" 703 (.ref 366),kE P "__static_attributes__" 706 (.ref 367),kE P "__dict__" 708 (.ref 370),kE P "__weakref__" 710 (.ref 371),kE P "__doc__" 711 .none] 4),#[]⟩
def Ao (P:Params):Obj:=⟨(.type "type"),none,(.cls ⟨"Shop",[.type "object"],[.ref 369,.type "object"],368,"Shop",true,[],[],false,none,false⟩),#[none,none,some (.str "Shop" 637),some (.str "Shop" 645),some (.builtin "object.__new__"),some (.bool true)]⟩
def Ap:=gk2 "_law_pot" 716 "_law_pot" 717 718 182 1 374 375 376 377 378 720 721
def Aq:=gk3 "_law_pot" "_law_pot" rJ "law_platecuts_k46_refused_plates_and_tables" 714 379
def Ar:=gk2 "_law_draw" 723 "_law_draw" 724 725 184 2 381 382 383 384 385 729 730
def As:=gk3 "_law_draw" "_law_draw" lX "law_platecuts_k46_refused_plates_and_tables" 714 386
def At:=gk2 "_law_great" 732 "_law_great" 733 734 191 2 388 389 390 391 392 739 740
def Au:=gk3 "_law_great" "_law_great" iO "law_platecuts_k46_refused_plates_and_tables" 714 393
def Av:=gk2 "_law_told" 742 "_law_told" 743 744 198 5 395 396 397 398 399 752 753
def Aw:=gk3 "_law_told" "_law_told" lY "law_platecuts_k46_refused_plates_and_tables" 714 400
def Ax:=gk4 "_law_due" 755 "_law_due" 756 757 210 1 402 403 404 758 759
def Ay:=gk3 "_law_due" "_law_due" pE "law_platecuts_k46_refused_plates_and_tables" 714 405
def Az:=gk2 "_law_no_side" 761 "_law_no_side" 762 763 212 1 407 408 409 410 411 767 768
def AA:=gk3 "_law_no_side" "_law_no_side" fY "law_platecuts_k46_refused_plates_and_tables" 714 412
def AB:=gk4 "_law_spoiled" 770 "_law_spoiled" 771 772 216 4 414 415 416 773 774
def AC:=gk3 "_law_spoiled" "_law_spoiled" du "law_platecuts_k46_refused_plates_and_tables" 714 417
def AD:=gk2 "law" 776 "law" 777 778 236 1 419 420 421 422 423 799 800
def AE:=gk3 "law" "law" jy "law_platecuts_k46_refused_plates_and_tables" 714 424
def kK:Params->Frag:=λ P=>(nat_lit 3,kO3 P) :: (nat_lit 23,Da P) :: (nat_lit 24,Db P) :: (nat_lit 36,Dc P) :: (nat_lit 37,Dd P) :: (nat_lit 48,De P) :: (nat_lit 49,Df P) :: (nat_lit 60,Dg P) :: (nat_lit 61,Dh P) :: (nat_lit 72,Di P) :: (nat_lit 73,Dj P) :: (nat_lit 84,Dk P) :: (nat_lit 85,Dl P) :: (nat_lit 96,Dm P) :: (nat_lit 97,Do P) :: (nat_lit 108,yT P) :: (nat_lit 109,yU P) :: (nat_lit 120,yV P) :: (nat_lit 121,yW P) :: (nat_lit 132,yX P) :: (nat_lit 133,yY P) :: (nat_lit 144,yZ P) :: (nat_lit 145,za P) :: (nat_lit 156,zb P) :: (nat_lit 157,zc P) :: (nat_lit 168,zd P) :: (nat_lit 169,ze P) :: (nat_lit 180,zf P) :: (nat_lit 181,zg P) :: (nat_lit 189,zh P) :: (nat_lit 190,zi P) :: (nat_lit 196,zj P) :: (nat_lit 197,zk P) :: (nat_lit 203,zm P) :: (nat_lit 204,zn P) :: (nat_lit 210,zo P) :: (nat_lit 211,zp P) :: (nat_lit 217,zq P) :: (nat_lit 218,zr P) :: (nat_lit 219,zt P) :: (nat_lit 225,zu P) :: (nat_lit 226,zv P) :: (nat_lit 230,zw P) :: (nat_lit 231,zx P) :: (nat_lit 237,zy P) :: (nat_lit 238,zA P) :: (nat_lit 242,zB P) :: (nat_lit 243,zC P) :: (nat_lit 247,zD P) :: (nat_lit 248,zE P) :: (nat_lit 254,zF P) :: (nat_lit 255,zG P) :: (nat_lit 261,zH P) :: (nat_lit 262,zI P) :: (nat_lit 268,zJ P) :: (nat_lit 269,zK P) :: (nat_lit 275,zL P) :: (nat_lit 276,zM P) :: (nat_lit 282,zN P) :: (nat_lit 283,zO P) :: (nat_lit 287,zP P) :: (nat_lit 288,zQ P) :: (nat_lit 294,zR P) :: (nat_lit 295,zS P) :: (nat_lit 299,zT P) :: (nat_lit 300,zU P) :: (nat_lit 306,zV P) :: (nat_lit 307,zW P) :: (nat_lit 313,zX P) :: (nat_lit 314,zY P) :: (nat_lit 325,zZ P) :: (nat_lit 326,Aa P) :: (nat_lit 332,Ab P) :: (nat_lit 333,Ac P) :: (nat_lit 339,Ad P) :: (nat_lit 340,Ae P) :: (nat_lit 344,Af P) :: (nat_lit 345,Ag P) :: (nat_lit 351,Ah P) :: (nat_lit 352,Ai P) :: (nat_lit 358,Aj P) :: (nat_lit 359,Ak P) :: (nat_lit 365,Al P) :: (nat_lit 366,Am P) :: (nat_lit 368,An P) :: (nat_lit 369,Ao P) :: (nat_lit 379,Ap P) :: (nat_lit 380,Aq P) :: (nat_lit 386,Ar P) :: (nat_lit 387,As P) :: (nat_lit 393,At P) :: (nat_lit 394,Au P) :: (nat_lit 400,Av P) :: (nat_lit 401,Aw P) :: (nat_lit 405,Ax P) :: (nat_lit 406,Ay P) :: (nat_lit 412,Az P) :: (nat_lit 413,AA P) :: (nat_lit 417,AB P) :: (nat_lit 418,AC P) :: (nat_lit 424,AD P) :: (nat_lit 425,AE P) :: []
end
end Pc
abbrev PySem.W.Fast.tw13838890042825309839:PySem.Program:=PySem.Challenge.pw_platecuts_k46_refused_plates_and_tables
theorem PySem.W.Fast.te13838890042825309839:PySem.Challenge.pw_platecuts_k46_refused_plates_and_tables=PySem.W.Fast.tw13838890042825309839:=rfl
namespace Hd
open PySem PySem.W
def S0:Str:="__name__"
def S2:Str:="__doc__"
def S3:Str:="__package__"
def S4:Str:="__loader__"
def S5:Str:="__spec__"
def Dp:Str:="__main__"
def uN:Str:="__annotations__"
def uO:Str:="__builtins__"
def uP:Str:="__file__"
def iX:Str:=⟨⟨[47,99,108,97,105,109,47,99,117,116,46,112,121]⟩⟩
def uQ:Str:="__cached__"
def Dq:Str:="<module>"
def df:Str:="platecuts.errors"
def eX:Str:="PlateError"
def kJ:Str:="NoBlade"
def kL:Str:="NoKinds"
def kM:Str:="NoKind"
def kN:Str:="NoLying"
def kO:Str:="NoText"
def kP:Str:="NoPlate"
def kQ:Str:="NoTree"
def kR:Str:="NoLaying"
def qv:Str:="__module__"
def AF:Str:="__qualname__"
def qw:Str:="__firstlineno__"
def qx:Str:="__static_attributes__"
def uR:Str:="__weakref__"
def kS:Str:="platecuts.shops"
def nS:Str:="TooLarge"
def nT:Str:="NoTable"
def nU:Str:="NoNumber"
def nV:Str:="NoWeights"
def nW:Str:="NoTelling"
def kT:Str:="is_whole"
def kU:Str:="is_truth"
def kW:Str:="is_row"
def kX:Str:="check_plate"
def kY:Str:="check_sides"
def uS:Str:="DOWN"
def uT:Str:="down"
def uU:Str:="ACROSS"
def uV:Str:="across"
def uW:Str:="WAYS"
def kZ:Str:="lies_in"
def la:Str:="lyings_in"
def lb:Str:="cut_parts"
def lc:Str:="cuts_of"
def le:Str:="parts_up_to"
def uX:Str:="REST"
def AG:Str:="rest"
def uY:Str:="PIECE"
def AH:Str:="piece"
def uZ:Str:="MOST_SIDE"
def lg:Str:="best_leaf"
def lh:Str:="best_step"
def lj:Str:="tree_by_steps"
def ll:Str:="best_of"
def lm:Str:="is_key"
def lp:Str:="is_table"
def lq:Str:="bears_part"
def lr:Str:="bears"
def va:Str:="MOST_KINDS"
def vb:Str:="THINGS_OF_A_KIND"
def ls:Str:="is_kind"
def lu:Str:="can_lie_turned"
def qy:Str:="thing"
def Dr:Str:="least"
def qz:Str:="platecuts.checks"
def lw:Str:="wide"
def lC:Str:="high"
def Ds:Str:="most"
def vc:Str:="shop"
def lD:Str:="kind"
def qA:Str:="turned"
def Dt:Str:="x"
def Du:Str:="y"
def Dv:Str:="piece_wide"
def Dw:Str:="piece_high"
def qB:Str:="platecuts.parts"
def lE:Str:="blade"
def su:Str:="part"
def vd:Str:="way"
def ve:Str:="p"
def sw:Str:="worth"
def Dx:Str:="leaf"
def lF:Str:="kinds"
def sC:Str:="platecuts.best"
def Dy:Str:="leaf_found"
def Dz:Str:="cuts"
def DA:Str:="worths"
def vf:Str:="step"
def DB:Str:="cut"
def DC:Str:="together"
def AI:Str:="steps"
def DF:Str:="key"
def AJ:Str:="first"
def AK:Str:="second"
def AL:Str:="table"
def DH:Str:="plate"
def DJ:Str:="a"
def DM:Str:="b"
def sD:Str:="platecuts.tables"
def nX:Str:="wanted"
def DN:Str:="turns"
def iY:Str:="law_platecuts_k46_refused_plates_and_tables"
def jH:Str:="Shop"
def nY:Str:="_law_pot"
def nZ:Str:="_law_draw"
def og:Str:="_law_great"
def oh:Str:="_law_told"
def oi:Str:="_law_due"
def oj:Str:="_law_no_side"
def om:Str:="_law_spoiled"
def qD:Str:="law"
def qE:Str:="__init__"
def qF:Str:="lyings"
def qG:Str:="is_lying"
def qH:Str:="sides"
def vg:Str:="Shop.__init__"
def qI:Str:="self"
def vh:Str:="Shop.blade"
def vi:Str:="Shop.kinds"
def vj:Str:="Shop.wanted"
def DO:Str:="told"
def DQ:Str:="number"
def vm:Str:="Shop.lyings"
def vn:Str:="Shop.is_lying"
def DV:Str:="row"
def vo:Str:="Shop.sides"
def DX:Str:="blade_width"
def DY:Str:="kind_rows"
def AM:Str:="__dict__"
def AN:Str:="_law_cell"
def sE:Str:="_law_pot_here"
def AO:Str:="_law_many"
def DZ:Str:="_law_number"
def Ea:Str:="_law_found"
def Eb:Str:="_law_k"
def AQ:Str:="_law_way"
def AR:Str:="_law_shop"
def AS:Str:="_law_wide"
def AT:Str:="_law_high"
def AU:Str:="_law_table"
def AV:Str:="_law_told_here"
def Ed:Str:="e"
def Ee:Str:="_law_far"
def Ef:Str:="_law_some"
def Eg:Str:="_law_script"
def Eh:Str:="_law_worth"
def Ei:Str:="_law_own_wide"
def Ej:Str:="_law_own_high"
def Ek:Str:="_law_kept"
def El:Str:="_law_first"
def Em:Str:="_law_bad"
def En:Str:="_law_at"
def Eo:Str:="_law_spoiled_here"
def Ep:Str:="_law_which"
def Er:Str:="_law_sides"
def Es:Str:="_law_thing"
abbrev HK:Hook:=kHook Pc.kK [nat_lit 3,nat_lit 23,nat_lit 24,nat_lit 36,nat_lit 37,nat_lit 48,nat_lit 49,nat_lit 60,nat_lit 61,nat_lit 72,nat_lit 73,nat_lit 84,nat_lit 85,nat_lit 96,nat_lit 97,nat_lit 108,nat_lit 109,nat_lit 120,nat_lit 121,nat_lit 132,nat_lit 133,nat_lit 144,nat_lit 145,nat_lit 156,nat_lit 157,nat_lit 168,nat_lit 169,nat_lit 180,nat_lit 181,nat_lit 189,nat_lit 190,nat_lit 196,nat_lit 197,nat_lit 203,nat_lit 204,nat_lit 210,nat_lit 211,nat_lit 217,nat_lit 218,nat_lit 219,nat_lit 225,nat_lit 226,nat_lit 230,nat_lit 231,nat_lit 237,nat_lit 238,nat_lit 242,nat_lit 243,nat_lit 247,nat_lit 248,nat_lit 254,nat_lit 255,nat_lit 261,nat_lit 262,nat_lit 268,nat_lit 269,nat_lit 275,nat_lit 276,nat_lit 282,nat_lit 283,nat_lit 287,nat_lit 288,nat_lit 294,nat_lit 295,nat_lit 299,nat_lit 300,nat_lit 306,nat_lit 307,nat_lit 313,nat_lit 314,nat_lit 325,nat_lit 326,nat_lit 332,nat_lit 333,nat_lit 339,nat_lit 340,nat_lit 344,nat_lit 345,nat_lit 351,nat_lit 352,nat_lit 358,nat_lit 359,nat_lit 365,nat_lit 366,nat_lit 368,nat_lit 369,nat_lit 379,nat_lit 380,nat_lit 386,nat_lit 387,nat_lit 393,nat_lit 394,nat_lit 400,nat_lit 401,nat_lit 405,nat_lit 406,nat_lit 412,nat_lit 413,nat_lit 417,nat_lit 418,nat_lit 424,nat_lit 425] (λ _=>by kernel_rfl)
abbrev pt:FC:=PySem.W.Fast.tw13838890042825309839
theorem pt_eq:PySem.Challenge.pw_platecuts_k46_refused_plates_and_tables=pt:=PySem.W.Fast.te13838890042825309839
def tp (i:Nat):Stmt:=pt.main.body.getD i (.Pass ⟨0,0,0,0⟩)
abbrev f (o:Params->Obj) (l r:Params->BT):Params->BT:=λ P=>.node (o P) (l P) (r P)
abbrev z:Params->BT:=λ _=>.nil
abbrev e (P:Params) (n:Str) (t:Nat) (v:FF):DictEntry:=⟨PyData.keyHash P n,.str n t,v⟩
abbrev m0:Nat:=nat_lit 11
abbrev an:Option FF:=(↑6)
abbrev en:Env:={ scope:=pt.main.scope,locals:=mainNs,globals:=mainNs,cells:=[],code:=(.ref 13),frame:=some 14 }
abbrev cE:Code:=.body (behindTheImports pt) en
abbrev qP:Pos:=⟨0,0,0,0⟩
abbrev B:List Frame:=[topFrame qP]
abbrev L0:=SL.s14018661285674007319x4
abbrev L1:=SL.s11665532747177232413x24
abbrev L2:=SL.s15183661809925369436x15
abbrev L3:=SL.s13915890719876406383x10
abbrev L4:=SL.s13459172003223722735x3
abbrev L5:=SL.s10557405761357834076x3
abbrev L6:=SL.s4233737765568776869x3
abbrev L7:=SL.s2508922471967985374x5
abbrev L8:=SL.s15574269061696679450x3
abbrev L9:=SL.s6016482663378992977x10
abbrev L10:=SL.s5596568736180474577x8
abbrev L11:=SL.s2839554839881490554x3
abbrev L12:=SL.s725004073602090463x7
abbrev L13:=SL.s9436932552931045734x7
abbrev L14:=SL.s2754603736356183583x3
abbrev L15:=SL.s15185746759980889043x6
abbrev L16:=SL.s8192189862530294059x4
abbrev L17:=SL.s7038307821325472102x4
abbrev L18:=SL.s5662562618415449548x6
abbrev L19:=SL.s15281542589158584767x7
abbrev L20:=SL.s17651547275483570877x7
abbrev L21:=SL.s4036449017235975746x7
abbrev L22:=SL.s8879979712987360175x4
abbrev L23:=SL.s1801250619170735830x3
abbrev L24:=SL.s17659931425627118568x2
abbrev L25:=SL.s6063217899685152688x5
abbrev L26:=SL.s8008927332132565319x10
abbrev L27:=SL.s3544116645089599534x10
abbrev L28:=SL.s13761710972054866084x4
abbrev L29:=SL.s12896375587409280029x5
abbrev L30:=SL.s13014049009108672802x3
abbrev L31:=SL.s13935586738268321596x6
abbrev L32:=SL.s8200498257699607233x3
abbrev L33:=SL.s14114244577727609259x3
abbrev L34:=SL.s1499430450269397089x4
abbrev L35:=SL.s8755793994789770505x5
abbrev L36:=SL.s15725212667919936108x3
abbrev L37:=SL.s15791221867095933363x3
abbrev L38:=SL.s81309575031448614x3
abbrev L39:=SL.s8069831620301644142x5
abbrev L40:=SL.s10061844253413749634x4
abbrev L41:=SL.s9496514870978017513x5
abbrev L42:=SL.s8899691144933366716x7
abbrev L43:=SL.s15201008993051130160x6
abbrev L44:=SL.s741896355592496720x3
abbrev L45:=SL.s17925004256654032244x4
abbrev L46:=SL.s11695548795398191787x4
abbrev L47:=SL.s4156966113859768872x10
abbrev L48:=SL.s9501651726347032510x9
abbrev L49:=SL.s15722918466584999320x5
abbrev L50:=SL.s591115383303110208x11
abbrev L51:=SL.s15721156781594690315x7
abbrev L52:=SL.s14340494229221121180x9
abbrev L53:=SL.s13429844117177748173x6
abbrev L54:=SL.s16463266125957815391x5
abbrev L55:=SL.s4922535414793169389x9
abbrev L56:=SL.s8101838861749082086x8
abbrev L57:=SL.s7066276694103001551x3
abbrev L58:=SL.s9222952809800978799x4
abbrev L59:=SL.s462964344163437139x3
abbrev L60:=SL.s2742458400755230247x6
abbrev L61:=SL.s1438033511350832697x5
abbrev L62:=SL.s14365286008749172514x8
abbrev L63:=SL.s3642769012341782148x3
abbrev L64:=SL.s4674234679698826739x5
abbrev L65:=SL.s16656946322747308186x12
abbrev L66:=SL.s10796804682411823810x3
abbrev L67:=SL.s4290257624100764138x5
abbrev L68:=SL.s2766695959194262286x5
abbrev L69:=SL.s17162191345867700912x4
abbrev L70:=SL.s14339709457334898076x3
abbrev L71:=SL.s4278001404047624695x13
abbrev L72:=SL.s6585700554429387442x18
abbrev L73:=SL.s5946037652744460706x9
abbrev L74:=SL.s7410770068591931388x13
abbrev L75:=SL.s11817881795495490833x17
abbrev L76:=SL.s15679963881808890155x10
abbrev L77:=SL.s3871700062485845797x15
abbrev L78:=SL.s7689518266570723881x14
abbrev L79:=SL.s9001593270443806431x14
abbrev L80:=SL.s6882542574934516792x11
abbrev L81:=SL.s14403400214490484960x8
abbrev L82:=SL.s14457978657717015782x11
abbrev L83:=SL.s1753610191782819921x11
abbrev L84:=SL.s14119380538032626715x11
abbrev L85:=SL.s11437920000406562045x9
abbrev L86:=SL.s10852414792293593619x7
abbrev L87:=SL.s14816307405966870543x14
abbrev L88:=SL.s8682627914449686677x12
abbrev L89:=SL.s4428170145600203450x18
abbrev L90:=SL.s5991306692159431302x13
abbrev L91:=SL.s16067994140765818257x11
abbrev L92:=SL.s2327743974964600596x11
abbrev L93:=SL.s2804747833354056582x9
abbrev L94:=SL.s6070975301684473832x10
abbrev L95:=SL.s14270485950484850486x7
abbrev L96:=SL.s12041534306414923332x18
abbrev L97:=SL.s2531307568338490285x13
abbrev L98:=SL.s631175304937289666x17
abbrev L99:=SL.s5144983644357021410x12
abbrev EG:=SL.s18039099521571816885x18
abbrev EH:=SL.s6011586214260557989x15
abbrev EI:=SL.s5430567037509283100x13
abbrev EJ:=SL.s8117915138073963741x13
abbrev EK:=SL.s3423317712779056401x25
abbrev EL:=SL.s2007317383269046180x15
abbrev EM:=SL.s17481586968713580700x14
abbrev EN:=SL.s2450899226349176912x13
abbrev EO:=SL.s16626165730633575011x14
abbrev EQ:=SL.s14288496050688921416x11
abbrev ER:=SL.s5735081916595925998x15
abbrev ES:=SL.s3865607918536308442x17
abbrev ET:=SL.s13337502604062700212x15
abbrev EU:=SL.s13114017843053701147x15
abbrev EV:=SL.s17467278006356818441x17
abbrev EW:=SL.s17722149559621369488x16
abbrev EX:=SL.s7855274175708717672x17
abbrev EY:=SL.s13351283678309829046x18
abbrev EZ:=SL.s6668348653404991179x15
abbrev Fa:=SL.s12913350958174193794x18
abbrev Fb:=SL.s16115879512475548326x12
abbrev Fc:=SL.s15920661018069861047x16
abbrev Fd:=SL.s10779130036587390575x21
abbrev Fe:=SL.s7801419657504700863x10
abbrev Ff:=SL.s1688129525768580628x8
abbrev Fg:=SL.s1031832959479892071x19
abbrev Fh:=SL.s8991790508128307865x19
abbrev Fi:=SL.s14539662485746970245x23
abbrev Fj:=SL.s11643622729373238714x14
abbrev Fk:=SL.s3386828779285465597x17
abbrev Fl:=SL.s13042696260734638735x12
abbrev Fm:=SL.s18239426817015966623x15
abbrev Fn:=SL.s1270395311379034370x22
abbrev Fo:=SL.s10696252587037064777x22
abbrev Fp:=SL.s7852717498200857586x20
abbrev Fq:=SL.s6377248116197321094x8
abbrev Fs:=SL.s3834378056692298002x18
abbrev Ft:=SL.s17586630440231065808x18
abbrev Fu:=SL.s15234114252648025395x21
abbrev Fv:=SL.s8496462677383758984x14
abbrev Fw:=SL.s16789243406116112673x4
abbrev Fx:=SL.s14400166428656793546x20
abbrev Fy:=SL.s5857708277339239366x20
abbrev Fz:=SL.s7804999707787243718x20
abbrev vp:=SL.s7097527257260152453x26
abbrev FA:=SL.s6658869562736209489x6
abbrev vq:=SL.s5856160107412720595x4
abbrev Et:=SL.s658472552662922059x5
abbrev sZ (w:FE) (os:OsState):FB:=⟨boot_heap w.params,Array.mk [],boot_drawn,boot_toks,os⟩
def o11 (P:Params):Obj:=⟨(.type L68),none,(.seq #[] 0),#[]⟩
def o12 (P:Params):Obj:=⟨.none,none,(.fields #[]),#[]⟩
def g0 (x0:Str)(x1 x2 x3:Nat)(P:Params):Obj:=⟨(.type vq),none,(.fields #[.str x0 x1,.str x0 (x1+1),.str iX (x1+2),.int x2 0,.int 0 0,.int 0 0,.int 0 0,.int 0 0,.ref x3,.bool false,.int 181 0,.ref (x3+1),.none,.none,.none,.none,.int (x1+3) 0,.int x2 0,.str iX (x1+4)]),#[]⟩
def o13:=g0 Dq 182 1 11
def g1 (x0 x1:Nat)(x2:Str)(x3:Nat)(P:Params):Obj:=⟨(.type Et),none,.plain,#[↑x0,↑3,↑x1,none,some (.str x2 x3),none,↑0]⟩
def o14:=g1 13 3 Dp 164
def hA (P:Params):Heap:=⟨⟨[boot_o_0 P,boot_o_1 P,boot_o_2 P,boot_o_3 P,boot_o_4 P,boot_o_5 P,boot_o_6 P,boot_o_7 P,boot_o_8 P,boot_o_9 P,boot_o_10 P,o11 P,o12 P,o13 P,o14 P]⟩,{ }⟩
abbrev sA (w:FE) (os:OsState):FB:=⟨hA w.params,(Array.mk []),⟨0,0,0,0⟩,187,os⟩
abbrev pA:Pos:=⟨0,0,0,0⟩
theorem pre (w:FE):(λ os=>topGo treeTable pt w m0 an 12 (sZ w os) (topStub pt))=λ os=>some (sA w os,(⟨denote treeTable cE,cE,pA,B⟩:Thread)):=by rw [PySem.W.Fast.te15667345088766844465,PySem.W.Fast.te14364793385576792824,PySem.W.Fast.te11892475500146522536]; kernel_rfl
def tB:Params->BT:=(f boot_o_0 (f boot_o_1 (f boot_o_3 (f boot_o_7 z z) (f o11 z z)) (f boot_o_5 (f boot_o_9 z z) (f o13 z z))) (f boot_o_2 (f boot_o_4 (f boot_o_8 z z) (f o12 z z)) (f boot_o_6 (f boot_o_10 z z) (f o14 z z))))
abbrev sB (w:FE) (os:OsState):SharedT:=⟨tB w.params,15,{ },(Array.mk []),⟨0,0,0,0⟩,187,os⟩
abbrev pB:Pos:=⟨0,0,0,0⟩
theorem blk (w:FE):(λ os=>segRun treeTable pt w m0 an 1 1 (sA w os) ⟨(blockStart (behindTheImports pt) en).wrap (λ _=>doneF .next) deadEnd id id,cE,pA,B⟩)=λ os=>some (.next,(sB w os).abs,cE,pB):=by rw [PySem.W.Fast.te14374325043358763698,PySem.W.Fast.te14364793385576792824,PySem.W.Fast.te1066825118222455980]; kernel_rfl
def Eu (P:Params):Obj:=⟨(.type L0),none,(.dict #[e P S0 165 (.str df 187),e P S2 166 .none,e P S3 167 .none,e P S4 168 (.builtin vp),e P S5 169 .none,e P uN 170 (.ref 6),e P uO 171 (.ref 4),e P uP 173 (.str iX 172),e P uQ 174 .none,e P eX 206 (.ref 24),e P kJ 222 (.ref 37),e P kL 238 (.ref 49),e P kM 254 (.ref 61),e P kN 270 (.ref 73),e P kO 286 (.ref 85),e P kP 302 (.ref 97),e P kQ 318 (.ref 109),e P kR 334 (.ref 121)] 18),#[]⟩
def AW (P:Params):Obj:=⟨.none,none,(.fields #[.int 2 0,.int 0 0,.ref 20,.int 4 0,.int 0 0,.ref 33,.int 6 0,.int 0 0,.ref 45,.int 8 0,.int 0 0,.ref 57,.int 10 0,.int 0 0,.ref 69,.int 12 0,.int 0 0,.ref 81,.int 14 0,.int 0 0,.ref 93,.int 16 0,.int 0 0,.ref 105,.int 18 0,.int 0 0,.ref 117]),#[]⟩
def o15 (P:Params):Obj:=⟨(.type L68),none,(.seq #[.type L94] 0),#[]⟩
abbrev AX:=SL.s11030030927630378310x26
abbrev Ev:=SL.s10062305145149207511x16
def o16 (P:Params):Obj:=⟨(.type AX),none,(.fields #[.builtin Ev,.type L69]),#[]⟩
def g2 (x0:Nat)(x1:Str)(x2 x3:Nat)(P:Params):Obj:=⟨(.type L0),none,(.dict #[e P qv x0 (.str df 187),e P AF (x0+2) (.str x1 (x0+1)),e P qw (x0+4) (.int x2 (x0+3)),e P qx (x0+5) (.ref x3)] 4),#[]⟩
def o17:=g2 196 eX 2 22
def o20:=g0 eX 191 2 18
def o21:=g1 20 17 df 187
def o23 (P:Params):Obj:=⟨(.type L0),none,(.dict #[e P qv 196 (.str df 187),e P qw 200 (.int 2 199),e P qx 201 (.ref 22),e P uR 203 (.ref 25),e P S2 204 .none] 3),#[]⟩
abbrev vt:=SL.s4209523147560561109x18
def o24 (P:Params):Obj:=⟨(.type L69),none,(.cls ⟨eX,[.type L94],[.ref 24,.type L94,.type L73,.type L71,.type L60],23,eX,true,[],[.ref 37,.ref 49,.ref 61,.ref 73,.ref 85,.ref 97,.ref 109,.ref 121],false,none,false⟩),#[↑15,none,some (.str eX 189),some (.str eX 197),some (.builtin vt),some (.bool true)]⟩
abbrev AY:=SL.s14755015743595814543x17
abbrev Ew:=SL.s10220274742760427390x26
def g3 (x0 x1:Nat)(P:Params):Obj:=⟨(.type AY),none,(.fields #[.str uR x0,.ref x1,.builtin Ew,.none]),#[]⟩
def o25:=g3 202 24
def g4 (x0:Nat)(P:Params):Obj:=⟨(.type L67),none,(.fields #[.ref x0,.ref x0,.ref x0]),#[]⟩
def o26:=g4 24
abbrev Ex:=SL.s4860613602091757760x24
def g5 (x0:Nat)(P:Params):Obj:=⟨(.type AX),none,(.fields #[.builtin Ex,.ref x0]),#[]⟩
def o27:=g5 24
def o28 (P:Params):Obj:=⟨(.type L68),none,(.seq #[.ref 24] 0),#[]⟩
def o30:=g2 214 kJ 4 35
def o33:=g0 kJ 209 4 31
def o34:=g1 33 30 df 187
def g6 (x0 x1 x2:Nat)(P:Params):Obj:=⟨(.type L0),none,(.dict #[e P qv x0 (.str df 187),e P qw (x0+4) (.int x1 (x0+3)),e P qx (x0+5) (.ref x2),e P S2 (x0+6) .none] 2),#[]⟩
def o36:=g6 214 4 35
def g7 (x0:Str)(x1 x2 x3 x4:Nat)(P:Params):Obj:=⟨(.type L69),none,(.cls ⟨x0,[.ref 24],[.ref x1,.ref 24,.type L94,.type L73,.type L71,.type L60],x2,x0,true,[],[],false,none,false⟩),#[↑x3,none,some (.str x0 x4),some (.str x0 (x4+8)),some (.builtin vt),some (.bool true)]⟩
def o37:=g7 kJ 37 36 28 207
def o38:=g4 37
def o39:=g5 37
def o42:=g2 230 kL 6 47
def o45:=g0 kL 225 6 43
def o46:=g1 45 42 df 187
def o48:=g6 230 6 47
def o49:=g7 kL 49 48 40 223
def o50:=g4 49
def o51:=g5 49
def o54:=g2 246 kM 8 59
def o57:=g0 kM 241 8 55
def o58:=g1 57 54 df 187
def o60:=g6 246 8 59
def o61:=g7 kM 61 60 52 239
def o62:=g4 61
def o63:=g5 61
def o66:=g2 262 kN 10 71
def o69:=g0 kN 257 10 67
def o70:=g1 69 66 df 187
def o72:=g6 262 10 71
def o73:=g7 kN 73 72 64 255
def o74:=g4 73
def o75:=g5 73
def o78:=g2 278 kO 12 83
def o81:=g0 kO 273 12 79
def o82:=g1 81 78 df 187
def o84:=g6 278 12 83
def o85:=g7 kO 85 84 76 271
def o86:=g4 85
def o87:=g5 85
def o90:=g2 294 kP 14 95
def o93:=g0 kP 289 14 91
def o94:=g1 93 90 df 187
def o96:=g6 294 14 95
def o97:=g7 kP 97 96 88 287
def o98:=g4 97
def o99:=g5 97
def sG:=g2 310 kQ 16 107
def sH:=g0 kQ 305 16 103
def sI:=g1 105 102 df 187
def sJ:=g6 310 16 107
def sK:=g7 kQ 109 108 100 303
def sL:=g4 109
def sM:=g5 109
def sN:=g2 326 kR 18 119
def sO:=g0 kR 321 18 115
def sP:=g1 117 114 df 187
def sQ:=g6 326 18 119
def sR:=g7 kR 121 120 112 319
def sS:=g4 121
def sT:=g5 121
def t0:Params->BT:=(f boot_o_0 (f boot_o_1 (f Eu (f boot_o_7 (f o15 (f o11 (f o63 z z) (f o11 z z)) (f o11 (f o11 z z) (f sM z z))) (f o23 (f o39 (f o11 z z) (f o11 z z)) (f o11 (f o87 z z) (f o11 z z)))) (f o11 (f o12 (f o11 (f o11 z z) (f o99 z z)) (f o51 (f o11 z z) (f o11 z z))) (f o27 (f o11 (f o75 z z) (f o11 z z)) (f o11 (f o11 z z) (f sT z z))))) (f boot_o_5 (f boot_o_9 (f o17 (f o33 (f o16 z z) (f o97 z z)) (f o49 (f o81 z z) (f o16 z z))) (f o25 (f o16 (f o73 z z) (f sH z z)) (f o57 (f o16 z z) (f sR z z)))) (f o13 (f o21 (f o37 (f o69 z z) (f o16 z z)) (f o16 (f o85 z z) (f sO z z))) (f o16 (f o45 (f o16 z z) (f sK z z)) (f o61 (f o93 z z) z))))) (f boot_o_2 (f boot_o_4 (f boot_o_8 (f o16 (f o12 (f o28 z z) (f o96 z z)) (f o48 (f o12 z z) (f o28 z z))) (f o24 (f o28 (f o72 z z) (f o12 z z)) (f o12 (f o28 z z) (f sQ z z)))) (f AW (f o20 (f o36 (f o12 z z) (f o28 z z)) (f o28 (f o84 z z) (f o12 z z))) (f o28 (f o12 (f o28 z z) (f sJ z z)) (f o60 (f o12 z z) z)))) (f boot_o_6 (f boot_o_10 (f o11 (f o34 (f o66 z z) (f o98 z z)) (f o50 (f o82 z z) (f sN z z))) (f o26 (f o42 (f o74 z z) (f sI z z)) (f o58 (f o90 z z) (f sS z z)))) (f o14 (f o11 (f o38 (f o70 z z) (f sG z z)) (f o54 (f o86 z z) (f sP z z))) (f o30 (f o46 (f o78 z z) (f sL z z)) (f o62 (f o94 z z) z))))))
abbrev s0 (w:FE) (os:OsState):SharedT:=⟨t0 w.params,124,{ },(Array.mk []),⟨0,0,0,0⟩,335,os⟩
abbrev p0:Pos:=⟨18,0,19,8⟩
abbrev st0:List Stmt:=(pt.main.body.drop 0).take 10
theorem q0 (w:FE):(λ os=>segRunT treeTable pt w m0 an 1 1900 (sB w os) ⟨(execs st0 en).wrap doneF deadEnd id id,cE,pB,B⟩)=λ os=>some (.next,s0 w os,cE,p0):=by rw [PySem.W.Fast.te10110043849684766642,PySem.W.Fast.te14364793385576792824,PySem.W.Fast.te12563942051412417395]; kernel_rfl
def Ey (P:Params):Obj:=⟨(.type L0),none,(.dict #[e P S0 165 (.str kS 612),e P S2 166 .none,e P S3 167 .none,e P S4 168 (.builtin vp),e P S5 169 .none,e P uN 170 (.ref 6),e P uO 171 (.ref 4),e P uP 173 (.str iX 172),e P uQ 174 .none,e P eX 206 (.ref 24),e P kJ 222 (.ref 37),e P kL 238 (.ref 49),e P kM 254 (.ref 61),e P kN 270 (.ref 73),e P kO 286 (.ref 85),e P kP 302 (.ref 97),e P kQ 318 (.ref 109),e P kR 334 (.ref 121),e P nS 350 (.ref 133),e P nT 366 (.ref 145),e P nU 382 (.ref 157),e P nV 398 (.ref 169),e P nW 414 (.ref 181),e P kT 424 (.ref 190),e P kU 431 (.ref 197),e P kW 438 (.ref 204),e P kX 446 (.ref 211),e P kY 455 (.ref 218),e P uS 459 (.str uT 458),e P uU 461 (.str uV 460),e P uW 462 (.ref 219),e P kZ 477 (.ref 226),e P la 483 (.ref 231),e P lb 495 (.ref 238),e P lc 501 (.ref 243),e P le 507 (.ref 248),e P uX 509 (.str AG 508),e P uY 511 (.str AH 510),e P uZ 515 (.int 16 514),e P lg 528 (.ref 255),e P lh 541 (.ref 262),e P lj 554 (.ref 269),e P ll 570 (.ref 276),e P lm 583 (.ref 283),e P lp 589 (.ref 288),e P lq 605 (.ref 295),e P lr 611 (.ref 300),e P va 615 (.int 8 614),e P vb 617 (.int 5 616),e P ls 629 (.ref 307),e P lu 636 (.ref 314)] 51),#[]⟩
def AZ (P:Params):Obj:=⟨.none,none,(.fields #[.int 2 0,.int 0 0,.ref 20,.int 4 0,.int 0 0,.ref 33,.int 6 0,.int 0 0,.ref 45,.int 8 0,.int 0 0,.ref 57,.int 10 0,.int 0 0,.ref 69,.int 12 0,.int 0 0,.ref 81,.int 14 0,.int 0 0,.ref 93,.int 16 0,.int 0 0,.ref 105,.int 18 0,.int 0 0,.ref 117,.int 20 0,.int 0 0,.ref 129,.int 22 0,.int 0 0,.ref 141,.int 24 0,.int 0 0,.ref 153,.int 26 0,.int 0 0,.ref 165,.int 28 0,.int 0 0,.ref 177,.int 31 0,.int 0 0,.ref 189,.int 33 0,.int 0 0,.ref 196,.int 35 0,.int 0 0,.ref 203,.int 37 0,.int 0 0,.ref 210,.int 40 0,.int 0 0,.ref 217,.int 47 0,.int 0 0,.ref 225,.int 52 0,.int 0 0,.ref 230,.int 55 0,.int 0 0,.ref 237,.int 60 0,.int 0 0,.ref 242,.int 64 0,.int 0 0,.ref 247,.int 70 0,.int 0 0,.ref 254,.int 77 0,.int 0 0,.ref 261,.int 84 0,.int 0 0,.ref 268,.int 90 0,.int 0 0,.ref 275,.int 103 0,.int 0 0,.ref 282,.int 108 0,.int 0 0,.ref 287,.int 112 0,.int 0 0,.ref 294,.int 121 0,.int 0 0,.ref 299,.int 130 0,.int 0 0,.ref 306,.int 137 0,.int 0 0,.ref 313]),#[]⟩
def qJ (P:Params):Obj:=⟨(.type L69),none,(.cls ⟨eX,[.type L94],[.ref 24,.type L94,.type L73,.type L71,.type L60],23,eX,true,[],[.ref 37,.ref 49,.ref 61,.ref 73,.ref 85,.ref 97,.ref 109,.ref 121,.ref 133,.ref 145,.ref 157,.ref 169,.ref 181],false,none,false⟩),#[↑15,none,some (.str eX 189),some (.str eX 197),some (.builtin vt),some (.bool true)]⟩
def vw:=g2 342 nS 20 131
def vy:=g0 nS 337 20 127
def vz:=g1 129 126 df 187
def vA:=g6 342 20 131
def vB:=g7 nS 133 132 124 335
def vC:=g4 133
def vD:=g5 133
def vE:=g2 358 nT 22 143
def vF:=g0 nT 353 22 139
def vG:=g1 141 138 df 187
def vH:=g6 358 22 143
def vI:=g7 nT 145 144 136 351
def vJ:=g4 145
def vK:=g5 145
def vL:=g2 374 nU 24 155
def vM:=g0 nU 369 24 151
def vN:=g1 153 150 df 187
def vO:=g6 374 24 155
def vP:=g7 nU 157 156 148 367
def vQ:=g4 157
def vR:=g5 157
def vS:=g2 390 nV 26 167
def vT:=g0 nV 385 26 163
def vU:=g1 165 162 df 187
def vV:=g6 390 26 167
def vW:=g7 nV 169 168 160 383
def vX:=g4 169
def vY:=g5 169
def vZ:=g2 406 nW 28 179
def wc:=g0 nW 401 28 175
def wd:=g1 177 174 df 187
def we:=g6 406 28 179
def wf:=g7 nW 181 180 172 399
def wg:=g4 181
def wj:=g5 181
def g8 (x0:Str)(x1:Nat)(x2:Str)(x3:Nat)(P:Params):Obj:=⟨(.type L68),none,(.seq #[.str x0 x1,.str x2 x3] 0),#[]⟩
def wk:=g8 qy 420 Dr 421
def g9 (x0:Str)(x1:Nat)(P:Params):Obj:=⟨.none,none,(.func ⟨x0,x0,L2.defArgs (tp x1),(.stmts (L2.defBody (tp x1))),L2.defScope (tp x1),0,[],.none,.none,.none,.none,none,.none,.none,0⟩),#[]⟩
def wl:=g9 kT 16
def g10 (x0:Str)(x1:Nat)(x2:Str)(x3 x4 x5 x6:Nat)(P:Params):Obj:=⟨(.type vq),none,(.fields #[.str x0 x1,.str x2 (x1+1),.str iX (x1+2),.int x3 0,.int x4 0,.int 0 0,.int 0 0,.int 3 0,.ref x5,.bool true,.int 181 0,.ref (x5+1),.none,.ref (x5+2),.ref (x5+3),.ref (x5+4),.int x6 0,.int x3 0,.str iX (x6+1)]),#[]⟩
def wm:=g10 kT 417 kT 31 2 184 422
abbrev Ba:=SL.s7174869446012820540x8
def g11 (x0:Str)(x1:Nat)(x2:Str)(x3 x4:Nat)(P:Params):Obj:=⟨(.type Ba),none,(.func ⟨x0,x0,L2.defArgs (tp x1),(.stmts (L2.defBody (tp x1))),L2.defScope (tp x1),3,[],.none,.none,.none,.str x2 x3,none,.ref x4,.none,0⟩),#[]⟩
def wr:=g11 kT 16 qz 415 189
def g12 (x0:Str)(x1:Nat)(P:Params):Obj:=⟨(.type L68),none,(.seq #[.str x0 x1] 0),#[]⟩
def wu:=g12 qy 428
def ww:=g9 kU 17
def wx:=g10 kU 425 kU 33 1 191 429
def wz:=g11 kU 17 qz 415 196
def wA:=g12 qy 435
def wB:=g9 kW 18
def wC:=g10 kW 432 kW 35 1 198 436
def wD:=g11 kW 18 qz 415 203
def wE:=g8 lw 442 lC 443
def wF:=g9 kX 19
def wG:=g10 kX 439 kX 37 2 205 444
def wH:=g11 kX 19 qz 415 210
def g13 (x0:Str)(x1:Nat)(x2 x3:Str)(P:Params):Obj:=⟨(.type L68),none,(.seq #[.str x0 x1,.str x2 (x1+1),.str x3 (x1+2)] 0),#[]⟩
def wI:=g13 lw 450 lC Ds
def wJ:=g9 kY 20
def wK:=g10 kY 447 kY 40 3 212 453
def wL:=g11 kY 20 qz 415 217
def wM:=g8 uT 458 uV 460
def wN (P:Params):Obj:=⟨(.type L68),none,(.seq #[.str vc 466,.str lw 467,.str lC 468,.str lD 469,.str qA 470,.str Dt 471,.str Du 472,.str Dv 473,.str Dw 474] 0),#[]⟩
def wO:=g9 kZ 25
def wP:=g10 kZ 463 kZ 47 7 220 475
def wQ:=g11 kZ 25 qB 456 225
def wR:=g9 la 26
def g14 (x0:Str)(x1:Nat)(x2:Str)(x3 x4 x5:Nat)(P:Params):Obj:=⟨(.type vq),none,(.fields #[.str x0 x1,.str x2 (x1+1),.str iX (x1+2),.int x3 0,.int x4 0,.int 0 0,.int 0 0,.int 3 0,.ref x5,.bool true,.int 181 0,.ref (x5+1),.none,.none,.none,.ref (x5+2),.int (x1+3) 0,.int x3 0,.str iX (x1+4)]),#[]⟩
def wS:=g14 la 478 la 52 2 227
def wT:=g11 la 26 qB 456 230
def g15 (x0:Str)(x1:Nat)(x2 x3 x4 x5 x6:Str)(P:Params):Obj:=⟨(.type L68),none,(.seq #[.str x0 x1,.str x2 (x1+1),.str x3 (x1+2),.str x4 (x1+3),.str x5 (x1+4),.str x6 (x1+5)] 0),#[]⟩
def wU:=g15 lE 487 su vd ve lw lC
def wV:=g9 lb 27
def wW:=g10 lb 484 lb 55 4 232 493
def wX:=g11 lb 27 qB 456 237
def wY:=g9 lc 28
def wZ:=g14 lc 496 lc 60 2 239
def xa:=g11 lc 28 qB 456 242
def xb:=g9 le 29
def xc:=g14 le 502 le 64 2 244
def xf:=g11 le 29 qB 456 247
def g16 (x0:Str)(x1:Nat)(x2 x3 x4 x5 x6 x7:Str)(P:Params):Obj:=⟨(.type L68),none,(.seq #[.str x0 x1,.str x2 (x1+1),.str x3 (x1+2),.str x4 (x1+3),.str x5 (x1+4),.str x6 (x1+5),.str x7 (x1+6)] 0),#[]⟩
def xg:=g16 vc 519 su sw Dx lF lD qA
def xh:=g9 lg 34
def xi:=g10 lg 516 lg 70 2 249 526
def xj:=g11 lg 34 sC 512 254
def xk:=g16 Dy 532 Dz DA sw vf DB DC
def xl:=g9 lh 35
def xn:=g10 lh 529 lh 77 3 256 539
def xo:=g11 lh 35 sC 512 261
def xq:=g16 AI 545 DF vf vd ve AJ AK
def xt:=g9 lj 36
def xu:=g10 lj 542 lj 84 2 263 552
def xw:=g11 lj 36 sC 512 268
def g17 (x0:Nat)(x1 x2 x3 x4 x5 x6 x7 x8 x9:Str)(P:Params):Obj:=⟨(.type L68),none,(.seq #[.str vc x0,.str x1 (x0+1),.str x2 (x0+2),.str x3 (x0+3),.str x4 (x0+4),.str x5 (x0+5),.str x6 (x0+6),.str x7 (x0+7),.str x8 (x0+8),.str x9 (x0+9)] 0),#[]⟩
def xx:=g17 558 lw lC lE AL AI su sw vf DH
def xy:=g9 ll 37
def xz:=g10 ll 555 ll 90 3 270 568
def xA:=g11 ll 37 sC 512 275
def xB (P:Params):Obj:=⟨(.type L68),none,(.seq #[.str lw 576,.str lC 577,.str qy 578,.str DJ 579,.str DM 580] 0),#[]⟩
def xC:=g9 lm 39
def xD:=g10 lm 573 lm 103 3 277 581
def xF:=g11 lm 39 sD 571 282
def xG:=g9 lp 40
def xH:=g14 lp 584 lp 108 3 284
def xI:=g11 lp 40 sD 571 287
def xJ:=g17 593 su AL lF lD qA vd ve AJ AK
def xK:=g9 lq 41
def xL:=g10 lq 590 lq 112 3 289 603
def xM:=g11 lq 41 sD 571 294
def xN:=g9 lr 42
def xO:=g14 lr 606 lr 121 4 296
def xP:=g11 lr 42 sD 571 299
def xQ:=g15 qy 621 lw lC sw nX DN
def xR:=g9 ls 46
def xS:=g10 ls 618 ls 130 1 301 627
def xT:=g11 ls 46 kS 612 306
def xU:=g12 lD 633
def xV:=g9 lu 47
def xW:=g10 lu 630 lu 137 1 308 634
def xX:=g11 lu 47 kS 612 313
def t1:Params->BT:=(f boot_o_0 (f boot_o_1 (f Ey (f boot_o_7 (f o15 (f o11 (f o63 (f o11 (f xj z z) z) (f o11 z z)) (f o11 (f vR (f xH z z) z) (f o11 z z))) (f o11 (f o11 (f o11 (f o12 z z) z) (f wE z z)) (f sM (f o11 (f xQ z z) z) (f o11 z z)))) (f o23 (f o39 (f o11 (f vD (f o11 z z) z) (f o12 z z)) (f o11 (f o11 (f xM z z) z) (f wT z z))) (f o11 (f o87 (f o11 (f xB z z) z) (f o11 z z)) (f o11 (f wj (f o11 z z) z) (f xc z z))))) (f o11 (f o12 (f o11 (f o11 (f o11 (f o11 z z) z) (f ww z z)) (f o99 (f o11 (f xJ z z) z) (f o11 z z))) (f o51 (f o11 (f vK (f xz z z) z) (f wH z z)) (f o11 (f o11 (f xT z z) z) (f xa z z)))) (f o27 (f o11 (f o75 (f o11 (f xt z z) z) (f wC z z)) (f o11 (f vY (f xO z z) z) (f o11 z z))) (f o11 (f o11 (f o11 (f xF z z) z) (f wM z z)) (f sT (f o11 z z) (f xg z z)))))) (f boot_o_5 (f boot_o_9 (f o17 (f o33 (f o16 (f vy (f o12 z z) z) (f wu z z)) (f o97 (f o16 (f o11 z z) z) (f wP z z))) (f o49 (f o81 (f vI (f o11 z z) z) (f wF z z)) (f o16 (f wc (f xR z z) z) (f wY z z)))) (f o25 (f o16 (f o73 (f o16 (f xq z z) z) (f o11 z z)) (f sH (f vW (f o12 z z) z) (f o12 z z))) (f o57 (f o16 (f vM (f xC z z) z) (f wK z z)) (f sR (f o12 (f xW z z) z) (f o11 z z))))) (f o13 (f o21 (f o37 (f o69 (f vB (f xn z z) z) (f wz z z)) (f o16 (f vT (f xK z z) z) (f wR z z))) (f o16 (f o85 (f o16 (f o11 z z) z) (f o12 z z)) (f sO (f wf (f o12 z z) z) (f o12 z z)))) (f o16 (f o45 (f o16 (f vF (f xw z z) z) (f o11 z z)) (f sK (f o16 (f o11 z z) z) (f wW z z))) (f o61 (f o93 (f vP (f o12 z z) z) (f o12 z z)) (f o16 (f wm z z) (f xh z z))))))) (f boot_o_2 (f boot_o_4 (f boot_o_8 (f o16 (f o12 (f o28 (f o12 (f o11 z z) z) (f o12 z z)) (f o96 (f o28 (f xI z z) z) (f wO z z))) (f o48 (f o12 (f vH (f xx z z) z) (f o11 z z)) (f o28 (f o12 (f o11 z z) z) (f o12 z z)))) (f qJ (f o28 (f o72 (f o28 (f o12 z z) z) (f wA z z)) (f o12 (f vV (f o11 z z) z) (f o11 z z))) (f o12 (f o28 (f o12 (f o11 z z) z) (f wJ z z)) (f sQ (f o11 (f xV z z) z) (f xf z z))))) (f AZ (f o20 (f o36 (f o12 (f vA (f xl z z) z) (f wx z z)) (f o28 (f o12 (f o11 z z) z) (f o12 z z))) (f o28 (f o84 (f o28 (f xA z z) z) (f o11 z z)) (f o12 (f we (f o11 z z) z) (f o11 z z)))) (f o28 (f o12 (f o28 (f o12 (f xu z z) z) (f wD z z)) (f sJ (f o28 (f xP z z) z) (f wV z z))) (f o60 (f o12 (f vO (f o11 z z) z) (f o11 z z)) (f o28 (f wl z z) (f o11 z z)))))) (f boot_o_6 (f boot_o_10 (f o11 (f o34 (f o66 (f vz (f xk z z) z) (f o11 z z)) (f o98 (f vS (f o12 z z) z) (f wQ z z))) (f o50 (f o82 (f vJ (f xy z z) z) (f wG z z)) (f sN (f wd (f xS z z) z) (f wZ z z)))) (f o26 (f o42 (f o74 (f vE (f o11 z z) z) (f wB z z)) (f sI (f vX (f xN z z) z) (f wU z z))) (f o58 (f o90 (f vN (f xD z z) z) (f wL z z)) (f sS (f wk (f xX z z) z) (f o12 z z))))) (f o14 (f o11 (f o38 (f o70 (f vC (f xo z z) z) (f o11 z z)) (f sG (f vU (f xL z z) z) (f wS z z))) (f o54 (f o86 (f vL (f o12 z z) z) (f wI z z)) (f sP (f wg (f xU z z) z) (f xb z z)))) (f o30 (f o46 (f o78 (f vG (f o11 z z) z) (f o12 z z)) (f sL (f vZ (f o12 z z) z) (f wX z z))) (f o62 (f o94 (f vQ (f xG z z) z) (f wN z z)) (f vw (f wr z z) (f xi z z))))))))
abbrev s1 (w:FE) (os:OsState):SharedT:=⟨t1 w.params,315,{ },(Array.mk []),⟨0,0,0,0⟩,637,os⟩
abbrev p1:Pos:=⟨137,0,138,41⟩
abbrev st1:List Stmt:=(pt.main.body.drop 10).take 38
theorem q1 (w:FE):(λ os=>segRunT treeTable pt w m0 an 1 1815 (s0 w os) ⟨(execs st1 en).wrap doneF deadEnd id id,cE,p0,B⟩)=λ os=>some (.next,s1 w os,cE,p1):=by rw [PySem.W.Fast.te10110043849684766642,PySem.W.Fast.te14364793385576792824,PySem.W.Fast.te12563942051412417395]; kernel_rfl
def Bb (P:Params):Obj:=⟨(.type L0),none,(.dict #[e P S0 165 (.str iY 714),e P S2 166 .none,e P S3 167 .none,e P S4 168 (.builtin vp),e P S5 169 .none,e P uN 170 (.ref 6),e P uO 171 (.ref 4),e P uP 173 (.str iX 172),e P uQ 174 .none,e P eX 206 (.ref 24),e P kJ 222 (.ref 37),e P kL 238 (.ref 49),e P kM 254 (.ref 61),e P kN 270 (.ref 73),e P kO 286 (.ref 85),e P kP 302 (.ref 97),e P kQ 318 (.ref 109),e P kR 334 (.ref 121),e P nS 350 (.ref 133),e P nT 366 (.ref 145),e P nU 382 (.ref 157),e P nV 398 (.ref 169),e P nW 414 (.ref 181),e P kT 424 (.ref 190),e P kU 431 (.ref 197),e P kW 438 (.ref 204),e P kX 446 (.ref 211),e P kY 455 (.ref 218),e P uS 459 (.str uT 458),e P uU 461 (.str uV 460),e P uW 462 (.ref 219),e P kZ 477 (.ref 226),e P la 483 (.ref 231),e P lb 495 (.ref 238),e P lc 501 (.ref 243),e P le 507 (.ref 248),e P uX 509 (.str AG 508),e P uY 511 (.str AH 510),e P uZ 515 (.int 16 514),e P lg 528 (.ref 255),e P lh 541 (.ref 262),e P lj 554 (.ref 269),e P ll 570 (.ref 276),e P lm 583 (.ref 283),e P lp 589 (.ref 288),e P lq 605 (.ref 295),e P lr 611 (.ref 300),e P va 615 (.int 8 614),e P vb 617 (.int 5 616),e P ls 629 (.ref 307),e P lu 636 (.ref 314),e P jH 713 (.ref 369),e P nY 722 (.ref 380),e P nZ 731 (.ref 387),e P og 741 (.ref 394),e P oh 754 (.ref 401),e P oi 760 (.ref 406),e P oj 769 (.ref 413),e P om 775 (.ref 418),e P qD 801 (.ref 425)] 60),#[]⟩
def tF (P:Params):Obj:=⟨.none,none,(.fields #[.int 2 0,.int 0 0,.ref 20,.int 4 0,.int 0 0,.ref 33,.int 6 0,.int 0 0,.ref 45,.int 8 0,.int 0 0,.ref 57,.int 10 0,.int 0 0,.ref 69,.int 12 0,.int 0 0,.ref 81,.int 14 0,.int 0 0,.ref 93,.int 16 0,.int 0 0,.ref 105,.int 18 0,.int 0 0,.ref 117,.int 20 0,.int 0 0,.ref 129,.int 22 0,.int 0 0,.ref 141,.int 24 0,.int 0 0,.ref 153,.int 26 0,.int 0 0,.ref 165,.int 28 0,.int 0 0,.ref 177,.int 31 0,.int 0 0,.ref 189,.int 33 0,.int 0 0,.ref 196,.int 35 0,.int 0 0,.ref 203,.int 37 0,.int 0 0,.ref 210,.int 40 0,.int 0 0,.ref 217,.int 47 0,.int 0 0,.ref 225,.int 52 0,.int 0 0,.ref 230,.int 55 0,.int 0 0,.ref 237,.int 60 0,.int 0 0,.ref 242,.int 64 0,.int 0 0,.ref 247,.int 70 0,.int 0 0,.ref 254,.int 77 0,.int 0 0,.ref 261,.int 84 0,.int 0 0,.ref 268,.int 90 0,.int 0 0,.ref 275,.int 103 0,.int 0 0,.ref 282,.int 108 0,.int 0 0,.ref 287,.int 112 0,.int 0 0,.ref 294,.int 121 0,.int 0 0,.ref 299,.int 130 0,.int 0 0,.ref 306,.int 137 0,.int 0 0,.ref 313,.int 139 0,.int 0 0,.ref 320,.int 182 0,.int 0 0,.ref 379,.int 184 0,.int 0 0,.ref 386,.int 191 0,.int 0 0,.ref 393,.int 198 0,.int 0 0,.ref 400,.int 210 0,.int 0 0,.ref 405,.int 212 0,.int 0 0,.ref 412,.int 216 0,.int 0 0,.ref 417,.int 236 0,.int 0 0,.ref 424]),#[]⟩
def Bc (P:Params):Obj:=⟨(.type L0),none,(.dict #[e P qv 644 (.str kS 612),e P AF 646 (.str jH 645),e P qw 648 (.int 139 647),e P qE 654 (.ref 326),e P lE 661 (.ref 333),e P lF 668 (.ref 340),e P nX 674 (.ref 345),e P qF 684 (.ref 352),e P qG 693 (.ref 359),e P qH 703 (.ref 366),e P qx 706 (.ref 367)] 11),#[]⟩
def Bd (P:Params):Obj:=⟨.none,none,(.fields #[.int 141 0,.int 4 0,.ref 325,.int 152 0,.int 4 0,.ref 332,.int 155 0,.int 4 0,.ref 339,.int 158 0,.int 4 0,.ref 344,.int 161 0,.int 4 0,.ref 351,.int 169 0,.int 4 0,.ref 358,.int 174 0,.int 4 0,.ref 365]),#[]⟩
def Be:=g0 jH 639 139 318
def Bf:=g1 320 317 kS 612
def g18 (x0 x1:Str)(x2:Nat)(P:Params):Obj:=⟨.none,none,(.func ⟨x0,x1,L2.defArgs (L2.inClass (tp 48) x2),(.stmts (L2.defBody (L2.inClass (tp 48) x2))),L2.defScope (L2.inClass (tp 48) x2),0,[],.none,.none,.none,.none,none,.none,.none,0⟩),#[]⟩
def Bg:=g18 qE vg 0
def Bh:=g14 qE 649 vg 141 3 322
def g19 (x0 x1:Str)(x2 x3:Nat)(P:Params):Obj:=⟨(.type Ba),none,(.func ⟨x0,x1,L2.defArgs (L2.inClass (tp 48) x2),(.stmts (L2.defBody (L2.inClass (tp 48) x2))),L2.defScope (L2.inClass (tp 48) x2),3,[],.none,.none,.none,.str kS 612,none,.ref x3,.none,0⟩),#[]⟩
def Bi:=g19 qE vg 0 325
def Bj:=g12 qI 658
def Bk:=g18 lE vh 1
def Bl:=g10 lE 655 vh 152 1 327 659
def Bm:=g19 lE vh 1 332
def Bn:=g12 qI 665
def Bo:=g18 lF vi 2
def Bp:=g10 lF 662 vi 155 1 334 666
def Bq:=g19 lF vi 2 339
def Br:=g18 nX vj 3
def Bs:=g14 nX 669 vj 158 1 341
def Bt:=g19 nX vj 3 344
def g20 (x0:Str)(x1:Nat)(x2 x3 x4:Str)(P:Params):Obj:=⟨(.type L68),none,(.seq #[.str x0 x1,.str x2 (x1+1),.str x3 (x1+2),.str x4 (x1+3)] 0),#[]⟩
def Bu:=g20 qI 678 DO DQ lD
def Bv:=g18 qF vm 4
def Bw:=g10 qF 675 vm 161 1 346 682
def Bx:=g19 qF vm 4 351
def By:=g13 qI 688 lD qA
def Bz:=g18 qG vn 5
def BA:=g10 qG 685 vn 169 3 353 691
def BB:=g19 qG vn 5 358
def BC:=g20 qI 697 lD qA DV
def BD:=g18 qH vo 6
def BE:=g10 qH 694 vo 174 3 360 701
def BF:=g19 qH vo 6 365
def BG:=g8 DX 704 DY 705
def BH (P:Params):Obj:=⟨(.type L0),none,(.dict #[e P qv 644 (.str kS 612),e P qw 648 (.int 139 647),e P qE 654 (.ref 326),e P lE 661 (.ref 333),e P lF 668 (.ref 340),e P nX 674 (.ref 345),e P qF 684 (.ref 352),e P qG 693 (.ref 359),e P qH 703 (.ref 366),e P qx 706 (.ref 367),e P AM 708 (.ref 370),e P uR 710 (.ref 371),e P S2 711 .none] 4),#[]⟩
abbrev Ez:=SL.s11443829558043349243x14
def BI (P:Params):Obj:=⟨(.type L69),none,(.cls ⟨jH,[.type L60],[.ref 369,.type L60],368,jH,true,[],[],false,none,false⟩),#[none,none,some (.str jH 637),some (.str jH 645),some (.builtin Ez),some (.bool true)]⟩
abbrev EA:=SL.s6511155373996960695x17
abbrev EB:=SL.s12411053484034534018x21
def BJ (P:Params):Obj:=⟨(.type AY),none,(.fields #[.str AM 707,.ref 369,.builtin EA,.builtin EB]),#[]⟩
def BK:=g3 709 369
def BL:=g4 369
def BM:=g5 369
def BN:=g12 AN 719
def BO:=g9 nY 50
def BP:=g10 nY 716 nY 182 1 374 720
def BQ:=g11 nY 50 iY 714 379
def BR:=g13 sE 726 AO DZ
def BS:=g9 nZ 51
def BU:=g10 nZ 723 nZ 184 2 381 729
def BV:=g11 nZ 51 iY 714 386
def BW:=g20 sE 735 AO Ea Eb
def BX:=g9 og 52
def BY:=g10 og 732 og 191 2 388 739
def BZ:=g11 og 52 iY 714 393
def Ca:=g16 AQ 745 AR AS AT AU AV Ed
def Cb:=g9 oh 53
def Cc:=g10 oh 742 oh 198 5 395 752
def Cd:=g11 oh 53 iY 714 400
def Ce:=g9 oi 54
def Cf:=g14 oi 755 oi 210 1 402
def Cg:=g11 oi 54 iY 714 405
def Ch:=g13 sE 764 Ee Ef
def Ci:=g9 oj 55
def Cj:=g10 oj 761 oj 212 1 407 767
def Ck:=g11 oj 55 iY 714 412
def Cm:=g9 om 56
def Cn:=g14 om 770 om 216 4 414
def Co:=g11 om 56 iY 714 417
def Cp (P:Params):Obj:=⟨(.type L68),none,(.seq #[.str Eg 779,.str sE 780,.str Eh 781,.str AR 782,.str AS 783,.str AT 784,.str AU 785,.str Ei 786,.str Ej 787,.str Ek 788,.str AV 789,.str El 790,.str AN 791,.str Em 792,.str En 793,.str Eo 794,.str Ep 795,.str Er 796,.str AQ 797,.str Es 798] 0),#[]⟩
def Cq:=g9 qD 57
def Cr:=g10 qD 776 qD 236 1 419 799
def Cs:=g11 qD 57 iY 714 424
def t2:Params->BT:=(f boot_o_0 (f boot_o_1 (f Bb (f boot_o_7 (f o15 (f o11 (f o63 (f o11 (f xj z z) (f BR z z)) (f o11 (f Bd z z) z)) (f o11 (f vR (f xH z z) (f o12 z z)) (f o11 (f Bw z z) z))) (f o11 (f o11 (f o11 (f o12 z z) (f Cb z z)) (f wE (f o12 z z) z)) (f sM (f o11 (f xQ z z) z) (f o11 (f BG z z) z)))) (f o23 (f o39 (f o11 (f vD (f o11 z z) (f o11 z z)) (f o12 (f o11 z z) z)) (f o11 (f o11 (f xM z z) (f Cq z z)) (f wT (f BB z z) z))) (f o11 (f o87 (f o11 (f xB z z) (f o11 z z)) (f o11 (f Br z z) z)) (f o11 (f wj (f o11 z z) z) (f xc (f o12 z z) z))))) (f o11 (f o12 (f o11 (f o11 (f o11 (f o11 z z) (f BV z z)) (f ww (f o12 z z) z)) (f o99 (f o11 (f xJ z z) (f o11 z z)) (f o11 (f By z z) z))) (f o51 (f o11 (f vK (f xz z z) (f o12 z z)) (f wH (f Bp z z) z)) (f o11 (f o11 (f xT z z) z) (f xa (f BK z z) z)))) (f o27 (f o11 (f o75 (f o11 (f xt z z) (f o11 z z)) (f wC (f Bk z z) z)) (f o11 (f vY (f xO z z) z) (f o11 (f o11 z z) z))) (f o11 (f o11 (f o11 (f xF z z) (f Ci z z)) (f wM (f o12 z z) z)) (f sT (f o11 (f o11 z z) z) (f xg (f BP z z) z)))))) (f boot_o_5 (f boot_o_9 (f o17 (f o33 (f o16 (f vy (f o12 z z) (f BS z z)) (f wu (f Bf z z) z)) (f o97 (f o16 (f o11 z z) (f Cn z z)) (f wP (f o11 z z) z))) (f o49 (f o81 (f vI (f o11 z z) (f Cd z z)) (f wF (f o11 z z) z)) (f o16 (f wc (f xR z z) z) (f wY (f BI z z) z)))) (f o25 (f o16 (f o73 (f o16 (f xq z z) (f BY z z)) (f o11 (f Bj z z) z)) (f sH (f vW (f o12 z z) (f Cs z z)) (f o12 (f o12 z z) z))) (f o57 (f o16 (f vM (f xC z z) (f Ch z z)) (f wK (f Bt z z) z)) (f sR (f o12 (f xW z z) z) (f o11 (f o11 z z) z))))) (f o13 (f o21 (f o37 (f o69 (f vB (f xn z z) (f o12 z z)) (f wz (f Bh z z) z)) (f o16 (f vT (f xK z z) (f Cp z z)) (f wR (f Bz z z) z))) (f o16 (f o85 (f o16 (f o11 z z) (f Cf z z)) (f o12 (f o11 z z) z)) (f sO (f wf (f o12 z z) z) (f o12 (f BM z z) z)))) (f o16 (f o45 (f o16 (f vF (f xw z z) (f Ca z z)) (f o11 (f Bm z z) z)) (f sK (f o16 (f o11 z z) z) (f wW (f BE z z) z))) (f o61 (f o93 (f vP (f o12 z z) (f Ck z z)) (f o12 (f o11 z z) z)) (f o16 (f wm (f Bc z z) z) (f xh (f o11 z z) z))))))) (f boot_o_2 (f boot_o_4 (f boot_o_8 (f o16 (f o12 (f o28 (f o12 (f o11 z z) (f o11 z z)) (f o12 (f Be z z) z)) (f o96 (f o28 (f xI z z) (f Cm z z)) (f wO (f Bx z z) z))) (f o48 (f o12 (f vH (f xx z z) (f Cc z z)) (f o11 (f Bn z z) z)) (f o28 (f o12 (f o11 z z) z) (f o12 (f BH z z) z)))) (f qJ (f o28 (f o72 (f o28 (f o12 z z) (f BX z z)) (f wA (f o12 z z) z)) (f o12 (f vV (f o11 z z) (f Cr z z)) (f o11 (f o11 z z) z))) (f o12 (f o28 (f o12 (f o11 z z) (f o12 z z)) (f wJ (f Bs z z) z)) (f sQ (f o11 (f xV z z) z) (f xf (f BN z z) z))))) (f tF (f o20 (f o36 (f o12 (f vA (f xl z z) (f o11 z z)) (f wx (f Bg z z) z)) (f o28 (f o12 (f o11 z z) (f o12 z z)) (f o12 (f o11 z z) z))) (f o28 (f o84 (f o28 (f xA z z) (f Ce z z)) (f o11 (f Bq z z) z)) (f o12 (f we (f o11 z z) z) (f o11 (f BL z z) z)))) (f o28 (f o12 (f o28 (f o12 (f xu z z) (f o12 z z)) (f wD (f Bl z z) z)) (f sJ (f o28 (f xP z z) z) (f wV (f BD z z) z))) (f o60 (f o12 (f vO (f o11 z z) (f Cj z z)) (f o11 (f Bu z z) z)) (f o28 (f wl (f o16 z z) z) (f o11 (f BQ z z) z)))))) (f boot_o_6 (f boot_o_10 (f o11 (f o34 (f o66 (f vz (f xk z z) (f BU z z)) (f o11 (f o11 z z) z)) (f o98 (f vS (f o12 z z) (f Co z z)) (f wQ (f o12 z z) z))) (f o50 (f o82 (f vJ (f xy z z) (f o11 z z)) (f wG (f Bo z z) z)) (f sN (f wd (f xS z z) z) (f wZ (f BJ z z) z)))) (f o26 (f o42 (f o74 (f vE (f o11 z z) (f BZ z z)) (f wB (f o11 z z) z)) (f sI (f vX (f xN z z) z) (f wU (f BC z z) z))) (f o58 (f o90 (f vN (f xD z z) (f o11 z z)) (f wL (f o11 z z) z)) (f sS (f wk (f xX z z) z) (f o12 (f BO z z) z))))) (f o14 (f o11 (f o38 (f o70 (f vC (f xo z z) (f BW z z)) (f o11 (f Bi z z) z)) (f sG (f vU (f xL z z) (f o11 z z)) (f wS (f BA z z) z))) (f o54 (f o86 (f vL (f o12 z z) (f Cg z z)) (f wI (f o12 z z) z)) (f sP (f wg (f xU z z) z) (f xb (f o11 z z) z)))) (f o30 (f o46 (f o78 (f vG (f o11 z z) (f o11 z z)) (f o12 (f o11 z z) z)) (f sL (f vZ (f o12 z z) z) (f wX (f BF z z) z))) (f o62 (f o94 (f vQ (f xG z z) (f o11 z z)) (f wN (f Bv z z) z)) (f vw (f wr (f o11 z z) z) (f xi (f o12 z z) z))))))))
abbrev s2 (w:FE) (os:OsState):SharedT:=⟨t2 w.params,426,{ },(Array.mk []),⟨0,0,0,0⟩,802,os⟩
abbrev p2:Pos:=⟨236,0,269,138⟩
abbrev st2:List Stmt:=(pt.main.body.drop 48).take 10
theorem q2 (w:FE):(λ os=>segRunT treeTable pt w m0 an 1 678 (s1 w os) ⟨(execs st2 en).wrap doneF deadEnd id id,cE,p1,B⟩)=λ os=>some (.next,s2 w os,cE,p2):=by rw [PySem.W.Fast.te10110043849684766642,PySem.W.Fast.te14364793385576792824,PySem.W.Fast.te12563942051412417395]; kernel_rfl
def hF (P:Params):Heap:=⟨⟨[boot_o_0 P,boot_o_1 P,boot_o_2 P,Bb P,boot_o_4 P,boot_o_5 P,boot_o_6 P,boot_o_7 P,boot_o_8 P,boot_o_9 P,boot_o_10 P,o11 P,tF P,o13 P,o14 P,o15 P,o16 P,o17 P,o11 P,o12 P,o20 P,o21 P,o11 P,o23 P,qJ P,o25 P,o26 P,o27 P,o28 P,o16 P,o30 P,o11 P,o12 P,o33 P,o34 P,o11 P,o36 P,o37 P,o38 P,o39 P,o28 P,o16 P,o42 P,o11 P,o12 P,o45 P,o46 P,o11 P,o48 P,o49 P,o50 P,o51 P,o28 P,o16 P,o54 P,o11 P,o12 P,o57 P,o58 P,o11 P,o60 P,o61 P,o62 P,o63 P,o28 P,o16 P,o66 P,o11 P,o12 P,o69 P,o70 P,o11 P,o72 P,o73 P,o74 P,o75 P,o28 P,o16 P,o78 P,o11 P,o12 P,o81 P,o82 P,o11 P,o84 P,o85 P,o86 P,o87 P,o28 P,o16 P,o90 P,o11 P,o12 P,o93 P,o94 P,o11 P,o96 P,o97 P,o98 P,o99 P,o28 P,o16 P,sG P,o11 P,o12 P,sH P,sI P,o11 P,sJ P,sK P,sL P,sM P,o28 P,o16 P,sN P,o11 P,o12 P,sO P,sP P,o11 P,sQ P,sR P,sS P,sT P,o28 P,o16 P,vw P,o11 P,o12 P,vy P,vz P,o11 P,vA P,vB P,vC P,vD P,o28 P,o16 P,vE P,o11 P,o12 P,vF P,vG P,o11 P,vH P,vI P,vJ P,vK P,o28 P,o16 P,vL P,o11 P,o12 P,vM P,vN P,o11 P,vO P,vP P,vQ P,vR P,o28 P,o16 P,vS P,o11 P,o12 P,vT P,vU P,o11 P,vV P,vW P,vX P,vY P,o28 P,o16 P,vZ P,o11 P,o12 P,wc P,wd P,o11 P,we P,wf P,wg P,wj P,o11 P,o12 P,wk P,o11 P,wl P,wm P,wr P,o11 P,o12 P,wu P,o11 P,ww P,wx P,wz P,o11 P,o12 P,wA P,o11 P,wB P,wC P,wD P,o11 P,o12 P,wE P,o11 P,wF P,wG P,wH P,o11 P,o12 P,wI P,o11 P,wJ P,wK P,wL P,wM P,o11 P,o12 P,wN P,o11 P,wO P,wP P,wQ P,o11 P,o12 P,wR P,wS P,wT P,o11 P,o12 P,wU P,o11 P,wV P,wW P,wX P,o11 P,o12 P,wY P,wZ P,xa P,o11 P,o12 P,xb P,xc P,xf P,o11 P,o12 P,xg P,o11 P,xh P,xi P,xj P,o11 P,o12 P,xk P,o11 P,xl P,xn P,xo P,o11 P,o12 P,xq P,o11 P,xt P,xu P,xw P,o11 P,o12 P,xx P,o11 P,xy P,xz P,xA P,o11 P,o12 P,xB P,o11 P,xC P,xD P,xF P,o11 P,o12 P,xG P,xH P,xI P,o11 P,o12 P,xJ P,o11 P,xK P,xL P,xM P,o11 P,o12 P,xN P,xO P,xP P,o11 P,o12 P,xQ P,o11 P,xR P,xS P,xT P,o11 P,o12 P,xU P,o11 P,xV P,xW P,xX P,o11 P,o16 P,Bc P,o11 P,Bd P,Be P,Bf P,o11 P,o12 P,Bg P,Bh P,Bi P,o11 P,o12 P,Bj P,o11 P,Bk P,Bl P,Bm P,o11 P,o12 P,Bn P,o11 P,Bo P,Bp P,Bq P,o11 P,o12 P,Br P,Bs P,Bt P,o11 P,o12 P,Bu P,o11 P,Bv P,Bw P,Bx P,o11 P,o12 P,By P,o11 P,Bz P,BA P,BB P,o11 P,o12 P,BC P,o11 P,BD P,BE P,BF P,BG P,BH P,BI P,BJ P,BK P,BL P,BM P,o11 P,o12 P,BN P,o11 P,BO P,BP P,BQ P,o11 P,o12 P,BR P,o11 P,BS P,BU P,BV P,o11 P,o12 P,BW P,o11 P,BX P,BY P,BZ P,o11 P,o12 P,Ca P,o11 P,Cb P,Cc P,Cd P,o11 P,o12 P,Ce P,Cf P,Cg P,o11 P,o12 P,Ch P,o11 P,Ci P,Cj P,Ck P,o11 P,o12 P,Cm P,Cn P,Co P,o11 P,o12 P,Cp P,o11 P,Cq P,Cr P,Cs P]⟩,{ }⟩
abbrev sF (w:FE) (os:OsState):FB:=⟨hF w.params,(Array.mk []),⟨0,0,0,0⟩,802,os⟩
theorem fin (w:FE):(λ os=>topRun treeTable pt w m0 an 2 (s2 w os).abs ⟨doneF .next,cE,p2,B⟩)=λ os=>some (sF w os):=by rw [PySem.W.Fast.te14082659384304107361,PySem.W.Fast.te14364793385576792824]; kernel_rfl
theorem sU:behindTheImports pt=st0 ++ (st1 ++ (st2 ++ ([]))):=by kernel_rfl
abbrev MM:Nat:=12 + (1 + (1900 + (1815 + (678 + 2))))
theorem xY (w:FE) (os:OsState):topRun treeTable pt w m0 an MM (sZ w os) (topStub pt)=some (sF w os) :=
 go_top (congrFun (pre w) os) (piece_block (congrFun (blk w) os) (sU ▸ (piece_app (l:=st0) (segRun_of (congrFun (q0 w) os)) (piece_app (l:=st1) (segRun_of (congrFun (q1 w) os)) (piece_app (l:=st2) (segRun_of (congrFun (q2 w) os)) (piece_nil (congrFun (fin w) os)))))))
def loose:List Str:=[eX,kJ,kL,kM,kN,kO,kP,kQ,kR,nS,nT,nU,nV,nW,kT,kU,kW,kX,kY,uS,uU,uW,kZ,la,lb,lc,le,uX,uY,uZ,lg,lh,lj,ll,lm,lp,lq,lr,va,vb,ls,lu,jH,nY,nZ,og,oh,oi,oj,om]
abbrev NN:Nat:=8906
abbrev q:FC:=view pt [57]
abbrev Xt:FB->Bool:=λ s=>xlAt q [] s && recOk [] s
theorem size (w:FE):((boot_heap w.params).isNs mainGlobals && (Array.mk []:Array GenState).size == 0,(boot_heap w.params).objs.size,(boot_heap w.params).nsMap mainGlobals "__annotations__")=(true,m0,an):=by rw [PySem.W.Fast.te8920871248978507458]; kernel_rfl
theorem Ct (w:FE):(λ os=>((staticsOk (importedModules pt.main.body) (boot_heap w.params) (hF w.params) && namesBound pt (hF w.params) && gensDone (sF w os) && laidKept (boot_heap w.params) (hF w.params)),openSeen q loose (importedModules pt.main.body) Xt true (sF w os),HK.obs (sF w os)))=λ _=>(true,openGood q loose,HK.val w):=by rw [PySem.W.Fast.te4187177175401517315,PySem.W.Fast.te5923862056798008813]; kernel_rfl
theorem left:LeftO pt q loose Xt HK.obs HK.val NN true:=LeftO.of_pieces (boot_open (by kernel_rfl) ∅ (λ s=>rfl)) size xY ∅ Ct
end Hd
open PySem PySem.W PyProof.Rows
set_option maxRecDepth 100000 in
set_option maxHeartbeats 0 in
theorem PySem.Challenge.cw_platecuts_k46_refused_plates_and_tables_holds : PySem.Challenge.rw_platecuts_k46_refused_plates_and_tables.Holds := by
 w_on; o_law
 refine holds_open (q:=view PySem.Challenge.pw_platecuts_k46_refused_plates_and_tables [57]) (loose:=Hd.loose) (Xt:=λ s=>xlAt (view PySem.Challenge.pw_platecuts_k46_refused_plates_and_tables [57]) [] s && recOk [] s) (XP:=XL (view PySem.Challenge.pw_platecuts_k46_refused_plates_and_tables [57]) []) (Yf:=Hook.obs Hd.HK) (Ya:=Hook.val Hd.HK) (YP:=InK Pc.kK) (N:=Hd.NN) ?hl (Hook.of Hd.HK) (Hook.keeps Hd.HK) (λ s e=>xl_of s (Bool.and_eq_true_iff.mp e).1) XL.keeps (by rfl) (by rfl) (by rfl) (λ s e=>recFacts_of (Bool.and_eq_true_iff.mp e).2) (by rfl) (by first | assumption | decide +kernel) (by decide +kernel) ⟨rfl,rfl,rfl,rfl,rfl,by decide +kernel⟩ ?hw ?hc
 case hl=>exact Hd.pt_eq ▸ Hd.left
 case hw=>w_witness2
 k_fill
 refine Pc.walk (l:=PySem.Challenge.rw_platecuts_k46_refused_plates_and_tables) rfl rfl (λ w h YY0=>YY0) ?F
 case F =>
  intro w mg fa h KX G hmg;refine' Pc.all_mk KX G hmg ?d0 ?d1 ?d2 ?d3 ?d4 ?d5 ?d6 ?d7 ?d8 ?d9 ?d10 ?d11 ?d12 ?d13 ?d14 ?d15 ?d16 ?d17 ?d18 ?d19 ?d20 ?d21 ?d22 ?d23 ?d24 ?d25 ?d26 ?d27 ?aC ?dm0 ?dm1 ?dm2 ?dm3 ?dm4 ?dm5 ?pg ?hd ?po ?sa ?mk ?kc ?n0 ?n1 ?eWAYS ?ePlateError ?eNoPlate ?eTooLarge ?eNoTable ?eNoBlade ?eNoKind ?eNoKinds ?eNoLaying ?eNoLying ?eNoNumber ?eNoTelling ?eNoText ?eNoTree ?eNoWeights ?lWAYS ?cPlateError ?cNoPlate ?cTooLarge ?cNoTable ?cNoBlade ?cNoKind ?cNoKinds ?cNoLaying ?cNoLying ?cNoNumber ?cNoTelling ?cNoText ?cNoTree ?cNoWeights ?sNoPlatePlateError ?sNoPlateNoPlate ?sNoPlateTooLarge ?sNoPlateNoTable ?sNoPlateNoBlade ?sNoPlateNoKind ?sNoPlateNoKinds ?sNoPlateNoLaying ?sNoPlateNoLying ?sNoPlateNoNumber ?sNoPlateNoTelling ?sNoPlateNoText ?sNoPlateNoTree ?sNoPlateNoWeights ?vNoPlate ?kaNoPlate ?kbNoPlate ?kcNoPlate ?kdNoPlate ?keNoPlate ?sTooLargePlateError ?sTooLargeNoPlate ?sTooLargeTooLarge ?sTooLargeNoTable ?sTooLargeNoBlade ?sTooLargeNoKind ?sTooLargeNoKinds ?sTooLargeNoLaying ?sTooLargeNoLying ?sTooLargeNoNumber ?sTooLargeNoTelling ?sTooLargeNoText ?sTooLargeNoTree ?sTooLargeNoWeights ?vTooLarge ?kaTooLarge ?kbTooLarge ?kcTooLarge ?kdTooLarge ?keTooLarge ?sNoTablePlateError ?sNoTableNoPlate ?sNoTableTooLarge ?sNoTableNoTable ?sNoTableNoBlade ?sNoTableNoKind ?sNoTableNoKinds ?sNoTableNoLaying ?sNoTableNoLying ?sNoTableNoNumber ?sNoTableNoTelling ?sNoTableNoText ?sNoTableNoTree ?sNoTableNoWeights ?vNoTable ?kaNoTable ?kbNoTable ?kcNoTable ?kdNoTable ?keNoTable ?bPlateError ?z0 ?z1 ?z2 ?z3 ?z4 ?z5 ?z6 ?z7 ?z8 ?z9 ?z10 ?z11 ?z12 ?z13 ?z14 ?z15 ?z16 ?z17 ?z18 ?z19 ?uc0 ?uc1 ?uc2 ?uc3 ?uc4 ?uc5 ?uc6
  (case d0 | d1 | d2 | d3 | d4 | d5 | d6 | d7 | d8 | d9 | d10 | d11 | d12 | d13 | d14 | d15 | d16 | d17 | d18 | d19 | d20 | d21 | d22 | d23 | d24 | d25 | d26 | d27=>refine' Pc.diM ?a ?l ?c ?k; (case a=>k_is); (case l=>k_is); (case c=>k_is); (case k=>k_is))
  (case aC=>k_is)
  (case dm0 | dm1 | dm2 | dm3 | dm4 | dm5=>refine' Pc.miM ?a ?i ?l ?c ?k; (case a=>k_is); (case i=>k_is); (case l=>k_is); (case c=>k_is); (case k=>k_is))
  (case pg | hd | po | sa | mk | kc | n0 | n1 | eWAYS | ePlateError | eNoPlate | eTooLarge | eNoTable | eNoBlade | eNoKind | eNoKinds | eNoLaying | eNoLying | eNoNumber | eNoTelling | eNoText | eNoTree | eNoWeights=>k_is)
  (case lWAYS=>exact ⟨_,_,_,Y,Y,Y,by decide,.cons ⟨_,Y⟩ (.cons ⟨_,Y⟩ .nil)⟩)
  (case cPlateError | cNoPlate | cTooLarge | cNoTable | cNoBlade | cNoKind | cNoKinds | cNoLaying | cNoLying | cNoNumber | cNoTelling | cNoText | cNoTree | cNoWeights=>k_exc)
  (case sNoPlatePlateError | sNoPlateNoPlate | sNoPlateTooLarge | sNoPlateNoTable | sNoPlateNoBlade | sNoPlateNoKind | sNoPlateNoKinds | sNoPlateNoLaying | sNoPlateNoLying | sNoPlateNoNumber | sNoPlateNoTelling | sNoPlateNoText | sNoPlateNoTree | sNoPlateNoWeights | vNoPlate | kaNoPlate | kbNoPlate | kcNoPlate | kdNoPlate | keNoPlate | sTooLargePlateError | sTooLargeNoPlate | sTooLargeTooLarge | sTooLargeNoTable | sTooLargeNoBlade | sTooLargeNoKind | sTooLargeNoKinds | sTooLargeNoLaying | sTooLargeNoLying | sTooLargeNoNumber | sTooLargeNoTelling | sTooLargeNoText | sTooLargeNoTree | sTooLargeNoWeights | vTooLarge | kaTooLarge | kbTooLarge | kcTooLarge | kdTooLarge | keTooLarge | sNoTablePlateError | sNoTableNoPlate | sNoTableTooLarge | sNoTableNoTable | sNoTableNoBlade | sNoTableNoKind | sNoTableNoKinds | sNoTableNoLaying | sNoTableNoLying | sNoTableNoNumber | sNoTableNoTelling | sNoTableNoText | sNoTableNoTree | sNoTableNoWeights | vNoTable | kaNoTable | kbNoTable | kcNoTable | kdNoTable | keNoTable | bPlateError | z0 | z1 | z2 | z3 | z4 | z5 | z6 | z7 | z8 | z9 | z10 | z11 | z12 | z13 | z14 | z15 | z16 | z17 | z18 | z19 | uc0 | uc1 | uc2 | uc3 | uc4 | uc5 | uc6=>k_is)