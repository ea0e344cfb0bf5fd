import PyProof.Rows.All
import Wide.All
import OpenK.AllK
import Wide.FinOn
import Lean
import PyProof.EqAt
import PyProof.EqKinds
import PyProof.TupleCall
import PyProof.Draws
import PyProof.WalksMore
import PyProof.EnumMake
import PyProof.ReprRoads
import PyProof.Rows.SortWalk
import PyProof.Rows.SumAny
import PyProof.FitsBits
import KE.KSortTup
import KE.KRevIter
import PyProof.NeData
import PySem.Challenge.RW_platecuts_k83_whole_exchanges_keep_telli
theorem zS2:2<=PySem.sizeLine:=by decide
theorem zS5:5<=PySem.sizeLine:=by decide
theorem zS1:1<=PySem.sizeLine:=by decide
theorem zS4:4<=PySem.sizeLine:=by decide
theorem zS3:3<=PySem.sizeLine:=by decide
theorem Y{α:Sort _}{a:α}:a=a:=rfl
set_option Elab.async false
set_option linter.all false
set_option maxRecDepth 100000
namespace L2
open PySem PySem.Spec PyProof.Rows
abbrev Key:=Sum Int Str
def uD:Key->Value->Bool
 | .inl k,v=>Value.isInt k v
 | .inr x,v=>Value.isStrOf x v
def FI (w:World):Key->Int
 | .inl k=>hashInt k
 | .inr x=>hashStr w x
theorem bg:∀ {k:Key} {v:Value},uD k v=true->(∃i t,k=Sum.inl i/\v=Value.int i t)\/(∃x t,k=Sum.inr x/\v=Value.str x t)
 | .inl i,v,h=>by
  obtain ⟨t,e⟩:=Value.isInt_shape (k:=i) (v:=v) h
  exact .inl ⟨i,t,Y,e⟩
 | .inr x,v,h=>by
  obtain ⟨t,e⟩:=Value.isStrOf_shape (x:=x) (v:=v) h
  exact .inr ⟨x,t,Y,e⟩
theorem uX (a b:Int):decide ((Sum.inl a:Key)=Sum.inl b)=(a == b):=by
 by_cases e:a=b
 ·subst e; simp
 ·have h:¬ (Sum.inl a:Key)=Sum.inl b:=λ q=>e (Sum.inl.inj q)
  rw [decide_eq_false h]
  exact (beq_eq_false_iff_ne.mpr e).symm
theorem uY (a b:Str):decide ((Sum.inr a:Key)=Sum.inr b)=decide (a=b):=by
 by_cases e:a=b
 ·subst e; simp
 ·have h:¬ (Sum.inr a:Key)=Sum.inr b:=λ q=>e (Sum.inr.inj q)
  rw [decide_eq_false h,decide_eq_false e]
theorem uZ (a:Int) (b:Str):decide ((Sum.inl a:Key)=Sum.inr b)=false:=decide_eq_false (λ q=>nomatch q)
theorem vd (a:Str) (b:Int):decide ((Sum.inr a:Key)=Sum.inl b)=false:=decide_eq_false (λ q=>nomatch q)
def iR (prog:Program) (w:World):PySem.KeyKind prog w Key where
 is:=uD
 hash:=FI w
 inj:=λ v a b ha hb=>by
  rcases bg ha with ⟨i,t,rfl,rfl⟩ | ⟨x,t,rfl,rfl⟩
  ·rcases bg hb with ⟨j,u,rfl,e⟩ | ⟨y,u,rfl,e⟩
   ·injection e with e1 _; rw [e1]
   ·exact nomatch e
  ·rcases bg hb with ⟨j,u,rfl,e⟩ | ⟨y,u,rfl,e⟩
   ·exact nomatch e
   ·injection e with e1 _; rw [e1]
 byValue:=λ k v h=>by
  rcases bg h with ⟨i,t,rfl,rfl⟩ | ⟨x,t,rfl,rfl⟩ <;> rfl
 pyHash:=λ hv h=>by
  rcases bg hv with ⟨i,t,rfl,rfl⟩ | ⟨x,t,rfl,rfl⟩
  ·exact wpAny_pyHash_int h
  ·exact wpAny_pyHash_str h
 eqBool:=λ hu hv h=>by
  rcases bg hu with ⟨i,t,rfl,rfl⟩ | ⟨x,t,rfl,rfl⟩
  ·rcases bg hv with ⟨j,u,rfl,rfl⟩ | ⟨y,u,rfl,rfl⟩
   ·rw [uX] at h; exact wpAny_eqBool_int h
   ·rw [uZ] at h; exact SeqAt.EqAt.int_str i t y u _ _ _ _ h
  ·rcases bg hv with ⟨j,u,rfl,rfl⟩ | ⟨y,u,rfl,rfl⟩
   ·rw [vd] at h; exact SeqAt.EqAt.str_int x t j u _ _ _ _ h
   ·rw [uY] at h; exact wpAny_eqBool_str h
 «strs» := λ k x t v h=>by
  rcases bg h with ⟨i,u,rfl,e⟩ | ⟨y,u,rfl,e⟩
  ·exact nomatch e
  ·injection e with e1 _
   subst e1
   cases v <;> rfl
end L2
namespace L2
open PySem PySem.Spec PyProof.Rows
inductive V where
 | non | bl (b:Bool) | int (i:Int) | str (x:Str) | byt (b:Array UInt8) | flt (b:UInt64) | ref (a:Addr) | ty (n:String)
 deriving DecidableEq
def RelV:V->Value->Prop
 | .non,u=>u=Value.none
 | .bl b,u=>u=Value.bool b
 | .int i,u=>∃t,u=Value.int i t
 | .str x,u=>∃t,u=Value.str x t
 | .byt b,u=>∃t,u=Value.bytes b t
 | .flt b,u=>∃t,u=Value.float b t
 | .ref a,u=>u=Value.ref a
 | .ty n,u=>u=Value.type n
abbrev Vals:List V->List Value->Prop:=Paired RelV
theorem Vals.length {xs:List V} {us:List Value} (r:Vals xs us):xs.length=us.length:=Paired.length r
theorem Vals.get:∀ {xs:List V} {us:List Value} {i:Nat} {x:V},Vals xs us->xs[i]? = some x->∃u,us[i]? = some u/\RelV x u
 | _,_,_,_,.nil,e=>by simp at e
 | _,_,0,_,.cons r _,e=>by simp at e; subst e; exact ⟨_,Y,r⟩
 | _,_,i + 1,x,.cons _ t,e=>by
  obtain ⟨u,h1,h2⟩:=Vals.get (i:=i) (x:=x) t (by simpa using e)
  exact ⟨u,by simpa using h1,h2⟩
theorem Vals.set {x:V} {u:Value} (r:RelV x u):∀ {xs:List V} {us:List Value} (i:Nat),Vals xs us->Vals (xs.set i x) (us.set i u)
 | _,_,_,.nil=>.nil
 | _,_,0,.cons _ t=>.cons r t
 | _,_,i + 1,.cons q t=>.cons q (Vals.set r i t)
theorem Vals.append:∀ {xs ys:List V} {us ws:List Value},Vals xs us->Vals ys ws->Vals (xs ++ ys) (us ++ ws)
 | _,_,_,_,.nil,s=>s
 | _,_,_,_,.cons r t,s=>.cons r (Vals.append t s)
theorem Vals.take:∀ {xs:List V} {us:List Value} (n:Nat),Vals xs us->Vals (xs.take n) (us.take n)
 | _,_,0,_=>.nil
 | _,_,_ + 1,.nil=>.nil
 | _,_,n + 1,.cons r t=>.cons r (Vals.take n t)
theorem Vals.drop:∀ {xs:List V} {us:List Value} (n:Nat),Vals xs us->Vals (xs.drop n) (us.drop n)
 | _,_,0,r=>r
 | _,_,_ + 1,.nil=>.nil
 | _,_,n + 1,.cons _ t=>Vals.drop n t
def RelO:Option V->Option Value->Prop
 | some v,some u=>RelV v u
 | none,none=>True
 | _,_=>False
def KV {κ:Type}:List (κ×V)->List (κ×Value)->Prop:=Paired λ (p:κ×V) (q:κ×Value)=>p.1=q.1/\RelV p.2 q.2
def kV:Key->V
 | .inl i=>.int i
 | .inr x=>.str x
inductive HO where
 | lst (xs:List V)
 | tup (xs:List V)
 | dK (kvs:List (Key×V)) | dT (kvs:List (List Key×V))
 | set (S:Int->Bool) (n:Nat)
 | ins (C dx:Addr) (fs:List (Str×V))
 | own (x:Addr)
 | xd (fs:List (Str×V))
 | met (f x:Addr)
 | rng (lo hi:Int)
 | frz (o:Obj) (u:HO)
 | tbl (ps:Array Value)
 | ext (φ:Heap->Prop)
abbrev Hp:=Addr->Option HO
def upd (H:Hp) (a:Addr) (o:HO):Hp:=λ b=>if b=a then some o else H b
theorem af {H:Hp} {a:Addr} {o:HO}:upd H a o a=some o:=by unfold upd; rw [if_pos rfl]
theorem am {H:Hp} {a b:Addr} {o:HO} (h:b≠a):upd H a o b=H b:=by unfold upd; rw [if_neg h]
theorem au {H:Hp} {a b:Addr} {o:HO} (h:H a=some o) (h':H b=none):a≠b:=by
 intro e; subst e; rw [h] at h'; cases h'
section
variable (P:Program) (w:World)
def ObjOk (H:Hp) (h:Heap) (a:Addr):HO->Prop
 | .lst xs=>xs.length<=sizeLine/\∃ (its:List Value) (n:Nat),Vals xs its/\h.get? a=some { cls:=.type "list",data:=.seq its.toArray n }
 | .tup xs=>xs.length<=sizeLine/\∃its:List Value,Vals xs its/\IsTup h a its.toArray
 | .dK kvs=>kvs.length<=sizeLine/\(a == sysModules)=false/\∃vs,KV kvs vs/\h.DictOf (iR P w) a vs
 | .dT kvs=>kvs.length<=sizeLine/\(a == sysModules)=false/\∃xs:List (List Key×Addr×Value),
   Paired (λ (p:List Key×V) (q:List Key×Addr×Value)=>p.1=q.1/\H q.2.1=some (.tup (p.1.map kV))/\RelV p.2 q.2.2) kvs xs /\
   ∃o es ep,h.get? a=some o/\o.ExactDict/\o.data=.dict es ep/\es.toList=xs.map (entryOfKey (tupleKind (iR P w)))/\(xs.map (·.1)).Nodup
 | .set S n=>h.SetOf (intKind P w) a S n
 | .ins C dx fs=>H dx=some (.own a)/\fs.length<=1000/\dx≠a/\h.get? a=some (PySem.W.instObj C dx) /\
   ∃mA,h.Ns1 dx mA/\(∀f,RelO (fs.lookup f) (mA f))/\PySem.Within mA (fs.map (·.1))
 | .own _=>∃o,h.get? a=some o
 | .xd fs=>∃mA,h.Ns1 a mA/\∀f,RelO (fs.lookup f) (mA f)
 | .rng lo hi=>∃t u v,h.get? a=some { cls:=.type "range",data:=.fields #[.int lo t,.int hi u,.int 1 v] }
 | .frz o u=>h.get? a=some o/\ObjOk H h a u
 | .tbl ps=>h.get? a=some { cls:=.none,data:=.fields ps }
 | .met f x=>h.get? a=some (PySem.W.methodObj (.ref f) (.ref x))
 | .ext φ=>φ h/\(∃o,h.get? a=some o)/\∀h1 h2:Heap,φ h1->(∀o,h1.get? a=some o->h2.get? a=some o)->φ h2
def HOk (H:Hp) (h:Heap):Prop:=∀a o,H a=some o->ObjOk P w H h a o
end
section
variable {P:Program} {w:World} {H H':Hp} {h h':Heap} {a:Addr} {o:HO}
theorem ObjOk.lt (x:ObjOk P w H h a o):a < h.objs.size:=by
 cases o with
 | lst xs=>obtain ⟨_,_,_,_,e⟩:=x; exact Heap.lt_size e
 | tup xs=>obtain ⟨_,_,_,p⟩:=x; exact p.lt
 | dK kvs=>obtain ⟨_,_,_,_,o,_,_,e,_⟩:=x; exact Heap.lt_size e
 | dT kvs=>obtain ⟨_,_,_,_,o,_,_,e,_⟩:=x; exact Heap.lt_size e
 | set S n=>obtain ⟨o,_,_,_,e,_⟩:=x; exact Heap.lt_size e
 | ins C dx fs=>obtain ⟨_,_,_,e,_⟩:=x; exact Heap.lt_size e
 | own y=>obtain ⟨_,e⟩:=x; exact Heap.lt_size e
 | xd fs=>obtain ⟨_,⟨_,_,_,e,_⟩,_⟩:=x; exact Heap.lt_size e
 | rng lo hi=>obtain ⟨_,_,_,e⟩:=x; exact Heap.lt_size e
 | frz ob u=>obtain ⟨e,_⟩:=x; exact Heap.lt_size e
 | tbl ps=>exact Heap.lt_size (show h.get? a=some _ from x)
 | met f y=>exact Heap.lt_size (show h.get? a=some _ from x)
 | ext φ=>obtain ⟨_,⟨_,e⟩,_⟩:=x; exact Heap.lt_size e
theorem Paired.mapP {α β:Type} {F G:α->β->Prop}:∀ {l₁:List α} {l₂:List β},Paired F l₁ l₂->(∀a b,F a b->G a b)->Paired G l₁ l₂
 | _,_,.nil,_=>.nil
 | _,_,.cons r t,f=>.cons (f _ _ r) (Paired.mapP t f)
theorem ObjOk.stay (x:ObjOk P w H h a o) (k:∀b u,(b=a\/H b=some (.own a))->h.get? b=some u->h'.get? b=some u)
  (ho:∀b,H b=some (.own a)->H' b=some (.own a)) (ht:∀b xs,H b=some (.tup xs)->H' b=some (.tup xs)):ObjOk P w H' h' a o:=by
 induction o with
 | lst xs=>obtain ⟨z,its,n,r,e⟩:=x; exact ⟨z,its,n,r,k _ _ (.inl rfl) e⟩
 | tup xs=>obtain ⟨z,its,r,ob,e,c⟩:=x; exact ⟨z,its,r,ob,k _ _ (.inl rfl) e,c⟩
 | dK kvs=>obtain ⟨z,y,vs,r,ob,es,ep,e,c⟩:=x; exact ⟨z,y,vs,r,ob,es,ep,k _ _ (.inl rfl) e,c⟩
 | dT kvs =>
  obtain ⟨z,y,xs,r,ob,es,ep,e,c⟩:=x
  exact ⟨z,y,xs,Paired.mapP r λ p q z=>⟨z.1,ht _ _ z.2.1,z.2.2⟩,ob,es,ep,k _ _ (.inl rfl) e,c⟩
 | set S n=>obtain ⟨ob,es,ep,t,e,c⟩:=x; exact ⟨ob,es,ep,t,k _ _ (.inl rfl) e,c⟩
 | ins C dx fs =>
  obtain ⟨d,z,ne,e,mA,⟨od,es,ep,e2,c⟩,r⟩:=x
  exact ⟨ho _ d,z,ne,k _ _ (.inl rfl) e,mA,⟨od,es,ep,k _ _ (.inr d) e2,c⟩,r⟩
 | own y=>obtain ⟨ob,e⟩:=x; exact ⟨ob,k _ _ (.inl rfl) e⟩
 | xd fs=>obtain ⟨mA,⟨od,es,ep,e,c⟩,r⟩:=x; exact ⟨mA,⟨od,es,ep,k _ _ (.inl rfl) e,c⟩,r⟩
 | rng lo hi=>obtain ⟨t,u,v,e⟩:=x; exact ⟨t,u,v,k _ _ (.inl rfl) e⟩
 | frz ob u ih=>obtain ⟨e,q⟩:=x; exact ⟨k _ _ (.inl rfl) e,ih q⟩
 | tbl ps =>
  have e:h.get? a=some { cls:=.none,data:=.fields ps }:=x
  show h'.get? a=some { cls:=.none,data:=.fields ps }
  exact k a _ (.inl rfl) e
 | met f y =>
  have e:h.get? a=some (PySem.W.methodObj (.ref f) (.ref y)):=x
  show h'.get? a=some (PySem.W.methodObj (.ref f) (.ref y))
  exact k a _ (.inl rfl) e
 | ext φ=>obtain ⟨p,⟨o,e⟩,st⟩:=x; exact ⟨st _ _ p λ o q=>k _ _ (.inl rfl) q,⟨o,k _ _ (.inl rfl) e⟩,st⟩
theorem HOk.lt (x:HOk P w H h) (e:H a=some o):a < h.objs.size:=(x a o e).lt
theorem HOk.fresh (x:HOk P w H h) (e:h.objs.size<=a):H a=none:=by
 cases q:H a with
 | none=>rfl
 | some u=>exact absurd (Nat.lt_of_lt_of_le (x.lt q) e) (Nat.lt_irrefl _)
theorem HOk.kept (x:HOk P w H h) (k:∀b u,h.get? b=some u->h'.get? b=some u):HOk P w H h':=λ a o e =>
 (x a o e).stay (λ b u _ q=>k b u q) (λ _ q=>q) λ _ _ q=>q
theorem HOk.laid (x:HOk P w H h) (k:∀b u,h.get? b=some u->h'.get? b=some u) (hp:h.objs.size<=a) (new:ObjOk P w (upd H a o) h' a o):HOk P w (upd H a o) h':=λ b u e=>by
 have hn:=x.fresh hp
 by_cases hb:b=a
 ·subst hb; rw [af] at e; cases e; exact new
 ·rw [am hb] at e
  exact (x b u e).stay (λ c v _ q=>k c v q) (λ c q=>by rw [am (au q hn)]; exact q) λ c xs q=>by rw [am (au q hn)]; exact q
end
def Rd (H:Hp) (a:Addr) (u:HO):Prop:=H a=some u\/∃o,H a=some (.frz o u)
theorem Rd.ok {P:Program} {w:World} {H:Hp} {h:Heap} {a:Addr} {u:HO} (r:Rd H a u) (x:HOk P w H h):ObjOk P w H h a u:=by
 rcases r with r | ⟨o,r⟩
 ·exact x a u r
 ·obtain ⟨_,q⟩:=x a _ r
  exact q
def Mut:Option HO->Prop
 | some (.lst _)=>True
 | some (.dK _)=>True
 | some (.dT _)=>True
 | some (.set _ _)=>True
 | some (.ins _ _ _)=>True
 | some (.ext _)=>True
 | _=>False
section
variable {P:Program} {w:World} {H:Hp} {h h':Heap} {x e:Addr} {o':HO}
theorem HOk.write (ok:HOk P w H h) (mu:Mut (H x)) (he:e=x\/H e=some (.own x)) (k:∀b u,b≠e->h.get? b=some u->h'.get? b=some u) (heo:∃u,h'.get? e=some u)
  (new:ObjOk P w (upd H x o') h' x o'):HOk P w (upd H x o') h':=λ b u q=>by
 have nown:∀c y,H c=some (.own y)->c≠x:=λ c y r z=>by subst z; rw [r] at mu; exact mu
 have ntup:∀c xs,H c=some (.tup xs)->c≠x:=λ c xs r z=>by subst z; rw [r] at mu; exact mu
 by_cases hb:b=x
 ·subst hb; rw [af] at q; cases q; exact new
 ·rw [am hb] at q
  by_cases hbe:b=e
  ·have q':H b=some (.own x):=by
    rcases he with z | z
    ·exact absurd (hbe.trans z) hb
    ·rw [hbe]; exact z
   rw [q] at q'; cases q'
   obtain ⟨v,hv⟩:=heo
   exact ⟨v,by rw [hbe]; exact hv⟩
  ·refine (ok b u q).stay (λ c v hc r=>k c v ?_ r) (λ c r=>by rw [am (nown c b r)]; exact r) λ c xs r=>by rw [am (ntup c xs r)]; exact r
   rcases hc with rfl | hc
   ·exact hbe
   ·rintro rfl
    rcases he with z | z
    ·exact nown c b hc z
    ·rw [hc] at z; cases z; exact hb rfl
end
structure Un (fs ex:List Addr) (H H':Hp) (h h':Heap):Prop where
 keep:∀b o,h.get? b=some o->H b=none->b∉fs->b∉ex->h'.get? b=some o
 slot:∀b o,h.get? b=some o->H b=none->b∈fs->b∉ex->∃sl,h'.get? b=some { o with slots:=sl }
 free:∀b o,h.get? b=some o->H b=none->b∉ex->H' b=none
 there:∀b o,h.get? b=some o->b∉ex->∃o',h'.get? b=some o'
 tups:∀b xs,H b=some (.tup xs)->H' b=some (.tup xs)
 frzs:∀b o u,H b=some (.frz o u)->H' b=some (.frz o u)
 tbls:∀b ps,H b=some (.tbl ps)->∃more,H' b=some (.tbl (ps ++ more))
section
variable {fs fs' ex ex':List Addr} {H H1 H2:Hp} {h h1 h2 h':Heap} {a x e:Addr} {o:HO}
theorem Un.any (u:Un fs ex H H1 h h1) {b:Addr} {ob:Obj} (q:h.get? b=some ob) (n:H b=none) (hx:b∉ex):∃sl,h1.get? b=some { ob with slots:=sl }:=by
 by_cases hb:b∈fs
 ·exact u.slot b ob q n hb hx
 ·exact ⟨ob.slots,u.keep b ob q n hb hx⟩
theorem Un.kept (k:∀b u,h.get? b=some u->h'.get? b=some u):Un fs ex H H h h' :=
 ⟨λ b ob q _ _ _=>k b ob q,λ b ob q _ _ _=>⟨ob.slots,k b ob q⟩,λ _ _ _ n _=>n,λ b ob q _=>⟨ob,k b ob q⟩,λ _ _ q=>q,λ _ _ _ q=>q,λ _ ps q=>⟨#[],by rw [q]; simp⟩⟩
theorem Un.refl:Un fs ex H H h h:=Un.kept λ _ _ q=>q
theorem Un.laid (k:∀b u,h.get? b=some u->h'.get? b=some u) (hp:h.objs.size<=a) (hn:H a=none):Un fs ex H (upd H a o) h h' where
 keep:=λ b u q _ _ _=>k b u q
 slot:=λ b u q _ _ _=>⟨u.slots,k b u q⟩
 free:=λ b u q n _=>by rw [am (Nat.ne_of_lt (Nat.lt_of_lt_of_le (Heap.lt_size q) hp))]; exact n
 there:=λ b u q _=>⟨u,k b u q⟩
 tups:=λ b xs q=>by rw [am (au q hn)]; exact q
 frzs:=λ b u xs q=>by rw [am (au q hn)]; exact q
 tbls:=λ b ps q=>⟨#[],by rw [am (au q hn),q]; simp⟩
theorem Un.write (mu:Mut (H x)) (he:e=x\/H e=some (.own x)) (k:∀b u,b≠e->h.get? b=some u->h'.get? b=some u) (heo:∃u,h'.get? e=some u):Un fs ex H (upd H x o) h h':=by
 have hx:∀b,H b=none->b≠x:=λ b n z=>by subst z; rw [n] at mu; exact mu
 have hb:∀b,H b=none->b≠e:=λ b n z=>by
  subst z
  rcases he with r | r
  ·exact hx b n r
  ·rw [n] at r; cases r
 have hm:∀b u,H b=some u->¬ Mut (some u)->b≠x:=λ b u q nm z=>by subst z; rw [q] at mu; exact nm mu
 refine ⟨λ b u q n _ _=>k b u (hb b n) q,λ b u q n _ _=>⟨u.slots,k b u (hb b n) q⟩,λ b u q n _=>by rw [am (hx b n)]; exact n,λ b u q _=>?_,
  λ b xs q=>by rw [am (hm b _ q λ z=>z)]; exact q,λ b u xs q=>by rw [am (hm b _ q λ z=>z)]; exact q,λ b ps q=>⟨#[],by rw [am (hm b _ q λ z=>z),q]; simp⟩⟩
 by_cases hbe:b=e
 ·subst hbe; exact heo
 ·exact ⟨u,k b u hbe q⟩
end
def trk (h:Heap) (H:Hp):List Addr:=(List.range h.objs.size).filter λ a=>(H a).isSome
def iS (h:Heap) (H:Hp):Heap:=PySem.W.hideAll h (trk h H)
theorem mZ (h:Heap) (H:Hp):(iS h H).objs.size=h.objs.size:=PySem.W.hideAll_size _ _
theorem pT {h:Heap} {H:Hp} {b:Addr} {o:Obj} (e:h.get? b=some o) (n:H b=none):(iS h H).get? b=some o :=
 PySem.W.hideAll_get _ e λ hm=>by
  have q:(H b).isSome=true:=(List.mem_filter.mp hm).2
  rw [n] at q; simp at q
theorem sE {h:Heap} {H:Hp} {b:Addr} {o:Obj} (e:(iS h H).get? b=some o):h.get? b=some o/\H b=none:=by
 have e':h.get? b=some o:=PySem.W.of_hideAll (trk h H) e
 refine ⟨e',?_⟩
 cases q:H b with
 | none=>rfl
 | some x =>
  have hm:b∈trk h H:=List.mem_filter.mpr ⟨List.mem_range.mpr (Heap.lt_size e'),by simp [q]⟩
  have z:(iS h H).get? b=none:=PySem.W.hideAll_none (trk h H) hm
  rw [z] at e; cases e
def sG (g h:Heap) (L:Addr):List (Addr×Obj):=(List.range h.objs.size).filterMap λ a=>if a=L\/(g.get? a).isSome=true then none else (h.get? a).map λ o=>(a,o)
def rest (g h:Heap) (L d:Addr):List (Addr×Obj):=(sG g h L).filter λ p=>decide (p.1≠d)
end L2
namespace L2
open PySem PySem.Spec PyProof.Rows
structure Mod (K:PySem.W.Frag) (mg:Str->Option Value) (base:Heap):Prop where
 kin:K.In base
 glob:base.Ns mainGlobals mg
 blt:∃mb,base.Ns builtinsNs mb/\∀x:Str,x ≠ "__name__" -> mb x=bootBuiltins x
 nolimit:base.NoLimit
/-- the context: a def's body (or a comprehension's block) running. base: fixed through the aV law; s₀,H₀: the entry; outer: the frames whose slots others may change (a def's callers); stack: all frames that run;
   ex: iterators that were made ahead of the entry and are walked here (a comprehension's); fn: the names whose cells were made at the entry (a def: all; a comprehension's block: its own); calm: not within an except suite; pn: pins that every state bears; xe: what is wanted of an exception that leaves the code -/
structure Cx where
 prog:Program
 w:World
 K:PySem.W.Frag
 mg:Str->Option Value
 base:Heap
 A:Around
 N:List Str
 s₀:Shared
 H₀:Hp
 env:Env
 outer:List Env
 stack:List Env
 ex:List Addr
 fn:Str->Bool
 calm:Bool
 pn:List (Addr×Obj)
 xe:Value->Shared->Prop
def frs (l:List Env):List Addr:=l.filterMap (·.frame)
abbrev Cx.fs (X:Cx):List Addr:=frs X.outer
def Vis (sc:Scope) (x:Str):Prop:=sc.names.lookup x=some .local\/sc.names.lookup x=some .cell\/sc.names.lookup x=some .free
def Loc (sc:Scope) (x:Str):Prop:=sc.names.lookup x=some .local\/sc.names.lookup x=some .cell
def FJ (env:Env) (h:Heap) (m:Str->Option Value) (x:Str) (u:Value):Prop :=
 (env.kindOf x=some .local/\m x=some u)\/((env.kindOf x=some .cell\/env.kindOf x=some .free)/\∃c,env.cells.lookup x=some c/\h.IsCell c (some u))
structure Cx.Ok (X:Cx):Prop where
 mod:Mod X.K X.mg X.base
 kind:X.env.scope.kind=.function
 glob:X.env.globals=mainGlobals
 blt:X.env.builtins=builtinsNs
 above:X.s₀.heap.objs.size<=X.env.locals
 inj:∀x y c,X.env.cells.lookup x=some c->X.env.cells.lookup y=some c->x=y
 has:∀x,(X.env.kindOf x=some .cell\/X.env.kindOf x=some .free)->∃c,X.env.cells.lookup x=some c
 cab:∀x c,X.fn x=true->X.env.cells.lookup x=some c->X.s₀.heap.objs.size<=c
 hd:X.calm=true->X.A.handled=none
 frames:X.A.frames=some X.stack
 stk:X.stack=X.outer\/(X.stack=X.env :: X.outer/\X.env.frame=some X.env.locals)
 exf:∀b∈X.ex,b≠X.env.locals/\∀x c,X.env.cells.lookup x=some c->c≠b
 bs:∀b o,X.base.get? b=some o->X.s₀.heap.get? b=some o/\X.H₀ b=none
 bsz:X.base.objs.size<=X.s₀.heap.objs.size
 noex:∀b o,X.base.get? b=some o->b∉X.ex
 exfs:∀b∈X.ex,b∉X.fs
 funs:X.s₀.heap.FunFrames X.base X.outer
 frf:∀b∈X.fs,X.H₀ b=none
structure Inv (X:Cx) (pins:List (Addr×Obj)) (σ:List (Option V)) (H:Hp) (s:Shared):Prop where
 ok:X.Ok
 os:s.os=X.s₀.os
 bare:AllBare s.gens
 base:Un X.fs X.ex X.H₀ H X.s₀.heap s.heap
 loc:∃m,s.heap.Ns X.env.locals m/\∀ (i:Nat) (x:Str) (v:V),X.N[i]? = some x->σ[i]? = some (some v)->Vis X.env.scope x->∃u,RelV v u/\FJ X.env s.heap m x u
 cell:∀x c,X.env.cells.lookup x=some c->∃v,s.heap.IsCell c v
 free:H X.env.locals=none
 freeC:∀x c,X.env.cells.lookup x=some c->H c=none
 pin:∀p∈X.pn ++ pins,s.heap.get? p.1=some p.2/\H p.1=none/\p.1≠X.env.locals/\p.1∉X.fs/\∀v,p.2.data≠.cell v
 hok:HOk X.prog X.w H s.heap
 len:σ.length=X.N.length
section
variable {X:Cx} {pins:List (Addr×Obj)} {σ:List (Option V)} {H H':Hp} {s:Shared} {h':Heap}
theorem Cx.Ok.nofr (ok:X.Ok) {b:Addr} {o:Obj} (e:X.base.get? b=some o):b∉X.fs:=λ hb=>by
 have:=(ok.funs.mem hb).1
 rw [e] at this; cases this
theorem Inv.bs (I:Inv X pins σ H s):∀b o,X.base.get? b=some o->s.heap.get? b=some o/\H b=none:=λ b o e =>
 ⟨I.base.keep b o (I.ok.bs b o e).1 (I.ok.bs b o e).2 (I.ok.nofr e) (I.ok.noex b o e),I.base.free b o (I.ok.bs b o e).1 (I.ok.bs b o e).2 (I.ok.noex b o e)⟩
theorem Inv.bk (I:Inv X pins σ H s):∀b o,X.base.get? b=some o->s.heap.get? b=some o:=λ b o e=>(I.bs b o e).1
theorem Inv.mod (I:Inv X pins σ H s):Mod X.K X.mg X.base:=I.ok.mod
theorem Inv.kIn (I:Inv X pins σ H s):X.K.In s.heap:=I.ok.mod.kin.keeps I.bk
theorem Inv.fr (I:Inv X pins σ H s):∃m,Fr X.base X.env.locals s.heap m :=
 let ⟨m,hn,_⟩:=I.loc
 ⟨m,hn,I.bk,Nat.le_trans I.ok.bsz I.ok.above⟩
theorem Inv.lt (I:Inv X pins σ H s):X.env.locals < s.heap.objs.size:=let ⟨_,hn,_⟩:=I.loc; hn.lt
theorem Inv.sz (I:Inv X pins σ H s):X.s₀.heap.objs.size<=s.heap.objs.size:=Nat.le_trans I.ok.above (Nat.le_of_lt I.lt)
theorem Inv.nofs (I:Inv X pins σ H s) {a:Addr} (h:s.heap.objs.size<=a):a∉X.fs:=λ hb=>by
 obtain ⟨_,o,ho,_⟩:=I.ok.funs.mem hb
 exact absurd (Nat.lt_of_lt_of_le (Heap.lt_size ho) (Nat.le_trans I.sz h)) (Nat.lt_irrefl _)
theorem Inv.cne (I:Inv X pins σ H s):∀x c,X.env.cells.lookup x=some c->c≠X.env.locals:=λ x c e z=>by
 obtain ⟨v,o,ho,hd⟩:=I.cell x c e
 obtain ⟨m,⟨o',es,ep,ho',hd',_⟩,_⟩:=I.loc
 rw [z,ho'] at ho; cases ho; rw [hd'] at hd; cases hd
theorem Inv.funs (I:Inv X pins σ H s):s.heap.FunFrames X.base X.outer:=by
 have all:∀ (l:List Env),(∀b∈frs l,b∈X.fs)->X.s₀.heap.FunFrames X.base l->s.heap.FunFrames X.base l:=by
  intro l
  induction l with
  | nil=>intro _ _; trivial
  | cons env r ih =>
   intro hs hl
   obtain ⟨hk,⟨L,o,hf,hn,ho,hd⟩,hr⟩:=hl
   have hL:L∈X.fs:=hs L (by unfold frs; rw [List.filterMap_cons,hf]; exact List.mem_cons_self)
   obtain ⟨sl,e⟩:=I.base.slot L o ho (I.ok.frf L hL) hL λ z=>I.ok.exfs L z hL
   exact ⟨hk,⟨L,_,hf,hn,e,hd⟩,ih (λ b hb=>hs b (by unfold frs; rw [List.filterMap_cons,hf]; exact List.mem_cons_of_mem _ hb)) hr⟩
 exact all X.outer (λ _ hb=>hb) I.ok.funs
theorem Inv.stack (I:Inv X pins σ H s):s.heap.FunFrames X.base X.stack:=by
 rcases I.ok.stk with e | ⟨e,hf⟩
 ·rw [e]; exact I.funs
 ·rw [e]
  obtain ⟨m,hn,_⟩:=I.loc
  refine .cons (by rw [I.ok.kind]; decide) hf hn ?_ I.funs
  exact Heap.get?_none_of_le (Nat.le_trans I.ok.bsz I.ok.above)
theorem Inv.stkSub (I:Inv X pins σ H s):∀b∈frs X.stack,b∈X.env.locals :: X.fs:=λ b hb=>by
 rcases I.ok.stk with e | ⟨e,hf⟩
 ·rw [e] at hb; exact List.mem_cons_of_mem _ hb
 ·rw [e] at hb
  unfold frs at hb
  rw [List.filterMap_cons,hf] at hb
  exact hb
theorem Inv.stkFree (I:Inv X pins σ H s):∀b∈frs X.stack,H b=none:=λ b hb=>by
 rcases List.mem_cons.mp (I.stkSub b hb) with e | hb
 ·rw [e]; exact I.free
 ·obtain ⟨_,o,ho,_⟩:=I.ok.funs.mem hb
  exact I.base.free b o ho (I.ok.frf b hb) λ z=>I.ok.exfs b z hb
theorem Inv.step {g':Array GenState} {t':Nat} {d':Drawn} {ch:List Addr} (I:Inv X pins σ H s)
  (hch:∀b∈ch,(b∈X.ex\/X.s₀.heap.objs.size<=b)/\b≠X.env.locals/\(∀x c,X.env.cells.lookup x=some c->c≠b)/\∀p∈X.pn ++ pins,p.1≠b)
  (keep:∀b o,b≠X.env.locals->b∉X.fs->b∉ch->s.heap.get? b=some o->H b=none->h'.get? b=some o)
  (slot:∀b o,b≠X.env.locals->b∈X.fs->b∉ch->s.heap.get? b=some o->H b=none->∃sl,h'.get? b=some { o with slots:=sl }) (free:∀b o,b∉ch->s.heap.get? b=some o->H b=none->H' b=none)
  (there:∀b o,b∉ch->s.heap.get? b=some o->∃o',h'.get? b=some o')
  (tups:∀b xs,H b=some (.tup xs)->H' b=some (.tup xs)) (frzs:∀b o u,H b=some (.frz o u)->H' b=some (.frz o u)) (tbls:∀b ps,H b=some (.tbl ps)->∃more,H' b=some (.tbl (ps ++ more)))
  (ns:∀m,s.heap.Ns X.env.locals m->h'.Ns X.env.locals m) (hok:HOk X.prog X.w H' h') (hg:AllBare g') :
  Inv X pins σ H' { s with heap:=h',gens:=g',drawn:=d',toks:=t' }:=by
 have neL:∀b o,X.s₀.heap.get? b=some o->b≠X.env.locals:=λ b o e=>Nat.ne_of_lt (Nat.lt_of_lt_of_le (Heap.lt_size e) I.ok.above)
 have neC:∀b o,X.s₀.heap.get? b=some o->b∉X.ex->b∉ch:=λ b o e hx hb=>by
  rcases (hch b hb).1 with z | z
  ·exact hx z
  ·exact absurd (Nat.lt_of_lt_of_le (Heap.lt_size e) z) (Nat.lt_irrefl _)
 have cellK:∀x c,X.env.cells.lookup x=some c->∀v,s.heap.IsCell c v->h'.IsCell c v:=λ x c e v ⟨o,ho,hd⟩=>by
  have nch:c∉ch:=λ z=>(hch c z).2.2.1 x c e rfl
  by_cases hc:c∈X.fs
  ·obtain ⟨sl,q⟩:=slot c o (I.cne x c e) hc nch ho (I.freeC x c e)
   exact ⟨_,q,hd⟩
  ·exact ⟨o,keep c o (I.cne x c e) hc nch ho (I.freeC x c e),hd⟩
 refine ⟨I.ok,I.os,hg,⟨λ b o e n hb hx=>?_,λ b o e n hb hx=>?_,λ b o e n hx=>?_,λ b o e hx=>?_,λ b xs e=>tups b xs (I.base.tups b xs e),λ b o xs e=>frzs b o xs (I.base.frzs b o xs e),λ b ps e=>?_⟩,?_,λ x c e=>?_,?_,λ x c e=>?_,λ p hp=>?_,hok,I.len⟩
 ·exact keep b o (neL b o e) hb (neC b o e hx) (I.base.keep b o e n hb hx) (I.base.free b o e n hx)
 ·obtain ⟨sl,e1⟩:=I.base.slot b o e n hb hx
  obtain ⟨sl',e2⟩:=slot b _ (neL b o e) hb (neC b o e hx) e1 (I.base.free b o e n hx)
  exact ⟨sl',e2⟩
 ·obtain ⟨o',e1⟩:=I.base.there b o e hx
  exact free b o' (neC b o e hx) e1 (I.base.free b o e n hx)
 ·obtain ⟨o',e1⟩:=I.base.there b o e hx
  exact there b o' (neC b o e hx) e1
 ·obtain ⟨m1,e1⟩:=I.base.tbls b ps e
  obtain ⟨m2,e2⟩:=tbls b _ e1
  exact ⟨m1 ++ m2,by rw [e2,Array.append_assoc]⟩
 ·obtain ⟨m,hn,hl⟩:=I.loc
  refine ⟨m,ns m hn,λ i x v e1 e2 e3=>?_⟩
  obtain ⟨u,r,l⟩:=hl i x v e1 e2 e3
  refine ⟨u,r,?_⟩
  rcases l with l | ⟨k,c,e,z⟩
  ·exact .inl l
  ·exact .inr ⟨k,c,e,cellK x c e _ z⟩
 ·obtain ⟨v,z⟩:=I.cell x c e
  exact ⟨v,cellK x c e v z⟩
 ·obtain ⟨m,⟨o,_,_,ho,_⟩,_⟩:=I.loc
  exact free _ o (λ z=>(hch _ z).2.1 rfl) ho I.free
 ·obtain ⟨v,o,ho,hd⟩:=I.cell x c e
  exact free c o (λ z=>(hch c z).2.2.1 x c e rfl) ho (I.freeC x c e)
 ·obtain ⟨e,n,ne,nf,d⟩:=I.pin p hp
  have nch:p.1∉ch:=λ z=>(hch p.1 z).2.2.2 p hp rfl
  exact ⟨keep p.1 p.2 ne nf nch e n,free p.1 p.2 nch e n,ne,nf,d⟩
theorem Inv.un {t':Nat} (I:Inv X pins σ H s) (u:Un X.fs [] H H' s.heap h') (hok:HOk X.prog X.w H' h'):Inv X pins σ H' { s with heap:=h',toks:=t' }:=by
 obtain ⟨m,⟨o,es,ep,ho,r⟩,_⟩:=id I.loc
 obtain ⟨sl,hL⟩:=u.any ho I.free (by simp)
 exact I.step (g':=s.gens) (d':=s.drawn) (ch:=[]) (λ _ z=>nomatch z) (λ b o _ hb _ e n=>u.keep b o e n hb (by simp)) (λ b o _ hb _ e n=>u.slot b o e n hb (by simp)) (λ b o _ e n=>u.free b o e n (by simp)) (λ b o _ e=>u.there b o e (by simp)) u.tups u.frzs u.tbls (λ m' hm=>by
  obtain ⟨o',es',ep',ho',r'⟩:=hm
  rw [ho] at ho'; cases ho'
  exact ⟨_,es',ep',hL,r'⟩) hok I.bare
theorem Inv.call {g':Array GenState} {t':Nat} {d':Drawn} {ch:List Addr} (I:Inv X pins σ H s) (u:Un (frs X.stack) ch H H' s.heap h') (hok:HOk X.prog X.w H' h') (hg:AllBare g')
  (hch:∀b∈ch,(b∈X.ex\/X.s₀.heap.objs.size<=b)/\b≠X.env.locals/\(∀x c,X.env.cells.lookup x=some c->c≠b)/\∀p∈X.pn ++ pins,p.1≠b) :
  Inv X pins σ H' { s with heap:=h',gens:=g',drawn:=d',toks:=t' }:=by
 obtain ⟨m,⟨o,es,ep,ho,r⟩,_⟩:=id I.loc
 obtain ⟨sl,hL⟩:=u.any ho I.free λ z=>(hch _ z).2.1 rfl
 exact I.step (ch:=ch) hch (λ b o hL hb hc e n=>u.keep b o e n (λ z=>(List.mem_cons.mp (I.stkSub b z)).elim hL hb) hc) (λ b o _ _ hc e n=>u.any e n hc) (λ b o hc e n=>u.free b o e n hc) (λ b o hc e=>u.there b o e hc) u.tups u.frzs u.tbls (λ m' hm=>by
  obtain ⟨o',es',ep',ho',r'⟩:=hm
  rw [ho] at ho'; cases ho'
  exact ⟨_,es',ep',hL,r'⟩) hok hg
theorem Inv.turned {t':Nat} {it:Addr} (I:Inv X pins σ H s) (k:∀b o,b≠it->s.heap.get? b=some o->h'.get? b=some o) (hn:H it=none) (hL:it≠X.env.locals)
  (h1:it∈X.ex\/X.s₀.heap.objs.size<=it) (h2:∀x c,X.env.cells.lookup x=some c->c≠it) (h3:∀p∈X.pn ++ pins,p.1≠it):Inv X pins σ H { s with heap:=h',toks:=t' }:=by
 have nit:∀b u,H b=some u->b≠it:=λ b u e z=>by rw [z,hn] at e; cases e
 refine I.step (g':=s.gens) (d':=s.drawn) (ch:=[it]) (λ b hb=>?_) (λ b o _ _ hc e _=>k b o (λ z=>hc (by simp [z])) e) (λ b o _ _ hc e _=>⟨o.slots,k b o (λ z=>hc (by simp [z])) e⟩) (λ _ _ _ _ n=>n)
  (λ b o hc e=>⟨o,k b o (λ z=>hc (by simp [z])) e⟩) (λ _ _ e=>e) (λ _ _ _ e=>e) (λ b ps e=>⟨#[],by rw [e]; simp⟩) (λ m hm=>?_) (λ b u e=>?_) I.bare
 ·have e:b=it:=by simpa using hb
  subst e
  exact ⟨h1,hL,h2,h3⟩
 ·obtain ⟨o,es,ep,ho,r⟩:=hm
  exact ⟨o,es,ep,k _ o (Ne.symm hL) ho,r⟩
 ·refine (I.hok b u e).stay (λ c v hc q=>k c v ?_ q) (λ _ q=>q) λ _ _ q=>q
  rcases hc with z | z
  ·rw [z]; exact nit b u e
  ·exact nit c _ z
theorem Inv.tok (I:Inv X pins σ H s) (t:Nat):Inv X pins σ H { s with toks:=t }:=I.un (h':=s.heap) (t':=t) Un.refl I.hok
theorem Inv.kept {t':Nat} (I:Inv X pins σ H s) (k:∀b u,s.heap.get? b=some u->h'.get? b=some u):Inv X pins σ H { s with heap:=h',toks:=t' }:=I.un (Un.kept k) (I.hok.kept k)
theorem Inv.laid {a:Addr} {o:HO} {t':Nat} (I:Inv X pins σ H s) (k:∀b u,s.heap.get? b=some u->h'.get? b=some u) (hp:s.heap.objs.size<=a) (new:ObjOk X.prog X.w (upd H a o) h' a o) :
  Inv X pins σ (upd H a o) { s with heap:=h',toks:=t' }:=I.un (Un.laid k hp (I.hok.fresh hp)) (I.hok.laid k hp new)
theorem Inv.write {x e:Addr} {o:HO} {t':Nat} (I:Inv X pins σ H s) (mu:Mut (H x)) (he:e=x\/H e=some (.own x)) (k:∀b u,b≠e->s.heap.get? b=some u->h'.get? b=some u) (heo:∃u,h'.get? e=some u)
  (new:ObjOk X.prog X.w (upd H x o) h' x o):Inv X pins σ (upd H x o) { s with heap:=h',toks:=t' }:=I.un (Un.write mu he k heo) (I.hok.write mu he k heo new)
theorem Inv.weak {σ':List (Option V)} (I:Inv X pins σ H s) (hl:σ'.length=σ.length) (w:∀ (i:Nat) v,σ'[i]? = some (some v)->σ[i]? = some (some v)):Inv X pins σ' H s :=
 ⟨I.ok,I.os,I.bare,I.base,let ⟨m,hn,hl'⟩:=I.loc; ⟨m,hn,λ i x v e1 e2 e3=>hl' i x v e1 (w i v e2) e3⟩,I.cell,I.free,I.freeC,I.pin,I.hok,hl.trans I.len⟩
theorem Inv.pins_of {pins':List (Addr×Obj)} (I:Inv X pins σ H s) (h:∀p∈pins',s.heap.get? p.1=some p.2/\H p.1=none/\p.1≠X.env.locals/\p.1∉X.fs/\∀v,p.2.data≠.cell v):Inv X pins' σ H s :=
 ⟨I.ok,I.os,I.bare,I.base,I.loc,I.cell,I.free,I.freeC,λ p hp=>(List.mem_append.mp hp).elim (λ z=>I.pin p (List.mem_append_left _ z)) (h p),I.hok,I.len⟩
theorem jF {N:List Str} (hN:N.Nodup) {i j:Nat} {x:Str} (a:N[i]? = some x) (b:N[j]? = some x):i=j:=by
 obtain ⟨h1,e1⟩:=List.getElem?_eq_some_iff.mp a
 obtain ⟨h2,e2⟩:=List.getElem?_eq_some_iff.mp b
 exact (List.getElem_inj hN).mp (e1.trans e2.symm)
theorem iu {M:Model} {A:Around} {E:Value->Shared->Prop} {i:Nat} {x:Str} {v:V} {u:Value} {Q:Unit->Shared->Prop} (I:Inv X pins σ H s) (hN:X.N.Nodup) (hi:X.N[i]? = some x) (hx:Loc X.env.scope x) (r:RelV v u)
  (h:∀s',Inv X pins (σ.set i (some v)) H s'->(∃a,Heap.SameBut a s.heap s'.heap/\(a=X.env.locals\/X.env.cells.lookup x=some a))->Q () s') (hf:X.fn x=true\/X.env.scope.names.lookup x=some .local:=by first | exact .inl rfl | exact .inr rfl | assumption):wpAny M A (storeName X.env x u) Q E s:=by
 obtain ⟨m,hn,hl⟩:=id I.loc
 have hcls:(X.env.scope.kind == .class || (X.env.scope.kind == .module && X.env.locals != X.env.globals))=false:=by rw [I.ok.kind]; rfl
 have hiσ:i < σ.length:=by rw [I.len]; exact (List.getElem?_eq_some_iff.mp hi).1
 have cne:=I.cne
 have tracked:∀ {a:Addr} {h':Heap},(∃o,s.heap.get? a=some o/\H a=none)->Heap.SameBut a s.heap h'->HOk X.prog X.w H h':=λ {a h'} ha hs b ob e=>by
  obtain ⟨_,_,hfree⟩:=ha
  refine (I.hok b ob e).stay (λ c w' hc q=>(hs.2 c ?_).trans q) (λ _ q=>q) λ _ _ q=>q
  rintro rfl
  rcases hc with rfl | hc
  ·rw [hfree] at e; cases e
  ·rw [hfree] at hc; cases hc
 rcases hx with hk | hk
 ·refine wpAny_storeName_local hk hn (λ h' hn' hs=>?_) hcls
  obtain ⟨oL,_,_,hoL,_⟩:=id hn
  refine h _ ⟨I.ok,I.os,I.bare,⟨λ b o e n hb hx=>?_,λ b o e n hb hx=>?_,I.base.free,λ b o e hx=>?_,I.base.tups,I.base.frzs,I.base.tbls⟩,⟨_,hn',λ j y v' e1 e2 e3=>?_⟩,λ y c e=>?_,I.free,I.freeC,λ p hp=>?_,tracked ⟨oL,hoL,I.free⟩ hs,by simpa using I.len⟩ ⟨_,hs,.inl rfl⟩
  ·exact (hs.2 b (Nat.ne_of_lt (Nat.lt_of_lt_of_le (Heap.lt_size e) I.ok.above))).trans (I.base.keep b o e n hb hx)
  ·obtain ⟨sl,e1⟩:=I.base.slot b o e n hb hx
   exact ⟨sl,(hs.2 b (Nat.ne_of_lt (Nat.lt_of_lt_of_le (Heap.lt_size e) I.ok.above))).trans e1⟩
  ·obtain ⟨o',e1⟩:=I.base.there b o e hx
   exact ⟨o',(hs.2 b (Nat.ne_of_lt (Nat.lt_of_lt_of_le (Heap.lt_size e) I.ok.above))).trans e1⟩
  ·by_cases hj:j=i
   ·subst hj
    rw [hi] at e1; cases e1
    rw [List.getElem?_set_self hiσ] at e2
    cases e2
    exact ⟨u,r,.inl ⟨hk,by simp⟩⟩
   ·rw [List.getElem?_set_ne (Ne.symm hj)] at e2
    obtain ⟨u',r',q⟩:=hl j y v' e1 e2 e3
    refine ⟨u',r',?_⟩
    rcases q with ⟨k,e⟩ | ⟨k,c,e,z⟩
    ·refine .inl ⟨k,?_⟩
     have:y≠x:=λ e=>hj (jF hN e1 (e ▸ hi))
     simp [this,e]
    ·exact .inr ⟨k,c,e,z.sameBut hs (cne y c e)⟩
  ·obtain ⟨w',z⟩:=I.cell y c e
   exact ⟨w',z.sameBut hs (cne y c e)⟩
  ·obtain ⟨e,n,ne,nf,d⟩:=I.pin p hp
   exact ⟨(hs.2 p.1 ne).trans e,n,ne,nf,d⟩
 ·have hfn:X.fn x=true:=by
   rcases hf with z | z
   ·exact z
   ·rw [z] at hk; cases hk
  obtain ⟨c,hc⟩:=I.ok.has x (.inl hk)
  obtain ⟨w',z⟩:=I.cell x c hc
  refine wpAny_storeName_cell I.ok.kind hk hc z (λ h' hc' hs=>?_)
  obtain ⟨oc,hoc,hocd⟩:=id z
  refine h { s with heap:=h' } ⟨I.ok,I.os,I.bare,⟨λ b o e n hb hx=>?_,λ b o e n hb hx=>?_,I.base.free,λ b o e hx=>?_,I.base.tups,I.base.frzs,I.base.tbls⟩,⟨m,hn.sameBut hs (Ne.symm (cne x c hc)),λ j y v' e1 e2 e3=>?_⟩,λ y c' e=>?_,I.free,I.freeC,λ p hp=>?_,tracked ⟨oc,hoc,I.freeC x c hc⟩ hs,by simpa using I.len⟩ ⟨c,hs,.inr hc⟩
  ·exact (hs.2 b (Nat.ne_of_lt (Nat.lt_of_lt_of_le (Heap.lt_size e) (I.ok.cab x c hfn hc)))).trans (I.base.keep b o e n hb hx)
  ·obtain ⟨sl,e1⟩:=I.base.slot b o e n hb hx
   exact ⟨sl,(hs.2 b (Nat.ne_of_lt (Nat.lt_of_lt_of_le (Heap.lt_size e) (I.ok.cab x c hfn hc)))).trans e1⟩
  ·obtain ⟨o',e1⟩:=I.base.there b o e hx
   exact ⟨o',(hs.2 b (Nat.ne_of_lt (Nat.lt_of_lt_of_le (Heap.lt_size e) (I.ok.cab x c hfn hc)))).trans e1⟩
  ·by_cases hj:j=i
   ·subst hj
    rw [hi] at e1; cases e1
    rw [List.getElem?_set_self hiσ] at e2
    cases e2
    exact ⟨u,r,.inr ⟨.inl hk,c,hc,hc'⟩⟩
   ·rw [List.getElem?_set_ne (Ne.symm hj)] at e2
    obtain ⟨u',r',q⟩:=hl j y v' e1 e2 e3
    refine ⟨u',r',?_⟩
    rcases q with q | ⟨k,c',e,z'⟩
    ·exact .inl q
    ·refine .inr ⟨k,c',e,z'.sameBut hs ?_⟩
     rintro rfl
     exact hj (jF hN e1 (I.ok.inj _ _ _ e hc ▸ hi))
  ·by_cases hcc:c'=c
   ·subst hcc; exact ⟨_,hc'⟩
   ·obtain ⟨w2,z2⟩:=I.cell y c' e
    exact ⟨w2,z2.sameBut hs hcc⟩
  ·obtain ⟨e,n,ne,nf,d⟩:=I.pin p hp
   refine ⟨(hs.2 p.1 ?_).trans e,n,ne,nf,d⟩
   intro q
   rw [q,hoc] at e
   have q':oc=p.2:=Option.some.inj e
   exact d w' (by rw [<- q']; exact hocd)
theorem bW {M:Model} {A:Around} {E:Value->Shared->Prop} {i:Nat} {x:Str} {v:V} {u:Value} {Q:Unit->Shared->Prop} (I:Inv X pins σ H s) (hN:X.N.Nodup) (hi:X.N[i]? = some x) (hx:Loc X.env.scope x) (r:RelV v u)
  (h:∀s',Inv X pins (σ.set i (some v)) H s'->Q () s') (hf:X.fn x=true\/X.env.scope.names.lookup x=some .local:=by first | exact .inl rfl | exact .inr rfl | assumption):wpAny M A (storeName X.env x u) Q E s :=
 iu I hN hi hx r (λ s' I' _=>h s' I') hf
theorem Inv.call' {s':Shared} {ch:List Addr} (I:Inv X pins σ H s) (ho:s'.os=s.os) (u:Un (frs X.stack) ch H H' s.heap s'.heap) (hok:HOk X.prog X.w H' s'.heap) (hg:AllBare s'.gens)
  (hch:∀b∈ch,(b∈X.ex\/X.s₀.heap.objs.size<=b)/\b≠X.env.locals/\(∀x c,X.env.cells.lookup x=some c->c≠b)/\∀p∈X.pn ++ pins,p.1≠b):Inv X pins σ H' s':=by
 obtain ⟨h',g',d',t',o'⟩:=s'
 have e:o'=s.os:=ho
 subst e
 exact I.call (g':=g') (t':=t') (d':=d') u hok hg hch
end
abbrev XK:=Value->Option Addr->Hp->Prop
abbrev St:=List (Option V)
abbrev VK:=V->Hp->Prop
abbrev TE:=St->Hp->VK->Prop
abbrev TT:=St->Hp->(Bool->Hp->Prop)->Prop
abbrev TA:=St->Hp->(List V->Hp->Prop)->Prop
structure Ends where
 nx:St->Hp->Prop
 rt:VK
 bk:St->Hp->Prop:=λ _ _=>False
 ct:St->Hp->Prop:=λ _ _=>False
abbrev TS:=Ends->St->Hp->Prop
def EP (X:Cx) (pins:List (Addr×Obj)) (σ:St) (Q:VK) (u:Value) (s':Shared):Prop:=∃v H',Inv X pins σ H' s'/\RelV v u/\Q v H'
def TP (X:Cx) (pins:List (Addr×Obj)) (σ:St) (Q:Bool->Hp->Prop) (b:Bool) (s':Shared):Prop:=∃H',Inv X pins σ H' s'/\Q b H'
def AP (X:Cx) (pins:List (Addr×Obj)) (σ:St) (Q:List V->Hp->Prop) (us:List Value) (s':Shared):Prop:=∃vs H',Inv X pins σ H' s'/\Vals vs us/\Q vs H'
def SP (X:Cx) (pins:List (Addr×Obj)) (D:Ends) (f:Flow) (s':Shared):Prop :=
 match f with
 | .next=>∃σ' H',Inv X pins σ' H' s'/\D.nx σ' H'
 | .brk=>∃σ' H',Inv X pins σ' H' s'/\D.bk σ' H'
 | .cont=>∃σ' H',Inv X pins σ' H' s'/\D.ct σ' H'
 | .ret u=>∃v σ' H',Inv X pins σ' H' s'/\RelV v u/\D.rt v H'
def PE (X:Cx) (e:Expr) (t:TE):Prop :=
 ∀ (pins:List (Addr×Obj)) (s:Shared) (σ:St) (H:Hp) (Q:VK),Inv X pins σ H s->t σ H Q->wpAny (model X.prog X.w) X.A (eval e X.env) (EP X pins σ Q) X.xe s
def PT (X:Cx) (e:Expr) (t:TT):Prop :=
 ∀ (pins:List (Addr×Obj)) (s:Shared) (σ:St) (H:Hp) (Q:Bool->Hp->Prop),Inv X pins σ H s->t σ H Q->wpAny (model X.prog X.w) X.A (isTrue e X.env (eval e X.env)) (TP X pins σ Q) X.xe s
def PW (X:Cx) (e:Expr) (t:TT):Prop :=
 ∀ (aV:Sem Value) (pins:List (Addr×Obj)) (s:Shared) (σ:St) (H:Hp) (Q:Bool->Hp->Prop),Inv X pins σ H s->t σ H Q->wpAny (model X.prog X.w) X.A (isTrue e X.env aV) (TP X pins σ Q) X.xe s
theorem PW.pt {X:Cx} {e:Expr} {t:TT} (h:PW X e t):PT X e t:=h _
def PA (X:Cx) (es:List Expr) (t:TA):Prop :=
 ∀ (pos:Pos) (pins:List (Addr×Obj)) (s:Shared) (σ:St) (H:Hp) (Q:List V->Hp->Prop),Inv X pins σ H s->t σ H Q->wpAny (model X.prog X.w) X.A (spliced (backTo pos (starEach es X.env))) (AP X pins σ Q) X.xe s
def PS (X:Cx) (st:Stmt) (t:TS):Prop :=
 ∀ (pins:List (Addr×Obj)) (s:Shared) (σ:St) (H:Hp) (D:Ends),Inv X pins σ H s->t D σ H->wpAny (model X.prog X.w) X.A (exec st X.env) (SP X pins D) X.xe s
def PSs (X:Cx) (st:List Stmt) (t:TS):Prop :=
 ∀ (pins:List (Addr×Obj)) (s:Shared) (σ:St) (H:Hp) (D:Ends),Inv X pins σ H s->t D σ H->wpAny (model X.prog X.w) X.A (execs st X.env) (SP X pins D) X.xe s
theorem thn {α:Type} {t:Sem α} {Q Q':α->Shared->Prop} {M:Model} {A:Around} {E:Value->Shared->Prop} {s:Shared} (h:wpAny M A t Q E s) (hQ:∀a s,Q a s->Q' a s):wpAny M A t Q' E s:=wpAny_mono h hQ λ _ _ x=>x
end L2
namespace L2
open PySem PySem.Spec PyProof.Rows
section
variable {X:Cx}
theorem bin {a b:Expr} {ta tb:TE} (ha:PE X a ta) (hb:PE X b tb) {pins:List (Addr×Obj)} {s:Shared} {σ:St} {H:Hp} {R:V->V->Hp->Prop} (I:Inv X pins σ H s) (h:ta σ H λ x H1=>tb σ H1 λ y H2=>R x y H2)
  {α:Type} {Q:α->Shared->Prop} {f:Value->Value->Sem α}
  (hf:∀v u s2 x y H2,Inv X pins σ H2 s2->RelV x v->RelV y u->R x y H2->wpAny (model X.prog X.w) X.A (f v u) Q X.xe s2) :
  wpAny (model X.prog X.w) X.A (eval a X.env) (λ v s₁=>wpAny (model X.prog X.w) X.A (eval b X.env) (λ u s₂=>wpAny (model X.prog X.w) X.A (f v u) Q X.xe s₂) X.xe s₁) X.xe s:=by
 refine thn (ha pins s σ H _ I h) λ v s1 ⟨x,H1,I1,r1,q1⟩=>?_
 refine thn (hb pins s1 σ H1 _ I1 q1) λ u s2 ⟨y,H2,I2,r2,q2⟩=>?_
 exact hf v u s2 x y H2 I2 r1 r2 q2
inductive tVar (i:Nat) (σ:St) (H:Hp) (Q:VK):Prop
 | mk (v:V) (e_0:σ[i]? = some (some v)) (e_1:Q v H):tVar i σ H Q
def tC (v:V):TE:=λ _ H Q=>Q v H
theorem ve {i:Nat} {x:Str} {pos:Pos} (hN:X.N[i]? = some x) (hv:Vis X.env.scope x) (hd:(x == ("__debug__" : Str))=false:=by decide) (hcd:(x == ("__classdict__" : Str))=false:=by decide):PE X (.Name x pos) (tVar i):=by
 intro pins s σ H Q I h
 obtain ⟨v,e,h⟩:=h
 obtain ⟨m,hn,hl⟩:=I.loc
 obtain ⟨u,r,l⟩:=hl i x v hN e hv
 have fin:EP X pins σ Q u s:=⟨v,H,I,r,h⟩
 rcases l with ⟨hk,hm⟩ | ⟨hk,c,hc,hcell⟩
 ·exact wpAny_Name (wpAny_loadName_local I.ok.kind hk hn hm fin) hd
 ·rcases hk with hk | hk
  ·exact wpAny_Name (wpAny_loadName_cell I.ok.kind hk hc hcell fin) hd
  ·exact wpAny_Name (wpAny_loadName_free I.ok.kind hk hc hcell fin hcd) hd
theorem ad {i j pos}:PE X (.Constant (.int i) j pos) (tC (.int i)):=λ _ _ _ H _ I h=>wpAny_Constant_int ⟨.int i,H,I.tok _,⟨_,rfl⟩,h⟩
theorem cM {b j pos}:PE X (.Constant (.bool b) j pos) (tC (.bl b)):=λ _ _ _ H _ I h=>Constant_bool ⟨.bl b,H,I,rfl,h⟩
theorem iT {j pos}:PE X (.Constant .none j pos) (tC .non):=λ _ _ _ H _ I h=>Constant_none ⟨.non,H,I,rfl,h⟩
theorem bI {x j pos}:PE X (.Constant (.str x) j pos) (tC (.str x)):=λ _ _ _ H _ I h=>Calls.Constant_str ⟨.str x,H,I.tok _,⟨_,Y⟩,h⟩
def Gl (X:Cx) (x:Str):Prop:=X.env.kindOf x=some .globalImplicit
theorem iU {E:Value->Shared->Prop} {pins:List (Addr×Obj)} {s:Shared} {σ:St} {H:Hp} {x:Str} {u:Value} {pos:Pos} {Q:Value->Shared->Prop} (I:Inv X pins σ H s) (hg:Gl X x) (hm:X.mg x=some u) (h:Q u s)
  (hd:(x == ("__debug__" : Str))=false:=by decide):wpAny (model X.prog X.w) X.A (eval (.Name x pos) X.env) Q E s :=
 Calls.Name_function_global I.ok.kind hg (Calls.loadGlobal_global (by rw [I.ok.glob]; exact I.mod.glob.keeps I.bk) hm h) hd
theorem eG {E:Value->Shared->Prop} {pins:List (Addr×Obj)} {s:Shared} {σ:St} {H:Hp} {x:Str} {u:Value} {pos:Pos} {Q:Value->Shared->Prop} (I:Inv X pins σ H s) (hg:Gl X x) (hm:X.mg x=none) (hv:bootBuiltins x=some u) (h:Q u s)
  (hn:x ≠ "__name__" := by decide) (hd:(x == ("__debug__" : Str))=false:=by decide):wpAny (model X.prog X.w) X.A (eval (.Name x pos) X.env) Q E s:=by
 obtain ⟨mb,h1,h2⟩:=I.mod.blt
 exact Calls.Name_function_global I.ok.kind hg (Calls.loadGlobal_builtin (by rw [I.ok.glob]; exact I.mod.glob.keeps I.bk) hm (by rw [I.ok.blt]; exact h1.keeps I.bk) ((h2 x hn).trans hv) h) hd
theorem aR {x:Str} {v:V} {u:Value} {pos:Pos} (hg:Gl X x) (hm:X.mg x=some u) (r:RelV v u) (hd:(x == ("__debug__" : Str))=false:=by decide):PE X (.Name x pos) (tC v) :=
 λ _ _ _ H _ I h=>iU I hg hm ⟨v,H,I,r,h⟩ hd
theorem dO {x:Str} {v:V} {u:Value} {pos:Pos} (hg:Gl X x) (hm:X.mg x=none) (hv:bootBuiltins x=some u) (r:RelV v u) (hn:x ≠ "__name__" := by decide) (hd:(x == ("__debug__" : Str))=false:=by decide):PE X (.Name x pos) (tC v) :=
 λ _ _ _ H _ I h=>eG I hg hm hv ⟨v,H,I,r,h⟩ hn hd
variable {a b:Expr} {ta tb:TE} {pos:Pos}
def PC (X:Cx) (op:CmpOp) (a b:Expr) (t:TE):Prop :=
 ∀ (pins:List (Addr×Obj)) (s:Shared) (σ:St) (H:Hp) (Q:VK),Inv X pins σ H s->t σ H Q ->
  wpAny (model X.prog X.w) X.A (eval a X.env) (λ v s₁=>wpAny (model X.prog X.w) X.A (eval b X.env) (λ u s₂=>wpAny (model X.prog X.w) X.A (compareOp op v u) (EP X pins σ Q) X.xe s₂) X.xe s₁) X.xe s
inductive IsB (x:V) (Q:Bool->Prop):Prop
 | mk (c:Bool) (e:x=.bl c) (q:Q c):IsB x Q
def tB (t:TE):TT:=λ σ H Q=>t σ H λ x H1=>IsB x λ c=>Q c H1
theorem FK {op:CmpOp} {t:TE} (h:PC X op a b t) (h1:behindInMarks op b=false:=by first | exact nobehind _ (by decide) (by decide) | rfl):PT X (.Compare a [op] [b] pos) (tB t):=by
 intro pins s σ H Q I hw
 refine wpAny_isTrue_Compare1 (thn (h pins s σ H _ I hw) λ v s1 h1=>thn h1 λ u s2 h2=>thn h2 λ c s3 ⟨x,H1,I1,r1,q1⟩=>?_) h1
 obtain ⟨d,rfl,q⟩:=q1
 cases r1
 exact wpAny_truthy_bool ⟨H1,I1,q⟩
theorem aS {e:Expr} {t:TE} (h:PE X e t) (he:∀aV,isTrue e X.env aV=(do let v<-aV; standAt e.pos; holding [v] (truthy v)):=by intro _; rfl):PT X e (tB t):=by
 intro pins s σ H Q I hw
 refine isTrue_plain (thn (h pins s σ H _ I hw) λ v s1 ⟨x,H1,I1,r1,q1⟩=>?_) (he _)
 obtain ⟨d,rfl,q⟩:=q1
 cases r1
 exact wpAny_truthy_bool ⟨H1,I1,q⟩
variable {tA tB':TT} {rest:List Expr}
def FL (t u:TT):TT:=λ σ H Q=>t σ H λ c H1=>if c=true then u σ H1 Q else Q false H1
def tOr (t u:TT):TT:=λ σ H Q=>t σ H λ c H1=>if c=true then Q true H1 else u σ H1 Q
def FM (t:TT):TT:=λ σ H Q=>t σ H λ c H1=>Q (!c) H1
theorem iV (ha:PT X a tA):PW X (.BoolOp .And [a] pos) tA:=by
 intro wh pins s σ H Q I h
 refine isTrue_and (thn (ha pins s σ H Q I h) λ c s1 e=>?_)
 cases c with
 | true=>exact isTrue_and_nil e
 | false=>exact e
theorem cq (ha:PT X a tA):PW X (.BoolOp .Or [a] pos) tA:=by
 intro wh pins s σ H Q I h
 refine isTrue_or (thn (ha pins s σ H Q I h) λ c s1 e=>?_)
 cases c with
 | false=>exact isTrue_or_nil e
 | true=>exact e
theorem kF (ha:PT X a tA) (hb:PW X (.BoolOp .And (b :: rest) pos) tB'):PW X (.BoolOp .And (a :: b :: rest) pos) (FL tA tB'):=by
 intro wh pins s σ H Q I h
 refine isTrue_and (thn (ha pins s σ H _ I h) λ c s1 ⟨H1,I1,q1⟩=>?_)
 cases c with
 | true=>exact hb wh pins s1 σ H1 Q I1 q1
 | false=>exact ⟨H1,I1,q1⟩
theorem bY (ha:PT X a tA) (hb:PW X (.BoolOp .Or (b :: rest) pos) tB'):PW X (.BoolOp .Or (a :: b :: rest) pos) (tOr tA tB'):=by
 intro wh pins s σ H Q I h
 refine isTrue_or (thn (ha pins s σ H _ I h) λ c s1 ⟨H1,I1,q1⟩=>?_)
 cases c with
 | true=>exact ⟨H1,I1,q1⟩
 | false=>exact hb wh pins s1 σ H1 Q I1 q1
theorem bf (ha:PT X a tA):PT X (.UnaryOp .Not a pos) (FM tA):=by
 intro pins s σ H Q I h
 exact isTrue_not (ha pins s σ H (λ c H1=>Q (!c) H1) I h)
def xE (ta tb:TE):TE:=λ σ H Q=>ta σ H λ x H1=>IsB x λ c=>if c=true then tb σ H1 Q else Q (.bl false) H1
def FN (ta tb:TE):TE:=λ σ H Q=>ta σ H λ x H1=>IsB x λ c=>if c=true then Q (.bl true) H1 else tb σ H1 Q
def xF (ta:TE):TE:=λ σ H Q=>ta σ H λ x H1=>IsB x λ c=>Q (.bl (!c)) H1
theorem dw {op} {t:TE} (h:PE X a t):PE X (.BoolOp op [a] pos) t:=λ pins s σ H Q I hw=>BoolOp_one (h pins s σ H Q I hw)
theorem cr (ha:PE X a ta) (hb:PE X (.BoolOp .And (b :: rest) pos) tb):PE X (.BoolOp .And (a :: b :: rest) pos) (xE ta tb):=by
 intro pins s σ H Q I h
 refine BoolOp_and (thn (ha pins s σ H _ I h) λ v s1 ⟨x,H1,I1,r1,q1⟩=>?_)
 obtain ⟨c,rfl,q1⟩:=q1
 cases r1
 refine wpAny_truthy_bool ?_
 cases c with
 | true=>exact hb pins s1 σ H1 Q I1 q1
 | false=>exact ⟨.bl false,H1,I1,Y,q1⟩
theorem xG (ha:PE X a ta) (hb:PE X (.BoolOp .Or (b :: rest) pos) tb):PE X (.BoolOp .Or (a :: b :: rest) pos) (FN ta tb):=by
 intro pins s σ H Q I h
 refine BoolOp_or (thn (ha pins s σ H _ I h) λ v s1 ⟨x,H1,I1,r1,q1⟩=>?_)
 obtain ⟨c,rfl,q1⟩:=q1
 cases r1
 refine wpAny_truthy_bool ?_
 cases c with
 | false=>exact hb pins s1 σ H1 Q I1 q1
 | true=>exact ⟨.bl true,H1,I1,Y,q1⟩
theorem pU (ha:PE X a ta):PE X (.UnaryOp .Not a pos) (xF ta):=by
 intro pins s σ H Q I h
 refine UnaryOp_ (thn (ha pins s σ H _ I h) λ v s1 ⟨x,H1,I1,r1,q1⟩=>?_)
 obtain ⟨c,rfl,q1⟩:=q1
 cases r1
 exact not_of (wpAny_truthy_bool ⟨.bl (!c),H1,I1,rfl,q1⟩)
def tIf (t:TT) (ta tb:TE):TE:=λ σ H Q=>t σ H λ c H1=>if c=true then ta σ H1 Q else tb σ H1 Q
theorem eO {c:Expr} (hc:PT X c tA) (ha:PE X a ta) (hb:PE X b tb):PE X (.IfExp c a b pos) (tIf tA ta tb):=by
 intro pins s σ H Q I h
 refine wpAny_IfExp (thn (hc pins s σ H _ I h) λ d s1 ⟨H1,I1,q1⟩=>?_)
 cases d with
 | true=>exact ha pins s1 σ H1 Q I1 q1
 | false=>exact hb pins s1 σ H1 Q I1 q1
end
end L2
namespace L2
open PySem PySem.Spec PyProof.Rows
def SqL (K:PySem.W.Frag) (H:Hp) (a:Addr) (xs:List V):Prop :=
 Rd H a (.lst xs) \/
  ∃ (o:Obj) (its:Array Value) (n:Nat),K.lookup a=some o/\o.cls=.type "list" /\ o.dict=none/\o.data=.seq its n/\its.size<=sizeLine/\Vals xs its.toList
def SqT (K:PySem.W.Frag) (H:Hp) (a:Addr) (xs:List V):Prop :=
 Rd H a (.tup xs) \/
  ∃ (o:Obj) (its:Array Value) (n:Nat),K.lookup a=some o/\o.cls=.type "tuple" /\ o.data=.seq its n/\its.size<=sizeLine/\Vals xs its.toList
def FO:Value->Option V
 | .none=>some .non
 | .bool b=>some (.bl b)
 | .int i _=>some (.int i)
 | .str x _=>some (.str x)
 | .bytes b _=>some (.byt b)
 | .float b _=>some (.flt b)
 | .ref a=>some (.ref a)
 | .type n=>some (.ty n)
 | _=>none
theorem RelV.abs {x:V} {u:Value} (r:RelV x u):FO u=some x:=by
 cases x with
 | non=>cases r; rfl
 | bl _=>cases r; rfl
 | int _=>obtain ⟨t,rfl⟩:=r; rfl
 | str _=>obtain ⟨t,rfl⟩:=r; rfl
 | byt _=>obtain ⟨t,rfl⟩:=r; rfl
 | flt _=>obtain ⟨t,rfl⟩:=r; rfl
 | ref _=>cases r; rfl
 | ty _=>cases r; rfl
theorem RelV.inj {x y:V} {u:Value} (r:RelV x u) (q:RelV y u):x=y:=Option.some.inj (r.abs.symm.trans q.abs)
theorem Vals.inj:∀ {xs ys:List V} {us:List Value},Vals xs us->Vals ys us->xs=ys
 | _,_,_,.nil,.nil=>rfl
 | _,_,_,.cons r t,.cons r' t'=>by rw [r.inj r',Vals.inj t t']
section
variable {X:Cx} {pins:List (Addr×Obj)} {σ:St} {H:Hp} {s:Shared} {a:Addr} {xs ys:List V}
theorem SqL.of {K:PySem.W.Frag} (h:H a=some (.lst xs)):SqL K H a xs:=.inl (.inl h)
theorem SqT.of {K:PySem.W.Frag} (h:H a=some (.tup xs)):SqT K H a xs:=.inl (.inl h)
theorem Inv.list (I:Inv X pins σ H s) (h:SqL X.K H a xs):∃its:List Value,Vals xs its/\PlainL s.heap a its.toArray/\xs.length<=sizeLine:=by
 rcases h with h | ⟨o,its,n,hk,hc,hd,hs,hz,r⟩
 ·obtain ⟨z,its,n,r,e⟩:=h.ok I.hok
  exact ⟨its,r,⟨_,n,e,Y,Y,Y⟩,z⟩
 ·refine ⟨its.toList,r,⟨o,n,I.kIn a o hk,hc,hd,by simpa using hs⟩,?_⟩
  have e:=r.length
  simp only [Array.length_toList] at e
  omega
theorem Inv.tuple (I:Inv X pins σ H s) (h:SqT X.K H a xs):∃its:List Value,Vals xs its/\IsTup s.heap a its.toArray/\xs.length<=sizeLine:=by
 rcases h with h | ⟨o,its,n,hk,hc,hs,hz,r⟩
 ·obtain ⟨z,its,r,p⟩:=h.ok I.hok
  exact ⟨its,r,p,z⟩
 ·refine ⟨its.toList,r,⟨o,I.kIn a o hk,hc,n,by simpa using hs⟩,?_⟩
  have e:=r.length
  simp only [Array.length_toList] at e
  omega
theorem Inv.list_inj (I:Inv X pins σ H s) (h:SqL X.K H a xs) (h':SqL X.K H a ys):xs=ys:=by
 obtain ⟨its,r,⟨o,n,e,_,_,d⟩,_⟩:=I.list h
 obtain ⟨its',r',⟨o',n',e',_,_,d'⟩,_⟩:=I.list h'
 rw [e] at e'; cases e'
 rw [d] at d'
 injection d' with d1 _
 have:its=its':=by simpa using congrArg Array.toList d1
 subst this
 exact r.inj r'
theorem Inv.tuple_inj (I:Inv X pins σ H s) (h:SqT X.K H a xs) (h':SqT X.K H a ys):xs=ys:=by
 obtain ⟨its,r,⟨o,e,_,n,d⟩,_⟩:=I.tuple h
 obtain ⟨its',r',⟨o',e',_,n',d'⟩,_⟩:=I.tuple h'
 rw [e] at e'; cases e'
 rw [d] at d'
 injection d' with d1 _
 have:its=its':=by simpa using congrArg Array.toList d1
 subst this
 exact r.inj r'
end
abbrev Cx.wish (X:Cx) (E:Value->Shared->Prop):Cx:={ X with xe:=E }
abbrev Cx.nox (X:Cx):Cx:=X.wish λ _ _=>False
theorem Cx.Ok.wish {X:Cx} (ok:X.Ok) (E:Value->Shared->Prop):(X.wish E).Ok :=
 ⟨ok.mod,ok.kind,ok.glob,ok.blt,ok.above,ok.inj,ok.has,ok.cab,ok.hd,ok.frames,ok.stk,ok.exf,ok.bs,ok.bsz,ok.noex,ok.exfs,ok.funs,ok.frf⟩
theorem Cx.Ok.unwish {X:Cx} {E:Value->Shared->Prop} (ok:(X.wish E).Ok):X.Ok :=
 ⟨ok.mod,ok.kind,ok.glob,ok.blt,ok.above,ok.inj,ok.has,ok.cab,ok.hd,ok.frames,ok.stk,ok.exf,ok.bs,ok.bsz,ok.noex,ok.exfs,ok.funs,ok.frf⟩
section
variable {X:Cx} {pins:List (Addr×Obj)} {σ:St} {H:Hp} {s:Shared} {E:Value->Shared->Prop}
theorem Inv.wish (I:Inv X pins σ H s) (E:Value->Shared->Prop):Inv (X.wish E) pins σ H s:=⟨I.ok.wish E,I.os,I.bare,I.base,I.loc,I.cell,I.free,I.freeC,I.pin,I.hok,I.len⟩
theorem Inv.unwish (I:Inv (X.wish E) pins σ H s):Inv X pins σ H s:=⟨I.ok.unwish,I.os,I.bare,I.base,I.loc,I.cell,I.free,I.freeC,I.pin,I.hok,I.len⟩
theorem SP.unwish {D:Ends} {f:Flow} {s':Shared} (h:SP (X.wish E) pins D f s'):SP X pins D f s':=by
 cases f with
 | next=>obtain ⟨σ',H',I,q⟩:=h; exact ⟨σ',H',I.unwish,q⟩
 | brk=>obtain ⟨σ',H',I,q⟩:=h; exact ⟨σ',H',I.unwish,q⟩
 | cont=>obtain ⟨σ',H',I,q⟩:=h; exact ⟨σ',H',I.unwish,q⟩
 | ret u=>obtain ⟨v,σ',H',I,r,q⟩:=h; exact ⟨v,σ',H',I.unwish,r,q⟩
theorem PSs.nox {st:List Stmt} {t:TS} (h:PSs X.nox st t):PSs X st t:=λ pins s σ H D I hw =>
 wpAny_mono (h pins s σ H D (I.wish _) hw) (λ _ _ q=>q.unwish) λ _ _ z=>False.elim z
end
section
variable {X:Cx} {st:Stmt} {rest:List Stmt} {t u:TS} {e:Expr} {te:TE} {pos:Pos}
def xH:TS:=λ D σ H=>D.nx σ H
def sH (t u:TS):TS:=λ D σ H=>t { D with nx:=u D } σ H
theorem aA:PSs X [] xH:=λ _ _ σ H _ I h=>wpAny_execs_nil ⟨σ,H,I,h⟩
theorem ae (h1:PS X st t) (h2:PSs X rest u):PSs X (st :: rest) (sH t u):=by
 intro pins s σ H D I h
 refine wpAny_execs_cons (thn (h1 pins s σ H { D with nx:=u D } I h) λ f s1 q=>?_)
 cases f with
 | next =>
  obtain ⟨σ',H',I',q⟩:=q
  exact h2 pins s1 σ' H' D I' q
 | ret v=>exact q
 | brk=>exact q
 | cont=>exact q
theorem ag (h1:PS X st t):PSs X [st] t:=by
 intro pins s σ H D I h
 refine wpAny_execs_cons (thn (h1 pins s σ H D I h) λ f s1 q=>?_)
 cases f with
 | next=>exact wpAny_execs_nil q
 | ret v=>exact q
 | brk=>exact q
 | cont=>exact q
theorem Inv.quiet {pins:List (Addr×Obj)} {σ:St} {H:Hp} {s:Shared} (I:Inv X pins σ H s):interactive X.env=false:=by simp [interactive,I.ok.kind]
def xI (te:TE):TS:=λ D σ H=>te σ H λ _ H1=>D.nx σ H1
theorem bh (he:PE X e te) (hs:swapsWith e none pos.line X.env=pure false:=by rfl):PS X (.Expr e pos) (xI te):=by
 intro pins s σ H D I h
 exact wpAny_Expr_any (thn (he pins s σ H _ I h) λ v s1 ⟨x,H1,I1,r1,q1⟩=>⟨σ,H1,I1,q1⟩) I.quiet hs
def FP (te:TE):TS:=λ D σ H=>te σ H D.rt
theorem av (he:PE X e te):PS X (.Return (some e) pos) (FP te):=by
 intro pins s σ H D I h
 exact wpAny_Return_some (thn (he pins s σ H _ I h) λ v s1 ⟨x,H1,I1,r1,q1⟩=>⟨x,σ,H1,I1,r1,q1⟩)
def FQ (c:TT) (t u:TS):TS:=λ D σ H=>c σ H λ b H1=>if b=true then t D σ H1 else u D σ H1
theorem aI {c:Expr} {a b:List Stmt} {tc:TT} (hc:PT X c tc) (ha:PSs X a t) (hb:PSs X b u):PS X (.If c a b pos) (FQ tc t u):=by
 intro pins s σ H D I h
 refine wpAny_If (thn (hc pins s σ H _ I h) λ d s1 ⟨H1,I1,q1⟩=>?_)
 cases d with
 | true=>exact ha pins s1 σ H1 D I1 q1
 | false=>exact hb pins s1 σ H1 D I1 q1
def pV:TS:=λ _ _ _=>False
theorem cN:PS X st pV:=λ _ _ _ _ _ _ h=>h.elim
theorem fA {sts:List Stmt}:PSs X sts pV:=λ _ _ _ _ _ _ h=>h.elim
end
abbrev TG:=V->St->Hp->(St->Hp->Prop)->Prop
abbrev TGs:=List V->St->Hp->(St->Hp->Prop)->Prop
def PG (X:Cx) (target:Expr) (t:TG):Prop :=
 ∀ (pins:List (Addr×Obj)) (s:Shared) (σ:St) (H:Hp) (v:V) (u:Value) (Q:St->Hp->Prop),Inv X pins σ H s->RelV v u->t v σ H Q ->
  wpAny (model X.prog X.w) X.A (assign target X.env u) (λ _ s'=>∃σ' H',Inv X pins σ' H' s'/\Q σ' H') X.xe s
def PGs (X:Cx) (ts:List Expr) (t:TGs):Prop :=
 ∀ (pins:List (Addr×Obj)) (s:Shared) (σ:St) (H:Hp) (vs:List V) (us:List Value) (Q:St->Hp->Prop),Inv X pins σ H s->Vals vs us->t vs σ H Q ->
  wpAny (model X.prog X.w) X.A (assignInOrder ((assignEach ts X.env).map (·.2)) us) (λ _ s'=>∃σ' H',Inv X pins σ' H' s'/\Q σ' H') X.xe s
abbrev pW:=V->V->V->Hp->(Hp->Prop)->Prop
def vf (X:Cx) (t:pW):Prop :=
 ∀ (pins:List (Addr×Obj)) (s:Shared) (σ:St) (H:Hp) (o i v:V) (ov iv u:Value) (Q:Hp->Prop),Inv X pins σ H s->RelV o ov->RelV i iv->RelV v u->t o i v H Q ->
  wpAny (model X.prog X.w) X.A (setItem ov iv u) (λ _ s'=>∃H',Inv X pins σ H' s'/\Q H') X.xe s
abbrev TIp:=V->V->Hp->VK->Prop
def PIp (X:Cx) (op:Operator) (t:TIp):Prop :=
 ∀ (pins:List (Addr×Obj)) (s:Shared) (σ:St) (H:Hp) (x y:V) (v u:Value) (Q:VK),Inv X pins σ H s->RelV x v->RelV y u->t x y H Q ->
  wpAny (model X.prog X.w) X.A (inplaceOp op v u) (EP X pins σ Q) X.xe s
section
variable {X:Cx} {pos:Pos}
def gM (i:Nat):TG:=λ v σ H Q=>Q (σ.set i (some v)) H
theorem ai {i:Nat} {x:Str} (hN:X.N.Nodup) (hi:X.N[i]? = some x) (hx:Loc X.env.scope x) (hf:X.fn x=true\/X.env.scope.names.lookup x=some .local:=by first | exact .inl rfl | exact .inr rfl | assumption):PG X (.Name x pos) (gM i):=by
 intro pins s σ H v u Q I r h
 exact wpAny_assign_Name (bW I hN hi hx r (λ s' I'=>⟨_,H,I',h⟩) hf)
def vg:TGs:=λ vs σ H Q=>vs=[]/\Q σ H
inductive gCons (t:TG) (u:TGs) (vs:List V) (σ:St) (H:Hp) (Q:St->Hp->Prop):Prop
 | mk (v:V) (r:List V) (e_0:vs=v :: r) (e_1:t v σ H λ σ' H'=>u r σ' H' Q):gCons t u vs σ H Q
theorem aG:PGs X [] vg:=by
 intro pins s σ H vs us Q I r h
 obtain ⟨e,h⟩:=h
 subst e
 cases r
 exact assignInOrder_nil ⟨σ,H,I,h⟩
theorem ah {e:Expr} {es:List Expr} {t:TG} {u:TGs} (h1:PG X e t) (h2:PGs X es u)
  (hs:(assignEach (e :: es) X.env).map (·.2)=assign e X.env :: (assignEach es X.env).map (·.2):=by rfl):PGs X (e :: es) (gCons t u):=by
 intro pins s σ H vs us Q I r h
 obtain ⟨v,vr,e1,h⟩:=h
 subst e1
 cases r with
 | cons r rr =>
  rw [hs]
  refine assignInOrder_cons (thn (h1 pins s σ H _ _ _ I r h) λ _ s1 ⟨σ1,H1,I1,q1⟩=>?_)
  exact h2 pins s1 σ1 H1 _ _ Q I1 rr q1
inductive gTup (K:PySem.W.Frag) (n:Nat) (t:TGs) (v:V) (σ:St) (H:Hp) (Q:St->Hp->Prop):Prop
 | mk (a:Addr) (xs:List V) (e_0:v=.ref a) (e_1:SqT K H a xs) (e_2:xs.length=n) (e_3:t xs σ H Q):gTup K n t v σ H Q
theorem aT {es:List Expr} {k:Nat} {t:TGs} {n:Nat} (hc:X.calm=true) (h:PGs X es t)
  (hn:(assignEach es X.env).length=n:=by rfl) (hst:(assignEach es X.env).findIdx? (·.1)=none:=by rfl):PG X (.Tuple es k pos) (gTup X.K n t):=by
 intro pins s σ H v u Q I r hw
 obtain ⟨a,xs,e1,hq,hl,hw⟩:=hw
 subst e1
 cases r
 obtain ⟨its,rv,ht,hz⟩:=I.tuple hq
 refine assign_Tuple_tuple (I.ok.hd hc) ht (by simp [hn,<- hl,rv.length]) hst λ h' hx=>?_
 have I1:Inv X pins σ H { s with heap:=h' }:=I.kept (t':=s.toks) λ b o e=>hx b o (Nat.ne_of_lt (Heap.lt_size e)) e
 exact h pins _ σ H xs _ Q I1 (by simpa using rv) hw
def FR (to ti:TE) (t:pW):TG:=λ v σ H Q=>to σ H λ o H1=>ti σ H1 λ i H2=>t o i v H2 λ H3=>Q σ H3
theorem kG {o i:Expr} {to ti:TE} {t:pW} (ho:PE X o to) (hi:PE X i ti) (hs:vf X t)
  (ha:∀v,assign (.Subscript o i pos) X.env v=(do
   let ov<-holding [v] (eval o X.env)
   let iv<-holding [v,ov] (eval i X.env)
   standAt pos
   holding [v,ov,iv] (setItem ov iv v)
   release [v,ov,iv] []):=by intro _; rfl):PG X (.Subscript o i pos) (FR to ti t):=by
 intro pins s σ H v u Q I r h
 rw [ha]
 refine wpAny_bind (wpAny_holding (thn (ho pins s σ H _ I h) λ ov s1 ⟨x,H1,I1,r1,q1⟩=>?_))
 refine wpAny_bind (wpAny_holding (thn (hi pins s1 σ H1 _ I1 q1) λ iv s2 ⟨y,H2,I2,r2,q2⟩=>?_))
 refine wpAny_bind (wpAny_standAt (wpAny_bind (wpAny_holding (thn (hs pins s2 σ H2 x y v ov iv u _ I2 r1 r2 r q2) λ _ s3 ⟨H3,I3,q3⟩=>?_))))
 exact wpAny_release ⟨σ,H3,I3,q3⟩
def vh (te:TE) (g:TG):TS:=λ D σ H=>te σ H λ x H1=>g x σ H1 D.nx
theorem bd {tg e:Expr} {te:TE} {g:TG} (he:PE X e te) (hg:PG X tg g) (hs:swapsWithSole [tg] e pos.line X.env=pure false:=by rfl) (hw:swappedStores [tg] e X.env=pure none:=by rfl)
  (h1:(assignEach [tg] X.env).map (·.2)=[assign tg X.env]:=by rfl):PS X (.Assign [tg] e pos) (vh te g):=by
 intro pins s σ H D I h
 refine wpAny_Assign_stores (thn (he pins s σ H _ I h) λ v s1 ⟨x,H1,I1,r1,q1⟩=>?_) hs hw
 rw [h1]
 exact thn (hg pins s1 σ H1 x v _ I1 r1 q1) λ _ s2 q=>q
theorem az {i:Nat} {x:Str} {e:Expr} {te:TE} {pos':Pos} (hN:X.N.Nodup) (hi:X.N[i]? = some x) (hx:Loc X.env.scope x) (he:PE X e te) (hs:swapsWith e (some (.Name x pos')) pos.line X.env=pure false:=by rfl) (hf:X.fn x=true\/X.env.scope.names.lookup x=some .local:=by first | exact .inl rfl | exact .inr rfl | assumption) :
  PS X (.Assign [.Name x pos'] e pos) (vh te (gM i)):=by
 intro pins s σ H D I h
 refine wpAny_Assign_Name (thn (he pins s σ H _ I h) λ v s1 ⟨y,H1,I1,r1,q1⟩=>?_) hs
 exact bW I1 hN hi hx r1 (λ s2 I2=>⟨_,H1,I2,q1⟩) hf
def FS (i j:Nat) (ta:TA):TS:=λ D σ H=>ta σ H λ vs H1=>∃v w,vs=[v,w]/\D.nx ((σ.set i (some v)).set j (some w)) H1
theorem kH {i j:Nat} {x y:Str} {a b:Expr} {ta:TA} {px py pt:Pos} {kt k2 pt2} (hc:X.calm=true) (hN:X.N.Nodup) (hi:X.N[i]? = some x) (hj:X.N[j]? = some y) (hij:i≠j)
  (hx:X.env.scope.names.lookup x=some .local) (hy:X.env.scope.names.lookup y=some .local) (ha:PA X [a,b] ta)
  (hw:swappedStores [.Tuple [.Name x px,.Name y py] kt pt] (.Tuple [a,b] k2 pt2) X.env=pure (some [x,y]))
  (hs:swapsWithSole [.Tuple [.Name x px,.Name y py] kt pt] (.Tuple [a,b] k2 pt2) pos.line X.env=pure false:=by rfl) :
  PS X (.Assign [.Tuple [.Name x px,.Name y py] kt pt] (.Tuple [a,b] k2 pt2) pos) (FS i j ta):=by
 intro pins s σ H D I h
 rw [exec_Assign_arm]
 refine wpAny_bind (wpAny_standAt ?_)
 rw [hs]
 refine wpAny_bind (wpAny_pure ?_)
 rw [if_neg (by decide)]
 refine wpAny_bind (Tuple_ (thn (ha _ pins s σ H _ I h) λ us s1 ⟨vs,H1,I1,r1,q1⟩=>?_))
 obtain ⟨v,w,e1,q1⟩:=q1
 subst e1
 obtain ⟨u1,u2,rfl,rv,rw'⟩:∃u1 u2,us=[u1,u2]/\RelV v u1/\RelV w u2:=by
  cases r1 with
  | cons p q =>
   cases q with
   | cons p' q' =>
    cases q'
    exact ⟨_,_,Y,p,p'⟩
 refine wpAny_newObj_type ?_ zS2
 have I2:Inv X pins σ H1 { s1 with heap:=s1.heap.push { cls:=.type "tuple", data:=.seq [u1, u2].toArray } }:=I1.kept (t':=s1.toks) λ b o e=>Heap.get?_push_of_some _ e
 rw [hw]
 refine wpAny_bind (wpAny_pure ?_)
 show wpAny (model X.prog X.w) X.A (do rule "assign.swapped-stores"; let items<-unpackItems (.ref s1.heap.objs.size) 2 none; assignInOrder [λ v=>bindName X.env y v,λ v=>bindName X.env x v] items.reverse; pure Flow.next) _ _ _
 refine wpAny_bind (wpAny_rule (wpAny_bind (unpackItems_tuple (items:=#[u1,u2]) (I.ok.hd hc) (IsTup.new s1.heap _) λ h' hx'=>?_)))
 have I3:=I2.kept (h':=h') (t':=s1.toks) λ b o e=>hx' b o (Nat.ne_of_lt (Heap.lt_size e)) e
 show wpAny _ _ (assignInOrder [λ v=>bindName X.env y v,λ v=>bindName X.env x v] [u2,u1] >>= λ _=>pure Flow.next) _ _ _
 refine wpAny_bind (assignInOrder_cons (wpAny_bindName (bW I3 hN hj (.inl hy) rw' (λ s2 I4=>?_) (.inr hy))))
 refine assignInOrder_cons (wpAny_bindName (bW I4 hN hi (.inl hx) rv (λ s3 I5=>assignInOrder_nil (wpAny_pure ?_)) (.inr hx)))
 rw [List.set_comm _ _ (Ne.symm hij)] at I5
 exact ⟨_,H1,I5,q1⟩
def FT (i:Nat) (te:TE) (ti:TIp):TS:=λ D σ H=>∃x,σ[i]? = some (some x)/\te σ H λ y H1=>ti x y H1 λ z H2=>D.nx (σ.set i (some z)) H2
theorem iW {i:Nat} {x:Str} {e:Expr} {te:TE} {op:Operator} {ti:TIp} {pos':Pos} (hN:X.N.Nodup) (hi:X.N[i]? = some x) (hx:Loc X.env.scope x) (he:PE X e te) (ho:PIp X op ti) (hf:X.fn x=true\/X.env.scope.names.lookup x=some .local:=by first | exact .inl rfl | exact .inr rfl | assumption) :
  PS X (.AugAssign (.Name x pos') op e pos) (FT i te ti):=by
 intro pins s σ H D I h
 obtain ⟨v,e1,h⟩:=h
 obtain ⟨m,hn,hl⟩:=I.loc
 have vis:Vis X.env.scope x:=by rcases hx with k | k; exact .inl k; exact .inr (.inl k)
 obtain ⟨u,r,l⟩:=hl i x v hi e1 vis
 refine wpAny_AugAssign_Name ?_
 have go:wpAny (model X.prog X.w) X.A (eval e X.env) (λ w s₂=>wpAny (model X.prog X.w) X.A (inplaceOp op u w) (λ r s₃=>wpAny (model X.prog X.w) X.A (storeName X.env x r) (λ _=>SP X pins D .next) X.xe s₃) X.xe s₂) X.xe s:=by
  refine thn (he pins s σ H _ I h) λ w s1 ⟨y,H1,I1,r1,q1⟩=>?_
  refine thn (ho pins s1 σ H1 v y u w _ I1 r r1 q1) λ z s2 ⟨zv,H2,I2,r2,q2⟩=>?_
  exact bW I2 hN hi hx r2 (λ s3 I3=>⟨_,H2,I3,q2⟩) hf
 rcases l with ⟨hk,hm⟩ | ⟨hk,c,hc,hcell⟩
 ·exact wpAny_loadName_local I.ok.kind hk hn hm go
 ·rcases hk with hk | hk
  ·exact wpAny_loadName_cell I.ok.kind hk hc hcell go
  ·rcases hx with k | k
   ·have:X.env.scope.names.lookup x=some .free:=hk
    rw [k] at this; cases this
   ·have:X.env.scope.names.lookup x=some .free:=hk
    rw [k] at this; cases this
def xJ (to ti te:TE) (tget:V->V->Hp->VK->Prop) (tip:TIp) (tset:pW):TS:=λ D σ H=>to σ H λ o H1=>ti σ H1 λ i H2=>tget o i H2 λ x H3=>te σ H3 λ y H4=>tip x y H4 λ z H5=>tset o i z H5 λ H6=>D.nx σ H6
def xK (X:Cx) (t:V->V->Hp->VK->Prop):Prop :=
 ∀ (pins:List (Addr×Obj)) (s:Shared) (σ:St) (H:Hp) (o i:V) (ov iv:Value) (Q:VK),Inv X pins σ H s->RelV o ov->RelV i iv->t o i H Q ->
  wpAny (model X.prog X.w) X.A (getItem ov iv) (EP X pins σ Q) X.xe s
theorem sI {o i e:Expr} {to ti te:TE} {tget:V->V->Hp->VK->Prop} {tip:TIp} {tset:pW} {op:Operator} {tpos:Pos} (ho:PE X o to) (hi:PE X i ti) (hg:xK X tget) (he:PE X e te) (hp:PIp X op tip) (hs:vf X tset)
  (ha:∀ov iv new,augStore i ov iv new=(do holding [new,ov,iv] (setItem ov iv new); release [new,ov,iv] []; pure .next):=by intros; rfl):PS X (.AugAssign (.Subscript o i tpos) op e pos) (xJ to ti te tget tip tset):=by
 intro pins s σ H D I h
 refine wpAny_AugAssign_SubscriptAny (thn (ho pins s σ H _ I h) λ ov s1 ⟨x1,H1,I1,r1,q1⟩=>?_) ha
 refine thn (hi pins s1 σ H1 _ I1 q1) λ iv s2 ⟨x2,H2,I2,r2,q2⟩=>?_
 refine thn (hg pins s2 σ H2 x1 x2 ov iv _ I2 r1 r2 q2) λ old s3 ⟨x3,H3,I3,r3,q3⟩=>?_
 refine thn (he pins s3 σ H3 _ I3 q3) λ v s4 ⟨x4,H4,I4,r4,q4⟩=>?_
 refine thn (hp pins s4 σ H4 x3 x4 old v _ I4 r3 r4 q4) λ new s5 ⟨x5,H5,I5,r5,q5⟩=>?_
 exact thn (hs pins s5 σ H5 x1 x2 x5 ov iv new _ I5 r1 r2 r5 q5) λ _ s6 ⟨H6,I6,q6⟩=>⟨σ,H6,I6,q6⟩
def ipI (f:Int->Int->Int):TIp:=λ x y H Q=>∃i j,x=.int i/\y=.int j/\Q (.int (f i j)) H
theorem gN:PIp X .Add (ipI λ i j=>i + j):=by
 intro pins s σ H x y v u Q I r1 r2 h
 obtain ⟨i,j,e1,e2,q⟩:=h
 subst e1; subst e2
 obtain ⟨t,rfl⟩:=r1
 obtain ⟨t',rfl⟩:=r2
 exact iadd_int ⟨.int _,H,I.tok _,⟨_,rfl⟩,q⟩
end
section
variable {X:Cx} {pos:Pos}
def vi (c:TT) (tb:TS):TS:=λ D σ H=>∃W:Nat->St->Hp->Prop,(∃m,W m σ H)/\∀m σ H,W m σ H ->
 c σ H λ b H1=>if b=true then ∃N:St->Hp->Prop,(∀σ' H',N σ' H'->∃m',m' < m/\W m' σ' H')/\tb { D with nx:=N,ct:=N,bk:=D.nx } σ H1 else D.nx σ H1
theorem eP {c:Expr} {body:List Stmt} {tc:TT} {tb:TS} (hp:PassesOwn (model X.prog X.w) X.A X.env X.xe) (hc:PT X c tc) (hb:PSs X body tb):PS X (.While c body [] pos) (vi tc tb):=by
 intro pins s σ H D I h
 obtain ⟨W,⟨m0,w0⟩,turn⟩:=h
 refine wpAny_While (codeAny_whileLoop (λ n s'=>∃σ' H',Inv X pins σ' H' s'/\W n σ' H') ?_ m0 ⟨σ,H,I,w0⟩)
 rintro n s1 ⟨σ1,H1,I1,w1⟩
 refine wpAny_passesOwn hp (thn (hc pins s1 σ1 H1 _ I1 (turn n σ1 H1 w1)) λ b s2 ⟨H2,I2,q2⟩=>?_)
 cases b with
 | true =>
  obtain ⟨N,hN,q2⟩:=q2
  rw [if_pos rfl]
  refine wpAny_passesOwn hp (thn (hb pins s2 σ1 H2 _ I2 q2) λ f s3 q3=>?_)
  cases f with
  | next =>
   obtain ⟨σ3,H3,I3,n3⟩:=q3
   obtain ⟨m',hm,w3⟩:=hN σ3 H3 n3
   exact ⟨m',hm,σ3,H3,I3,w3⟩
  | cont =>
   obtain ⟨σ3,H3,I3,n3⟩:=q3
   obtain ⟨m',hm,w3⟩:=hN σ3 H3 n3
   exact ⟨m',hm,σ3,H3,I3,w3⟩
  | brk=>exact q3
  | ret v=>exact q3
 | false =>
  rw [if_neg Bool.false_ne_true]
  exact wpAny_execs_nil ⟨σ1,H2,I2,q2⟩
end
structure It where
 go:Nat->Hp->Prop
 yld:Nat->Hp->V->Hp->Prop
 stop:Nat->Hp->Prop
def eQ (X:Cx) (pins:List (Addr×Obj)) (H:Hp) (b:Addr):Prop :=
 H b=none/\b≠X.env.locals/\b∉X.fs/\(b∈X.ex\/X.s₀.heap.objs.size<=b)/\(∀x c,X.env.cells.lookup x=some c->c≠b)/\∀p∈X.pn ++ pins,p.1≠b
theorem Inv.fpOk {X:Cx} {pins:List (Addr×Obj)} {σ:St} {H H':Hp} {s:Shared} {b:Addr} (I:Inv X pins σ H s) (hb:s.heap.objs.size<=b) (hn:H' b=none):eQ X pins H' b:=by
 refine ⟨hn,Nat.ne_of_gt (Nat.lt_of_lt_of_le I.lt hb),I.nofs hb,.inr (Nat.le_trans I.sz hb),λ x c e z=>?_,λ p hp z=>?_⟩
 ·obtain ⟨v,q⟩:=I.cell x c e
  exact absurd (Nat.lt_of_lt_of_le q.lt (by rw [z]; exact hb)) (Nat.lt_irrefl _)
 ·exact absurd (Nat.lt_of_lt_of_le (Heap.lt_size (I.pin p hp).1) (by rw [z]; exact hb)) (Nat.lt_irrefl _)
structure Turn (P:Program) (w:World) (K:PySem.W.Frag) (tg:Expr) (J:It) (fp:List Addr) (it:Addr) (tn:Nat->Heap->Prop):Prop where
 mem:it∈fp
 obj:∀i h,tn i h->∀b∈fp,∃o,h.get? b=some o/\∀v,o.data≠.cell v
 keep:∀i h h',tn i h->(∀b∈fp,∀o,h.get? b=some o->h'.get? b=some o)->tn i h'
 item:∀ (X:Cx),X.prog=P->X.w=w->X.K=K->X.calm=true->∀ (i:Nat) (pins:List (Addr×Obj)) (s:Shared) (σ:St) (H:Hp) (E:Value->Shared->Prop),Inv X pins σ H s->(∀b∈fp,eQ X pins H b)->tn i s.heap->J.go i H ->
  wpAny (model P w) X.A (pyNext (.ref it)) (λ r s1=>∃u,r=some u /\
   wpAny (model P w) X.A (letOwnedTupleGo tg (.ref it) u) (λ _ s2=>∃x H',Inv X pins σ H' s2/\RelV x u/\J.yld i H x H'/\tn (i + 1) s2.heap/\∀b∈fp,H' b=none) E s1) E s
 done:∀ (X:Cx),X.prog=P->X.w=w->X.K=K->X.calm=true->∀ (i:Nat) (pins:List (Addr×Obj)) (s:Shared) (σ:St) (H:Hp) (E:Value->Shared->Prop),Inv X pins σ H s->(∀b∈fp,eQ X pins H b)->tn i s.heap->J.stop i H ->
  wpAny (model P w) X.A (pyNext (.ref it)) (λ r s1=>r=none/\Inv X pins σ H s1) E s
 self:∀ (A:Around) (i:Nat) (s:Shared) (Q:Value->Shared->Prop) (E:Value->Shared->Prop),tn i s.heap->Q (.ref it) s->wpAny (model P w) A (pyIter (.ref it)) Q E s
abbrev TI:=St->Hp->(It->Hp->Prop)->Prop
def PIE (X:Cx) (pins:List (Addr×Obj)) (σ:St) (tg:Expr) (R:It->Hp->Prop) (itv:Value) (s2:Shared):Prop :=
 ∃ (it:Addr) (fp:List Addr) (tn:Nat->Heap->Prop) (J:It) (H':Hp),itv=.ref it/\Inv X pins σ H' s2/\Turn X.prog X.w X.K tg J fp it tn/\tn 0 s2.heap/\(∀b∈fp,eQ X pins H' b)/\R J H'
def PI (X:Cx) (tg iter:Expr) (wi:TI):Prop :=
 ∀ (pins:List (Addr×Obj)) (s:Shared) (σ:St) (H:Hp) (R:It->Hp->Prop),Inv X pins σ H s->wi σ H R ->
  wpAny (model X.prog X.w) X.A (eval iter X.env) (λ v s1=>wpAny (model X.prog X.w) X.A (pyIter v) (PIE X pins σ tg R) X.xe s1) X.xe s
theorem lT {M:Model} {A:Around} {E:Value->Shared->Prop} {s:Shared} {tg:Expr} {it:Addr} {u:Value} {o:Obj} {n:String} {vs:Array Value} {Q:Unit->Shared->Prop} (ho:s.heap.get? it=some o) (hc:o.cls=.type n) (hd:o.data=.fields vs)
    (hn:["enumerate","zip","dict_itemiterator","dict_reverseitemiterator","odict_iterator","itertools.zip_longest","itertools.pairwise"].contains n=false) (hQ:Q () s):wpAny M A (letOwnedTupleGo tg (.ref it) u) Q E s:=by
  unfold letOwnedTupleGo
  cases tg <;> first
    | exact wpAny_pure hQ
    | (cases u <;> first
        | exact wpAny_pure hQ
        | (refine wpAny_bind (wpAny_load ho ?_)
           rw [hc,hd]
           show wpAny M A (if (["enumerate","zip","dict_itemiterator","dict_reverseitemiterator","odict_iterator","itertools.zip_longest","itertools.pairwise"].contains n && vs[0]? == some (rawInt _))=true then _ else _) Q E s
           rw [if_neg (by intro h; rw [hn,Bool.false_and] at h; cases h)]
           exact wpAny_pure hQ))
def Itl (K:PySem.W.Frag) (a:Addr):It :=
 ⟨λ i H=>∃xs x,SqL K H a xs/\xs[i]? = some x,λ i H x H'=>H'=H/\∀xs,SqL K H a xs->xs[i]? = some x,λ i H=>∃xs,SqL K H a xs/\xs.length<=i⟩
def Itt (K:PySem.W.Frag) (a:Addr):It :=
 ⟨λ i H=>∃xs x,SqT K H a xs/\xs[i]? = some x,λ i H x H'=>H'=H/\∀xs,SqT K H a xs->xs[i]? = some x,λ i H=>∃xs,SqT K H a xs/\xs.length<=i⟩
def Itr (lo:Int) (n:Nat):It:=⟨λ i _=>i < n,λ i H x H'=>H'=H/\x=.int (lo + i),λ i _=>n<=i⟩
theorem iw {P:Program} {w:World} {K:PySem.W.Frag} {tg:Expr} (a it:Addr):Turn P w K tg (Itl K a) [it] it (λ i h=>h.IsListIter it a i) where
 mem:=by simp
 obj:=λ i h st b hb=>by
  have e:b=it:=by simpa using hb
  subst e
  obtain ⟨o,e,c,d⟩:=st
  exact ⟨o,e,λ v z=>by rw [d] at z; cases z⟩
 keep:=λ i h h' st k=>st.at λ o e=>k it (by simp) o e
 item:=by
  intro X hP hw hK hc i pins s σ H E I hf st hg
  subst hP hw hK
  obtain ⟨xs,x,hq,hx⟩:=hg
  obtain ⟨its,rv,p,hz⟩:=I.list hq
  obtain ⟨u,hu,ru⟩:=rv.get hx
  obtain ⟨f0,f1,f2,f3,f4,f5⟩:=hf it (by simp)
  refine wpAny_pyNext_list_item st p.isList (x:=u) (by simpa using hu) λ h' st' sb=>?_
  have I1:Inv X pins σ H { s with heap:=h' }:=I.turned (t':=s.toks) (λ b o hb e=>(sb.2 b hb).trans e) f0 f1 f3 f4 f5
  obtain ⟨o,e,c,d⟩:=id st'
  exact ⟨u,Y,lT (s:={ s with heap:=h' }) e c d (by decide) ⟨x,H,I1,ru,⟨Y,λ ys hy=>by rw [I.list_inj hy hq]; exact hx⟩,st',λ b hb=>(hf b hb).1⟩⟩
 done:=by
  intro X hP hw hK hc i pins s σ H E I hf st hg
  subst hP hw hK
  obtain ⟨xs,hq,hx⟩:=hg
  obtain ⟨its,rv,p,hz⟩:=I.list hq
  obtain ⟨f0,f1,f2,f3,f4,f5⟩:=hf it (by simp)
  have hl:=rv.length
  exact wpAny_pyNext_list_end (I.ok.hd hc) st p.isList (by simp; omega) λ h' eb=>⟨Y,I.turned (t':=s.toks) (λ b o hb e=>eb b o hb e) f0 f1 f3 f4 f5⟩
 self:=λ _ _ _ _ _ st h=>wpAny_pyIter_listiter st h
theorem gO {P:Program} {w:World} {K:PySem.W.Frag} {tg:Expr} (a it:Addr):Turn P w K tg (Itt K a) [it] it (λ i h=>h.IsTupleIter it a i) where
 mem:=by simp
 obj:=λ i h st b hb=>by
  have e:b=it:=by simpa using hb
  subst e
  obtain ⟨o,e,c,d⟩:=st
  exact ⟨o,e,λ v z=>by rw [d] at z; cases z⟩
 keep:=λ i h h' st k=>st.at λ o e=>k it (by simp) o e
 item:=by
  intro X hP hw hK hc i pins s σ H E I hf st hg
  subst hP hw hK
  obtain ⟨xs,x,hq,hx⟩:=hg
  obtain ⟨its,rv,p,hz⟩:=I.tuple hq
  obtain ⟨u,hu,ru⟩:=rv.get hx
  obtain ⟨f0,f1,f2,f3,f4,f5⟩:=hf it (by simp)
  refine wpAny_pyNext_tuple_item st (show s.heap.IsTuple a its.toArray from p) (x:=u) (by simpa using hu) λ h' st' sb=>?_
  have I1:Inv X pins σ H { s with heap:=h' }:=I.turned (t':=s.toks) (λ b o hb e=>(sb.2 b hb).trans e) f0 f1 f3 f4 f5
  obtain ⟨o,e,c,d⟩:=id st'
  exact ⟨u,Y,lT (s:={ s with heap:=h' }) e c d (by decide) ⟨x,H,I1,ru,⟨Y,λ ys hy=>by rw [I.tuple_inj hy hq]; exact hx⟩,st',λ b hb=>(hf b hb).1⟩⟩
 done:=by
  intro X hP hw hK hc i pins s σ H E I hf st hg
  subst hP hw hK
  obtain ⟨xs,hq,hx⟩:=hg
  obtain ⟨its,rv,p,hz⟩:=I.tuple hq
  obtain ⟨f0,f1,f2,f3,f4,f5⟩:=hf it (by simp)
  have hl:=rv.length
  exact wpAny_pyNext_tuple_end (I.ok.hd hc) st (show s.heap.IsTuple a its.toArray from p) (by simp; omega) λ h' eb=>⟨Y,I.turned (t':=s.toks) (λ b o hb e=>eb b o hb e) f0 f1 f3 f4 f5⟩
 self:=λ _ _ _ _ _ st h=>wpAny_pyIter_tupleiter st h
theorem kI {P:Program} {w:World} {K:PySem.W.Frag} {tg:Expr} (it:Addr) (lo:Int) (n:Nat):Turn P w K tg (Itr lo n) [it] it (λ i h=>IsRangeIter h it (lo + (i:Nat) * 1) ((n:Int) - (i:Nat)) 1) where
 mem:=by simp
 obj:=λ i h st b hb=>by
  have e:b=it:=by simpa using hb
  subst e
  exact ⟨_,st,λ v z=>by
   have z':Data.fields _=Data.cell v:=z
   cases z'⟩
 keep:=λ i h h' st k=>k it (by simp) _ st
 item:=by
  intro X hP hw hK hc i pins s σ H E I hf st hg
  subst hP hw hK
  obtain ⟨f0,f1,f2,f3,f4,f5⟩:=hf it (by simp)
  have W:=Walks.range (prog:=X.prog) (w:=X.w) (I.ok.hd hc) it lo 1 n
  refine W.item i s _ _ hg st λ v h' tk hv st' kk=>?_
  obtain ⟨t,rfl⟩:=hv
  have I1:Inv X pins σ H { s with heap:=h',toks:=tk }:=I.turned (λ b o hb e=>kk b o (by simpa using hb) e) f0 f1 f3 f4 f5
  refine ⟨_, Y, lT (s:={ s with heap:=h', toks:=tk }) (n := "range_iterator") st' rfl rfl (by decide) ⟨.int (lo + i), H, I1, ⟨t, ?_⟩, ⟨Y, Y⟩, st', λ b hb=>(hf b hb).1⟩⟩
  rw [Int.mul_one]
 done:=by
  intro X hP hw hK hc i pins s σ H E I hf st hg
  subst hP hw hK
  obtain ⟨f0,f1,f2,f3,f4,f5⟩:=hf it (by simp)
  exact wpAny_pyNext_range_end (I.ok.hd hc) st (by have:n<=i:=hg; omega) λ h' eb=>⟨Y,I.turned (t':=s.toks) (λ b o hb e=>eb b o hb e) f0 f1 f3 f4 f5⟩
 self:=λ _ _ _ _ _ st h=>wpAny_pyIter_rangeiter st h
end L2
namespace L2
open PySem PySem.Spec PyProof.Rows
section
variable {X:Cx} {tg:Expr}
inductive iListA (K:PySem.W.Frag) (R:It->Hp->Prop) (x:V) (H1:Hp):Prop
 | mk (a:Addr) (e_0:x=.ref a) (e_1:(∃xs,SqL K H1 a xs)) (e_2:R (Itl K a) H1):iListA K R x H1
def uE (K:PySem.W.Frag) (tl:TE):TI:=λ σ H R=>tl σ H λ x H1=>iListA K R x H1
inductive iTupA (K:PySem.W.Frag) (R:It->Hp->Prop) (x:V) (H1:Hp):Prop
 | mk (a:Addr) (e_0:x=.ref a) (e_1:(∃xs,SqT K H1 a xs)) (e_2:R (Itt K a) H1):iTupA K R x H1
def xL (K:PySem.W.Frag) (tl:TE):TI:=λ σ H R=>tl σ H λ x H1=>iTupA K R x H1
theorem dP {l:Expr} {tl:TE} (hl:PE X l tl):PI X tg l (uE X.K tl):=by
 intro pins s σ H R I h
 refine thn (hl pins s σ H _ I h) λ v s1 ⟨x,H1,I1,r1,q1⟩=>?_
 obtain ⟨a,e,⟨xs,hq⟩,q⟩:=q1
 subst e
 cases r1
 obtain ⟨its,rv,p,hz⟩:=I1.list hq
 refine wpAny_pyIter_list p.isList ?_
 refine ⟨s1.heap.objs.size,[s1.heap.objs.size],_,_,H1,Y,I1.kept (t':=s1.toks) λ b o e=>Heap.get?_push_of_some _ e,iw a _,⟨_,Heap.get?_push_size _ rfl,Y,Y⟩,λ b hb=>?_,q⟩
 have e:b=s1.heap.objs.size:=by simpa using hb
 subst e
 exact I1.fpOk (Nat.le_refl _) (I1.hok.fresh (Nat.le_refl _))
theorem gP {l:Expr} {tl:TE} (hl:PE X l tl):PI X tg l (xL X.K tl):=by
 intro pins s σ H R I h
 refine thn (hl pins s σ H _ I h) λ v s1 ⟨x,H1,I1,r1,q1⟩=>?_
 obtain ⟨a,e,⟨xs,hq⟩,q⟩:=q1
 subst e
 cases r1
 obtain ⟨its,rv,p,hz⟩:=I1.tuple hq
 refine wpAny_pyIter_tuple (show s1.heap.IsTuple a its.toArray from p) ?_
 refine ⟨s1.heap.objs.size,[s1.heap.objs.size],_,_,H1,Y,I1.kept (t':=s1.toks) λ b o e=>Heap.get?_push_of_some _ e,gO a _,⟨_,Heap.get?_push_size _ rfl,Y,Y⟩,λ b hb=>?_,q⟩
 have e:b=s1.heap.objs.size:=by simpa using hb
 subst e
 exact I1.fpOk (Nat.le_refl _) (I1.hok.fresh (Nat.le_refl _))
theorem pX {pins:List (Addr×Obj)} {σ:St} {H:Hp} {s:Shared} {R:It->Hp->Prop} {E:Value->Shared->Prop} {lo hi:Int} {t u v:Tok} {tk:Nat} (I:Inv X pins σ H s) (h1:-(2 ^ 62)<=lo) (h2:lo < 2 ^ 62) (h3:-(2 ^ 62)<=hi) (h4:hi < 2 ^ 62)
  (q:R (Itr lo (hi - lo).toNat) H):wpAny (model X.prog X.w) X.A (pyIter (.ref s.heap.objs.size)) (PIE X pins σ tg R) E { s with heap:=s.heap.push { cls:=.type "range",data:=.fields #[.int lo t,.int hi u,.int 1 v] },toks:=tk }:=by
 refine wpAny_pyIter_range (IsRange.new ..) (small_one h1 h2 h3 h4) ?_
 have I1:Inv X pins σ H { s with heap:=s.heap.push { cls:=.type "range",data:=.fields #[.int lo t,.int hi u,.int 1 v] },toks:=tk }:=I.kept λ b o e=>Heap.get?_push_of_some _ e
 refine ⟨(s.heap.push { cls:=.type "range",data:=.fields #[.int lo t,.int hi u,.int 1 v] }).objs.size,[(s.heap.push { cls:=.type "range",data:=.fields #[.int lo t,.int hi u,.int 1 v] }).objs.size],_,_,H,Y,
  I1.kept (t':=tk) λ b o e=>Heap.get?_push_of_some _ e,kI _ lo (hi - lo).toNat,?_,λ b hb=>?_,q⟩
 ·have e1:lo + ((0:Nat):Int) * 1=lo:=by simp
  have e2:(((hi - lo).toNat:Nat):Int) - ((0:Nat):Int)=Builtin.Range.rangeSize lo hi 1:=by rw [rangeSize_one]; split <;> omega
  show IsRangeIter _ _ (lo + ((0:Nat):Int) * 1) ((((hi - lo).toNat:Nat):Int) - ((0:Nat):Int)) 1
  rw [e1,e2]
  exact Heap.get?_push_size _ rfl
 ·have e:b=(s.heap.push { cls:=.type "range",data:=.fields #[.int lo t,.int hi u,.int 1 v] }).objs.size:=by simpa using hb
  subst e
  exact I1.fpOk (Nat.le_refl _) (I1.hok.fresh (Nat.le_refl _))
def xM (ta:TA):TI:=λ σ H R=>ta σ H λ vs H1=>∃j:Int,vs=[.int j]/\-(2 ^ 62)<=j/\j < 2 ^ 62/\R (Itr 0 j.toNat) H1
theorem fB {a:Expr} {ta:TA} {p pos:Pos} (hg:Gl X "range") (hm:X.mg "range" = none) (ha:PA X [a] ta) (hs:starEach [a] X.env=[(false,eval a X.env)]:=by rfl):PI X tg (.Call (.Name "range" p) [a] [] pos) (xM ta):=by
 intro pins s σ H R I h
 refine Call_ (eG I hg hm boot_range (PyProof.Rows.callWith_type1 (thn (ha pos pins s σ H _ I h) λ us s1 ⟨vs,H1,I1,r1,q1⟩=>?_) hs rfl))
 obtain ⟨j,e,q1,q2,q⟩:=q1
 subst e
 cases r1 with
 | cons r rr =>
  cases rr
  obtain ⟨t,rfl⟩:=r
  exact call_range_1 (pX I1 (by omega) (by omega) q1 q2 (by simpa using q))
def xN (wi:TI) (g:TG) (tb:TS):TS:=λ D σ H=>wi σ H λ J H1=>∃W:Nat->Nat->St->Hp->Prop,(∃m,W 0 m σ H1)/\∀i m σ H,W i m σ H ->
 (J.stop i H/\D.nx σ H)\/(J.go i H/\∃N:St->Hp->Prop,(∀σ' H',N σ' H'->∃m',m' < m/\W (i + 1) m' σ' H')/\∀x H',J.yld i H x H'->g x σ H' λ σ2 H2=>tb { D with nx:=N,ct:=N,bk:=D.nx } σ2 H2)
def iX (fp:List Addr) (h:Heap):List (Addr×Obj):=fp.filterMap λ b=>(h.get? b).map λ o=>(b,o)
theorem bN {fp:List Addr} {h:Heap} {b:Addr} {o:Obj} (hb:b∈fp) (e:h.get? b=some o):(b,o)∈iX fp h:=List.mem_filterMap.mpr ⟨b,hb,by rw [e]; rfl⟩
theorem na {fp:List Addr} {h:Heap} {p:Addr×Obj} (hp:p∈iX fp h):p.1∈fp/\h.get? p.1=some p.2:=by
 obtain ⟨b,hb,e⟩:=List.mem_filterMap.mp hp
 cases q:h.get? b with
 | none=>rw [q] at e; cases e
 | some o =>
  rw [q] at e
  have e':(b,o)=p:=Option.some.inj e
  subst e'
  exact ⟨hb,q⟩
theorem Inv.pinned {pins:List (Addr×Obj)} {σ:St} {H:Hp} {s:Shared} {fp:List Addr} (I:Inv X pins σ H s) (hf:∀b∈fp,eQ X pins H b) (ho:∀b∈fp,∃o,s.heap.get? b=some o/\∀v,o.data≠.cell v):Inv X (pins ++ iX fp s.heap) σ H s :=
 I.pins_of λ p hp=>(List.mem_append.mp hp).elim (λ z=>I.pin p (List.mem_append_right _ z)) λ z=>by
  obtain ⟨hb,e⟩:=na z
  obtain ⟨f0,f1,f2,_⟩:=hf p.1 hb
  obtain ⟨o,e',d⟩:=ho p.1 hb
  rw [e] at e'; cases e'
  exact ⟨e,f0,f1,f2,d⟩
theorem Inv.unpinned {pins pl:List (Addr×Obj)} {σ:St} {H:Hp} {s:Shared} (I:Inv X (pins ++ pl) σ H s):Inv X pins σ H s:=I.pins_of λ p hp=>I.pin p (List.mem_append_right _ (List.mem_append_left _ hp))
theorem bO {iter:Expr} {body:List Stmt} {wi:TI} {g:TG} {tb:TS} {pos:Pos} (hp:PassesOwn (model X.prog X.w) X.A X.env X.xe) (hc:X.calm=true) (hi:PI X tg iter wi) (hg:PG X tg g) (hb:PSs X body tb)
  (hs:∀x,foldedSetIterable iter X.env x=pure x:=by intro _; rfl):PS X (.For tg iter body [] pos) (xN wi g tb):=by
 intro pins s σ H D I h
 refine wpAny_For (thn (hi pins s σ H _ I h) λ v s1 h1=>thn h1 λ itv s2 h2=>?_) hs
 obtain ⟨it,fp,tn,J,H2,e,I2,T,st2,f2,W,⟨m0,w0⟩,turn⟩:=h2
 subst e
 have stat:∀ {H':Hp},(∀b∈fp,H' b=none)->∀b∈fp,eQ X pins H' b:=λ hn b hb=>⟨hn b hb,(f2 b hb).2⟩
 refine codeAny_forLoop_any (λ n s'=>∃i σ' H',Inv X pins σ' H' s'/\tn i s'.heap/\(∀b∈fp,H' b=none)/\W i n σ' H') ?_ m0 ⟨0,σ,H2,I2,st2,λ b hb=>(f2 b hb).1,w0⟩
 rintro n s3 ⟨i,σ3,H3,I3,st3,fr3,w3⟩
 rcases turn i n σ3 H3 w3 with ⟨stop,qn⟩ | ⟨go,N,hN,step⟩
 ·refine wpAny_passesOwn hp (thn (T.done X rfl rfl rfl hc i pins s3 σ3 H3 X.xe I3 (stat fr3) st3 stop) λ r s4 ⟨hr,I4⟩=>?_)
  subst hr
  exact wpAny_execs_nil ⟨σ3,H3,I4,qn⟩
 ·refine wpAny_passesOwn hp (thn (T.item X rfl rfl rfl hc i pins s3 σ3 H3 X.xe I3 (stat fr3) st3 go) λ r s4 ⟨u,hr,h4⟩=>?_)
  subst hr
  refine wpAny_passesOwn hp (thn h4 λ _ s5 ⟨x,H5,I5,r5,y5,st5,fr5⟩=>?_)
  have I5':=I5.pinned (stat fr5) (T.obj _ _ st5)
  refine wpAny_passesOwn hp (thn (hg _ s5 σ3 H5 x u _ I5' r5 (step x H5 y5)) λ _ s6 ⟨σ6,H6,I6,q6⟩=>?_)
  refine wpAny_passesOwn hp (thn (hb _ s6 σ6 H6 _ I6 q6) λ f s7 q7=>?_)
  have again:∀ {σ7:St} {H7:Hp},Inv X (pins ++ iX fp s5.heap) σ7 H7 s7->N σ7 H7->∃m,m < n/\∃i σ' H',Inv X pins σ' H' s7/\tn i s7.heap/\(∀b∈fp,H' b=none)/\W i m σ' H':=λ {σ7 H7} I7 n7=>by
   obtain ⟨m',hm,w7⟩:=hN σ7 H7 n7
   refine ⟨m',hm,i + 1,σ7,H7,I7.unpinned,T.keep _ _ _ st5 λ b hb o e=>(I7.pin (b,o) (List.mem_append_right _ (List.mem_append_right _ (bN hb e)))).1,λ b hb=>?_,w7⟩
   obtain ⟨o,e,d⟩:=T.obj _ _ st5 b hb
   exact (I7.pin (b,o) (List.mem_append_right _ (List.mem_append_right _ (bN hb e)))).2.1
  cases f with
  | next=>obtain ⟨σ7,H7,I7,n7⟩:=q7; exact again I7 n7
  | cont=>obtain ⟨σ7,H7,I7,n7⟩:=q7; exact again I7 n7
  | brk=>obtain ⟨σ7,H7,I7,q7⟩:=q7; exact ⟨σ7,H7,I7.unpinned,q7⟩
  | ret v=>obtain ⟨x7,σ7,H7,I7,r7,q7⟩:=q7; exact ⟨x7,σ7,H7,I7.unpinned,r7,q7⟩
end
theorem dA {K:PySem.W.Frag} {a:Addr} {xs:List V} {g:TG} {tb:TS} {D:Ends} {σ:St} {H:Hp} (Pv:Nat->St->Hp->Prop) (h0:Pv 0 σ H) (hl:∀i σ H,i<=xs.length->Pv i σ H->SqL K H a xs)
  (hs:∀i x σ H,xs[i]? = some x->Pv i σ H->g x σ H λ σ2 H2=>tb { D with nx:=Pv (i + 1),ct:=Pv (i + 1),bk:=D.nx } σ2 H2) (hd:∀σ H,Pv xs.length σ H->D.nx σ H) :
  ∃W:Nat->Nat->St->Hp->Prop,(∃m,W 0 m σ H)/\∀i m σ H,W i m σ H ->
   ((Itl K a).stop i H/\D.nx σ H)\/((Itl K a).go i H/\∃N:St->Hp->Prop,(∀σ' H',N σ' H'->∃m',m' < m/\W (i + 1) m' σ' H')/\∀x H',(Itl K a).yld i H x H'->g x σ H' λ σ2 H2=>tb { D with nx:=N,ct:=N,bk:=D.nx } σ2 H2):=by
 refine ⟨λ i m σ H=>m=xs.length - i/\i<=xs.length/\Pv i σ H,⟨xs.length,by simp,Nat.zero_le _,h0⟩,?_⟩
 rintro i m σ H ⟨rfl,hi,p⟩
 have q:=hl i σ H hi p
 by_cases hlt:i < xs.length
 ·refine .inr ⟨⟨xs,xs[i],q,by simp [hlt]⟩,Pv (i + 1),λ σ' H' p'=>⟨xs.length - (i + 1),by omega,Y,hlt,p'⟩,λ x H' y=>?_⟩
  obtain ⟨e,y⟩:=y
  subst e
  exact hs i x σ _ (y xs q) p
 ·have e:i=xs.length:=by omega
  subst e
  exact .inl ⟨⟨xs,q,Nat.le_refl _⟩,hd σ H p⟩
theorem gp {K:PySem.W.Frag} {a:Addr} {xs:List V} {g:TG} {tb:TS} {D:Ends} {σ:St} {H:Hp} (Pv:Nat->St->Hp->Prop) (h0:Pv 0 σ H) (hl:∀i σ H,i<=xs.length->Pv i σ H->SqT K H a xs)
  (hs:∀i x σ H,xs[i]? = some x->Pv i σ H->g x σ H λ σ2 H2=>tb { D with nx:=Pv (i + 1),ct:=Pv (i + 1),bk:=D.nx } σ2 H2) (hd:∀σ H,Pv xs.length σ H->D.nx σ H) :
  ∃W:Nat->Nat->St->Hp->Prop,(∃m,W 0 m σ H)/\∀i m σ H,W i m σ H ->
   ((Itt K a).stop i H/\D.nx σ H)\/((Itt K a).go i H/\∃N:St->Hp->Prop,(∀σ' H',N σ' H'->∃m',m' < m/\W (i + 1) m' σ' H')/\∀x H',(Itt K a).yld i H x H'->g x σ H' λ σ2 H2=>tb { D with nx:=N,ct:=N,bk:=D.nx } σ2 H2):=by
 refine ⟨λ i m σ H=>m=xs.length - i/\i<=xs.length/\Pv i σ H,⟨xs.length,by simp,Nat.zero_le _,h0⟩,?_⟩
 rintro i m σ H ⟨rfl,hi,p⟩
 have q:=hl i σ H hi p
 by_cases hlt:i < xs.length
 ·refine .inr ⟨⟨xs,xs[i],q,by simp [hlt]⟩,Pv (i + 1),λ σ' H' p'=>⟨xs.length - (i + 1),by omega,Y,hlt,p'⟩,λ x H' y=>?_⟩
  obtain ⟨e,y⟩:=y
  subst e
  exact hs i x σ _ (y xs q) p
 ·have e:i=xs.length:=by omega
  subst e
  exact .inl ⟨⟨xs,q,Nat.le_refl _⟩,hd σ H p⟩
theorem fC {lo:Int} {n:Nat} {g:TG} {tb:TS} {D:Ends} {σ:St} {H:Hp} (Pv:Nat->St->Hp->Prop) (h0:Pv 0 σ H)
  (hs:∀i σ H,i < n->Pv i σ H->g (.int (lo + i)) σ H λ σ2 H2=>tb { D with nx:=Pv (i + 1),ct:=Pv (i + 1),bk:=D.nx } σ2 H2) (hd:∀σ H,Pv n σ H->D.nx σ H) :
  ∃W:Nat->Nat->St->Hp->Prop,(∃m,W 0 m σ H)/\∀i m σ H,W i m σ H ->
   ((Itr lo n).stop i H/\D.nx σ H)\/((Itr lo n).go i H/\∃N:St->Hp->Prop,(∀σ' H',N σ' H'->∃m',m' < m/\W (i + 1) m' σ' H')/\∀x H',(Itr lo n).yld i H x H'->g x σ H' λ σ2 H2=>tb { D with nx:=N,ct:=N,bk:=D.nx } σ2 H2):=by
 refine ⟨λ i m σ H=>m=n - i/\i<=n/\Pv i σ H,⟨n,by simp,Nat.zero_le _,h0⟩,?_⟩
 rintro i m σ H ⟨rfl,hi,p⟩
 by_cases hlt:i < n
 ·refine .inr ⟨hlt,Pv (i + 1),λ σ' H' p'=>⟨n - (i + 1),by omega,Y,hlt,p'⟩,λ x H' y=>?_⟩
  obtain ⟨e,y⟩:=y
  subst e y
  exact hs i σ _ hlt p
 ·have e:i=n:=by omega
  subst e
  exact .inl ⟨Nat.le_refl _,hd σ H p⟩
end L2
namespace L2
open PySem PySem.Spec PyProof.Rows
abbrev R2:=V->V->Hp->VK->Prop
def OpR (X:Cx) (f:Value->Value->Sem Value) (r:R2):Prop :=
 ∀ (pins:List (Addr×Obj)) (s:Shared) (σ:St) (H:Hp) (x y:V) (v u:Value) (Q:VK),Inv X pins σ H s->RelV x v->RelV y u->r x y H Q ->
  wpAny (model X.prog X.w) X.A (f v u) (EP X pins σ Q) X.xe s
def UnR (X:Cx) (f:Value->Sem Value) (r:V->Hp->VK->Prop):Prop :=
 ∀ (pins:List (Addr×Obj)) (s:Shared) (σ:St) (H:Hp) (x:V) (v:Value) (Q:VK),Inv X pins σ H s->RelV x v->r x H Q ->
  wpAny (model X.prog X.w) X.A (f v) (EP X pins σ Q) X.xe s
def bZ (X:Cx) (f:Value) (r:List V->Hp->VK->Prop):Prop :=
 ∀ (pins:List (Addr×Obj)) (s:Shared) (σ:St) (H:Hp) (xs:List V) (us:List Value) (Q:VK),Inv X pins σ H s->Vals xs us->r xs H Q ->
  wpAny (model X.prog X.w) X.A (call f us) (EP X pins σ Q) X.xe s
def FU (X:Cx) (r:V->Hp->(Bool->Hp->Prop)->Prop):Prop :=
 ∀ (pins:List (Addr×Obj)) (s:Shared) (σ:St) (H:Hp) (x:V) (v:Value) (Q:Bool->Hp->Prop),Inv X pins σ H s->RelV x v->r x H Q ->
  wpAny (model X.prog X.w) X.A (truthy v) (TP X pins σ Q) X.xe s
def tOp (r:R2) (ta tb:TE):TE:=λ σ H Q=>ta σ H λ x H1=>tb σ H1 λ y H2=>r x y H2 Q
def tUn (r:V->Hp->VK->Prop) (ta:TE):TE:=λ σ H Q=>ta σ H λ x H1=>r x H1 Q
inductive rI (C:Int->Int->Prop) (g:Int->Int->V) (x:V) (y:V) (H:Hp) (Q:VK):Prop
 | mk (i:Int) (j:Int) (e_0:x=.int i) (e_1:y=.int j) (e_2:C i j) (e_3:Q (g i j) H):rI C g x y H Q
inductive rI0 (g:Int->Int->V) (x:V) (y:V) (H:Hp) (Q:VK):Prop
 | mk (i:Int) (j:Int) (e_0:x=.int i) (e_1:y=.int j) (e_2:Q (g i j) H):rI0 g x y H Q
def rU (g:Int->V):V->Hp->VK->Prop:=λ x H Q=>∃i,x=.int i/\Q (g i) H
section
variable {X:Cx} {a b c:Expr} {ta tb tc:TE} {pos:Pos}
theorem vj (ha:PE X a ta) (hb:PE X b tb) {pins:List (Addr×Obj)} {s:Shared} {σ:St} {H:Hp} {R:V->V->Hp->Prop} (I:Inv X pins σ H s)
  (h:ta σ H λ x H1=>tb σ H1 λ y H2=>R x y H2) {Q:Value->Shared->Prop} {f:Value->Value->Sem Value}
  (hf:∀v u s2 x y H2,Inv X pins σ H2 s2->RelV x v->RelV y u->R x y H2->wpAny (model X.prog X.w) X.A (f v u) Q X.xe s2) :
  wpAny (model X.prog X.w) X.A (eval a X.env) (λ v s₁=>wpAny (model X.prog X.w) X.A (eval b X.env) (λ u s₂=>wpAny (model X.prog X.w) X.A (f v u) Q X.xe s₂) X.xe s₁) X.xe s:=by
 refine thn (ha pins s σ H _ I h) λ v s1 ⟨x,H1,I1,r1,q1⟩=>?_
 refine thn (hb pins s1 σ H1 _ I1 q1) λ u s2 ⟨y,H2,I2,r2,q2⟩=>?_
 exact hf v u s2 x y H2 I2 r1 r2 q2
theorem ay {op:Operator} {r:R2} (ho:OpR X (binaryOp op) r) (ha:PE X a ta) (hb:PE X b tb):PE X (.BinOp a op b pos) (tOp r ta tb):=by
 intro pins s σ H Q I h
 exact wpAny_BinOp (vj ha hb I h λ v u s2 x y H2 I2 rx ry q=>ho pins s2 σ H2 x y v u Q I2 rx ry q)
theorem uF {op:UnaryOp} {r:V->Hp->VK->Prop} (ho:UnR X (unaryOp op) r) (ha:PE X a ta):PE X (.UnaryOp op a pos) (tUn r ta):=by
 intro pins s σ H Q I h
 exact UnaryOp_ (thn (ha pins s σ H _ I h) λ v s1 ⟨x,H1,I1,r1,q1⟩=>ho pins s1 σ H1 x v Q I1 r1 q1)
theorem opI {f:Value->Value->Sem Value} {C:Int->Int->Prop} {g:Int->Int->Int}
  (rule:∀ (i j:Int) (t u:Tok) (s:Shared) (Q:Value->Shared->Prop) (E:Value->Shared->Prop),C i j->Q (.int (g i j) s.toks) { s with toks:=s.toks + 1 }->wpAny (model X.prog X.w) X.A (f (.int i t) (.int j u)) Q E s) :
  OpR X f (rI C λ i j=>.int (g i j)):=by
 intro pins s σ H x y v u Q I rx ry h
 obtain ⟨i,j,rfl,rfl,hc,q⟩:=h
 obtain ⟨t,rfl⟩:=rx
 obtain ⟨t',rfl⟩:=ry
 exact rule i j t t' s _ _ hc ⟨.int (g i j),H,I.tok _,⟨_,rfl⟩,q⟩
theorem xO {f:Value->Value->Sem Value} {g:Int->Int->Int}
  (rule:∀ (i j:Int) (t u:Tok) (s:Shared) (Q:Value->Shared->Prop) (E:Value->Shared->Prop),Q (.int (g i j) s.toks) { s with toks:=s.toks + 1 }->wpAny (model X.prog X.w) X.A (f (.int i t) (.int j u)) Q E s) :
  OpR X f (rI0 λ i j=>.int (g i j)):=by
 intro pins s σ H x y v u Q I rx ry h
 obtain ⟨i,j,rfl,rfl,q⟩:=h
 obtain ⟨t,rfl⟩:=rx
 obtain ⟨t',rfl⟩:=ry
 exact rule i j t t' s _ _ ⟨.int (g i j),H,I.tok _,⟨_,rfl⟩,q⟩
theorem sJ {f:Value->Value->Sem Value} {g:Int->Int->Bool}
  (rule:∀ (i j:Int) (t u:Tok) (s:Shared) (Q:Value->Shared->Prop) (E:Value->Shared->Prop),Q (.bool (g i j)) s->wpAny (model X.prog X.w) X.A (f (.int i t) (.int j u)) Q E s) :
  OpR X f (rI0 λ i j=>.bl (g i j)):=by
 intro pins s σ H x y v u Q I rx ry h
 obtain ⟨i,j,rfl,rfl,q⟩:=h
 obtain ⟨t,rfl⟩:=rx
 obtain ⟨t',rfl⟩:=ry
 exact rule i j t t' s _ _ ⟨.bl (g i j),H,I,rfl,q⟩
def FV (i j:Int):Prop:=0<=j/\j<=1000000/\i.natAbs < 2 ^ 64
def CMul (i j:Int):Prop:=(-(2 ^ 64) < i/\i < 2 ^ 64)\/(-(2 ^ 64) < j/\j < 2 ^ 64)
theorem CMul.ok {i j:Int} (h:CMul i j):IntMulOk i j:=by
 rcases h with ⟨h1,h2⟩ | ⟨h1,h2⟩
 ·exact .of_left (intBits_le_64 h1 h2)
 ·exact .of_right (intBits_le_64 h1 h2)
theorem aQ:OpR X (binaryOp .Add) (rI0 λ i j=>.int (i + j)):=xO λ _ _ _ _ _ _ _ q=>add_int q
theorem aU:OpR X (binaryOp .Sub) (rI0 λ i j=>.int (i - j)):=xO λ _ _ _ _ _ _ _ q=>sub_int q
theorem dB:OpR X (binaryOp .Mult) (rI CMul λ i j=>.int (i * j)):=opI λ _ _ _ _ _ _ _ hc q=>mul_int q hc.ok
theorem fD:OpR X (binaryOp .Mod) (rI (λ _ j=>0 < j) λ i j=>.int (i % j)):=opI λ i j _ _ _ _ _ hc q=>by
 have h1:(0:Int) < j:=hc
 exact mod_int' (by omega) (by rw [Int.fmod_eq_emod_of_nonneg i (by omega)]; exact q)
theorem fE:OpR X (binaryOp .Pow) (rI FV λ i j=>.int (i ^ j.toNat)):=opI λ _ _ _ _ _ _ _ hc q=>pow_int_small hc.1 hc.2.1 hc.2.2 q
theorem unI {f:Value->Sem Value} {g:Int->Int}
  (rule:∀ (i:Int) (t:Tok) (s:Shared) (Q:Value->Shared->Prop) (E:Value->Shared->Prop),Q (.int (g i) s.toks) { s with toks:=s.toks + 1 }->wpAny (model X.prog X.w) X.A (f (.int i t)) Q E s) :
  UnR X f (rU λ i=>.int (g i)):=by
 intro pins s σ H x v Q I rx h
 obtain ⟨i,rfl,q⟩:=h
 obtain ⟨t,rfl⟩:=rx
 exact rule i t s _ _ ⟨.int (g i),H,I.tok _,⟨_,rfl⟩,q⟩
theorem pY:UnR X (unaryOp .USub) (rU λ i=>.int (-i)):=unI λ _ _ _ _ _ q=>neg_int q
end
def xP:V->V->Bool
 | .non,.non=>true | .non,.int _=>true | .int _,.non=>true | .non,.bl _=>true | .bl _,.non=>true | .non,.str _=>true | .str _,.non=>true
 | .int _,.int _=>true | .bl _,.bl _=>true | .str _,.str _=>true | .byt _,.byt _=>true
 | .int _,.str _=>true | .str _,.int _=>true | .bl _,.str _=>true | .str _,.bl _=>true
 | _,_=>false
def rEq:R2:=λ x y H Q=>xP x y=true/\Q (.bl (decide (x=y))) H
def rNe:R2:=λ x y H Q=>xP x y=true/\Q (.bl (!decide (x=y))) H
theorem iY {i j:Int}:decide (V.int i=V.int j)=(i == j):=by
 rw [Bool.eq_iff_iff]
 simp
theorem pZ {i j:Bool}:decide (V.bl i=V.bl j)=(i == j):=by
 rw [Bool.eq_iff_iff]
 simp
theorem lU {i j:Str}:decide (V.str i=V.str j)=(i == j):=by
 rw [Bool.eq_iff_iff]
 simp
theorem lV {i j:Array UInt8}:decide (V.byt i=V.byt j)=(i.toList == j.toList):=by
 rw [Bool.eq_iff_iff]
 cases i
 cases j
 simp
section
variable {X:Cx} {a b c:Expr} {ta tb tc:TE} {pos:Pos}
theorem aL {pins:List (Addr×Obj)} {σ:St} {H:Hp} {s:Shared} {Q:VK} {k k':Bool} (I:Inv X pins σ H s) (q:Q (.bl k) H) (e:k=k'):EP X pins σ Q (.bool k') s:=by
 subst e
 exact ⟨.bl k,H,I,Y,q⟩
theorem bn:OpR X (compareOp .Eq) rEq:=by
 intro pins s σ H x y v u Q I rx ry h
 obtain ⟨hs,q⟩:=h
 cases x with
 | non =>
  cases rx
  cases y with
  | non=>cases ry; exact PySem.EqNone.eq_none_none (aL I q (by simp))
  | bl j=>cases ry; exact PySem.EqNone.eq_none_bool (aL I q (by simp))
  | int j=>obtain ⟨t',rfl⟩:=ry; exact PySem.EqNone.eq_none_int (aL I q (by simp))
  | str j=>obtain ⟨t',rfl⟩:=ry; exact PySem.EqNone.eq_none_str (aL I q (by simp))
  | _=>exact absurd (show false=true from hs) Bool.false_ne_true
 | bl i =>
  cases rx
  cases y with
  | non=>cases ry; exact PySem.EqNone.eq_bool_none (aL I q (by simp))
  | bl j=>cases ry; exact eq_bool (aL I q pZ)
  | str j=>obtain ⟨t',rfl⟩:=ry; exact PySem.EqMixed.eq_bool_str (aL I q (by simp))
  | _=>exact absurd (show false=true from hs) Bool.false_ne_true
 | int i =>
  obtain ⟨t,rfl⟩:=rx
  cases y with
  | non=>cases ry; exact PySem.EqNone.eq_int_none (aL I q (by simp))
  | int j=>obtain ⟨t',rfl⟩:=ry; exact eq_int (aL I q iY)
  | str j=>obtain ⟨t',rfl⟩:=ry; exact PySem.EqMixed.eq_int_str (aL I q (by simp))
  | _=>exact absurd (show false=true from hs) Bool.false_ne_true
 | str i =>
  obtain ⟨t,rfl⟩:=rx
  cases y with
  | non=>cases ry; exact PySem.EqNone.eq_str_none (aL I q (by simp))
  | bl j=>cases ry; exact PySem.EqMixed.eq_str_bool (aL I q (by simp))
  | int j=>obtain ⟨t',rfl⟩:=ry; exact PySem.EqMixed.eq_str_int (aL I q (by simp))
  | str j=>obtain ⟨t',rfl⟩:=ry; exact eq_str (aL I q lU)
  | _=>exact absurd (show false=true from hs) Bool.false_ne_true
 | byt i =>
  obtain ⟨t,rfl⟩:=rx
  cases y with
  | byt j=>obtain ⟨t',rfl⟩:=ry; exact PySem.W.eq_bytes (aL I q lV)
  | _=>exact absurd (show false=true from hs) Bool.false_ne_true
 | _=>cases y <;> exact absurd (show false=true from hs) Bool.false_ne_true
theorem gQ:OpR X (compareOp .NotEq) rNe:=by
 intro pins s σ H x y v u Q I rx ry h
 obtain ⟨hs,q⟩:=h
 cases x with
 | non =>
  cases rx
  cases y with
  | non=>cases ry; exact PySem.EqNone.ne_none_none (aL I q (by simp))
  | bl j=>cases ry; exact PySem.EqNone.ne_none_bool (aL I q (by simp))
  | int j=>obtain ⟨t',rfl⟩:=ry; exact PySem.EqNone.ne_none_int (aL I q (by simp))
  | str j=>obtain ⟨t',rfl⟩:=ry; exact PySem.EqNone.ne_none_str (aL I q (by simp))
  | _=>exact absurd (show false=true from hs) Bool.false_ne_true
 | bl i =>
  cases rx
  cases y with
  | non=>cases ry; exact PySem.EqNone.ne_bool_none (aL I q (by simp))
  | bl j=>cases ry; exact ne_bool (aL I q (congrArg not pZ))
  | str j=>obtain ⟨t',rfl⟩:=ry; exact PySem.EqMixed.ne_bool_str (aL I q (by simp))
  | _=>exact absurd (show false=true from hs) Bool.false_ne_true
 | int i =>
  obtain ⟨t,rfl⟩:=rx
  cases y with
  | non=>cases ry; exact PySem.EqNone.ne_int_none (aL I q (by simp))
  | int j=>obtain ⟨t',rfl⟩:=ry; exact ne_int (aL I q (congrArg not iY))
  | str j=>obtain ⟨t',rfl⟩:=ry; exact PySem.EqMixed.ne_int_str (aL I q (by simp))
  | _=>exact absurd (show false=true from hs) Bool.false_ne_true
 | str i =>
  obtain ⟨t,rfl⟩:=rx
  cases y with
  | non=>cases ry; exact PySem.EqNone.ne_str_none (aL I q (by simp))
  | bl j=>cases ry; exact PySem.EqMixed.ne_str_bool (aL I q (by simp))
  | int j=>obtain ⟨t',rfl⟩:=ry; exact PySem.EqMixed.ne_str_int (aL I q (by simp))
  | str j=>obtain ⟨t',rfl⟩:=ry; exact ne_str (aL I q (congrArg not lU))
  | _=>exact absurd (show false=true from hs) Bool.false_ne_true
 | byt i =>
  obtain ⟨t,rfl⟩:=rx
  cases y with
  | byt j=>obtain ⟨t',rfl⟩:=ry; exact PySem.W.ne_bytes (aL I q (congrArg not lV))
  | _=>exact absurd (show false=true from hs) Bool.false_ne_true
 | _=>cases y <;> exact absurd (show false=true from hs) Bool.false_ne_true
theorem lW:OpR X (compareOp .Lt) (rI0 λ i j=>.bl (decide (i < j))):=sJ λ _ _ _ _ _ _ _ q=>lt_int q
theorem ix:OpR X (compareOp .LtE) (rI0 λ i j=>.bl (decide (i<=j))):=sJ λ _ _ _ _ _ _ _ q=>le_int q
theorem uG:OpR X (compareOp .Gt) (rI0 λ i j=>.bl (decide (j < i))):=sJ λ _ _ _ _ _ _ _ q=>gt_int q
theorem uH:OpR X (compareOp .GtE) (rI0 λ i j=>.bl (decide (j<=i))):=sJ λ _ _ _ _ _ _ _ q=>ge_int q
theorem vk:OpR X (compareOp .Is) (λ x y H Q=>y=.non/\Q (.bl (decide (x=.non))) H):=by
 intro pins s σ H x y v u Q I rx ry h
 obtain ⟨rfl,q⟩:=h
 cases ry
 refine is_none_gen (aL I q ?_)
 cases x <;> first
  | (cases rx; rfl)
  | (obtain ⟨t,rfl⟩:=rx; rfl)
theorem sK:OpR X (compareOp .IsNot) (λ x y H Q=>y=.non/\Q (.bl (!decide (x=.non))) H):=by
 intro pins s σ H x y v u Q I rx ry h
 obtain ⟨rfl,q⟩:=h
 cases ry
 refine isnot_none_gen (aL I q ?_)
 cases x <;> first
  | (cases rx; rfl)
  | (obtain ⟨t,rfl⟩:=rx; rfl)
theorem aD (b:Expr) {op:CmpOp} (h:op≠.In:=by decide) (h2:op≠.NotIn:=by decide):behindInMarks op b=false:=by
 have e1:(op == CmpOp.In)=false:=by cases op <;> first | rfl | exact absurd rfl h
 have e2:(op == CmpOp.NotIn)=false:=by cases op <;> first | rfl | exact absurd rfl h2
 cases b <;> simp [behindInMarks,e1,e2]
theorem bq {op:CmpOp} {r:R2} (ho:OpR X (compareOp op) r) (ha:PE X a ta) (hb:PE X b tb) (hm:behindInMarks op b=false):PE X (.Compare a [op] [b] pos) (tOp r ta tb):=by
 intro pins s σ H Q I h
 exact wpAny_Compare1 (vj ha hb I h λ v u s2 x y H2 I2 rx ry q=>ho pins s2 σ H2 x y v u Q I2 rx ry q) hm
def uI (t:TE):TT:=λ σ H Q=>t σ H λ x H'=>IsB x λ k=>Q k H'
theorem aB {op:CmpOp} {r:R2} (ho:OpR X (compareOp op) r) (ha:PE X a ta) (hb:PE X b tb) (hm:behindInMarks op b=false):PT X (.Compare a [op] [b] pos) (uI (tOp r ta tb)):=by
 intro pins s σ H Q I h
 refine wpAny_isTrue_Compare1 (thn (ha pins s σ H _ I h) λ v s1 ⟨x,H1,I1,r1,q1⟩=>thn (hb pins s1 σ H1 _ I1 q1) λ u s2 ⟨y,H2,I2,r2,q2⟩ =>
  thn (ho pins s2 σ H2 x y v u _ I2 r1 r2 q2) λ c s3 ⟨z,H3,I3,r3,k,e,q3⟩=>?_) hm
 subst e
 cases r3
 exact wpAny_truthy_bool ⟨H3,I3,q3⟩
def vm (r r':R2) (ta tb tc:TE):TE:=λ σ H Q=>ta σ H λ x H1=>tb σ H1 λ y H2=>r x y H2 λ z H3=>∃k,z=.bl k /\
 (if k=true then tc σ H3 λ w' H4=>r' y w' H4 Q else Q (.bl false) H3)
theorem qb {op op':CmpOp} {r r':R2} (ho:OpR X (compareOp op) r) (ho':OpR X (compareOp op') r') (ha:PE X a ta) (hb:PE X b tb) (hc:PE X c tc)
  (hm:lastMarks [op,op'] [b,c]=false:=by with_unfolding_all rfl):PT X (.Compare a [op,op'] [b,c] pos) (uI (vm r r' ta tb tc)):=by
 intro pins s σ H Q I h
 refine isTrue_chain (thn (ha pins s σ H _ I h) λ v s1 ⟨x,H1,I1,r1,q1⟩=>test_link (thn (hb pins s1 σ H1 _ I1 q1) λ u s2 ⟨y,H2,I2,r2,q2⟩ =>
  thn (ho pins s2 σ H2 x y v u _ I2 r1 r2 q2) λ d s3 ⟨z,H3,I3,r3,k,e,q3⟩=>?_)) hm
 subst e
 cases r3
 refine wpAny_truthy_bool ?_
 cases k with
 | false =>
  obtain ⟨k',e',q'⟩:=q3
  cases e'
  exact ite_ff ⟨H3,I3,q'⟩
 | true =>
  refine ite_tt (test_last (thn (hc pins s3 σ H3 _ I3 q3) λ w' s4 ⟨z',H4,I4,r4,q4⟩=>thn (ho' pins s4 σ H4 y z' u w' _ I4 r2 r4 q4) λ d' s5 ⟨z2,H5,I5,r5,k2,e2,q5⟩=>?_))
  subst e2
  cases r5
  exact wpAny_truthy_bool ⟨H5,I5,q5⟩
def xQ (K:PySem.W.Frag) (x:V) (H:Hp) (k:Bool):Prop :=
 match x with
 | .non=>k=false
 | .bl b=>k=b
 | .int i=>k=(i != 0)
 | .str y=>y.length<=sizeLine/\k=((y.length:Int) != 0)
 | .byt y=>y.size<=sizeLine/\k=((y.size:Int) != 0)
 | .ref p=>(∃xs,SqL K H p xs/\k=!xs.isEmpty)\/(∃xs,SqT K H p xs/\k=!xs.isEmpty)\/∃kvs,H p=some (.dK kvs)/\k=!kvs.isEmpty
 | _=>False
theorem kJ {κ:Type} {kvs:List (κ×V)} {vs:List (κ×Value)} (r:KV kvs vs):(!vs.isEmpty)=!kvs.isEmpty:=by
 cases r <;> rfl
theorem gR {xs:List V} {its:List Value} (r:Vals xs its):(!its.toArray.isEmpty)=!xs.isEmpty:=by
 cases r <;> simp
theorem eH:(sizeLine:Nat) < 2 ^ 63:=by rw [sizeLine_eq]; decide
theorem vn:FU X (λ x H Q=>∃k,xQ X.K x H k/\Q k H):=by
 intro pins s σ H x v Q I rx h
 obtain ⟨k,e,q⟩:=h
 have hl:=eH
 have hs:sizeLine=16777216:=sizeLine_eq
 cases x with
 | non =>
  cases rx
  have e':k=false:=e
  subst e'
  exact truthy_none ⟨H,I,q⟩
 | bl b =>
  cases rx
  have e':k=b:=e
  subst e'
  exact wpAny_truthy_bool ⟨H,I,q⟩
 | int i =>
  obtain ⟨t,rfl⟩:=rx
  have e':k=(i != 0):=e
  subst e'
  exact PySem.P.truthy_int ⟨H,I,q⟩
 | str y =>
  obtain ⟨t,rfl⟩:=rx
  obtain ⟨hy,e'⟩:y.length<=sizeLine/\k=((y.length:Int) != 0):=e
  subst e'
  exact PySem.P.truthy_str (by omega) ⟨H,I.tok _,q⟩
 | byt y =>
  obtain ⟨t,rfl⟩:=rx
  obtain ⟨hy,e'⟩:y.size<=sizeLine/\k=((y.size:Int) != 0):=e
  subst e'
  exact PySem.W.truthy_bytes (by omega) ⟨H,I.tok _,q⟩
 | ref p =>
  cases rx
  have e':(∃xs,SqL X.K H p xs/\k=!xs.isEmpty)\/(∃xs,SqT X.K H p xs/\k=!xs.isEmpty)\/∃kvs,H p=some (.dK kvs)/\k=!kvs.isEmpty:=e
  rcases e' with ⟨xs,hx,e'⟩ | ⟨xs,hx,e'⟩ | ⟨kvs,hx,e'⟩
  ·subst e'
   obtain ⟨its,r,pl,hz⟩:=I.list hx
   have hlen:=r.length
   exact wpAny_truthy_list pl.isList (by simp only [List.size_toArray]; omega) ⟨H,I.tok _,by rw [gR r]; exact q⟩
  ·subst e'
   obtain ⟨its,r,pl,hz⟩:=I.tuple hx
   have hlen:=r.length
   exact truthy_tuple pl (by simp only [List.size_toArray]; omega) ⟨H,I.tok _,by rw [gR r]; exact q⟩
  ·subst e'
   obtain ⟨hz,hS,vs,r,m⟩:kvs.length<=sizeLine/\(p == sysModules)=false/\∃vs,KV kvs vs/\s.heap.DictOf (iR X.prog X.w) p vs:=I.hok p _ hx
   have hlen:kvs.length=vs.length:=Paired.length r
   exact wpAny_truthy_dict hS m (by omega) ⟨H,I.tok _,by rw [kJ r]; exact q⟩
 | _=>exact (show False from e).elim
theorem eS (ha:PE X a ta) (he:∀aV,isTrue a X.env aV=(do let v<-aV; standAt a.pos; holding [v] (truthy v))) :
  PT X a (λ σ H Q=>ta σ H λ x H'=>∃k,xQ X.K x H' k/\Q k H'):=by
 intro pins s σ H Q I h
 exact isTrue_plain (thn (ha pins s σ H _ I h) λ v s1 ⟨x,H1,I1,r1,q1⟩=>vn pins s1 σ H1 x v Q I1 r1 q1) (he _)
theorem eD {x:V} {us:List Value} (r:Vals [x] us):∃u,us=[u]/\RelV x u:=by
 cases r with
 | cons r1 r2=>cases r2; exact ⟨_,Y,r1⟩
theorem uJ {x y:V} {us:List Value} (r:Vals [x,y] us):∃u w',us=[u,w']/\RelV x u/\RelV y w':=by
 cases r with
 | cons r1 r2 =>
  cases r2 with
  | cons r3 r4=>cases r4; exact ⟨_,_,Y,r1,r3⟩
theorem jG:bZ X (.builtin "abs") (λ xs H Q=>∃i,xs=[.int i]/\Q (.int (if i < 0 then -i else i)) H):=by
 intro pins s σ H xs us Q I r h
 obtain ⟨i,rfl,q⟩:=h
 obtain ⟨u,rfl,t,rfl⟩:=eD r
 exact call_abs_int λ u tk=>⟨.int (if i < 0 then -i else i),H,I.tok _,⟨_,Y⟩,q⟩
theorem fF (hc:X.calm=true):bZ X (.builtin "max") (λ xs H Q=>∃i j,xs=[.int i,.int j]/\Q (.int (if j > i then j else i)) H):=by
 intro pins s σ H xs us Q I r h
 obtain ⟨i,j,rfl,q⟩:=h
 obtain ⟨u,w',rfl,⟨t,rfl⟩,⟨t',rfl⟩⟩:=uJ r
 refine max_two_ints (I.ok.hd hc) λ h' tk k=>⟨_,H,I.kept k,?_,q⟩
 by_cases hj:j > i
 ·rw [if_pos hj,if_pos hj]; exact ⟨_,Y⟩
 ·rw [if_neg hj,if_neg hj]; exact ⟨_,Y⟩
theorem fG (hc:X.calm=true):bZ X (.builtin "min") (λ xs H Q=>∃i j,xs=[.int i,.int j]/\Q (.int (if j < i then j else i)) H):=by
 intro pins s σ H xs us Q I r h
 obtain ⟨i,j,rfl,q⟩:=h
 obtain ⟨u,w',rfl,⟨t,rfl⟩,⟨t',rfl⟩⟩:=uJ r
 refine min_two_ints (I.ok.hd hc) λ h' tk k=>⟨_,H,I.kept k,?_,q⟩
 by_cases hj:j < i
 ·rw [if_pos hj,if_pos hj]; exact ⟨_,Y⟩
 ·rw [if_neg hj,if_neg hj]; exact ⟨_,Y⟩
theorem cj:bZ X (.type "int") (λ xs H Q=>(∃i,xs=[.int i]/\Q (.int i) H)\/∃k,xs=[.bl k]/\Q (.int (if k then 1 else 0)) H):=by
 intro pins s σ H xs us Q I r h
 rcases h with ⟨i,rfl,q⟩ | ⟨k,rfl,q⟩
 ·obtain ⟨u,rfl,t,rfl⟩:=eD r
  exact call_int_int ⟨.int i,H,I,⟨_,rfl⟩,q⟩
 ·obtain ⟨u,rfl,r1⟩:=eD r
  cases r1
  exact call_int_bool ⟨.int (if k then 1 else 0),H,I.tok _,⟨_,rfl⟩,q⟩
end
end L2
namespace L2
open PySem PySem.Spec PyProof.Rows
structure ObjM (h:Heap) (x dx C:Addr) (mA:Str->Option Value):Prop where
 obj:h.get? x=some (PySem.W.instObj C dx)
 ns:h.Ns1 dx mA
 ne:dx≠x
theorem ng {h:Heap} {dx:Addr} {mA:Str->Option Value} (n:h.Ns1 dx mA):∃od,h.get? dx=some od/\∀name,PySem.W.lookIn name od=some (mA name):=by
 obtain ⟨o,es,ep,ho,hd,hk,_,hm⟩:=n
 refine ⟨o,ho,λ name=>?_⟩
 have e:=hm name
 unfold nsFind findBy at e
 rw [<- Array.find?_toList] at e
 unfold PySem.W.lookIn
 rw [hd]
 dsimp only
 split
 ·rename_i y q
  rw [q] at e
  exact congrArg some e
 ·rename_i q
  rw [q] at e
  have a:es.toList.any (·.refKey)=false:=by
   rw [List.any_eq_false]
   intro y hy
   obtain ⟨z,t,hkey⟩:=hk y (Array.mem_toList_iff.mp hy)
   simp [DictEntry.refKey,hkey]
  have a':¬ es.toList.any (·.refKey)=true:=by rw [a]; exact Bool.false_ne_true
  rw [if_neg a']
  exact congrArg some e
theorem ObjM.look {h:Heap} {x dx C:Addr} {mA:Str->Option Value} (I:ObjM h x dx C mA):∃od,PySem.W.InstAt h x (PySem.W.instObj C dx) C (some od)/\∀name,PySem.W.lookIn name od=some (mA name) :=
 let ⟨od,ho,hl⟩:=ng I.ns
 ⟨od,⟨I.obj,rfl,rfl,ho⟩,hl⟩
section
variable {prog:Program} {w:World} {A:Around} {E:Value->Shared->Prop} {s:Shared} {K:PySem.W.Frag} {x dx C f:Addr} {mA:Str->Option Value} {name:Str} {v:Value}
theorem sL {expr:Bool} {Q:Value->Shared->Prop} (X:K.In s.heap) (I:ObjM s.heap x dx C mA) (hg:PySem.W.plainGet K C name=true) (hh:PySem.W.hasDictIn K C=true)
  (ha:PySem.W.findIn K (.ref C) name=some none) (hv:mA name=some v) (hv':PySem.W.handedIn v=true) (h:Q v { s with toks:=s.toks + 1 }) :
  wpAny (model prog w) A (getAttr (.ref x) name expr) Q E s:=by
 obtain ⟨od,J,hl⟩:=I.look
 exact PySem.W.get_value X J (PySem.W.plainGet_of hg).1 (PySem.W.findObj_own hh ha rfl (by rw [hl,hv])) hv' h
theorem qc {pl:Sem Bool} {Q:Value×List Value->Shared->Prop} (X:K.In s.heap) (I:ObjM s.heap x dx C mA) (hg:PySem.W.plainGet K C name=true)
  (hf:PySem.W.findIn K (.ref C) name=some (some (.ref f))) (ht:PySem.W.isFn K (.ref f)=true) (hv:mA name=none) (h:Q (.ref f,[.ref x]) s) :
  wpAny (model prog w) A (getMethod (.ref x) name pl) Q E s:=by
 obtain ⟨od,J,hl⟩:=I.look
 exact PySem.W.method_fn X J (PySem.W.plainGet_of hg).1 (PySem.W.plainGet_of hg).2 hf (beq_iff_eq.mp ht) (by show (PySem.W.lookIn name od).map (·.isSome)=some false; rw [hl,hv]; rfl) h
theorem sM {ns:List Str} {Q:Unit->Shared->Prop} (X:K.In s.heap) (I:ObjM s.heap x dx C mA)
  (hs:PySem.W.findIn K (.ref C) "__setattr__" = some (some (.builtin "object.__setattr__"))) (hp:PySem.W.plainOver K C=true) (ht:PySem.W.takerIn K C name=some none) (hh:PySem.W.hasDictIn K C=true)
  (hw:PySem.Within mA ns) (hsz:ns.length<=sizeLine)
  (h:∀h',ObjM h' x dx C (λ y=>if y=name then some v else mA y)->Heap.SameBut dx s.heap h'->Q () { s with heap:=h',toks:=s.toks + 2 }) :
  wpAny (model prog w) A (setAttr (.ref x) name v) Q E s:=by
 obtain ⟨od,J,hl⟩:=I.look
 refine PySem.W.set_plain X J hs (PySem.W.osa_open (s:={ s with toks:=s.toks + 1 }) (r:=none) X J hp ht λ b=>?_)
 obtain ⟨cd,hc,hd'⟩:=PySem.W.any_some hh
 have hx:s.heap.get? x=some ⟨.ref C,some dx,.plain,#[]⟩:=I.obj
 refine wpAny_bind (wpAny_pure (wpAny_bind (wpAny_bind (wpAny_loadPart hx (wpAny_bind (PySem.W.Looks.here (s:={ s with toks:=s.toks + 1 }) (PySem.W.looks_clsIn X hc) ?_))))))
 rw [hd']
 refine wpAny_pure (a:=some dx) (wpAny_bind (wpAny_pure (wpAny_bind ?_)))
 refine wpAny_nsSet1 (s:={ s with toks:=s.toks + 1 }) I.ns λ h' hn2 hs2=>?_
 obtain ⟨oD,esD,epD,hoD,hdD,hcD⟩:=hn2.count (PySem.Within.cons name v hw)
 refine wpAny_bind (wpAny_lookBehind hoD (by rw [hdD]; exact pastItsLine_dict (Nat.le_trans hcD (by rw [List.length_cons]; omega))) ?_)
 exact wpAny_pure (h _ ⟨(hs2.2 _ (Ne.symm I.ne)).trans I.obj,hn2,I.ne⟩ hs2)
theorem qd {R:Result->Shared->Prop} {vs:List Value} {kw:List (Str×Value)} (X:K.In s.heap) (hm:PySem.W.makesIn K C=true)
  (hi:PySem.W.findIn K (.ref C) "__init__" = some (some (.ref f))) (hf:PySem.W.typeIn K (.ref f)=some (.type "function"))
  (h:codeAny (model prog w) (A.under (.builtin "type.__call__" ⟨.ref C :: vs,kw⟩)) (.call (.ref f) ⟨.ref (s.heap.objs.size + 1) :: vs,kw⟩) (PySem.W.InitBack (s.heap.objs.size + 1) R)
   { s with heap:=(s.heap.push PySem.W.emptyDict).push (PySem.W.instObj C s.heap.objs.size) }) :
  codeAny (model prog w) A (.call (.ref C) ⟨vs,kw⟩) R s:=by
 obtain ⟨hh,g,d,t,os⟩:=s
 exact PySem.W.make_core (PySem.W.makes_of X hm) (PySem.W.looks_findIn X hi) (λ self=>PySem.W.bind_fn X self hf) (.inl rfl) h
end
def cD (f:Str) (v:V):List (Str×V)->List (Str×V)
 | []=>[(f,v)]
 | (g,x) :: r=>if g=f then (g,v) :: r else (g,x) :: cD f v r
theorem bz (f g:Str) (v:V):∀fs:List (Str×V),(cD f v fs).lookup g=if g=f then some v else fs.lookup g
 | []=>by
  show List.lookup g [(f,v)]=_
  by_cases h:g=f
  ·have hb:(g == f)=true:=beq_iff_eq.mpr h
   simp only [List.lookup,hb,if_pos h]
  ·have hb:(g == f)=false:=beq_eq_false_iff_ne.mpr h
   simp only [List.lookup,hb,if_neg h]
 | (k,x) :: r=>by
  have ih:=bz f g v r
  rw [show cD f v ((k,x) :: r)=(if k=f then (k,v) :: r else (k,x) :: cD f v r) from rfl]
  by_cases hk:k=f
  ·rw [if_pos hk]
   by_cases h:g=k
   ·have hb:(g == k)=true:=beq_iff_eq.mpr h
    simp only [List.lookup,hb,if_pos (h.trans hk)]
   ·have hb:(g == k)=false:=beq_eq_false_iff_ne.mpr h
    simp only [List.lookup,hb,if_neg (λ e:g=f=>h (e.trans hk.symm))]
  ·rw [if_neg hk]
   by_cases h:g=k
   ·have hb:(g == k)=true:=beq_iff_eq.mpr h
    simp only [List.lookup,hb,if_neg (λ e:g=f=>hk (h.symm.trans e))]
   ·have hb:(g == k)=false:=beq_eq_false_iff_ne.mpr h
    simp only [List.lookup,hb]
    exact ih
theorem fH (f:Str) (v:V):∀fs:List (Str×V),f∈(cD f v fs).map (·.1)/\∀g,g∈fs.map (·.1)->g∈(cD f v fs).map (·.1)
 | []=>⟨by simp [cD],λ g h=>by simp at h⟩
 | (k,x) :: r=>by
  obtain ⟨i1,i2⟩:=fH f v r
  rw [show cD f v ((k,x) :: r)=(if k=f then (k,v) :: r else (k,x) :: cD f v r) from rfl]
  by_cases hk:k=f
  ·rw [if_pos hk]
   subst hk
   exact ⟨by simp,λ g h=>by simpa using h⟩
  ·rw [if_neg hk]
   refine ⟨?_,λ g h=>?_⟩
   ·rw [List.map_cons]
    exact List.mem_cons_of_mem _ i1
   ·rw [List.map_cons] at h ⊢
    rcases List.mem_cons.mp h with e | e
    ·exact List.mem_cons.mpr (.inl e)
    ·exact List.mem_cons_of_mem _ (i2 g e)
theorem dC (f:Str) (v:V):∀fs:List (Str×V),(cD f v fs).length<=fs.length + 1
 | []=>by simp [cD]
 | (k,x) :: r=>by
  have ih:=dC f v r
  rw [show cD f v ((k,x) :: r)=(if k=f then (k,v) :: r else (k,x) :: cD f v r) from rfl]
  by_cases hk:k=f
  ·rw [if_pos hk,List.length_cons,List.length_cons]; omega
  ·rw [if_neg hk,List.length_cons,List.length_cons]; omega
theorem RelO.some_of {v:V} {o:Option Value} (r:RelO (some v) o):∃u,o=some u/\RelV v u:=by
 cases o with
 | none=>exact (show False from r).elim
 | some u=>exact ⟨u,Y,r⟩
theorem RelO.none_of {o:Option Value} (r:RelO none o):o=none:=by
 cases o with
 | none=>rfl
 | some u=>exact (show False from r).elim
theorem nh {v:V} {u:Value} (r:RelV v u):PySem.W.handedIn u=true:=by
 cases v with
 | non=>cases (show u=Value.none from r); rfl
 | bl b=>cases (show u=Value.bool b from r); rfl
 | int i=>obtain ⟨t,e⟩:=(show ∃t,u=Value.int i t from r); cases e; rfl
 | str x=>obtain ⟨t,e⟩:=(show ∃t,u=Value.str x t from r); cases e; rfl
 | byt b=>obtain ⟨t,e⟩:=(show ∃t,u=Value.bytes b t from r); cases e; rfl
 | flt b=>obtain ⟨t,e⟩:=(show ∃t,u=Value.float b t from r); cases e; rfl
 | ref a=>cases (show u=Value.ref a from r); rfl
 | ty n=>cases (show u=Value.type n from r); rfl
section
variable {P:Program} {w:World} {H H':Hp} {h h':Heap} {a C dx:Addr} {fs fs':List (Str×V)}
theorem eU (hok:HOk P w H h) (e:H a=some (.ins C dx fs)):∃mA,ObjM h a dx C mA/\(∀f,RelO (fs.lookup f) (mA f))/\PySem.Within mA (fs.map (·.1))/\fs.length<=1000/\H dx=some (.own a):=by
 obtain ⟨d,z,ne,ob,mA,n,r,q⟩:=(show ObjOk P w H h a (.ins C dx fs) from hok a _ e)
 exact ⟨mA,⟨ob,n,ne⟩,r,q,z,d⟩
end
structure Cls (K:PySem.W.Frag) (C:Addr):Prop where
 pg:PySem.W.plainGet K C Str.empty=true
 hd:PySem.W.hasDictIn K C=true
 po:PySem.W.plainOver K C=true
 sa:PySem.W.findIn K (.ref C) "__setattr__" = some (some (.builtin "object.__setattr__"))
theorem Cls.get {K:PySem.W.Frag} {C:Addr} (c:Cls K C) (f:Str):PySem.W.plainGet K C f=true:=c.pg
def NoAttr (K:PySem.W.Frag) (C:Addr) (f:Str):Prop:=PySem.W.findIn K (.ref C) f=some none
theorem NoAttr.taker {K:PySem.W.Frag} {C:Addr} {f:Str} (n:NoAttr K C f):PySem.W.takerIn K C f=some none:=by
 unfold PySem.W.takerIn
 rw [show PySem.W.findIn K (.ref C) f=some none from n]
 rfl
structure Con (K:PySem.W.Frag) (C:Addr) (f:Str) (v:V) (u:Value):Prop where
 at_:PySem.W.findIn K (.ref C) f=some (some u)
 rel:RelV v u
 get:PySem.W.specialIn K u "__get__" = some none
 cp:PySem.W.copiedNames.contains f=false
structure Meth (K:PySem.W.Frag) (C:Addr) (m:Str) (f:Addr):Prop where
 at_:PySem.W.findIn K (.ref C) m=some (some (.ref f))
 fn:PySem.W.isFn K (.ref f)=true
 kp:PySem.W.keepIn K (.ref f)=true
section
variable {X:Cx} {pins:List (Addr×Obj)} {σ:St} {H:Hp} {s:Shared} {a C dx:Addr} {fs:List (Str×V)} {f:Str} {v:V} {A:Around} {E:Value->Shared->Prop}
theorem kL {b:Bool} {Q:Value->Shared->Prop} (I:Inv X pins σ H s) (e:H a=some (.ins C dx fs)) (c:Cls X.K C) (n:NoAttr X.K C f) (l:fs.lookup f=some v)
  (h:∀u s',Inv X pins σ H s'->RelV v u->Q u s'):wpAny (model X.prog X.w) A (getAttr (.ref a) f b) Q E s:=by
 obtain ⟨mA,O,r,_,_,_⟩:=eU I.hok e
 obtain ⟨u,hu,ru⟩:=RelO.some_of (v:=v) (o:=mA f) (by rw [<- l]; exact r f)
 exact sL I.kIn O (c.get f) c.hd n hu (nh ru) (h u _ (I.tok _) ru)
theorem eI {m:Str} {g:Addr} {pl:Sem Bool} {Q:Value×List Value->Shared->Prop} (I:Inv X pins σ H s) (e:H a=some (.ins C dx fs)) (c:Cls X.K C) (k:Meth X.K C m g) (l:fs.lookup m=none)
  (h:Q (.ref g,[.ref a]) s):wpAny (model X.prog X.w) A (getMethod (.ref a) m pl) Q E s:=by
 obtain ⟨mA,O,r,_,_,_⟩:=eU I.hok e
 have hn:mA m=none:=RelO.none_of (by rw [<- l]; exact r m)
 exact qc I.kIn O (c.get m) k.at_ k.fn hn h
theorem kM {y:V} {u:Value} {Q:Unit->Shared->Prop} (I:Inv X pins σ H s) (e:H a=some (.ins C dx fs)) (c:Cls X.K C) (n:NoAttr X.K C f) (hl:fs.length < 1000) (ry:RelV y u)
  (h:∀s',Inv X pins σ (upd H a (.ins C dx (cD f y fs))) s'->Q () s'):wpAny (model X.prog X.w) A (setAttr (.ref a) f u) Q E s:=by
 obtain ⟨mA,O,r,wi,_,ho⟩:=eU I.hok e
 have hz:(fs.map (·.1)).length<=sizeLine:=by rw [List.length_map,sizeLine_eq]; omega
 refine sM I.kIn O c.sa c.po n.taker c.hd wi hz λ h' O' sb=>h _ ?_
 have hd:∃o,h'.get? dx=some o:=let ⟨o,_,_,e',_⟩:=O'.ns; ⟨o,e'⟩
 refine I.write (x:=a) (e:=dx) (by rw [e]; exact True.intro) (.inr ho) (λ b q hb z=>(sb.2 b hb).trans z) hd ?_
 refine ⟨by rw [am O.ne]; exact ho,?_,O.ne,O'.obj,_,O'.ns,λ g=>?_,λ g hg=>?_⟩
 ·have:=dC f y fs; omega
 ·show RelO ((cD f y fs).lookup g) (if g=f then some u else mA g)
  rw [bz]
  by_cases q:g=f
  ·rw [if_pos q,if_pos q]; exact ry
  ·rw [if_neg q,if_neg q]; exact r g
 ·by_cases q:g=f
  ·rw [q]; exact (fH f y fs).1
  ·refine (fH f y fs).2 g (wi g λ z=>hg ?_)
   show (if g=f then some u else mA g)=none
   rw [if_neg q]; exact z
theorem Inv.made (I:Inv X pins σ H s):Inv X pins σ (upd (upd H s.heap.objs.size (.own (s.heap.objs.size + 1))) (s.heap.objs.size + 1) (.ins C s.heap.objs.size []))
  { s with heap:=(s.heap.push PySem.W.emptyDict).push (PySem.W.instObj C s.heap.objs.size) }:=by
 have e1:(s.heap.push PySem.W.emptyDict).get? s.heap.objs.size=some PySem.W.emptyDict:=Heap.get?_push_size s.heap rfl
 have e2:((s.heap.push PySem.W.emptyDict).push (PySem.W.instObj C s.heap.objs.size)).get? (s.heap.objs.size + 1)=some (PySem.W.instObj C s.heap.objs.size):=by
  have:=Heap.get?_push_size (s.heap.push PySem.W.emptyDict) (o:=PySem.W.instObj C s.heap.objs.size) rfl
  rwa [Heap.size_push] at this
 have e3:(s.heap.push PySem.W.emptyDict).Ns s.heap.objs.size (λ _=>none):=⟨PySem.W.emptyDict,#[],_,e1,Y,(λ e he=>absurd he (by simp)),λ _=>rfl⟩
 have I1:=I.laid (a:=s.heap.objs.size) (o:=.own (s.heap.objs.size + 1)) (h':=s.heap.push PySem.W.emptyDict) (t':=s.toks) (λ b u q=>Heap.get?_push_of_some _ q) (Nat.le_refl _) ⟨_,e1⟩
 refine I1.laid (a:=s.heap.objs.size + 1) (o:=.ins C s.heap.objs.size []) (t':=s.toks) (λ b u q=>Heap.get?_push_of_some _ q) (Nat.le_of_eq (Heap.size_push _ _)) ?_
 have ne:s.heap.objs.size≠s.heap.objs.size + 1:=Nat.ne_of_lt (Nat.lt_succ_self _)
 refine ⟨by rw [am ne,af],Nat.zero_le _,ne,e2,λ _=>none,(Heap.Ns1.of_empty e3).at λ o q=>Heap.get?_push_of_some _ q,λ _=>True.intro,λ y hy=>absurd rfl hy⟩
theorem sN {prog:Program} {w:World} {env:Env} {e:Expr} {f:Str} {pos:Pos} {s:Shared} {Q:Value->Shared->Prop} (hb:attributeBase e f env (eval e env)=eval e env)
  (h:wpAny (model prog w) A (eval e env) (λ o s₁=>wpAny (model prog w) A (getAttr o f true) Q E s₁) E s):wpAny (model prog w) A (eval (.Attribute e f pos) env) Q E s :=
 Attribute_any_ h (by rw [arm_eval_Attribute,hb])
end
def FW (K:PySem.W.Frag) (ta:TE) (f:Str):TE:=λ σ H Q=>ta σ H λ x H1=>∃a C dx fs v,x=.ref a/\H1 a=some (.ins C dx fs)/\Cls K C/\NoAttr K C f/\fs.lookup f=some v/\Q v H1
def xR (K:PySem.W.Frag) (ta tv:TE) (f:Str):TS:=λ D σ H=>tv σ H λ y H1=>ta σ H1 λ x H2=>∃a C dx fs,x=.ref a/\H2 a=some (.ins C dx fs)/\Cls K C/\NoAttr K C f/\fs.length < 1000 /\
 D.nx σ (upd H2 a (.ins C dx (cD f y fs)))
section
variable {X:Cx} {o e value:Expr} {f:Str} {pos pos' tpos:Pos} {ta tv:TE}
theorem gS (he:PE X e ta) (hb:attributeBase e f X.env (eval e X.env)=eval e X.env):PE X (.Attribute e f pos) (FW X.K ta f):=by
 intro pins s σ H Q I h
 refine sN hb (thn (he pins s σ H _ I h) λ u s1 ⟨x,H1,I1,rx,a,C,dx,fs,v,ex,ea,c,n,l,q⟩=>?_)
 subst ex
 obtain rfl:u=Value.ref a:=rx
 exact kL I1 ea c n l λ u' s2 I2 ru=>⟨v,H1,I2,ru,q⟩
theorem qe (ha:PE X o ta) (hv:PE X value tv) (hs:swapsWith value (some (.Attribute o f pos')) pos.line X.env=pure false):PS X (.Assign [.Attribute o f pos'] value pos) (xR X.K ta tv f):=by
 intro pins s σ H D I h
 refine plainObj_wpAny_Assign_Attribute (thn (hv pins s σ H _ I h) λ u s1 ⟨y,H1,I1,ry,q⟩=>thn (ha pins s1 σ H1 _ I1 q) λ ov s2 ⟨x,H2,I2,rx,a,C,dx,fs,ex,ea,c,n,l,q2⟩=>?_) hs
 subst ex
 obtain rfl:ov=Value.ref a:=rx
 exact kM I2 ea c n l ry λ s3 I3=>⟨σ,_,I3,q2⟩
theorem uK {pl:Sem Bool} {m:Str} {apos:Pos} {args:List Expr} {pins:List (Addr×Obj)} {s:Shared} {σ:St} {H:Hp} {Q:Value->Shared->Prop} {te:TE} (he:PE X e te) (I:Inv X pins σ H s)
  (h:te σ H λ x H1=>∃a C dx fs g,x=.ref a/\H1 a=some (.ins C dx fs)/\Cls X.K C/\Meth X.K C m g/\fs.lookup m=none /\
   ∀s1,Inv X pins σ H1 s1->wpAny (model X.prog X.w) X.A (callWith pos (.ref g) [.ref a] (backTo pos (starEach args X.env)) (backToKw pos (keywordEach [] X.env))) Q X.xe s1)
  (ht:eval (.Call (.Attribute e m apos) args [] pos) X.env=(do
   let ov<-eval e X.env
   standAt apos.atName
   let (f,first)<-holding [ov] (getMethod ov m pl)
   callWith pos f first (backTo pos (starEach args X.env)) (backToKw pos (keywordEach [] X.env)))) :
  wpAny (model X.prog X.w) X.A (eval (.Call (.Attribute e m apos) args [] pos) X.env) Q X.xe s:=by
 refine PySem.W.methodCall_KW (pl:=pl) (thn (he pins s σ H _ I h) λ u s1 ⟨x,H1,I1,rx,a,C,dx,fs,g,ex,ea,c,k,l,q⟩=>?_) ht
 subst ex
 obtain rfl:u=Value.ref a:=rx
 exact eI I1 ea c k l (q s1 I1)
end
section
variable {X:Cx} {pins:List (Addr×Obj)} {σ:St} {H:Hp} {s:Shared} {A:Around} {E:Value->Shared->Prop} {Q:Value->Shared->Prop} {c:Value} {b:Bool}
inductive TyOf (K:PySem.W.Frag) (H:Hp):V->Value->Prop where
 | non:TyOf K H .non (.type "NoneType")
 | bl (x:Bool):TyOf K H (.bl x) (.type "bool")
 | int (i:Int):TyOf K H (.int i) (.type "int")
 | str (x:Str):TyOf K H (.str x) (.type "str")
 | flt (x:UInt64):TyOf K H (.flt x) (.type "float")
 | lst {a:Addr} {xs:List V} (e:H a=some (.lst xs)):TyOf K H (.ref a) (.type "list")
 | frz {a:Addr} {o:Obj} {xs:List V} (e:H a=some (.frz o (.lst xs))):TyOf K H (.ref a) (.type "list")
 | tup {a:Addr} {xs:List V} (e:H a=some (.tup xs)):TyOf K H (.ref a) (.type "tuple")
 | dK {a:Addr} {kvs:List (Key×V)} (e:H a=some (.dK kvs)):TyOf K H (.ref a) (.type "dict")
 | dT {a:Addr} {kvs:List (List Key×V)} (e:H a=some (.dT kvs)):TyOf K H (.ref a) (.type "dict")
 | ins {a C dx:Addr} {fs:List (Str×V)} (e:H a=some (.ins C dx fs)) (cl:Cls K C) (ha:PySem.W.findIn K (.ref C) "__class__" = some (some (.builtin "object.__class__")))
   (hn:PySem.W.specialIn K (.builtin "object.__class__") "__get__" = some (some (.builtin "getset_descriptor.__get__"))) (htk:PySem.W.takesIn K (.builtin "object.__class__")=some true)
   (hm:PySem.W.mroIn K C (.type "object")=some true):TyOf K H (.ref a) (.ref C)
theorem ni {x:V} {u t:Value} (I:Inv X pins σ H s) (rx:RelV x u) (ty:TyOf X.K H x t) (e:PySem.W.kitOne X.K t c=some b) (h:∀tk,Q (.bool b) { s with toks:=tk }) :
  wpAny (model X.prog X.w) A (call (.builtin "isinstance") [u,c]) Q E s:=by
 cases ty with
 | non=>cases (show u=Value.none from rx); exact PySem.W.kia_one PySem.W.kitx_none I.kIn True.intro e (λ z=>nomatch z) h
 | bl y=>cases (show u=Value.bool y from rx); exact PySem.W.kia_one PySem.W.kitx_bool I.kIn True.intro e (λ z=>nomatch z) h
 | int i=>obtain ⟨t,q⟩:=(show ∃t,u=Value.int i t from rx); cases q; exact PySem.W.kia_one PySem.W.kitx_int I.kIn True.intro e (λ z=>nomatch z) h
 | str y=>obtain ⟨t,q⟩:=(show ∃t,u=Value.str y t from rx); cases q; exact PySem.W.kia_one PySem.W.kitx_str I.kIn True.intro e (λ z=>nomatch z) h
 | flt y=>obtain ⟨t,q⟩:=(show ∃t,u=Value.float y t from rx); cases q; exact PySem.W.kia_one PySem.W.kitx_float I.kIn True.intro e (λ z=>nomatch z) h
 | @lst a xs ea =>
  cases (show u=Value.ref a from rx)
  obtain ⟨_,_,n,_,h1⟩:=(show ObjOk X.prog X.w H s.heap a (.lst xs) from I.hok a _ ea)
  exact PySem.W.kia_one PySem.W.kitx_list I.kIn ⟨_,h1,Y⟩ e (λ z=>nomatch z) h
 | @frz a ob xs ea =>
  cases (show u=Value.ref a from rx)
  obtain ⟨_,_,_,n,_,h1⟩:=(show ObjOk X.prog X.w H s.heap a (.frz ob (.lst xs)) from I.hok a _ ea)
  exact PySem.W.kia_one PySem.W.kitx_list I.kIn ⟨_,h1,Y⟩ e (λ z=>nomatch z) h
 | @tup a xs ea =>
  cases (show u=Value.ref a from rx)
  obtain ⟨_,_,_,p⟩:=(show ObjOk X.prog X.w H s.heap a (.tup xs) from I.hok a _ ea)
  obtain ⟨o,h1,h2,_⟩:=p
  exact PySem.W.kia_one PySem.W.kitx_tuple I.kIn ⟨o,h1,h2⟩ e (λ z=>nomatch z) h
 | @dK a kvs ea =>
  cases (show u=Value.ref a from rx)
  obtain ⟨_,_,vs,_,p⟩:=(show ObjOk X.prog X.w H s.heap a (.dK kvs) from I.hok a _ ea)
  obtain ⟨o,es,ep,h1,h2,_⟩:=p
  exact PySem.W.kia_one PySem.W.kitx_dict I.kIn ⟨o,h1,h2.1⟩ e (λ z=>nomatch z) h
 | @dT a kvs ea =>
  cases (show u=Value.ref a from rx)
  obtain ⟨_,_,xs,_,o,es,ep,h1,h2,_⟩:=(show ObjOk X.prog X.w H s.heap a (.dT kvs) from I.hok a _ ea)
  exact PySem.W.kia_one PySem.W.kitx_dict I.kIn ⟨o,h1,h2.1⟩ e (λ z=>nomatch z) h
 | @ins a C dx fs ea cl ha hn htk hm =>
  cases (show u=Value.ref a from rx)
  obtain ⟨mA,O,_⟩:=eU I.hok ea
  obtain ⟨od,J,_⟩:=O.look
  exact PySem.W.kia_one (PySem.W.kitx_own (cl.get _) cl.hd ha hn htk hm) I.kIn J e (λ z=>nomatch z) h
end
end L2
namespace L2
open PySem PySem.Spec PyProof.Rows
structure Room (k:Nat) (A:Around):Prop where
 hd:A.handled=none
 dp:A.depth + 3 * k + 5 < recursionLimit
 un:A.units + 16 * k + 200 < cLine
 gd:A.guards=some []
theorem Room.mono {j k:Nat} {A:Around} (r:Room k A) (h:j<=k):Room j A:=⟨r.hd,by have:=r.dp; omega,by have:=r.un; omega,r.gd⟩
theorem Room.deeper {k:Nat} {A:Around} (r:Room (k + 1) A) (env:Env):Room k (A.deeper env) :=
 ⟨r.hd,by have:=r.dp; show A.depth + 1 + 3 * k + 5 < _; omega,by have:=r.un; show A.units + 3 + 16 * k + 200 < _; omega,r.gd⟩
theorem kN {A:Around} {C:Addr} {us:List Value} {kw:List (Str×Value)}:(A.under (.builtin "type.__call__" ⟨.ref C :: us,kw⟩)).depth=A.depth + 1:=by
 first | rfl | simp [Around.under,Code.weight,Code.isCreation,Code.isGuard,Code.isCaller,Code.frames,Code.isFrame,guardIds]
theorem kO {A:Around} {C:Addr} {us:List Value} {kw:List (Str×Value)}:(A.under (.builtin "type.__call__" ⟨.ref C :: us,kw⟩)).units=A.units + 1:=by
 first | rfl | simp [Around.under,Code.cUnits,Code.frames,Code.isFrame]
theorem jH {A:Around} {C:Addr} {us:List Value} {kw:List (Str×Value)}:(A.under (.builtin "type.__call__" ⟨.ref C :: us,kw⟩)).guards=A.guards:=by
 have e:Code.guards (.builtin "type.__call__" ⟨.ref C :: us,kw⟩)=[]:=by
  have:(Code.builtin "type.__call__" ⟨.ref C :: us,kw⟩).isGuard=false:=by show guardIds.contains "type.__call__" = false; decide +kernel
  simp [Code.guards,this]
 unfold Around.under
 dsimp only
 rw [e]
 rfl
theorem Room.make {k:Nat} {A:Around} (r:Room (k + 1) A) (C:Addr) (us:List Value) (kw:List (Str×Value)):Room k (A.under (.builtin "type.__call__" ⟨.ref C :: us,kw⟩)) :=
 ⟨r.hd,by have:=r.dp; rw [kN]; omega,by have:=r.un; rw [kO]; omega,by rw [jH]; exact r.gd⟩
theorem Room.depth {k:Nat} {A:Around} (r:Room k A):A.depth < recursionLimit:=by have:=r.dp; omega
theorem Room.units {k:Nat} {A:Around} (r:Room k A):A.units + 64 < cLine:=by have:=r.un; omega
def sO:TA:=λ _ H Q=>Q [] H
def uL (ta:TE) (tr:TA):TA:=λ σ H Q=>ta σ H λ x H1=>tr σ H1 λ xs H2=>Q (x :: xs) H2
section
variable {X:Cx} {e:Expr} {es:List Expr} {te:TE} {t:TA} {pos:Pos}
theorem ab:PA X [] sO:=λ _ _ _ _ H Q I h=>Calls.spliced_nil ⟨[],H,I,.nil,h⟩
theorem aa (ha:PE X e te) (hr:PA X es t) (hs:starEach (e :: es) X.env=(false,eval e X.env) :: starEach es X.env:=by rfl):PA X (e :: es) (uL te t):=by
 intro pos pins s σ H Q I h
 rw [hs]
 show wpAny _ _ (spliced ((false,eval e X.env) :: backTo pos (starEach es X.env))) _ _ s
 refine Calls.spliced_cons (thn (ha pins s σ H _ I h) λ u s1 ⟨x,H1,I1,r1,q1⟩=>?_)
 exact thn (hr pos pins s1 σ H1 _ I1 q1) λ us s2 ⟨xs,H2,I2,r2,q2⟩=>⟨x :: xs,H2,I2,.cons r1 r2,q2⟩
def FX (t:TA):TE:=λ σ H Q=>t σ H λ xs H1=>xs.length<=sizeLine/\∀p,H1 p=none->Q (.ref p) (upd H1 p (.tup xs))
def FY (t:TA):TE:=λ σ H Q=>t σ H λ xs H1=>xs.length<=sizeLine/\∀p,H1 p=none->Q (.ref p) (upd H1 p (.lst xs))
theorem ax {x1} (h:PA X es t):PE X (.Tuple es x1 pos) (FX t):=by
 intro pins s σ H Q I hq
 refine wpAny_Tuple_spliced (thn (h pos pins s σ H _ I hq) λ us s1 ⟨xs,H1,I1,r,z,q⟩=>⟨by rw [<- r.length]; exact z,?_⟩)
 have hf:H1 s1.heap.objs.size=none:=I1.hok.fresh (Nat.le_refl _)
 refine ⟨.ref s1.heap.objs.size,upd H1 s1.heap.objs.size (.tup xs),I1.laid (t':=s1.toks) (λ b u e=>Heap.get?_push_of_some _ e) (Nat.le_refl _) ?_,Y,q _ hf⟩
 exact ⟨z,us,r,⟨_,Heap.get?_push_size _ rfl,Y,_,Y⟩⟩
theorem aM (h:PA X es t):PE X (.List es pos) (FY t):=by
 intro pins s σ H Q I hq
 refine wpAny_List_spliced (thn (h pos pins s σ H _ I hq) λ us s1 ⟨xs,H1,I1,r,z,q⟩=>⟨by rw [<- r.length]; exact z,?_⟩)
 have hf:H1 s1.heap.objs.size=none:=I1.hok.fresh (Nat.le_refl _)
 refine ⟨.ref s1.heap.objs.size,upd H1 s1.heap.objs.size (.lst xs),I1.laid (t':=s1.toks) (λ b u e=>Heap.get?_push_of_some _ e) (Nat.le_refl _) ?_,Y,q _ hf⟩
 exact ⟨z,us,0,r,Heap.get?_push_size _ rfl⟩
end
abbrev Sp:=List V->Hp->VK->XK->Prop
abbrev CXT:=List Env->Hp->Shared->XK->Value->Shared->Prop
structure Env0 (P:Program) (w:World) (K:PySem.W.Frag) (mg:Str->Option Value) (base:Heap) (A:Around) (outer:List Env) (s:Shared) (H:Hp):Prop where
 frames:A.frames=some outer
 mod:Mod K mg base
 bs:∀b o,base.get? b=some o->s.heap.get? b=some o/\H b=none
 bsz:base.objs.size<=s.heap.objs.size
 funs:s.heap.FunFrames base outer
 frf:∀b∈frs outer,H b=none
 hok:HOk P w H s.heap
 bare:AllBare s.gens
def CE (outer:List Env) (P:Program) (w:World) (H:Hp) (s:Shared) (Q:VK) (u:Value) (s':Shared):Prop :=
 ∃v H',s'.os=s.os/\AllBare s'.gens/\Un (frs outer) [] H H' s.heap s'.heap/\HOk P w H' s'.heap/\RelV v u/\Q v H'
def CR (CX:CXT) (outer:List Env) (P:Program) (w:World) (H:Hp) (s:Shared) (Q:VK) (E:XK) (r:Result) (s':Shared):Prop :=
 match r with
 | .ok (.ret u)=>CE outer P w H s Q u s'
 | .ok _=>False
 | .error e=>CX outer H s E e s'
structure FnOk (P:Program) (w:World) (K:PySem.W.Frag) (mg:Str->Option Value) (base:Heap) (CX:CXT) (k:Nat) (f:Addr) (fd:FuncData) (ps:List Str) (sp:Sp):Prop where
 len:∀vs H Q E,sp vs H Q E->vs.length=ps.length
 run:∀ (A:Around) (outer:List Env) (s:Shared) (H:Hp) (args:Args) (us:List Value) (vs:List V) (Q:VK) (E:XK),Room k A->Env0 P w K mg base A outer s H->BindsTo s fd args (ps.zip us)->Vals vs us->sp vs H Q E ->
  codeAny (model P w) A (.call (.ref f) args) (CR CX outer P w H s Q E) s
theorem Env0.make {P:Program} {w:World} {K:PySem.W.Frag} {mg:Str->Option Value} {base:Heap} {A:Around} {outer:List Env} {s:Shared} {H:Hp} (e:Env0 P w K mg base A outer s H) (C:Addr) (us:List Value) (kw:List (Str×Value)) :
  Env0 P w K mg base (A.under (.builtin "type.__call__" ⟨.ref C :: us,kw⟩)) outer s H:=⟨by first | exact e.frames | (simpa [Around.under,Code.envs,Code.isFrame,pushEnvs] using e.frames),e.mod,e.bs,e.bsz,e.funs,e.frf,e.hok,e.bare⟩
section
variable {X:Cx} {pins:List (Addr×Obj)} {σ:St} {H:Hp} {s s':Shared}
theorem Inv.env0 (I:Inv X pins σ H s):Env0 X.prog X.w X.K X.mg X.base X.A X.stack s H :=
 ⟨I.ok.frames,I.ok.mod,I.bs,Nat.le_trans I.ok.bsz I.sz,I.stack,I.stkFree,I.hok,I.bare⟩
theorem Inv.after {Q:VK} {u:Value} (I:Inv X pins σ H s) (h:CE X.stack X.prog X.w H s Q u s'):EP X pins σ Q u s':=by
 obtain ⟨v,H',os,bare,un,hok,r,q⟩:=h
 obtain ⟨hh,g,d,t,os'⟩:=s'
 obtain rfl:os'=s.os:=os
 exact ⟨v,H',I.call (h':=hh) (g':=g) (d':=d) (t':=t) (ch:=[]) un hok bare (λ b z=>absurd z (by simp)),r,q⟩
end
def uM (sp:Sp) (dvs:List V) (E:XK) (t:TA):TE:=λ σ H Q=>t σ H λ vs H1=>sp (vs ++ dvs) H1 Q E
def lX (C:Addr) (m:Str) (sp:Sp) (dvs:List V) (E:XK) (ta:TE) (t:TA):TE:=λ σ H Q=>ta σ H λ x H1=>∃a dx fs,x=.ref a/\H1 a=some (.ins C dx fs)/\fs.lookup m=none /\
 t σ H1 λ vs H2=>sp (x :: (vs ++ dvs)) H2 Q E
def uN (C:Addr) (sp:Sp) (dvs:List V) (E:XK) (t:TA):TE:=λ σ H Q=>t σ H λ vs H1=>∀x dx,H1 x=none->H1 dx=none->dx≠x ->
 sp (.ref x :: (vs ++ dvs)) (upd (upd H1 dx (.own x)) x (.ins C dx [])) (λ v H2=>v=.non/\Q (.ref x) H2) E
def Binds (K:PySem.W.Frag) (fd:FuncData) (ps:List Str) (ds:List Value):Prop :=
 ∀ (s:Shared) (us:List Value),K.In s.heap->(us ++ ds).length=ps.length->BindsTo s fd ⟨us,[]⟩ (ps.zip (us ++ ds))
theorem Binds.all {K:PySem.W.Frag} {fd:FuncData} {ps:List Str} (h:∀us:List Value,us.length=ps.length->bindArgs fd ⟨us,[]⟩=pure (ps.zip us)):Binds K fd ps []:=λ s us _ hl=>by
 rw [List.append_nil] at hl ⊢
 exact .of_eq (h us hl)
def eJ (CX:CXT) (X:Cx) (E:XK):Prop:=∀ (pins:List (Addr×Obj)) (σ:St) (H:Hp) (s:Shared) (e:Value) (s':Shared),Inv X pins σ H s->CX X.stack H s E e s'->X.xe e s'
section
variable {X:Cx} {CX:CXT} {k:Nat} {f C:Addr} {fd:FuncData} {ps:List Str} {sp:Sp} {dvs:List V} {ds:List Value} {E:XK} {x m:Str} {p pos apos:Pos} {e o:Expr} {es:List Expr} {ta:TE} {t:TA}
theorem kP {pins:List (Addr×Obj)} {σ:St} {H:Hp} {s:Shared} {Q:VK} {us:List Value} {vs:List V} (F:FnOk X.prog X.w X.K X.mg X.base CX k f fd ps sp) (hr:Room k X.A) (hb:Binds X.K fd ps ds) (hd:Vals dvs ds) (hx:eJ CX X E)
  (I:Inv X pins σ H s) (r:Vals vs us) (h:sp (vs ++ dvs) H Q E):wpAny (model X.prog X.w) X.A (call (.ref f) us) (EP X pins σ Q) X.xe s:=by
 have r2:Vals (vs ++ dvs) (us ++ ds):=r.append hd
 have hl:(us ++ ds).length=ps.length:=by rw [<- r2.length]; exact F.len _ _ _ _ h
 refine wpAny_call (codeAny_mono (F.run X.A X.stack s H ⟨us,[]⟩ (us ++ ds) (vs ++ dvs) Q E hr I.env0 (hb s us I.kIn hl) r2 h) λ r s' hq=>?_)
 cases r with
 | error e=>exact hx pins σ H s e s' I hq
 | ok fl =>
  cases fl with
  | ret u=>exact I.after hq
  | next=>exact False.elim hq
  | brk=>exact False.elim hq
  | cont=>exact False.elim hq
theorem sP (F:FnOk X.prog X.w X.K X.mg X.base CX k f fd ps sp) (hr:Room k X.A) (hg:Gl X x) (hm:X.mg x=some (.ref f)) (hk:PySem.W.keepIn X.K (.ref f)=true) (hb:Binds X.K fd ps ds) (hd:Vals dvs ds) (hx:eJ CX X E)
  (ha:PA X (e :: es) t) (hdb:(x == ("__debug__" : Str))=false:=by decide) (he:starEach (e :: es) X.env=(false,eval e X.env) :: starEach es X.env:=by rfl) (hpl:(backTo pos (starEach es X.env)).any (·.1)=false:=by rfl) :
  PE X (.Call (.Name x p) (e :: es) [] pos) (uM sp dvs E t):=by
 intro pins s σ H Q I h
 refine wpAny_Call_Name_kw (iU I hg hm ?_ hdb)
 refine PySem.W.callWith_K (h₀:=X.base) I.ok.mod.kin hk (thn (ha pos pins s σ H _ I h) λ us s1 ⟨vs,H1,I1,r,q⟩=>⟨I1.kIn,?_⟩) he hpl
 exact kP F hr hb hd hx I1 r q
theorem sQ {pl:Sem Bool} (he:PE X o ta) (c:Cls X.K C) (hm:Meth X.K C m f) (F:FnOk X.prog X.w X.K X.mg X.base CX k f fd ps sp) (hr:Room k X.A) (hb:Binds X.K fd ps ds) (hd:Vals dvs ds) (hx:eJ CX X E) (ha:PA X (e :: es) t)
  (hst:starEach (e :: es) X.env=(false,eval e X.env) :: starEach es X.env:=by rfl) (hpl:(backTo pos (starEach es X.env)).any (·.1)=false:=by rfl)
  (ht:eval (.Call (.Attribute o m apos) (e :: es) [] pos) X.env=(do
   let ov<-eval o X.env
   standAt apos.atName
   let (f,first)<-holding [ov] (getMethod ov m pl)
   callWith pos f first (backTo pos (starEach (e :: es) X.env)) (backToKw pos (keywordEach [] X.env))):=by rfl) :
  PE X (.Call (.Attribute o m apos) (e :: es) [] pos) (lX C m sp dvs E ta t):=by
 intro pins s σ H Q I h
 refine PySem.W.methodCall_KW (pl:=pl) (thn (he pins s σ H _ I h) λ u s1 ⟨x,H1,I1,rx,a,dx,fs,ex,ea,l,q⟩=>?_) ht
 subst ex
 obtain rfl:u=Value.ref a:=rx
 refine eI I1 ea c hm l ?_
 refine PySem.W.callWith_K (first:=[.ref a]) (h₀:=X.base) I.ok.mod.kin hm.kp (thn (ha pos pins s1 σ H1 _ I1 q) λ us s2 ⟨vs,H2,I2,r,q2⟩=>⟨I2.kIn,?_⟩) hst hpl
 exact kP (us:=.ref a :: us) (vs:=.ref a :: vs) F hr hb hd hx I2 (.cons rfl r) q2
theorem qg {pl:Sem Bool} (he:PE X o ta) (c:Cls X.K C) (hm:Meth X.K C m f) (F:FnOk X.prog X.w X.K X.mg X.base CX k f fd ps sp) (hr:Room k X.A) (hb:Binds X.K fd ps ds) (hd:Vals dvs ds) (hx:eJ CX X E)
  (ht:eval (.Call (.Attribute o m apos) [] [] pos) X.env=(do
   let ov<-eval o X.env
   standAt apos.atName
   let (f,first)<-holding [ov] (getMethod ov m pl)
   callWith pos f first (backTo pos (starEach [] X.env)) (backToKw pos (keywordEach [] X.env))):=by rfl) :
  PE X (.Call (.Attribute o m apos) [] [] pos) (lX C m sp dvs E ta sO):=by
 intro pins s σ H Q I h
 refine PySem.W.methodCall_KW (pl:=pl) (thn (he pins s σ H _ I h) λ u s1 ⟨x,H1,I1,rx,a,dx,fs,ex,ea,l,q⟩=>?_) ht
 subst ex
 obtain rfl:u=Value.ref a:=rx
 refine eI I1 ea c hm l ?_
 exact PySem.W.callWith_K0 (first:=[.ref a]) I1.kIn hm.kp (kP (us:=[.ref a]) (vs:=[.ref a]) F hr hb hd hx I1 (.cons rfl .nil) q)
structure Mk (K:PySem.W.Frag) (C f:Addr):Prop where
 makes:PySem.W.makesIn K C=true
 init:PySem.W.findIn K (.ref C) "__init__" = some (some (.ref f))
 fn:PySem.W.isFn K (.ref f)=true
 kp:PySem.W.keepIn K (.ref C)=true
theorem qh {pins:List (Addr×Obj)} {σ:St} {H:Hp} {s:Shared} {Q:VK} {us:List Value} {vs:List V} (M:Mk X.K C f) (F:FnOk X.prog X.w X.K X.mg X.base CX k f fd ps sp) (hr:Room (k + 1) X.A) (hb:Binds X.K fd ps ds) (hd:Vals dvs ds)
  (hx:eJ CX X E) (I:Inv X pins σ H s) (r:Vals vs us)
  (h:∀x dx,H x=none->H dx=none->dx≠x->sp (.ref x :: (vs ++ dvs)) (upd (upd H dx (.own x)) x (.ins C dx [])) (λ v H2=>v=.non/\Q (.ref x) H2) E) :
  wpAny (model X.prog X.w) X.A (call (.ref C) us) (EP X pins σ Q) X.xe s:=by
 have hq:=h (s.heap.objs.size + 1) s.heap.objs.size (I.hok.fresh (Nat.le_succ _)) (I.hok.fresh (Nat.le_refl _)) (Nat.ne_of_lt (Nat.lt_succ_self _))
 have I2:=Inv.made (C:=C) I
 have r2:Vals (V.ref (s.heap.objs.size + 1) :: (vs ++ dvs)) (Value.ref (s.heap.objs.size + 1) :: (us ++ ds)):=.cons rfl (r.append hd)
 have hl:(Value.ref (s.heap.objs.size + 1) :: us ++ ds).length=ps.length:=by
  have e:=r2.length
  rw [F.len _ _ _ _ hq] at e
  exact e.symm
 refine wpAny_call (qd (f:=f) I.kIn M.makes M.init (beq_iff_eq.mp M.fn) (codeAny_mono (F.run _ X.stack _ _ ⟨Value.ref (s.heap.objs.size + 1) :: us,[]⟩ (Value.ref (s.heap.objs.size + 1) :: (us ++ ds)) _ _ E (hr.make C us [])
  (I2.env0.make C us []) (hb _ (Value.ref (s.heap.objs.size + 1) :: us) I2.kIn hl) r2 hq) λ r s' hq'=>?_))
 cases r with
 | error e=>exact hx pins σ _ _ e s' I2 hq'
 | ok fl =>
  cases fl with
  | ret u =>
   obtain ⟨v,H',I3,rv,ev,q3⟩:=I2.after hq'
   subst ev
   exact ⟨rv,⟨V.ref (s.heap.objs.size + 1),H',I3,Y,q3⟩⟩
  | next=>exact False.elim hq'
  | brk=>exact False.elim hq'
  | cont=>exact False.elim hq'
theorem sR (M:Mk X.K C f) (F:FnOk X.prog X.w X.K X.mg X.base CX k f fd ps sp) (hr:Room (k + 1) X.A) (hg:Gl X x) (hm:X.mg x=some (.ref C)) (hb:Binds X.K fd ps ds) (hd:Vals dvs ds) (hx:eJ CX X E)
  (ha:PA X (e :: es) t) (hdb:(x == ("__debug__" : Str))=false:=by decide) (he:starEach (e :: es) X.env=(false,eval e X.env) :: starEach es X.env:=by rfl) (hpl:(backTo pos (starEach es X.env)).any (·.1)=false:=by rfl) :
  PE X (.Call (.Name x p) (e :: es) [] pos) (uN C sp dvs E t):=by
 intro pins s σ H Q I h
 refine wpAny_Call_Name_kw (iU I hg hm ?_ hdb)
 refine PySem.W.callWith_K (h₀:=X.base) I.ok.mod.kin M.kp (thn (ha pos pins s σ H _ I h) λ us s1 ⟨vs,H1,I1,r,q⟩=>⟨I1.kIn,?_⟩) he hpl
 exact qh M F hr hb hd hx I1 r q
end
section
variable {X:Cx} {CX:CXT} {k:Nat} {f C:Addr} {fd:FuncData} {ps ks:List Str} {sp:Sp} {E:XK} {x m:Str} {p pos apos kpos:Pos} {e o:Expr} {es:List Expr} {kws:List Keyword} {te ta:TE} {t tk:TA} {nm:Option Str}
structure KBinds (K:PySem.W.Frag) (fd:FuncData) (ps ks:List Str) (g:List Value->List Value->List Value) (gV:List V->List V->List V):Prop where
 to:∀ (s:Shared) (us ws:List Value),K.In s.heap->(g us ws).length=ps.length->BindsTo s fd ⟨us,ks.zip ws⟩ (ps.zip (g us ws))
 rel:∀ {vs:List V} {us:List Value} {zs:List V} {ws:List Value},Vals vs us->Vals zs ws->Vals (gV vs zs) (g us ws)
variable {g:List Value->List Value->List Value} {gV:List V->List V->List V}
end
structure FnScope (N P:List Str) (sc:Scope):Prop where
 kind:sc.kind=.function
 co:sc.isCoroutine=false
 gen:sc.isGenerator=false
 nd:N.Nodup
 pre:N.take P.length=P
 par:∀x∈P,sc.names.lookup x=some .local\/sc.names.lookup x=some .cell
 nofree:∀y∈sc.names,y.2≠.free
theorem iy {kindOf:Str->Option NameKind} {x:Str}:∀ {binds:List (Str×Value)} {m:Str->Option Value},(∀v,(x,v)∉binds)->bindL kindOf binds m x=m x
 | [],_,_=>rfl
 | (n,v) :: r,m,h=>by
  unfold bindL
  rw [iy λ w hw=>h w (List.mem_cons_of_mem _ hw)]
  split
  ·have:x≠n:=by rintro rfl; exact h v List.mem_cons_self
   simp [this]
  ·rfl
theorem iz {kindOf:Str->Option NameKind} {x:Str}:∀ {binds:List (Str×Value)} {m:Str->Option Value},(∀v,(x,v)∉binds)->bindC kindOf binds m x=m x
 | [],_,_=>rfl
 | (n,v) :: r,m,h=>by
  unfold bindC
  rw [iz λ w hw=>h w (List.mem_cons_of_mem _ hw)]
  split
  ·rfl
  ·have:x≠n:=by rintro rfl; exact h v List.mem_cons_self
   simp [this]
theorem iA {kindOf:Str->Option NameKind} {x:Str} {v:Value}:∀ {P:List Str} {vs:List Value} {i:Nat} {m:Str->Option Value},P.Nodup->P[i]? = some x->vs[i]? = some v->kindOf x=some .local ->
  bindL kindOf (P.zip vs) m x=some v
 | [],_,_,_,_,h,_,_=>by simp at h
 | _ :: _,[],_,_,_,_,h,_=>by simp at h
 | p :: P,w :: vs,0,m,nd,h1,h2,hk=>by
  simp at h1 h2; subst h1; subst h2
  show bindL kindOf ((p,w) :: P.zip vs) m p=_
  unfold bindL
  rw [iy λ v hv=>(List.nodup_cons.mp nd).1 (List.of_mem_zip hv).1,if_pos hk]
  simp
 | p :: P,w :: vs,i + 1,m,nd,h1,h2,hk=>by
  show bindL kindOf ((p,w) :: P.zip vs) m x=_
  unfold bindL
  exact iA (i:=i) (List.nodup_cons.mp nd).2 (by simpa using h1) (by simpa using h2) hk
theorem iB {kindOf:Str->Option NameKind} {x:Str} {v:Value}:∀ {P:List Str} {vs:List Value} {i:Nat} {m:Str->Option Value},P.Nodup->P[i]? = some x->vs[i]? = some v->kindOf x≠some .local ->
  bindC kindOf (P.zip vs) m x=some v
 | [],_,_,_,_,h,_,_=>by simp at h
 | _ :: _,[],_,_,_,_,h,_=>by simp at h
 | p :: P,w :: vs,0,m,nd,h1,h2,hk=>by
  simp at h1 h2; subst h1; subst h2
  show bindC kindOf ((p,w) :: P.zip vs) m p=_
  unfold bindC
  rw [iz λ v hv=>(List.nodup_cons.mp nd).1 (List.of_mem_zip hv).1,if_neg hk]
  simp
 | p :: P,w :: vs,i + 1,m,nd,h1,h2,hk=>by
  show bindC kindOf ((p,w) :: P.zip vs) m x=_
  unfold bindC
  exact iB (i:=i) (List.nodup_cons.mp nd).2 (by simpa using h1) (by simpa using h2) hk
def fZ (N:List Str) (vs:List V):St:=vs.map some ++ List.replicate (N.length - vs.length) none
def nj (CX:CXT) (P:Program) (w:World) (K:PySem.W.Frag) (mg:Str->Option Value) (base:Heap) (N:List Str) (qual:Str) (scope:Scope) (f:Addr) (cd:Value) (A:Around) (outer:List Env) (s:Shared) (H:Hp) (E:XK):Cx where
 prog:=P
 w:=w
 K:=K
 mg:=mg
 base:=base
 A:=A.deeper (envOfC qual scope s.heap.objs.size f cd)
 N:=N
 s₀:=s
 H₀:=H
 env:=envOfC qual scope s.heap.objs.size f cd
 outer:=outer
 stack:=envOfC qual scope s.heap.objs.size f cd :: outer
 ex:=[]
 calm:=true
 fn:=λ _=>true
 pn:=[]
 xe:=λ e s'=>wpAny (model P w) (A.deeper (envOfC qual scope s.heap.objs.size f cd)) (leaving (envOfC qual scope s.heap.objs.size f cd) e) (λ _ s''=>CX outer H s E e s'') (λ e' s''=>CX outer H s E e' s'') s'
theorem jI {sc:Scope} {n:Nat} {x:Str} (h:sc.names.lookup x=some .cell):∃c,(cellsFrom n sc.names []).lookup x=some c:=by
 have q:=PySem.W.cellsFrom_some sc.names n [] (.inl h)
 exact Option.isSome_iff_exists.mp q
theorem nq {CX:CXT} {P:Program} {w:World} {K:PySem.W.Frag} {mg:Str->Option Value} {base:Heap} {N ps:List Str} {qual:Str} {scope:Scope} {f:Addr} {cd:Value} {A:Around} {outer:List Env} {s s1:Shared} {H:Hp} {E:XK} {us:List Value} {vs:List V}
  (S:FnScope N ps scope) (hd:A.handled=none) (e0:Env0 P w K mg base A outer s H) (hl:vs.length=ps.length) (r:Vals vs us)
  (x:InCallC s s.heap.objs.size (bindL (envOfC qual scope s.heap.objs.size f cd).kindOf (ps.zip us) λ _=>none) (cellsFrom (s.heap.objs.size + 1) scope.names []) (bindC (envOfC qual scope s.heap.objs.size f cd).kindOf (ps.zip us) λ _=>none) s1) :
  Inv (nj CX P w K mg base N qual scope f cd A outer s H E) [] (fZ N vs) H s1:=by
 have hpl:ps.length<=N.length:=by have:=congrArg List.length S.pre; rw [List.length_take] at this; omega
 obtain ⟨h1,tk,rfl,hk⟩:=x.done
 have noA:∀b:Addr,b∉(nj CX P w K mg base N qual scope f cd A outer s H E).ex:=λ b z=>absurd (show b∈([]:List Addr) from z) (by simp)
 refine ⟨⟨e0.mod,S.kind,Y,Y,Nat.le_refl _,λ y z c h1 h2=>?_,λ y hy=>?_,λ y c _ h=>?_,λ _=>hd,Around.frames_deeper e0.frames,.inr ⟨Y,Y⟩,λ b z=>absurd z (noA b),e0.bs,e0.bsz,λ b _ _=>noA b,λ b z=>absurd z (noA b),e0.funs,e0.frf⟩,
  rfl,e0.bare,Un.kept hk,⟨_,x.toInCall.ns,λ i y v h1 h2 h3=>?_⟩,λ y c h=>⟨_,x.cell y c h⟩,e0.hok.fresh (Nat.le_refl _),λ y c h=>?_,λ p hp=>absurd (show p∈([]:List (Addr×Obj)) from hp) (by simp),e0.hok.kept hk,?_⟩
 ·exact name_of_addr x.apart (PySem.mem_of_lookup h1) (PySem.mem_of_lookup h2)
 ·have hy:scope.names.lookup y=some .cell\/scope.names.lookup y=some .free:=hy
  rcases hy with hy | hy
  ·exact jI hy
  ·exact absurd rfl (S.nofree _ (PySem.mem_of_lookup hy))
 ·exact Nat.le_of_lt (x.above y c (PySem.mem_of_lookup h))
 ·have hi:i < vs.length:=by
   unfold fZ at h2
   by_cases hi:i < vs.length
   ·exact hi
   ·rw [List.getElem?_append_right (by simpa using hi)] at h2
    rw [List.getElem?_replicate] at h2
    split at h2 <;> cases h2
  have ha:vs[i]? = some v:=by
   unfold fZ at h2
   rw [List.getElem?_append_left (by simpa using hi),List.getElem?_map] at h2
   cases e:vs[i]? with
   | none=>rw [e] at h2; cases h2
   | some a=>rw [e] at h2; cases h2; rfl
  obtain ⟨u,hu,rv⟩:=r.get ha
  have hp:ps[i]? = some y:=by
   rw [<- S.pre,List.getElem?_take_of_lt (by omega)]; exact h1
  have ndP:ps.Nodup:=by rw [<- S.pre]; exact S.nd.sublist (List.take_sublist _ _)
  refine ⟨u,rv,?_⟩
  rcases S.par y (List.mem_of_getElem? hp) with k | k
  ·exact .inl ⟨k,iA ndP hp hu k⟩
  ·obtain ⟨c,e⟩:=jI (n:=s.heap.objs.size + 1) k
   refine .inr ⟨.inl k,c,e,?_⟩
   have q:=x.cell y c e
   rw [iB ndP hp hu (by show scope.names.lookup y≠_; rw [k]; decide)] at q
   exact q
 ·exact e0.hok.fresh (Nat.le_of_lt (x.above y c (PySem.mem_of_lookup h)))
 ·unfold fZ
  show _=N.length
  rw [List.length_append,List.length_map,List.length_replicate]
  omega
theorem xS {CX:CXT} {P:Program} {w:World} {K:PySem.W.Frag} {mg:Str->Option Value} {base:Heap} {k:Nat} {f:Addr} {name qual:Str} {params:Arguments} {body:List Stmt} {scope:Scope} {dV kV doc pm cdv ct oc:Value} {an od:Option Addr}
  {osl:Array (Option Value)} {N ps:List Str} {sp:Sp} (lk:K.lookup f=some ⟨oc,od,.func (PySem.W.fnOf name qual params body scope dV kV doc pm an cdv ct),osl⟩) (hcd:PySem.W.codeIn K cdv qual=true) (S:FnScope N ps scope)
  (len:∀vs H Q E,sp vs H Q E->vs.length=ps.length)
  (hbody:∀ (A:Around) (outer:List Env) (s:Shared) (H:Hp) (vs:List V) (Q:VK) (E:XK),Room k (A.deeper (envOfC qual scope s.heap.objs.size f cdv))->sp vs H Q E ->
   ∃t,PSs (nj CX P w K mg base N qual scope f cdv A outer s H E) body t/\t { nx:=λ _ H'=>Q .non H',rt:=Q } (fZ N vs) H) :
  FnOk P w K mg base CX (k + 1) f (PySem.W.fnOf name qual params body scope dV kV doc pm an cdv ct) ps sp:=by
 refine ⟨len,λ A outer s H args us vs Q E hr e0 hb r hsp=>?_⟩
 have hl:=len _ _ _ _ hsp
 have KX:K.In s.heap:=e0.mod.kin.keeps λ b o e=>(e0.bs b o e).1
 have lim:s.heap.NoLimit:=e0.mod.nolimit.keeps λ b o e=>(e0.bs b o e).1
 have hkind:∀y∈ps.zip us,scope.names.lookup y.1=some .local\/(scope.names.lookup y.1=some .cell/\((cellsFrom (s.heap.objs.size + 1) scope.names []).lookup y.1).isSome=true):=λ ⟨n,v⟩ hy=>by
  rcases S.par n (List.of_mem_zip hy).1 with q | q
  ·exact .inl q
  ·exact .inr ⟨q,PySem.W.cellsFrom_some _ _ _ (.inl q)⟩
 refine codeAny_call_function hr.depth (KX _ _ lk) rfl S.co S.gen rfl (PySem.W.codeRec_of KX hcd) (hb _ _ _ _ ?_)
 refine wpAny_newFunctionEnv_cells S.kind hkind λ env he s1 x=>?_
 subst he
 refine ⟨lim.keeps x.toInCall.keep,codeAny_func ?_⟩
 obtain ⟨t,ht,hq⟩:=hbody A outer s H vs Q E (hr.deeper _) hsp
 have I:Inv (nj CX P w K mg base N qual scope f cdv A outer s H E) [] (fZ N vs) H s1:=nq S hr.hd e0 hl r x
 refine wpAny_mono (ht [] s1 (fZ N vs) H _ I hq) (λ fl s' hs=>?_) λ e s' hs=>hs
 have fin:∀ {σ':St} {H':Hp} {v:V} {u:Value},Inv (nj CX P w K mg base N qual scope f cdv A outer s H E) [] σ' H' s'->RelV v u->Q v H'->CE outer P w H s Q u s' :=
  λ {σ' H' v u} J rv q=>⟨v,H',J.os,J.bare,J.base,J.hok,rv,q⟩
 cases fl with
 | ret u =>
  obtain ⟨v,σ',H',J,rv,q⟩:=hs
  exact fin J rv q
 | next =>
  obtain ⟨σ',H',J,q⟩:=hs
  exact fin (v:=V.non) (u:=Value.none) J rfl q
 | brk =>
  obtain ⟨_,_,_,q⟩:=hs
  exact False.elim q
 | cont =>
  obtain ⟨_,_,_,q⟩:=hs
  exact False.elim q
end L2
namespace L2
open PySem PySem.Spec PyProof.Rows
section
variable {X:Cx} {x:Str} {p pos:Pos} {e:Expr} {es:List Expr} {t:TA} {id T:String} {r:List V->Hp->VK->Prop}
def tCB (r:List V->Hp->VK->Prop) (t:TA):TE:=λ σ H Q=>t σ H λ vs H1=>r vs H1 Q
theorem aF (hc:bZ X (.builtin id) r) (hg:Gl X x) (hm:X.mg x=none) (hv:bootBuiltins x=some (.builtin id)) (ha:PA X (e :: es) t) (hn:x ≠ "__name__" := by decide) (hdb:(x == ("__debug__" : Str))=false:=by decide)
  (he:starEach (e :: es) X.env=(false,eval e X.env) :: starEach es X.env:=by rfl) (hpl:(backTo pos (starEach es X.env)).any (·.1)=false:=by rfl):PE X (.Call (.Name x p) (e :: es) [] pos) (tCB r t):=by
 intro pins s σ H Q I h
 refine wpAny_Call_Name_kw (eG I hg hm hv ?_ hn hdb)
 exact PyProof.Rows.callWith_builtin1 (thn (ha pos pins s σ H _ I h) λ us s1 ⟨vs,H1,I1,r1,q1⟩=>hc pins s1 σ H1 vs us Q I1 r1 q1) he hpl
theorem bc (hc:bZ X (.type T) r) (hg:Gl X x) (hm:X.mg x=none) (hv:bootBuiltins x=some (.type T)) (ha:PA X (e :: es) t) (hn:x ≠ "__name__" := by decide) (hdb:(x == ("__debug__" : Str))=false:=by decide)
  (he:starEach (e :: es) X.env=(false,eval e X.env) :: starEach es X.env:=by rfl) (hpl:(backTo pos (starEach es X.env)).any (·.1)=false:=by rfl):PE X (.Call (.Name x p) (e :: es) [] pos) (tCB r t):=by
 intro pins s σ H Q I h
 refine wpAny_Call_Name_kw (eG I hg hm hv ?_ hn hdb)
 exact PyProof.Rows.callWith_type1 (thn (ha pos pins s σ H _ I h) λ us s1 ⟨vs,H1,I1,r1,q1⟩=>hc pins s1 σ H1 vs us Q I1 r1 q1) he hpl
end
end L2
namespace HT
open PySem PyProof.Rows
section
variable {prog:Program} {w:World} {A:Around} {E:Value->Shared->Prop} {s:Shared}
def sIx (n d:Nat):Option Int->Nat
 | none=>d
 | some v=>if v < 0 then (v + (n:Int)).toNat else min v.toNat n
theorem vo (n d:Nat) (hd:d<=n) (o:Option Int):sIx n d o<=n:=by
 cases o with
 | none=>exact hd
 | some v =>
  show (if v < 0 then (v + (n:Int)).toNat else min v.toNat n)<=n
  by_cases hv:v < 0
  ·rw [if_pos hv]; omega
  ·rw [if_neg hv]; exact Nat.min_le_right _ _
theorem lY (v:Int) (n d:Nat):(if v < 0 then max (v + (n:Int)) 0 else min v (n:Int))=((sIx n d (some v):Nat):Int):=by
 show (if v < 0 then max (v + (n:Int)) 0 else min v (n:Int))=(((if v < 0 then (v + (n:Int)).toNat else min v.toNat n):Nat):Int)
 by_cases hv:v < 0
 ·simp only [if_pos hv]; omega
 ·simp only [if_neg hv]; omega
theorem kQ (lo hi:Option Int) (n:Nat):Builtin.Slice.sliceAdjust lo hi 1 (n:Int)=(((sIx n 0 lo:Nat):Int),((sIx n n hi:Nat):Int)):=by
 have h1:¬ ((1:Int) < 0):=by omega
 unfold Builtin.Slice.sliceAdjust
 simp only [h1,if_false]
 refine Prod.ext ?_ ?_
 ·cases lo with
  | none=>rfl
  | some v=>exact lY v n 0
 ·cases hi with
  | none=>rfl
  | some v=>exact lY v n n
theorem kR (i j:Nat):Builtin.Slice.slicePlaces (i:Int) (j:Int) 1=j - i:=by
 unfold Builtin.Slice.slicePlaces
 have h1:(1:Int) > 0:=by omega
 simp only [h1,if_true,Int.ediv_one]
 split <;> omega
theorem gT {v:Value} {o:Option Int} {Q:Option Int->Shared->Prop} (p:IsPart v o) (h:Q o s):wpAny (model prog w) A (Builtin.Slice.slicePartIndex v) Q E s:=by
 cases p with
 | none=>exact slicePart_none h
 | int i t=>exact slicePart_int h
theorem fI {sl:Addr} {vl vu:Value} {lo hi:Option Int} {n:Nat} {Q:Int×Int×Nat->Shared->Prop} (hs:s.heap.IsSliceOf sl vl vu .none) (pl:IsPart vl lo) (pu:IsPart vu hi)
  (h:Q (((sIx n 0 lo:Nat):Int),1,sIx n n hi - sIx n 0 lo) s):wpAny (model prog w) A (Builtin.Slice.sliceApplied (.ref sl) (pure (n:Int))) Q E s:=by
 obtain ⟨os,hos,hcs,hds⟩:=id hs
 unfold Builtin.Slice.sliceApplied Builtin.Slice.sliceFields
 refine wpAny_bind (wpAny_bind (wpAny_field hos hds (x:=vl) rfl (wpAny_bind (wpAny_field hos hds (x:=vu) rfl (wpAny_bind (wpAny_field hos hds (x:=.none) rfl (wpAny_pure ?_)))))))
 refine wpAny_bind (slicePart_none ?_)
 show wpAny _ _ (if ((1:Int) == 0)=true then _ else _) _ _ s
 rw [if_neg (by decide)]
 refine wpAny_bind (gT pl (wpAny_bind (gT pu (wpAny_bind (wpAny_pure ?_)))))
 show wpAny _ _ (match Builtin.Slice.sliceAdjust lo hi 1 (n:Int) with | (lo,hi)=>pure (lo,(1:Int),Builtin.Slice.slicePlaces lo hi 1)) _ _ s
 rw [kQ lo hi n]
 show wpAny _ _ (pure (((sIx n 0 lo:Nat):Int),(1:Int),Builtin.Slice.slicePlaces ((sIx n 0 lo:Nat):Int) ((sIx n n hi:Nat):Int) 1)) _ _ s
 rw [kR]
 exact wpAny_pure h
theorem qi (xs:Array Value) (i k:Nat):((List.range k).filterMap λ (m:Nat)=>xs[((i:Int) + (m:Int) * 1).toNat]?).toArray=((xs.toList.drop i).take k).toArray:=by
 have e:(λ (m:Nat)=>xs[((i:Int) + (m:Int) * 1).toNat]?)=λ m=>xs[i + m]? := by
  funext m
  have:((i:Int) + (m:Int) * 1).toNat=i + m:=by omega
  rw [this]
 rw [e]
 have:=pick_run xs i k
 rw [List.filterMap_map] at this
 have e2:((λ x=>xs[x]?)∘λ x=>i + x)=λ m=>xs[i + m]? := rfl
 rw [e2] at this
 rw [this]
theorem getItem_tuple_cut {t sl:Addr} {items:Array Value} {vl vu:Value} {lo hi:Option Int} {Q:Value->Shared->Prop} (ht:IsTup s.heap t items) (hs:s.heap.IsSliceOf sl vl vu .none) (pl:IsPart vl lo) (pu:IsPart vu hi)
  (hw:¬ (sIx items.size 0 lo=0/\sIx items.size items.size hi=items.size))
  (h:Q (.ref s.heap.objs.size) { s with heap:=s.heap.push { cls:=.type "tuple",data:=.seq ((items.toList.drop (sIx items.size 0 lo)).take (sIx items.size items.size hi - sIx items.size 0 lo)).toArray } })
  (hsz:items.size<=sizeLine):wpAny (model prog w) A (getItem (.ref t) (.ref sl)) Q E s:=by
 have htake:sizeOk (.seq ((items.toList.drop (sIx items.size 0 lo)).take (sIx items.size items.size hi - sIx items.size 0 lo)).toArray):=by
  show ((items.toList.drop (sIx items.size 0 lo)).take (sIx items.size items.size hi - sIx items.size 0 lo)).toArray.size<=sizeLine
  rw [List.size_toArray,List.length_take,List.length_drop,Array.length_toList]
  omega
 have hj:sIx items.size items.size hi<=items.size:=vo _ _ (Nat.le_refl _) hi
 obtain ⟨os,hos,hcs,hds⟩:=id hs
 have hTs:s.TypeIs (.ref sl) "slice" := ⟨os,hos,hcs⟩
 unfold getItem
 try with_reducible refine wpAny_holding ?_
 first | refine wpAny_bind (wpAny_pure ?_) | skip
 refine wpAny_bind (wpAny_sequenceKey ht.typeIs (by decide) ?_)
 refine wpAny_bind (wpAny_callSpecial?_slot (name:=Str.ofString "__getitem__") ht.typeIs PyProof.Rows.slot_tuple_getitem
  (wpAny_call_entry PyProof.Rows.slot_tuple_getitem ht.typeIs entry_tuple_getitem ?_ (args_tuple_getitem _ _)))
 show wpAny _ _ (Builtin.Tuple.tupleItemsOf (.ref t) >>= _) _ _ s
 refine wpAny_bind (tupleItemsOf_ ht ?_)
 refine wpAny_bind (wpAny_typeOf hTs ?_)
 rw [if_pos (by decide)]
 refine wpAny_bind (fI hs pl pu ?_)
 have hno:¬ ((((sIx items.size 0 lo:Nat):Int) == 0 && (1:Int) == 1 && (sIx items.size items.size hi - sIx items.size 0 lo) == items.size)=true):=by
  intro q
  rw [Bool.and_eq_true,Bool.and_eq_true] at q
  have q1:((sIx items.size 0 lo:Nat):Int)=0:=eq_of_beq q.1.1
  have q2:sIx items.size items.size hi - sIx items.size 0 lo=items.size:=eq_of_beq q.2
  exact hw ⟨by omega,by omega⟩
 show wpAny _ _ (if (((sIx items.size 0 lo:Nat):Int) == 0 && (1:Int) == 1 && (sIx items.size items.size hi - sIx items.size 0 lo) == items.size)=true then _ else _) _ _ s
 rw [if_neg hno,qi]
 first
  | exact wpAny_bind (m:=Builtin.Tuple.tupleExact _) (wpAny_newObj_type (wpAny_pure ⟨_,rfl,wpAny_pure h⟩) htake)
  | exact wpAny_bind (m:=Builtin.Tuple.tupleExact _) (wpAny_newObj_type (wpAny_bind (wpAny_pure (wpAny_pure ⟨_,rfl,wpAny_pure h⟩))) htake)
  | exact wpAny_bind (wpAny_bind (m:=Builtin.Tuple.tupleExact _) (wpAny_newObj_type (wpAny_pure (wpAny_pure ⟨_,rfl,wpAny_pure h⟩)) htake))
  | exact wpAny_bind (wpAny_bind (m:=Builtin.Tuple.tupleExact _) (wpAny_newObj_type (wpAny_pure ⟨_,rfl,wpAny_pure h⟩) htake))
end
end HT
namespace L2
open PySem PySem.Spec PyProof.Rows
abbrev TO:=St->Hp->(Option Int->Hp->Prop)->Prop
def PO (X:Cx) (e:Option Expr) (t:TO):Prop :=
 ∀ (pins:List (Addr×Obj)) (s:Shared) (σ:St) (H:Hp) (Q:Option Int->Hp->Prop),Inv X pins σ H s->t σ H Q ->
  wpAny (model X.prog X.w) X.A (evalPart e X.env) (λ u s'=>∃o H',Inv X pins σ H' s'/\IsPart u o/\Q o H') X.xe s
def sS:TO:=λ _ H Q=>Q none H
def xT (t:TE):TO:=λ σ H Q=>t σ H λ x H1=>∃i,x=.int i/\Q (some i) H1
section
variable {X:Cx} {e:Expr} {te:TE} {lo hi:Option Expr} {tl th:TO} {pos p2:Pos}
theorem lZ:PO X none sS:=by
 intro pins s σ H Q I h
 rw [evalPart_none]
 exact wpAny_pure ⟨none,H,I,.none,h⟩
theorem ma (h:PE X e te):PO X (some e) (xT te):=by
 intro pins s σ H Q I hw
 rw [evalPart_some]
 refine thn (h pins s σ H _ I hw) λ u s1 ⟨x,H1,I1,r1,q1⟩=>?_
 obtain ⟨i,rfl,q⟩:=q1
 obtain ⟨t,rfl⟩:=r1
 exact ⟨some i,H1,I1,.int i t,q⟩
def SlR (X:Cx) (r:V->Option Int->Option Int->Hp->VK->Prop):Prop :=
 ∀ (pins:List (Addr×Obj)) (s:Shared) (σ:St) (H:Hp) (x:V) (v vl vu:Value) (lo hi:Option Int) (sl:Addr) (Q:VK),Inv X pins σ H s->RelV x v->s.heap.IsSliceOf sl vl vu .none->IsPart vl lo->IsPart vu hi->r x lo hi H Q ->
  ∃T id,typeLookup (.type T) "__getitem__" = pure (some (.builtin id))/\s.TypeIs v T/\wpAny (model X.prog X.w) X.A (getItem v (.ref sl)) (EP X pins σ Q) X.xe s
def tSl (r:V->Option Int->Option Int->Hp->VK->Prop) (te:TE) (tl th:TO):TE:=λ σ H Q=>te σ H λ x H1=>tl σ H1 λ l H2=>th σ H2 λ u H3=>r x l u H3 Q
theorem jJ {r:V->Option Int->Option Int->Hp->VK->Prop} (hr:SlR X r) (he:PE X e te) (hl:PO X lo tl) (hu:PO X hi th):PE X (.Subscript e (.Slice lo hi none p2) pos) (tSl r te tl th):=by
 intro pins s σ H Q I h
 refine Subscript_ (thn (he pins s σ H _ I h) λ v s1 ⟨x,H1,I1,r1,q1⟩=>?_)
 refine wpAny_Slice (thn (hl pins s1 σ H1 _ I1 q1) λ vl s2 ⟨l,H2,I2,pl,q2⟩=>thn (hu pins s2 σ H2 _ I2 q2) λ vu s3 ⟨u,H3,I3,pu,q3⟩=>?_)
 rw [evalPart_none]
 refine wpAny_pure ?_
 have I4:Inv X pins σ H3 { s3 with heap:=s3.heap.push { cls:=.type "slice", data:=.fields #[vl, vu, .none] } }:=I3.kept (t':=s3.toks) λ b ob q=>Heap.get?_push_of_some _ q
 obtain ⟨T,id,hT,ht,hg⟩:=hr pins { s3 with heap:=s3.heap.push { cls:=.type "slice",data:=.fields #[vl,vu,.none] } } σ H3 x v vl vu l u s3.heap.objs.size Q I4 r1 (Heap.IsSliceOf.new ..) pl pu q3
 show wpAny (model X.prog X.w) X.A (subscriptTail e (.Slice lo hi none p2) v (.ref s3.heap.objs.size)) (EP X pins σ Q) X.xe { s3 with heap:=s3.heap.push { cls:=.type "slice",data:=.fields #[vl,vu,.none] } }
 exact tail_any (ops:=[.ref s3.heap.objs.size,v]) ht hT hg (by with_unfolding_all rfl)
def io (xs:List V) (lo hi:Option Int):List V:=(xs.drop (HT.sIx xs.length 0 lo)).take (HT.sIx xs.length xs.length hi - HT.sIx xs.length 0 lo)
theorem ga (xs:List V) (lo hi:Option Int):(io xs lo hi).length<=xs.length:=by
 unfold io
 rw [List.length_take,List.length_drop]
 omega
def FZ (K:PySem.W.Frag):V->Option Int->Option Int->Hp->VK->Prop:=λ x lo hi H Q=>∃a xs,x=.ref a/\SqT K H a xs /\
 ¬ (HT.sIx xs.length 0 lo=0/\HT.sIx xs.length xs.length hi=xs.length)/\∀p,H p=none->Q (.ref p) (upd H p (.tup (io xs lo hi)))
theorem vp:SlR X (FZ X.K):=by
 intro pins s σ H x v vl vu lo hi sl Q I rx hs pl pu h
 obtain ⟨a,xs,rfl,hx,hw,q⟩:=h
 cases rx
 obtain ⟨its,r,ht,hz⟩:=I.tuple hx
 have hlen:its.toArray.size=xs.length:=by rw [List.size_toArray]; exact r.length.symm
 refine ⟨"tuple",_,PyProof.Rows.slot_tuple_getitem.lookup,ht.typeIs,?_⟩
 refine HT.getItem_tuple_cut ht hs pl pu (by rw [hlen]; exact hw) ?_ (by rw [hlen]; exact hz)
 rw [hlen]
 refine ⟨.ref s.heap.objs.size,_,I.laid (t':=s.toks) (o:=.tup (io xs lo hi)) (λ b ob q=>Heap.get?_push_of_some _ q) (Nat.le_refl _) ?_,Y,q _ (I.hok.fresh (Nat.le_refl _))⟩
 exact ⟨Nat.le_trans (ga xs lo hi) hz,_,(r.drop (HT.sIx xs.length 0 lo)).take (HT.sIx xs.length xs.length hi - HT.sIx xs.length 0 lo),IsTup.new _ _⟩
end
end L2
namespace L2
open PySem PySem.Spec PyProof.Rows
def ixN (n:Nat) (i:Int):Option Nat:=if 0<=i then (if i < n then some i.toNat else none) else if -(n:Int)<=i then some (i + n).toNat else none
def atI {α:Type} (xs:List α) (i:Int):Option α:=(ixN xs.length i).bind λ j=>xs[j]?
theorem md {n:Nat} {i:Int} {j:Nat} (h:ixN n i=some j):seqIndex? i n=some j/\j < n/\-(n:Int)<=i/\i < n:=by
 unfold ixN at h
 by_cases h0:0<=i
 ·rw [if_pos h0] at h
  by_cases h1:i < n
  ·rw [if_pos h1] at h
   have e:i.toNat=j:=Option.some.inj h
   exact ⟨by rw [seqIndex_of h0 h1,e],by omega,by omega,h1⟩
  ·rw [if_neg h1] at h; cases h
 ·rw [if_neg h0] at h
  by_cases h1:-(n:Int)<=i
  ·rw [if_pos h1] at h
   have e:(i + n).toNat=j:=Option.some.inj h
   exact ⟨by rw [seqIndex_neg (by omega) h1,e],by omega,h1,by omega⟩
  ·rw [if_neg h1] at h; cases h
theorem gq {α:Type} {xs:List α} {i:Int} {v:α} (h:atI xs i=some v):∃j,seqIndex? i xs.length=some j/\xs[j]? = some v/\j < xs.length/\-(xs.length:Int)<=i/\i < xs.length:=by
 unfold atI at h
 cases e:ixN xs.length i with
 | none=>rw [e] at h; cases h
 | some j =>
  rw [e] at h
  obtain ⟨h1,h2,h3,h4⟩:=md e
  exact ⟨j,h1,h,h2,h3,h4⟩
theorem sT {α:Type} {xs:List α} {j:Nat} {v:α} (h:xs[j]? = some v):atI xs (j:Int)=some v:=by
 have hj:j < xs.length:=(List.getElem?_eq_some_iff.mp h).1
 have e:ixN xs.length (j:Int)=some j:=by
  unfold ixN
  rw [if_pos (by omega),if_pos (by omega)]; simp
 unfold atI; rw [e]; exact h
theorem qj {α:Type} (xs:List α) (v:α):atI (xs ++ [v]) (-1)=some v:=by
 have hl:(xs ++ [v]).length=xs.length + 1:=by simp
 have e:ixN (xs ++ [v]).length (-1)=some xs.length:=by
  unfold ixN
  rw [hl,if_neg (by decide),if_pos (by omega)]
  congr 1
  omega
 unfold atI
 rw [e]
 show (xs ++ [v])[xs.length]? = some v
 simp
def sU (b:Expr):Prop:=∀o i,subscripted b false o i=operate [o,i] (getItem o i)
def IxR (X:Cx) (r:R2):Prop :=
 ∀ (value slice:Expr) (pins:List (Addr×Obj)) (s:Shared) (σ:St) (H:Hp) (x y:V) (v u:Value) (Q:VK),Inv X pins σ H s->RelV x v->RelV y u->r x y H Q ->
  subscripted slice false v u=operate [v,u] (getItem v u)->wpAny (model X.prog X.w) X.A (subscriptTail value slice v u) (EP X pins σ Q) X.xe s
def MtR (X:Cx) (id:String) (r:V->List V->Hp->VK->Prop):Prop :=
 ∀ (pins:List (Addr×Obj)) (s:Shared) (σ:St) (H:Hp) (x:V) (xs:List V) (v:Value) (us:List Value) (Q:VK),Inv X pins σ H s->RelV x v->Vals xs us->r x xs H Q ->
  wpAny (model X.prog X.w) X.A (call (.builtin id) (v :: us)) (EP X pins σ Q) X.xe s
section
variable {X:Cx} {a b:Expr} {ta tb:TE} {pos:Pos}
theorem IxR.or {r r':R2} (h:IxR X r) (h':IxR X r'):IxR X (λ x y H Q=>r x y H Q\/r' x y H Q):=by
 intro value slice pins s σ H x y v u Q I rx ry q hs
 rcases q with q | q
 ·exact h value slice pins s σ H x y v u Q I rx ry q hs
 ·exact h' value slice pins s σ H x y v u Q I rx ry q hs
theorem ao {r:R2} (hr:IxR X r) (ha:PE X a ta) (hb:PE X b tb) (hs:sU b):PE X (.Subscript a b pos) (tOp r ta tb):=by
 intro pins s σ H Q I h
 exact Subscript_ (vj ha hb I h λ v u s2 x y H2 I2 rx ry q=>hr a b pins s2 σ H2 x y v u Q I2 rx ry q (hs _ _))
inductive rIxL (K:PySem.W.Frag) (x:V) (y:V) (H:Hp) (Q:VK):Prop
 | mk (p:Addr) (xs:List V) (i:Int) (v:V) (e_0:x=.ref p) (e_1:y=.int i) (e_2:SqL K H p xs) (e_3:atI xs i=some v) (e_4:Q v H):rIxL K x y H Q
inductive rIxT (K:PySem.W.Frag) (x:V) (y:V) (H:Hp) (Q:VK):Prop
 | mk (p:Addr) (xs:List V) (i:Int) (v:V) (e_0:x=.ref p) (e_1:y=.int i) (e_2:SqT K H p xs) (e_3:atI xs i=some v) (e_4:Q v H):rIxT K x y H Q
def xU:R2:=λ x y H Q=>∃z i c,x=.str z/\y=.int i/\z.length<=sizeLine/\atI z.cps.toList i=some c/\Q (.str ⟨#[c]⟩) H
theorem ix_list:IxR X (rIxL X.K):=by
 intro value slice pins s σ H x y v u Q I rx ry h hs
 obtain ⟨p,xs,i,z,rfl,rfl,hq,he,q⟩:=h
 cases rx
 obtain ⟨t,rfl⟩:=ry
 obtain ⟨its,r,pl,hz⟩:=I.list hq
 obtain ⟨j,h1,h2,h3,h4,h5⟩:=gq he
 obtain ⟨w,ew,rw'⟩:=r.get h2
 have hl:=r.length
 have hn:=eH
 have fin:EP X pins σ Q w s:=⟨z,H,I,rw',q⟩
 by_cases h0:0<=i
 ·have hj:i.toNat=j:=by
   rw [seqIndex_of h0 h5] at h1
   exact Option.some.inj h1
  exact item_listR pl.isList h0 (by omega) (by rw [hj]; simpa using ew) fin hs
 ·have hj:(i + (its.toArray.size:Int)).toNat=j:=by
   rw [seqIndex_neg (by omega) h4] at h1
   rw [List.size_toArray,<- hl]
   exact Option.some.inj h1
  exact subscriptTail_builtinR (x:=w) pl.isList.typeIs slot_list_getitem.lookup
   (wpAny_getItem_list_neg (Q:=λ r s'=>r=w/\EP X pins σ Q r s') pl.isList (by omega) (by rw [List.size_toArray] <;> omega) (by omega) (by rw [hj]; simpa using ew) ⟨rfl,fin⟩) hs
theorem ix_tup:IxR X (rIxT X.K):=by
 intro value slice pins s σ H x y v u Q I rx ry h hs
 obtain ⟨p,xs,i,z,rfl,rfl,hq,he,q⟩:=h
 cases rx
 obtain ⟨t,rfl⟩:=ry
 obtain ⟨its,r,pl,hz⟩:=I.tuple hq
 obtain ⟨j,h1,h2,h3,h4,h5⟩:=gq he
 obtain ⟨w,ew,rw'⟩:=r.get h2
 have hl:=r.length
 have hn:=eH
 have fin:EP X pins σ Q w s:=⟨z,H,I,rw',q⟩
 exact subscriptTail_builtinR (x:=w) pl.typeIs slot_tuple_getitem.lookup
  (getItem_tuple (j:=j) (Q:=λ r s'=>r=w/\EP X pins σ Q r s') pl (by omega) (by omega) (by rw [List.size_toArray,<- hl]; exact h1) (by simpa using ew) ⟨rfl,fin⟩) hs
theorem vq:IxR X xU:=by
 intro value slice pins s σ H x y v u Q I rx ry h hs
 obtain ⟨z,i,c,rfl,rfl,hz,he,q⟩:=h
 obtain ⟨t,rfl⟩:=rx
 obtain ⟨t',rfl⟩:=ry
 obtain ⟨j,h1,h2,h3,h4,h5⟩:=gq he
 have hl:z.cps.toList.length=z.length:=by simp [Str.length]
 rw [hl] at h1 h4 h5
 have hn:=eH
 exact tail_any (typeIs_str s z t) slot_str_getitem.lookup (getItem_str (c:=c) (by
  have e1:decide (i < -(2 ^ 63:Int))=false:=decide_eq_false (by omega)
  have e2:decide (i≥2 ^ 63)=false:=decide_eq_false (by omega)
  rw [e1,e2,Bool.or_false]) (by rw [h1]; simpa using h2) ⟨.str ⟨#[c]⟩,H,I.tok _,⟨_,rfl⟩,q⟩) hs
def rIx (K:PySem.W.Frag):R2:=λ x y H Q=>rIxL K x y H Q\/rIxT K x y H Q\/xU x y H Q
theorem aY:IxR X (rIx X.K):=ix_list.or (ix_tup.or vq)
theorem kS (its:List Value) (n j:Nat) (u:Value):Obj.mapSeq (·.setIfInBounds j u) { cls:=.type "list",data:=.seq its.toArray n }={ cls:=.type "list",data:=.seq (its.set j u).toArray n }:=by
 simp [Obj.mapSeq]
theorem Inv.lst {pins:List (Addr×Obj)} {σ:St} {H:Hp} {s:Shared} {p:Addr} {xs:List V} (I:Inv X pins σ H s) (h:H p=some (.lst xs)) :
  ∃ (its:List Value) (n:Nat),Vals xs its/\s.heap.get? p=some { cls:=.type "list",data:=.seq its.toArray n }/\xs.length<=sizeLine:=by
 obtain ⟨z,its,n,r,e⟩:=I.hok p _ h
 exact ⟨its,n,r,e,z⟩
theorem Inv.lstUpd {pins:List (Addr×Obj)} {σ:St} {H:Hp} {s:Shared} {p:Addr} {xs ys:List V} {its its':List Value} {n n':Nat} {f:Obj->Obj} (I:Inv X pins σ H s) (h:H p=some (.lst xs))
  (ho:s.heap.get? p=some { cls:=.type "list", data:=.seq its.toArray n }) (hf:f { cls:=.type "list", data:=.seq its.toArray n }={ cls:=.type "list", data:=.seq its'.toArray n' }) (r:Vals ys its') (hz:ys.length<=sizeLine) (t:Nat) :
  Inv X pins σ (upd H p (.lst ys)) { s with heap:=s.heap.update p f,toks:=t }:=by
 have e:(s.heap.update p f).get? p=some { cls:=.type "list", data:=.seq its'.toArray n' }:=by
  rw [Heap.get?_update_self f ho (by rw [hf] <;> rfl),hf]
 refine I.write (x:=p) (e:=p) (by rw [h]; trivial) (.inl rfl) (λ b u hb q=>(Heap.get?_update_other _ _ (Ne.symm hb)).trans q) ⟨_,e⟩ ?_
 exact ⟨hz,its',n',r,e⟩
inductive rSetL (o:V) (i:V) (v:V) (H:Hp) (Q:Hp->Prop):Prop
 | mk (p:Addr) (xs:List V) (k:Int) (j:Nat) (e_0:o=.ref p) (e_1:i=.int k) (e_2:H p=some (.lst xs)) (e_3:ixN xs.length k=some j) (e_4:Q (upd H p (.lst (xs.set j v)))):rSetL o i v H Q
theorem eV:vf X rSetL:=by
 intro pins s σ H o i v ov iv u Q I ro ri rv h
 obtain ⟨p,xs,k,j,rfl,rfl,hp,hj,q⟩:=h
 cases ro
 obtain ⟨t,rfl⟩:=ri
 obtain ⟨its,n,r,ho,hz⟩:=I.lst hp
 obtain ⟨h1,h2,h3,h4⟩:=md hj
 have hl:=r.length
 have hn:=eH
 have I':Inv X pins σ (upd H p (.lst (xs.set j v))) { s with heap:=s.heap.update p (Obj.mapSeq (·.setIfInBounds j u)) } :=
  I.lstUpd hp ho (kS its n j u) (r.set rv j) (by rw [List.length_set]; exact hz) s.toks
 by_cases h0:0<=k
 ·have hk:k.toNat=j:=by
   rw [seqIndex_of h0 h4] at h1
   exact Option.some.inj h1
  exact PySem.W.ki_setAt ho h0 (by omega) (by rw [List.size_toArray,<- hl]; exact h4) (by rw [hk]; exact ⟨_,I',q⟩)
 ·have hk:(k + (its.toArray.size:Int)).toNat=j:=by
   rw [seqIndex_neg (by omega) h3] at h1
   rw [List.size_toArray,<- hl]
   exact Option.some.inj h1
  exact PySem.W.ki_setBack ho (by omega) (by rw [List.size_toArray,<- hl]; exact h3) (by omega) (by rw [hk]; exact ⟨_,I',q⟩)
theorem iZ (lo hi:Option Int) (n:Nat):(sliceBounds lo hi none n).1=((HT.sIx n 0 lo:Nat):Int)/\(sliceBounds lo hi none n).2.1=((HT.sIx n n hi:Nat):Int)/\(sliceBounds lo hi none n).2.2=1:=by
 refine ⟨?_,?_,Y⟩
 ·cases lo with
  | none=>simp [sliceBounds,HT.sIx]
  | some i =>
   simp only [sliceBounds,HT.sIx,Option.getD_none,show (1:Int) > 0 by decide,if_true]
   by_cases h:i < 0
   ·simp only [h,if_true] <;> omega
   ·simp only [h,if_false] <;> omega
 ·cases hi with
  | none=>simp [sliceBounds,HT.sIx]
  | some i =>
   simp only [sliceBounds,HT.sIx,Option.getD_none,show (1:Int) > 0 by decide,if_true]
   by_cases h:i < 0
   ·simp only [h,if_true] <;> omega
   ·simp only [h,if_false] <;> omega
theorem ip (its:List Value) (lo hi:Option Int):slicePick its.toArray lo hi none=((its.drop (HT.sIx its.length 0 lo)).take (HT.sIx its.length its.length hi - HT.sIx its.length 0 lo)).toArray:=by
 obtain ⟨h1,h2,h3⟩:=iZ lo hi its.toArray.size
 unfold slicePick
 rw [h1,h2,h3]
 simp only [sliceRange_one,pick_run,List.size_toArray] <;> rfl
inductive rSlL (K:PySem.W.Frag) (x:V) (lo:Option Int) (hi:Option Int) (H:Hp) (Q:VK):Prop
 | mk (a:Addr) (xs:List V) (e_0:x=.ref a) (e_1:SqL K H a xs) (e_2:∀p,H p=none->Q (.ref p) (upd H p (.lst (io xs lo hi)))):rSlL K x lo hi H Q
theorem sV:SlR X (rSlL X.K):=by
 intro pins s σ H x v vl vu lo hi sl Q I rx hs pl pu h
 obtain ⟨a,xs,rfl,hx,q⟩:=h
 cases rx
 obtain ⟨its,r,ht,hz⟩:=I.list hx
 have hlen:=r.length
 refine ⟨"list",_,slot_list_getitem.lookup,ht.isList.typeIs,?_⟩
 refine wpAny_getItem_list_slice ht.isList hs pl pu .none (by simp) ?_ (by rw [List.size_toArray] <;> omega)
 rw [ip,<- hlen]
 refine ⟨.ref s.heap.objs.size,_,I.laid (t':=s.toks) (o:=.lst (io xs lo hi)) (λ b ob q=>Heap.get?_push_of_some _ q) (Nat.le_refl _) ?_,Y,q _ (I.hok.fresh (Nat.le_refl _))⟩
 exact ⟨Nat.le_trans (ga xs lo hi) hz,_,0,(r.drop (HT.sIx xs.length 0 lo)).take (HT.sIx xs.length xs.length hi - HT.sIx xs.length 0 lo),Heap.get?_push_size _ rfl⟩
def gb:V->Bool
 | .non=>true
 | .bl _=>true
 | .int _=>true
 | .str _=>true
 | _=>false
def eqV:V->V->Bool
 | .non,.non=>true
 | .bl a,.bl b=>a == b
 | .bl a,.int b=>(if a then 1 else 0) == b
 | .int a,.bl b=>a == (if b then 1 else 0)
 | .int a,.int b=>a == b
 | .str a,.str b=>a == b
 | _,_=>false
theorem vt {A:Around} {s:Shared} {y x:V} {u v:Value} (ry:RelV y u) (rx:RelV x v) (fy:gb y=true) (fx:gb x=true):SeqAt.EqAt A s u v (eqV y x):=by
 cases y with
 | non =>
  cases ry
  cases x with
  | non=>cases rx; exact SeqAt.EqAt.same _
  | bl b=>cases rx; exact SeqAt.EqAt.none_bool b
  | int b=>obtain ⟨t,rfl⟩:=rx; exact SeqAt.EqAt.none_int b t
  | str b=>obtain ⟨t,rfl⟩:=rx; exact SeqAt.EqAt.none_str b t
  | _=>exact absurd (show false=true from fx) Bool.false_ne_true
 | bl a =>
  cases ry
  cases x with
  | non=>cases rx; exact SeqAt.EqAt.bool_none a
  | bl b=>cases rx; exact SeqAt.EqAt.bool_bool a b
  | int b=>obtain ⟨t,rfl⟩:=rx; exact SeqAt.EqAt.bool_int a b t
  | str b=>obtain ⟨t,rfl⟩:=rx; exact SeqAt.EqAt.bool_str a b t
  | _=>exact absurd (show false=true from fx) Bool.false_ne_true
 | int a =>
  obtain ⟨t',rfl⟩:=ry
  cases x with
  | non=>cases rx; exact SeqAt.EqAt.int_none a t'
  | bl b=>cases rx; exact SeqAt.EqAt.int_bool a t' b
  | int b=>obtain ⟨t,rfl⟩:=rx; exact SeqAt.EqAt.int_int a t' b t
  | str b=>obtain ⟨t,rfl⟩:=rx; exact SeqAt.EqAt.int_str a t' b t
  | _=>exact absurd (show false=true from fx) Bool.false_ne_true
 | str a =>
  obtain ⟨t',rfl⟩:=ry
  cases x with
  | non=>cases rx; exact SeqAt.EqAt.str_none a t'
  | bl b=>cases rx; exact SeqAt.EqAt.str_bool a t' b
  | int b=>obtain ⟨t,rfl⟩:=rx; exact SeqAt.EqAt.str_int a t' b t
  | str b=>obtain ⟨t,rfl⟩:=rx; exact SeqAt.EqAt.str_str a t' b t
  | _=>exact absurd (show false=true from fx) Bool.false_ne_true
 | _=>exact absurd (show false=true from fy) Bool.false_ne_true
def eqU (x:V) (u:Value):Bool:=match u with
 | .none=>eqV .non x
 | .bool b=>eqV (.bl b) x
 | .int i _=>eqV (.int i) x
 | .str z _=>eqV (.str z) x
 | _=>false
theorem qk {x y:V} {u:Value} (r:RelV y u) (f:gb y=true):eqU x u=eqV y x:=by
 cases y with
 | non=>cases r; rfl
 | bl b=>cases r; rfl
 | int i=>obtain ⟨t,rfl⟩:=r; rfl
 | str z=>obtain ⟨t,rfl⟩:=r; rfl
 | _=>exact absurd (show false=true from f) Bool.false_ne_true
theorem eW {x:V}:∀ {xs:List V} {us:List Value},Vals xs us->xs.all gb=true->us.any (eqU x)=xs.any λ y=>eqV y x
 | _,_,.nil,_=>rfl
 | y :: xs,u :: us,.cons r t,f=>by
  rw [List.all_cons,Bool.and_eq_true] at f
  rw [List.any_cons,List.any_cons,qk r f.1,eW t f.2]
theorem dD {A:Around} {s:Shared} {x:V} {v:Value} (rx:RelV x v) (fx:gb x=true):∀ {xs:List V} {us:List Value},Vals xs us->xs.all gb=true->∀u∈us,SeqAt.EqAt A s u v (eqU x u)
 | _,_,.nil,_=>λ u hu=>by cases hu
 | y :: xs,u :: us,.cons r t,f=>λ u' hu=>by
  rw [List.all_cons,Bool.and_eq_true] at f
  rcases List.mem_cons.mp hu with rfl | hu
  ·rw [qk r f.1]; exact vt r rx f.1 fx
  ·exact dD rx fx t f.2 u' hu
def inV (x:V) (xs:List V):Bool:=xs.any λ y=>eqV y x
def rIn (K:PySem.W.Frag) (neg:Bool):R2:=λ x y H Q=>∃p xs,y=.ref p/\(SqL K H p xs\/SqT K H p xs)/\gb x=true/\xs.all gb=true/\Q (.bl (if neg then !inV x xs else inV x xs)) H
theorem fJ:OpR X (compareOp .In) (rIn X.K false):=by
 intro pins s σ H x y v u Q I rx ry h
 obtain ⟨p,xs,rfl,hq,fx,fs,q⟩:=h
 cases ry
 rcases hq with hq | hq
 ·obtain ⟨its,r,pl,hz⟩:=I.list hq
  refine SeqAt.in_listAt (eqU x) pl.isList (λ w hw=>dD rx fx r fs w (by simpa using hw)) ⟨.bl _,H,I,rfl,?_⟩
  rw [show its.toArray.any (eqU x)=its.any (eqU x) by simp,eW r fs]
  exact q
 ·obtain ⟨its,r,pl,hz⟩:=I.tuple hq
  refine SeqAt.in_tupleAt (eqU x) pl (λ w hw=>dD rx fx r fs w (by simpa using hw)) ⟨.bl _,H,I,rfl,?_⟩
  rw [show its.toArray.any (eqU x)=its.any (eqU x) by simp,eW r fs]
  exact q
theorem eX:OpR X (compareOp .NotIn) (rIn X.K true):=by
 intro pins s σ H x y v u Q I rx ry h
 obtain ⟨p,xs,rfl,hq,fx,fs,q⟩:=h
 cases ry
 rcases hq with hq | hq
 ·obtain ⟨its,r,pl,hz⟩:=I.list hq
  refine SeqAt.notIn_listAt (eqU x) pl.isList (λ w hw=>dD rx fx r fs w (by simpa using hw)) ⟨.bl _,H,I,rfl,?_⟩
  rw [show its.toArray.any (eqU x)=its.any (eqU x) by simp,eW r fs]
  exact q
 ·obtain ⟨its,r,pl,hz⟩:=I.tuple hq
  refine SeqAt.notIn_tupleAt (eqU x) pl (λ w hw=>dD rx fx r fs w (by simpa using hw)) ⟨.bl _,H,I,rfl,?_⟩
  rw [show its.toArray.any (eqU x)=its.any (eqU x) by simp,eW r fs]
  exact q
theorem aW:bZ X (.builtin "len") (λ xs H Q=>∃p ys,xs=[.ref p]/\(SqL X.K H p ys\/SqT X.K H p ys)/\Q (.int ys.length) H):=by
 intro pins s σ H xs us Q I r h
 obtain ⟨p,ys,rfl,hq,q⟩:=h
 obtain ⟨u,rfl,rx⟩:=eD r
 cases rx
 have hn:=eH
 rcases hq with hq | hq
 ·obtain ⟨its,r',pl,hz⟩:=I.list hq
  have hlen:=r'.length
  exact Calls.call_len_list pl.isList (by simp only [List.size_toArray] <;> omega) ⟨.int ys.length,H,I.tok _,⟨s.toks + 1,by rw [List.size_toArray,hlen]⟩,q⟩
 ·obtain ⟨its,r',pl,hz⟩:=I.tuple hq
  have hlen:=r'.length
  exact len_tuple pl (by simp only [List.size_toArray] <;> omega) ⟨.int ys.length,H,I.tok _,⟨s.toks + 1,by rw [List.size_toArray,hlen]⟩,q⟩
theorem ja:bZ X (.type "list") (λ xs H Q=>∃p ys,xs=[.ref p]/\(SqL X.K H p ys\/SqT X.K H p ys)/\∀l,H l=none->Q (.ref l) (upd H l (.lst ys))):=by
 intro pins s σ H xs us Q I r h
 obtain ⟨p,ys,rfl,hq,q⟩:=h
 obtain ⟨u,rfl,rx⟩:=eD r
 cases rx
 have fin:∀ (its:List Value),Vals ys its->ys.length<=sizeLine->∀ (h':Heap) (c':Nat),(∀b o',s.heap.get? b=some o'->h'.get? b=some o') ->
   h'.get? s.heap.objs.size=some { cls:=.type "list", dict:=none, data:=.seq its.toArray c', slots:=#[] }->EP X pins σ Q (.ref s.heap.objs.size) { s with heap:=h' }:=λ its r' hz h' c' kp e =>
  ⟨.ref s.heap.objs.size,_,I.laid (t':=s.toks) kp (Nat.le_refl _) (show ObjOk X.prog X.w _ h' _ (.lst ys) from ⟨hz,its,c',r',e⟩),rfl,q _ (I.hok.fresh (Nat.le_refl _))⟩
 rcases hq with hq | hq
 ·obtain ⟨its,r',pl,hz⟩:=I.list hq
  have hlen:=r'.length
  obtain ⟨o,ho,hc,n,hd⟩:=pl.isList
  exact call_list_seq p (.inl rfl) ho hc hd (λ h' c' kp e=>fin its r' hz h' c' kp e) (by simp only [List.size_toArray] <;> omega)
 ·obtain ⟨its,r',pl,hz⟩:=I.tuple hq
  have hlen:=r'.length
  obtain ⟨o,ho,hc,n,hd⟩:=pl
  exact call_list_seq p (.inr rfl) ho hc hd (λ h' c' kp e=>fin its r' hz h' c' kp e) (by simp only [List.size_toArray] <;> omega)
theorem br:bZ X (.type "tuple") (λ xs H Q=>∃p ys,xs=[.ref p]/\((SqL X.K H p ys/\∀l,H l=none->Q (.ref l) (upd H l (.tup ys)))\/(SqT X.K H p ys/\Q (.ref p) H))):=by
 intro pins s σ H xs us Q I r h
 obtain ⟨p,ys,rfl,h⟩:=h
 obtain ⟨u,rfl,rx⟩:=eD r
 cases rx
 rcases h with ⟨hq,q⟩ | ⟨hq,q⟩
 ·obtain ⟨its,r',pl,hz⟩:=I.list hq
  have hlen:=r'.length
  refine call_tuple_list pl.isList (λ h' kp=>?_) (by simp only [List.size_toArray] <;> omega)
  have I1:Inv X pins σ H { s with heap:=h' }:=I.kept (t':=s.toks) kp
  have I2:Inv X pins σ (upd H h'.objs.size (.tup ys)) { s with heap:=h'.push { cls:=.type "tuple", data:=.seq its.toArray } } :=
   I1.laid (t':=s.toks) (λ b o e=>Heap.get?_push_of_some _ e) (Nat.le_refl _) (show ObjOk X.prog X.w _ _ _ (.tup ys) from ⟨hz,its,r',IsTup.new _ _⟩)
  exact ⟨.ref h'.objs.size,_,I2,Y,q _ (I1.hok.fresh (Nat.le_refl _))⟩
 ·obtain ⟨its,r',pl,hz⟩:=I.tuple hq
  exact call_tuple_same pl ⟨.ref p,H,I,rfl,q⟩
def tyV (K:PySem.W.Frag) (T:String) (x:V) (H:Hp):Prop:=match x with
 | .str _=>T = "str"
 | .int _=>T = "int"
 | .ref p=>(T = "list" /\ ∃xs,SqL K H p xs)\/(T = "tuple" /\ ∃o,K.lookup p=some o/\o.cls=.type "tuple" /\ o.dict=none) \/
   (T = "dict" /\ ((∃kvs,H p=some (.dK kvs))\/∃kvs,H p=some (.dT kvs)))\/(T = "set" /\ ∃S n,H p=some (.set S n))
 | _=>False
theorem ql {pins:List (Addr×Obj)} {σ:St} {H:Hp} {s:Shared} {T:String} {x:V} {v:Value} (I:Inv X pins σ H s) (r:RelV x v) (ty:tyV X.K T x H) :
  s.TypeIs v T/\∀a,v=.ref a->∃ob,s.heap.get? a=some ob/\ob.dict=none:=by
 cases x with
 | str z =>
  obtain ⟨t,rfl⟩:=r
  cases (show T = "str" from ty)
  exact ⟨typeIs_str s z t,λ _ e=>nomatch e⟩
 | int i =>
  obtain ⟨t,rfl⟩:=r
  cases (show T = "int" from ty)
  exact ⟨typeIs_int s i t,λ _ e=>nomatch e⟩
 | ref p =>
  cases r
  rcases ty with ⟨rfl,xs,hq⟩ | ⟨rfl,o,hk,hc,hd⟩ | ⟨rfl,hk⟩ | ⟨rfl,S,n,hk⟩
  ·obtain ⟨its,_,pl,_⟩:=I.list hq
   refine ⟨pl.isList.typeIs,λ a e=>?_⟩
   cases e
   obtain ⟨o,n,e,c,hd,_⟩:=pl
   exact ⟨o,e,hd⟩
  ·refine ⟨⟨o,I.kIn p o hk,hc⟩,λ a e=>?_⟩
   cases e
   exact ⟨o,I.kIn _ o hk,hd⟩
  ·have z:∃o,s.heap.get? p=some o/\o.ExactDict:=by
    rcases hk with ⟨kvs,hk⟩ | ⟨kvs,hk⟩
    ·obtain ⟨_,_,_,_,o,_,_,e,ex,_⟩:=I.hok p _ hk
     exact ⟨o,e,ex⟩
    ·obtain ⟨_,_,_,_,o,_,_,e,ex,_⟩:=I.hok p _ hk
     exact ⟨o,e,ex⟩
   obtain ⟨o,e,ex⟩:=z
   refine ⟨⟨o,e,ex.1⟩,λ a e2=>?_⟩
   cases e2
   exact ⟨o,e,ex.2.1⟩
  ·obtain ⟨o,_,_,_,e,ex,_⟩:=I.hok p _ hk
   refine ⟨⟨o,e,ex.1⟩,λ a e2=>?_⟩
   cases e2
   exact ⟨o,e,ex.2.1⟩
 | _=>exact False.elim ty
def Ga (K:PySem.W.Frag) (T:String) (r:V->List V->Hp->VK->Prop) (to:TE):TE:=λ σ H Q=>to σ H λ x H1=>tyV K T x H1/\r x [] H1 Q
def tBM (K:PySem.W.Frag) (T:String) (r:V->List V->Hp->VK->Prop) (to:TE) (t:TA):TE:=λ σ H Q=>to σ H λ x H1=>tyV K T x H1/\t σ H1 λ xs H2=>r x xs H2 Q
variable {o e:Expr} {es:List Expr} {to:TE} {t:TA} {name:Str} {apos cpos:Pos} {T id:String} {r:V->List V->Hp->VK->Prop}
theorem jb (pa:PlainAttrs T) (slot:Slot T name id) (hty:typeOf (.builtin id)=pure (.type "method_descriptor")) (hm:MtR X id r) (ho:PE X o to)
  (hbase:attributeBase o name X.env (eval o X.env)=eval o X.env:=by rfl) (hline:(apos.endLine == cpos.line)=true:=by rfl):PE X (.Call (.Attribute o name apos) [] [] cpos) (Ga X.K T r to):=by
 intro pins s σ H Q I h
 refine wpAny_Call_method0_late hbase hline (thn (ho pins s σ H _ I h) λ v s1 ⟨x,H1,I1,r1,ty,q1⟩=>?_)
 obtain ⟨h1,h2⟩:=ql I1 r1 ty
 exact ⟨T,id,pa,slot,hty,h1,h2,Calls.callWith_builtin rfl (PySem.evalArgs_none (hm pins s1 σ H1 x [] v [] Q I1 r1 .nil q1))⟩
theorem dE (pa:PlainAttrs T) (slot:Slot T name id) (hty:typeOf (.builtin id)=pure (.type "method_descriptor")) (hm:MtR X id r) (ho:PE X o to) (ha:PA X (e :: es) t)
  (hbase:attributeBase o name X.env (eval o X.env)=eval o X.env:=by rfl)
  (hfew:((backTo cpos (starEach (e :: es) X.env)).all (λ x=>!x.1) && (backToKw cpos (keywordEach [] X.env)).all (λ x=>x.1.isSome)
   && decide ((e :: es).length + ([]:List Keyword).length + (if ([]:List Keyword).isEmpty then 0 else 1) < 30))=true:=by rfl)
  (hline:(apos.endLine == cpos.line)=true:=by rfl) (hs:starEach (e :: es) X.env=(false,eval e X.env) :: starEach es X.env:=by rfl) (hplain:(backTo cpos (starEach es X.env)).any (·.1)=false:=by rfl) :
  PE X (.Call (.Attribute o name apos) (e :: es) [] cpos) (tBM X.K T r to t):=by
 intro pins s σ H Q I h
 refine wpAny_Call_method_late hbase hfew hline rfl (thn (ho pins s σ H _ I h) λ v s1 ⟨x,H1,I1,r1,ty,q1⟩=>?_)
 obtain ⟨h1,h2⟩:=ql I1 r1 ty
 refine ⟨T,id,pa,slot,hty,h1,h2,?_⟩
 have hA:=ha cpos pins s1 σ H1 _ I1 q1
 rw [hs] at hA ⊢
 refine Calls.callWith_builtin (by show (false || (backTo cpos (starEach es X.env)).any (·.1))=false; rw [hplain] <;> rfl) (Calls.evalArgs_plain ?_)
 exact thn hA λ us s2 ⟨vs,H2,I2,r2,q2⟩=>hm pins s2 σ H2 x vs v us Q I2 r1 r2 q2
/- xs.append(e),list.index on a module's tuple .. are MtR facts of 06m -/
end
end L2
namespace L2
open PySem PySem.Spec PyProof.Rows
def MtM (X:Cx) (id:String) (r:V->List V->Hp->VK->Prop):Prop :=
 ∀ (pins:List (Addr×Obj)) (s:Shared) (σ:St) (H:Hp) (x:V) (xs:List V) (v:Value) (us:List Value) (Q:VK),Inv X pins σ H s->RelV x v->Vals xs us->r x xs H Q ->
  wpAny (model X.prog X.w) X.A (call (.builtin id) (v :: us)) (EP X pins σ Q) X.xe s
theorem Vals.one:∀ {x:V} {us:List Value},Vals [x] us->∃u,us=[u]/\RelV x u
 | _,_,.cons r .nil=>⟨_,Y,r⟩
theorem Vals.zero:∀ {us:List Value},Vals [] us->us=[]
 | _,.nil=>rfl
theorem Vals.dropLast {xs:List V} {us:List Value} (h:Vals xs us):Vals xs.dropLast us.dropLast:=by
 induction h with
 | nil=>exact .nil
 | cons r t ih =>
  cases t with
  | nil=>exact .nil
  | cons q t'=>exact .cons r ih
theorem kT {α:Type} (l:List α):l.eraseIdx (l.length - 1)=l.dropLast:=by
 induction l with
 | nil=>rfl
 | cons a r ih =>
  cases r with
  | nil=>rfl
  | cons b r =>
   have e:(a :: b :: r).length - 1=((b :: r).length - 1) + 1:=by
    have h1:(a :: b :: r).length=r.length + 2:=rfl
    have h2:(b :: r).length=r.length + 1:=rfl
    omega
   rw [e,List.eraseIdx_cons_succ,ih]
   all_goals rfl
section
variable {X:Cx} {pins:List (Addr×Obj)} {σ:St} {H:Hp} {s:Shared} {l b:Addr} {xs ys zs:List V}
theorem Inv.lset {its its':List Value} {n:Nat} {f:Array Value->Array Value} {t':Nat} (I:Inv X pins σ H s) (hH:H l=some (.lst xs))
  (e:s.heap.get? l=some { cls:=.type "list", data:=.seq its.toArray n }) (hf:f its.toArray=its'.toArray) (hv:Vals ys its') (hz:ys.length<=sizeLine) :
  Inv X pins σ (upd H l (.lst ys)) { s with heap:=s.heap.update l (Obj.mapSeq f),toks:=t' }:=by
 have q:=PySem.IsL.update e f
 rw [hf] at q
 refine I.write (x:=l) (e:=l) (by rw [hH]; exact trivial) (.inl rfl) (λ b' u hb hu=>(Heap.get?_update_other s.heap (Obj.mapSeq f) (Ne.symm hb)).trans hu) ⟨_,q⟩ ?_
 exact ⟨hz,its',_,hv,q⟩
theorem Inv.lnew {its:List Value} {t':Nat} (I:Inv X pins σ H s) (hv:Vals ys its) (hz:ys.length<=sizeLine) :
  Inv X pins σ (upd H s.heap.objs.size (.lst ys)) { s with heap:=s.heap.push { cls:=.type "list", data:=.seq its.toArray }, toks:=t' } :=
 I.laid (λ _ _ q=>Heap.get?_push_of_some _ q) (Nat.le_refl _) ⟨hz,its,0,hv,Heap.get?_push_size _ rfl⟩
theorem Inv.fresh (I:Inv X pins σ H s):H s.heap.objs.size=none:=I.hok.fresh (Nat.le_refl _)
theorem Inv.lstM (I:Inv X pins σ H s) (hH:H l=some (.lst xs)):xs.length<=sizeLine/\∃ (its:List Value) (n:Nat),Vals xs its/\xs.length=its.length/\s.heap.get? l=some { cls:=.type "list",data:=.seq its.toArray n }:=by
 obtain ⟨z,its,n,r,e⟩:=I.hok l _ hH
 exact ⟨z,its,n,r,r.length,e⟩
theorem qm {n:Nat} (h:n<=sizeLine):Builtin.List.listTooLong n=false:=by
 unfold Builtin.List.listTooLong
 exact decide_eq_false (by omega)
end
section
variable {X:Cx}
inductive rAppend (x:V) (vs:List V) (H:Hp) (Q:VK):Prop
 | mk (l:Addr) (xs:List V) (y:V) (e_0:x=.ref l) (e_1:vs=[y]) (e_2:H l=some (.lst xs)) (e_3:xs.length < sizeLine) (e_4:Q .non (upd H l (.lst (xs ++ [y])))):rAppend x vs H Q
theorem bP:MtM X "list.append" rAppend:=by
 intro pins s σ H x vs v us Q I rx rv h
 obtain ⟨l,xs,y,rfl,rfl,hH,hz,q⟩:=h
 cases rx
 obtain ⟨u,rfl,ru⟩:=rv.one
 obtain ⟨z,its,n,r,hl,e⟩:=I.lstM hH
 refine call_meets F.slot_list_append ⟨_,e,Y⟩ F.entry_list_append (F.args_list_append_2 _ _) (PySem.list_append l its.toArray n u (by rw [List.size_toArray]; omega)) ⟨e,?_⟩
 refine ⟨.non,_,I.lset (its':=its ++ [u]) hH e (by simp) (r.append (.cons ru .nil)) ?_,Y,q⟩
 rw [List.length_append,List.length_singleton]
 omega
def sW:V->List V->Hp->VK->Prop:=λ x vs H Q=>∃l b xs zs,x=.ref l/\vs=[.ref b]/\H l=some (.lst xs)/\H b=some (.lst zs)/\xs.length + zs.length<=sizeLine/\Q .non (upd H l (.lst (xs ++ zs)))
theorem dQ:MtM X "list.extend" sW:=by
 intro pins s σ H x vs v us Q I rx rv h
 obtain ⟨l,b,xs,zs,rfl,rfl,hH,hB,hz,q⟩:=h
 cases rx
 obtain ⟨u,rfl,ru⟩:=rv.one
 cases ru
 obtain ⟨z,its,n,r,hl,e⟩:=I.lstM hH
 obtain ⟨z2,its2,n2,r2,hl2,e2⟩:=I.lstM hB
 have hsz:its.toArray.size + its2.toArray.size<=sizeLine:=by rw [List.size_toArray,List.size_toArray]; omega
 have hlong:¬ (!its.toArray.isEmpty && Builtin.List.listTooLong (its.toArray.size + its2.toArray.size))=true:=by
  rw [qm hsz,Bool.and_false]
  exact Bool.false_ne_true
 refine call_meets F.slot_list_extend ⟨_,e,Y⟩ F.entry_list_extend (F.args_list_extend_2 _ _)
  (AutoSeq1.list_extend_list_list_0 l its.toArray n b its2.toArray n2 hlong (by rw [List.size_toArray]; omega) (by omega)) ⟨e,e2,?_⟩
 refine ⟨.non,_,I.lset (its':=its ++ its2) hH e (by simp) (r.append r2) ?_,Y,q⟩
 rw [List.length_append]
 omega
def Gb:V->List V->Hp->VK->Prop:=λ x vs H Q=>∃l xs y,x=.ref l/\vs=[]/\H l=some (.lst xs)/\xs[xs.length - 1]? = some y/\Q y (upd H l (.lst xs.dropLast))
theorem jc:MtM X "list.pop" Gb:=by
 intro pins s σ H x vs v us Q I rx rv h
 obtain ⟨l,xs,y,rfl,rfl,hH,hy,q⟩:=h
 cases rx
 have hus:=rv.zero
 subst hus
 obtain ⟨z,its,n,r,hl,e⟩:=I.lstM hH
 obtain ⟨u,hu,ru⟩:=r.get hy
 have hy':its.toArray[its.toArray.size - 1]? = some u:=by
  show its.toArray[its.length - 1]? = some u
  rw [<- Array.getElem?_toList,<- hl]
  exact hu
 refine call_meets F.slot_list_pop ⟨_,e,Y⟩ F.entry_list_pop (F.args_list_pop_1 _) (MeetsSeq.list_pop_last l its.toArray n u hy' (by rw [List.size_toArray]; omega)) ⟨e,?_⟩
 refine ⟨y,_,I.lset (its':=its.dropLast) hH e ?_ r.dropLast ?_,ru,q⟩
 ·show its.toArray.eraseIdxIfInBounds (its.toArray.size - 1)=its.dropLast.toArray
  rw [List.size_toArray,List.eraseIdxIfInBounds_toArray,kT]
 ·rw [List.length_dropLast]
  omega
inductive rCat (x:V) (y:V) (H:Hp) (Q:VK):Prop
 | mk (l:Addr) (b:Addr) (xs:List V) (zs:List V) (e_0:x=.ref l) (e_1:y=.ref b) (e_2:H l=some (.lst xs)) (e_3:H b=some (.lst zs)) (e_4:xs.length + zs.length<=sizeLine) (e_5:∀p,H p=none->Q (.ref p) (upd H p (.lst (xs ++ zs)))):rCat x y H Q
theorem vw:OpR X (binaryOp .Add) rCat:=by
 intro pins s σ H x y v u Q I rx ry h
 obtain ⟨l,b,xs,zs,rfl,rfl,hH,hB,hz,q⟩:=h
 cases rx
 cases ry
 obtain ⟨z,its,n,r,hl,e⟩:=I.lstM hH
 obtain ⟨z2,its2,n2,r2,hl2,e2⟩:=I.lstM hB
 refine PySem.P.add_list e e2 ?_ (by rw [List.size_toArray,List.size_toArray]; omega)
 have ea:its.toArray ++ its2.toArray=(its ++ its2).toArray:=by simp
 rw [ea]
 exact ⟨.ref _,_,I.lnew (t':=s.toks) (r.append r2) (by rw [List.length_append]; omega),Y,q _ I.fresh⟩
end
end L2
namespace Att
open PySem PySem.W PySem.Calls PyProof.Rows
theorem gi {P:Params} {h:Heap}:∀ (ns:List Int) (vs:List Value),WellAll P h vs (ns.map WData.int)->IntsAre vs ns:=by
 intro ns
 induction ns with
 | nil =>
  intro vs w
  rw [List.map_nil] at w
  cases w
  exact .nil
 | cons n ns ih =>
  intro vs w
  rw [List.map_cons] at w
  cases w with
  | cons a b =>
   cases a
   exact .cons _ _ (ih _ b)
theorem nr {l:OpenLaw} {n:Nat} (hn:l.most=some n) {P:Params} {h:Heap} {args:List WData} {vals:List Value}
  (hpre:l.row.toRowW.claim.pre args=true) (hwl:WellAll P h vals args) :
  ∃a vs ns,vals=[Value.ref a]/\args=[WData.list (ns.map WData.int)]/\h.get? a=some { cls:=.type "list",data:=.seq vs.toArray }/\IntsAre vs ns/\ns.length<=n:=by
 have hsh:WShape.hasAll [] args [.list .int]=true:=(pre_splitW hpre).1
 have hc:l.pre.holds [] { args:=args }=true:=(pre_splitW hpre).2
 obtain ⟨d,r,rfl,h1,h2⟩:=hasAllW_cons hsh
 obtain rfl:=hasAllW_nil h2
 obtain ⟨xs,rfl,h3⟩:=hasW_list h1
 obtain ⟨ns,rfl⟩:=items_int h3
 have hlen:ns.length<=n:=by
  unfold OpenLaw.pre at hc
  have h4:(WTm.not (.lt (.lit (.int (n:Int))) (.len (.arg 0)))).holds [] { args:=[.list (ns.map .int)] }=true:=by
   have h4:=(holds_andW hc).1
   rw [hn] at h4
   exact h4
  have h5:=condW_of h4 (w_not (w_lt w_lit (w_len_list (w_arg rfl))))
  rw [List.length_map] at h5
  refine Nat.le_of_not_lt λ q=>?_
  have q':(n:Int) < ((ns.length:Nat):Int):=by omega
  first
   | (rw [decide_eq_true q'] at h5; exact absurd h5 (by decide))
   | (simp at h5; omega)
 cases hwl with
 | cons w1 w2 =>
  cases w2
  cases w1 with
  | list ho hall=>exact ⟨_,_,ns,Y,Y,ho,gi ns _ hall,hlen⟩
theorem nu (l:OpenLaw) (args:List WData):l.row.toRowW.claim.post args (.bool true) args=true :=
 postW_of (r:=l.row.toRowW) (X:=(true == true))
  (show WShape.has [] (.bool true) .bool=true by first | rfl | decide | simp [WShape.has,WShape.arms,WShape.armsAll])
  (show (WTm.eq .res (.lit (.bool true))).value [] { args:=args,res:=some (.bool true),after:=args }=some (.bool (true == true)) from w_eq_bool (w_res rfl) w_lit) rfl
theorem attach_call {l:OpenLaw} {n:Nat} {q:Program} {loose:List Str} {XP:(Str->Option Value)->Heap->Prop} {YP:World->Heap->Prop} {d:DefRec}
  (hn:l.most=some n) (hdf:d.params.defaults=[])
  (call:∀ (w:World) (s₀ s₁:Shared) (mg mb:Str->Option Value) (fa:Addr) (o:Obj) (pm cd doc:Value) (a:Addr) (vs:List Value) (ns:List Int),
   Ground q loose [] XP w s₀ mg mb s₁.heap->YP w s₁.heap ->
   s₁.heap.get? fa=some o->o.data=.func (docDef d.name d.params d.body d.scope pm cd doc)->s₁.heap.CodeRec cd d.name->mg d.name=some (.ref fa) ->
   s₁.heap.get? a=some { cls:=.type "list",data:=.seq vs.toArray }->IntsAre vs ns->ns.length<=n->s₁.gens=#[] ->
   codeAny (model l.prog w) callerA (.call (.ref fa) ⟨[.ref a],[]⟩) (λ r s'=>r=.ok (.ret (.bool true))/\OldK s₁.heap s'.heap/\s'.os=s₁.os/\AllBare s'.gens) s₁) :
  WalkO q loose XP YP l.row.toRowW d [] (λ f vs=>PySem.call f vs):=by
 intro w s₀ s₁ mg mb G YY0 fa o pm cd doc dV kV ho hd hcd hD hmg hg args vals as hpre hlay hrd hwl hlo
 obtain rfl:dV=.none:=Dflts.none hD hdf
 obtain rfl:kV=.none:=Dflts.noKw hD
 obtain ⟨a,vs,ns,rfl,rfl,hobj,hints,hlen⟩:=nr hn hpre hwl
 refine enter_call (codeAny_mono (call w s₀ s₁ mg mb fa o pm cd doc a vs ns G YY0 ho (fd_plain hd) hcd hmg hobj hints hlen hg) λ r s' hq=>?_)
 obtain ⟨rfl,h2,h3,h4⟩:=hq
 exact ⟨.inl ⟨.bool true,.bool true,[],Y,λ _=>rfl,.bool true,nu l _,λ _=>⟨List.Pairwise.nil,λ _ hm=>(nomatch hm)⟩⟩,h2,h3,h4⟩
section
variable {prog:Program} {w:World} {A:Around} {E:Value->Shared->Prop} {s:Shared} {K:Frag}
def Gc (h:Heap) (L d:Addr):List (Addr×Obj):=(List.range h.objs.size).filterMap λ a=>if a=L\/a=d then none else (h.get? a).map λ o=>(a,o)
end
end Att
namespace L2
open PySem PySem.Spec PyProof.Rows
theorem iC:∀ {vs:List Value} {ns:List Int},IntsAre vs ns->Vals (ns.map V.int) vs
 | _,_,.nil=>.nil
 | _,_,.cons n t h=>.cons ⟨t,Y⟩ (iC h)
def vx (H:Hp):Prop:=∀b,H b=none\/∃o xs,H b=some (.frz o (.lst xs))
theorem qo {P:Program} {w:World} {K:PySem.W.Frag} {mg mb:Str->Option Value} {CX:CXT} {k:Nat} {fa a:Addr} {fd:FuncData} {x:Str} {sp:Sp} {s₁:Shared} {vs:List Value} {ns:List Int}
  (KX:K.In s₁.heap) (hns:s₁.heap.Ns mainGlobals mg) (hb:s₁.heap.Ns builtinsNs mb) (hbb:∀x:Str,x ≠ "__name__" -> mb x=bootBuiltins x) (hlim:s₁.heap.NoLimit) (hg:s₁.gens=#[])
  (ha:s₁.heap.get? a=some { cls:=.type "list",data:=.seq vs.toArray }) (hi:IntsAre vs ns) (hl:ns.length<=sizeLine) (hr:Room k callerA)
  (F:∀base:Heap,K.In base->base.Ns mainGlobals mg->FnOk P w K mg base CX k fa fd [x] sp) (hbind:∀ (s:Shared) (u:Value),BindsTo s fd ⟨[u],[]⟩ [(x,u)])
  (hsp:∀H:Hp,vx H->SqL K H a (ns.map V.int)->sp [.ref a] H (λ v _=>v=.bl true) λ _ _ _=>False)
  (hCX:∀H e s',CX [] H s₁ (λ _ _ _=>False) e s'->False) :
  codeAny (model P w) callerA (.call (.ref fa) ⟨[.ref a],[]⟩) (λ r s'=>r=.ok (.ret (.bool true))/\OldK s₁.heap s'.heap/\s'.os=s₁.os/\AllBare s'.gens) s₁:=by
 have rv:=iC hi
 have lenV:=hi.length
 have core:∀H:Hp,vx H->SqL K H a (ns.map V.int)->HOk P w H s₁.heap->(∀b,H b≠none->b=a)->(H a≠none->K.lookup a=none) ->
   codeAny (model P w) callerA (.call (.ref fa) ⟨[.ref a],[]⟩) (λ r s'=>r=.ok (.ret (.bool true))/\OldK s₁.heap s'.heap/\s'.os=s₁.os/\AllBare s'.gens) s₁:=by
  intro H hO hS hok hA hK
  have base_of:∀ {b:Addr} {o:Obj},s₁.heap.get? b=some o->H b=none->(iS s₁.heap H).get? b=some o:=λ e n=>pT e n
  have noA:∀ {b:Addr} {o:Obj} {es:Array DictEntry} {ep:Nat},s₁.heap.get? b=some o->o.data=.dict es ep->H b=none:=λ {b o es ep} e d=>by
   cases q:H b with
   | none=>rfl
   | some u =>
    have e':b=a:=hA b (by rw [q]; simp)
    subst e'
    rw [ha] at e; cases e
    have d':Data.seq vs.toArray _=Data.dict es ep:=d
    cases d'
  have nsK:∀ {b:Addr} {m:Str->Option Value},s₁.heap.Ns b m->(iS s₁.heap H).Ns b m:=λ {b m} ⟨o,es,ep,e,d,r⟩=>⟨o,es,ep,base_of e (noA e d),d,r⟩
  have hKb:K.In (iS s₁.heap H):=λ b o e=>base_of (KX b o e) (by
   cases q:H b with
   | none=>rfl
   | some u =>
    have e':b=a:=hA b (by rw [q]; simp)
    subst e'
    rw [hK (by rw [q]; simp)] at e; cases e)
  have hM:Mod K mg (iS s₁.heap H):=⟨hKb,nsK hns,⟨mb,nsK hb,hbb⟩,let ⟨mc,h1,h2⟩:=hlim; ⟨mc,nsK h1,h2⟩⟩
  have e0:Env0 P w K mg (iS s₁.heap H) callerA [] s₁ H:=⟨Y,hM,λ b o e=>sE e,Nat.le_of_eq (mZ _ _),trivial,λ b hb=>absurd (show b∈([]:List Addr) from hb) (by simp),hok,.of_eq hg⟩
  refine codeAny_mono ((F _ hKb (nsK hns)).run callerA [] s₁ H ⟨[.ref a],[]⟩ [.ref a] [.ref a] _ _ hr e0 (hbind s₁ (.ref a)) (.cons rfl .nil) (hsp H hO hS)) λ r s' h=>?_
  cases r with
  | error e=>exact (hCX H e s' h).elim
  | ok fl =>
   cases fl with
   | next=>exact False.elim h
   | brk=>exact False.elim h
   | cont=>exact False.elim h
   | ret u =>
    obtain ⟨v,H',os,bare,un,hok',r',q⟩:=h
    have q':v=.bl true:=q
    subst q'
    obtain rfl:u=Value.bool true:=r'
    refine ⟨Y,OldK.of_keep λ b o e=>?_,os,bare⟩
    cases q:H b with
    | none=>exact un.keep b o e q (by intro z; exact absurd (show b∈([]:List Addr) from z) (by simp)) (by simp)
    | some u =>
     rcases hO b with z | ⟨ob,xs,z⟩
     ·rw [q] at z; cases z
     ·have z2:=un.frzs b ob _ z
      obtain ⟨e1,_⟩:=hok b _ z
      obtain ⟨e2,_⟩:=hok' b _ z2
      rw [e] at e1; cases e1
      exact e2
 cases hk:K.lookup a with
 | some o =>
  have e:=KX a o hk
  rw [ha] at e
  cases e
  refine core (λ _=>none) (λ _=>.inl rfl) (.inr ⟨_,vs.toArray,_,hk,Y,Y,Y,by rw [List.size_toArray,lenV]; exact hl,by simpa using rv⟩) (λ b u z=>by have z':(none:Option HO)=some u:=z; cases z') (λ b z=>absurd rfl z) λ z=>absurd rfl z
 | none =>
  refine core (λ b=>if b=a then some (.frz { cls:=.type "list",data:=.seq vs.toArray } (.lst (ns.map V.int))) else none) (λ b=>?_) (.inl (.inr ⟨{ cls:=.type "list",data:=.seq vs.toArray },if_pos rfl⟩)) (λ b u z=>?_) (λ b z=>?_) λ _=>hk
  ·by_cases hb:b=a
   ·exact .inr ⟨_,_,if_pos hb⟩
   ·exact .inl (if_neg hb)
  ·by_cases hb:b=a
   ·have z':=(if_pos hb).symm.trans z
    cases z'
    subst hb
    exact ⟨ha,by rw [List.length_map]; exact hl,vs,_,rv,ha⟩
   ·have z':=(if_neg hb).symm.trans z
    cases z'
  ·by_cases hb:b=a
   ·exact hb
   ·exact absurd (if_neg hb) z
end L2
namespace L2
open PySem PySem.Spec PyProof.Rows
theorem walk_of {l:PySem.W.OpenLaw} {n k:Nat} {q:Program} {loose:List Str} {XP:(Str->Option Value)->Heap->Prop} {YP:World->Heap->Prop} {d:DefRec} {K:Params->PySem.W.Frag} {CX:World->CXT} {sp:World->Sp} {x:Str}
  (hn:l.most=some n) (hn2:n<=sizeLine) (hdf:d.params.defaults=[]) (hr:Room k callerA)
  (hY:∀ (w:World) (h:Heap),YP w h->(K w.params).In h)
  (F:∀ (w:World) (mg:Str->Option Value) (fa:Addr) (h:Heap),(K w.params).In h->h.Ns mainGlobals mg->mg d.name=some (.ref fa) ->
   ∃fd:FuncData,(∀ (s:Shared) (u:Value),BindsTo s fd ⟨[u],[]⟩ [(x,u)]) /\
    ∀base:Heap,(K w.params).In base->base.Ns mainGlobals mg->FnOk l.prog w (K w.params) mg base (CX w) k fa fd [x] (sp w))
  (hsp:∀ (w:World) (H:Hp) (a:Addr) (ns:List Int),ns.length<=n->vx H->SqL (K w.params) H a (ns.map V.int)->sp w [.ref a] H (λ v _=>v=.bl true) λ _ _ _=>False)
  (hCX:∀ (w:World) (H:Hp) (s:Shared) (e:Value) (s':Shared),CX w [] H s (λ _ _ _=>False) e s'->False) :
  PySem.W.WalkO q loose XP YP l.row.toRowW d [] (λ f vs=>PySem.call f vs):=by
 refine Att.attach_call hn hdf λ w s₀ s₁ mg mb fa o pm cd doc a vs ns G YY0 ho hd hcd hmg hobj hints hlen hg=>?_
 have KX:=hY w _ YY0
 obtain ⟨fd,hb,hF⟩:=F w mg fa _ KX G.T.g hmg
 exact qo KX G.T.g G.T.b G.T.builtins G.T.nolimit hg hobj hints (Nat.le_trans hlen hn2) hr hF hb (λ H hO hS=>hsp w H a ns hlen hO hS) λ H e s'=>hCX w H s₁ e s'
end L2
namespace L2
open PySem PySem.Spec PyProof.Rows
def inClass (s:Stmt) (j:Nat):Stmt:=match s with
 | .ClassDef _ _ _ body _ _ _ _ _ _ _=>body.getD j (.Pass ⟨0,0,0,0⟩)
 | _=>.Pass ⟨0,0,0,0⟩
def defArgs (s:Stmt):Arguments:=match s with
 | .FunctionDef _ a _ _ _ _ _ _ _ _=>a
 | _=>{ posonlyargs:=[],args:=[],vararg:=none,kwonlyargs:=[],kw_defaults:=[],kwarg:=none,defaults:=[] }
def defBody (s:Stmt):List Stmt:=match s with
 | .FunctionDef _ _ b _ _ _ _ _ _ _=>b
 | _=>[]
def defScope (s:Stmt):Scope:=match s with
 | .FunctionDef _ _ _ _ _ _ sc _ _ _=>sc
 | _=>{ kind:=.function,names:=[],isGenerator:=false,isCoroutine:=false }
abbrev CX0:CXT:=λ _ _ _ _ _ _=>False
abbrev E0:XK:=λ _ _ _=>False
theorem me {X:Cx}:eJ CX0 X E0:=λ _ _ _ _ _ _ _ h=>h.elim
structure Fun (K:PySem.W.Frag) (x qual:Str) (st:Stmt) (f:Addr) (fd:FuncData):Prop where
 ex:∃ (oc:Value) (od:Option Addr) (kV doc pm:Value) (an:Option Addr) (cdv ct:Value) (osl:Array (Option Value)),
  fd=PySem.W.fnOf x qual (defArgs st) (defBody st) (defScope st) .none kV doc pm an cdv ct/\K.lookup f=some ⟨oc,od,.func fd,osl⟩/\PySem.W.codeIn K cdv qual=true
 kp:PySem.W.keepIn K (.ref f)=true
section
variable {P:Program} {w:World} {K:PySem.W.Frag} {mg:Str->Option Value} {base:Heap}
theorem Fun.ok {x qual:Str} {st:Stmt} {f:Addr} {fd:FuncData} {N ps:List Str} {k:Nat} {sp:Sp} (F:Fun K x qual st f fd) (S:FnScope N ps (defScope st)) (len:∀vs H Q E,sp vs H Q E->vs.length=ps.length)
  (hbody:∀ (cdv:Value) (A:Around) (outer:List Env) (s:Shared) (H:Hp) (vs:List V) (Q:VK) (E:XK),Room k (A.deeper (envOfC qual (defScope st) s.heap.objs.size f cdv))->sp vs H Q E ->
   ∃t,PSs (nj CX0 P w K mg base N qual (defScope st) f cdv A outer s H E).nox (defBody st) t/\t { nx:=λ _ H'=>Q .non H',rt:=Q } (fZ N vs) H):FnOk P w K mg base CX0 (k + 1) f fd ps sp:=by
 obtain ⟨oc,od,kV,doc,pm,an,cdv,ct,osl,rfl,lk,hcd⟩:=F.ex
 refine xS lk hcd S len λ A outer s H vs Q E hr hsp=>?_
 obtain ⟨t,h,q⟩:=hbody cdv A outer s H vs Q E hr hsp
 exact ⟨t,h.nox,q⟩
theorem Fun.binds {x qual:Str} {st:Stmt} {f:Addr} {fd:FuncData} {ps:List Str} (F:Fun K x qual st f fd)
  (h:∀ (kV doc pm:Value) (an:Option Addr) (cdv ct:Value) (us:List Value),us.length=ps.length->bindArgs (PySem.W.fnOf x qual (defArgs st) (defBody st) (defScope st) .none kV doc pm an cdv ct) ⟨us,[]⟩=pure (ps.zip us)):Binds K fd ps []:=by
 obtain ⟨oc,od,kV,doc,pm,an,cdv,ct,osl,rfl,lk,hcd⟩:=F.ex
 exact .all (h kV doc pm an cdv ct)
theorem kU {x qual:Str} {st:Stmt} {f:Addr} {oc:Value} {od an:Option Addr} {osl:Array (Option Value)} {kV doc pm cdv ct:Value} (l:K.lookup f=some ⟨oc,od,.func (PySem.W.fnOf x qual (defArgs st) (defBody st) (defScope st) .none kV doc pm an cdv ct),osl⟩)
  (c:PySem.W.codeIn K cdv qual=true) (k:PySem.W.keepIn K (.ref f)=true):Fun K x qual st f (PySem.W.fnOf x qual (defArgs st) (defBody st) (defScope st) .none kV doc pm an cdv ct):=⟨⟨oc,od,kV,doc,pm,an,cdv,ct,osl,Y,l,c⟩,k⟩
end
section
variable {X:Cx}
theorem pv (i:Nat) {x:Str} {pos:Pos} (hN:X.N[i]? = some x:=by rfl) (hv:Vis X.env.scope x:=by first | exact Or.inl rfl | exact Or.inr (Or.inl rfl) | exact Or.inr (Or.inr rfl)) (hd:(x == ("__debug__" : Str))=false:=by decide)
  (hcd:(x == ("__classdict__" : Str))=false:=by decide):PE X (.Name x pos) (tVar i):=ve hN hv hd hcd
end
theorem aO {A B:Prop} (h:B):if false=true then A else B:=by
 rw [if_neg Bool.false_ne_true]
 exact h
theorem aP {A B:Prop} (h:A):if true=true then A else B:=by
 rw [if_pos rfl]
 exact h
theorem ca {c A B:Prop} [Decidable c] (h1:c->A) (h2:¬ c->B):if c then A else B:=by
 by_cases h:c
 ·rw [if_pos h]
  exact h1 h
 ·rw [if_neg h]
  exact h2 h
def Same (H H':Hp):Prop:=∀b o,H b=some o->H' b=some o
theorem Same.refl (H:Hp):Same H H:=λ _ _ h=>h
theorem Same.trans {H H1 H2:Hp} (a:Same H H1) (b:Same H1 H2):Same H H2:=λ c o h=>b c o (a c o h)
theorem Same.free {H H':Hp} (e:Same H H') {l:Addr} (h:H' l=Option.none):H l=Option.none:=by
 cases q:H l with
 | none=>rfl
 | some o =>
  rw [e l o q] at h
  cases h
theorem Same.seq {K:PySem.W.Frag} {H H':Hp} {a:Addr} {xs:List V} (e:Same H H') (h:SqL K H a xs):SqL K H' a xs:=by
 rcases h with (h | ⟨o,h⟩) | h
 ·exact .inl (.inl (e _ _ h))
 ·exact .inl (.inr ⟨o,e _ _ h⟩)
 ·exact .inr h
end L2
set_option Elab.async false
set_option linter.all false
set_option maxRecDepth 100000
namespace L2
open PySem PySem.Spec PyProof.Rows
def bH (env:Env):List (Str×NameKind)->List (Str×Addr)->List (Str×Addr)
 | [],acc=>acc
 | (n,k) :: r,acc=>bH env r (if (k == NameKind.free)=true then (n,(env.cells.lookup n).getD 0) :: acc else acc)
theorem cV (env:Env):∀ (names:List (Str×NameKind)) (acc:List (Str×Addr)) (x:Str) (c:Addr),(∀y∈names,y.2=.free->∃c,env.cells.lookup y.1=some c) ->
  (∀x c,acc.lookup x=some c->env.cells.lookup x=some c)->(bH env names acc).lookup x=some c->env.cells.lookup x=some c
 | [],acc,x,c,_,h,e=>h x c e
 | (n,k) :: r,acc,x,c,hf,h,e=>by
  refine cV env r _ x c (λ y hy=>hf y (List.mem_cons_of_mem _ hy)) (λ x c e'=>?_) e
  by_cases hk:(k == NameKind.free)=true
  ·rw [if_pos hk] at e'
   obtain ⟨c0,hc0⟩:=hf (n,k) List.mem_cons_self (by simpa using hk)
   have hc0':env.cells.lookup n=some c0:=hc0
   rw [List.lookup_cons] at e'
   cases hx:x == n with
   | true =>
    rw [hx] at e'
    have:x=n:=by simpa using hx
    subst this
    rw [hc0'] at e' ⊢
    simpa using e'
   | false=>rw [hx] at e'; exact h x c e'
  ·rw [if_neg hk] at e'; exact h x c e'
theorem gU (env:Env):∀ (names:List (Str×NameKind)) (acc:List (Str×Addr)) (x:Str),(∃c,acc.lookup x=some c)->∃c,(bH env names acc).lookup x=some c
 | [],acc,x,h=>h
 | (n,k) :: r,acc,x,h=>by
  refine gU env r _ x ?_
  by_cases hk:(k == NameKind.free)=true
  ·rw [if_pos hk,List.lookup_cons]
   cases hx:x == n with
   | true=>exact ⟨_,Y⟩
   | false=>exact h
  ·rw [if_neg hk]; exact h
theorem fK (env:Env):∀ (names:List (Str×NameKind)) (acc:List (Str×Addr)) (x:Str),(x,NameKind.free)∈names->∃c,(bH env names acc).lookup x=some c
 | [],acc,x,h=>by simp at h
 | (n,k) :: r,acc,x,h=>by
  rcases List.mem_cons.mp h with e | e
  ·have e1:x=n:=congrArg Prod.fst e
   have e2:NameKind.free=k:=congrArg Prod.snd e
   subst e1
   subst e2
   refine gU env r _ x ?_
   rw [if_pos (by simp),List.lookup_cons]
   simp
  ·exact fK env r _ x e
theorem gW {env:Env} {scope:Scope} (hf:∀y∈scope.names,y.2=.free->∃c,env.cells.lookup y.1=some c):closureFor scope env=pure (bH env scope.names []):=by
 have key:∀ (names:List (Str×NameKind)) (acc:List (Str×Addr)),(∀y∈names,y.2=.free->∃c,env.cells.lookup y.1=some c) ->
   (forIn names acc (λ (x:Str×NameKind) (r:List (Str×Addr))=>(if (x.2 == NameKind.free)=true then do
    let a<-cellOf env x.1
    pure (ForInStep.yield ((x.1,a) :: r)) else pure (ForInStep.yield r)) ):Sem (List (Str×Addr)))=pure (bH env names acc):=by
  intro names
  induction names with
  | nil=>intro acc _; rfl
  | cons y r ih =>
   intro acc h
   obtain ⟨n,k⟩:=y
   have ih':=λ acc=>ih acc λ z hz=>h z (List.mem_cons_of_mem _ hz)
   rw [List.forIn_cons]
   by_cases hk:(k == NameKind.free)=true
   ·obtain ⟨c,hc⟩:=h (n,k) List.mem_cons_self (by simpa using hk)
    have hc':env.cells.lookup n=some c:=hc
    have e1:cellOf env n=pure c:=by unfold cellOf; rw [hc']
    have e2:bH env ((n,k) :: r) acc=bH env r ((n,c) :: acc):=by
     show bH env r _=_
     rw [if_pos hk,hc']; rfl
    rw [if_pos hk,e2,<- ih']
    show ((cellOf env n >>= λ a=>pure (ForInStep.yield ((n,a) :: acc))) >>= _)=_
    rw [e1]
    rfl
   ·have e2:bH env ((n,k) :: r) acc=bH env r acc:=by
     show bH env r _=_
     rw [if_neg hk]
    rw [if_neg hk,e2,<- ih']
    rfl
 have:=key scope.names [] hf
 simp only [closureFor]
 exact (congrArg (λ m=>m >>= λ r=>(pure r:Sem _)) this).trans rfl
theorem jd {env:Env} {scope:Scope} (hcell:∀y∈scope.names,y.2≠.cell) {x:Str}:((relabel scope env).names.lookup x=some .cell\/(relabel scope env).names.lookup x=some .free)->(x,NameKind.free)∈scope.names:=by
  have key:∀names:List (Str×NameKind),(∀y∈names,y.2≠.cell)->∀k,(names.map λ (n,k)=>if (k == NameKind.free && env.scope.kind == .function && env.kindOf n == some .cell) then (n,NameKind.cell) else (n,k)).lookup x=some k ->
      (k=.cell\/k=.free)->(x,NameKind.free)∈names:=by
    intro names
    induction names with
    | nil=>intro _ k h _; simp at h
    | cons y r ih =>
      obtain ⟨n,k'⟩:=y
      intro hc k h hk
      have nc:k'≠.cell:=hc (n,k') List.mem_cons_self
      rw [List.map_cons] at h
      by_cases hb:(k' == NameKind.free && env.scope.kind == .function && env.kindOf n == some .cell)=true
      . have hb':k'=.free:=by simp at hb; exact hb.1.1
        dsimp only at h
        rw [if_pos hb,List.lookup_cons] at h
        cases hx:x == n with
        | true => have : x = n := by simpa using hx
                  subst this; subst hb'; exact List.mem_cons_self
        | false=>rw [hx] at h; exact List.mem_cons_of_mem _ (ih (λ y hy=>hc y (List.mem_cons_of_mem _ hy)) k h hk)
      . dsimp only at h
        rw [if_neg hb,List.lookup_cons] at h
        cases hx:x == n with
        | true =>
          rw [hx] at h
          have:x=n:=by simpa using hx
          subst this
          have e:k'=k:=by simpa using h
          rcases hk with q | q
          . exact absurd (e.trans q) nc
          . rw [e,q]; exact List.mem_cons_self
        | false=>rw [hx] at h; exact List.mem_cons_of_mem _ (ih (λ y hy=>hc y (List.mem_cons_of_mem _ hy)) k h hk)
  rintro (h | h)
  . exact key _ hcell _ h (.inl rfl)
  . exact key _ hcell _ h (.inr rfl)
def bM (X:Cx) (pins:List (Addr×Obj)) (s2:Shared) (H2:Hp) (scope:Scope) (C:Addr) (N':List Str) (fp:List Addr):Cx where
 prog:=X.prog
 w:=X.w
 K:=X.K
 mg:=X.mg
 base:=X.base
 A:=X.A
 N:=N'
 s₀:=s2
 H₀:=H2
 env:=compEnvC scope (bH X.env scope.names []) C X.env
 outer:=X.stack
 stack:=X.stack
 ex:=fp
 fn:=λ _=>false
 calm:=X.calm
 pn:=X.pn ++ pins
 xe:=λ _ _=>False
def bJ (σ:St) (cap:List Nat) (k:Nat):St:=List.replicate k none ++ cap.map λ j=>(σ[j]?).join
def leS (σ σ':St):Prop:=σ'.length=σ.length/\∀ (i:Nat) v,σ[i]? = some (some v)->σ'[i]? = some (some v)
theorem leS.set {σ:St} {i:Nat} {v:V} (h:σ[i]? = some none):leS σ (σ.set i (some v)):=by
 refine ⟨by simp,λ j w e=>?_⟩
 by_cases hj:j=i
 ·subst hj; rw [h] at e; cases e
 ·rw [List.getElem?_set_ne (Ne.symm hj)]; exact e
structure CompOk (X:Cx) (scope:Scope) (own:List Str) (cs:List Str) (cap:List Nat):Prop where
 kind:scope.kind=.function
 cell:∀y∈scope.names,y.2≠.cell
 names:∀y∈scope.names,y.2=.local->scope.names.lookup y.1=some .local
 free:∀y∈scope.names,y.2=.free->X.env.kindOf y.1=some .cell\/X.env.kindOf y.1=some .free
 caps:∀ (i:Nat) y,cs[i]? = some y->∃j,cap[i]? = some j/\X.N[j]? = some y/\(y,NameKind.free)∈scope.names
 ownl:∀y∈own,scope.names.lookup y=some .local
 len:cs.length=cap.length
 free2:∀y,(y,NameKind.free)∈scope.names->scope.names.lookup y=some .local->False
def sX (X:Cx) (ifs:List Expr) (tt:TT):Prop :=
 ∀ (pins:List (Addr×Obj)) (s:Shared) (σ:St) (H:Hp) (Q:Bool->Hp->Prop),Inv X pins σ H s->tt σ H Q ->
  wpAny (model X.prog X.w) X.A (forIn ifs true λ c r=>if r=true then do let ok<-isTrue c X.env (eval c X.env); pure (ForInStep.yield ok) else pure (ForInStep.yield r)) (TP X pins σ Q) X.xe s
def xV:TT:=λ _ H Q=>Q true H
theorem cw {X:Cx}:sX X [] xV:=λ _ _ _ H _ I h=>wpAny_tests_nil ⟨H,I,h⟩
def gX (σ:St) (cap:List Nat) (k:Nat) (J:It) (g:TG) (tt:TT) (te:TE) (Q:List V->Hp->Prop) (W:Nat->Nat->List V->Hp->Prop):Prop :=
 ∀i m ys H,W i m ys H->(J.stop i H/\ys.length<=sizeLine/\Q ys H) \/
  (J.go i H/\ys.length < sizeLine/\∀x H',J.yld i H x H'->g x (bJ σ cap k) H' λ σ2 H2=>leS (bJ σ cap k) σ2/\tt σ2 H2 λ ok H3 =>
   if ok=true then te σ2 H3 (λ v H4=>∃m',m' < m/\W (i + 1) m' (ys ++ [v]) H4) else ∃m',m' < m/\W (i + 1) m' ys H3)
theorem HOk.add {P:Program} {w:World} {H:Hp} {h:Heap} {a:Addr} {o:HO} (x:HOk P w H h) (n:H a=none) (new:ObjOk P w (upd H a o) h a o):HOk P w (upd H a o) h:=λ b u e=>by
 by_cases hb:b=a
 ·subst hb; rw [af] at e; cases e; exact new
 ·rw [am hb] at e
  exact (x b u e).stay (λ c v _ q=>q) (λ c q=>by rw [am (au q n)]; exact q) λ c xs q=>by rw [am (au q n)]; exact q
section
variable {X:Cx} {pins:List (Addr×Obj)} {σ:St} {H2:Hp} {s2:Shared} {scope:Scope} {own cs:List Str} {cap:List Nat} {fp:List Addr}
theorem nv {h1:Heap} {C:Addr} {tk:Nat} (I:Inv X pins σ H2 s2) (ok:CompOk X scope own cs cap) (hf:∀b∈fp,eQ X pins H2 b) (hfl:∀b∈fp,b < s2.heap.objs.size)
  (hC:s2.heap.objs.size<=C) (hns:h1.Ns C (λ _=>none)) (old:∀b o,s2.heap.get? b=some o->h1.get? b=some o) :
  Inv (bM X pins s2 H2 scope C (own ++ cs) fp) [] (bJ σ cap own.length) H2 { s2 with heap:=h1,toks:=tk }:=by
 have hfr:∀y∈scope.names,y.2=.free->∃c,X.env.cells.lookup y.1=some c:=λ y hy e=>I.ok.has y.1 (ok.free y hy e)
 have sub:∀x c,(bH X.env scope.names []).lookup x=some c->X.env.cells.lookup x=some c:=λ x c e=>cV X.env scope.names [] x c hfr (λ _ _ z=>by simp at z) e
 have clt:∀x c,(bH X.env scope.names []).lookup x=some c->c < s2.heap.objs.size:=λ x c e=>by
  obtain ⟨v,o,ho,_⟩:=I.cell x c (sub x c e)
  exact Heap.lt_size ho
 refine ⟨⟨I.ok.mod,ok.kind,I.ok.glob,I.ok.blt,hC,λ y z c h1 h2=>I.ok.inj y z c (sub y c h1) (sub z c h2),λ y hy=>?_,λ y c z=>?_,I.ok.hd,I.ok.frames,.inl rfl,λ b hb=>?_,I.bs,Nat.le_trans I.ok.bsz I.sz,λ b o e hb=>?_,λ b hb z=>?_,I.stack,I.stkFree⟩,
  rfl,I.bare,Un.kept old,⟨_,hns,λ i y v e1 e2 e3=>?_⟩,λ y c e=>?_,I.hok.fresh hC,λ y c e=>I.freeC y c (sub y c e),λ p hp=>?_,I.hok.kept old,?_⟩
 ·have hm:=jd ok.cell hy
  exact fK X.env scope.names [] y hm
 ·exact absurd (show false=true from z) Bool.false_ne_true
 ·exact ⟨Nat.ne_of_lt (Nat.lt_of_lt_of_le (hfl b hb) hC),λ x c e=>(hf b hb).2.2.2.2.1 x c (sub x c e)⟩
 ·rcases (hf b hb).2.2.2.1 with z | z
  ·exact I.ok.noex b o e z
  ·exact absurd (Nat.lt_of_lt_of_le (Heap.lt_size (I.ok.bs b o e).1) z) (Nat.lt_irrefl _)
 ·rcases List.mem_cons.mp (I.stkSub b z) with q | q
  ·exact (hf b hb).2.1 q
  ·exact (hf b hb).2.2.1 q
 ·have hi:own.length<=i:=by
   refine Nat.le_of_not_lt λ q=>?_
   unfold bJ at e2
   rw [List.getElem?_append_left (by simpa using q),List.getElem?_replicate] at e2
   split at e2 <;> cases e2
  have e1':cs[i - own.length]? = some y:=by
   have e1:(own ++ cs)[i]? = some y:=e1
   rwa [List.getElem?_append_right hi] at e1
  obtain ⟨j,hj,hN,hm⟩:=ok.caps _ y e1'
  have hk:=ok.free _ hm rfl
  have e2':σ[j]? = some (some v):=by
   unfold bJ at e2
   rw [List.getElem?_append_right (by simpa using hi),List.length_replicate,List.getElem?_map,hj] at e2
   have e2:(σ[j]?).join=some v:=by simpa using e2
   cases q:σ[j]? with
   | none=>rw [q] at e2; cases e2
   | some w=>rw [q] at e2; have:w=some v:=e2; rw [this]
  obtain ⟨m,hn,hl⟩:=I.loc
  obtain ⟨u,ru,l⟩:=hl j y v hN e2' (by rcases hk with q | q; exact .inr (.inl q); exact .inr (.inr q))
  refine ⟨u,ru,.inr ?_⟩
  obtain ⟨c,hc⟩:=fK X.env scope.names [] y hm
  have hc':=sub y c hc
  have cellu:h1.IsCell c (some u):=by
   rcases l with ⟨k,_⟩ | ⟨k,c',e,o,ho,hd⟩
   ·rcases hk with q | q <;> (have z:X.env.kindOf y=_:=q; rw [k] at z; cases z)
   ·rw [hc'] at e; cases e
    exact ⟨o,old _ _ ho,hd⟩
  refine ⟨?_,c,hc,cellu⟩
  rcases e3 with z | z | z
  ·exfalso
   have key:∀names:List (Str×NameKind),True:=λ _=>trivial
   have z:(relabel scope X.env).names.lookup y=some .local:=z
   have zz:scope.names.lookup y=some .local:=by
    unfold relabel at z
    dsimp only at z
    revert z
    generalize scope.names=names
    induction names with
    | nil=>intro z; simp at z
    | cons q r ih =>
     obtain ⟨n,k⟩:=q
     intro z
     rw [List.map_cons] at z
     by_cases hb:(k == NameKind.free && X.env.scope.kind == .function && X.env.kindOf n == some .cell)=true
     ·dsimp only at z
      rw [if_pos hb,List.lookup_cons] at z
      rw [List.lookup_cons]
      cases hx:y == n with
      | true=>rw [hx] at z; cases z
      | false=>rw [hx] at z; exact ih z
     ·dsimp only at z
      rw [if_neg hb,List.lookup_cons] at z
      rw [List.lookup_cons]
      cases hx:y == n with
      | true=>rw [hx] at z; exact z
      | false=>rw [hx] at z; exact ih z
   have:=ok.free2 y hm zz
   exact this
  ·exact .inl z
  ·exact .inr z
 ·obtain ⟨v,o,ho,hd⟩:=I.cell y c (sub y c e)
  exact ⟨v,o,old _ _ ho,hd⟩
 ·have hp':p∈X.pn ++ pins:=by
   have:p∈(X.pn ++ pins) ++ []:=hp
   simpa using this
  obtain ⟨e,n,ne,nf,d⟩:=I.pin p hp'
  refine ⟨old _ _ e,n,Nat.ne_of_lt (Nat.lt_of_lt_of_le (Heap.lt_size e) hC),λ z=>?_,d⟩
  rcases List.mem_cons.mp (I.stkSub p.1 z) with q | q
  ·exact ne q
  ·exact nf q
 ·show (bJ σ cap own.length).length=(own ++ cs).length
  unfold bJ
  rw [List.length_append,List.length_replicate,List.length_map,List.length_append,ok.len]
end
end L2
set_option Elab.async false
set_option linter.all false
set_option maxRecDepth 100000
namespace L2
open PySem PySem.Spec PyProof.Rows
section
variable {X:Cx} {pins:List (Addr×Obj)} {σ:St} {H2:Hp} {s2:Shared} {scope:Scope} {own cs:List Str} {cap:List Nat} {fp:List Addr} {it:Addr} {tn:Nat->Heap->Prop}
 {elt tg iter:Expr} {ifs:List Expr} {pos:Pos} {J:It} {g:TG} {tt:TT} {te:TE} {E:Value->Shared->Prop} {W:Nat->Nat->List V->Hp->Prop} {Qf:List V->Hp->Prop}
structure BlkEnd (X:Cx) (pins:List (Addr×Obj)) (σ:St) (Qf:List V->Hp->Prop) (D C:Addr) (s':Shared):Prop where
 ex:∃ (ys:List V) (H':Hp),H' D=none/\Qf ys H'/\Inv X pins σ (upd H' D (.lst ys)) s'/\eQ X pins (upd H' D (.lst ys)) C
 ns:∃m,s'.heap.Ns C m
theorem Inv.bareP {pins':List (Addr×Obj)} {H:Hp} {s:Shared} (I:Inv X pins' σ H s):Inv X [] σ H s:=I.pins_of λ p hp=>absurd hp (by simp)
theorem jK {RR:Value->Addr->Result->Shared->Prop} (I:Inv X pins σ H2 s2) (ok:CompOk X scope own cs cap) (hc:X.calm=true) (T:Turn X.prog X.w X.K tg J fp it tn) (st:tn 0 s2.heap) (hf:∀b∈fp,eQ X pins H2 b)
  (hg:∀C,PG (bM X pins s2 H2 scope C (own ++ cs) fp) tg g) (hi:∀C,sX (bM X pins s2 H2 scope C (own ++ cs) fp) ifs tt) (he:∀C,PE (bM X pins s2 H2 scope C (own ++ cs) fp) elt te)
  (w0:∃m,W 0 m [] H2) (turn:gX σ cap own.length J g tt te Qf W)
  (hRR:∀D C s',BlkEnd X pins σ Qf D C s'->RR (.ref D) C (.ok .next) s') :
  wpAny (model X.prog X.w) X.A (newList []) (λ acc s₃=>wpAny (model X.prog X.w) X.A (newFunctionEnv scope X.env.globals (bH X.env scope.names []) [] X.env.qual none .none (some X.env)) (λ cenv s₄ =>
   codeAny (model X.prog X.w) X.A (.compStart (.ListComp elt [⟨tg,iter,ifs,0⟩] scope pos) 0 (.ref it) acc { cenv with scope:=relabel scope X.env }) (RR acc cenv.locals) s₄) E s₃) E s2:=by
 refine wpAny_newObj_type (wpAny_newFunctionEnv ok.cell (by intro y hy; simp at hy) (λ h₁ hns₁ hsb₁=>?_) ok.kind)
 dsimp only at hns₁ hsb₁ ⊢
 generalize hHH:s2.heap.push { cls:=.type "list",dict:=none,data:=.seq ([]:List Value).toArray }=HH at hns₁ hsb₁ ⊢
 have hCs:HH.objs.size=s2.heap.objs.size + 1:=by rw [<- hHH,Heap.size_push]
 have hDC:s2.heap.objs.size≠HH.objs.size:=by rw [hCs]; exact Nat.ne_of_lt (Nat.lt_succ_self _)
 have hCle:s2.heap.objs.size<=HH.objs.size:=by rw [hCs]; exact Nat.le_succ _
 have hfl:∀b∈fp,b < s2.heap.objs.size:=λ b hb=>by
  obtain ⟨o,e,_⟩:=T.obj 0 _ st b hb
  exact Heap.lt_size e
 have old:∀b o,s2.heap.get? b=some o->h₁.get? b=some o:=λ b o e=>hsb₁.extBut b o (by rw [hCs]; exact Nat.ne_of_lt (Nat.lt_succ_of_lt (Heap.lt_size e))) (Heap.get?_push_of_some _ (hHH ▸ Heap.get?_push_of_some _ e))
 have hacc:h₁.PlainList s2.heap.objs.size #[]:=⟨_,hsb₁.extBut _ _ hDC (Heap.get?_push_of_some _ (hHH ▸ Heap.get?_push_size _ rfl))⟩
 generalize hD:s2.heap.objs.size=D at *
 generalize hCC:HH.objs.size=C at *
 have hns₁':h₁.Ns C (λ _=>none):=hns₁
 have I0:Inv (bM X pins s2 H2 scope C (own ++ cs) fp) [] (bJ σ cap own.length) H2 { s2 with heap:=h₁,toks:=s2.toks + ([]:List (Str×Value)).length } :=
  nv I ok hf (λ b hb=>by rw [hD]; exact hfl b hb) (by rw [hD]; exact hCle) hns₁' old
 have Dfs:D∉frs X.stack:=λ hb=>by
  obtain ⟨_,o,ho,_⟩:=I.stack.mem hb
  exact absurd (Heap.lt_size ho) (by rw [hD]; exact Nat.lt_irrefl _)
 have Dfp:∀b∈fp,D≠b:=λ b hb z=>absurd (hfl b hb) (by rw [<- z]; exact Nat.lt_irrefl _)
 have clt:∀x c,(bH X.env scope.names []).lookup x=some c->c < D:=λ x c e=>by
  have e':=cV X.env scope.names [] x c (λ y hy e=>I.ok.has y.1 (ok.free y hy e)) (λ _ _ z=>by simp at z) e
  obtain ⟨v,o,ho,_⟩:=I.cell x c e'
  have:=Heap.lt_size ho
  rw [hD] at this; exact this
 have plt:∀p∈X.pn ++ pins,p.1 < D:=λ p hp=>by
  have:=Heap.lt_size (I.pin p hp).1
  rw [hD] at this; exact this
 have stat:∀ {H':Hp} {ob:Obj},(∀b∈fp,H' b=none)->∀b∈fp,eQ (bM X pins s2 H2 scope C (own ++ cs) fp) [(D,ob)] H' b:=λ {H' ob} hn b hb=>by
  have q:=I0.ok.exf b hb
  refine ⟨hn b hb,q.1,I0.ok.exfs b hb,.inl hb,q.2,λ p hp=>?_⟩
  rcases List.mem_append.mp hp with z | z
  ·exact (hf b hb).2.2.2.2.2 p z
  ·have:p=(D,ob):=by simpa using z
   subst this
   exact Dfp b hb
 have loop:codeAny (model X.prog X.w) X.A (.compLoop (.ListComp elt [⟨tg,iter,ifs,0⟩] scope pos) 0 (.ref it) (.ref D) (compEnvC scope (bH X.env scope.names []) C X.env)) (RR (.ref D) C)
   { s2 with heap:=h₁,toks:=s2.toks + ([]:List (Str×Value)).length }:=by
  obtain ⟨m0,w0⟩:=w0
  refine codeAny_loop rfl (λ n s'=>∃i H' its ys,Inv (bM X pins s2 H2 scope C (own ++ cs) fp) [] (bJ σ cap own.length) H' s'/\tn i s'.heap/\(∀b∈fp,H' b=none)/\s'.heap.PlainList D its.toArray/\Vals ys its/\H' D=none/\W i n ys H') ?_ m0
   ⟨0,H2,[],[],I0,T.keep 0 _ _ st λ b _ o e=>old b o e,λ b hb=>(hf b hb).1,hacc,.nil,I.hok.fresh (by rw [hD]; exact Nat.le_refl _),w0⟩
  rintro n s3 ⟨i,H3,its,ys,I3,st3,fr3,⟨nn,pl3⟩,rv3,hD3,w3⟩
  show wpAny _ X.A ((compTurn (.ListComp elt [⟨tg,iter,ifs,0⟩] scope pos) 0 (.ref it) (.ref D) (compEnvC scope (bH X.env scope.names []) C X.env)).onRaise (λ x=>do noteFrame x (compEnvC scope (bH X.env scope.names []) C X.env); theTreesLotGoes x)) _ _ s3
  refine wpAny_noted ?_
  rw [compTurn_list]
  refine wpAny_bind (wpAny_standAt (wpAny_bind ?_))
  have I3':Inv (bM X pins s2 H2 scope C (own ++ cs) fp) [(D, { cls:=.type "list", data:=.seq its.toArray nn })] (bJ σ cap own.length) H3 s3 :=
   I3.pins_of λ p hp=>by
    have:p=(D,{ cls:=.type "list",data:=.seq its.toArray nn }):=by simpa using hp
    subst this
    exact ⟨pl3,hD3,hDC,Dfs,λ v z=>by cases z⟩
  rcases turn i n ys H3 w3 with ⟨stop,hz,qf⟩ | ⟨go,hz,step⟩
  ·refine thn (T.done (bM X pins s2 H2 scope C (own ++ cs) fp) rfl rfl rfl hc i _ s3 _ H3 _ I3' (stat fr3) st3 stop) λ r s4 ⟨hr,I4⟩=>?_
   subst hr
   refine wpAny_pure (hRR D C s4 ⟨⟨ys,H3,hD3,qf,?_,?_⟩,?_⟩)
   ·have pl4:=(I4.pin (D,_) (List.mem_append_right _ (List.mem_singleton.mpr rfl))).1
    have u4:=I4.base
    have Ds2:s2.heap.get? D=none:=Heap.get?_none_of_le (by rw [hD]; exact Nat.le_refl _)
    refine I.call' (s':=s4) (ch:=fp) I4.os ⟨u4.keep,u4.slot,λ b o e n hx=>?_,u4.there,λ b xs e=>?_,λ b o u e=>?_,λ b ps e=>?_⟩ ?_ I4.bare λ b hb=>⟨(hf b hb).2.2.2.1,(hf b hb).2.1,(hf b hb).2.2.2.2.1,(hf b hb).2.2.2.2.2⟩
    ·rw [am (λ z=>by rw [z,Ds2] at e; cases e)]
     exact u4.free b o e n hx
    ·have:=u4.tups b xs e
     rw [am (au this hD3)]; exact this
    ·have:=u4.frzs b o u e
     rw [am (au this hD3)]; exact this
    ·obtain ⟨more,e'⟩:=u4.tbls b ps e
     exact ⟨more,by rw [am (au e' hD3)]; exact e'⟩
    ·exact I4.hok.add hD3 ⟨hz,its,nn,rv3,pl4⟩
   ·have CH:(upd H3 D (.lst ys)) C=none:=by rw [am (Ne.symm hDC)]; exact I4.free
    exact I.fpOk (H':=upd H3 D (.lst ys)) (by rw [hD]; exact hCle) CH
   ·obtain ⟨m,hn,_⟩:=I4.loc
    exact ⟨m,hn⟩
  ·refine thn (T.item (bM X pins s2 H2 scope C (own ++ cs) fp) rfl rfl rfl hc i _ s3 _ H3 _ I3' (stat fr3) st3 go) λ r s4 ⟨u,hr,h4⟩=>?_
   subst hr
   refine wpAny_bind (thn h4 λ _ s5 ⟨x,H5,I5,r5,y5,st5,fr5⟩=>?_)
   have I5':=I5.pinned (stat fr5) (T.obj _ _ st5)
   refine wpAny_bind (wpAny_mono (hg C _ s5 _ H5 x u _ I5' r5 (step x H5 y5)) (λ _ s6 ⟨σ6,H6,I6,le6,q6⟩=>?_) λ _ _ z=>False.elim z)
   refine wpAny_bind (wpAny_mono (hi C _ s6 σ6 H6 _ I6 q6) (λ b s7 ⟨H7,I7,q7⟩=>?_) λ _ _ z=>False.elim z)
   have back:∀ {pins':List (Addr×Obj)} {H8:Hp} {s8:Shared},Inv (bM X pins s2 H2 scope C (own ++ cs) fp) pins' σ6 H8 s8->Inv (bM X pins s2 H2 scope C (own ++ cs) fp) [] (bJ σ cap own.length) H8 s8:=λ I8 =>
    I8.bareP.weak le6.1.symm λ i v e=>le6.2 i v e
   cases b with
   | false =>
    rw [if_neg Bool.false_ne_true] at q7
    obtain ⟨m',hm,w7⟩:=q7
    refine wpAny_pure ⟨rfl,m',hm,i + 1,H7,its,ys,back I7,T.keep _ _ _ st5 λ b hb o e=>?_,λ b hb=>?_,⟨nn,?_⟩,rv3,?_,w7⟩
    ·exact (I7.pin (b,o) (List.mem_append_right _ (List.mem_append_right _ (bN hb e)))).1
    ·obtain ⟨o,e,d⟩:=T.obj _ _ st5 b hb
     exact (I7.pin (b,o) (List.mem_append_right _ (List.mem_append_right _ (bN hb e)))).2.1
    ·exact (I7.pin (D,_) (List.mem_append_right _ (List.mem_append_left _ (List.mem_singleton.mpr rfl)))).1
    ·exact (I7.pin (D,_) (List.mem_append_right _ (List.mem_append_left _ (List.mem_singleton.mpr rfl)))).2.1
   | true =>
    rw [if_pos rfl] at q7
    refine wpAny_bind (wpAny_bind (wpAny_mono (he C _ s7 σ6 H7 _ I7 q7) (λ y s8 ⟨v,H8,I8,r8,m',hm,w8⟩=>?_) λ _ _ z=>False.elim z))
    have pD:=I8.pin (D,{ cls:=.type "list",data:=.seq its.toArray nn }) (List.mem_append_right _ (List.mem_append_left _ (List.mem_singleton.mpr rfl)))
    have hlen:=rv3.length
    refine wpAny_bind (wpAny_list_append_plain (hsz:=by rw [List.size_toArray]; omega) ⟨nn,pD.1⟩ λ h9 pl9 sb9=>wpAny_pure (wpAny_pure ?_))
    have I8':=back I8
    refine ⟨Y,m',hm,i + 1,H8,its ++ [y],ys ++ [v],?_,T.keep _ _ _ st5 λ b hb o e=>?_,λ b hb=>?_,?_,rv3.append (.cons r8 .nil),pD.2.1,w8⟩
    ·exact I8'.turned (t':=s8.toks) (λ b o hb e=>sb9.extBut b o hb e) pD.2.1 hDC (.inr (by show s2.heap.objs.size<=D; rw [hD]; exact Nat.le_refl _)) (λ x c e=>Nat.ne_of_lt (clt x c e)) λ p hp=>by
      have hp':p∈X.pn ++ pins:=by
       have:p∈(X.pn ++ pins) ++ []:=hp
       simpa using this
      exact Nat.ne_of_lt (plt p hp')
    ·exact sb9.extBut b o (Ne.symm (Dfp b hb)) (I8.pin (b,o) (List.mem_append_right _ (List.mem_append_right _ (bN hb e)))).1
    ·obtain ⟨o,e,d⟩:=T.obj _ _ st5 b hb
     exact (I8.pin (b,o) (List.mem_append_right _ (List.mem_append_right _ (bN hb e)))).2.1
    ·have e:its.toArray.push y=(its ++ [y]).toArray:=by simp
     rw [<- e]; exact pl9
 exact codeAny_compStart_list loop (T.self _ 0 _ _ _ (T.keep 0 _ _ st λ b _ o e=>old b o e) loop)
def qp (wi:TI) (cap:List Nat) (k:Nat) (g:TG) (tt:TT) (te:TE):TE:=λ σ H Q=>wi σ H λ J H1 =>
 ∃W:Nat->Nat->List V->Hp->Prop,(∃m,W 0 m [] H1)/\gX σ cap k J g tt te (λ ys H'=>∀p,H' p=none->Q (.ref p) (upd H' p (.lst ys))) W
theorem gt {wi:TI} (hc:X.calm=true) (hit:PI X tg iter wi) (ok:CompOk X scope own cs cap)
  (hg:∀pins s2 H2 C fp,PG (bM X pins s2 H2 scope C (own ++ cs) fp) tg g) (hi:∀pins s2 H2 C fp,sX (bM X pins s2 H2 scope C (own ++ cs) fp) ifs tt) (he:∀pins s2 H2 C fp,PE (bM X pins s2 H2 scope C (own ++ cs) fp) elt te)
  (hs:∀x,foldedSetIterable iter X.env x=pure x:=by intro _; rfl):PE X (.ListComp elt [⟨tg,iter,ifs,0⟩] scope pos) (qp wi cap own.length g tt te):=by
 intro pins s σ H Q I h
 rw [eval_ListComp]
 refine wpAny_comprehension_free (use:=none) rfl hs (gW λ y hy e=>I.ok.has y.1 (ok.free y hy e)) ok.kind ok.names (thn (hit pins s σ H _ I h) λ v s1 h1=>thn h1 λ itv s2 h2=>?_)
 obtain ⟨it,fp,tn,J,H2,e,I2,T,st2,f2,W,w0,turn⟩:=h2
 subst e
 refine jK (RR:=λ acc C=>compPost (model X.prog X.w) X.A X.xe none (EP X pins σ Q) acc C) I2 ok hc T st2 f2 (λ C=>hg _ _ _ _ _) (λ C=>hi _ _ _ _ _) (λ C=>he _ _ _ _ _) w0 turn λ D C s' B=>?_
 obtain ⟨⟨ys,H',hD,q,I',fp'⟩,m,hn⟩:=B
 obtain ⟨f0,f1,f2',f3,f4,f5⟩:=fp'
 exact ⟨m,hn,λ h' sb=>⟨.ref D,_,I'.turned (t':=s'.toks) (λ b o hb e=>sb.extBut b o hb e) f0 f1 f3 f4 f5,Y,q D hD⟩⟩
theorem je {wi:TI} {i:Nat} {y:Str} {py spos:Pos} (hc:X.calm=true) (hN:X.N.Nodup) (hiy:X.N[i]? = some y) (hy:X.env.scope.names.lookup y=some .local)
  (hsw:swapsWith (.ListComp elt [⟨tg,iter,ifs,0⟩] scope pos) (some (.Name y py)) spos.line X.env=pure true) (hit:PI X tg iter wi) (ok:CompOk X scope own cs cap)
  (hg:∀pins s2 H2 C fp,PG (bM X pins s2 H2 scope C (own ++ cs) fp) tg g) (hi:∀pins s2 H2 C fp,sX (bM X pins s2 H2 scope C (own ++ cs) fp) ifs tt) (he:∀pins s2 H2 C fp,PE (bM X pins s2 H2 scope C (own ++ cs) fp) elt te)
  (hs:∀x,foldedSetIterable iter X.env x=pure x:=by intro _; rfl):PS X (.Assign [.Name y py] (.ListComp elt [⟨tg,iter,ifs,0⟩] scope pos) spos) (vh (qp wi cap own.length g tt te) (gM i)):=by
 intro pins s σ H D0 I h
 rw [exec_Assign_Name_used _ _ _ _ hsw]
 refine wpAny_bind (wpAny_standAt (wpAny_bind ?_))
 show wpAny _ X.A (do let _<-comprehension (.ListComp elt [⟨tg,iter,ifs,0⟩] scope pos) scope X.env _ (newList []) false (eval iter X.env) (some (assign (.Name y py) X.env))) _ _ s
 refine wpAny_bind (wpAny_mono (wpAny_comprehension_free (use:=some (assign (.Name y py) X.env)) (Q:=λ _ s'=>SP X pins D0 .next s') rfl hs (gW λ y hy e=>I.ok.has y.1 (ok.free y hy e)) ok.kind ok.names
  (thn (hit pins s σ H _ I h) λ v s1 h1=>thn h1 λ itv s2 h2=>?_)) (λ _ s' hq=>wpAny_pure (wpAny_pure hq)) λ _ _ e=>e)
 obtain ⟨it,fp,tn,J,H2,e,I2,T,st2,f2,W,w0,turn⟩:=h2
 subst e
 refine jK (RR:=λ acc C=>compPost (model X.prog X.w) X.A X.xe (some (assign (.Name y py) X.env)) (λ _ s'=>SP X pins D0 .next s') acc C) I2 ok hc T st2 f2 (λ C=>hg _ _ _ _ _) (λ C=>hi _ _ _ _ _) (λ C=>he _ _ _ _ _) w0 turn λ D C s' B=>?_
 obtain ⟨⟨ys,H',hD,q,I',fp'⟩,m,hn⟩:=B
 obtain ⟨f0,f1,f2',f3,f4,f5⟩:=fp'
 show wpAny _ X.A (assign (.Name y py) X.env (.ref D)) _ _ _
 refine wpAny_assign_Name (iu I' hN hiy (.inl hy) (v:=.ref D) rfl (λ s3 I3 ⟨a,sb,ha⟩=>?_) (.inr hy))
 have hCa:C≠a:=by
  rcases ha with z | z
  ·rw [z]; exact f1
  ·exact λ q=>f4 y a z q.symm
 refine ⟨m,hn.sameBut sb hCa,λ h' sb'=>⟨_,_,I3.turned (t':=s3.toks) (λ b o hb e=>sb'.extBut b o hb e) f0 f1 f3 f4 f5,q D hD⟩⟩
end
end L2
set_option Elab.async false
set_option linter.all false
set_option maxRecDepth 100000
namespace L2
open PySem PySem.Spec PyProof.Rows
def CDivB (i j:Int):Prop:=0 < j/\j<=10 ^ 60
theorem CDivB.np {i j:Int} (h:CDivB i j):Builtin.divisionGoesByPylong i j=false:=by
 refine PyProof.noPylong_of_log2 ?_
 have h1:j.natAbs < 2 ^ 200:=by
  obtain ⟨a,b⟩:=h
  omega
 have h2:j.natAbs.log2 < 200:=(Nat.log2_lt (by have:=h.1; omega)).mpr h1
 omega
section
variable {X:Cx}
theorem eY:OpR X (binaryOp .FloorDiv) (rI CDivB λ i j=>.int (i / j)):=opI λ i j _ _ _ _ _ hc q=>by
 refine floordiv_int (by have:=hc.1; omega) ?_ (.inl hc.np)
 rw [Int.fdiv_eq_ediv_of_nonneg _ (by have:=hc.1; omega)]
 exact q
theorem Inv.kitx {pins:List (Addr×Obj)} {σ:St} {H:Hp} {s:Shared} {x:V} {u t:Value} (I:Inv X pins σ H s) (rx:RelV x u) (ty:TyOf X.K H x t) :
  ∃P:Heap->Prop,PySem.W.KitX X.K u t P/\P s.heap/\u≠.builtin "__main__.__loader__#opaque" := by
 cases ty with
 | non=>cases (show u=Value.none from rx); exact ⟨_,PySem.W.kitx_none,True.intro,λ z=>nomatch z⟩
 | bl y=>cases (show u=Value.bool y from rx); exact ⟨_,PySem.W.kitx_bool,True.intro,λ z=>nomatch z⟩
 | int i=>obtain ⟨t,q⟩:=(show ∃t,u=Value.int i t from rx); cases q; exact ⟨_,PySem.W.kitx_int,True.intro,λ z=>nomatch z⟩
 | str y=>obtain ⟨t,q⟩:=(show ∃t,u=Value.str y t from rx); cases q; exact ⟨_,PySem.W.kitx_str,True.intro,λ z=>nomatch z⟩
 | flt y=>obtain ⟨t,q⟩:=(show ∃t,u=Value.float y t from rx); cases q; exact ⟨_,PySem.W.kitx_float,True.intro,λ z=>nomatch z⟩
 | @lst a xs ea =>
  cases (show u=Value.ref a from rx)
  obtain ⟨_,_,n,_,h1⟩:=(show ObjOk X.prog X.w H s.heap a (.lst xs) from I.hok a _ ea)
  exact ⟨_,PySem.W.kitx_list,⟨_,h1,Y⟩,λ z=>nomatch z⟩
 | @frz a ob xs ea =>
  cases (show u=Value.ref a from rx)
  obtain ⟨_,_,_,n,_,h1⟩:=(show ObjOk X.prog X.w H s.heap a (.frz ob (.lst xs)) from I.hok a _ ea)
  exact ⟨_,PySem.W.kitx_list,⟨_,h1,Y⟩,λ z=>nomatch z⟩
 | @tup a xs ea =>
  cases (show u=Value.ref a from rx)
  obtain ⟨_,_,_,p⟩:=(show ObjOk X.prog X.w H s.heap a (.tup xs) from I.hok a _ ea)
  obtain ⟨o,h1,h2,_⟩:=p
  exact ⟨_,PySem.W.kitx_tuple,⟨o,h1,h2⟩,λ z=>nomatch z⟩
 | @dK a kvs ea =>
  cases (show u=Value.ref a from rx)
  obtain ⟨_,_,vs,_,p⟩:=(show ObjOk X.prog X.w H s.heap a (.dK kvs) from I.hok a _ ea)
  obtain ⟨o,es,ep,h1,h2,_⟩:=p
  exact ⟨_,PySem.W.kitx_dict,⟨o,h1,h2.1⟩,λ z=>nomatch z⟩
 | @dT a kvs ea =>
  cases (show u=Value.ref a from rx)
  obtain ⟨_,_,xs,_,o,es,ep,h1,h2,_⟩:=(show ObjOk X.prog X.w H s.heap a (.dT kvs) from I.hok a _ ea)
  exact ⟨_,PySem.W.kitx_dict,⟨o,h1,h2.1⟩,λ z=>nomatch z⟩
 | @ins a C dx fs ea cl ha hn htk hm =>
  cases (show u=Value.ref a from rx)
  obtain ⟨mA,O,_⟩:=eU I.hok ea
  obtain ⟨od,J,_⟩:=O.look
  exact ⟨_,PySem.W.kitx_own (cl.get _) cl.hd ha hn htk hm,J,λ z=>nomatch z⟩
def clV:V->Option Value
 | .ty T=>some (.type T)
 | .ref C=>some (.ref C)
 | _=>none
theorem clV.rel {v:V} {u c:Value} (e:clV v=some c) (r:RelV v u):u=c:=by
 cases v with
 | ty T=>have e':Value.type T=c:=Option.some.inj e; rw [<- e']; exact r
 | ref C=>have e':Value.ref C=c:=Option.some.inj e; rw [<- e']; exact r
 | _=>cases e
def clVs:List V->Option (List Value)
 | []=>some []
 | v :: r=>match clV v,clVs r with
  | some c,some cs=>some (c :: cs)
  | _,_=>none
theorem clVs.rel:∀ {vs:List V} {us cs:List Value},clVs vs=some cs->Vals vs us->us=cs
 | [],_,_,e,.nil=>Option.some.inj e
 | v :: r,_,_,e,.cons r1 r2=>by
  unfold clVs at e
  split at e
  ·rename_i c cs' e1 e2
   cases e
   rw [clV.rel e1 r1,clVs.rel e2 r2]
  ·cases e
theorem cF:bZ X (.builtin "isinstance") (λ xs H Q=>∃x cv t c b,xs=[x,cv]/\TyOf X.K H x t/\clV cv=some c/\PySem.W.kitOne X.K t c=some b/\Q (.bl b) H):=by
 intro pins s σ H xs us Q I rv h
 obtain ⟨x,cv,t,c,b,rfl,ty,e1,e2,q⟩:=h
 cases rv with
 | cons r1 rr =>
  cases rr with
  | cons r2 rr =>
   cases rr
   rw [clV.rel e1 r2]
   exact ni I r1 ty e2 λ tk=>⟨.bl b,H,I.tok tk,Y,q⟩
theorem jf:bZ X (.builtin "isinstance") (λ xs H Q=>∃x p t cvs cs b,xs=[x,.ref p]/\TyOf X.K H x t/\H p=some (.tup cvs)/\clVs cvs=some cs/\PySem.W.kitAny X.K t cs=some b/\Q (.bl b) H):=by
 intro pins s σ H xs us Q I rv h
 obtain ⟨x,p,t,cvs,cs,b,rfl,ty,hp,e1,e2,q⟩:=h
 cases rv with
 | cons r1 rr =>
  cases rr with
  | cons r2 rr =>
   cases rr
   cases r2
   obtain ⟨_,its,rits,o,ho,hc,n,hd⟩:=I.hok p _ hp
   obtain ⟨P,Z,p1,p2⟩:=I.kitx r1 ty
   obtain ⟨oc,od,dt,osl⟩:=o
   replace hc:oc=.type "tuple" := hc
   replace hd:dt=.seq its.toArray n:=hd
   subst hc hd
   have e3:=clVs.rel e1 rits
   subst e3
   exact PySem.W.kia_tup Z I.kIn p1 ho e2 p2 λ tk=>⟨.bl b,H,I.tok tk,Y,q⟩
end
mutual
inductive DatV (K:PySem.W.Frag) (H:Hp):V->PyData->Prop
 | non:DatV K H .non .none
 | bl (b:Bool):DatV K H (.bl b) (.bool b)
 | int (i:Int):DatV K H (.int i) (.int i)
 | str (x:Str):DatV K H (.str x) (.str x)
 | lst {a:Addr} {xs:List V} {ds:List PyData}:SqL K H a xs->DatVs K H xs ds->DatV K H (.ref a) (.list ds)
 | tup {a:Addr} {xs:List V} {ds:List PyData}:SqT K H a xs->DatVs K H xs ds->DatV K H (.ref a) (.tuple ds)
inductive DatVs (K:PySem.W.Frag) (H:Hp):List V->List PyData->Prop
 | nil:DatVs K H [] []
 | cons {x:V} {d:PyData} {xs:List V} {ds:List PyData}:DatV K H x d->DatVs K H xs ds->DatVs K H (x :: xs) (d :: ds)
end
section
variable {X:Cx} {pins:List (Addr×Obj)} {σ:St} {H:Hp} {s:Shared}
mutual
theorem Inv.reads (I:Inv X pins σ H s):∀ {v:V} {d:PyData},DatV X.K H v d->∀ {u:Value},RelV v u->∃as,Reads s.heap u d as
 | _,_,.non,u,r=>by cases (show u=Value.none from r); exact ⟨_,.none⟩
 | _,_,.bl b,u,r=>by cases (show u=Value.bool b from r); exact ⟨_,.bool b⟩
 | _,_,.int i,u,r=>by obtain ⟨t,e⟩:=(show ∃t,u=Value.int i t from r); subst e; exact ⟨_,.int i t⟩
 | _,_,.str x,u,r=>by obtain ⟨t,e⟩:=(show ∃t,u=Value.str x t from r); subst e; exact ⟨_,.str x t⟩
 | _,_,.lst (a:=a) h hs,u,r=>by
  cases (show u=Value.ref a from r)
  obtain ⟨its,rv,⟨o,n,e,c,_,d⟩,_⟩:=I.list h
  obtain ⟨as,ra⟩:=I.readsAll hs rv
  exact ⟨_,.list e c d (by simpa using ra)⟩
 | _,_,.tup (a:=a) h hs,u,r=>by
  cases (show u=Value.ref a from r)
  obtain ⟨its,rv,⟨o,e,c,n,d⟩,_⟩:=I.tuple h
  obtain ⟨as,ra⟩:=I.readsAll hs rv
  exact ⟨_,.tuple e c d (by simpa using ra)⟩
theorem Inv.readsAll (I:Inv X pins σ H s):∀ {vs:List V} {ds:List PyData},DatVs X.K H vs ds->∀ {us:List Value},Vals vs us->∃as,ReadsAll s.heap us ds as
 | _,_,.nil,_,.nil=>⟨_,.nil⟩
 | _,_,.cons h hs,_,.cons r rs=>by
  obtain ⟨as,ra⟩:=I.reads h r
  obtain ⟨bs,rb⟩:=I.readsAll hs rs
  exact ⟨_,.cons ra rb⟩
end
end
section
variable {X:Cx}
theorem vy (hu:X.A.units + 64 < cLine):OpR X (compareOp .Eq) (λ x y H Q=>∃da db,DatV X.K H x da/\DatV X.K H y db/\SeqAt.shaped da=true/\SeqAt.shaped db=true/\Q (.bl (PyData.eqv da db)) H):=by
 intro pins s σ H x y v u Q I rx ry h
 obtain ⟨da,db,hx,hy,s1,s2,q⟩:=h
 obtain ⟨as,ra⟩:=I.reads hx rx
 obtain ⟨bs,rb⟩:=I.reads hy ry
 exact eq_dataH ra rb s1 s2 hu ⟨.bl _,H,I,rfl,q⟩
end
section
variable {prog:Program} {w:World} {A:Around} {E:Value->Shared->Prop}
theorem gY {it l:Addr} {items:Array Value} (hne:l≠it):∀ (n i:Nat) (s:Shared) (Q:List Value->Shared->Prop),s.heap.IsListIter it l i->s.heap.IsList l items->i + n<=items.size ->
  (∀h',h'.IsListIter it l (i + n)->Heap.SameBut it s.heap h'->Q ((items.toList.drop i).take n) { s with heap:=h' })->wpAny (model prog w) A (draw (.ref it) n) Q E s
 | 0,i,s,Q,hit,_,_,hQ=>by
  show wpAny _ _ (pure []) Q E s
  exact wpAny_pure (by simpa using hQ s.heap hit (Heap.SameBut.refl ..))
 | n + 1,i,s,Q,hit,ht,hle,hQ=>by
  have hlt:i < items.size:=by omega
  show wpAny _ _ (pyNext (.ref it) >>= _) Q E s
  refine wpAny_bind (wpAny_pyNext_list_item hit ht (x:=items[i]) (by simp [hlt]) λ h₁ hit₁ hs₁=>?_)
  refine wpAny_bind (wpAny_holding (gY hne n (i + 1) _ _ hit₁ (ht.extBut hs₁.extBut hne) (by omega) λ h₂ hit₂ hs₂=>wpAny_pure ?_))
  have hd:items.toList.drop i=items[i] :: items.toList.drop (i + 1):=by simp [List.drop_eq_getElem_cons,hlt]
  have q:=hQ h₂ (by rw [show i + (n + 1)=i + 1 + n by omega]; exact hit₂) (hs₁.trans hs₂)
  rw [hd,List.take_succ_cons] at q
  exact q
theorem eZ {s:Shared} {l:Addr} {items:Array Value} {Q:List Value->Shared->Prop} (hh:A.handled=none) (ht:s.heap.IsList l items)
  (hQ:∀h',Heap.ExtBut s.heap.objs.size s.heap h'->Q items.toList { s with heap:=h' }):wpAny (model prog w) A (unpackItems (.ref l) items.size none) Q E s:=by
 have hlt:l≠s.heap.objs.size:=by obtain ⟨o,ho,_⟩:=ht; exact Nat.ne_of_lt (Heap.lt_size ho)
 have hp:(s.heap.push { cls:=.type "list_iterator",data:=.fields #[.ref l,.int 0 0] }).IsList l items:=by
  obtain ⟨o,ho,r⟩:=ht; exact ⟨o,Heap.get?_push_of_some _ ho,r⟩
 unfold unpackItems
 refine wpAny_bind ?_
 ·unfold notIterableAtAll
  refine wpAny_bind (wpAny_specialOf ht.typeIs PySem.slot_list_iter.lookup ?_)
  refine wpAny_pure ?_
  simp only [Bool.false_eq_true,if_false]
  refine wpAny_bind (wpAny_holding (wpAny_pyIter_list ht ?_))
  refine wpAny_bind (wpAny_holding (gY hlt items.size 0 _ _ ⟨_,Heap.get?_push_size _ rfl,rfl,rfl⟩ hp (by omega) λ h₁ hit₁ hs₁=>?_))
  have hall:List.take items.size (List.drop 0 items.toList)=items.toList:=by
   rw [List.drop_zero]; exact List.take_of_length_le (by simp)
  rw [hall]
  rw [if_neg (by simp)]
  have ht₁:h₁.IsList l items:=hp.extBut hs₁.extBut hlt
  refine wpAny_bind (wpAny_holding (wpAny_pyNext_list_end hh hit₁ ht₁ (by simp) λ h₂ he₂=>?_))
  simp only [Option.isSome_none,Bool.false_eq_true,if_false]
  refine wpAny_pure (hQ h₂ λ b o hb e=>he₂ b o hb (hs₁.extBut b o hb (Heap.get?_push_of_some _ e)))
theorem eK {s:Shared} {env:Env} {elts:List Expr} {x1} {pos:Pos} {l:Addr} {items:Array Value} {Q:Unit->Shared->Prop} (hh:A.handled=none) (ht:s.heap.IsList l items)
  (hn:(assignEach elts env).length=items.size) (hstar:(assignEach elts env).findIdx? (·.1)=none)
  (h:∀h',Heap.ExtBut s.heap.objs.size s.heap h'->wpAny (model prog w) A (assignInOrder ((assignEach elts env).map (·.2)) items.toList) Q E { s with heap:=h' }) :
  wpAny (model prog w) A (assign (.Tuple elts x1 pos) env (.ref l)) Q E s:=by
 rw [assign_Tuple]
 refine wpAny_bind (wpAny_standAt ?_)
 unfold unpack
 rw [hn,hstar]
 exact wpAny_bind (wpAny_holding (eZ hh ht h))
end
section
variable {X:Cx} {pos:Pos}
def xW (K:PySem.W.Frag) (n:Nat) (t:TGs):TG:=λ v σ H Q=>∃a xs,v=.ref a/\(SqL K H a xs\/SqT K H a xs)/\xs.length=n/\t xs σ H Q
theorem jg {es:List Expr} {k:Nat} {t:TGs} {n:Nat} (hc:X.calm=true) (h:PGs X es t)
  (hn:(assignEach es X.env).length=n:=by rfl) (hst:(assignEach es X.env).findIdx? (·.1)=none:=by rfl):PG X (.Tuple es k pos) (xW X.K n t):=by
 intro pins s σ H v u Q I r hw
 obtain ⟨a,xs,e1,hq,hl,hw⟩:=hw
 rcases hq with hq | hq
 ·subst e1
  cases r
  obtain ⟨its,rv,ht,hz⟩:=I.list hq
  refine eK (I.ok.hd hc) ht.isList (by simp [hn,<- hl,rv.length]) hst λ h' hx=>?_
  have I1:Inv X pins σ H { s with heap:=h' }:=I.kept (t':=s.toks) λ b o e=>hx b o (Nat.ne_of_lt (Heap.lt_size e)) e
  exact h pins _ σ H xs _ Q I1 (by simpa using rv) hw
 ·exact aT hc h hn hst pins s σ H v u Q I r ⟨a,xs,e1,hq,hl,hw⟩
end
def Itz (l1 l2:Addr):It :=
  ⟨λ i H=>∃xs ys x y,H l1=some (.lst xs)/\H l2=some (.lst ys)/\xs[i]? = some x/\ys[i]? = some y,
   λ i H v H'=>∃p xs ys x y,H p=none/\v=.ref p/\H'=upd H p (.tup [x,y])/\H l1=some (.lst xs)/\H l2=some (.lst ys)/\xs[i]? = some x/\ys[i]? = some y,
   λ i H=>∃xs ys,H l1=some (.lst xs)/\H l2=some (.lst ys)/\(xs.length<=i\/ys.length<=i)⟩
section
variable {X:Cx}
theorem Inv.turnedN {pins:List (Addr×Obj)} {σ:St} {H:Hp} {s:Shared} {h':Heap} {t':Nat} {ch:List Addr} (I:Inv X pins σ H s) (hf:∀b∈ch,eQ X pins H b) (k:∀b o,b∉ch->s.heap.get? b=some o->h'.get? b=some o):Inv X pins σ H { s with heap:=h',toks:=t' }:=by
 have hLc:X.env.locals∉ch:=λ z=>(hf _ z).2.1 rfl
 have nt:∀b u,H b=some u->b∉ch:=λ b u e z=>by rw [(hf b z).1] at e; cases e
 refine I.step (g':=s.gens) (d':=s.drawn) (ch:=ch) (λ b hb=>⟨(hf b hb).2.2.2.1,(hf b hb).2.1,(hf b hb).2.2.2.2.1,(hf b hb).2.2.2.2.2⟩) (λ b o _ _ hc e _=>k b o hc e) (λ b o _ _ hc e _=>⟨o.slots,k b o hc e⟩) (λ _ _ _ _ n=>n)
  (λ b o hc e=>⟨o,k b o hc e⟩) (λ _ _ e=>e) (λ _ _ _ e=>e) (λ b ps e=>⟨#[],by rw [e]; simp⟩) (λ m hm=>?_) (λ b u e=>?_) I.bare
 ·obtain ⟨o,es,ep,ho,r⟩:=hm
  exact ⟨o,es,ep,k _ o hLc ho,r⟩
 ·refine (I.hok b u e).stay (λ c v hc q=>k c v ?_ q) (λ _ q=>q) λ _ _ q=>q
  rcases hc with z | z
  ·rw [z]; exact nt b u e
  ·exact nt c _ z
theorem Inv.track {pins:List (Addr×Obj)} {σ:St} {H:Hp} {s:Shared} {a:Addr} {o:HO} (I:Inv X pins σ H s) (hf:eQ X pins H a) (fa:X.s₀.heap.objs.size<=a) (new:ObjOk X.prog X.w (upd H a o) s.heap a o):Inv X pins σ (upd H a o) s:=by
 obtain ⟨f0,f1,f2,f3,f4,f5⟩:=hf
 have s0:∀b o,X.s₀.heap.get? b=some o->b≠a:=λ b o e=>Nat.ne_of_lt (Nat.lt_of_lt_of_le (Heap.lt_size e) fa)
 refine ⟨I.ok,I.os,I.bare,⟨I.base.keep,I.base.slot,λ b o e n hx=>?_,I.base.there,λ b xs e=>?_,λ b o u e=>?_,λ b ps e=>?_⟩,I.loc,I.cell,?_,λ x c e=>?_,λ p hp=>?_,I.hok.add f0 new,I.len⟩
 ·rw [am (s0 b o e)]; exact I.base.free b o e n hx
 ·have q:=I.base.tups b xs e
  rw [am (au q f0)]; exact q
 ·have q:=I.base.frzs b o u e
  rw [am (au q f0)]; exact q
 ·obtain ⟨more,q⟩:=I.base.tbls b ps e
  exact ⟨more,by rw [am (au q f0)]; exact q⟩
 ·rw [am (Ne.symm f1)]; exact I.free
 ·rw [am (f4 x c e)]; exact I.freeC x c e
 ·obtain ⟨e,n,r⟩:=I.pin p hp
  exact ⟨e,by rw [am (f5 p hp)]; exact n,r⟩
end
structure ZipAp (z TI TO i1 i2:Addr):Prop where
 nd:[z,TI,TO,i1,i2].Nodup
theorem qq {P:Program} {w:World} {K:PySem.W.Frag} {es:List Expr} {kk:Nat} {tp:Pos} (l1 l2 z TI TO i1 i2:Addr) (D:ZipAp z TI TO i1 i2) :
  Turn P w K (.Tuple es kk tp) (Itz l1 l2) [z,TI,TO,i1,i2] z (λ i h=>IsZip h z TI TO .none/\IsPair h TI (.ref i1) (.ref i2)/\(∃a b,IsPair h TO a b)/\h.IsListIter i1 l1 i/\h.IsListIter i2 l2 i) where
 mem:=by simp
 obj:=λ i h st b hb=>by
  obtain ⟨a1,a2,⟨x,y,a3⟩,⟨o4,a4,_,d4⟩,⟨o5,a5,_,d5⟩⟩:=st
  simp only [List.mem_cons,List.not_mem_nil,or_false] at hb
  rcases hb with rfl | rfl | rfl | rfl | rfl
  ·exact ⟨_,a1,λ v q=>by cases q⟩
  ·exact ⟨_,a2,λ v q=>by cases q⟩
  ·exact ⟨_,a3,λ v q=>by cases q⟩
  ·exact ⟨_,a4,λ v q=>by rw [d4] at q; cases q⟩
  ·exact ⟨_,a5,λ v q=>by rw [d5] at q; cases q⟩
 keep:=λ i h h' st k=>by
  obtain ⟨a1,a2,⟨x,y,a3⟩,a4,a5⟩:=st
  exact ⟨k z (by simp) _ a1,k TI (by simp) _ a2,⟨x,y,k TO (by simp) _ a3⟩,a4.at λ o e=>k i1 (by simp) o e,a5.at λ o e=>k i2 (by simp) o e⟩
 item:=by
  intro X hP hw hK hc i pins s σ H E I hf st hg
  subst hP hw hK
  obtain ⟨a1,a2,⟨x0,y0,a3⟩,a4,a5⟩:=st
  obtain ⟨xs,ys,x,y,e1,e2,ex,ey⟩:=hg
  have tr:∀ {l:Addr} {zs:List V},H l=some (.lst zs)->∀b∈[z,TI,TO,i1,i2],l≠b:=λ e b hb q=>by rw [q,(hf b hb).1] at e; cases e
  have nd:=D.nd
  simp only [List.nodup_cons,List.mem_cons,List.not_mem_nil,or_false,not_or,List.nodup_nil,and_true,not_false_eq_true] at nd
  obtain ⟨⟨n1,n2,n3,n4⟩,⟨n5,n6,n7⟩,⟨n8,n9⟩,n10⟩:=nd
  have A':ZipApart z TI TO i1 i2 l1 l2:=⟨Ne.symm n1,Ne.symm n2,Ne.symm n3,Ne.symm n4,n5,n6,n7,n8,n9,n10,tr e1 z (by simp),tr e1 TO (by simp),tr e1 i1 (by simp),tr e1 i2 (by simp),tr e2 z (by simp),tr e2 TO (by simp),tr e2 i1 (by simp),tr e2 i2 (by simp)⟩
  obtain ⟨its1,rv1,p1,_⟩:=I.list (SqL.of e1)
  obtain ⟨its2,rv2,p2,_⟩:=I.list (SqL.of e2)
  obtain ⟨u1,hu1,r1⟩:=rv1.get ex
  obtain ⟨u2,hu2,r2⟩:=rv2.get ey
  refine wpAny_pyNext_zip_item A' a1 a2 a3 a4 a5 p1.isList p2.isList (x:=u1) (y:=u2) (by simpa using hu1) (by simpa using hu2) λ h' b1 b2 b3 b4 b5 b6 bk=>⟨_,Y,?_⟩
  refine wpAny_letOwnedTupleGo_zip b1 λ h'' c1 cs=>?_
  have zs:z < s.heap.objs.size:=Heap.lt_size a1
  have k2:∀b o,b∉[z,TI,TO,i1,i2]->s.heap.get? b=some o->h''.get? b=some o:=λ b o hb e=>by
   simp only [List.mem_cons,List.not_mem_nil,or_false,not_or] at hb
   exact cs.extBut b o hb.1 (bk b o hb.1 hb.2.2.1 hb.2.2.2.1 hb.2.2.2.2 e)
  have I1:Inv X pins σ H { s with heap:=h'' }:=I.turnedN (t':=s.toks) hf k2
  have hp:h''.get? s.heap.objs.size=some { cls:=.type "tuple", data:=.seq #[u1, u2] }:=cs.extBut _ _ (Nat.ne_of_gt zs) b5
  have hn:H s.heap.objs.size=none:=I.hok.fresh (Nat.le_refl _)
  have fpk:=I.fpOk (H':=H) (Nat.le_refl _) hn
  have I2:Inv X pins σ (upd H s.heap.objs.size (.tup [x,y])) { s with heap:=h'' }:=I1.track fpk I.sz ⟨by show 2<=sizeLine; decide,[u1,u2],.cons r1 (.cons r2 .nil),_,hp,Y,_,Y⟩
  refine ⟨.ref s.heap.objs.size,_,I2,Y,⟨_,xs,ys,x,y,hn,Y,Y,e1,e2,ex,ey⟩,⟨c1,?_,⟨u1,u2,cs.extBut _ _ (Ne.symm n2) b2⟩,b3.extBut cs.extBut (Ne.symm n3),b4.extBut cs.extBut (Ne.symm n4)⟩,λ b hb=>?_⟩
  ·exact cs.extBut _ _ (Ne.symm n1) (bk _ _ (Ne.symm n1) n5 n6 n7 a2)
  ·have hbl:b < s.heap.objs.size:=by
    simp only [List.mem_cons,List.not_mem_nil,or_false] at hb
    obtain ⟨o4,a4',_⟩:=a4
    obtain ⟨o5,a5',_⟩:=a5
    rcases hb with rfl | rfl | rfl | rfl | rfl
    ·exact zs
    ·exact Heap.lt_size a2
    ·exact Heap.lt_size a3
    ·exact Heap.lt_size a4'
    ·exact Heap.lt_size a5'
   rw [am (Nat.ne_of_lt hbl)]
   exact (hf b hb).1
 done:=by
  intro X hP hw hK hc i pins s σ H E I hf st hg
  subst hP hw hK
  obtain ⟨a1,a2,⟨x0,y0,a3⟩,a4,a5⟩:=st
  obtain ⟨xs,ys,e1,e2,ex⟩:=hg
  have tr:∀ {l:Addr} {zs:List V},H l=some (.lst zs)->∀b∈[z,TI,TO,i1,i2],l≠b:=λ e b hb q=>by rw [q,(hf b hb).1] at e; cases e
  have nd:=D.nd
  simp only [List.nodup_cons,List.mem_cons,List.not_mem_nil,or_false,not_or,List.nodup_nil,and_true,not_false_eq_true] at nd
  obtain ⟨⟨n1,n2,n3,n4⟩,⟨n5,n6,n7⟩,⟨n8,n9⟩,n10⟩:=nd
  have A':ZipApart z TI TO i1 i2 l1 l2:=⟨Ne.symm n1,Ne.symm n2,Ne.symm n3,Ne.symm n4,n5,n6,n7,n8,n9,n10,tr e1 z (by simp),tr e1 TO (by simp),tr e1 i1 (by simp),tr e1 i2 (by simp),tr e2 z (by simp),tr e2 TO (by simp),tr e2 i1 (by simp),tr e2 i2 (by simp)⟩
  obtain ⟨its1,rv1,p1,_⟩:=I.list (SqL.of e1)
  obtain ⟨its2,rv2,p2,_⟩:=I.list (SqL.of e2)
  have l1':=rv1.length
  have l2':=rv2.length
  refine wpAny_pyNext_zip_end (I.ok.hd hc) A' a1 a2 a3 a4 a5 p1.isList p2.isList (by rcases ex with q | q; exact .inl (by simp; omega); exact .inr (by simp; omega)) λ h' bk=>⟨Y,?_⟩
  exact I.turnedN (t':=s.toks) hf λ b o hb e=>by
   simp only [List.mem_cons,List.not_mem_nil,or_false,not_or] at hb
   exact bk b o hb.1 hb.2.2.1 hb.2.2.2.1 hb.2.2.2.2 e
 self:=λ _ _ _ _ _ st h=>wpAny_pyIter_zip st.1 h
def Gd (ta:TA):TI:=λ σ H R=>ta σ H λ vs H1=>∃l1 l2 xs ys,vs=[.ref l1,.ref l2]/\H1 l1=some (.lst xs)/\H1 l2=some (.lst ys)/\R (Itz l1 l2) H1
theorem vz {X:Cx} {a b:Expr} {ta:TA} {p pos tp:Pos} {es:List Expr} {kk:Nat} (hg:Gl X "zip") (hm:X.mg "zip" = none) (ha:PA X [a,b] ta)
  (hs:starEach [a,b] X.env=[(false,eval a X.env),(false,eval b X.env)]:=by rfl) (hs2:starEach [b] X.env=[(false,eval b X.env)]:=by rfl) :
  PI X (.Tuple es kk tp) (.Call (.Name "zip" p) [a,b] [] pos) (Gd ta):=by
 intro pins s σ H R I h
 refine Call_ (eG I hg hm PyProof.Rows.boot_zip (PyProof.Rows.callWith_type1 (thn (ha pos pins s σ H _ I h) λ us s1 ⟨vs,H1,I1,r1,q1⟩=>?_) (by rw [hs,hs2]) (by rw [hs2]; rfl)))
 obtain ⟨l1,l2,xs,ys,rfl,e1,e2,q⟩:=q1
 cases r1 with
 | cons r rr =>
  cases rr with
  | cons r' rr =>
   cases rr
   cases r
   cases r'
   obtain ⟨its1,rv1,p1,_⟩:=I1.list (SqL.of e1)
   obtain ⟨its2,rv2,p2,_⟩:=I1.list (SqL.of e2)
   refine call_zip_2 p1.isList p2.isList λ h' z1 z2 z3 z4 z5 sz keep=>?_
   have I2:Inv X pins σ H1 { s1 with heap:=h' }:=I1.kept (t':=s1.toks) keep
   refine wpAny_pyIter_zip z1 ⟨s1.heap.objs.size + 4,[s1.heap.objs.size + 4,s1.heap.objs.size + 2,s1.heap.objs.size + 3,s1.heap.objs.size,s1.heap.objs.size + 1],_,_,H1,rfl,I2,qq l1 l2 _ _ _ _ _ ⟨by simp⟩,⟨z1,z2,⟨_,_,z3⟩,z4,z5⟩,λ b hb=>?_,q⟩
   have hb':s1.heap.objs.size<=b:=by
    simp only [List.mem_cons,List.not_mem_nil,or_false] at hb
    rcases hb with rfl | rfl | rfl | rfl | rfl <;> omega
   exact I1.fpOk hb' (I1.hok.fresh hb')
end L2
set_option Elab.async false
set_option linter.all false
set_option maxRecDepth 100000
namespace L2
open PySem PySem.Spec PyProof.Rows
def Dn (P:Program) (w:World) (K:PySem.W.Frag) (mg:Str->Option Value) (base:Heap) (x:Str) (ps:List Str) (k:Nat) (sp:Sp):Prop :=
 ∃ (f:Addr) (fd:FuncData),FnOk P w K mg base CX0 k f fd ps sp/\Binds K fd ps []/\PySem.W.keepIn K (.ref f)=true/\mg x=some (.ref f)
theorem aj {X:Cx} {k:Nat} {ps:List Str} {sp:Sp} {x:Str} {p pos:Pos} {e:Expr} {es:List Expr} {t:TA} (D:Dn X.prog X.w X.K X.mg X.base x ps k sp) (hr:Room k X.A) (hg:Gl X x) (ha:PA X (e :: es) t)
  (hdb:(x == ("__debug__" : Str))=false:=by decide) (he:starEach (e :: es) X.env=(false,eval e X.env) :: starEach es X.env:=by rfl) (hpl:(backTo pos (starEach es X.env)).any (·.1)=false:=by rfl) :
  PE X (.Call (.Name x p) (e :: es) [] pos) (uM sp [] E0 t):=by
 obtain ⟨f,fd,F,hb,hk,hm⟩:=D
 exact sP F hr hg hm hk hb .nil me ha hdb he hpl
def mf (sc:Scope) (N:List Str) (scope:Scope) (own cs:List Str) (cap:List Nat):Bool :=
 decide (scope.kind=.function) && scope.names.all (λ y=>decide (y.2≠.cell)) && scope.names.all (λ y=>decide (y.2=.local->scope.names.lookup y.1=some .local)) &&
 scope.names.all (λ y=>decide (y.2=.free->sc.names.lookup y.1=some .cell\/sc.names.lookup y.1=some .free)) && own.all (λ y=>decide (scope.names.lookup y=some .local)) &&
 decide (cs.length=cap.length) && (cs.zip cap).all (λ y=>decide (N[y.2]? = some y.1) && decide ((y.1,NameKind.free)∈scope.names)) && scope.names.all (λ y=>decide (y.2=.free->scope.names.lookup y.1≠some .local))
theorem bQ {X:Cx} {sc:Scope} {N:List Str} {scope:Scope} {own cs:List Str} {cap:List Nat} (h1:X.env.scope=sc) (h2:X.N=N) (h:mf sc N scope own cs cap=true):CompOk X scope own cs cap:=by
 subst h1 h2
 unfold mf at h
 simp only [Bool.and_eq_true,List.all_eq_true,decide_eq_true_eq] at h
 obtain ⟨⟨⟨⟨⟨⟨⟨a1,a2⟩,a3⟩,a4⟩,a5⟩,a6⟩,a7⟩,a8⟩:=h
 refine ⟨a1,a2,a3,a4,λ i y e=>?_,a5,a6,λ y hy e=>a8 _ hy rfl e⟩
 have hi:i < cs.length:=(List.getElem?_eq_some_iff.mp e).1
 have hj:i < cap.length:=by rw [<- a6]; exact hi
 refine ⟨cap[i],List.getElem?_eq_getElem hj,?_⟩
 have hm:(y,cap[i])∈cs.zip cap:=by
  have:(cs.zip cap)[i]? = some (y,cap[i]):=by
   rw [List.getElem?_zip_eq_some]
   exact ⟨e,List.getElem?_eq_getElem hj⟩
  exact List.mem_of_getElem? this
 exact a7 _ hm
theorem cz {σ:St} {H:Hp} {A B:Hp->Prop} (h:A H):xV σ H (λ ok H3=>if ok=true then A H3 else B H3):=by
 show (if (true:Bool)=true then A H else B H)
 rw [if_pos rfl]
 exact h
section
variable {X:Cx} {tg:Expr}
def vA (K:PySem.W.Frag) (tl:TE):TI:=λ σ H R=>uE K tl σ H R\/xL K tl σ H R
theorem qr {l:Expr} {tl:TE} (hl:PE X l tl):PI X tg l (vA X.K tl):=by
 intro pins s σ H R I h
 rcases h with h | h
 ·exact dP hl pins s σ H R I h
 ·exact gP hl pins s σ H R I h
end
def aJ:List String:=["NoneType","bool","int","str","list","tuple","dict"]
theorem sY {K:PySem.W.Frag}:∀T∈aJ,PySem.W.kitOne K (.type T) (.type "int")=some (T == "int" || T == "bool"):=by
 intro T h
 simp only [aJ,List.mem_cons,List.not_mem_nil,or_false] at h
 rcases h with rfl | rfl | rfl | rfl | rfl | rfl | rfl <;> kernel_rfl
theorem jL {K:PySem.W.Frag}:∀T∈aJ,PySem.W.kitOne K (.type T) (.type "bool")=some (T == "bool"):=by
 intro T h
 simp only [aJ,List.mem_cons,List.not_mem_nil,or_false] at h
 rcases h with rfl | rfl | rfl | rfl | rfl | rfl | rfl <;> kernel_rfl
theorem qt {K:PySem.W.Frag}:∀T∈aJ,PySem.W.kitOne K (.type T) (.type "list")=some (T == "list"):=by
 intro T h
 simp only [aJ,List.mem_cons,List.not_mem_nil,or_false] at h
 rcases h with rfl | rfl | rfl | rfl | rfl | rfl | rfl <;> kernel_rfl
theorem nw {K:PySem.W.Frag}:∀T∈aJ,PySem.W.kitOne K (.type T) (.type "tuple")=some (T == "tuple"):=by
 intro T h
 simp only [aJ,List.mem_cons,List.not_mem_nil,or_false] at h
 rcases h with rfl | rfl | rfl | rfl | rfl | rfl | rfl <;> kernel_rfl
theorem cW {K:PySem.W.Frag}:∀T∈aJ,PySem.W.kitOne K (.type T) (.type "str")=some (T == "str"):=by
 intro T h
 simp only [aJ,List.mem_cons,List.not_mem_nil,or_false] at h
 rcases h with rfl | rfl | rfl | rfl | rfl | rfl | rfl <;> kernel_rfl
theorem tj {K:PySem.W.Frag}:∀T∈aJ,PySem.W.kitAny K (.type T) [.type "list",.type "tuple"]=some (T == "list" || T == "tuple"):=by
 intro T h
 have h1:=qt (K:=K) T h
 have h2:=nw (K:=K) T h
 unfold PySem.W.kitAny
 rw [h1]
 cases e:(T == "list") with
 | true=>rfl
 | false =>
  show PySem.W.kitAny K (.type T) [.type "tuple"]=_
  unfold PySem.W.kitAny
  rw [h2]
  cases e2:(T == "tuple") <;> rfl
def Ty (K:PySem.W.Frag) (H:Hp) (x:V) (T:String):Prop:=T∈aJ/\TyOf K H x (.type T)
theorem Ty.int {K:PySem.W.Frag} {H:Hp} {i:Int}:Ty K H (.int i) "int" := ⟨by simp [aJ],.int i⟩
theorem Ty.bl {K:PySem.W.Frag} {H:Hp} {b:Bool}:Ty K H (.bl b) "bool" := ⟨by simp [aJ],.bl b⟩
theorem Ty.non {K:PySem.W.Frag} {H:Hp}:Ty K H .non "NoneType" := ⟨by simp [aJ],.non⟩
theorem Ty.str {K:PySem.W.Frag} {H:Hp} {x:Str}:Ty K H (.str x) "str" := ⟨by simp [aJ],.str x⟩
theorem Ty.lst {K:PySem.W.Frag} {H:Hp} {a:Addr} {xs:List V} (e:H a=some (.lst xs)):Ty K H (.ref a) "list" := ⟨by simp [aJ],.lst e⟩
theorem Ty.tup {K:PySem.W.Frag} {H:Hp} {a:Addr} {xs:List V} (e:H a=some (.tup xs)):Ty K H (.ref a) "tuple" := ⟨by simp [aJ],.tup e⟩
theorem Ty.dK {K:PySem.W.Frag} {H:Hp} {a:Addr} {xs:List (Key×V)} (e:H a=some (.dK xs)):Ty K H (.ref a) "dict" := ⟨by simp [aJ],.dK e⟩
def aV:V->Int->Bool
 | .int i,l=>decide (l<=i)
 | _,_=>false
def nz:V->Bool
 | .bl _=>true
 | _=>false
theorem vB {K:PySem.W.Frag} {H:Hp} {x:V} {T:String} (t:TyOf K H x (.type T)) (h:T∈aJ):(T == "int")=true->∃i,x=.int i:=by
 intro e
 have e':T = "int" := by simpa using e
 subst e'
 generalize hv:Value.type "int" = tv at t
 cases t with
 | int i=>exact ⟨i,Y⟩
 | _=>exact absurd hv (by simp)
theorem mh {K:PySem.W.Frag} {H:Hp} {x:V} {T:String} (t:TyOf K H x (.type T)):(T == "bool")=nz x:=by
 generalize hv:Value.type T=tv at t
 cases t with
 | bl b=>cases hv; rfl
 | non=>cases hv; rfl
 | int i=>cases hv; rfl
 | str i=>cases hv; rfl
 | flt i=>cases hv; rfl
 | lst i=>cases hv; rfl
 | frz i=>cases hv; rfl
 | tup i=>cases hv; rfl
 | dK i=>cases hv; rfl
 | dT i=>cases hv; rfl
 | ins=>cases hv
end L2
namespace Pc
open PySem L2
structure Pot (a b:Int):Prop where
 a0:0<=a
 b0:0<=b
 b1:b < 2147483629
def But (p:Addr) (H H':Hp):Prop:=∀b o,b≠p->H b=some o->H' b=some o
theorem But.trans {p:Addr} {H H1 H2:Hp} (a:But p H H1) (b:But p H1 H2):But p H H2:=λ c o n e=>b c o n (a c o n e)
theorem But.upd {p:Addr} {H:Hp} {o:HO}:But p H (upd H p o):=λ b u n e=>by rw [am n]; exact e
theorem But.new {p q:Addr} {H:Hp} {o:HO} (h:H q=none):But p H (L2.upd H q o):=λ b u n e=>by rw [am (au e h)]; exact e
structure Kd where
 w:Int
 h:Int
 wo:Int
 wa:Int
 tu:Bool
def kdV (k:Kd):List V:=[.int k.w,.int k.h,.int k.wo,.int k.wa,.bl k.tu]
structure Good (k:Kd):Prop where
 w:1<=k.w
 h:1<=k.h
 wo:0<=k.wo
 wa:0<=k.wa
 w':k.w < 10 ^ 60
 h':k.h < 10 ^ 60
 wo':k.wo < 10 ^ 60
 wa':k.wa < 10 ^ 60
def uO (H:Hp) (v:V) (k:Kd):Prop:=∃a,v=.ref a/\H a=some (.tup (kdV k))
def xX (H:Hp) (v:V) (k:Kd):Prop:=∃a,v=.ref a/\H a=some (.lst (kdV k))
def RowAt (H:Hp) (v:V) (k:Kd):Prop:=uO H v k\/xX H v k
abbrev Tups (H:Hp):List V->List Kd->Prop:=Paired (uO H)
theorem Tups.keep {H H':Hp} (k:∀b xs,H b=some (.tup xs)->H' b=some (.tup xs)):∀ {xs:List V} {ks:List Kd},Tups H xs ks->Tups H' xs ks:=λ r =>
 Paired.mapP r λ v kd ⟨a,e,h⟩=>⟨a,e,k a _ h⟩
structure ToldAt (H:Hp) (t l:Addr) (bl:Int) (xs:List V) (ks:List Kd):Prop where
 t:H t=some (.tup [.int bl,.ref l])
 l:H l=some (.lst xs)
 r:Tups H xs ks
 b0:0<=bl
 b1:bl < 10 ^ 60
 g:∀k∈ks,Good k
 n0:1<=xs.length
 n1:xs.length<=8
def ce (K:PySem.W.Frag):Sp:=λ vs H Q _=>∃ (x:V) (T:String) (l:Int),vs=[x,.int l]/\Ty K H x T/\Q (.bl (aV x l)) H
def gu (K:PySem.W.Frag):Sp:=λ vs H Q _=>∃ (x:V) (T:String),vs=[x]/\Ty K H x T/\Q (.bl (nz x)) H
def gZ (K:PySem.W.Frag):Sp:=λ vs H Q _=>∃ (x:V) (T:String), vs=[x]/\Ty K H x T/\∀H', Same H H'->Q (.bl (T == "list" || T == "tuple")) H'
def iD:List V->Bool
 | [w,h,wo,wa,tu]=>aV w 1 && aV h 1 && aV wo 0 && aV wa 0 && nz tu
 | _=>false
def fb (K:PySem.W.Frag):Sp:=λ vs H Q _=>∃ (x:V) (T:String),vs=[x]/\Ty K H x T /\ 
 ((T ≠ "list" /\ T ≠ "tuple" /\ ∀H', Same H H'->Q (.bl false) H')\/∃ (a:Addr) (xs:List V), x=.ref a/\(H a=some (.lst xs)\/H a=some (.tup xs))/\(∀y∈xs, ∃U, Ty K H y U)/\∀H', Same H H'->Q (.bl (iD xs)) H')
theorem hG {k:Kd} (g:Good k):iD (kdV k)=true:=by
 show (decide (1<=k.w) && decide (1<=k.h) && decide (0<=k.wo) && decide (0<=k.wa) && true)=true
 rw [decide_eq_true g.w,decide_eq_true g.h,decide_eq_true g.wo,decide_eq_true g.wa]
 rfl
theorem Ty.same {K:PySem.W.Frag} {H H':Hp} {x:V} {T:String} (s:Same H H') (t:Ty K H x T):Ty K H' x T:=by
 refine ⟨t.1,?_⟩
 have t2:=t.2
 generalize hv:Value.type T=tv at t2 ⊢
 cases t2 with
 | non=>exact .non
 | bl b=>exact .bl b
 | int b=>exact .int b
 | str b=>exact .str b
 | flt b=>exact .flt b
 | lst e=>exact .lst (s _ _ e)
 | frz e=>exact .frz (s _ _ e)
 | tup e=>exact .tup (s _ _ e)
 | dK e=>exact .dK (s _ _ e)
 | dT e=>exact .dT (s _ _ e)
 | ins=>cases hv
end Pc
set_option Elab.async false
set_option linter.all false
set_option maxRecDepth 100000
namespace L2
open PySem PySem.Spec PyProof.Rows
def qu (K:PySem.W.Frag):List V->Hp->VK->Prop:=λ xs H Q=>∃p ys,xs=[V.ref p]/\((SqL K H p ys/\∀l,H l=none->Q (.ref l) (upd H l (.tup ys)))\/(SqT K H p ys/\Q (.ref p) H))
theorem qv {K:PySem.W.Frag} {j:Nat} {a:Addr} {xs:List V} {g:TG} {tb:TS} {D:Ends} {σ:St} {H:Hp} (hσ:σ[j]? = some (some (.ref a))) (hs:H a=some (.lst xs)\/H a=some (.tup xs)) (Pv:Nat->St->Hp->Prop) (h0:Pv 0 σ H)
  (hk:∀i σ H',i<=xs.length->Pv i σ H'->∀o,H a=some o->H' a=some o)
  (ht:∀i x σ H,xs[i]? = some x->Pv i σ H->g x σ H λ σ2 H2=>tb { D with nx:=Pv (i + 1),ct:=Pv (i + 1),bk:=D.nx } σ2 H2) (hd:∀σ H,Pv xs.length σ H->D.nx σ H):xN (vA K (tVar j)) g tb D σ H:=by
 rcases hs with z | z
 ·exact .inl ⟨_,hσ,a,Y,⟨xs,SqL.of z⟩,dA (xs:=xs) Pv h0 (λ i σ H' hi p=>SqL.of (hk i σ H' hi p _ z)) ht hd⟩
 ·exact .inr ⟨_,hσ,a,Y,⟨xs,SqT.of z⟩,gp (xs:=xs) Pv h0 (λ i σ H' hi p=>SqT.of (hk i σ H' hi p _ z)) ht hd⟩
def Nx (n:Nat) (Pv:Nat->List V->Hp->Prop) (i:Nat) (ys:List V) (H:Hp):Prop:=∃m',m' < n - i/\m'=n - (i + 1)/\i + 1<=n/\Pv (i + 1) ys H
theorem Nx.of {n:Nat} {Pv:Nat->List V->Hp->Prop} {i:Nat} {ys:List V} {H:Hp} (h:i < n) (p:Pv (i + 1) ys H):Nx n Pv i ys H:=⟨n - (i + 1),by omega,Y,h,p⟩
theorem dF {K:PySem.W.Frag} {a:Addr} {xs:List V} {σ:St} {cap:List Nat} {k:Nat} {g:TG} {tt:TT} {te:TE} {Q:List V->Hp->Prop} {H:Hp} (hs:H a=some (.lst xs)\/H a=some (.tup xs)) (Pv:Nat->List V->Hp->Prop)
  (hk:∀i ys H',i<=xs.length->Pv i ys H'->∀o,H a=some o->H' a=some o) (h0:Pv 0 [] H)
  (ht:∀i x ys H',xs[i]? = some x->Pv i ys H'->ys.length < sizeLine/\g x (bJ σ cap k) H' λ σ2 H2=>leS (bJ σ cap k) σ2/\tt σ2 H2 λ ok H3=>if ok=true then te σ2 H3 (λ v H4=>Nx xs.length Pv i (ys ++ [v]) H4) else Nx xs.length Pv i ys H3)
  (hd:∀ys H',Pv xs.length ys H'->ys.length<=sizeLine/\Q ys H') :
  (H a=some (.lst xs)->∃W,(∃m,W 0 m [] H)/\gX σ cap k (Itl K a) g tt te Q W)/\(H a=some (.tup xs)->∃W,(∃m,W 0 m [] H)/\gX σ cap k (Itt K a) g tt te Q W):=by
 refine ⟨λ z=>⟨λ i m ys H'=>m=xs.length - i/\i<=xs.length/\Pv i ys H',⟨_,Y,Nat.zero_le _,h0⟩,?_⟩,λ z=>⟨λ i m ys H'=>m=xs.length - i/\i<=xs.length/\Pv i ys H',⟨_,Y,Nat.zero_le _,h0⟩,?_⟩⟩
 ·rintro i m ys H' ⟨rfl,hi,p⟩
  have z':=hk i ys H' hi p _ z
  by_cases hin:i < xs.length
  ·obtain ⟨e,hg⟩:=ht i xs[i] ys H' (by simp [hin]) p
   refine .inr ⟨⟨xs,xs[i],SqL.of z',by simp [hin]⟩,e,λ x H2 yl=>?_⟩
   obtain ⟨e1,e2⟩:=yl
   have e3:=e2 xs (SqL.of z')
   have e4:x=xs[i]:=by simpa [hin] using e3.symm
   subst e1 e4
   exact hg
  ·have e:i=xs.length:=by omega
   subst e
   obtain ⟨a1,a2⟩:=hd ys H' p
   exact .inl ⟨⟨xs,SqL.of z',Nat.le_refl _⟩,a1,a2⟩
 ·rintro i m ys H' ⟨rfl,hi,p⟩
  have z':=hk i ys H' hi p _ z
  by_cases hin:i < xs.length
  ·obtain ⟨e,hg⟩:=ht i xs[i] ys H' (by simp [hin]) p
   refine .inr ⟨⟨xs,xs[i],SqT.of z',by simp [hin]⟩,e,λ x H2 yl=>?_⟩
   obtain ⟨e1,e2⟩:=yl
   have e3:=e2 xs (SqT.of z')
   have e4:x=xs[i]:=by simpa [hin] using e3.symm
   subst e1 e4
   exact hg
  ·have e:i=xs.length:=by omega
   subst e
   obtain ⟨a1,a2⟩:=hd ys H' p
   exact .inl ⟨⟨xs,SqT.of z',Nat.le_refl _⟩,a1,a2⟩
theorem nA {K:PySem.W.Frag} {j:Nat} {a:Addr} {xs:List V} {σ:St} {cap:List Nat} {k:Nat} {g:TG} {tt:TT} {te:TE} {Q:VK} {H:Hp} (hσ:σ[j]? = some (some (.ref a))) (hs:H a=some (.lst xs)\/H a=some (.tup xs)) (Pv:Nat->List V->Hp->Prop)
  (hk:∀i ys H',i<=xs.length->Pv i ys H'->∀o,H a=some o->H' a=some o) (h0:Pv 0 [] H)
  (ht:∀i x ys H',xs[i]? = some x->Pv i ys H'->ys.length < sizeLine/\g x (bJ σ cap k) H' λ σ2 H2=>leS (bJ σ cap k) σ2/\tt σ2 H2 λ ok H3=>if ok=true then te σ2 H3 (λ v H4=>Nx xs.length Pv i (ys ++ [v]) H4) else Nx xs.length Pv i ys H3)
  (hd:∀ys H',Pv xs.length ys H'->ys.length<=sizeLine/\∀p,H' p=none->Q (.ref p) (upd H' p (.lst ys))):qp (vA K (tVar j)) cap k g tt te σ H Q:=by
 obtain ⟨c1,c2⟩:=dF (K:=K) (σ:=σ) (cap:=cap) (k:=k) (g:=g) (tt:=tt) (te:=te) hs Pv hk h0 ht hd
 rcases hs with z | z
 ·exact .inl ⟨_,hσ,a,Y,⟨xs,SqL.of z⟩,c1 z⟩
 ·exact .inr ⟨_,hσ,a,Y,⟨xs,SqT.of z⟩,c2 z⟩
end L2
namespace Pc
open PySem L2
def kW (b:Int) (r:Addr):List (Str×V):=cD "kind_rows" (.ref r) (cD "blade_width" (.int b) [])
theorem kbw:¬ (("blade_width" : Str) = "kind_rows"):=by decide +kernel
theorem kX (b:Int) (r:Addr):(kW b r).lookup ("blade_width" : Str)=some (.int b):=by
 unfold kW
 rw [bz,if_neg kbw,bz,if_pos rfl]
theorem dR (b:Int) (r:Addr):(kW b r).lookup ("kind_rows" : Str)=some (.ref r):=by
 unfold kW
 rw [bz,if_pos rfl]
theorem bV (b:Int) (r:Addr) {m:Str} (h1:¬ m = "kind_rows") (h2:¬ m = "blade_width"):(kW b r).lookup m=none:=by
 unfold kW
 rw [bz,if_neg h1,bz,if_neg h2]
 all_goals rfl
def ShopAt (C:Addr) (H:Hp) (x:Addr) (b:Int) (ks:List Kd):Prop:=∃dx r rs,H x=some (.ins C dx (kW b r))/\H r=some (.tup rs)/\Tups H rs ks
theorem ShopAt.keep {C:Addr} {H H':Hp} {x:Addr} {b:Int} {ks:List Kd} (s:ShopAt C H x b ks) (k1:∀b xs,H b=some (.tup xs)->H' b=some (.tup xs)) (k2:∀b C dx fs,H b=some (.ins C dx fs)->H' b=some (.ins C dx fs)):ShopAt C H' x b ks:=by
 obtain ⟨dx,r,rs,h1,h2,h3⟩:=s
 exact ⟨dx,r,rs,k2 _ _ _ _ h1,k1 _ _ h2,Tups.keep k1 h3⟩
def kY (C:Addr):Sp:=λ vs H Q _=>∃ (x dx ks:Addr) (b:Int) (rs:List V) (kds:List Kd),vs=[.ref x,.int b,.ref ks]/\H x=some (.ins C dx [])/\0<=b/\(H ks=some (.lst rs)\/H ks=some (.tup rs))/\Paired (RowAt H) rs kds/\(∀k∈kds,Good k)/\1<=rs.length/\rs.length<=8 /\
 ∀H':Hp,ShopAt C H' x b kds->(∀c o,c≠x->H c=some o->H' c=some o)->Q .non H'
def cX (C:Addr):Sp:=λ vs H Q _=>∃ (x:Addr) (b:Int) (ks:List Kd),vs=[.ref x]/\ShopAt C H x b ks/\Q (.int b) H
def gv (C:Addr):Sp:=λ vs H Q _=>∃ (x:Addr) (b:Int) (ks:List Kd),vs=[.ref x]/\ShopAt C H x b ks/\∀ (l:Addr) (rs:List V),H l=none->Tups H rs ks->Q (.ref l) (upd H l (.lst rs))
theorem mi {K:PySem.W.Frag} {H:Hp} {k:Kd}:∀y∈kdV k,∃U,Ty K H y U:=by
 intro y hy
 simp only [kdV,List.mem_cons,List.not_mem_nil,or_false] at hy
 rcases hy with rfl | rfl | rfl | rfl | rfl
 ·exact ⟨_,.int⟩
 ·exact ⟨_,.int⟩
 ·exact ⟨_,.int⟩
 ·exact ⟨_,.int⟩
 ·exact ⟨_,.bl⟩
theorem Paired.getR {α β:Type} {F:α->β->Prop}:∀ {l₁:List α} {l₂:List β} {i:Nat} {x:α},Paired F l₁ l₂->l₁[i]? = some x->∃y,l₂[i]? = some y/\F x y
 | _,_,_,_,.nil,e=>by simp at e
 | _,_,0,_,.cons h _,e=>by simp at e; subst e; exact ⟨_,Y,h⟩
 | _,_,i + 1,x,.cons _ t,e=>by
  obtain ⟨y,h1,h2⟩:=Paired.getR (i:=i) (x:=x) t (by simpa using e)
  exact ⟨y,by simpa using h1,h2⟩
theorem RowAt.same {H H':Hp} {v:V} {k:Kd} (s:Same H H') (r:RowAt H v k):RowAt H' v k:=by
 rcases r with ⟨a,e,h⟩ | ⟨a,e,h⟩
 ·exact .inl ⟨a,e,s _ _ h⟩
 ·exact .inr ⟨a,e,s _ _ h⟩
theorem nC {K:PySem.W.Frag} {H:Hp} {v:V} {k:Kd} {Q:VK} {E:XK} (r:RowAt H v k) (g:Good k) (q:∀H',Same H H'->Q (.bl true) H'):fb K [v] H Q E:=by
 rcases r with ⟨a,rfl,h⟩ | ⟨a,rfl,h⟩
 ·exact ⟨_,_,Y,.tup h,.inr ⟨a,_,Y,.inr h,mi,λ H' s=>by rw [hG g]; exact q H' s⟩⟩
 ·exact ⟨_,_,Y,.lst h,.inr ⟨a,_,Y,.inl h,mi,λ H' s=>by rw [hG g]; exact q H' s⟩⟩
structure ShopTxt (K:PySem.W.Frag) (C:Addr):Prop where
 cl:Cls K C
 nB:NoAttr K C "blade_width"
 nK:NoAttr K C "kind_rows"
end Pc
set_option Elab.async false
set_option linter.all false
set_option maxRecDepth 100000
namespace L2
open PySem PySem.Spec PyProof.Rows
def Mn (P:Program) (w:World) (K:PySem.W.Frag) (mg:Str->Option Value) (base:Heap) (C:Addr) (m:Str) (ps:List Str) (k:Nat) (sp:Sp):Prop :=
 ∃ (f:Addr) (fd:FuncData),FnOk P w K mg base CX0 k f fd ps sp/\Binds K fd ps []/\Meth K C m f
theorem fL {X:Cx} {k:Nat} {C:Addr} {ps:List Str} {sp:Sp} {m:Str} {o:Expr} {ta:TE} {apos pos:Pos} {pl:Sem Bool} (he:PE X o ta) (c:Cls X.K C) (D:Mn X.prog X.w X.K X.mg X.base C m ps k sp) (hr:Room k X.A)
  (ht:eval (.Call (.Attribute o m apos) [] [] pos) X.env=(do
   let ov<-eval o X.env
   standAt apos.atName
   let (f,first)<-holding [ov] (getMethod ov m pl)
   callWith pos f first (backTo pos (starEach [] X.env)) (backToKw pos (keywordEach [] X.env))):=by rfl):PE X (.Call (.Attribute o m apos) [] [] pos) (lX C m sp [] E0 ta sO):=by
 obtain ⟨f,fd,F,hb,hm⟩:=D
 exact qg he c hm F hr hb .nil me ht
def Kn (P:Program) (w:World) (K:PySem.W.Frag) (mg:Str->Option Value) (base:Heap) (x:Str) (C:Addr) (ps:List Str) (k:Nat) (sp:Sp):Prop :=
 ∃ (f:Addr) (fd:FuncData),Mk K C f/\FnOk P w K mg base CX0 k f fd ps sp/\Binds K fd ps []/\mg x=some (.ref C)
theorem xY {X:Cx} {k:Nat} {C:Addr} {ps:List Str} {sp:Sp} {x:Str} {p pos:Pos} {e:Expr} {es:List Expr} {t:TA} (D:Kn X.prog X.w X.K X.mg X.base x C ps k sp) (hr:Room (k + 1) X.A) (hg:Gl X x) (ha:PA X (e :: es) t)
  (hdb:(x == ("__debug__" : Str))=false:=by decide) (he:starEach (e :: es) X.env=(false,eval e X.env) :: starEach es X.env:=by rfl) (hpl:(backTo pos (starEach es X.env)).any (·.1)=false:=by rfl) :
  PE X (.Call (.Name x p) (e :: es) [] pos) (uN C sp [] E0 t):=by
 obtain ⟨f,fd,M,F,hb,hm⟩:=D
 exact sR M F hr hg hm hb .nil me ha hdb he hpl
end L2
namespace Pc
open PySem L2
theorem Same.but {p:Addr} {H H':Hp} (s:Same H H'):But p H H':=λ b o _ e=>s b o e
theorem Same.new {q:Addr} {H:Hp} {o:HO} (h:H q=none):Same H (upd H q o):=λ b u e=>by rw [am (au e h)]; exact e
end Pc
set_option Elab.async false
set_option linter.all false
set_option maxRecDepth 100000
namespace PySem
open Sem (wp)
open AutoSeq1 (wpAny_loadPart')
section
variable {prog:Program} {w:World} {A:Around} {E:Value->Shared->Prop} {s:Shared}
theorem gj {it t:Addr} {i:Nat} {items} {x:Value} {Q:Value->Shared->Prop} (hit:s.heap.IsTupleIter it t i)
  (ht:s.heap.IsTuple t items) (hx:items[i]? = some x)
  (hQ:∀h',h'.IsTupleIter it t (i + 1)->Heap.SameBut it s.heap h'->Q x { s with heap:=h' }) :
  wpAny (model prog w) A (Builtin.SmallTypes.nextOf (.ref it)) Q E s:=by
 obtain ⟨o,ho,hc,hd⟩:=id hit
 obtain ⟨ol,hol,_,nl,hdl⟩:=ht
 unfold Builtin.SmallTypes.nextOf
 refine wpAny_bind (wpAny_callSpecial?_slot (name:=Str.ofString "__next__") hit.typeIs F.slot_tuple_iterator_next
  (wpAny_call_entry F.slot_tuple_iterator_next hit.typeIs F.entry_tuple_iterator_next ?_ (F.args_tuple_iterator_next_1 _)))
 show wpAny _ _ (field (.ref it) 0 >>= _) _ _ s
 refine wpAny_bind (wpAny_field ho hd (x:=.ref t) rfl ?_)
 show wpAny _ _ (if (Value.ref t == Value.none)=true then _ else _) _ _ s
 rw [if_neg (show ¬ ((Value.ref t == Value.none)=true) from Bool.false_ne_true)]
 show wpAny _ _ (field (.ref it) 1 >>= _) _ _ s
 refine wpAny_bind (wpAny_field ho hd (x:=.int i 0) rfl ?_)
 show wpAny _ _ (seqItems? (.ref t) >>= _) _ _ s
 refine wpAny_bind (wpAny_seqItems hol hdl ?_)
 simp only [Int.toNat_natCast,hx]
 refine wpAny_bind (wpAny_setField ho hd (by simp) (wpAny_pure ⟨x,rfl,wpAny_pure (hQ _ ?_ (Heap.SameBut.update ..))⟩))
 exact ⟨_,Heap.get?_update_self _ ho (Obj.isFreed_of_fields (Obj.data_mapFields hd _)),(Obj.cls_mapFields ..).trans hc,by
  rw [Obj.data_mapFields hd]; simp [rawInt]⟩
theorem dG {it t:Addr} {i:Nat} {items} {Q:Value->Shared->Prop} (hh:A.handled=none)
  (hit:s.heap.IsTupleIter it t i) (ht:s.heap.IsTuple t items) (hx:items[i]? = none)
  (hE:∀h' e, Heap.ExtBut it s.heap h'->(∃o, h'.get? e=some o/\o.cls=.type "StopIteration")->E (.ref e) { s with heap:=h' }) :
  wpAny (model prog w) A (Builtin.SmallTypes.nextOf (.ref it)) Q E s:=by
 obtain ⟨o,ho,hc,hd⟩:=id hit
 obtain ⟨ol,hol,_,nl,hdl⟩:=ht
 unfold Builtin.SmallTypes.nextOf
 refine wpAny_bind (wpAny_callSpecial?_slot (name:=Str.ofString "__next__") hit.typeIs F.slot_tuple_iterator_next
  (wpAny_call_entry F.slot_tuple_iterator_next hit.typeIs F.entry_tuple_iterator_next ?_ (F.args_tuple_iterator_next_1 _)))
 show wpAny _ _ (field (.ref it) 0 >>= _) _ _ s
 refine wpAny_bind (wpAny_field ho hd (x:=.ref t) rfl ?_)
 show wpAny _ _ (if (Value.ref t == Value.none)=true then _ else _) _ _ s
 rw [if_neg (show ¬ ((Value.ref t == Value.none)=true) from Bool.false_ne_true)]
 show wpAny _ _ (field (.ref it) 1 >>= _) _ _ s
 refine wpAny_bind (wpAny_field ho hd (x:=.int i 0) rfl ?_)
 show wpAny _ _ (seqItems? (.ref t) >>= _) _ _ s
 refine wpAny_bind (wpAny_seqItems hol hdl ?_)
 simp only [Int.toNat_natCast,hx]
 refine wpAny_bind (wpAny_rule (wpAny_bind (wpAny_setField ho hd (by simp) ?_)))
 show wpAny _ _ (newExc (.type "StopIteration") [] >>= _) _ _ _
 refine wpAny_bind ?_
 simp only [newExc,newTuple]
 refine wpAny_bind (wpAny_newObj_type ?_ (by size_fits))
 refine wpAny_bind (m:=firstArgMember _ _) (wpAny_of_eq (a:=Value.none) (by first | rfl | (simp only [firstArgMember]; rfl)) ?_)
 refine wpAny_newObj_type ?_ (by size_fits)
 simp only [raiseNew]
 refine wpAny_bind (wpAny_handled ?_)
 first | rw [show A.in1.handled=none from hh] | rw [hh]
 refine wpAny_bind (wpAny_pure (wpAny_throw ?_))
 exact hE _ _ (((Heap.SameBut.update ..).extBut.push _).push _) ⟨_,Heap.get?_push_size _ rfl,rfl⟩
end
theorem qw {prog:Program} {w:World} {A:Around} (hh:A.handled=none) (it l:Addr) (hne:l≠it) (items:Array Value) :
  Draws prog w A it [it,l] items.size (λ i v=>items[i]? = some v) (λ i h=>h.IsTupleIter it l i/\h.IsTuple l items) where
 live:=λ _ _ st=>let ⟨o,ho,_⟩:=st.1; ⟨o,ho⟩
 frame:=λ _ _ _ st hk=>⟨st.1.at λ o e=>hk it (by simp) o e,let ⟨o,ho,r⟩:=st.2; ⟨o,hk l (by simp) o ho,r⟩⟩
 item:=λ i s Q E hi st hQ=>by
  refine gj st.1 st.2 (x:=items[i]) (by simp [hi]) λ h' hit' hs'=>?_
  exact hQ _ h' s.toks (by simp [hi]) ⟨hit',st.2.extBut hs'.extBut hne⟩ hs'
 done:=λ s Q E st hE=>dG hh st.1 st.2 (by simp) hE
theorem hI (l:Addr) (items:Array Value) (n:Nat) (dct:Option Addr) (sl:Array (Option Value)) :
  Meets (Builtin.«enumerate.__new__» ⟨[.type "enumerate",.ref l],[]⟩) (λ _ R s=>s.heap.get? l=some { cls:=.type "tuple",dict:=dct,data:=.seq items n,slots:=sl } /\
   R (.ok (.ret (.ref (s.heap.push { cls:=.type "tuple_iterator",data:=.fields #[.ref l,.int 0 0] }).objs.size)))
    { s with heap:=(s.heap.push { cls:=.type "tuple_iterator",data:=.fields #[.ref l,.int 0 0] }).push { cls:=.type "enumerate",data:=.fields #[.none,.bool false,.ref s.heap.objs.size,rawInt 0,.none,.none] } }) :=
 .of_wp λ prog w A R s h=>by
  obtain ⟨hp,g,d,tk,os⟩:=s; obtain ⟨hl,h⟩:=h
  have hsub:=sub_enumerate
  have hL:Heap.IsTuple (Shared.heap ⟨hp,g,d,tk,os⟩) l items:=⟨_,hl,Y,n,Y⟩
  wp_walk using wpAny_loadPart' hl
  refine wpAny_stack_any λ st=>wpAny_pure ?_
  split
  ·rename_i c _ _ _ _ _
   cases (c == Value.type "enumerate")
   ·wp_walk using wpAny_loadPart' hl,wpAny_pyIter_tuple hL
    exact ⟨_,Y,h⟩
   ·wp_walk using wpAny_loadPart' hl,wpAny_pyIter_tuple hL
    exact ⟨_,Y,h⟩
  ·wp_walk using wpAny_loadPart' hl,wpAny_pyIter_tuple hL
   exact ⟨_,Y,h⟩
section
variable {prog:Program} {w:World} {A:Around} {E:Value->Shared->Prop} {s:Shared}
theorem eL {l:Addr} {items:Array Value} {Q:Value->Shared->Prop} (hL:s.heap.IsTuple l items)
  (h:∀h',IsEnum h' (s.heap.objs.size + 1) s.heap.objs.size 0 .none->h'.IsTupleIter s.heap.objs.size l 0->h'.objs.size=s.heap.objs.size + 2 ->
   (∀b o,s.heap.get? b=some o->h'.get? b=some o)->Q (.ref (s.heap.objs.size + 1)) { s with heap:=h' }) :
  wpAny (model prog w) A (call (.type "enumerate") [.ref l]) Q E s:=by
 obtain ⟨⟨c,dct,dt,sl⟩,hl,hc,n,hd⟩:=hL
 replace hc:c=.type "tuple" := hc
 replace hd:dt=.seq items n:=hd
 subst hc hd
 refine callType_new F.called_enumerate (by decide) (F.typeCall_enumerate_1 _) (F.newCall_enumerate_1 _) (λ obj=>F.args_object_init_2 obj _) F.entry_enumerate_new
  (hI l items n dct sl) ⟨hl,?_⟩
 have hz:(s.heap.push { cls:=.type "tuple_iterator",data:=.fields #[.ref l,.int 0 0] }).objs.size=s.heap.objs.size + 1:=Heap.size_push ..
 show _/\_
 rw [hz]
 have he:IsEnum ((s.heap.push { cls:=.type "tuple_iterator",data:=.fields #[.ref l,.int 0 0] }).push
   { cls:=.type "enumerate",data:=.fields #[.none,.bool false,.ref s.heap.objs.size,rawInt 0,.none,.none] }) (s.heap.objs.size + 1) s.heap.objs.size 0 .none:=by
  have:=Heap.get?_push_size (s.heap.push { cls:=.type "tuple_iterator",data:=.fields #[.ref l,.int 0 0] })
   (o:={ cls:=.type "enumerate",data:=.fields #[.none,.bool false,.ref s.heap.objs.size,rawInt 0,.none,.none] }) rfl
  rw [hz] at this; exact this
 refine ⟨⟨_,he,Y⟩,h _ he ⟨_,Heap.get?_push_of_some _ (Heap.get?_push_size _ rfl),Y,Y⟩ (by rw [Heap.size_push,hz]) λ b o x=>Heap.get?_push_of_some _ (Heap.get?_push_of_some _ x)⟩
end
end PySem
set_option Elab.async false
set_option linter.all false
set_option maxRecDepth 100000
namespace L2
open PySem PySem.Spec PyProof.Rows
def Ite (f:List V->HO) (l:Addr):It :=
  ⟨λ i H=>∃xs x,H l=some (f xs)/\xs[i]? = some x,
   λ i H v H'=>∃p xs x,H p=none/\v=.ref p/\H'=upd H p (.tup [.int i,x])/\H l=some (f xs)/\xs[i]? = some x,
   λ i H=>∃xs,H l=some (f xs)/\xs.length<=i⟩
section
variable {X:Cx} {pins:List (Addr×Obj)} {σ:St} {H:Hp} {s:Shared}
theorem iE {f:List V->HO} {tn:Nat->Heap->Prop} {es:List Expr} {kk:Nat} {tp:Pos} {e it l:Addr} {i:Nat} {xs:List V} {x:V} {u:Value} {tk:Nat} {h':Heap} {E:Value->Shared->Prop} (hne:e≠it) (I:Inv X pins σ H s) (hf:∀b∈[e,it],eQ X pins H b) (hl:H l=some (f xs)) (hx:xs[i]? = some x)
  (ho:∀b∈[e, it], b < s.heap.objs.size) (r:RelV x u) (b1:IsEnumOut h' e it ((i:Int) + 1) u s.heap.objs.size) (b3:h'.get? s.heap.objs.size=some { cls:=.type "tuple", data:=.seq #[.int i tk, u] })
  (bk:∀b o,b≠e->b≠it->s.heap.get? b=some o->h'.get? b=some o) (hn:∀h'',IsEnum h'' e it ((i + 1:Nat):Int) u->Heap.SameBut e h' h''->tn (i + 1) h'') :
  wpAny (model X.prog X.w) X.A (letOwnedTupleGo (.Tuple es kk tp) (.ref e) (.ref s.heap.objs.size)) (λ _ s2=>∃x H',Inv X pins σ H' s2/\RelV x (.ref s.heap.objs.size)/\(Ite f l).yld i H x H'/\tn (i + 1) s2.heap/\∀b∈[e,it],H' b=none) E { s with heap:=h',toks:=tk + 1 }:=by
 refine wpAny_letOwnedTupleGo_enum b1 λ h'' c1 cs=>?_
 have es':e < s.heap.objs.size:=ho e (by simp)
 have k2:∀b o,b∉[e,it]->s.heap.get? b=some o->h''.get? b=some o:=λ b o hb q=>by
  simp only [List.mem_cons,List.not_mem_nil,or_false,not_or] at hb
  exact cs.extBut b o hb.1 (bk b o hb.1 hb.2 q)
 have I1:Inv X pins σ H { s with heap:=h'',toks:=tk + 1 }:=I.turnedN (t':=tk + 1) hf k2
 have hp:h''.get? s.heap.objs.size=some { cls:=.type "tuple", data:=.seq #[.int i tk, u] }:=cs.extBut _ _ (Nat.ne_of_gt es') b3
 have hn0:H s.heap.objs.size=none:=I.hok.fresh (Nat.le_refl _)
 have fpk:=I.fpOk (H':=H) (Nat.le_refl _) hn0
 have I2:Inv X pins σ (upd H s.heap.objs.size (.tup [.int i,x])) { s with heap:=h'',toks:=tk + 1 }:=I1.track fpk I.sz ⟨by show 2<=sizeLine; decide,[.int i tk,u],.cons ⟨tk,Y⟩ (.cons r .nil),_,hp,Y,_,Y⟩
 refine ⟨.ref s.heap.objs.size,_,I2,Y,⟨_,xs,x,hn0,Y,Y,hl,hx⟩,hn h'' c1 cs,λ b hb=>?_⟩
 rw [am (Nat.ne_of_lt (ho b hb))]
 exact (hf b hb).1
end
theorem kZ {P:Program} {w:World} {K:PySem.W.Frag} {es:List Expr} {kk:Nat} {tp:Pos} (l e it:Addr) (hne:e≠it) :
  Turn P w K (.Tuple es kk tp) (Ite .lst l) [e,it] e (λ i h=>(∃old,IsEnum h e it i old)/\h.IsListIter it l i) where
 mem:=by simp
 obj:=λ i h st b hb=>by
  obtain ⟨⟨old,a1⟩,⟨o2,a2,_,d2⟩⟩:=st
  simp only [List.mem_cons,List.not_mem_nil,or_false] at hb
  rcases hb with rfl | rfl
  ·exact ⟨_,a1,λ v q=>by cases q⟩
  ·exact ⟨_,a2,λ v q=>by rw [d2] at q; cases q⟩
 keep:=λ i h h' st k=>by
  obtain ⟨⟨old,a1⟩,a2⟩:=st
  exact ⟨⟨old,k e (by simp) _ a1⟩,a2.at λ o q=>k it (by simp) o q⟩
 item:=by
  intro X hP hw hK hc i pins s σ H E I hf st hg
  subst hP hw hK
  obtain ⟨⟨old,a1⟩,a2⟩:=st
  obtain ⟨xs,x,e1,ex⟩:=hg
  obtain ⟨its,rv,p1,_⟩:=I.list (SqL.of e1)
  obtain ⟨u,hu,r⟩:=rv.get ex
  have ho:∀b∈[e,it],b < s.heap.objs.size:=λ b hb=>by
   obtain ⟨o2,a2',_⟩:=a2
   simp only [List.mem_cons,List.not_mem_nil,or_false] at hb
   rcases hb with rfl | rfl
   ·exact Heap.lt_size a1
   ·exact Heap.lt_size a2'
  refine wpAny_pyNext_enum_item a1 a2 p1.isList (x:=u) (by simpa using hu) hne λ h' b1 b2 b3 b4 bk=>⟨_,Y,?_⟩
  exact iE (tn:=λ i h=>(∃old,IsEnum h e it i old)/\h.IsListIter it l i) hne I hf e1 ex ho r b1 b3 bk λ h'' c1 cs=>⟨⟨u,c1⟩,b2.extBut cs.extBut (Ne.symm hne)⟩
 done:=by
  intro X hP hw hK hc i pins s σ H E I hf st hg
  subst hP hw hK
  obtain ⟨⟨old,a1⟩,a2⟩:=st
  obtain ⟨xs,e1,ex⟩:=hg
  obtain ⟨its,rv,p1,_⟩:=I.list (SqL.of e1)
  have lv:=rv.length
  refine wpAny_pyNext_enum_end (I.ok.hd hc) a1 a2 p1.isList (by simp; omega) λ h' bk=>⟨Y,?_⟩
  exact I.turnedN (t':=s.toks) hf λ b o hb q=>by
   simp only [List.mem_cons,List.not_mem_nil,or_false,not_or] at hb
   exact bk b o hb.2 q
 self:=λ _ _ _ _ _ st h=>by obtain ⟨⟨old,a1⟩,_⟩:=st; exact wpAny_pyIter_enum a1 h
theorem lb {P:Program} {w:World} {K:PySem.W.Frag} {es:List Expr} {kk:Nat} {tp:Pos} (l e it:Addr) (hne:e≠it) :
  Turn P w K (.Tuple es kk tp) (Ite .tup l) [e,it] e (λ i h=>(∃old,IsEnum h e it i old)/\h.IsTupleIter it l i) where
 mem:=by simp
 obj:=λ i h st b hb=>by
  obtain ⟨⟨old,a1⟩,⟨o2,a2,_,d2⟩⟩:=st
  simp only [List.mem_cons,List.not_mem_nil,or_false] at hb
  rcases hb with rfl | rfl
  ·exact ⟨_,a1,λ v q=>by cases q⟩
  ·exact ⟨_,a2,λ v q=>by rw [d2] at q; cases q⟩
 keep:=λ i h h' st k=>by
  obtain ⟨⟨old,a1⟩,a2⟩:=st
  exact ⟨⟨old,k e (by simp) _ a1⟩,a2.at λ o q=>k it (by simp) o q⟩
 item:=by
  intro X hP hw hK hc i pins s σ H E I hf st hg
  subst hP hw hK
  obtain ⟨⟨old,a1⟩,a2⟩:=st
  obtain ⟨xs,x,e1,ex⟩:=hg
  obtain ⟨its,rv,p1,_⟩:=I.tuple (SqT.of e1)
  obtain ⟨u,hu,r⟩:=rv.get ex
  have lt:i < its.toArray.size:=by simp; exact (List.getElem?_eq_some_iff.mp hu).1
  have ho:∀b∈[e,it],b < s.heap.objs.size:=λ b hb=>by
   obtain ⟨o2,a2',_⟩:=a2
   simp only [List.mem_cons,List.not_mem_nil,or_false] at hb
   rcases hb with rfl | rfl
   ·exact Heap.lt_size a1
   ·exact Heap.lt_size a2'
  have nl:∀b∈[e,it],l≠b:=λ b hb q=>by rw [q,(hf b hb).1] at e1; cases e1
  have p1':s.heap.IsTuple l its.toArray:=p1
  have DD:Draws X.prog X.w X.A.in1 it [it,l] its.toArray.size (λ i v=>its.toArray[i]? = some v) (λ i h=>h.IsTupleIter it l i/\h.IsTuple l its.toArray):=qw (show X.A.in1.handled=none from I.ok.hd hc) it l (nl it (by simp)) its.toArray
  refine wpAny_pyNext_enum_itemD DD a1 ⟨a2,p1'⟩ lt hne (by simp only [List.mem_cons,List.not_mem_nil,or_false,not_or]; exact ⟨hne,Ne.symm (nl e (by simp))⟩) λ x' h' tk px b1 b2 b3 b4 bk=>⟨_,Y,?_⟩
  have hu':its.toArray[i]? = some u:=by simpa using hu
  have eu:u=x':=Option.some.inj (hu'.symm.trans px)
  subst eu
  exact iE (tn:=λ i h=>(∃old,IsEnum h e it i old)/\h.IsTupleIter it l i) hne I hf e1 ex ho r b1 b3 bk λ h'' c1 cs=>⟨⟨u,c1⟩,b2.1.extBut cs.extBut (Ne.symm hne)⟩
 done:=by
  intro X hP hw hK hc i pins s σ H E I hf st hg
  subst hP hw hK
  obtain ⟨⟨old,a1⟩,a2⟩:=st
  obtain ⟨xs,e1,ex⟩:=hg
  obtain ⟨its,rv,p1,_⟩:=I.tuple (SqT.of e1)
  have lv:=rv.length
  have p1':s.heap.IsTuple l its.toArray:=p1
  have hT:s.TypeIs (.ref e) "enumerate" := ⟨_,a1,Y⟩
  unfold pyNext
  refine wpAny_bind (wpAny_attempt (wpAny_callSpecial?_slot (name:=Str.ofString "__next__") hT F.slot_enumerate_next
   (wpAny_call_entry F.slot_enumerate_next hT F.entry_enumerate_next ?_ (F.args_enumerate_next_1 _))))
  show wpAny _ _ (field (.ref e) 2 >>= _) _ _ _
  refine wpAny_bind (wpAny_field a1 rfl (x:=.ref it) rfl ?_)
  refine wpAny_bind (dG (I.ok.hd hc) a2 p1' (by simp; omega) λ h' x he' hx'=>?_)
  obtain ⟨o,ho,hc⟩:=hx'
  refine wpAny_bind (wpAny_isInstance (T := "StopIteration") (b:=true) ⟨o,ho,hc⟩ isSubtype_stop ?_)
  refine wpAny_pure ⟨rfl,?_⟩
  exact I.turnedN (t':=s.toks) hf λ b o hb q=>by
   simp only [List.mem_cons,List.not_mem_nil,or_false,not_or] at hb
   exact he' b o hb.2 q
 self:=λ _ _ _ _ _ st h=>by obtain ⟨⟨old,a1⟩,_⟩:=st; exact wpAny_pyIter_enum a1 h
def xZ (ta:TA):TI:=λ σ H R=>ta σ H λ vs H1=>∃l xs,vs=[.ref l]/\((H1 l=some (.lst xs)/\R (Ite .lst l) H1)\/(H1 l=some (.tup xs)/\R (Ite .tup l) H1))
theorem tm {X:Cx} {a:Expr} {ta:TA} {p pos tp:Pos} {es:List Expr} {kk:Nat} (hg:Gl X "enumerate") (hm:X.mg "enumerate" = none) (ha:PA X [a] ta)
  (hs:starEach [a] X.env=[(false,eval a X.env)]:=by rfl) :
  PI X (.Tuple es kk tp) (.Call (.Name "enumerate" p) [a] [] pos) (xZ ta):=by
 intro pins s σ H R I h
 refine Call_ (eG I hg hm PyProof.Rows.boot_enumerate (PyProof.Rows.callWith_type1 (thn (ha pos pins s σ H _ I h) λ us s1 ⟨vs,H1,I1,r1,q1⟩=>?_) (by rw [hs]; rfl) (by rfl)))
 obtain ⟨l,xs,rfl,q⟩:=q1
 cases r1 with
 | cons r rr =>
  cases rr
  cases r
  rcases q with ⟨e1,q⟩ | ⟨e1,q⟩
  ·obtain ⟨its1,rv1,p1,_⟩:=I1.list (SqL.of e1)
   refine call_enumerate_list p1.isList λ h' z1 z2 sz keep=>?_
   have I2:Inv X pins σ H1 { s1 with heap:=h' }:=I1.kept (t':=s1.toks) keep
   refine wpAny_pyIter_enum z1 ⟨s1.heap.objs.size + 1,[s1.heap.objs.size + 1,s1.heap.objs.size],_,_,H1,rfl,I2,kZ l _ _ (Nat.succ_ne_self _),⟨⟨_,z1⟩,z2⟩,λ b hb=>?_,q⟩
   have hb':s1.heap.objs.size<=b:=by
    simp only [List.mem_cons,List.not_mem_nil,or_false] at hb
    rcases hb with rfl | rfl <;> omega
   exact I1.fpOk hb' (I1.hok.fresh hb')
  ·obtain ⟨its1,rv1,p1,_⟩:=I1.tuple (SqT.of e1)
   have p1':s1.heap.IsTuple l its1.toArray:=p1
   refine eL p1' λ h' z1 z2 sz keep=>?_
   have I2:Inv X pins σ H1 { s1 with heap:=h' }:=I1.kept (t':=s1.toks) keep
   refine wpAny_pyIter_enum z1 ⟨s1.heap.objs.size + 1,[s1.heap.objs.size + 1,s1.heap.objs.size],_,_,H1,rfl,I2,lb l _ _ (Nat.succ_ne_self _),⟨⟨_,z1⟩,z2⟩,λ b hb=>?_,q⟩
   have hb':s1.heap.objs.size<=b:=by
    simp only [List.mem_cons,List.not_mem_nil,or_false] at hb
    rcases hb with rfl | rfl <;> omega
   exact I1.fpOk hb' (I1.hok.fresh hb')
theorem qx {f:List V->HO} (hf:∀xs ys,f xs=f ys->xs=ys) {l:Addr} {xs:List V} {g:TG} {tb:TS} {D:Ends} {σ:St} {H:Hp} (Pv:Nat->St->Hp->Prop) (h0:Pv 0 σ H) (hk:∀i σ H',Pv i σ H'->H' l=some (f xs))
  (ht:∀i x p σ H,xs[i]? = some x->H p=none->Pv i σ H->g (.ref p) σ (upd H p (.tup [.int i,x])) λ σ2 H2=>tb { D with nx:=Pv (i + 1),ct:=Pv (i + 1),bk:=D.nx } σ2 H2) (hd:∀σ H,Pv xs.length σ H->D.nx σ H) :
  ∃W:Nat->Nat->St->Hp->Prop,(∃m,W 0 m σ H)/\∀i m σ H,W i m σ H ->
   ((Ite f l).stop i H/\D.nx σ H)\/((Ite f l).go i H/\∃N:St->Hp->Prop,(∀σ' H',N σ' H'->∃m',m' < m/\W (i + 1) m' σ' H')/\∀x H',(Ite f l).yld i H x H'->g x σ H' λ σ2 H2=>tb { D with nx:=N,ct:=N,bk:=D.nx } σ2 H2):=by
 refine ⟨λ i m σ H=>m=xs.length - i/\i<=xs.length/\Pv i σ H,⟨xs.length,by simp,Nat.zero_le _,h0⟩,?_⟩
 rintro i m σ H ⟨rfl,hi,p⟩
 have e1:=hk i σ H p
 by_cases hlt:i < xs.length
 ·refine .inr ⟨⟨xs,xs[i],e1,by simp [hlt]⟩,Pv (i + 1),λ σ' H' p'=>⟨xs.length - (i + 1),by omega,Y,hlt,p'⟩,λ v H' y=>?_⟩
  obtain ⟨q,xs',x,hq,rfl,rfl,e1',ex⟩:=y
  rw [e1] at e1'
  cases hf _ _ (Option.some.inj e1')
  exact ht i x q σ H ex hq p
 ·have e:i=xs.length:=by omega
  subst e
  exact .inl ⟨⟨xs,e1,Nat.le_refl _⟩,hd σ H p⟩
end L2
set_option Elab.async false
set_option linter.all false
set_option maxRecDepth 100000
namespace Pc
open PySem L2
def bi (k:Kd):Bool:=k.tu && !decide (k.w=k.h)
def lyT (i:Nat) (k:Kd):List (Nat×Bool):=(i,false) :: if bi k=true then [(i,true)] else []
def lyK:List Kd->Nat->List (Nat×Bool)
 | [],_=>[]
 | k :: r,i=>lyT i k ++ lyK r (i + 1)
theorem jM (k:Kd):∀ (ks:List Kd) (i:Nat),lyK (ks ++ [k]) i=lyK ks i ++ lyT (i + ks.length) k
 | [],i=>by simp [lyK]
 | c :: r,i=>by
  show lyT i c ++ lyK (r ++ [k]) (i + 1)=(lyT i c ++ lyK r (i + 1)) ++ _
  rw [jM k r (i + 1),List.append_assoc]
  congr 2
  simp only [List.length_cons]
  congr 1
  omega
theorem tw (i:Nat) (k:Kd):(lyT i k).length<=2:=by unfold lyT; split <;> simp
theorem jh:∀ (ks:List Kd) (i:Nat),(lyK ks i).length<=2 * ks.length
 | [],i=>by simp [lyK]
 | c :: r,i=>by
  have:=jh r (i + 1)
  have:=tw i c
  simp only [lyK,List.length_append,List.length_cons]
  omega
def hJ (K:PySem.W.Frag):Sp:=λ vs H Q _=>∃ (a:Addr) (k:Kd),vs=[.ref a]/\H a=some (.tup (kdV k))/\Q (.bl (bi k)) H
def ez (ks:List Kd) (x t:V):Bool:=match x,t with
 | .int i,.bl b=>decide (0<=i) && match ks[i.toNat]? with
  | some k=>!b || bi k
  | none=>false
 | _,_=>false
def dS (K:PySem.W.Frag) (C:Addr):Sp:=λ vs H Q _=>∃ (s:Addr) (b:Int) (ks:List Kd) (x t:V) (T U:String),vs=[.ref s,x,t]/\ShopAt C H s b ks/\Ty K H x T/\Ty K H t U/\Q (.bl (ez ks x t)) H
end Pc
set_option Elab.async false
set_option linter.all false
set_option maxRecDepth 100000
namespace L2
open PySem PySem.Spec PyProof.Rows
section
variable {X:Cx}
theorem mj {k:Nat} {C:Addr} {ps:List Str} {sp:Sp} {m:Str} {o:Expr} {e:Expr} {es:List Expr} {ta:TE} {t:TA} {apos pos:Pos} {pl:Sem Bool} (he:PE X o ta) (c:Cls X.K C) (D:Mn X.prog X.w X.K X.mg X.base C m ps k sp) (hr:Room k X.A) (ha:PA X (e :: es) t)
  (hst:starEach (e :: es) X.env=(false,eval e X.env) :: starEach es X.env:=by rfl) (hpl:(backTo pos (starEach es X.env)).any (·.1)=false:=by rfl)
  (ht:eval (.Call (.Attribute o m apos) (e :: es) [] pos) X.env=(do
   let ov<-eval o X.env
   standAt apos.atName
   let (f,first)<-holding [ov] (getMethod ov m pl)
   callWith pos f first (backTo pos (starEach (e :: es) X.env)) (backToKw pos (keywordEach [] X.env))):=by rfl):PE X (.Call (.Attribute o m apos) (e :: es) [] pos) (lX C m sp [] E0 ta t):=by
 obtain ⟨f,fd,F,hb,hm⟩:=D
 exact sQ he c hm F hr hb .nil me ha hst hpl ht
end
end L2
set_option Elab.async false
set_option linter.all false
set_option maxRecDepth 100000
namespace L2
open PySem PySem.Spec PyProof.Rows
theorem mm:∀ {ns:List Int} {its:List Value},Vals (ns.map V.int) its->IntsAre its ns
 | [],_,r=>by cases r; exact .nil
 | n :: ns,_,r=>by
  cases r with
  | cons r1 r2 =>
   obtain ⟨t,e⟩:=r1
   subst e
   exact .cons n t (mm r2)
section
variable {X:Cx}
theorem iF (hc:X.calm=true):bZ X (.builtin "sum") (λ xs H Q=>∃ (p:Addr) (ns:List Int),xs=[.ref p]/\SqL X.K H p (ns.map V.int)/\Q (.int ns.sum) H):=by
 intro pins s σ H xs us Q I r h
 obtain ⟨p,ns,rfl,hs,q⟩:=h
 obtain ⟨u,rfl,rfl⟩:=eD r
 obtain ⟨its,rv,pl,_⟩:=I.list hs
 have hi:=mm rv
 obtain ⟨xs,e⟩:=hi.allInts.items
 have pl':=pl.isList
 rw [e] at pl'
 refine sum_intListG (I.ok.hd hc) pl' λ h' tk t' hk=>?_
 have e2:preSum (numAt xs) xs.size=ns.sum:=by
  rw [preSum_eq,List.take_of_length_le (by simp),<- nums_intItems,<- e,show its.toArray.toList=its from rfl,hi.numsOf]
 rw [e2]
 exact ⟨.int ns.sum,H,I.kept hk,⟨_,Y⟩,q⟩
theorem jN:∀ {bs:List Bool} {its:List Value},Vals (bs.map V.bl) its->its=bs.map Value.bool
 | [],_,r=>by cases r; rfl
 | b :: bs,_,r=>by
  cases r with
  | cons r1 r2 =>
   have e:_=Value.bool b:=r1
   subst e
   rw [List.map_cons,jN r2]
theorem nD (bs:List Bool):(List.range bs.length).all (λ i=>bs.getD i false)=bs.all id:=by
 rw [Bool.eq_iff_iff,List.all_eq_true,List.all_eq_true]
 constructor
 ·intro h b hb
  obtain ⟨i,hi,e⟩:=List.getElem_of_mem hb
  have:=h i (List.mem_range.mpr hi)
  rw [List.getD_eq_getElem?_getD,List.getElem?_eq_getElem hi] at this
  simpa [e] using this
 ·intro h i hi
  have hi':=List.mem_range.mp hi
  rw [List.getD_eq_getElem?_getD,List.getElem?_eq_getElem hi']
  exact h _ (List.getElem_mem hi')
theorem nE (hc:X.calm=true):bZ X (.builtin "all") (λ xs H Q=>∃ (p:Addr) (bs:List Bool),xs=[.ref p]/\SqL X.K H p (bs.map V.bl)/\Q (.bl (bs.all id)) H):=by
 intro pins s σ H xs us Q I r h
 obtain ⟨p,bs,rfl,hs,q⟩:=h
 obtain ⟨u,rfl,rfl⟩:=eD r
 obtain ⟨its,rv,pl,_⟩:=I.list hs
 have e:=jN rv
 subst e
 have hlt:p < s.heap.objs.size:=by obtain ⟨_,_,e,_⟩:=pl; exact Heap.lt_size e
 refine call_all_walk (wpAny_pyIter_list pl.isList ?_)
 refine ⟨_,_,_,_,_,_,λ i=>bs.getD i false,Y,Walks.list (A:=X.A.in1) (I.ok.hd hc) _ p (Nat.ne_of_lt hlt) _,⟨⟨_,Heap.get?_push_size _ rfl,Y,Y⟩,pl.isList.push _⟩,λ i v s' Q' E' hP hQ'=>?_,λ h' tk hk=>?_⟩
 ·have hP':(bs.map Value.bool)[i]? = some v:=by simpa using hP
  rw [List.getElem?_map] at hP'
  cases hb:bs[i]? with
  | none=>rw [hb] at hP'; cases hP'
  | some b =>
   rw [hb] at hP'
   cases hP'
   have hQ2:Q' (bs.getD i false) s':=hQ'
   rw [List.getD_eq_getElem?_getD,hb] at hQ2
   exact wpAny_truthy_bool hQ2
 ·have e2:((bs.map Value.bool).toArray.size)=bs.length:=by simp
  rw [e2,nD]
  refine ⟨.bl (bs.all id),H,I.kept (h':=h') (t':=tk) (λ b o e=>hk b o ?_ (Heap.get?_push_of_some _ e)),Y,q⟩
  intro z
  rw [List.mem_singleton.mp z] at e
  exact absurd (Heap.lt_size e) (Nat.lt_irrefl _)
end
end L2
set_option Elab.async false
set_option linter.all false
set_option maxRecDepth 100000
namespace L2
open PySem PySem.Spec PyProof.Rows
section
variable {X:Cx}
def CMulB (i j:Int):Prop:=i.natAbs < 2 ^ 4096/\j.natAbs < 2 ^ 4096
theorem mn {k:Int} (h:k.natAbs < 2 ^ 4096):Builtin.Int.intBits k<=2 ^ 20:=by
 have e:(2:Nat) ^ 20=1048576:=by decide
 unfold Builtin.Int.intBits
 split
 ·exact Nat.zero_le _
 ·have:k.natAbs.log2 < 4096:=by
   rcases Nat.eq_zero_or_pos k.natAbs with h0 | hp
   ·rw [h0]; decide
   ·exact (Nat.log2_lt (Nat.ne_of_gt hp)).mpr h
  omega
theorem CMulB.ok {i j:Int} (h:CMulB i j):IntMulOk i j:=.of_bits (mn h.1) (mn h.2)
theorem gw:OpR X (binaryOp .Mult) (rI CMulB λ i j=>.int (i * j)):=opI λ _ _ _ _ _ _ _ hc q=>mul_int q hc.ok
end
theorem aE {α:Type} {xs:List α} {i:Int} {v:α} (h0:0<=i) (h:xs[i.toNat]? = some v):atI xs i=some v:=by
 have e:i=((i.toNat:Nat):Int):=by omega
 have z:atI xs ((i.toNat:Nat):Int)=some v:=sT h
 rw [<- e] at z; exact z
end L2
namespace Pc
open PySem L2
def lg (K:PySem.W.Frag):Sp:=λ vs H Q _=>∃ (a:Addr) (ns:List Int) (n:Int),vs=[.ref a,.int n]/\SqL K H a (ns.map V.int)/\0<=n/\∀c:Int,Q (.int c) H
end Pc
set_option Elab.async false
set_option linter.all false
set_option maxRecDepth 100000
namespace L2
open PySem PySem.Spec PyProof.Rows
theorem qy {X:Cx} (K:PySem.W.Frag) {x y:Str} {px py pos:Pos} {k:Nat} (hK:X.K=K) (hc:X.calm=true) (hN:X.N.Nodup) (h0:X.N[0]? = some x) (h1:X.N[1]? = some y) (l0:X.env.scope.names.lookup x=some .local) (l1:X.env.scope.names.lookup y=some .local) :
  PG X (.Tuple [.Name x px,.Name y py] k pos) (gTup K 2 (gCons (gM 0) (gCons (gM 1) vg))) :=
 hK ▸ aT hc (ah (ai hN h0 (.inl l0) (.inr l0)) (ah (ai hN h1 (.inl l1) (.inr l1)) aG))
theorem qz {l1 l2:Addr} {xs ys:List V} {σ:St} {cap:List Nat} {k:Nat} {g:TG} {tt:TT} {te:TE} {Q:List V->Hp->Prop} {H:Hp} (Pv:Nat->List V->Hp->Prop) (hn:xs.length=ys.length)
  (hk:∀i zs H',Pv i zs H'->H' l1=some (.lst xs)/\H' l2=some (.lst ys)) (h0:Pv 0 [] H)
  (hz:∀i zs H',i < xs.length->Pv i zs H'->zs.length < sizeLine)
  (ht:∀i x y p zs H',xs[i]? = some x->ys[i]? = some y->H' p=none->Pv i zs H'->g (.ref p) (bJ σ cap k) (upd H' p (.tup [x,y])) λ σ2 H2=>leS (bJ σ cap k) σ2/\tt σ2 H2 λ ok H3=>if ok=true then te σ2 H3 (λ v H4=>Nx xs.length Pv i (zs ++ [v]) H4) else Nx xs.length Pv i zs H3)
  (hd:∀zs H',Pv xs.length zs H'->zs.length<=sizeLine/\Q zs H'):∃W,(∃m,W 0 m [] H)/\gX σ cap k (Itz l1 l2) g tt te Q W:=by
 refine ⟨λ i m zs H'=>m=xs.length - i/\i<=xs.length/\Pv i zs H',⟨_,Y,Nat.zero_le _,h0⟩,?_⟩
 rintro i m zs H' ⟨rfl,hi,p⟩
 obtain ⟨e1,e2⟩:=hk i zs H' p
 by_cases hlt:i < xs.length
 ·have hx:xs[i]? = some xs[i]:=by simp [hlt]
  have hy:ys[i]? = some (ys[i]'(by omega)):=by simp [show i < ys.length by omega]
  refine .inr ⟨⟨xs,ys,_,_,e1,e2,hx,hy⟩,hz i zs H' hlt p,λ v H2 yl=>?_⟩
  ·obtain ⟨q,xs',ys',x,y,hq,rfl,rfl,e1',e2',ex,ey⟩:=yl
   rw [e1] at e1'; cases e1'
   rw [e2] at e2'; cases e2'
   exact ht i x y q zs H' ex ey hq p
 ·have e:i=xs.length:=by omega
  subst e
  obtain ⟨a1,a2⟩:=hd zs H' p
  exact .inl ⟨⟨xs,ys,e1,e2,.inl (Nat.le_refl _)⟩,a1,a2⟩
end L2
set_option Elab.async false
set_option linter.all false
set_option maxRecDepth 100000
namespace PyProof.Rows
set_option autoImplicit false
open PySem
structure SBaseT (κ0:SortKind) (a₀:Array Keyed) (st:SortSt):Prop where
 perm:(arrOf st).Perm a₀
 kind:kindOf st=κ0
 failed:failedOf st=none
 pend:pendingOf st=#[]
theorem SBaseT.size {κ0:SortKind} {a₀:Array Keyed} {st:SortSt} (h:SBaseT κ0 a₀ st):(arrOf st).size=a₀.size:=h.perm.size_eq
theorem SBaseT.setArr {κ0:SortKind} {a₀:Array Keyed} {st:SortSt} (h:SBaseT κ0 a₀ st) {xs:Array Keyed} (hp:xs.Perm (arrOf st)):SBaseT κ0 a₀ (setArr st xs) :=
 ⟨hp.trans h.perm,h.kind,h.failed,h.pend⟩
theorem SBaseT.atK {κ:KeyKind} {κ0:SortKind} {a₀:Array Keyed} {st:SortSt} (h:SBaseT κ0 a₀ st) (h0:KeysOf κ a₀) {i:Nat} (hi:i < a₀.size) :
  ∃x p a,(arrOf st)[i]? = some (x,p)/\κ.keyOf x=some a/\KK κ (arrOf st) i=a:=by
 have hi':i < (arrOf st).size:=by rw [h.size]; exact hi
 have hm:(arrOf st)[i]∈a₀.toList:=(Array.perm_iff_toList_perm.mp h.perm).mem_iff.mp (by simp)
 obtain ⟨a,ha⟩:=h0 _ hm
 have e:(arrOf st)[i]? = some (arrOf st)[i]:=getElem?_pos _ i hi'
 refine ⟨(arrOf st)[i].1,(arrOf st)[i].2,a,by rw [e],ha,?_⟩
 unfold KK; rw [e]; simp [ha]
def bK (prog:Program) (w:World) (A:Around) (s:Shared) (κ0:SortKind) (κ:KeyKind):Prop :=
 ∀ (E:Value->Shared->Prop) (x y:Value) (a b:κ.α) (Q:Bool->Shared->Prop),κ.keyOf x=some a->κ.keyOf y=some b->Q (κ.blt a b) s->wpAny (model prog w) A (keyLt' κ0 x y) Q E s
section
variable {prog:Program} {w:World} {A:Around} {E:Value->Shared->Prop} {s:Shared} {a₀:Array Keyed} {κ:KeyKind} {κ0:SortKind}
theorem lh (hO:bK prog w A s κ0 κ) {st:SortSt} {i j:Nat} {x y:Value} {a b:κ.α} {p q:Value} {Q:Option Bool->SortSt->Prop} (hk:kindOf st=κ0)
  (hi:(arrOf st)[i]? = some (x,p)) (hj:(arrOf st)[j]? = some (y,q)) (ha:κ.keyOf x=some a) (hb:κ.keyOf y=some b) (h:Q (some (κ.blt a b)) st) :
  wpS (model prog w) A E s (ltAt' i j) Q st:=by
 rw [ltAt'_eq]
 refine wpS_bind (wpS_get ?_)
 show wpS _ _ _ _ (do let x<-elem' (arrOf st) i; let y<-elem' (arrOf st) j; lt' x y) Q st
 rw [elem'_eq,elem'_eq,hi,hj]
 refine wpS_bind (wpS_pure (wpS_bind (wpS_pure ?_)))
 rw [lt'_eq]
 refine wpS_bind (wpS_get ?_)
 rw [hk]
 refine wpS_bind (wpS_lift (wpAny_attempt (hO _ x y a b _ ha hb ⟨rfl,?_⟩)))
 exact wpS_pure h
theorem cO {st:SortSt} {i j:Nat} {Q:Option Bool->SortSt->Prop} (hO:bK prog w A s κ0 κ) (hB:SBaseT κ0 a₀ st) (h0:KeysOf κ a₀) (hi:i < a₀.size) (hj:j < a₀.size)
  (h:Q (some (κ.blt (KK κ (arrOf st) i) (KK κ (arrOf st) j))) st):wpS (model prog w) A E s (ltAt' i j) Q st:=by
 obtain ⟨x,p,a,e1,ha,ka⟩:=hB.atK h0 hi
 obtain ⟨y,q,b,e2,hb,kb⟩:=hB.atK h0 hj
 rw [ka,kb] at h
 exact lh hO hB.kind e1 e2 ha hb h
theorem fM {st:SortSt} {n ok:Nat} {Q:Bool->SortSt->Prop} (hO:bK prog w A s κ0 κ) (h0:KeysOf κ a₀) (hn:n<=a₀.size) (hok:ok<=n) (hB:SBaseT κ0 a₀ st) (hs:SortedToK κ (arrOf st) ok)
  (h:∀st',SBaseT κ0 a₀ st'->SortedToK κ (arrOf st') n->Q true st'):wpS (model prog w) A E s (binarySort' 0 n ok) Q st:=by
 rw [binarySort'_eq]
 simp only [Nat.zero_add]
 refine wpS_bind (wpS_mono (wpS_forRange (I:=λ k c st'=>c=(none,())/\SBaseT κ0 a₀ st'/\SortedToK κ (arrOf st') (min k n))
  (Q:=λ c st'=>c=(none,())/\SBaseT κ0 a₀ st'/\SortedToK κ (arrOf st') n) ?step ?fin ?init) ?post)
 case post =>
  rintro c st' ⟨rfl,hB',hs'⟩
  exact wpS_pure (h st' hB' hs')
 case init =>
  refine ⟨Y,hB,λ i j hij hj=>?_⟩
  by_cases h1:ok=0
  ·have:i=j:=by omega
   subst this; exact KeyOrd.kle_refl _
  ·exact hs i j hij (by omega)
 case fin =>
  rintro c st' ⟨hc,hB',hs'⟩
  refine ⟨hc,hB',?_⟩
  rwa [show min (max (max ok 1) n) n=n by omega] at hs'
 case step =>
  rintro k c st' hak hkn ⟨rfl,hB',hs'⟩
  rw [show min k n=k by omega] at hs'
  have hk:k < a₀.size:=by omega
  refine wpS_bind (wpS_mono (wpS_forRange (I:=λ x c st''=>st''=st'/\∃l r,c=(none,l,r)/\l<=r/\r<=k/\r - l<=k - x /\
    (∀i,i < l->κ.kle (KK κ (arrOf st') i) (KK κ (arrOf st') k))/\(∀i,r<=i->i < k->κ.klt (KK κ (arrOf st') k) (KK κ (arrOf st') i)))
   (Q:=λ c st''=>st''=st'/\∃l r,c=(none,l,r)/\l<=k /\
    (∀i,i < l->κ.kle (KK κ (arrOf st') i) (KK κ (arrOf st') k))/\(∀i,l<=i->i < k->κ.klt (KK κ (arrOf st') k) (KK κ (arrOf st') i))) ?istep ?ifin ?iinit) ?ipost)
  case iinit=>exact ⟨Y,0,k,Y,by omega,by omega,by omega,λ i hi=>by omega,λ i h1 h2=>by omega⟩
  case ifin =>
   rintro c st'' ⟨rfl,l,r,rfl,hlr,hrk,hm,hlo,hhi⟩
   have:l=r:=by omega
   subst this
   exact ⟨Y,l,l,Y,hrk,hlo,hhi⟩
  case istep =>
   rintro x c st'' _ hxk ⟨rfl,l,r,rfl,hlr,hrk,hm,hlo,hhi⟩
   dsimp only
   by_cases hge:l≥r
   ·rw [if_pos hge]
    have:l=r:=by omega
    subst this
    exact wpS_pure ⟨rfl,l,l,rfl,hrk,hlo,hhi⟩
   ·rw [if_neg hge]
    refine wpS_bind (cO hO hB' h0 hk (by omega) ?_)
    cases hless:κ.blt (KK κ (arrOf st'') k) (KK κ (arrOf st'') ((l + r) / 2))
    case true =>
     simp only [if_true]
     refine wpS_pure ⟨rfl,l,(l + r) / 2,rfl,by omega,by omega,by omega,hlo,λ i h1 h2=>?_⟩
     exact KeyOrd.klt_of_klt_of_kle hless (hs' _ _ h1 h2)
    case false =>
     simp only [Bool.false_eq_true,if_false]
     refine wpS_pure ⟨rfl,(l + r) / 2 + 1,r,rfl,by omega,by omega,by omega,λ i h1=>?_,hhi⟩
     exact KeyOrd.kle_trans (hs' i ((l + r) / 2) (by omega) (by omega)) (show κ.kle _ _ from hless)
  case ipost =>
   rintro c st'' ⟨rfl,l,r,rfl,hlk,hlo,hhi⟩
   show wpS _ _ _ _ (do moveDown' k l; pure (ForInStep.yield (none,()))) _ _
   rw [moveDown'_eq]
   refine wpS_bind (wpS_modify (wpS_pure ⟨rfl,hB'.setArr (bubble_perm _ _ _),?_⟩))
   rw [show min (k + 1) n=k + 1 by omega]
   have hks:k < (arrOf st'').size:=by rw [hB'.size]; exact hk
   intro i j hij hj
   show κ.kle (KK κ (bubble (arrOf st'') k (k - l)) i) (KK κ (bubble (arrOf st'') k (k - l)) j)
   rw [KK_bubble hks (by omega),KK_bubble hks (by omega),show k - (k - l)=l by omega]
   repeat' split
   all_goals first
    | (exfalso; omega)
    | exact KeyOrd.kle_refl _
    | exact hlo _ (by omega)
    | exact KeyOrd.kle_of_klt (hhi _ (by omega) (by omega))
    | exact hs' _ _ (by omega) (by omega)
theorem eE {st:SortSt} {a nrem:Nat} {Q:AscSt->SortSt->Prop} (hO:bK prog w A s κ0 κ) (h0:KeysOf κ a₀) (hn:nrem<=a₀.size) (ha:1<=a) (han:a<=nrem) (hB:SBaseT κ0 a₀ st)
  (hs:SortedToK κ (arrOf st) a)
  (h:∀n,a<=n->n<=nrem->SortedToK κ (arrOf st) n->(n=nrem\/κ.klt (KK κ (arrOf st) n) (KK κ (arrOf st) (n - 1)))->Q (none,n) st) :
  wpS (model prog w) A E s (ascLoop a nrem) Q st:=by
 unfold ascLoop
 refine wpS_forRange (I:=λ x c st'=>st'=st/\c=(none,x)/\SortedToK κ (arrOf st) x) ?step ?fin ⟨rfl,rfl,hs⟩
 case fin =>
  rintro c st' ⟨rfl,rfl,hs'⟩
  rw [show max a nrem=nrem by omega] at hs' ⊢
  exact h nrem han (Nat.le_refl _) hs' (.inl rfl)
 case step =>
  rintro x c st' hax hxn ⟨rfl,rfl,hs'⟩
  dsimp only
  refine wpS_bind (cO hO hB h0 (by omega) (by omega) ?_)
  cases hless:κ.blt (KK κ (arrOf st') x) (KK κ (arrOf st') (x - 1))
  case true =>
   simp only [if_true]
   exact wpS_pure (h x hax (by omega) hs' (.inr hless))
  case false =>
   simp only [Bool.false_eq_true,if_false]
   refine wpS_pure ⟨rfl,rfl,λ i j hij hj=>?_⟩
   by_cases hjx:j < x
   ·exact hs' i j hij hjx
   ·have hj':j=x:=by omega
    subst hj'
    by_cases hi':i=j
    ·subst hi'; exact KeyOrd.kle_refl _
    ·exact KeyOrd.kle_trans (hs' i (j - 1) (by omega) (by omega)) hless
theorem gc {st:SortSt} {n nrem:Nat} {Q:Option Nat->SortSt->Prop} (hO:bK prog w A s κ0 κ) (h0:KeysOf κ a₀) (hn:nrem<=a₀.size) (h1:1<=n) (hnn:n<=nrem) (hB:SBaseT κ0 a₀ st)
  (hs:NonIncK κ (arrOf st) n) (h:∀m st',SBaseT κ0 a₀ st'->1<=m->m<=nrem->SortedToK κ (arrOf st') m->Q (some m) st') :
  wpS (model prog w) A E s (tail3 n nrem) Q st:=by
 unfold tail3
 have hsz:n<=(arrOf st).size:=by rw [hB.size]; omega
 refine wpS_bind (wpS_reverse ?_)
 have hB':SBaseT κ0 a₀ (setArr st (mirror (arrOf st) 0 n ((n - 0) / 2))):=hB.setArr (mirror_perm _ _ _ _)
 refine wpS_bind (eE hO h0 hn h1 hnn hB' ?_ λ m hm1 hm2 hsm _=>wpS_pure (h m _ hB' (by omega) hm2 hsm))
 intro i j hij hj
 show κ.kle (KK κ (mirror (arrOf st) 0 n ((n - 0) / 2)) i) (KK κ (mirror (arrOf st) 0 n ((n - 0) / 2)) j)
 rw [KK_mirror hsz,KK_mirror hsz,if_pos (by omega),if_pos (by omega)]
 exact hs _ _ (by omega) (by omega)
theorem hU {st:SortSt} {n nrem:Nat} {Q:DescSt->SortSt->Prop} (hO:bK prog w A s κ0 κ) (h0:KeysOf κ a₀) (hn:nrem<=a₀.size) (h1:1<=n) (hnn:n<=nrem) (hB:SBaseT κ0 a₀ st)
  (hs:NonIncK κ (arrOf st) n)
  (h:∀m neq st',SBaseT κ0 a₀ st'->n<=m->m<=nrem->NonIncK κ (arrOf st') m->neq + 1<=m->(∀i,m - (neq + 1)<=i->i < m->KK κ (arrOf st') i=KK κ (arrOf st') (m - 1))->Q (none,m,neq) st') :
  wpS (model prog w) A E s (descLoop n nrem) Q st:=by
 unfold descLoop
 refine wpS_forRange (I:=λ x c st'=>∃neq,c=(none,x,neq)/\SBaseT κ0 a₀ st'/\NonIncK κ (arrOf st') x/\neq + 1<=x /\
   (∀i,x - (neq + 1)<=i->i < x->KK κ (arrOf st') i=KK κ (arrOf st') (x - 1))) ?step ?fin ⟨0,rfl,hB,hs,by omega,λ i h1 h2=>by congr 1; omega⟩
 case fin =>
  rintro c st' ⟨neq,rfl,hB',hs',hq,he⟩
  rw [show max n nrem=nrem by omega] at hs' hq he ⊢
  exact h nrem neq st' hB' hnn (Nat.le_refl _) hs' hq he
 case step =>
  rintro x c st' hax hxn ⟨neq,rfl,hB',hs',hq,he⟩
  dsimp only
  have hsz:x<=(arrOf st').size:=by rw [hB'.size]; omega
  refine wpS_bind (cO hO hB' h0 (by omega) (by omega) ?_)
  cases hless:κ.blt (KK κ (arrOf st') x) (KK κ (arrOf st') (x - 1))
  case true =>
   simp only [if_true]
   have step1:∀xs:Array Keyed,(∀k,KK κ xs k=KK κ (arrOf st') k)->NonIncK κ xs (x + 1):=by
    intro xs hk i j hij hj
    rw [hk,hk]
    by_cases hjx:j < x
    ·exact hs' i j hij hjx
    ·have hj':j=x:=by omega
     subst hj'
     by_cases hi':i=j
     ·subst hi'; exact KeyOrd.kle_refl _
     ·exact KeyOrd.kle_trans (KeyOrd.kle_of_klt hless) (hs' i (j - 1) (by omega) (by omega))
   by_cases hneq:neq > 0
   ·rw [if_pos hneq]
    refine wpS_bind (wpS_reverse (wpS_pure ⟨0,rfl,hB'.setArr (mirror_perm _ _ _ _),step1 _ (KK_mirror_equal hsz he),by omega,λ i h1 h2=>by congr 1; omega⟩))
   ·rw [if_neg hneq]
    exact wpS_pure ⟨0,rfl,hB',step1 _ (λ _=>rfl),by omega,λ i h1 h2=>by congr 1; omega⟩
  case false =>
   simp only [Bool.false_eq_true,if_false]
   refine wpS_bind (cO hO hB' h0 (by omega) (by omega) ?_)
   cases hlarger:κ.blt (KK κ (arrOf st') (x - 1)) (KK κ (arrOf st') x)
   case true =>
    simp only [if_true]
    exact wpS_pure (h x neq st' hB' hax (by omega) hs' hq he)
   case false =>
    simp only [Bool.false_eq_true,if_false]
    have heqx:KK κ (arrOf st') x=KK κ (arrOf st') (x - 1):=KeyOrd.kle_antisymm hlarger hless
    refine wpS_pure ⟨neq + 1,rfl,hB',λ i j hij hj=>?_,by omega,λ i h1 h2=>?_⟩
    ·by_cases hjx:j < x
     ·exact hs' i j hij hjx
     ·have hj':j=x:=by omega
      subst hj'
      by_cases hi':i=j
      ·subst hi'; exact KeyOrd.kle_refl _
      ·rw [heqx]; exact hs' i (j - 1) (by omega) (by omega)
    ·rw [show x + 1 - 1=x by omega]
     by_cases hix:i=x
     ·subst hix; rfl
     ·rw [heqx]; exact he i (by omega) (by omega)
theorem dH {st:SortSt} {n nrem:Nat} {Q:Option Nat->SortSt->Prop} (hO:bK prog w A s κ0 κ) (h0:KeysOf κ a₀) (hn:nrem<=a₀.size) (hnn:n + 1<=nrem) (hB:SBaseT κ0 a₀ st)
  (hs:NonIncK κ (arrOf st) (n + 1)) (h:∀m st',SBaseT κ0 a₀ st'->1<=m->m<=nrem->SortedToK κ (arrOf st') m->Q (some m) st') :
  wpS (model prog w) A E s (descPart n nrem) Q st:=by
 unfold descPart
 refine wpS_bind (wpS_lift (wpAny_rule ⟨rfl,?_⟩))
 refine wpS_bind (hU hO h0 hn (by omega) hnn hB hs λ m neq st' hB' hm1 hm2 hs' hq he=>?_)
 dsimp only
 have hsz:m<=(arrOf st').size:=by rw [hB'.size]; omega
 by_cases hneq:neq > 0
 ·rw [if_pos hneq]
  refine wpS_bind (wpS_reverse (gc hO h0 hn (by omega) hm2 (hB'.setArr (mirror_perm _ _ _ _)) ?_ h))
  intro i j hij hj
  show κ.kle (KK κ (mirror (arrOf st') _ _ _) j) (KK κ (mirror (arrOf st') _ _ _) i)
  rw [KK_mirror_equal hsz he,KK_mirror_equal hsz he]
  exact hs' i j hij hj
 ·rw [if_neg hneq]
  exact gc hO h0 hn (by omega) hm2 hB' hs' h
theorem hV {st:SortSt} {nrem:Nat} {Q:Option Nat->SortSt->Prop} (hO:bK prog w A s κ0 κ) (h0:KeysOf κ a₀) (hn:nrem<=a₀.size) (h1:1<=nrem) (hB:SBaseT κ0 a₀ st)
  (h:∀m st',SBaseT κ0 a₀ st'->1<=m->m<=nrem->SortedToK κ (arrOf st') m->Q (some m) st') :
  wpS (model prog w) A E s (countRun' 0 nrem) Q st:=by
 rw [countRun0_eq]
 refine wpS_bind (eE hO h0 hn (Nat.le_refl 1) h1 hB (λ i j hij hj=>by have:i=j:=(by omega); subst this; exact KeyOrd.kle_refl _) λ n hn1 hn2 hsn hor=>?_)
 dsimp only
 by_cases hnn:n=nrem
 ·rw [if_pos (by simpa using hnn)]
  exact wpS_pure (h n st hB hn1 hn2 hsn)
 ·rw [if_neg (by simpa using hnn)]
  have hlt:κ.klt (KK κ (arrOf st) n) (KK κ (arrOf st) (n - 1)):=hor.resolve_left hnn
  by_cases hgt:n > 1
  ·rw [if_pos hgt]
   refine wpS_bind (cO hO hB h0 (by omega) (by omega) ?_)
   cases hrose:κ.blt (KK κ (arrOf st) 0) (KK κ (arrOf st) (n - 1))
   case true =>
    simp only [if_true]
    exact wpS_pure (h n st hB hn1 hn2 hsn)
   case false =>
    simp only [Bool.false_eq_true,if_false]
    have hsz:n<=(arrOf st).size:=by rw [hB.size]; omega
    have hall:∀k,0<=k->k < n->KK κ (arrOf st) k=KK κ (arrOf st) (n - 1):=by
     intro k _ hk
     have a1:=hsn 0 k (by omega) hk
     have a2:=hsn k (n - 1) (by omega) (by omega)
     exact KeyOrd.kle_antisymm a2 (KeyOrd.kle_trans hrose a1)
    refine wpS_bind (wpS_reverse (dH hO h0 hn (by omega) (hB.setArr (mirror_perm _ _ _ _)) ?_ h))
    intro i j hij hj
    show κ.kle (KK κ (mirror (arrOf st) _ _ _) j) (KK κ (mirror (arrOf st) _ _ _) i)
    rw [KK_mirror_equal hsz hall,KK_mirror_equal hsz hall]
    by_cases hjn:j < n
    ·rw [hall i (by omega) (by omega),hall j (by omega) hjn]; exact KeyOrd.kle_refl _
    ·have hj':j=n:=by omega
     subst hj'
     by_cases hi':i=j
     ·subst hi'; exact KeyOrd.kle_refl _
     ·rw [hall i (by omega) (by omega)]; exact KeyOrd.kle_of_klt hlt
  ·rw [if_neg hgt]
   have hn1':n=1:=by omega
   subst hn1'
   refine dH hO h0 hn (by omega) hB ?_ h
   intro i j hij hj
   by_cases hi':i=j
   ·subst hi'; exact KeyOrd.kle_refl _
   ·have hi0:i=0:=by omega
    have hj1:j=1:=by omega
    subst hi0; subst hj1
    exact KeyOrd.kle_of_klt hlt
theorem SBaseT.doneK {st:SortSt} (hB:SBaseT κ0 a₀ st) (hs:SortedToK κ (arrOf st) a₀.size):SDoneK κ a₀ (setPending st ((pendingOf st).push (0,a₀.size,0))) :=
 ⟨hB.perm,hB.failed,by show (pendingOf st).push _=_; rw [hB.pend]; rfl,hs⟩
theorem hW {st:SortSt} {Q:Unit->SortSt->Prop} (hO:bK prog w A s κ0 κ) (h0:KeysOf κ a₀) (hB:SBaseT κ0 a₀ st) (h2:2<=a₀.size) (h64:a₀.size < 64)
  (h:∀st',(arrOf st').Perm a₀->failedOf st'=none->SortedToK κ (arrOf st') a₀.size->Q () st'):wpS (model prog w) A E s sortRuns' Q st:=by
 rw [sortRuns'_eq]
 refine wpS_bind (wpS_get ?_)
 dsimp only
 have hmr:minRun' a₀.size a₀.size 0=a₀.size:=by
  obtain ⟨f,hf⟩:∃f,a₀.size=f + 1:=⟨a₀.size - 1,by omega⟩
  have:minRun' (f + 1) a₀.size 0=a₀.size:=by rw [minRun'_succ,if_pos h64]; rfl
  rwa [<- hf] at this
 simp only [hB.size,hmr]
 refine wpS_bind (wpS_mono (wpS_forRange
  (I:=λ x c st'=>(x=0/\c=(none,0)/\SBaseT κ0 a₀ st')\/(1<=x/\c=(none,a₀.size)/\SDoneK κ a₀ st'))
  (Q:=λ c st'=>c=(none,a₀.size)/\SDoneK κ a₀ st') ?step ?fin (.inl ⟨Y,Y,hB⟩)) ?post)
 case fin =>
  rintro c st' (⟨hx,_,_⟩ | ⟨_,hc,hD⟩)
  ·omega
  ·exact ⟨hc,hD⟩
 case step =>
  rintro x c st' _ hx (⟨rfl,rfl,hB'⟩ | ⟨hx1,rfl,hD⟩)
  ·dsimp only
   rw [if_neg (by omega)]
   simp only [Nat.sub_zero,Nat.min_self,Nat.zero_add]
   refine wpS_bind (hV hO h0 (Nat.le_refl _) (by omega) hB' λ m st2 hB2 hm1 hm2 hs2=>?_)
   dsimp only
   by_cases hlt:m < a₀.size
   ·rw [if_pos hlt]
    refine wpS_bind (wpS_lift (wpAny_rule ⟨rfl,?_⟩))
    refine wpS_bind (fM hO h0 (Nat.le_refl _) hm2 hB2 hs2 λ st3 hB3 hs3=>?_)
    simp only [Bool.not_true,Bool.false_eq_true,if_false]
    refine wpS_bind (wpS_get ?_)
    have hb:(pendingOf st3).back? = none:=by rw [hB3.pend]; rfl
    rw [hb]
    dsimp only
    exact wpS_bind (wpS_modify (wpS_pure (.inr ⟨by omega,Y,hB3.doneK hs3⟩)))
   ·rw [if_neg hlt]
    have hm:m=a₀.size:=by omega
    subst hm
    refine wpS_bind (wpS_get ?_)
    have hb:(pendingOf st2).back? = none:=by rw [hB2.pend]; rfl
    rw [hb]
    dsimp only
    exact wpS_bind (wpS_modify (wpS_pure (.inr ⟨by omega,Y,hB2.doneK hs2⟩)))
  ·dsimp only
   rw [if_pos (Nat.le_refl _)]
   exact wpS_pure ⟨rfl,hD⟩
 case post =>
  rintro c st' ⟨rfl,hD⟩
  dsimp only
  refine wpS_bind (wpS_mono (wpS_forRange (I:=λ _ c st''=>st''=st'/\c=(none,())) (Q:=λ c st''=>st''=st'/\c=(none,())) ?_ (λ _ _ hh=>hh) ⟨rfl,rfl⟩) ?_)
  ·rintro x c st'' _ _ ⟨rfl,rfl⟩
   refine wpS_bind (wpS_get ?_)
   rw [if_pos (by rw [hD.2.2.1]; exact Nat.le_refl 1)]
   exact wpS_pure ⟨rfl,rfl⟩
  ·rintro c st'' ⟨rfl,rfl⟩
   exact wpS_pure (h _ hD.1 hD.2.1 hD.2.2.2)
end
section
variable {prog:Program} {w:World} {A:Around} {E:Value->Shared->Prop} {s:Shared}
theorem dm {κ:KeyKind} {κ0:SortKind} {a:Addr} {vs:List Value} {n:Nat} {P:Fin->Shared->Prop} (ho:s.heap.get? a=some (seqObj "list" vs.toArray n))
  (h0:KeysOf κ (pairsOf vs)) (hkk:∀s':Shared,(∀b o,b≠a->s.heap.get? b=some o->s'.heap.get? b=some o)->bK prog w A s' κ0 κ/\∀v₁ v₂ rest,vs=v₁ :: v₂ :: rest->∀ (Q:SortKind->Shared->Prop),Q κ0 s'->wpAny (model prog w) A (keyKind' (v₁ :: v₂ :: rest).toArray) Q E s') (h64:vs.length < 64)
  (h:∀st':SortSt,(arrOf st').Perm (pairsOf vs)->SortedToK κ (arrOf st') (pairsOf vs).size->P (.done (.ret .none)) { s with heap:=sortedHeap s.heap a vs ((arrOf st').map (·.2)) }) :
  wpAny (model prog w) A (Builtin.«list.sort» ⟨[.ref a],[]⟩) P E s:=by
 rw [list_sort_plain]
 have ha:a < s.heap.objs.size:=Heap.lt_size ho
 refine wpAny_bind (listItems_at ho rfl ?_)
 refine wpAny_bind (listUpdate_at ho rfl ?_)
 obtain ⟨e1,ho1⟩:∃e1,(s.heap.update a (Obj.mapSeq λ _=>#[])).get? a=some (seqObj "list" #[] e1):=⟨_,get?_update_seq ho (λ _=>#[])⟩
 refine wpAny_bind (seqEpoch_at ho1 rfl ?_)
 refine wpAny_bind (wpAny_newTuple ?_)
 refine wpAny_bind (wpAny_newList ?_)
 refine wpAny_holding ?_
 have ho6:(((s.heap.update a (Obj.mapSeq λ _=>#[])).push (seqObj "tuple" vs.toArray 0)).push (seqObj "list" #[] 0)).get? a=some (seqObj "list" #[] e1):=by
  rw [Heap.get?_push_ne _ _ _ (by rw [size_push',Heap.size_update]; exact Nat.ne_of_lt (Nat.lt_succ_of_lt ha)),Heap.get?_push_ne _ _ _ (by rw [Heap.size_update]; exact Nat.ne_of_lt ha)]
  exact ho1
 show wpAny (model prog w) A _ P E { s with heap:=((s.heap.update a (Obj.mapSeq λ _=>#[])).push (seqObj "tuple" vs.toArray 0)).push (seqObj "list" #[] 0) }
 dsimp only
 have hsz:vs.toArray.size=vs.length:=by simp
 have fin:=h
 by_cases h2:vs.toArray.size < 2
 ·rw [if_pos h2,if_pos h2]
  refine wpAny_bind (wpAny_pure ?_)
  rw [StateT.run_pure]
  refine wpAny_bind (wpAny_pure ?_)
  dsimp only
  refine wpAny_bind (seqEpoch_at ho6 rfl ?_)
  refine wpAny_bind (listUpdate_at ho6 rfl ?_ (hsz2:=by rw [Array.size_map]; show (pairsOf vs).size<=_; rw [pairsOf_size,sizeLine_eq]; omega))
  simp only [bne_self_eq_false,Bool.false_eq_true,if_false]
  refine wpAny_pure (fin (SortSt.mk' general' (vs.toArray.zip vs.toArray) #[] 7 none) (Array.Perm.refl _) ?_)
  intro i j hij hj
  have:i=j:=by rw [pairsOf_size] at hj; omega
  subst this; exact KeyOrd.kle_refl _
 ·rw [if_neg h2,if_neg h2]
  obtain ⟨v₁,v₂,rest,rfl⟩:∃v₁ v₂ rest,vs=v₁ :: v₂ :: rest:=by
   match vs,hsz,h2 with
   | [],_,h2=>simp at h2
   | [_],_,h2=>simp at h2
   | v₁ :: v₂ :: rest,_,_=>exact ⟨v₁,v₂,rest,Y⟩
  have kp:∀b o,b≠a->s.heap.get? b=some o->(((s.heap.update a (Obj.mapSeq λ _=>#[])).push (seqObj "tuple" (v₁ :: v₂ :: rest).toArray 0)).push (seqObj "list" #[] 0)).get? b=some o:=λ b o nb e =>
   Heap.get?_push_of_some _ (Heap.get?_push_of_some _ (by rw [Heap.get?_update_ne _ _ _ _ nb]; exact e))
  obtain ⟨hO,hK⟩:=hkk { s with heap:=((s.heap.update a (Obj.mapSeq λ _=>#[])).push (seqObj "tuple" (v₁ :: v₂ :: rest).toArray 0)).push (seqObj "list" #[] 0) } kp
  refine wpAny_bind (hK _ _ _ rfl _ ?_)
  refine wpAny_bind (wpAny_mono (hW (κ:=κ) (κ0:=κ0) hO (a₀:=pairsOf (v₁ :: v₂ :: rest)) (st:=SortSt.mk' κ0 ((v₁ :: v₂ :: rest).toArray.zip (v₁ :: v₂ :: rest).toArray) #[] 7 none)
   (Q:=λ _ st'=>(arrOf st').Perm (pairsOf (v₁ :: v₂ :: rest))/\failedOf st'=none/\SortedToK κ (arrOf st') (pairsOf (v₁ :: v₂ :: rest)).size)
   h0 ⟨Array.Perm.refl _,rfl,rfl,rfl⟩ (by rw [pairsOf_size]; simp) (by rw [pairsOf_size]; exact h64) λ st' a1 a2 a3=>⟨a1,a2,a3⟩) ?_ λ _ _ e=>e)
  rintro ⟨⟨⟩,st'⟩ s' ⟨rfl,hp,hf,hs⟩
  dsimp only
  refine wpAny_bind (seqEpoch_at ho6 rfl ?_)
  refine wpAny_bind (listUpdate_at ho6 rfl ?_ (hsz2:=by refine Nat.le_trans (Nat.le_of_eq ((Array.size_map ..).trans (hp.size_eq.trans (pairsOf_size _)))) ?_; rw [sizeLine_eq]; omega))
  rw [hf]
  simp only [bne_self_eq_false,Bool.false_eq_true,if_false]
  exact wpAny_pure (fin st' hp hs)
theorem tD {κ:KeyKind} {κ0:SortKind} {l:Addr} {vs:List Value} {Q:Value->Shared->Prop} (hl:s.heap.IsList l vs.toArray) (h0:KeysOf κ (pairsOf vs)) (hkk:∀ (A':Around) (s':Shared),(∀b o,s.heap.get? b=some o->s'.heap.get? b=some o)->bK prog w A' s' κ0 κ/\∀v₁ v₂ rest,vs=v₁ :: v₂ :: rest->∀ (Q:SortKind->Shared->Prop) (E':Value->Shared->Prop),Q κ0 s'->wpAny (model prog w) A' (keyKind' (v₁ :: v₂ :: rest).toArray) Q E' s') (h64:vs.length < 64)
  (h:∀st':SortSt,(arrOf st').Perm (pairsOf vs)->SortedToK κ (arrOf st') (pairsOf vs).size->Q (.ref (s.heap.objs.size + 1)) { s with heap:=sortedAll s.heap vs ((arrOf st').map (·.2)) }) :
  wpAny (model prog w) A (call (.builtin "sorted") [.ref l]) Q E s:=by
 refine Calls.call_function_entry kind_sorted plain_sorted entry_sorted (args_sorted1 _) ?_
 unfold Builtin.«sorted»
 refine wpAny_bind (m:=checkCount "sorted" 1 1 _) (wpAny_pure ?_)
 refine wpAny_bind (collect_list hl ?_)
 refine wpAny_bind (wpAny_newList ?_)
 have hsz:((s.heap.push (seqObj "list" #[] 0)).update s.heap.objs.size (Obj.mapSeq (· ++ vs.toArray))).objs.size=s.heap.objs.size + 1:=by
  rw [Heap.size_update,size_push']
 have hoL:(((s.heap.push (seqObj "list" #[] 0)).update s.heap.objs.size (Obj.mapSeq (· ++ vs.toArray))).push (seqObj "list" vs.toArray 0)).get? (s.heap.objs.size + 1)=some (seqObj "list" vs.toArray 0):=by
  rw [<- hsz]; exact Heap.get?_push_size _ rfl
 show wpAny _ _ _ _ _ { s with heap:=((s.heap.push (seqObj "list" #[] 0)).update s.heap.objs.size (Obj.mapSeq (· ++ vs.toArray))).push (seqObj "list" vs.toArray 0) }
 rw [hsz]
 refine wpAny_bind (wpAny_holding (wpAny_call_entry slot_list_sort ⟨_,hoL,rfl⟩ entry_list_sort (dm hoL h0 (λ s' k=>by obtain ⟨a1,a2⟩:=hkk _ s' (λ b o e=>k b o (Nat.ne_of_lt (Nat.lt_succ_of_lt (Heap.lt_size e))) (Heap.get?_push_of_some _ (by rw [Heap.get?_update_ne _ _ _ _ (Nat.ne_of_lt (Heap.lt_size e))]; exact Heap.get?_push_of_some _ e))); exact ⟨a1,λ v1 v2 r e Q q=>a2 v1 v2 r e Q _ q⟩) h64 λ st' a1 a2=>⟨_,Y,?_⟩) (args_list_sort _)))
 exact wpAny_pure ⟨_,rfl,h st' a1 a2⟩
end
end PyProof.Rows
set_option Elab.async false
set_option linter.all false
set_option maxRecDepth 100000
namespace L2
open PySem PySem.Spec PyProof.Rows
def bL:List Bool->List Value->Option (List Int)
 | [],[]=>some []
 | false :: r,.int i _ :: vs=>(bL r vs).map (i :: ·)
 | true :: r,.bool b :: vs=>(bL r vs).map ((if b=true then 1 else 0) :: ·)
 | _,_=>none
def jO:List Bool->List V->Option (List Int)
 | [],[]=>some []
 | false :: r,.int i :: vs=>(jO r vs).map (i :: ·)
 | true :: r,.bl b :: vs=>(jO r vs).map ((if b=true then 1 else 0) :: ·)
 | _,_=>none
theorem li:∀ {sh:List Bool} {vs:List V} {us:List Value} {k:List Int},Vals vs us->jO sh vs=some k->bL sh us=some k
 | [],[],_,_,r,h=>by cases r; exact h
 | [],_ :: _,_,_,_,h=>by cases h
 | false :: r,v :: vs,us,k,rv,h=>by
  cases rv with
  | cons r1 r2 =>
   cases v with
   | int i =>
    obtain ⟨t,rfl⟩:=r1
    have h:(jO r vs).map (i :: ·)=some k:=h
    show (bL r _).map (i :: ·)=some k
    cases e:jO r vs with
    | none=>rw [e] at h; cases h
    | some k'=>rw [e] at h; rw [li r2 e]; exact h
   | _=>cases h
 | true :: r,v :: vs,us,k,rv,h=>by
  cases rv with
  | cons r1 r2 =>
   cases v with
   | bl b =>
    cases (show _=Value.bool b from r1)
    have h:(jO r vs).map ((if b=true then 1 else 0) :: ·)=some k:=h
    show (bL r _).map ((if b=true then 1 else 0) :: ·)=some k
    cases e:jO r vs with
    | none=>rw [e] at h; cases h
    | some k'=>rw [e] at h; rw [li r2 e]; exact h
   | _=>cases h
 | false :: _,[],_,_,_,h=>by cases h
 | true :: _,[],_,_,_,h=>by cases h
def aN:List Int->List Int->Bool
 | [],[]=>false
 | [],_ :: _=>true
 | _ :: _,[]=>false
 | a :: r,b :: t=>if a=b then aN r t else decide (a < b)
theorem bR:∀a,aN a a=false
 | []=>rfl
 | a :: r=>by rw [aN,if_pos rfl]; exact bR r
theorem dU:∀a b c,aN a b=true->aN b c=true->aN a c=true
 | [],[],_,h,_=>by cases h
 | [],_ :: _,[],_,h=>by cases h
 | [],_ :: _,_ :: _,_,_=>rfl
 | _ :: _,[],_,h,_=>by cases h
 | _ :: _,_ :: _,[],_,h=>by cases h
 | a :: r,b :: t,c :: u,h1,h2=>by
  rw [aN] at h1 h2 ⊢
  by_cases e1:a=b
  ·rw [if_pos e1] at h1
   by_cases e2:b=c
   ·rw [if_pos e2] at h2
    rw [if_pos (e1.trans e2)]
    exact dU r t u h1 h2
   ·rw [if_neg e2] at h2
    rw [if_neg (by rw [e1]; exact e2),e1]; exact h2
  ·rw [if_neg e1] at h1
   have h1:=of_decide_eq_true h1
   by_cases e2:b=c
   ·rw [if_neg (by omega)]; exact decide_eq_true (by omega)
   ·rw [if_neg e2] at h2
    have h2:=of_decide_eq_true h2
    rw [if_neg (by omega)]; exact decide_eq_true (by omega)
theorem gx:∀a b c,aN a c=true->aN a b=true\/aN b c=true
 | [],[],_,h=>.inr h
 | [],_ :: _,_,_=>.inl rfl
 | _ :: _,_,[],h=>by cases h
 | _ :: _,[],_ :: _,_=>.inr rfl
 | a :: r,b :: t,c :: u,h=>by
  rw [aN] at h
  rw [aN,aN]
  by_cases e1:a=b
  ·rw [if_pos e1]
   by_cases e2:b=c
   ·rw [if_pos (e1.trans e2)] at h
    rw [if_pos e2]
    exact gx r t u h
   ·rw [if_neg (by rw [e1]; exact e2)] at h
    rw [if_neg e2]
    exact .inr (by rw [<- e1]; exact h)
  ·rw [if_neg e1]
   by_cases e3:a=c
   ·rw [if_neg (by omega)]
    by_cases z:a < b
    ·exact .inl (decide_eq_true z)
    ·exact .inr (decide_eq_true (by omega))
   ·rw [if_neg e3] at h
    have h:=of_decide_eq_true h
    by_cases z:a < b
    ·exact .inl (decide_eq_true z)
    ·rw [if_neg (by omega)]; exact .inr (decide_eq_true (by omega))
theorem dW:∀a b,aN a b=false->aN b a=false->a=b
 | [],[],_,_=>rfl
 | [],_ :: _,h,_=>by cases h
 | _ :: _,[],_,h=>by cases h
 | a :: r,b :: t,h1,h2=>by
  rw [aN] at h1 h2
  by_cases e:a=b
  ·rw [if_pos e] at h1
   rw [if_pos e.symm] at h2
   rw [e,dW r t h1 h2]
  ·rw [if_neg e] at h1
   rw [if_neg (Ne.symm e)] at h2
   have:=of_decide_eq_false h1
   have:=of_decide_eq_false h2
   exact absurd (show a=b by omega) e
def nF (h:Heap) (sh:List Bool):KeyKind where
 α:=List Int
 blt:=aN
 irrefl:=bR
 trans:=dU
 negTrans:=gx
 total:=dW
 keyOf:=λ v=>match v with
  | .ref a=>match h.get? a with
   | some o=>match o.data with
    | .seq xs _=>bL sh xs.toList
    | _=>none
   | none=>none
  | _=>none
 dflt:=[]
theorem mq {h:Heap} {sh:List Bool} {v:Value} {k:List Int} (e:(nF h sh).keyOf v=some k):∃a o xs n,v=.ref a/\h.get? a=some o/\o.data=.seq xs n/\bL sh xs.toList=some k:=by
 cases v with
 | ref a =>
  have e:(match h.get? a with
   | some o=>match o.data with
    | .seq xs _=>bL sh xs.toList
    | _=>none
   | none=>none)=some k:=e
  cases h1:h.get? a with
  | none=>rw [h1] at e; cases e
  | some o =>
   rw [h1] at e
   cases h2:o.data with
   | seq xs n =>
    have e:(match o.data with
     | .seq xs _=>bL sh xs.toList
     | _=>none)=some k:=e
    rw [h2] at e
    exact ⟨a,o,xs,n,Y,h1,h2,e⟩
   | _ =>
    have e:(match o.data with
     | .seq xs _=>bL sh xs.toList
     | _=>none)=some k:=e
    rw [h2] at e; cases e
 | _=>cases e
theorem fe:∀ {sh:List Bool} {us:List Value} {k:List Int},bL sh us=some k->us.length=sh.length
 | [],[],_,_=>rfl
 | [],_ :: _,_,h=>by cases h
 | false :: r,[],_,h=>by cases h
 | true :: r,[],_,h=>by cases h
 | false :: r,v :: vs,k,h=>by
  cases v with
  | int i t =>
   have h:(bL r vs).map (i :: ·)=some k:=h
   cases e:bL r vs with
   | none=>rw [e] at h; cases h
   | some k'=>rw [List.length_cons,List.length_cons,fe e]
  | _=>cases h
 | true :: r,v :: vs,k,h=>by
  cases v with
  | bool b =>
   have h:(bL r vs).map ((if b=true then 1 else 0) :: ·)=some k:=h
   cases e:bL r vs with
   | none=>rw [e] at h; cases h
   | some k'=>rw [List.length_cons,List.length_cons,fe e]
  | _=>cases h
section
variable {prog:Program} {w:World} {A:Around} {E:Value->Shared->Prop} {s:Shared}
theorem jP {a b:Bool} {Q:Bool->Shared->Prop} (h:Q (a == b) s):wpAny (model prog w) A (eqBool (.bool a) (.bool b)) Q E s:=by
 unfold eqBool
 show wpAny _ _ (if (Value.bool a == Value.bool b)=true then _ else _) Q E s
 by_cases hab:(Value.bool a == Value.bool b)=true
 ·rw [if_pos hab]
  have e:a=b:=by have:=eq_of_beq hab; injection this
  subst e
  exact wpAny_bind (wpAny_rule (wpAny_pure (by simpa using h)))
 ·rw [if_neg hab]
  exact wpAny_bind (eq_bool (wpAny_truthy_bool h))
theorem ji {bb:Bool} {Q:Bool->Shared->Prop}:∀ (sh:List Bool) (xs ys:List Value) (a c:List Int) (i:Nat),bL sh xs=some a->bL sh ys=some c->((bb && i == 0)=true->sh.head? = some false\/sh=[])->Q (aN a c) s->PySem.W.KatLex prog w A bb false Q (xs.zip ys) i s
 | [],[],[],a,c,i,h1,h2,_,q=>by cases h1; cases h2; exact PySem.W.kat_nil q
 | [],_ :: _,_,_,_,_,h,_,_,_=>by cases h
 | [],[],_ :: _,_,_,_,_,h,_,_=>by cases h
 | false :: r,[],_,_,_,_,h,_,_,_=>by cases h
 | true :: r,[],_,_,_,_,h,_,_,_=>by cases h
 | false :: r,_ :: _,[],_,_,_,_,h,_,_=>by cases h
 | true :: r,_ :: _,[],_,_,_,_,h,_,_=>by cases h
 | false :: r,v :: vs,u :: us,a,c,i,h1,h2,hb,q=>by
  cases v with
  | int p t=>cases u with
   | int p' t' =>
    have h1:(bL r vs).map (p :: ·)=some a:=h1
    have h2:(bL r us).map (p' :: ·)=some c:=h2
    cases e1:bL r vs with
    | none=>rw [e1] at h1; cases h1
    | some a' =>
     cases e2:bL r us with
     | none=>rw [e2] at h2; cases h2
     | some c' =>
      rw [e1] at h1; rw [e2] at h2
      cases h1; cases h2
      rw [aN] at q
      refine PySem.W.kat_cons (wpAny_eqBool_int (PySem.W.kat_go (λ e=>PySem.W.kat_yes ?_) (λ e=>PySem.W.kat_no ?_)))
      ·rw [if_pos (by simpa using e)] at q
       exact ji r vs us a' c' (i + 1) e1 e2 (λ z=>by simp at z) q
      ·rw [if_neg (by simpa using e)] at q
       cases z:(bb && i == 0) with
       | true=>exact oneLt_int q
       | false=>exact PySem.W.kat_one _ _ (PyProof.Rows.lt_int q)
   | _=>cases h2
  | _=>cases h1
 | true :: r,v :: vs,u :: us,a,c,i,h1,h2,hb,q=>by
  cases v with
  | bool p=>cases u with
   | bool p' =>
    have h1:(bL r vs).map ((if p=true then 1 else 0) :: ·)=some a:=h1
    have h2:(bL r us).map ((if p'=true then 1 else 0) :: ·)=some c:=h2
    cases e1:bL r vs with
    | none=>rw [e1] at h1; cases h1
    | some a' =>
     cases e2:bL r us with
     | none=>rw [e2] at h2; cases h2
     | some c' =>
      rw [e1] at h1; rw [e2] at h2
      cases h1; cases h2
      rw [aN] at q
      refine PySem.W.kat_cons (jP (PySem.W.kat_go (λ e=>PySem.W.kat_yes ?_) (λ e=>PySem.W.kat_no ?_)))
      ·have e:p=p':=by simpa using e
       rw [if_pos (by rw [e])] at q
       exact ji r vs us a' c' (i + 1) e1 e2 (λ z=>by simp at z) q
      ·have e:p≠p':=by simpa using e
       rw [if_neg (by cases p <;> cases p' <;> simp_all)] at q
       cases z:(bb && i == 0) with
       | true=>rcases hb z with z | z <;> cases z
       | false =>
        refine PySem.W.kat_one _ _ (PyProof.Rows.lt_bool ?_)
        show Q (decide (b2i p < b2i p')) s
        rw [show decide (b2i p < b2i p')=decide ((if p=true then (1:Int) else 0) < (if p'=true then 1 else 0)) by cases p <;> cases p' <;> rfl]
        exact q
   | _=>cases h2
  | _=>cases h1
theorem nG {h:Heap} {sh:List Bool} (h0:sh.head? = some false) (k:∀b o,h.get? b=some o->s.heap.get? b=some o):bK prog w A s (tuples' true) (nF h sh):=by
 intro E x y a b Q ha hb q
 obtain ⟨x',ox,xs,n,rfl,hx,dx,fx⟩:=mq ha
 obtain ⟨y',oy,ys,m,rfl,hy,dy,fy⟩:=mq hb
 have l1:=fe fx
 have l2:=fe fy
 refine PySem.W.kat_lt (k _ _ hx) dx (k _ _ hy) dy ?_
 rw [show decide (xs.size < ys.size)=false from decide_eq_false (by rw [<- Array.length_toList,<- Array.length_toList]; omega)]
 exact ji sh _ _ a b 0 fx fy (λ _=>.inl h0) q
end
theorem fN:∀ {as:List Addr} {its:List Value},Vals (as.map V.ref) its->its=as.map Value.ref
 | [],_,r=>by cases r; rfl
 | a :: as,_,r=>by
  cases r with
  | cons r1 r2 =>
   have e:_=Value.ref a:=r1
   subst e
   rw [List.map_cons,fN r2]
theorem fO:∀as:List Addr,Vals (as.map V.ref) (as.map Value.ref)
 | []=>.nil
 | a :: as=>.cons rfl (fO as)
theorem jQ {α β:Type} {f:α->β} (g:β->Option α) (hg:∀a,g (f a)=some a) {l:List β} {as:List α} (h:l.Perm (as.map f)):∃as':List α,l=as'.map f/\as'.Perm as:=by
 refine ⟨l.filterMap g,?_,?_⟩
 ·have all:∀x∈l,∃a,f a=x:=λ x hx=>by
   obtain ⟨a,_,e⟩:=List.mem_map.mp (h.mem_iff.mp hx)
   exact ⟨a,e⟩
  clear h
  induction l with
  | nil=>rfl
  | cons x r ih =>
   obtain ⟨a,rfl⟩:=all x List.mem_cons_self
   rw [List.filterMap_cons,hg a,List.map_cons,<- ih λ y hy=>all y (List.mem_cons_of_mem _ hy)]
 ·have:=h.filterMap g
  rw [List.filterMap_map,show (g∘f)=some from funext hg,List.filterMap_some] at this
  exact this
theorem ge {h:Heap} {sh:List Bool} {key:Addr->List Int} (h0:sh.head? = some false):∀ (as:List Addr),(∀a∈as,∃o us n,h.get? a=some o/\o.cls=.type "tuple" /\ o.data=.seq (List.toArray us) n/\bL sh us=some (key a))->∃fs,PySem.W.KatTups h (as.map Value.ref) fs/\fs.length=as.length/\∀v∈fs,∃i t,v=Value.int i t
 | [],_=>⟨[],trivial,Y,λ v hv=>by cases hv⟩
 | a :: as,H=>by
  obtain ⟨fs,h1,h2,h3⟩:=ge h0 as λ b hb=>H b (List.mem_cons_of_mem _ hb)
  obtain ⟨o,us,n,e,c,d,f⟩:=H a List.mem_cons_self
  obtain ⟨r,hr⟩:∃r,sh=false :: r:=by
   cases sh with
   | nil=>cases h0
   | cons x r=>cases h0; exact ⟨r,Y⟩
  subst hr
  cases us with
  | nil=>cases f
  | cons u us =>
   cases u with
   | int i t=>exact ⟨.int i t :: fs,PySem.W.KatTups.cons e c d (by simp) h1,by rw [List.length_cons,List.length_cons,h2],λ v hv=>(List.mem_cons.mp hv).elim (λ z=>⟨i,t,z⟩) (h3 v)⟩
   | _=>cases f
section
variable {X:Cx}
def vC (K:PySem.W.Frag) (xs:List V) (H:Hp) (Q:VK):Prop:=∃ (p:Addr) (as:List Addr) (sh:List Bool) (key:Addr->List Int),xs=[.ref p]/\SqL K H p (as.map V.ref)/\as.length < 64/\sh.head? = some false/\(∀a∈as,∃vs,SqT K H a vs/\jO sh vs=some (key a)) /\
 ∀ (l:Addr) (as':List Addr),H l=none->as'.Perm as->(as'.map key).Pairwise (λ x y=>aN y x=false)->Q (.ref l) (upd H l (.lst (as'.map V.ref)))
theorem jj:bZ X (.builtin "sorted") (vC X.K):=by
 intro pins s σ H xs us Q I r h
 obtain ⟨p,as,sh,key,rfl,hs,h64,h0,hk,q⟩:=h
 obtain ⟨u,rfl,rfl⟩:=eD r
 obtain ⟨its,rv,pl,_⟩:=I.list hs
 have ei:=fN rv
 subst ei
 have tu:∀a∈as,∃o us n,s.heap.get? a=some o/\o.cls=.type "tuple" /\ o.data=.seq (List.toArray us) n/\bL sh us=some (key a):=λ a ha=>by
  obtain ⟨vs,hv,hf⟩:=hk a ha
  obtain ⟨us,r,⟨o,e,c,n,d⟩,_⟩:=I.tuple hv
  exact ⟨o,us,n,e,c,d,li r hf⟩
 have kof:∀a∈as,(nF s.heap sh).keyOf (.ref a)=some (key a):=λ a ha=>by
  obtain ⟨o,us,n,e,c,d,f⟩:=tu a ha
  show (match s.heap.get? a with
   | some o=>match o.data with
    | .seq xs _=>bL sh xs.toList
    | _=>none
   | none=>none)=some (key a)
  rw [e]
  show (match o.data with
    | .seq xs _=>bL sh xs.toList
    | _=>none)=some (key a)
  rw [d]
  exact f
 refine tD (κ:=nF s.heap sh) (κ0:=tuples' true) pl.isList ?keys ?kk (by rw [List.length_map]; exact h64) λ st' hp hs'=>?_
 case keys =>
  intro pr hpr
  rw [pairsOf_toList] at hpr
  obtain ⟨a,ha,e⟩:=List.mem_map.mp (List.of_mem_zip (show (pr.1,pr.2)∈_ from hpr)).1
  exact ⟨key a,by rw [<- e]; exact kof a ha⟩
 case kk =>
  intro A' s' k
  refine ⟨nG h0 k,λ v1 v2 rest e Q E' q=>?_⟩
  obtain ⟨fs,f1,f2,f3⟩:=ge (h:=s'.heap) (key:=key) h0 as λ a ha=>by
   obtain ⟨o,us,n,e,c,d,f⟩:=tu a ha
   exact ⟨o,us,n,k _ _ e,c,d,f⟩
  rw [e] at f1
  have:(as.map Value.ref).length=rest.length + 2:=by rw [e]; rfl
  rw [List.length_map] at this
  refine PySem.W.kat_kind (T:=.type "int") f1 (by omega) (λ v hv=>?_) rfl q
  obtain ⟨i,t,rfl⟩:=f3 v hv
  exact PySem.W.Looks.of_pure rfl
 have pz:∀l:List Addr,(l.map Value.ref).zip (l.map Value.ref)=l.map λ a=>(Value.ref a,Value.ref a):=λ l=>by
  induction l with
  | nil=>rfl
  | cons a l ih=>rw [List.map_cons,List.zip_cons_cons,ih,List.map_cons]
 have hp':=Array.perm_iff_toList_perm.mp hp
 rw [pairsOf_toList,pz] at hp'
 obtain ⟨as',ea,pa⟩:=jQ (f:=λ a=>(Value.ref a,Value.ref a)) (λ pr=>match pr.1 with
  | .ref a=>some a
  | _=>none) (λ a=>rfl) hp'
 have eo:((arrOf st').map (·.2)).toList=as'.map Value.ref:=by
  rw [Array.toList_map,ea,List.map_map]; rfl
 obtain ⟨e,he⟩:=sortedAll_at s.heap (as.map Value.ref) ((arrOf st').map (·.2))
 have hn:H (s.heap.objs.size + 1)=none:=I.hok.fresh (Nat.le_succ _)
 refine ⟨.ref (s.heap.objs.size + 1),upd H (s.heap.objs.size + 1) (.lst (as'.map V.ref)),I.laid (o:=.lst (as'.map V.ref)) (t':=s.toks) (λ _ _=>sortedAll_old) (Nat.le_succ _) (show ObjOk _ _ _ _ _ (.lst _) from ⟨?_,((arrOf st').map (·.2)).toList,e,?_,?_⟩),Y,q _ as' hn pa ?_⟩
 ·rw [List.length_map,pa.length_eq]
  have:(64:Nat)<=sizeLine:=by decide
  omega
 ·rw [eo]; exact fO as'
 ·rw [he]
 ·rw [List.pairwise_iff_getElem]
  intro i j hi hj hij
  rw [List.length_map] at hi hj
  have sz:(pairsOf (as.map Value.ref)).size=as.length:=by rw [pairsOf_size,List.length_map]
  have kk:∀i (hi:i < as'.length),KK (nF s.heap sh) (arrOf st') i=key as'[i]:=λ i hi=>by
   have e:(arrOf st')[i]? = some (Value.ref as'[i],Value.ref as'[i]):=by
    rw [<- Array.getElem?_toList,ea,List.getElem?_map,List.getElem?_eq_getElem hi]; rfl
   unfold KK
   rw [e]
   show ((nF s.heap sh).keyOf (.ref as'[i])).getD _=_
   rw [kof _ (pa.mem_iff.mp (List.getElem_mem hi))]; rfl
  have:=hs' i j (by omega) (by rw [sz,<- pa.length_eq]; exact hj)
  rw [kk i hi,kk j hj] at this
  rw [List.getElem_map,List.getElem_map]
  exact this
end
end L2
set_option Elab.async false
set_option linter.all false
set_option maxRecDepth 100000
namespace L2
open PySem PySem.Spec PyProof.Rows
theorem tE {X:Cx} {i j k:Nat} {x y z:Str} {e:Expr} {te:TE} {p1 p2 p3 pos:Pos} (hN:X.N.Nodup) (hi:X.N[i]? = some x) (hj:X.N[j]? = some y) (hk:X.N[k]? = some z) (lx:X.env.scope.names.lookup x=some .local) (ly:X.env.scope.names.lookup y=some .local) (lz:X.env.scope.names.lookup z=some .local) (he:PE X e te)
  (hs:swapsWithSole [.Name x p1,.Name y p2,.Name z p3] e pos.line X.env=pure false:=by rfl) (hw:swappedStores [.Name x p1,.Name y p2,.Name z p3] e X.env=pure none:=by rfl) :
  PS X (.Assign [.Name x p1,.Name y p2,.Name z p3] e pos) (λ D σ H=>te σ H λ v H1=>D.nx (((σ.set i (some v)).set j (some v)).set k (some v)) H1):=by
 intro pins s σ H D I h
 refine wpAny_Assign_stores (thn (he pins s σ H _ I h) λ v s1 ⟨u,H1,I1,r1,q1⟩=>?_) hs hw
 show wpAny _ _ (do holding [v] (assign (.Name x p1) X.env v); holding [v] (assign (.Name y p2) X.env v); assign (.Name z p3) X.env v) _ _ _
 refine wpAny_bind (wpAny_holding (wpAny_assign_Name (bW I1 hN hi (.inl lx) r1 (λ s2 I2=>?_) (.inr lx))))
 refine wpAny_bind (wpAny_holding (wpAny_assign_Name (bW I2 hN hj (.inl ly) r1 (λ s3 I3=>?_) (.inr ly))))
 exact wpAny_assign_Name (bW I3 hN hk (.inl lz) r1 (λ s4 I4=>⟨_,H1,I4,q1⟩) (.inr lz))
theorem b60 {a:Int} (h0:0<=a) (h:a<=10 ^ 60):a.natAbs < 2 ^ 4096:=by
 have e:(10:Int) ^ 60 < 2 ^ 200:=by decide +kernel
 have e2:(2:Nat) ^ 200<=2 ^ 4096:=Nat.pow_le_pow_right (by decide) (by decide)
 have e3:((2:Nat) ^ 200:Int)=2 ^ 200:=by decide +kernel
 refine Nat.lt_of_lt_of_le ?_ e2
 have:(a.natAbs:Int) < ((2 ^ 200:Nat):Int):=by rw [Int.natAbs_of_nonneg h0]; omega
 exact Int.ofNat_lt.mp this
end L2
set_option Elab.async false
set_option linter.all false
set_option maxRecDepth 100000
namespace PySem
theorem Paired.getL {α β:Type} {F:α->β->Prop}:∀ {l₁:List α} {l₂:List β} {i:Nat} {y:β},Paired F l₁ l₂->l₂[i]? = some y->∃x,l₁[i]? = some x/\F x y
 | _,_,_,_,.nil,e=>by simp at e
 | _,_,0,_,.cons h _,e=>by simp at e; subst e; exact ⟨_,Y,h⟩
 | _,_,i + 1,y,.cons _ t,e=>by
  obtain ⟨x,h1,h2⟩:=Paired.getL (i:=i) t (by simpa using e)
  exact ⟨x,by simpa using h1,h2⟩
end PySem
set_option Elab.async false
set_option linter.all false
set_option maxRecDepth 100000
namespace L2
open PySem PySem.Spec PyProof.Rows
def Itv (K:PySem.W.Frag) (a:Addr) (n:Nat):It :=
 ⟨λ i H=>i < n/\∃xs x,SqL K H a xs/\xs[n - 1 - i]? = some x,λ i H x H'=>H'=H/\∀xs,SqL K H a xs->xs[n - 1 - i]? = some x,λ i _=>n=i⟩
theorem qA {P:Program} {w:World} {K:PySem.W.Frag} {tg:Expr} (a it:Addr) (n:Nat):Turn P w K tg (Itv K a n) [it] it (λ i h=>h.IsRevIter it a ((n:Int) - 1 - (i:Int))) where
 mem:=by simp
 obj:=λ i h st b hb=>by
  have e:b=it:=by simpa using hb
  subst e
  obtain ⟨o,e,c,d⟩:=st
  exact ⟨o,e,λ v z=>by rw [d] at z; cases z⟩
 keep:=λ i h h' st k=>st.at λ o e=>k it (by simp) o e
 item:=by
  intro X hP hw hK hc i pins s σ H E I hf st hg
  subst hP hw hK
  obtain ⟨hi,xs,x,hq,hx⟩:=hg
  obtain ⟨its,rv,p,hz⟩:=I.list hq
  obtain ⟨u,hu,ru⟩:=rv.get hx
  obtain ⟨f0,f1,f2,f3,f4,f5⟩:=hf it (by simp)
  have ei:(n:Int) - 1 - (i:Int)=((n - 1 - i:Nat):Int):=by omega
  rw [ei] at st
  refine wpAny_pyNext_rev_item st p.isList (x:=u) (by simpa using hu) λ h' st' sb=>?_
  have I1:Inv X pins σ H { s with heap:=h' }:=I.turned (t':=s.toks) (λ b o hb e=>(sb.2 b hb).trans e) f0 f1 f3 f4 f5
  rw [show ((n - 1 - i:Nat):Int) - 1=(n:Int) - 1 - ((i + 1:Nat):Int) by omega] at st'
  obtain ⟨o,e,c,d⟩:=id st'
  exact ⟨u,Y,lT (s:={ s with heap:=h' }) e c d (by decide) ⟨x,H,I1,ru,⟨Y,λ ys hy=>by rw [I.list_inj hy hq]; exact hx⟩,st',λ b hb=>(hf b hb).1⟩⟩
 done:=by
  intro X hP hw hK hc i pins s σ H E I hf st hg
  subst hP hw hK
  have hg:n=i:=hg
  obtain ⟨f0,f1,f2,f3,f4,f5⟩:=hf it (by simp)
  rw [show (n:Int) - 1 - (i:Int)=-1 by omega] at st
  exact wpAny_pyNext_rev_end (I.ok.hd hc) st λ h' eb=>⟨Y,I.turned (t':=s.toks) (λ b o hb e=>eb b o hb e) f0 f1 f3 f4 f5⟩
 self:=λ _ _ _ _ _ st h=>wpAny_pyIter_revIter st h
section
variable {X:Cx} {tg:Expr}
def Ge (K:PySem.W.Frag) (ta:TA):TI:=λ σ H R=>ta σ H λ vs H1=>∃a xs,vs=[V.ref a]/\SqL K H1 a xs/\R (Itv K a xs.length) H1
theorem vD {a:Expr} {ta:TA} {p pos:Pos} (hg:Gl X "reversed") (hm:X.mg "reversed" = none) (ha:PA X [a] ta) (hs:starEach [a] X.env=[(false,eval a X.env)]:=by rfl):PI X tg (.Call (.Name "reversed" p) [a] [] pos) (Ge X.K ta):=by
 intro pins s σ H R I h
 refine Call_ (eG I hg hm boot_reversed (PyProof.Rows.callWith_type1 (thn (ha pos pins s σ H _ I h) λ us s1 ⟨vs,H1,I1,r1,q1⟩=>?_) hs rfl))
 obtain ⟨l,xs,e,hq,q⟩:=q1
 subst e
 cases r1 with
 | cons r rr =>
  cases rr
  cases r
  obtain ⟨its,rv,pl,hz⟩:=I1.list hq
  have hl:=rv.length
  refine call_reversed_list pl.isList ?_
  have st:(s1.heap.push (revObj l ((its.toArray.size:Int) - 1))).IsRevIter s1.heap.objs.size l ((xs.length:Int) - 1 - ((0:Nat):Int)):=by
   refine ⟨_,Heap.get?_push_size _ rfl,Y,?_⟩
   show Data.fields #[.ref l,rawInt ((its.toArray.size:Int) - 1)]=_
   rw [List.size_toArray,hl,show (its.length:Int) - 1 - ((0:Nat):Int)=(its.length:Int) - 1 by simp]
  refine wpAny_pyIter_revIter st ⟨s1.heap.objs.size,[s1.heap.objs.size],_,_,H1,rfl,I1.kept (t':=s1.toks) λ b o e=>Heap.get?_push_of_some _ e,qA l _ _,st,λ b hb=>?_,q⟩
  have e:b=s1.heap.objs.size:=by simpa using hb
  subst e
  exact I1.fpOk (Nat.le_refl _) (I1.hok.fresh (Nat.le_refl _))
end
end L2
set_option Elab.async false
set_option linter.all false
set_option maxRecDepth 100000
namespace L2
open PySem PySem.Spec PyProof.Rows
section
variable {X:Cx} {tg:Expr}
def ya (K:PySem.W.Frag) (tl:TE):TI:=λ σ H R=>tl σ H λ x H1=>∃a,x=.ref a/\(((∃xs,SqL K H1 a xs)/\R (Itl K a) H1)\/((∃xs,SqT K H1 a xs)/\R (Itt K a) H1))
theorem jk {l:Expr} {tl:TE} (hl:PE X l tl):PI X tg l (ya X.K tl):=by
 intro pins s σ H R I h
 refine thn (hl pins s σ H _ I h) λ v s1 ⟨x,H1,I1,r1,q1⟩=>?_
 obtain ⟨a,e,hq⟩:=q1
 subst e
 cases r1
 have fr:∀b∈[s1.heap.objs.size],eQ X pins H1 b:=λ b hb=>by
  have e:b=s1.heap.objs.size:=by simpa using hb
  subst e
  exact I1.fpOk (Nat.le_refl _) (I1.hok.fresh (Nat.le_refl _))
 rcases hq with ⟨⟨xs,hq⟩,q⟩ | ⟨⟨xs,hq⟩,q⟩
 ·obtain ⟨its,rv,p,hz⟩:=I1.list hq
  refine wpAny_pyIter_list p.isList ?_
  exact ⟨s1.heap.objs.size,[s1.heap.objs.size],_,_,H1,Y,I1.kept (t':=s1.toks) λ b o e=>Heap.get?_push_of_some _ e,iw a _,⟨_,Heap.get?_push_size _ rfl,Y,Y⟩,fr,q⟩
 ·obtain ⟨its,rv,p,hz⟩:=I1.tuple hq
  refine wpAny_pyIter_tuple (show s1.heap.IsTuple a its.toArray from p) ?_
  exact ⟨s1.heap.objs.size,[s1.heap.objs.size],_,_,H1,Y,I1.kept (t':=s1.toks) λ b o e=>Heap.get?_push_of_some _ e,gO a _,⟨_,Heap.get?_push_size _ rfl,Y,Y⟩,fr,q⟩
end
end L2
set_option Elab.async false
set_option linter.all false
set_option maxRecDepth 100000
namespace L2
open PySem PySem.Spec PyProof.Rows
mutual
inductive Tl where
 | rest
 | piece (i:Nat) (c:Bool) (x y:Int)
 | row (dn:Bool) (r:Tls)
inductive Tls where
 | nil
 | cons (n:Int) (t:Tl) (r:Tls)
end
def wyL (dn:Bool):Str:=if dn=true then "down" else "across"
def b01 (c:Bool):Int:=if c=true then 1 else 0
theorem jl {a b:Bool} (h:b01 a=b01 b):a=b:=by cases a <;> cases b <;> first | rfl | exact absurd h (by decide)
mutual
def enc:Tl->List Int
 | .rest=>[3]
 | .piece i c x y=>[2,i,b01 c,x,y]
 | .row dn r=>b01 dn :: eB r
def eB:Tls->List Int
 | .nil=>[0]
 | .cons n t r=>1 :: n :: (enc t ++ eB r)
end
mutual
def tlD:Tl->PyData
 | .rest=>.tuple [.str "rest"]
 | .piece i c x y=>.tuple [.str "piece",.int i,.bool c,.int x,.int y]
 | .row dn r=>.tuple [.str (wyL dn),.tuple (bj r)]
def bj:Tls->List PyData
 | .nil=>[]
 | .cons n t r=>.tuple [.int n,tlD t] :: bj r
end
mutual
theorem gy:∀ (t u:Tl) (r r':List Int),enc t ++ r=enc u ++ r'->t=u/\r=r'
 | .rest,.rest,r,r',h=>by simpa [enc] using h
 | .rest,.piece ..,r,r',h=>by simp [enc] at h
 | .rest,.row dn _,r,r',h=>by cases dn <;> simp [enc,b01] at h
 | .piece ..,.rest,r,r',h=>by simp [enc] at h
 | .piece i c x y,.piece i' c' x' y',r,r',h=>by
  simp only [enc,List.cons_append,List.cons.injEq,List.nil_append,true_and] at h
  obtain ⟨h1,h2,h3,h4,h5⟩:=h
  rw [jl h2,h3,h4,show i=i' by omega]
  exact ⟨Y,h5⟩
 | .piece ..,.row dn _,r,r',h=>by cases dn <;> simp [enc,b01] at h
 | .row dn _,.rest,r,r',h=>by cases dn <;> simp [enc,b01] at h
 | .row dn _,.piece ..,r,r',h=>by cases dn <;> simp [enc,b01] at h
 | .row dn a,.row dn' a',r,r',h=>by
  simp only [enc,List.cons_append,List.cons.injEq] at h
  obtain ⟨h1,h2⟩:=jR a a' r r' h.2
  rw [jl h.1,h1]
  exact ⟨Y,h2⟩
theorem jR:∀ (t u:Tls) (r r':List Int),eB t ++ r=eB u ++ r'->t=u/\r=r'
 | .nil,.nil,r,r',h=>by simpa [eB] using h
 | .nil,.cons ..,r,r',h=>by simp [eB] at h
 | .cons ..,.nil,r,r',h=>by simp [eB] at h
 | .cons n t a,.cons n' t' a',r,r',h=>by
  simp only [eB,List.cons_append,List.cons.injEq,true_and,List.append_assoc] at h
  obtain ⟨h1,h2⟩:=gy t t' _ _ h.2
  obtain ⟨h3,h4⟩:=jR a a' r r' h2
  rw [h.1,h1,h3]
  exact ⟨Y,h4⟩
end
theorem tF {t u:Tl} (h:enc t=enc u):t=u:=(gy t u [] [] (by rw [h])).1
theorem mr:∀ (l r r':List Int),aN (l ++ r) (l ++ r')=aN r r'
 | [],_,_=>rfl
 | a :: l,r,r'=>by rw [List.cons_append,List.cons_append,aN,if_pos rfl]; exact mr l r r'
theorem ms:∀ (l l' r r':List Int),(∀z,l ++ z≠l')->(∀z,l≠l' ++ z)->aN (l ++ r) (l' ++ r')=aN l l'
 | [],l',_,_,h,_=>absurd rfl (h l')
 | l,[],_,_,_,h=>absurd rfl (h l)
 | a :: l,b :: l',r,r',h1,h2=>by
  rw [List.cons_append,List.cons_append,aN,aN]
  by_cases e:a=b
  ·rw [if_pos e,if_pos e]
   exact ms l l' r r' (λ z hz=>h1 z (by rw [List.cons_append,e,hz])) (λ z hz=>h2 z (by rw [List.cons_append,e,hz]))
  ·rw [if_neg e,if_neg e]
theorem tG {t u:Tl} (h:t≠u) (r r':List Int):aN (enc t ++ r) (enc u ++ r')=aN (enc t) (enc u) :=
 ms _ _ _ _ (λ z e=>h (gy t u z [] (by rw [List.append_nil]; exact e)).1) (λ z e=>h (gy t u [] z (by rw [List.append_nil]; exact e)).1)
theorem nH (n n':Int) (t t':Tl) (r r':Tls):aN (eB (.cons n t r)) (eB (.cons n' t' r'))=aN (n :: (enc t ++ eB r)) (n' :: (enc t' ++ eB r')):=by
 rw [eB,eB,aN,if_pos rfl]
theorem yb:(PyData.str "piece").canLay0=true:=by decide +kernel
theorem vE (dn:Bool):(PyData.str (wyL dn)).canLay0=true:=by cases dn <;> decide +kernel
mutual
theorem cJ:∀t:Tl,(tlD t).canLay0=true
 | .rest=>by decide +kernel
 | .piece i c x y=>by
  have:=yb
  simp only [tlD,PyData.canLay0,PyData.canLayAll0,Bool.and_true] at this ⊢
  exact this
 | .row dn r=>by
  have h1:=vE dn
  have h2:=ff r
  simp only [tlD,PyData.canLay0,PyData.canLayAll0,Bool.and_true] at h1 ⊢
  rw [h1,h2]; rfl
theorem ff:∀t:Tls,PyData.canLayAll0 (bj t)=true
 | .nil=>rfl
 | .cons n t r=>by
  have h1:=cJ t
  have h2:=ff r
  simp only [bj,PyData.canLayAll0,PyData.canLay0,Bool.and_true,Bool.true_and]
  rw [h1,h2]; rfl
end
mutual
theorem fP:∀t u:Tl,PyData.eqv (tlD t) (tlD u)=true↔t=u
 | .rest,.rest=>by simp [tlD,PyData.eqv,PyData.eqvAll]
 | .rest,.piece .. => by simp [tlD,PyData.eqv,PyData.eqvAll]
 | .rest,.row dn _=>by simp [tlD,PyData.eqv,PyData.eqvAll]
 | .piece ..,.rest=>by simp [tlD,PyData.eqv,PyData.eqvAll]
 | .piece i c x y,.piece i' c' x' y'=>by
  simp only [tlD,PyData.eqv,PyData.eqvAll,Bool.and_eq_true,beq_iff_eq,true_and,and_true,Tl.piece.injEq]
  constructor
  ·rintro ⟨h1,h2,h3,h4⟩; exact ⟨by omega,h2,h3,h4⟩
  ·rintro ⟨h1,h2,h3,h4⟩; exact ⟨by omega,h2,h3,h4⟩
 | .piece ..,.row dn _=>by simp [tlD,PyData.eqv,PyData.eqvAll]
 | .row dn _,.rest=>by simp [tlD,PyData.eqv,PyData.eqvAll]
 | .row dn _,.piece .. => by simp [tlD,PyData.eqv,PyData.eqvAll]
 | .row dn r,.row dn' r'=>by
  have h:=jm r r'
  simp only [tlD,PyData.eqv,PyData.eqvAll,Bool.and_eq_true,beq_iff_eq,and_true,Tl.row.injEq]
  rw [h]
  constructor
  ·rintro ⟨h1,h2⟩; exact ⟨by cases dn <;> cases dn' <;> first | rfl | exact absurd h1 (by decide +kernel),h2⟩
  ·rintro ⟨h1,h2⟩; rw [h1]; exact ⟨Y,h2⟩
theorem jm:∀t u:Tls,PyData.eqvAll (bj t) (bj u)=true↔t=u
 | .nil,.nil=>by simp [bj,PyData.eqvAll]
 | .nil,.cons .. => by simp [bj,PyData.eqvAll]
 | .cons ..,.nil=>by simp [bj,PyData.eqvAll]
 | .cons n t r,.cons n' t' r'=>by
  have h1:=fP t t'
  have h2:=jm r r'
  simp only [bj,PyData.eqv,PyData.eqvAll,Bool.and_eq_true,beq_iff_eq,and_true,Tls.cons.injEq]
  rw [h1,h2,and_assoc]
end
theorem tH {t u:Tl} (h:tlD t=tlD u):t=u:=(fP t u).mp (by rw [h]; exact (fP u u).mpr rfl)
end L2
set_option Elab.async false
set_option linter.all false
set_option maxRecDepth 100000
namespace PySem.SeqAt
open AutoSeq1 (wpAny_loadPart')
open MeetsSeq MeetsSeq2 MeetsSeq3 SeqRoads2
def LtAt (A:Around) (s:Shared) (y x:Value) (b:Bool):Prop :=
 ∀ (prog:Program) (w:World) (E:Value->Shared->Prop) (Q:Value->Shared->Prop),Q (.bool b) s->wpAny (model prog w) A (richCompare .Lt y x) Q E s
inductive LexAt (A:Around) (s:Shared) (fin:Bool):List (Value×Value)->Bool->Prop
 | nil:LexAt A s fin [] fin
 | eq {x y:Value} {r:List (Value×Value)} {c:Bool}:EqAt A s x y true->LexAt A s fin r c->LexAt A s fin ((x,y) :: r) c
 | ne {x y:Value} {r:List (Value×Value)} {c:Bool}:EqAt A s x y false->LtAt A s x y c->LexAt A s fin ((x,y) :: r) c
theorem lj (l b:Addr) (items items2:Array Value) (n n2:Nat) (dd dd2:Option Addr) (sl sl2:Array (Option Value)) (c:Bool) :
  Meets (Builtin.«tuple.__lt__» ⟨[.ref l,.ref b],[]⟩)
   (λ A R s=>s.heap.get? l=some { cls:=.type "tuple",dict:=dd,data:=.seq items n,slots:=sl }/\s.heap.get? b=some { cls:=.type "tuple",dict:=dd2,data:=.seq items2 n2,slots:=sl2 } /\
    LexAt A.in1 s (decide (items.size < items2.size)) (items.toList.zip items2.toList) c/\R (.ok (.ret (.bool c))) s) :=
 .of_wp λ prog w A R s h=>by
  obtain ⟨hp,g,d,tk,os⟩:=s; obtain ⟨hl,hb,he,h⟩:=h
  have f2:=AutoSeq1.sub_tuple_tuple
  wp_walk using wpAny_loadPart' hl,wpAny_loadPart' hb,wpAny_forIn_list _ (λ rest b s'=>b.1=none/\s'=⟨hp,g,d,tk,os⟩/\LexAt A.in1 ⟨hp,g,d,tk,os⟩ (decide (items.size < items2.size)) rest c) _
  case turn =>
   rintro ⟨y,x⟩ rest b s' ⟨hb',rfl,hL⟩
   cases hL with
   | eq h1 h2 =>
    refine wpAny_bind (h1 prog w _ _ ?_)
    wp_walk
    exact ⟨Y,Y,h2⟩
   | ne h1 h2 =>
    refine wpAny_bind (h1 prog w _ _ ?_)
    simp only [Bool.not_false,if_true]
    refine wpAny_bind (wpAny_rule ?_)
    refine wpAny_bind (h2 prog w _ _ ?_)
    wp_walk
    exact ⟨_,Y,h⟩
  case fin =>
   rintro ⟨b1,b2⟩ s' ⟨hb',rfl,hL⟩
   simp only at hb'
   subst hb'
   cases hL
   wp_walk
   exact ⟨_,Y,by simpa [Builtin.Tuple.tupleCompareSizes] using h⟩
  case h =>
   exact ⟨Y,Y,he⟩
theorem LtAt.tuples {A:Around} {s:Shared} {l b:Addr} {items items2:Array Value} {c:Bool} (hl:s.heap.IsTuple l items) (hb:s.heap.IsTuple b items2) (hu:A.units < cLine)
  (he:LexAt A.in1 s (decide (items.size < items2.size)) (items.toList.zip items2.toList) c):LtAt A s (.ref l) (.ref b) c:=λ prog w E Q h=>by
 obtain ⟨⟨cls,dd,data,sl⟩,ho,hc,n,hd⟩:=id hl
 obtain ⟨⟨cls2,dd2,data2,sl2⟩,ho2,hc2,n2,hd2⟩:=id hb
 simp only at hc hd hc2 hd2
 subst hc hd hc2 hd2
 exact richCompare_meets_room (op:=.Lt) ⟨_,ho,rfl⟩ ⟨_,ho2,rfl⟩ F.slot_tuple_lt F.entry_tuple_lt (F.args_tuple_lt_2 _ _) (lj l b items items2 n n2 dd dd2 sl sl2 c)
  ⟨ho,ho2,he,show Value.bool c≠Value.notImplemented/\Q (.bool c) s from ⟨(λ x=>nomatch x),h⟩⟩ hu
end PySem.SeqAt
namespace L2
open PySem PySem.Spec PyProof.Rows PySem.SeqAt
theorem aK {h:Heap} {a:Value} {ds:List PyData} {as:List Addr} (r:Reads h a (.tuple ds) as):∃l vs bs,a=.ref l/\h.IsTuple l (List.toArray vs)/\ReadsAll h vs ds bs:=by
 cases r with
 | @tuple l o vs n xs as h1 h2 h3 h4=>exact ⟨l,vs.toList,_,Y,⟨o,h1,h2,n,by simpa using h3⟩,h4⟩
theorem aw {h:Heap} {vs:List Value} {d:PyData} {ds:List PyData} {as:List Addr} (r:ReadsAll h vs (d :: ds) as):∃v vs' bs cs,vs=v :: vs'/\Reads h v d bs/\ReadsAll h vs' ds cs:=by
 cases r with
 | cons h1 h2=>exact ⟨_,_,_,_,Y,h1,h2⟩
theorem aZ {h:Heap} {vs:List Value} {as:List Addr} (r:ReadsAll h vs [] as):vs=[]:=by
 cases r; rfl
theorem cA {A:Around} {s:Shared} {x y:Value} {z z':Str} {as bs:List Addr} (hx:Reads s.heap x (.str z) as) (hy:Reads s.heap y (.str z') bs) {c:Bool} (hne:(z == z')=false) (hc:decide (z.cps.toList < z'.cps.toList)=c) {fin:Bool} {r:List (Value×Value)}:LexAt A s fin ((x,y) :: r) c:=by
 cases hx
 cases hy
 rename_i t u
 refine .ne ?_ λ prog w E Q h=>PyProof.Rows.lt_str (by rw [hc]; exact h)
 have:=EqAt.str_str (A:=A) (s:=s) z t z' u
 rw [hne] at this
 exact this
theorem hX {A:Around} {s:Shared} {x y:Value} {z:Str} {as bs:List Addr} (hx:Reads s.heap x (.str z) as) (hy:Reads s.heap y (.str z) bs):EqAt A s x y true:=by
 cases hx
 cases hy
 rename_i t u
 have:=EqAt.str_str (A:=A) (s:=s) z t z u
 rw [beq_self_eq_true] at this
 exact this
theorem mt {A:Around} {s:Shared} {x y:Value} {n m:Int} {as bs:List Addr} (hx:Reads s.heap x (.int n) as) (hy:Reads s.heap y (.int m) bs):EqAt A s x y (n == m):=by
 cases hx
 cases hy
 exact EqAt.int_int n _ m _
theorem tI {A:Around} {s:Shared} {x y:Value} {n m:Int} {as bs:List Addr} (hx:Reads s.heap x (.int n) as) (hy:Reads s.heap y (.int m) bs):LtAt A s x y (decide (n < m)):=by
 cases hx
 cases hy
 exact λ prog w E Q h=>PyProof.Rows.lt_int h
theorem gz {A:Around} {s:Shared} {x y:Value} {n m:Int} {as bs:List Addr} {fin:Bool} {r:List (Value×Value)} {u v:List Int} (hx:Reads s.heap x (.int n) as) (hy:Reads s.heap y (.int m) bs) (h:n=m->LexAt A s fin r (aN u v)):LexAt A s fin ((x,y) :: r) (aN (n :: u) (m :: v)):=by
 have e:=mt (A:=A) hx hy
 rw [aN]
 by_cases c:n=m
 ·rw [if_pos c]
  rw [show (n == m)=true by simpa using c] at e
  exact .eq e (h c)
 ·rw [if_neg c]
  rw [show (n == m)=false by simpa using c] at e
  exact .ne e (tI hx hy)
theorem qB {A:Around} {s:Shared} {x y:Value} {n m:Bool} {as bs:List Addr} {fin:Bool} {r:List (Value×Value)} {u v:List Int} (hx:Reads s.heap x (.bool n) as) (hy:Reads s.heap y (.bool m) bs) (h:n=m->LexAt A s fin r (aN u v)):LexAt A s fin ((x,y) :: r) (aN (b01 n :: u) (b01 m :: v)):=by
 cases hx
 cases hy
 have e:=EqAt.bool_bool (A:=A) (s:=s) n m
 rw [aN]
 by_cases c:n=m
 ·rw [if_pos (by rw [c])]
  rw [show (n == m)=true by simpa using c] at e
  exact .eq e (h c)
 ·rw [if_neg (λ z=>c (jl z))]
  rw [show (n == m)=false by simpa using c] at e
  refine .ne e λ prog w E Q h=>PyProof.Rows.lt_bool ?_
  have:decide (b2i n < b2i m)=decide (b01 n < b01 m):=by cases n <;> cases m <;> rfl
  show Q (.bool (decide (b2i n < b2i m))) s
  rw [this]
  exact h
theorem mv {A:Around} {s:Shared} {x y:Value} {fin c:Bool} {p:Prop} {k:Bool} (hp:k=true↔p) (h1:EqAt A s x y k) (h2:¬p->LtAt A s x y c) (h3:p->fin=c):LexAt A s fin [(x,y)] c:=by
 cases k with
 | true =>
  rw [<- h3 (hp.mp rfl)]
  exact .eq h1 .nil
 | false=>exact .ne h1 (h2 λ z=>absurd (hp.mpr z) (by decide))
theorem lm (d:PyData) (ds:List PyData):d.depth<=PyData.depthAll (d :: ds)/\PyData.depthAll ds<=PyData.depthAll (d :: ds):=by
 rw [PyData.depthAll]; omega
mutual
theorem uP:∀ (t u:Tl) (A:Around) (s:Shared) (a b:Value) (as bs:List Addr),Reads s.heap a (tlD t) as->Reads s.heap b (tlD u) bs->A.units + (tlD t).depth < cLine->LtAt A s a b (aN (enc t) (enc u))
 | .rest,u,A,s,a,b,as,bs,ra,rb,hu=>by
  rw [tlD] at ra
  obtain ⟨l,vs,_,rfl,ta,ra⟩:=aK ra
  obtain ⟨v,vs,_,_,rfl,r1,ra⟩:=aw ra
  cases aZ ra
  cases u with
  | rest =>
   rw [tlD] at rb
   obtain ⟨l',ws,_,rfl,tb,rb⟩:=aK rb
   obtain ⟨w,ws,_,_,rfl,r2,rb⟩:=aw rb
   cases aZ rb
   exact .tuples ta tb (by omega) (.eq (hX r1 r2) .nil)
  | piece i c x y =>
   rw [tlD] at rb
   obtain ⟨l',ws,_,rfl,tb,rb⟩:=aK rb
   obtain ⟨w,ws,_,_,rfl,r2,rb⟩:=aw rb
   exact .tuples ta tb (by omega) (cA r1 r2 (by decide +kernel) (by rw [enc,enc,aN,if_neg (by decide)]; decide +kernel))
  | row dn r =>
   rw [tlD] at rb
   obtain ⟨l',ws,_,rfl,tb,rb⟩:=aK rb
   obtain ⟨w,ws,_,_,rfl,r2,rb⟩:=aw rb
   exact .tuples ta tb (by omega) (by cases dn <;> exact cA r1 r2 (by decide +kernel) (by rw [enc,enc,aN,if_neg (by decide)]; decide +kernel))
 | .piece i c x y,u,A,s,a,b,as,bs,ra,rb,hu=>by
  rw [tlD] at ra
  obtain ⟨l,vs,_,rfl,ta,ra⟩:=aK ra
  obtain ⟨v,vs,_,_,rfl,r1,ra⟩:=aw ra
  cases u with
  | rest =>
   rw [tlD] at rb
   obtain ⟨l',ws,_,rfl,tb,rb⟩:=aK rb
   obtain ⟨w,ws,_,_,rfl,r2,rb⟩:=aw rb
   exact .tuples ta tb (by omega) (cA r1 r2 (by decide +kernel) (by rw [enc,enc,aN,if_neg (by decide)]; decide +kernel))
  | piece i' c' x' y' =>
   rw [tlD] at rb
   obtain ⟨l',ws,_,rfl,tb,rb⟩:=aK rb
   obtain ⟨w,ws,_,_,rfl,r2,rb⟩:=aw rb
   obtain ⟨v1,vs,_,_,rfl,a1,ra⟩:=aw ra
   obtain ⟨v2,vs,_,_,rfl,a2,ra⟩:=aw ra
   obtain ⟨v3,vs,_,_,rfl,a3,ra⟩:=aw ra
   obtain ⟨v4,vs,_,_,rfl,a4,ra⟩:=aw ra
   cases aZ ra
   obtain ⟨w1,ws,_,_,rfl,c1,rb⟩:=aw rb
   obtain ⟨w2,ws,_,_,rfl,c2,rb⟩:=aw rb
   obtain ⟨w3,ws,_,_,rfl,c3,rb⟩:=aw rb
   obtain ⟨w4,ws,_,_,rfl,c4,rb⟩:=aw rb
   cases aZ rb
   refine .tuples ta tb (by omega) (.eq (hX r1 r2) ?_)
   rw [enc,enc,aN,if_pos rfl]
   exact gz a1 c1 λ _=>qB a2 c2 λ _=>gz a3 c3 λ _=>gz a4 c4 λ _=>.nil
  | row dn r =>
   rw [tlD] at rb
   obtain ⟨l',ws,_,rfl,tb,rb⟩:=aK rb
   obtain ⟨w,ws,_,_,rfl,r2,rb⟩:=aw rb
   exact .tuples ta tb (by omega) (by cases dn <;> exact cA r1 r2 (by decide +kernel) (by rw [enc,enc,aN,if_neg (by decide)]; decide +kernel))
 | .row dn r,u,A,s,a,b,as,bs,ra,rb,hu=>by
  rw [tlD] at ra hu
  obtain ⟨l,vs,_,rfl,ta,ra⟩:=aK ra
  obtain ⟨v,vs,_,_,rfl,r1,ra⟩:=aw ra
  cases u with
  | rest =>
   rw [tlD] at rb
   obtain ⟨l',ws,_,rfl,tb,rb⟩:=aK rb
   obtain ⟨w,ws,_,_,rfl,r2,rb⟩:=aw rb
   exact .tuples ta tb (by omega) (by cases dn <;> exact cA r1 r2 (by decide +kernel) (by rw [enc,enc,aN,if_neg (by decide)]; decide +kernel))
  | piece i c x y =>
   rw [tlD] at rb
   obtain ⟨l',ws,_,rfl,tb,rb⟩:=aK rb
   obtain ⟨w,ws,_,_,rfl,r2,rb⟩:=aw rb
   exact .tuples ta tb (by omega) (by cases dn <;> exact cA r1 r2 (by decide +kernel) (by rw [enc,enc,aN,if_neg (by decide)]; decide +kernel))
  | row dn' r' =>
   rw [tlD] at rb
   obtain ⟨l',ws,_,rfl,tb,rb⟩:=aK rb
   obtain ⟨w,ws,_,_,rfl,r2,rb9⟩:=aw rb
   by_cases e:dn=dn'
   ·subst e
    obtain ⟨v1,vs,_,_,rfl,a1,ra⟩:=aw ra
    cases aZ ra
    obtain ⟨w1,ws,_,_,rfl,c1,rb8⟩:=aw rb9
    cases aZ rb8
    have hu:A.units + (max 0 (max (PyData.depthAll (bj r) + 1) 0) + 1) < cLine:=hu
    refine .tuples ta tb (by omega) (.eq (hX r1 r2) ?_)
    rw [enc,enc,aN,if_pos rfl]
    have k:PyData.eqv (.tuple (bj r)) (.tuple (bj r'))=true↔r=r':=jm r r'
    refine mv k (eqAt_reads _ _ _ s _ _ _ _ a1 c1 (ff r) (ff r') (by rw [PyData.depth]; show A.units + 1 + _ < _; omega)) (λ _=>?_) (λ z=>by rw [z,bR]; rfl)
    obtain ⟨p,ps,_,rfl,tp,rp⟩:=aK a1
    obtain ⟨q,qs,_,rfl,tq,rq⟩:=aK c1
    refine .tuples tp tq (by show A.units + 1 < _; omega) ?_
    exact mw r r' _ s ps qs _ _ rp rq (by show A.units + 1 + 1 + _ < _; omega)
   ·exact .tuples ta tb (by omega) (by cases dn <;> cases dn' <;> first | exact absurd rfl e | exact cA r1 r2 (by decide +kernel) (by rw [enc,enc,aN,if_neg (by decide)]; decide +kernel))
theorem mw:∀ (r r':Tls) (A:Around) (s:Shared) (vs ws:List Value) (as bs:List Addr),ReadsAll s.heap vs (bj r) as->ReadsAll s.heap ws (bj r') bs->A.units + PyData.depthAll (bj r) < cLine->LexAt A s (decide (vs.length < ws.length)) (vs.zip ws) (aN (eB r) (eB r'))
 | .nil,.nil,A,s,vs,ws,as,bs,ra,rb,hu=>by
  cases aZ ra
  cases aZ rb
  exact .nil
 | .nil,.cons ..,A,s,vs,ws,as,bs,ra,rb,hu=>by
  cases aZ ra
  rw [bj] at rb
  obtain ⟨w,ws,_,_,rfl,r2,rb⟩:=aw rb
  exact .nil
 | .cons ..,.nil,A,s,vs,ws,as,bs,ra,rb,hu=>by
  cases aZ rb
  rw [bj] at ra
  obtain ⟨w,ws,_,_,rfl,r2,ra⟩:=aw ra
  exact .nil
 | .cons n t r,.cons m u r',A,s,vs,ws,as,bs,ra,rb,hu=>by
  rw [bj] at ra rb hu
  obtain ⟨v,vs,_,_,rfl,r1,ra9⟩:=aw ra
  obtain ⟨w,ws,_,_,rfl,r2,rb9⟩:=aw rb
  have hd:=lm (.tuple [.int n,tlD t]) (bj r)
  have h0:(PyData.tuple [.int n,tlD t]).depth=max 0 (max (tlD t).depth 0) + 1:=rfl
  have k:PyData.eqv (.tuple [.int n,tlD t]) (.tuple [.int m,tlD u])=true↔n=m/\t=u:=by
   have:=fP t u
   simp only [PyData.eqv,PyData.eqvAll,Bool.and_eq_true,beq_iff_eq,and_true]
   rw [this]
  have lay:∀ (n:Int) (t:Tl),(PyData.tuple [.int n,tlD t]).canLay0=true:=λ n t=>by
   simp only [PyData.canLay0,PyData.canLayAll0,Bool.and_true,Bool.true_and]
   exact cJ t
  have e:=eqAt_reads _ _ A s _ _ _ _ r1 r2 (lay n t) (lay m u) (by omega)
  rw [nH,List.zip_cons_cons,show decide ((v :: vs).length < (w :: ws).length)=decide (vs.length < ws.length) by simp]
  cases z:PyData.eqv (.tuple [.int n,tlD t]) (.tuple [.int m,tlD u]) with
  | true =>
   rw [z] at e
   obtain ⟨rfl,rfl⟩:=k.mp z
   rw [aN,if_pos rfl,mr]
   exact .eq e (mw r r' A s vs ws _ _ ra9 rb9 (by omega))
  | false =>
   rw [z] at e
   refine .ne e ?_
   have nk:¬(n=m/\t=u):=λ y=>by rw [k.mpr y] at z; cases z
   obtain ⟨p,ps,_,rfl,tp,rp⟩:=aK r1
   obtain ⟨q,qs,_,rfl,tq,rq⟩:=aK r2
   obtain ⟨v1,ps,_,_,rfl,a1,rp⟩:=aw rp
   obtain ⟨v2,ps,_,_,rfl,a2,rp⟩:=aw rp
   cases aZ rp
   obtain ⟨w1,qs,_,_,rfl,c1,rq⟩:=aw rq
   obtain ⟨w2,qs,_,_,rfl,c2,rq⟩:=aw rq
   cases aZ rq
   refine .tuples tp tq (by omega) (gz a1 c1 λ hn=>?_)
   rw [tG (λ z=>nk ⟨hn,z⟩)]
   exact mv (fP t u) (eqAt_reads _ _ _ s _ _ _ _ a2 c2 (cJ t) (cJ u) (by show A.units + 1 + _ < _; omega)) (λ _=>uP t u _ s _ _ _ _ a2 c2 (by show A.units + 1 + _ < _; omega)) (λ z=>absurd ⟨hn,z⟩ nk)
end
end L2
set_option Elab.async false
set_option linter.all false
set_option maxRecDepth 100000
namespace PyProof.Rows
open PySem
section
variable {prog:Program} {w:World} {A:Around} {E:Value->Shared->Prop} {s:Shared}
theorem qD {κ:KeyKind} {κ0:SortKind} {l:Addr} {vs:List Value} {Q:Value->Shared->Prop} (hl:s.heap.IsList l vs.toArray) (h0:KeysOf κ (pairsOf vs)) (hkk:∀ (A':Around) (s':Shared),A'.units<=A.units + 4->(∀b o,s.heap.get? b=some o->s'.heap.get? b=some o)->bK prog w A' s' κ0 κ/\∀v₁ v₂ rest,vs=v₁ :: v₂ :: rest->∀ (Q:SortKind->Shared->Prop) (E':Value->Shared->Prop),Q κ0 s'->wpAny (model prog w) A' (keyKind' (v₁ :: v₂ :: rest).toArray) Q E' s') (h64:vs.length < 64)
  (h:∀st':SortSt,(arrOf st').Perm (pairsOf vs)->SortedToK κ (arrOf st') (pairsOf vs).size->Q (.ref (s.heap.objs.size + 1)) { s with heap:=sortedAll s.heap vs ((arrOf st').map (·.2)) }) :
  wpAny (model prog w) A (call (.builtin "sorted") [.ref l]) Q E s:=by
 refine Calls.call_function_entry kind_sorted plain_sorted entry_sorted (args_sorted1 _) ?_
 unfold Builtin.«sorted»
 refine wpAny_bind (m:=checkCount "sorted" 1 1 _) (wpAny_pure ?_)
 refine wpAny_bind (collect_list hl ?_)
 refine wpAny_bind (wpAny_newList ?_)
 have hsz:((s.heap.push (seqObj "list" #[] 0)).update s.heap.objs.size (Obj.mapSeq (· ++ vs.toArray))).objs.size=s.heap.objs.size + 1:=by
  rw [Heap.size_update,size_push']
 have hoL:(((s.heap.push (seqObj "list" #[] 0)).update s.heap.objs.size (Obj.mapSeq (· ++ vs.toArray))).push (seqObj "list" vs.toArray 0)).get? (s.heap.objs.size + 1)=some (seqObj "list" vs.toArray 0):=by
  rw [<- hsz]; exact Heap.get?_push_size _ rfl
 show wpAny _ _ _ _ _ { s with heap:=((s.heap.push (seqObj "list" #[] 0)).update s.heap.objs.size (Obj.mapSeq (· ++ vs.toArray))).push (seqObj "list" vs.toArray 0) }
 rw [hsz]
 refine wpAny_bind (wpAny_holding (wpAny_call_entry slot_list_sort ⟨_,hoL,rfl⟩ entry_list_sort (dm hoL h0 (λ s' k=>by refine And.imp id (λ a2 v1 v2 r e Q q=>a2 v1 v2 r e Q _ q) (hkk _ s' ?_ (λ b o e=>k b o (Nat.ne_of_lt (Nat.lt_succ_of_lt (Heap.lt_size e))) (Heap.get?_push_of_some _ (by rw [Heap.get?_update_ne _ _ _ _ (Nat.ne_of_lt (Heap.lt_size e))]; exact Heap.get?_push_of_some _ e)))); show A.units + 1 + 1<=A.units + 4; omega) h64 λ st' a1 a2=>⟨_,Y,?_⟩) (args_list_sort _)))
 exact wpAny_pure ⟨_,rfl,h st' a1 a2⟩
end
end PyProof.Rows
namespace L2
open PySem PySem.Spec PyProof.Rows PySem.SeqAt
mutual
theorem gA {h h':Heap} (k:∀b o,h.get? b=some o->h'.get? b=some o):∀ {v:Value} {d:PyData} {as:List Addr},Reads h v d as->Reads h' v d as
 | _,_,_,.none=>.none
 | _,_,_,.bool b=>.bool b
 | _,_,_,.int i t=>.int i t
 | _,_,_,.str x t=>.str x t
 | _,_,_,.list h1 h2 h3 h4=>.list (k _ _ h1) h2 h3 (dI k h4)
 | _,_,_,.tuple h1 h2 h3 h4=>.tuple (k _ _ h1) h2 h3 (dI k h4)
 | _,_,_,.dict h1 h2 h3 h4 h5=>.dict (k _ _ h1) h2 h3 (dI k h4) (dI k h5)
theorem dI {h h':Heap} (k:∀b o,h.get? b=some o->h'.get? b=some o):∀ {v:List Value} {d:List PyData} {as:List Addr},ReadsAll h v d as->ReadsAll h' v d as
 | _,_,_,.nil=>.nil
 | _,_,_,.cons a r=>.cons (gA k a) (dI k r)
end
def ItR (h:Heap) (m:Nat) (v:Value) (z:Int×Tl):Prop:=(∃as,Reads h v (.tuple [.int z.1,tlD z.2]) as)/\(tlD z.2).depth<=m
def bS (z:Int×Tl):List Int:=z.1 :: enc z.2
theorem qE {a b:Int×Tl} (h:bS a=bS b):a=b:=by
 obtain ⟨n,t⟩:=a
 obtain ⟨m,u⟩:=b
 have h:n :: enc t=m :: enc u:=h
 injection h with h1 h2
 rw [h1,tF h2]
theorem vF (n:Int) (t:Tl):(PyData.tuple [.int n,tlD t]).canLay0=true:=by
 simp only [PyData.canLay0,PyData.canLayAll0,Bool.and_true,Bool.true_and]
 exact cJ t
theorem ItR.uniq {h:Heap} {m:Nat} {v:Value} {a b:Int×Tl} (ha:ItR h m v a) (hb:ItR h m v b):a=b:=by
 obtain ⟨⟨as,ra⟩,_⟩:=ha
 obtain ⟨⟨bs,rb⟩,_⟩:=hb
 have:=Reads.unique _ _ v as bs (vF _ _) ra rb
 obtain ⟨n,t⟩:=a
 obtain ⟨n',t'⟩:=b
 simp only [PyData.tuple.injEq,List.cons.injEq,PyData.int.injEq,and_true] at this
 rw [this.1,tH this.2]
open Classical in
noncomputable def jS (h:Heap) (m:Nat) (v:Value):Option (List Int):=if e:∃z,ItR h m v z then some (bS e.choose) else none
theorem jT {h:Heap} {m:Nat} {v:Value} {k:List Int} (e:jS h m v=some k):∃z,ItR h m v z/\k=bS z:=by
 unfold jS at e
 split at e
 ·rename_i x
  exact ⟨_,x.choose_spec,(Option.some.inj e).symm⟩
 ·cases e
theorem qF {h:Heap} {m:Nat} {v:Value} {z:Int×Tl} (hz:ItR h m v z):jS h m v=some (bS z):=by
 unfold jS
 rw [dif_pos ⟨z,hz⟩,(Exists.choose_spec (⟨z,hz⟩:∃z,ItR h m v z)).uniq hz]
noncomputable def tlK (h:Heap) (m:Nat):KeyKind where
 α:=List Int
 blt:=aN
 irrefl:=bR
 trans:=dU
 negTrans:=gx
 total:=dW
 keyOf:=jS h m
 dflt:=[]
section
variable {prog:Program} {w:World} {A:Around} {E:Value->Shared->Prop} {s:Shared}
theorem qG {h:Heap} {m:Nat} (hu:A.units + m < cLine) (k:∀b o,h.get? b=some o->s.heap.get? b=some o):bK prog w A s (tuples' true) (tlK h m):=by
 intro E x y a b Q ha hb q
 obtain ⟨⟨n,t⟩,⟨⟨as,ra⟩,da⟩,rfl⟩:=jT ha
 obtain ⟨⟨n',t'⟩,⟨⟨bs,rb⟩,db⟩,rfl⟩:=jT hb
 obtain ⟨l,vs,_,rfl,⟨ox,hx,cx,nx,dx⟩,ra⟩:=aK (gA k ra)
 obtain ⟨l',ws,_,rfl,⟨oy,hy,cy,ny,dy⟩,rb⟩:=aK (gA k rb)
 obtain ⟨v1,vs,_,_,rfl,a1,ra⟩:=aw ra
 obtain ⟨v2,vs,_,_,rfl,a2,ra⟩:=aw ra
 cases aZ ra
 obtain ⟨w1,ws,_,_,rfl,c1,rb⟩:=aw rb
 obtain ⟨w2,ws,_,_,rfl,c2,rb⟩:=aw rb
 cases aZ rb
 have q:Q (aN (n :: enc t) (n' :: enc t')) s:=q
 rw [aN] at q
 refine PySem.W.kat_lt hx dx hy dy (PySem.W.kat_cons (mt a1 c1 prog w _ _ (PySem.W.kat_go (λ e=>PySem.W.kat_yes (PySem.W.kat_cons ?_)) (λ e=>PySem.W.kat_no ?_))))
 ·have e:n=n':=by simpa using e
  rw [if_pos e] at q
  have hd:A.units + min (tlD t).depth (tlD t').depth < cLine:=by
   have:(tlD t).depth<=m:=da
   omega
  refine eqAt_reads _ _ A s _ _ _ _ a2 c2 (cJ t) (cJ t') hd prog w _ _ (PySem.W.kat_go (λ e=>PySem.W.kat_yes (PySem.W.kat_nil ?_)) (λ e=>PySem.W.kat_no (PySem.W.kat_one _ _ ?_)))
  ·rw [(fP t t').mp e,bR] at q
   exact q
  ·have:(tlD t).depth<=m:=da
   exact uP t t' A s _ _ _ _ a2 c2 (by omega) prog w _ _ q
 ·have e:¬n=n':=by simpa using e
  rw [if_neg e] at q
  cases a1
  cases c1
  exact oneLt_int q
end
section
variable {X:Cx}
inductive rSortL (K:PySem.W.Frag) (xs:List V) (H:Hp) (Q:VK):Prop
 | mk (p:Addr) (as:List Addr) (key:Addr->Int×Tl) (h0:xs=[.ref p]) (h1:SqL K H p (as.map V.ref)) (h2:as.length < 64) (h3:∀a∈as,DatV K H (.ref a) (.tuple [.int (key a).1,tlD (key a).2])/\(tlD (key a).2).depth<=200)
  (h4:∀ (l:Addr) (as':List Addr),H l=none->as'.Perm as->(as'.map key).Pairwise (λ x y=>aN (bS y) (bS x)=false)->Q (.ref l) (upd H l (.lst (as'.map V.ref)))):rSortL K xs H Q
theorem jn (hu:X.A.units + 220 < cLine):bZ X (.builtin "sorted") (rSortL X.K):=by
 intro pins s σ H xs us Q I r h
 obtain ⟨p,as,key,rfl,hs,h64,hk,q⟩:=h
 obtain ⟨u,rfl,rfl⟩:=eD r
 obtain ⟨its,rv,pl,_⟩:=I.list hs
 have ei:=fN rv
 subst ei
 have tu:∀a∈as,ItR s.heap 200 (.ref a) (key a):=λ a ha=>by
  obtain ⟨hd,d2⟩:=hk a ha
  obtain ⟨bs,rd⟩:=I.reads hd (u:=.ref a) rfl
  exact ⟨⟨bs,rd⟩,d2⟩
 have kof:∀a∈as,(tlK s.heap 200).keyOf (.ref a)=some (bS (key a)):=λ a ha=>qF (tu a ha)
 refine qD (κ:=tlK s.heap 200) (κ0:=tuples' true) pl.isList ?keys ?kk (by rw [List.length_map]; exact h64) λ st' hp hs'=>?_
 case keys =>
  intro pr hpr
  rw [pairsOf_toList] at hpr
  obtain ⟨a,ha,e⟩:=List.mem_map.mp (List.of_mem_zip (show (pr.1,pr.2)∈_ from hpr)).1
  exact ⟨bS (key a),by rw [<- e]; exact kof a ha⟩
 case kk =>
  intro A' s' ua k
  refine ⟨qG (by omega) k,λ v1 v2 rest e Q E' q=>?_⟩
  have firsts:∀bs:List Addr,(∀a∈bs,a∈as)->∃fs,PySem.W.KatTups s'.heap (bs.map Value.ref) fs/\fs.length=bs.length/\∀v∈fs,∃i t,v=Value.int i t:=λ bs=>by
   induction bs with
   | nil=>exact λ _=>⟨[],trivial,Y,λ v hv=>by cases hv⟩
   | cons a bs ih =>
    intro hb
    obtain ⟨fs,f1,f2,f3⟩:=ih λ b hb'=>hb b (List.mem_cons_of_mem _ hb')
    obtain ⟨⟨cs,rd⟩,_⟩:=tu a (hb a List.mem_cons_self)
    obtain ⟨l,vs,_,el,⟨o,h1,h2,n,h3⟩,ra⟩:=aK (gA k rd)
    cases el
    obtain ⟨x1,vs,_,_,rfl,a1,ra⟩:=aw ra
    cases a1 with
    | int _ t =>
     refine ⟨.int (key a).1 t :: fs,PySem.W.KatTups.cons h1 h2 h3 (by simp) f1,by rw [List.length_cons,List.length_cons,f2],λ v hv=>?_⟩
     rcases List.mem_cons.mp hv with z | z
     ·exact ⟨_,t,z⟩
     ·exact f3 v z
  obtain ⟨fs,f1,f2,f3⟩:=firsts as λ _ h=>h
  rw [e] at f1
  have:(as.map Value.ref).length=rest.length + 2:=by rw [e]; rfl
  rw [List.length_map] at this
  refine PySem.W.kat_kind (T:=.type "int") f1 (by omega) (λ v hv=>?_) rfl q
  obtain ⟨i,t,rfl⟩:=f3 v hv
  exact PySem.W.Looks.of_pure rfl
 have pz:∀l:List Addr,(l.map Value.ref).zip (l.map Value.ref)=l.map λ a=>(Value.ref a,Value.ref a):=λ l=>by
  induction l with
  | nil=>rfl
  | cons a l ih=>rw [List.map_cons,List.zip_cons_cons,ih,List.map_cons]
 have hp':=Array.perm_iff_toList_perm.mp hp
 rw [pairsOf_toList,pz] at hp'
 obtain ⟨as',ea,pa⟩:=jQ (f:=λ a=>(Value.ref a,Value.ref a)) (λ pr=>match pr.1 with
  | .ref a=>some a
  | _=>none) (λ a=>rfl) hp'
 have eo:((arrOf st').map (·.2)).toList=as'.map Value.ref:=by
  rw [Array.toList_map,ea,List.map_map]; rfl
 obtain ⟨e,he⟩:=sortedAll_at s.heap (as.map Value.ref) ((arrOf st').map (·.2))
 have hn:H (s.heap.objs.size + 1)=none:=I.hok.fresh (Nat.le_succ _)
 refine ⟨.ref (s.heap.objs.size + 1),upd H (s.heap.objs.size + 1) (.lst (as'.map V.ref)),I.laid (o:=.lst (as'.map V.ref)) (t':=s.toks) (λ _ _=>sortedAll_old) (Nat.le_succ _) (show ObjOk _ _ _ _ _ (.lst _) from ⟨?_,((arrOf st').map (·.2)).toList,e,?_,?_⟩),Y,q _ as' hn pa ?_⟩
 ·rw [List.length_map,pa.length_eq]
  have:(64:Nat)<=sizeLine:=by decide
  omega
 ·rw [eo]; exact fO as'
 ·rw [he]
 ·rw [List.pairwise_iff_getElem]
  intro i j hi hj hij
  rw [List.length_map] at hi hj
  have sz:(pairsOf (as.map Value.ref)).size=as.length:=by rw [pairsOf_size,List.length_map]
  have kk:∀i (hi:i < as'.length),KK (tlK s.heap 200) (arrOf st') i=bS (key as'[i]):=λ i hi=>by
   have e:(arrOf st')[i]? = some (Value.ref as'[i],Value.ref as'[i]):=by
    rw [<- Array.getElem?_toList,ea,List.getElem?_map,List.getElem?_eq_getElem hi]; rfl
   unfold KK
   rw [e]
   show ((tlK s.heap 200).keyOf (.ref as'[i])).getD _=_
   rw [kof _ (pa.mem_iff.mp (List.getElem_mem hi))]; rfl
  have:=hs' i j (by omega) (by rw [sz,<- pa.length_eq]; exact hj)
  rw [kk i hi,kk j hj] at this
  rw [List.getElem_map,List.getElem_map]
  exact this
inductive rSortM (K:PySem.W.Frag) (xs:List V) (H:Hp) (Q:VK):Prop
 | mk (p:Addr) (ps:List (Addr×(Int×Tl))) (h0:xs=[.ref p]) (h1:SqL K H p (ps.map λ z=>V.ref z.1)) (h2:ps.length < 64) (h3:∀z∈ps,DatV K H (.ref z.1) (.tuple [.int z.2.1,tlD z.2.2])/\(tlD z.2.2).depth<=200)
  (h4:∀ (l:Addr) (ps':List (Addr×(Int×Tl))),H l=none->ps'.Perm ps->(ps'.map (·.2)).Pairwise (λ x y=>aN (bS y) (bS x)=false)->Q (.ref l) (upd H l (.lst (ps'.map λ z=>V.ref z.1)))):rSortM K xs H Q
open Classical in
theorem fg (hu:X.A.units + 220 < cLine):bZ X (.builtin "sorted") (rSortM X.K):=by
 intro pins s σ H xs us Q I r h
 obtain ⟨p,ps,rfl,hs,h64,hk,q⟩:=h
 have tu:∀z∈ps,ItR s.heap 200 (.ref z.1) z.2:=λ z hz=>by
  obtain ⟨hd,d2⟩:=hk z hz
  obtain ⟨bs,rd⟩:=I.reads hd (u:=.ref z.1) rfl
  exact ⟨⟨bs,rd⟩,d2⟩
 have hkey:∃key:Addr->Int×Tl,∀z∈ps,key z.1=z.2:=by
  refine ⟨λ a=>if e:∃z,ItR s.heap 200 (.ref a) z then e.choose else (0,.rest),λ z hz=>?_⟩
  have e:∃y,ItR s.heap 200 (.ref z.1) y:=⟨_,tu z hz⟩
  show (if e:∃y,ItR s.heap 200 (.ref z.1) y then e.choose else (0,.rest))=z.2
  rw [dif_pos e]
  exact e.choose_spec.uniq (tu z hz)
 obtain ⟨key,hkey⟩:=hkey
 have eps:∀l:List (Addr×(Int×Tl)),(∀z∈l,key z.1=z.2)->(l.map (·.1)).map (λ a=>(a,key a))=l:=λ l=>by
  induction l with
  | nil=>exact λ _=>rfl
  | cons z l ih=>exact λ h=>by rw [List.map_cons,List.map_cons,ih λ y hy=>h y (List.mem_cons_of_mem _ hy),h z List.mem_cons_self]
 refine jn hu pins s σ H _ us Q I r ⟨p,ps.map (·.1),key,rfl,by rw [List.map_map]; exact hs,by rw [List.length_map]; exact h64,λ a ha=>?_,λ l as' hl pm pw=>?_⟩
 ·obtain ⟨z,hz,rfl⟩:=List.mem_map.mp ha
  rw [hkey z hz]
  exact hk z hz
 ·have:=q l (as'.map λ a=>(a,key a)) hl (by have:=pm.map λ a=>(a,key a); rw [eps ps hkey] at this; exact this) (by rw [List.map_map]; exact pw)
  rw [List.map_map] at this
  exact this
end
end L2
set_option Elab.async false
set_option linter.all false
set_option maxRecDepth 100000
namespace L2
open PySem PySem.Spec PyProof.Rows PySem.SeqAt
section
variable {X:Cx}
theorem lp (hu:X.A.units + 220 < cLine):OpR X (compareOp .NotEq) (λ x y H Q=>∃da db,DatV X.K H x da/\DatV X.K H y db/\da.canLay0=true/\db.canLay0=true/\da.depth<=210/\Q (.bl (!PyData.eqv da db)) H):=by
 intro pins s σ H x y v u Q I rx ry h
 obtain ⟨da,db,hx,hy,s1,s2,dz,q⟩:=h
 obtain ⟨as,ra⟩:=I.reads hx rx
 obtain ⟨bs,rb⟩:=I.reads hy ry
 exact compareNe_reads ra rb s1 s2 (by have:min da.depth db.depth<=da.depth:=Nat.min_le_left _ _; omega) ⟨.bl _,H,I,rfl,q⟩
end
theorem tJ {X:Cx} (K:PySem.W.Frag) {x y:Str} {px py pos:Pos} {k:Nat} (hK:X.K=K) (hc:X.calm=true) (hN:X.N.Nodup) (h0:X.N[0]? = some x) (h1:X.N[1]? = some y) (l0:X.env.scope.names.lookup x=some .local) (l1:X.env.scope.names.lookup y=some .local) :
  PG X (.Tuple [.Name x px,.Name y py] k pos) (xW K 2 (gCons (gM 0) (gCons (gM 1) vg))) :=
 hK ▸ jg hc (ah (ai hN h0 (.inl l0) (.inr l0)) (ah (ai hN h1 (.inl l1) (.inr l1)) aG))
theorem fQ {K:PySem.W.Frag} {a:Addr} {xs:List V} {σ:St} {cap:List Nat} {k:Nat} {g:TG} {tt:TT} {te:TE} {Q:List V->Hp->Prop} {H:Hp} (hs:H a=some (.lst xs)\/H a=some (.tup xs)) (Pv:Nat->List V->Hp->Prop)
  (hk:∀i ys H',i<=xs.length->Pv i ys H'->∀o,H a=some o->H' a=some o) (h0:Pv 0 [] H)
  (ht:∀i x ys H',xs[i]? = some x->Pv i ys H'->ys.length < sizeLine/\g x (bJ σ cap k) H' λ σ2 H2=>leS (bJ σ cap k) σ2/\tt σ2 H2 λ ok H3=>if ok=true then te σ2 H3 (λ v H4=>Nx xs.length Pv i (ys ++ [v]) H4) else Nx xs.length Pv i ys H3)
  (hd:∀ys H',Pv xs.length ys H'->ys.length<=sizeLine/\Q ys H') :
  ((∃ys,SqL K H a ys)/\∃W,(∃m,W 0 m [] H)/\gX σ cap k (Itl K a) g tt te Q W)\/((∃ys,SqT K H a ys)/\∃W,(∃m,W 0 m [] H)/\gX σ cap k (Itt K a) g tt te Q W):=by
 rcases hs with z | z
 ·exact .inl ⟨⟨_,SqL.of z⟩,(dF (K:=K) (.inl z) Pv hk h0 ht hd).1 z⟩
 ·exact .inr ⟨⟨_,SqT.of z⟩,(dF (K:=K) (.inr z) Pv hk h0 ht hd).2 z⟩
theorem tK {K:PySem.W.Frag} {a:Addr} {xs:List V} {g:TG} {tb:TS} {D:Ends} {σ:St} {H:Hp} (Pv:Nat->St->Hp->Prop) (h0:Pv 0 σ H) (hl:∀i σ H,i<=xs.length->Pv i σ H->SqL K H a xs)
  (hs:∀i x σ H,i < xs.length->xs[xs.length - 1 - i]? = some x->Pv i σ H->g x σ H λ σ2 H2=>tb { D with nx:=Pv (i + 1),ct:=Pv (i + 1),bk:=D.nx } σ2 H2) (hd:∀σ H,Pv xs.length σ H->D.nx σ H) :
  ∃W:Nat->Nat->St->Hp->Prop,(∃m,W 0 m σ H)/\∀i m σ H,W i m σ H ->
   ((Itv K a xs.length).stop i H/\D.nx σ H)\/((Itv K a xs.length).go i H/\∃N:St->Hp->Prop,(∀σ' H',N σ' H'->∃m',m' < m/\W (i + 1) m' σ' H')/\∀x H',(Itv K a xs.length).yld i H x H'->g x σ H' λ σ2 H2=>tb { D with nx:=N,ct:=N,bk:=D.nx } σ2 H2):=by
 refine ⟨λ i m σ H=>m=xs.length - i/\i<=xs.length/\Pv i σ H,⟨xs.length,by simp,Nat.zero_le _,h0⟩,?_⟩
 rintro i m σ H ⟨rfl,hi,p⟩
 have q:=hl i σ H hi p
 by_cases hlt:i < xs.length
 ·have hj:xs.length - 1 - i < xs.length:=by omega
  refine .inr ⟨⟨hlt,xs,xs[xs.length - 1 - i],q,List.getElem?_eq_getElem hj⟩,Pv (i + 1),λ σ' H' p'=>⟨xs.length - (i + 1),by omega,Y,hlt,p'⟩,λ x H' y=>?_⟩
  obtain ⟨e,y⟩:=y
  subst e
  exact hs i x σ _ hlt (y xs q) p
 ·have e:i=xs.length:=by omega
  subst e
  exact .inl ⟨Y,hd σ H p⟩
end L2
set_option Elab.async false
set_option linter.all false
set_option maxRecDepth 100000
namespace Pc
open PySem L2
def top (i:Nat):Stmt:=PySem.Challenge.pw_platecuts_k83_whole_exchanges_keep_telli.main.body.getD i (.Pass ⟨0,0,0,0⟩)
abbrev yc:Stmt:=top 0
abbrev jo:Stmt:=top 11
abbrev jp:Stmt:=top 12
abbrev tL:Stmt:=top 13
abbrev cG:Stmt:=top 14
abbrev gB:Stmt:=top 19
abbrev dX:Stmt:=top 20
abbrev cH:Stmt:=top 27
abbrev jq:Stmt:=top 28
abbrev gC:Stmt:=top 29
abbrev cf:Stmt:=top 30
abbrev gD:Stmt:=top 31
abbrev cY:Stmt:=top 32
abbrev dY:Stmt:=top 33
abbrev cZ:Stmt:=top 37
abbrev de:Stmt:=top 38
abbrev bo:Stmt:=top 39
abbrev df:Stmt:=top 40
abbrev jr:Stmt:=top 41
abbrev fh:Stmt:=top 42
abbrev bT:Stmt:=top 43
abbrev bE:Stmt:=top 44
abbrev be:Stmt:=top 45
abbrev dZ:Stmt:=top 46
abbrev ec:Stmt:=top 48
abbrev cP:Stmt:=top 49
abbrev dJ:Stmt:=top 50
abbrev fi:Stmt:=top 51
abbrev gE:Stmt:=top 55
abbrev gF:Stmt:=top 56
abbrev cQ:Stmt:=inClass (top 57) 0
abbrev dg:Stmt:=inClass (top 57) 1
abbrev dh:Stmt:=inClass (top 57) 2
abbrev jU:Stmt:=inClass (top 57) 3
abbrev jV:Stmt:=inClass (top 57) 4
abbrev cg:Stmt:=inClass (top 57) 5
abbrev di:Stmt:=inClass (top 57) 6
abbrev fj:Stmt:=top 59
abbrev mx:Stmt:=top 61
abbrev tM:Stmt:=top 62
abbrev my:Stmt:=top 63
abbrev mz:Stmt:=top 64
abbrev mB:Stmt:=top 65
abbrev js:Stmt:=top 66
abbrev mC:Stmt:=top 67
abbrev jt:Stmt:=top 68
abbrev gG:Stmt:=top 69
abbrev gH:Stmt:=top 70
abbrev mD:Stmt:=top 71
abbrev iG:Stmt:=top 72
abbrev dj:Stmt:=top 73
abbrev cR:Stmt:=top 74
abbrev ef:Stmt:=top 75
abbrev mE:Stmt:=top 76
abbrev jW:Stmt:=top 77
section
variable {P:Program} {w:World} {K:PySem.W.Frag} {mg:Str->Option Value} {base:Heap}
structure Blt (mg:Str->Option Value):Prop where
 isi:mg "isinstance" = none
 int:mg "int" = none
 bool:mg "bool" = none
 list:mg "list" = none
 tuple:mg "tuple" = none
 len:mg "len" = none
 range:mg "range" = none
 max:mg "max" = none
 min:mg "min" = none
 abs:mg "abs" = none
 divmod:mg "divmod" = none
 sum:mg "sum" = none
 sorted:mg "sorted" = none
 all:mg "all" = none
 repr:mg "repr" = none
 zip:mg "zip" = none
 enumerate:mg "enumerate" = none
 mostk:∃t,mg "MOST_KINDS" = some (.int 8 t)
 fivek:∃t,mg "THINGS_OF_A_KIND" = some (.int 5 t)
end
theorem yd {H H':Hp} {p:Addr} (s:Same H H'):But p H H':=λ c o _ e=>s c o e
theorem cI {t u:TS} {D:Ends} {σ:St} {H:Hp} (C:(St->Hp->Prop)->Prop) (h1:∀R:St->Hp->Prop,C R->t { D with nx:=R } σ H) (h2:C (u D)):sH t u D σ H:=h1 _ h2
theorem ap {t u:TS} {D:Ends} {σ:St} {H:Hp} (C:(St->Hp->Prop)->Prop) (h1:∀D':Ends,C D'.nx->t D' σ H) (h2:C (u D)):sH t u D σ H:=h1 _ h2
theorem cK {P:Prop} (h:∀G:Prop,(P->G)->G):P:=h P id
theorem bF {t u:TS} {D:Ends} {σ:St} {H:Hp} (J:St->Hp->Prop) (h1:∀R:St->Hp->Prop,(∀σ' H',J σ' H'->R σ' H')->t { D with nx:=R } σ H) (h2:∀σ' H',J σ' H'->u D σ' H'):sH t u D σ H:=h1 _ h2
section
variable {P:Program} {w:World} {K:PySem.W.Frag} {mg:Str->Option Value} {base:Heap}
theorem tN:FnScope ["thing","least"] ["thing","least"] (defScope jo):=⟨Y,Y,Y,by decide +kernel,Y,by decide +kernel,by decide +kernel⟩
theorem qH {f:Addr} {fd:FuncData} (F:Fun K "is_whole" "is_whole" jo f fd) (B:Blt mg):FnOk P w K mg base CX0 1 f fd ["thing","least"] (ce K):=by
 refine F.ok tN (λ vs H Q E h=>?_) (λ cdv A outer s H vs Q E hr h=>?_)
 ·obtain ⟨x,T,l,rfl,_⟩:=h
  rfl
 obtain ⟨x,T,l,rfl,⟨tn,ty⟩,q⟩:=h
 refine ⟨_,ag (av (cr (aF cF rfl B.isi PyProof.Rows.boot_isinstance (aa (pv 0) (aa (dO (v:=.ty "int") rfl B.int PyProof.Rows.boot_int rfl) ab)))
  (cr (pU (aF cF rfl B.isi PyProof.Rows.boot_isinstance (aa (pv 0) (aa (dO (v:=.ty "bool") rfl B.bool PyProof.Rows.boot_bool rfl) ab))))
  (dw (bq uH (pv 0) (pv 1) (aD _)))))),?_⟩
 refine ⟨_,Y,x,_,_,_,_,Y,ty,Y,sY T tn,_,Y,?_⟩
 have tb:=mh ty
 refine ca (λ c=>?_) (λ c=>?_)
 ·refine ⟨_,Y,x,_,_,_,_,Y,ty,Y,jL T tn,_,Y,_,Y,?_⟩
  refine ca (λ c2=>?_) (λ c2=>?_)
  ·have hT:(T == "int")=true:=by
    have:(T == "bool")=false:=by simpa using c2
    rw [this,Bool.or_false] at c; exact c
   obtain ⟨i,rfl⟩:=vB ty tn hT
   exact ⟨_,Y,_,Y,_,_,Y,Y,q⟩
  ·have hT:nz x=true:=by
    rw [<- tb]
    cases e:(T == "bool") with
    | true=>rfl
    | false=>rw [e] at c2; exact absurd rfl c2
   cases x <;> first | exact q | (exact absurd hT Bool.false_ne_true)
 ·have hx:aV x l=false:=by
   cases x with
   | int i =>
    exfalso
    have ty':=ty
    generalize hv:Value.type T=tv at ty'
    cases ty' with
    | int=>cases hv; exact c rfl
   | _=>rfl
  rw [hx] at q
  exact q
theorem tO:FnScope ["thing"] ["thing"] (defScope jp):=⟨Y,Y,Y,by decide +kernel,Y,by decide +kernel,by decide +kernel⟩
theorem qI {f:Addr} {fd:FuncData} (F:Fun K "is_truth" "is_truth" jp f fd) (B:Blt mg):FnOk P w K mg base CX0 1 f fd ["thing"] (gu K):=by
 refine F.ok tO (λ vs H Q E h=>?_) (λ cdv A outer s H vs Q E hr h=>?_)
 ·obtain ⟨x,T,rfl,_⟩:=h
  rfl
 obtain ⟨x,T,rfl,⟨tn,ty⟩,q⟩:=h
 refine ⟨_,ag (av (aF cF rfl B.isi PyProof.Rows.boot_isinstance (aa (pv 0) (aa (dO (v:=.ty "bool") rfl B.bool PyProof.Rows.boot_bool rfl) ab)))),?_⟩
 refine ⟨_,Y,x,_,_,_,_,Y,ty,Y,jL T tn,?_⟩
 rw [mh ty]
 exact q
theorem ye:FnScope ["thing"] ["thing"] (defScope tL):=⟨Y,Y,Y,by decide +kernel,Y,by decide +kernel,by decide +kernel⟩
theorem vG {f:Addr} {fd:FuncData} (F:Fun K "is_row" "is_row" tL f fd) (B:Blt mg):FnOk P w K mg base CX0 1 f fd ["thing"] (gZ K):=by
 refine F.ok ye (λ vs H Q E h=>?_) (λ cdv A outer s H vs Q E hr h=>?_)
 ·obtain ⟨x,T,rfl,_⟩:=h
  rfl
 obtain ⟨x,T,rfl,ty,q⟩:=h
 refine ⟨_,ag (av (aF jf rfl B.isi PyProof.Rows.boot_isinstance (aa (pv 0) (aa (ax (aa (dO (v:=.ty "list") rfl B.list PyProof.Rows.boot_list rfl) (aa (dO (v:=.ty "tuple") rfl B.tuple PyProof.Rows.boot_tuple rfl) ab))) ab)))),?_⟩
 refine ⟨_,Y,zS2,λ p hp=>?_⟩
 have s1:Same H (upd H p (.tup [.ty "list",.ty "tuple"])):=λ b o e=>by rw [am (au e hp)]; exact e
 have t2:=Ty.same s1 ty
 exact ⟨x,p,_,_,_,_,Y,t2.2,af,Y,tj T ty.1,q _ s1⟩
theorem scIsKind:FnScope ["thing","wide","high","worth","wanted","turns"] ["thing"] (defScope gE):=⟨Y,Y,Y,by decide +kernel,Y,by decide +kernel,by decide +kernel⟩
theorem nI {f:Addr} {fd:FuncData} (F:Fun K "is_kind" "is_kind" gE f fd) (B:Blt mg) (DW:Dn P w K mg base "is_whole" ["thing","least"] 1 (ce K)) (DT:Dn P w K mg base "is_truth" ["thing"] 1 (gu K)) (DR:Dn P w K mg base "is_row" ["thing"] 1 (gZ K)) :
  FnOk P w K mg base CX0 2 f fd ["thing"] (fb K):=by
 refine F.ok scIsKind (λ vs H Q E h=>?_) (λ cdv A outer s H vs Q E hr h=>?_)
 ·obtain ⟨x,T,rfl,_⟩:=h
  rfl
 obtain ⟨x,T,rfl,ty,q⟩:=h
 obtain ⟨tk,htk⟩:=B.fivek
 have nd:=scIsKind.nd
 refine ⟨_,ae (aI (PW.pt (bY (bf (aS (aj DR hr rfl (aa (pv 0) ab)))) (cq (aB gQ (aF aW rfl B.len PySem.boot_len (aa (pv 0) ab)) (aR (v:=.int 5) rfl htk ⟨tk,Y⟩) (aD _))))) (ag (av cM)) aA)
  (ae (bd (pv 0) (jg rfl (ah (ai (i:=1) nd rfl (Or.inl rfl)) (ah (ai (i:=2) nd rfl (Or.inl rfl)) (ah (ai (i:=3) nd rfl (Or.inl rfl)) (ah (ai (i:=4) nd rfl (Or.inl rfl)) (ah (ai (i:=5) nd rfl (Or.inl rfl)) aG)))))))
  (ae (aI (PW.pt (bY (bf (aS (aj DW hr rfl (aa (pv 1) (aa ad ab))))) (cq (bf (aS (aj DW hr rfl (aa (pv 2) (aa ad ab)))))))) (ag (av cM)) aA)
  (ag (av (cr (aj DW hr rfl (aa (pv 3) (aa ad ab))) (cr (aj DW hr rfl (aa (pv 4) (aa ad ab))) (dw (aj DT hr rfl (aa (pv 5) ab))))))))),?_⟩
 refine ⟨_,Y,x,T,Y,ty,λ H1 s1=>⟨_,Y,?_⟩⟩
 rcases q with ⟨n1,n2,q⟩ | ⟨a,xs,rfl,hx,its,q⟩
 ·have e:(T == "list" || T == "tuple")=false:=by simp [n1,n2]
  rw [e]
  refine aP (aP ?_)
  exact q H1 s1
 ·have e:(T == "list" || T == "tuple")=true:=by
   have t2:=ty.2
   generalize hv:Value.type T=tv at t2
   generalize hr:V.ref a=rv at t2
   cases t2 with
   | lst _=>cases hv; rfl
   | frz _=>cases hv; rfl
   | tup _=>cases hv; rfl
   | dK e=>cases hr; rcases hx with z | z <;> (rw [z] at e; cases e)
   | dT e=>cases hr; rcases hx with z | z <;> (rw [z] at e; cases e)
   | ins=>cases hv
   | _=>cases hr
  rw [e]
  have sq:SqL K H1 a xs\/SqT K H1 a xs:=by
   rcases hx with z | z
   ·exact .inl (SqL.of (s1 _ _ z))
   ·exact .inr (SqT.of (s1 _ _ z))
  refine aO ⟨_,rfl,a,xs,rfl,sq,rfl,_,rfl,?_⟩
  refine ca (λ c=>?_) (λ c=>?_)
  ·have hl:xs.length≠5:=λ z=>by rw [z] at c; exact absurd c (by decide)
   have:iD xs=false:=by
    unfold iD
    split
    ·exact absurd rfl hl
    ·rfl
   rw [this] at q
   exact q H1 s1
  ·have hl:xs.length=5:=by
    by_cases z:xs.length=5
    ·exact z
    ·exfalso
     apply c
     have:¬ (V.int (xs.length:Int)=V.int 5):=λ h=>z (by have:=V.int.inj h; omega)
     rw [decide_eq_false this]; rfl
   obtain ⟨x1,x2,x3,x4,x5,rfl⟩:∃x1 x2 x3 x4 x5,xs=[x1,x2,x3,x4,x5]:=by
    match xs,hl with
    | [a,b,c,d,e],_=>exact ⟨a,b,c,d,e,Y⟩
   obtain ⟨T1,t1⟩:=its x1 (by simp)
   obtain ⟨T2,t2⟩:=its x2 (by simp)
   obtain ⟨T3,t3⟩:=its x3 (by simp)
   obtain ⟨T4,t4⟩:=its x4 (by simp)
   obtain ⟨T5,t5⟩:=its x5 (by simp)
   refine ⟨_,Y,a,_,Y,sq,Y,x1,_,Y,x2,_,Y,x3,_,Y,x4,_,Y,x5,_,Y,Y,?_⟩
   refine ⟨_,Y,x1,T1,1,Y,Ty.same s1 t1,_,Y,?_⟩
   have q':∀b,iD [x1,x2,x3,x4,x5]=b->Q (.bl b) H1:=λ b e=>by rw [<- e]; exact q H1 s1
   have k5:iD [x1,x2,x3,x4,x5]=(aV x1 1 && aV x2 1 && aV x3 0 && aV x4 0 && nz x5):=rfl
   cases w1:aV x1 1 with
   | false =>
    refine aP (aP ?_)
    exact q' false (by rw [k5,w1]; rfl)
   | true =>
    refine aO ⟨_,rfl,x2,T2,1,rfl,Ty.same s1 t2,_,rfl,?_⟩
    cases w2:aV x2 1 with
    | false =>
     refine aP ?_
     exact q' false (by rw [k5,w1,w2]; rfl)
    | true =>
     refine aO ⟨_,rfl,x3,T3,0,rfl,Ty.same s1 t3,_,rfl,?_⟩
     cases w3:aV x3 0 with
     | false =>
      refine aO ?_
      exact q' false (by rw [k5,w1,w2,w3]; rfl)
     | true =>
      refine aP ⟨_,rfl,x4,T4,0,rfl,Ty.same s1 t4,_,rfl,?_⟩
      cases w4:aV x4 0 with
      | false =>
       refine aO ?_
       exact q' false (by rw [k5,w1,w2,w3,w4]; rfl)
      | true =>
       refine aP ⟨_,rfl,x5,T5,rfl,Ty.same s1 t5,?_⟩
       exact q' _ (by rw [k5,w1,w2,w3,w4]; rfl)
end
section
variable {P:Program} {w:World} {K:PySem.W.Frag} {mg:Str->Option Value} {base:Heap}
theorem scInit:FnScope ["self","blade","kinds","kind"] ["self","blade","kinds"] (defScope cQ):=⟨Y,Y,Y,by decide +kernel,Y,by decide +kernel,by decide +kernel⟩
theorem tP {f C:Addr} {fd:FuncData} (F:Fun K "__init__" "Shop.__init__" cQ f fd) (B:Blt mg) (T:ShopTxt K C) (DW:Dn P w K mg base "is_whole" ["thing","least"] 1 (ce K)) (DR:Dn P w K mg base "is_row" ["thing"] 1 (gZ K))
  (DK:Dn P w K mg base "is_kind" ["thing"] 2 (fb K)):FnOk P w K mg base CX0 3 f fd ["self","blade","kinds"] (kY C):=by
 refine F.ok scInit (λ vs H Q E h=>?_) (λ cdv A outer s H vs Q E hr h=>?_)
 ·obtain ⟨x,dx,ks,b,rs,kds,rfl,_⟩:=h
  rfl
 obtain ⟨x,dx,ks,b,rs,kds,rfl,hx,b0,hks,hrs,hgd,n1,n8,q⟩:=h
 have hr1:=hr.mono (show 1<=2 by decide)
 obtain ⟨tk,htk⟩:=B.mostk
 have nd:=scInit.nd
 have n8':(8:Nat) < sizeLine:=by decide
 refine ⟨_,ae (aI (bf (aS (aj DW hr1 rfl (aa (pv 1) (aa ad ab))))) fA aA)
  (ae (aI (PW.pt (bY (bf (aS (aj DR hr1 rfl (aa (pv 2) ab)))) (cq (bf (qb ix ix ad (aF aW rfl B.len PySem.boot_len (aa (pv 2) ab)) (aR (v:=.int 8) rfl htk ⟨tk,rfl⟩)))))) fA aA)
  (ae (bO PassesOwn.never rfl (qr (pv 2)) (ai (i:=3) nd rfl (Or.inl rfl)) (ag (aI (bf (aS (aj DK hr rfl (aa (pv 3) ab)))) fA aA)))
  (ae (qe (pv 0) (pv 1) rfl)
  (ag (qe (pv 0) (bc br rfl B.tuple PyProof.Rows.boot_tuple (aa (gt (own:=["kind"]) (cs:=[]) (cap:=[]) rfl (qr (pv 2))
   (bQ (sc:=defScope cQ) (N:=["self","blade","kinds","kind"]) rfl rfl (by decide +kernel))
   (λ _ _ _ _ _=>ai (i:=0) (by show List.Nodup (["kind"]:List Str); decide +kernel) rfl (Or.inl rfl) (Or.inr rfl)) (λ _ _ _ _ _=>cw)
   (λ _ _ _ _ _=>bc (r:=qu K) br rfl B.tuple PyProof.Rows.boot_tuple (aa (pv 0) ab))) ab)) rfl))))),?_⟩
 refine ⟨_,Y,.int b,_,0,Y,.int,_,Y,?_⟩
 have wb:aV (.int b) 0=true:=decide_eq_true b0
 rw [wb]
 refine aO ?_
 have tyk:∃T,Ty K H (.ref ks) T/\(T == "list" || T == "tuple")=true:=by
  rcases hks with e | e
  ·exact ⟨_,.lst e,Y⟩
  ·exact ⟨_,.tup e,Y⟩
 obtain ⟨T0,ty0,te0⟩:=tyk
 refine ⟨_,Y,.ref ks,T0,Y,ty0,λ H1 s1=>⟨_,Y,?_⟩⟩
 rw [te0]
 have sq:∀ {H2:Hp},Same H H2->SqL K H2 ks rs\/SqT K H2 ks rs:=λ s2=>by
  rcases hks with z | z
  ·exact .inl (SqL.of (s2 _ _ z))
  ·exact .inr (SqT.of (s2 _ _ z))
 refine aO ⟨_,rfl,ks,rs,rfl,sq s1,_,_,rfl,rfl,_,rfl,?_⟩
 rw [decide_eq_true (show (1:Int)<=(rs.length:Int) by omega)]
 refine aP ⟨_,_,rfl,rfl,_,rfl,?_⟩
 rw [decide_eq_true (show (rs.length:Int)<=8 by omega)]
 refine aO ?_
 have vW:=Paired.length hrs
 refine qv (j:=2) (a:=ks) (xs:=rs) rfl (hks.imp (λ z=>s1 _ _ z) λ z=>s1 _ _ z) (λ i σ H2=>∃v,σ=[some (.ref x),some (.int b),some (.ref ks),v]/\Same H1 H2) ⟨none,rfl,Same.refl _⟩ (λ i σ H2 _ ⟨_,_,s2⟩ o e=>s2 _ _ e) ?_ ?_
 ·rintro i y σ H2 hi ⟨v,rfl,s2⟩
  obtain ⟨k,hk,rk⟩:=Paired.getR hrs hi
  refine ⟨_,Y,?_⟩
  simp only [sO,List.append_nil]
  refine nC ((rk.same s1).same s2) (hgd k (List.mem_of_getElem? hk)) λ H3 s3=>⟨_,Y,aO ?_⟩
  exact ⟨_,Y,s2.trans s3⟩
 rintro σ H2 ⟨v,rfl,s12⟩
 have s2:Same H H2:=s1.trans s12
 refine ⟨_,Y,_,Y,x,C,dx,[],Y,s2 _ _ hx,T.cl,T.nB,(by show 0 < 1000; decide),?_⟩
 have k3:∀c o,c≠x->H c=some o->(upd H2 x (.ins C dx (cD "blade_width" (.int b) []))) c=some o:=λ c o n e=>by rw [am n]; exact s2 c o e
 have x3:(upd H2 x (.ins C dx (cD "blade_width" (.int b) []))) x=some (.ins C dx (cD "blade_width" (.int b) [])):=af
 generalize upd H2 x (.ins C dx (cD "blade_width" (.int b) []))=H3 at k3 x3 ⊢
 have rx:∀c xs,H c=some (.lst xs)\/H c=some (.tup xs)->c≠x:=λ c xs e z=>by
  subst z
  rcases e with e | e <;> (rw [hx] at e; cases e)
 dsimp only [xR,tCB,uL]
 refine nA (j:=2) (a:=ks) (xs:=rs) rfl (hks.imp (λ z=>k3 _ _ (rx _ _ (.inl z)) z) λ z=>k3 _ _ (rx _ _ (.inr z)) z) (λ i ys H4=>ys.length=i/\Same H3 H4/\Tups H4 ys (kds.take i)) (λ i ys H4 _ ⟨_,s4,_⟩ o e=>s4 _ _ e) ⟨rfl,Same.refl _,.nil⟩ ?_ ?_
 ·rintro i y ys H4 hi ⟨hy,s4,ty4⟩
  have hin:i < rs.length:=(List.getElem?_eq_some_iff.mp hi).1
  obtain ⟨k,hk,rk⟩:=Paired.getR hrs hi
  have tk1:kds.take (i + 1)=kds.take i ++ [k]:=by rw [List.take_add_one,hk]; rfl
  refine ⟨by omega,leS.set rfl,cz ?_⟩
  rcases rk with ⟨a,rfl,h⟩ | ⟨a,rfl,h⟩
  ·have h4:=s4 _ _ (k3 _ _ (rx _ _ (.inr h)) h)
   exact ⟨_,Y,a,_,Y,.inr ⟨SqT.of h4,Nx.of hin ⟨by rw [List.length_append,hy]; rfl,s4,by rw [tk1]; exact Paired.snoc ty4 ⟨a,Y,h4⟩⟩⟩⟩
  ·have h4:=s4 _ _ (k3 _ _ (rx _ _ (.inl h)) h)
   refine ⟨_,Y,a,_,Y,.inl ⟨SqL.of h4,λ l hl=>Nx.of hin ⟨by rw [List.length_append,hy]; rfl,λ c o e=>?_,?_⟩⟩⟩
   ·have e4:=s4 c o e
    rw [am (au e4 hl)]; exact e4
   ·rw [tk1]
    exact Paired.snoc (Tups.keep (λ c xs e=>by rw [am (au e hl)]; exact e) ty4) ⟨l,rfl,af⟩
 rintro ys H4 ⟨hy,s4,ty4⟩
 refine ⟨by omega,λ p hp=>?_⟩
 refine ⟨p,ys,Y,.inl ⟨SqL.of af,λ r hr'=>?_⟩⟩
 have hpr:r≠p:=λ z=>by rw [z,af] at hr'; cases hr'
 have hr4:H4 r=none:=by rw [am hpr] at hr'; exact hr'
 have x4:=s4 _ _ x3
 have xp:x≠p:=au x4 hp
 have xr:x≠r:=au x4 hr4
 refine ⟨_,Y,x,C,dx,_,Y,(by rw [am xr,am xp]; exact x4),T.cl,T.nK,(Nat.lt_of_le_of_lt (dC _ _ _) (by decide)),?_⟩
 rw [vW,List.take_length] at ty4
 refine q _ ⟨dx,r,ys,af,by rw [am (Ne.symm xr),af],?_⟩ λ c o n e=>?_
 ·refine Tups.keep (λ c xs e=>?_) ty4
  rw [am (λ z=>by rw [z,x4] at e; cases e),am (au e hr4),am (au e hp)]
  exact e
 ·have e4:=s4 _ _ (k3 c o n e)
  rw [am n,am (au e4 hr4),am (au e4 hp)]
  exact e4
theorem tQ:FnScope ["self"] ["self"] (defScope dg):=⟨Y,Y,Y,by decide +kernel,Y,by decide +kernel,by decide +kernel⟩
theorem qJ {f C:Addr} {fd:FuncData} (F:Fun K "blade" "Shop.blade" dg f fd) (T:ShopTxt K C):FnOk P w K mg base CX0 1 f fd ["self"] (cX C):=by
 refine F.ok tQ (λ vs H Q E h=>?_) (λ cdv A outer s H vs Q E hr h=>?_)
 ·obtain ⟨x,b,ks,rfl,_⟩:=h
  rfl
 obtain ⟨x,b,ks,rfl,⟨dx,r,rs,h1,h2,h3⟩,q⟩:=h
 exact ⟨_,ag (av (gS (pv 0) rfl)),_,Y,x,C,dx,_,_,Y,h1,T.cl,T.nB,kX _ _,q⟩
theorem tR:FnScope ["self"] ["self"] (defScope dh):=⟨Y,Y,Y,by decide +kernel,Y,by decide +kernel,by decide +kernel⟩
theorem qK {f C:Addr} {fd:FuncData} (F:Fun K "kinds" "Shop.kinds" dh f fd) (T:ShopTxt K C) (ml:mg "list" = none):FnOk P w K mg base CX0 1 f fd ["self"] (gv C):=by
 refine F.ok tR (λ vs H Q E h=>?_) (λ cdv A outer s H vs Q E hr h=>?_)
 ·obtain ⟨x,b,ks,rfl,_⟩:=h
  rfl
 obtain ⟨x,b,ks,rfl,⟨dx,r,rs,h1,h2,h3⟩,q⟩:=h
 refine ⟨_,ag (av (bc ja rfl ml PyProof.Rows.boot_list (aa (gS (pv 0) rfl) ab))),?_⟩
 exact ⟨_,Y,x,C,dx,_,_,Y,h1,T.cl,T.nK,dR _ _,r,rs,Y,.inr (SqT.of h2),λ l hl=>q l rs hl h3⟩
end
section
variable {P:Program} {w:World} {K:PySem.W.Frag} {mg:Str->Option Value} {base:Heap}
theorem qL:FnScope ["kind"] ["kind"] (defScope gF):=⟨Y,Y,Y,by decide +kernel,Y,by decide +kernel,by decide +kernel⟩
theorem nJ {f:Addr} {fd:FuncData} (F:Fun K "can_lie_turned" "can_lie_turned" gF f fd):FnOk P w K mg base CX0 1 f fd ["kind"] (hJ K):=by
 refine F.ok qL (λ vs H Q E h=>?_) (λ cdv A outer s H vs Q E hr h=>?_)
 ·obtain ⟨a,k,rfl,_⟩:=h
  rfl
 obtain ⟨a,k,rfl,ha,q⟩:=h
 refine ⟨_,ag (av (cr (ao ix_tup (pv 0) ad (λ _ _=>rfl)) (dw (bq gQ (ao ix_tup (pv 0) ad (λ _ _=>rfl)) (ao ix_tup (pv 0) ad (λ _ _=>rfl)) (aD _))))),?_⟩
 refine ⟨_,Y,a,_,4,_,Y,Y,SqT.of ha,Y,_,Y,?_⟩
 unfold bi at q
 refine ca (λ c=>?_) (λ c=>?_)
 ·rw [c,Bool.true_and] at q
  refine ⟨_,Y,a,_,0,_,Y,Y,SqT.of ha,Y,_,Y,a,_,1,_,Y,Y,SqT.of ha,Y,Y,?_⟩
  rw [iY]
  rw [show (decide (k.w=k.h))=(k.w == k.h) from rfl] at q
  exact q
 ·have c':k.tu=false:=by simpa using c
  rw [c',Bool.false_and] at q
  exact q
theorem nL:FnScope ["self","kind","turned"] ["self","kind","turned"] (defScope cg):=⟨Y,Y,Y,by decide +kernel,Y,by decide +kernel,by decide +kernel⟩
theorem lq {f C:Addr} {fd:FuncData} (F:Fun K "is_lying" "Shop.is_lying" cg f fd) (B:Blt mg) (T:ShopTxt K C) (DW:Dn P w K mg base "is_whole" ["thing","least"] 1 (ce K)) (DU:Dn P w K mg base "is_truth" ["thing"] 1 (gu K)) (DT:Dn P w K mg base "can_lie_turned" ["kind"] 1 (hJ K)) :
  FnOk P w K mg base CX0 2 f fd ["self","kind","turned"] (dS K C):=by
 refine F.ok nL (λ vs H Q E h=>?_) (λ cdv A outer s H vs Q E hr h=>?_)
 ·obtain ⟨s,b,ks,x,t,T0,U,rfl,_⟩:=h
  rfl
 obtain ⟨s,b,ks,x,t,T0,U,rfl,⟨dx,r,rs,h1,h2,h3⟩,tx,tt,q⟩:=h
 have vX:=Paired.length h3
 refine ⟨_,ae (aI (PW.pt (bY (bf (aS (aj DW hr rfl (aa (pv 1) (aa ad ab))))) (bY (aB uH (pv 1) (aF aW rfl B.len PySem.boot_len (aa (gS (pv 0) rfl) ab)) (aD _))
   (cq (bf (aS (aj DU hr rfl (aa (pv 2) ab)))))))) (ag (av cM)) aA)
  (ag (av (xG (pU (pv 2)) (dw (aj DT hr rfl (aa (ao ix_tup (gS (pv 0) rfl) (pv 1) (λ _ _=>rfl)) ab)))))),?_⟩
 refine ⟨_,Y,x,_,0,Y,tx,_,Y,?_⟩
 cases hw:aV x 0 with
 | false =>
  have e:ez ks x t=false:=by
   cases x with
   | int i =>
    have h0:decide (0<=i)=false:=hw
    cases t <;> first | rfl | (show (decide (0<=i) && _)=false; rw [h0,Bool.false_and])
   | _=>rfl
  rw [e] at q
  exact aP (aP q)
 | true =>
  have ex:∃i,x=.int i/\0<=i:=by
   cases x with
   | int i=>exact ⟨i,Y,of_decide_eq_true hw⟩
   | _=>cases hw
  obtain ⟨i,rfl,i0⟩:=ex
  refine aO ⟨_,rfl,_,rfl,s,C,dx,_,_,rfl,h1,T.cl,T.nK,dR _ _,r,rs,rfl,.inr (SqT.of h2),i,_,rfl,rfl,_,rfl,?_⟩
  by_cases hi:(rs.length:Int)<=i
  ·rw [decide_eq_true hi]
   have e:ez ks (.int i) t=false:=by
    have hn:ks[i.toNat]? = none:=List.getElem?_eq_none (by omega)
    cases t <;> first | rfl | (show (decide (0<=i) && match ks[i.toNat]? with | some k=>_ | none=>false)=false; rw [hn,Bool.and_false])
   rw [e] at q
   exact aP (aP q)
  ·rw [decide_eq_false hi]
   refine aO ⟨_,rfl,t,_,rfl,tt,_,rfl,?_⟩
   have hlt:i.toNat < ks.length:=by omega
   cases hb:nz t with
   | false =>
    have e:ez ks (.int i) t=false:=by cases t <;> first | rfl | cases hb
    rw [e] at q
    exact aP q
   | true =>
    have ex:∃c,t=.bl c:=by cases t <;> first | exact ⟨_,Y⟩ | cases hb
    obtain ⟨c,rfl⟩:=ex
    obtain ⟨y,hy⟩:∃y,rs[i.toNat]? = some y:=⟨rs[i.toNat]'(by omega),by simp [show i.toNat < rs.length by omega]⟩
    obtain ⟨k,hk,a,rfl,ha⟩:=Paired.getR h3 hy
    have e:ez ks (.int i) (.bl c)=(!c || bi k):=by
     show (decide (0<=i) && match ks[i.toNat]? with | some k=>(!c || bi k) | none=>false)=_
     rw [hk,decide_eq_true i0,Bool.true_and]
    rw [e] at q
    refine aO ⟨_,rfl,c,rfl,_,rfl,?_⟩
    refine ca (λ d=>?_) (λ d=>?_)
    ·rw [d,Bool.true_or] at q
     exact q
    ·have d':(!c)=false:=by simpa using d
     rw [d',Bool.false_or] at q
     have at':atI rs i=some (.ref a):=by
      have en:ixN rs.length i=some i.toNat:=by
       unfold ixN
       rw [if_pos i0,if_pos (by omega)]
      unfold atI
      rw [en]
      exact hy
     exact ⟨_,Y,s,C,dx,_,_,Y,h1,T.cl,T.nK,dR _ _,_,Y,r,rs,i,_,Y,Y,SqT.of h2,at',a,k,Y,ha,q⟩
end
def qM (k:Kd) (c:Bool):List V:=if c=true then [.int k.h,.int k.w] else [.int k.w,.int k.h]
inductive spSides (K:PySem.W.Frag) (C:Addr) (vs:List V) (H:Hp) (Q:VK) (E_:XK):Prop
 | mk (s:Addr) (b:Int) (ks:List Kd) (x t:V) (T U:String) (e_1:vs=[.ref s,x,t]) (e_2:ShopAt C H s b ks) (e_3:Ty K H x T) (e_4:Ty K H t U) (e_5:ez ks x t=true) (e_6:∀ (i:Int) (c:Bool) (k:Kd) (p:Addr),x=.int i->t=.bl c->ks[i.toNat]? = some k->ez ks x t=true->H p=none->Q (.ref p) (upd H p (.tup (qM k c)))):spSides K C vs H Q E_
theorem iH {ks:List Kd} {x t:V} (h:ez ks x t=true):∃ (i:Int) (c:Bool) (k:Kd),x=.int i/\t=.bl c/\0<=i/\ks[i.toNat]? = some k:=by
 unfold ez at h
 split at h
 ·rename_i i c
  rw [Bool.and_eq_true] at h
  obtain ⟨h1,h2⟩:=h
  split at h2
  ·rename_i k hk
   exact ⟨i,c,k,Y,Y,of_decide_eq_true h1,hk⟩
  ·cases h2
 ·cases h
theorem vH {rs:List V} {i:Int} {v:V} (i0:0<=i) (h:rs[i.toNat]? = some v):atI rs i=some v:=by
 have en:ixN rs.length i=some i.toNat:=by
  unfold ixN
  have:=(List.getElem?_eq_some_iff.mp h).1
  rw [if_pos i0,if_pos (by omega)]
 unfold atI
 rw [en]
 exact h
section
variable {P:Program} {w:World} {K:PySem.W.Frag} {mg:Str->Option Value} {base:Heap}
theorem scSides:FnScope ["self","kind","turned","row"] ["self","kind","turned"] (defScope di):=⟨Y,Y,Y,by decide +kernel,Y,by decide +kernel,by decide +kernel⟩
theorem qN {f C:Addr} {fd:FuncData} (F:Fun K "sides" "Shop.sides" di f fd) (T:ShopTxt K C) (ML:Mn P w K mg base C "is_lying" ["self","kind","turned"] 2 (dS K C)) :
  FnOk P w K mg base CX0 3 f fd ["self","kind","turned"] (spSides K C):=by
 refine F.ok scSides (λ vs H Q E h=>?_) (λ cdv A outer s H vs Q E hr h=>?_)
 ·obtain ⟨s,b,ks,x,t,T0,U,rfl,_⟩:=h
  rfl
 obtain ⟨s,b,ks,x,t,T0,U,rfl,S,tx,tt,he,hq⟩:=h
 have nd:=scSides.nd
 refine ⟨_,ae (aI (bf (aS (mj (pv 0) T.cl ML hr (aa (pv 1) (aa (pv 2) ab))))) (ag cN) aA)
  (ae (az (i:=3) nd rfl (Or.inl rfl) (ao ix_tup (gS (pv 0) rfl) (pv 1) (λ _ _=>rfl)))
  (ae (aI (aS (pv 2)) (ag (av (ax (aa (ao ix_tup (pv 3) ad (λ _ _=>rfl)) (aa (ao ix_tup (pv 3) ad (λ _ _=>rfl)) ab))))) aA)
  (ag (av (ax (aa (ao ix_tup (pv 3) ad (λ _ _=>rfl)) (aa (ao ix_tup (pv 3) ad (λ _ _=>rfl)) ab))))))),?_⟩
 obtain ⟨dx,r,rs,h1,h2,h3⟩:=id S
 refine ⟨_,Y,s,dx,_,Y,h1,bV _ _ (by decide +kernel) (by decide +kernel),_,Y,_,Y,s,b,ks,x,t,T0,U,Y,S,tx,tt,_,Y,?_⟩
 cases hl:ez ks x t with
 | false=>rw [hl] at he; cases he
 | true =>
  obtain ⟨i,c,k,rfl,rfl,i0,hk⟩:=iH hl
  have vX:=Paired.length h3
  have hik:=(List.getElem?_eq_some_iff.mp hk).1
  obtain ⟨y,hy⟩:∃y,rs[i.toNat]? = some y:=⟨rs[i.toNat]'(by omega),by simp [show i.toNat < rs.length by omega]⟩
  obtain ⟨k',hk',a,rfl,ha⟩:=Paired.getR h3 hy
  rw [hk] at hk'
  obtain rfl:=Option.some.inj hk'
  refine aO ?_
  refine ⟨_,Y,s,C,dx,_,_,Y,h1,T.cl,T.nK,dR _ _,_,Y,r,rs,i,_,Y,Y,SqT.of h2,vH i0 hy,?_⟩
  refine ⟨_,Y,_,Y,?_⟩
  cases c with
  | true =>
   refine aP ?_
   refine ⟨_,Y,a,_,1,_,Y,Y,SqT.of ha,Y,_,Y,a,_,0,_,Y,Y,SqT.of ha,Y,zS2,λ p hp=>?_⟩
   exact hq i true k p rfl rfl hk hl hp
  | false =>
   refine aO ?_
   refine ⟨_,Y,a,_,0,_,Y,Y,SqT.of ha,Y,_,Y,a,_,1,_,Y,Y,SqT.of ha,Y,zS2,λ p hp=>?_⟩
   exact hq i false k p rfl rfl hk hl hp
end
mutual
inductive Dt (p:Addr) (H:Hp):V->PyData->Prop
 | non:Dt p H .non .none
 | bl (b:Bool):Dt p H (.bl b) (.bool b)
 | int (i:Int):Dt p H (.int i) (.int i)
 | str (z:Str):Dt p H (.str z) (.str z)
 | lst {a:Addr} {xs:List V} {ds:List PyData}:a≠p->H a=some (.lst xs)->Dts p H xs ds->Dt p H (.ref a) (.list ds)
 | tup {a:Addr} {xs:List V} {ds:List PyData}:H a=some (.tup xs)->Dts p H xs ds->Dt p H (.ref a) (.tuple ds)
 | emp {a:Addr}:H a=some (.dK [])->Dt p H (.ref a) (.dict [])
inductive Dts (p:Addr) (H:Hp):List V->List PyData->Prop
 | nil:Dts p H [] []
 | cons {x:V} {d:PyData} {xs:List V} {ds:List PyData}:Dt p H x d->Dts p H xs ds->Dts p H (x :: xs) (d :: ds)
end
mutual
theorem Dt.same {p:Addr} {H H':Hp} (s:Same H H'):∀ {v:V} {d:PyData},Dt p H v d->Dt p H' v d
 | _,_,.non=>.non
 | _,_,.bl b=>.bl b
 | _,_,.int i=>.int i
 | _,_,.str z=>.str z
 | _,_,.lst n h r=>.lst n (s _ _ h) (r.same s)
 | _,_,.tup h r=>.tup (s _ _ h) (r.same s)
 | _,_,.emp h=>.emp (s _ _ h)
theorem Dts.same {p:Addr} {H H':Hp} (s:Same H H'):∀ {vs:List V} {ds:List PyData},Dts p H vs ds->Dts p H' vs ds
 | _,_,.nil=>.nil
 | _,_,.cons a r=>.cons (a.same s) (r.same s)
end
theorem Dts.length {p:Addr} {H:Hp}:∀ {vs:List V} {ds:List PyData},Dts p H vs ds->vs.length=ds.length
 | _,_,.nil=>rfl
 | _,_,.cons _ r=>by rw [List.length_cons,List.length_cons,r.length]
theorem Dt.ty {K:PySem.W.Frag} {p:Addr} {H:Hp} {v:V} {d:PyData} (h:Dt p H v d):∃T,Ty K H v T:=by
 cases h with
 | non=>exact ⟨_,Ty.non⟩
 | bl b=>exact ⟨_,Ty.bl⟩
 | int i=>exact ⟨_,Ty.int⟩
 | str z=>exact ⟨_,Ty.str⟩
 | lst _ h _=>exact ⟨_,Ty.lst h⟩
 | tup h _=>exact ⟨_,Ty.tup h⟩
 | emp h=>exact ⟨_,Ty.dK h⟩
mutual
theorem Dt.but {p:Addr} {H H':Hp} (hp:∃xs,H p=some (.lst xs)) (b:But p H H'):∀ {v:V} {d:PyData},Dt p H v d->Dt p H' v d
 | _,_,.non=>.non
 | _,_,.bl b=>.bl b
 | _,_,.int i=>.int i
 | _,_,.str z=>.str z
 | _,_,.lst n h r=>.lst n (b _ _ n h) (r.but hp b)
 | _,_,.tup h r=>.tup (b _ _ (λ z=>by obtain ⟨_,e⟩:=hp; rw [z,e] at h; cases h) h) (r.but hp b)
 | _,_,.emp h=>.emp (b _ _ (λ z=>by obtain ⟨_,e⟩:=hp; rw [z,e] at h; cases h) h)
theorem Dts.but {p:Addr} {H H':Hp} (hp:∃xs,H p=some (.lst xs)) (b:But p H H'):∀ {vs:List V} {ds:List PyData},Dts p H vs ds->Dts p H' vs ds
 | _,_,.nil=>.nil
 | _,_,.cons a r=>.cons (a.but hp b) (r.but hp b)
end
mutual
def wt:PyData->Nat
 | .str z=>z.length + 1
 | .list ds=>wts ds + 1
 | .tuple ds=>wts ds + 1
 | _=>1
def wts:List PyData->Nat
 | []=>0
 | d :: r=>wt d + wts r
end
theorem uQ (d:PyData):1<=wt d:=by cases d <;> simp only [wt] <;> omega
def aH:PyData->Option (List PyData)
 | .list ds=>some ds
 | .tuple ds=>some ds
 | _=>none
theorem qO {d x:PyData} {ds:List PyData} (h:aH d=some ds) (hx:x∈ds):sizeOf x < sizeOf d:=by
 have:=List.sizeOf_lt_of_mem hx
 cases d <;> simp only [aH,Option.some.injEq,reduceCtorEq] at h
 ·subst h; simp; omega
 ·subst h; simp; omega
theorem Dt.row {K:PySem.W.Frag} {p:Addr} {H:Hp} {v:V} {d:PyData} (h:Dt p H v d):(aH d=none/\∃T,Ty K H v T/\(T == "list" || T == "tuple")=false)\/∃a xs ds T,aH d=some ds/\v=.ref a/\(H a=some (.lst xs)\/H a=some (.tup xs))/\Dts p H xs ds/\Ty K H v T/\(T == "list" || T == "tuple")=true:=by
 cases h with
 | non=>exact .inl ⟨Y,_,Ty.non,Y⟩
 | bl b=>exact .inl ⟨Y,_,Ty.bl,Y⟩
 | int i=>exact .inl ⟨Y,_,Ty.int,Y⟩
 | str z=>exact .inl ⟨Y,_,Ty.str,Y⟩
 | lst _ h r=>exact .inr ⟨_,_,_,_,Y,Y,.inl h,r,Ty.lst h,Y⟩
 | tup h r=>exact .inr ⟨_,_,_,_,Y,Y,.inr h,r,Ty.tup h,Y⟩
 | emp h=>exact .inl ⟨Y,_,Ty.dK h,Y⟩
def bw (d:PyData) (z:Str) (n:Nat):Bool:=match aH d with
 | some (.str y :: r)=>decide (r.length + 1=n) && decide (y=z)
 | _=>false
section
variable {P:Program} {w:World} {K:PySem.W.Frag} {mg:Str->Option Value} {base:Heap}
inductive spBegins (vs:List V) (H:Hp) (Q:VK) (E_:XK):Prop
 | mk (pp:Addr) (v:V) (d:PyData) (z:Str) (n:Nat) (e_1:vs=[v,.str z,.int n]) (e_2:1<=n) (e_3:Dt pp H v d) (e_4:∀H',Same H H'->Q (.bl (bw d z n)) H'):spBegins vs H Q E_
theorem scbegins:FnScope ["thing","word","many"] ["thing","word","many"] (defScope cH):=⟨Y,Y,Y,by decide +kernel,Y,by decide +kernel,by decide +kernel⟩
theorem nM {f:Addr} {fd:FuncData} (F:Fun K "begins_with" "begins_with" cH f fd) (B:Blt mg) (bs:mg "str" = none) (DR:Dn P w K mg base "is_row" ["thing"] 1 (gZ K)):FnOk P w K mg base CX0 2 f fd ["thing","word","many"] (spBegins):=by
 refine F.ok scbegins (λ vs H Q E h=>?_) (λ cdv A outer s H vs Q E hr h=>?_)
 ·obtain ⟨pp,v,d,z,n,rfl,_⟩:=h
  rfl
 obtain ⟨pp,v,d,z,n,rfl,n1,hd,q⟩:=h
 have nd:=scbegins.nd
 refine ⟨_,(@ae _ _ _ _ _ (@aI _ _ _ _ _ _ _ _ (PW.pt (bY (@bf _ _ _ _ (@aS _ _ _ (@aj _ _ _ _ _ _ _ _ _ _ DR hr rfl (@aa _ _ _ _ _ (pv 0) ab rfl) (by decide) rfl rfl) (by intro _; rfl))) (cq (@aB _ _ _ _ _ _ _ _ gQ (@aF _ _ _ _ _ _ _ _ _ aW rfl B.len PySem.boot_len (@aa _ _ _ _ _ (pv 0) ab rfl) (by decide) (by decide) rfl rfl) (pv 2) (aD _))))) (@ag _ _ _ (@av _ _ _ _ cM)) aA) (@ag _ _ _ (@av _ _ _ _ (cr (@aF _ _ _ _ _ _ _ _ _ cF rfl B.isi PyProof.Rows.boot_isinstance (@aa _ _ _ _ _ (@ao _ _ _ _ _ _ _ aY (pv 0) ad (λ _ _=>rfl)) (@aa _ _ _ _ _ (dO (v:=.ty "str") rfl bs PyProof.Rows.boot_str rfl) ab rfl) rfl) (by decide) (by decide) rfl rfl) (dw (@bq _ _ _ _ _ _ _ _ bn (@ao _ _ _ _ _ _ _ aY (pv 0) ad (λ _ _=>rfl)) (pv 1) (aD _))))))),?_⟩
 rcases hd.row (K:=K) with ⟨e,T,ty,hT⟩ | ⟨a,xs,ds,T,e,rfl,hx,dx,ty,hT⟩
 ·refine ⟨_,Y,v,T,Y,ty,λ H1 s1=>⟨_,Y,?_⟩⟩
  rw [hT]
  have q1:=q H1 s1
  unfold bw at q1
  rw [e] at q1
  exact aP (aP q1)
 refine ⟨_,Y,_,T,Y,ty,λ H1 s1=>⟨_,Y,?_⟩⟩
 rw [hT]
 have sq:SqL K H1 a xs\/SqT K H1 a xs:=hx.imp (λ z=>SqL.of (s1 _ _ z)) λ z=>SqT.of (s1 _ _ z)
 refine aO ⟨_,rfl,a,_,rfl,sq,_,rfl,rfl,_,rfl,?_⟩
 have q1:=q H1 s1
 have len:=dx.length
 cases dx with
 | nil =>
  rw [show decide (V.int (([]:List V).length:Int)=V.int (n:Int))=false from decide_eq_false (λ z=>by have:=V.int.inj z; simp at this; omega)]
  unfold bw at q1
  rw [e] at q1
  exact aP q1
 | @cons x d1 xs ds hd1 dr =>
  have a0:atI (x :: xs) 0=some x:=aE (Int.le_refl _) rfl
  have ixs:∀Q':VK,Q' x H1->rIx K (.ref a) (.int 0) H1 Q':=λ Q' h=>sq.elim (λ z=>.inl ⟨a,_,0,x,Y,Y,z,a0,h⟩) (λ z=>.inr (.inl ⟨a,_,0,x,Y,Y,z,a0,h⟩))
  rw [List.length_cons,List.length_cons] at len
  by_cases hn:ds.length + 1=n
  ·rw [show decide (V.int ((x :: xs).length:Int)=V.int (n:Int))=true from decide_eq_true (by rw [List.length_cons,len,hn])]
   refine aO ⟨_,rfl,ixs _ ?_⟩
   cases hd1 with
   | str y =>
    refine ⟨_,_,_,_,_,Y,(Ty.str (K:=K)).2,Y,cW "str" (by simp [aJ]),_,Y,aP ?_⟩
    refine ⟨_,Y,ixs _ ⟨_,Y,Y,?_⟩⟩
    unfold bw at q1
    rw [e] at q1
    simp only [hn,decide_true,Bool.true_and] at q1
    rw [show decide (V.str y=V.str z)=decide (y=z) from decide_eq_decide.mpr ⟨V.str.inj,congrArg _⟩]
    exact q1
   | non=>exact ⟨_,_,_,_,_,Y,(Ty.non (K:=K)).2,Y,cW "NoneType" (by simp [aJ]),_,Y,aO (by unfold bw at q1; rw [e] at q1; exact q1)⟩
   | bl b=>exact ⟨_,_,_,_,_,Y,(Ty.bl (K:=K)).2,Y,cW "bool" (by simp [aJ]),_,Y,aO (by unfold bw at q1; rw [e] at q1; exact q1)⟩
   | int i=>exact ⟨_,_,_,_,_,Y,(Ty.int (K:=K)).2,Y,cW "int" (by simp [aJ]),_,Y,aO (by unfold bw at q1; rw [e] at q1; exact q1)⟩
   | lst _ h r=>exact ⟨_,_,_,_,_,Y,(Ty.lst (s1 _ _ h) (K:=K)).2,Y,cW "list" (by simp [aJ]),_,Y,aO (by unfold bw at q1; rw [e] at q1; exact q1)⟩
   | tup h r=>exact ⟨_,_,_,_,_,Y,(Ty.tup (s1 _ _ h) (K:=K)).2,Y,cW "tuple" (by simp [aJ]),_,Y,aO (by unfold bw at q1; rw [e] at q1; exact q1)⟩
   | emp h=>exact ⟨_,_,_,_,_,Y,(Ty.dK (s1 _ _ h) (K:=K)).2,Y,cW "dict" (by simp [aJ]),_,Y,aO (by unfold bw at q1; rw [e] at q1; exact q1)⟩
  ·rw [show decide (V.int ((x :: xs).length:Int)=V.int (n:Int))=false from decide_eq_false (λ z=>hn (by have:=V.int.inj z; rw [List.length_cons,len] at this; omega))]
   refine aP ?_
   have z:bw d z n=false:=by
    unfold bw
    rw [e]
    cases d1 <;> simp [hn]
   rw [z] at q1
   exact q1
def sd1 (k:Kd) (c:Bool):Int:=if c=true then k.h else k.w
def sd2 (k:Kd) (c:Bool):Int:=if c=true then k.w else k.h
theorem jX (k:Kd) (c:Bool):qM k c=[.int (sd1 k c),.int (sd2 k c)]:=by cases c <;> rfl
def fR (ks:List Kd) (w h:Int) (kv tv xv yv:V):Bool:=ez ks kv tv && aV xv 0 && aV yv 0 && (match kv,tv,xv,yv with
 | .int i,.bl c,.int x,.int y=>(match ks[i.toNat]? with
  | some k=>decide (x + sd1 k c<=w) && decide (y + sd2 k c<=h)
  | none=>false)
 | _,_,_,_=>false)
inductive spLiesG (K:PySem.W.Frag) (C:Addr) (vs:List V) (H:Hp) (Q:VK) (E_:XK):Prop
 | mk (s:Addr) (b:Int) (ks:List Kd) (w h:Int) (kv tv xv yv:V) (T1 T2 T3 T4:String) (e_1:vs=[.ref s,.int w,.int h,kv,tv,xv,yv]) (e_2:ShopAt C H s b ks) (e_3:Ty K H kv T1) (e_4:Ty K H tv T2) (e_5:Ty K H xv T3) (e_6:Ty K H yv T4) (e_7:∀H',Same H H'->Q (.bl (fR ks w h kv tv xv yv)) H'):spLiesG K C vs H Q E_
theorem scliesG:FnScope ["shop","wide","high","kind","turned","x","y","piece_wide","piece_high"] ["shop","wide","high","kind","turned","x","y"] (defScope gB):=⟨Y,Y,Y,by decide +kernel,Y,by decide +kernel,by decide +kernel⟩
theorem qQ {f C:Addr} {fd:FuncData} (F:Fun K "lies_in" "lies_in" gB f fd) (T:ShopTxt K C) (DW:Dn P w K mg base "is_whole" ["thing","least"] 1 (ce K)) (MI:Mn P w K mg base C "is_lying" ["self","kind","turned"] 2 (dS K C)) (MS:Mn P w K mg base C "sides" ["self","kind","turned"] 3 (spSides K C)):FnOk P w K mg base CX0 4 f fd ["shop","wide","high","kind","turned","x","y"] (spLiesG K C):=by
 refine F.ok scliesG (λ vs H Q E h=>?_) (λ cdv A outer s H vs Q E hr h=>?_)
 ·obtain ⟨s,b,ks,w1,h1,kv,tv,xv,yv,T1,T2,T3,T4,rfl,_⟩:=h
  rfl
 obtain ⟨s,b,ks,w1,h1',kv,tv,xv,yv,T1,T2,T3,T4,rfl,S,t1,t2,t3,t4,q⟩:=h
 have nd:=scliesG.nd
 have hr1:=hr.mono (show 1<=3 by decide)
 have hr2:=hr.mono (show 2<=3 by decide)
 refine ⟨_,(@ae _ _ _ _ _ (@aI _ _ _ _ _ _ _ _ (PW.pt (bY (@bf _ _ _ _ (@aS _ _ _ (mj (pv 0) T.cl MI hr2 (@aa _ _ _ _ _ (pv 3) (@aa _ _ _ _ _ (pv 4) ab rfl) rfl)) (by intro _; rfl))) (bY (@bf _ _ _ _ (@aS _ _ _ (@aj _ _ _ _ _ _ _ _ _ _ DW hr1 rfl (@aa _ _ _ _ _ (pv 5) (@aa _ _ _ _ _ ad ab rfl) rfl) (by decide) rfl rfl) (by intro _; rfl))) (cq (@bf _ _ _ _ (@aS _ _ _ (@aj _ _ _ _ _ _ _ _ _ _ DW hr1 rfl (@aa _ _ _ _ _ (pv 6) (@aa _ _ _ _ _ ad ab rfl) rfl) (by decide) rfl rfl) (by intro _; rfl))))))) (@ag _ _ _ (@av _ _ _ _ cM)) aA) (@ae _ _ _ _ _ (@bd _ _ _ _ _ _ (mj (pv 0) T.cl MS hr (@aa _ _ _ _ _ (pv 3) (@aa _ _ _ _ _ (pv 4) ab rfl) rfl)) (aT rfl (ah (ai (i:=7) nd rfl (Or.inl rfl)) (ah (ai (i:=8) nd rfl (Or.inl rfl)) aG))) rfl rfl rfl) (@ag _ _ _ (@av _ _ _ _ (cr (@bq _ _ _ _ _ _ _ _ ix (@ay _ _ _ _ _ _ _ _ aQ (pv 5) (pv 7)) (pv 1) (aD _)) (dw (@bq _ _ _ _ _ _ _ _ ix (@ay _ _ _ _ _ _ _ _ aQ (pv 6) (pv 8)) (pv 2) (aD _)))))))),?_⟩
 obtain ⟨dx,r,rs,h1,h2,h3⟩:=id S
 refine ⟨_,Y,s,dx,_,Y,h1,(bV _ _ (by decide +kernel) (by decide +kernel)),_,Y,_,Y,s,b,ks,kv,tv,T1,T2,Y,S,t1,t2,_,Y,?_⟩
 cases ly:ez ks kv tv with
 | false =>
  have q1:=q H (Same.refl _)
  unfold fR at q1
  rw [ly] at q1
  exact aP (aP q1)
 | true =>
 refine aO ⟨_,rfl,xv,T3,0,rfl,t3,_,rfl,?_⟩
 cases hx:aV xv 0 with
 | false =>
  have q1:=q H (Same.refl _)
  unfold fR at q1
  rw [ly,hx] at q1
  exact aP (aP q1)
 | true =>
 refine aO ⟨_,rfl,yv,T4,0,rfl,t4,_,rfl,?_⟩
 cases hy:aV yv 0 with
 | false =>
  have q1:=q H (Same.refl _)
  unfold fR at q1
  rw [ly,hx,hy] at q1
  exact aP q1
 | true =>
 refine aO ?_
 obtain ⟨i,c,k,rfl,rfl,i0,hk⟩:=iH ly
 obtain ⟨x1,rfl⟩:∃i,xv=.int i:=by cases xv <;> first | exact ⟨_,Y⟩ | cases hx
 obtain ⟨y1,rfl⟩:∃i,yv=.int i:=by cases yv <;> first | exact ⟨_,Y⟩ | cases hy
 refine ⟨_,Y,s,dx,_,Y,h1,(bV _ _ (by decide +kernel) (by decide +kernel)),_,Y,_,Y,s,b,ks,.int i,.bl c,T1,T2,Y,S,t1,t2,ly,λ i' c' k' p e1 e2 hk' _ hp=>?_⟩
 cases e1
 cases e2
 rw [hk] at hk'
 cases hk'
 rw [jX]
 have q1:=q _ (Same.new hp (o:=.tup [.int (sd1 k c),.int (sd2 k c)]))
 refine ⟨p,_,Y,SqT.of af,Y,_,_,Y,_,_,Y,Y,?_⟩
 refine ⟨_,Y,_,Y,_,_,Y,Y,_,Y,_,_,Y,Y,_,Y,?_⟩
 unfold fR at q1
 rw [ly,hx,hy] at q1
 simp only [hk,Bool.true_and] at q1
 refine ca (λ cc=>?_) (λ cc=>?_)
 ·refine ⟨_,Y,_,Y,_,_,Y,Y,_,Y,_,_,Y,Y,?_⟩
  rw [cc,Bool.true_and] at q1
  exact q1
 ·rw [show decide (x1 + sd1 k c<=w1)=false by simpa using cc,Bool.false_and] at q1
  exact q1
end
theorem Dts.one {p:Addr} {H:Hp} {xs:List V} {ds:List PyData} {n:Nat} (h:Dts p H xs ds) (hl:ds.length=n + 1):∃x d xs' ds',xs=x :: xs'/\ds=d :: ds'/\Dt p H x d/\Dts p H xs' ds'/\ds'.length=n:=by
 cases h with
 | nil=>cases hl
 | cons a r=>exact ⟨_,_,_,_,Y,Y,a,r,Nat.succ.inj hl⟩
theorem Dts.zero {p:Addr} {H:Hp} {xs:List V} {ds:List PyData} (h:Dts p H xs ds) (hl:ds.length=0):xs=[]/\ds=[]:=by
 cases h with
 | nil=>exact ⟨Y,Y⟩
 | cons a r=>cases hl
theorem Dts.three {p:Addr} {H:Hp} {xs:List V} {ds:List PyData} (h:Dts p H xs ds) (hl:ds.length=3):∃x1 x2 x3 d1 d2 d3,xs=[x1,x2,x3]/\ds=[d1,d2,d3]/\Dt p H x1 d1/\Dt p H x2 d2/\Dt p H x3 d3:=by
 obtain ⟨x1,d1,xs,ds,rfl,rfl,h1,h,hl⟩:=h.one hl
 obtain ⟨x2,d2,xs,ds,rfl,rfl,h2,h,hl⟩:=h.one hl
 obtain ⟨x3,d3,xs,ds,rfl,rfl,h3,h,hl⟩:=h.one hl
 obtain ⟨rfl,rfl⟩:=h.zero hl
 exact ⟨_,_,_,_,_,_,Y,Y,h1,h2,h3⟩
theorem Dts.four {p:Addr} {H:Hp} {xs:List V} {ds:List PyData} (h:Dts p H xs ds) (hl:ds.length=4):∃x1 x2 x3 x4 d1 d2 d3 d4,xs=[x1,x2,x3,x4]/\ds=[d1,d2,d3,d4]/\Dt p H x1 d1/\Dt p H x2 d2/\Dt p H x3 d3/\Dt p H x4 d4:=by
 obtain ⟨x1,d1,xs,ds,rfl,rfl,h1,h,hl⟩:=h.one hl
 obtain ⟨x2,x3,x4,d2,d3,d4,rfl,rfl,h2,h3,h4⟩:=h.three hl
 exact ⟨_,_,_,_,_,_,_,_,Y,Y,h1,h2,h3,h4⟩
section
variable {P:Program} {w:World} {K:PySem.W.Frag} {mg:Str->Option Value} {base:Heap}
structure TrC (K:PySem.W.Frag) (mg:Str->Option Value) (wa:Addr):Prop where
 dn:∃t,mg "DOWN" = some (.str "down" t)
 rs:∃t,mg "REST" = some (.str "rest" t)
 pc:∃t,mg "PIECE" = some (.str "piece" t)
 n1:∃t,mg "THINGS_OF_A_REST" = some (.int 1 t)
 n5:∃t,mg "THINGS_OF_A_PIECE" = some (.int 5 t)
 n4:∃t,mg "THINGS_OF_A_CUT" = some (.int 4 t)
 wy:mg "WAYS" = some (.ref wa)
 wq:∀H,SqT K H wa [.str "down",.str "across"]
def tS (b side:Int):PyData->Bool
 | .int p=>decide (1<=p) && decide (p + b < side)
 | _=>false
def eF (b side:Int) (d:PyData):Bool:=match aH d with
 | some [_,p,_,_]=>tS b side p
 | _=>false
def isC (b w h:Int) (d:PyData):Bool:=if bw d "down" 4=true then eF b w d else if bw d "across" 4=true then eF b h d else false
def jY (ks:List Kd) (w h:Int):PyData->PyData->PyData->PyData->Bool
 | .int i,.bool c,.int x,.int y=>fR ks w h (.int i) (.bl c) (.int x) (.int y)
 | _,_,_,_=>false
def isL (ks:List Kd) (w h:Int) (d:PyData):Bool:=if bw d "piece" 5=true then (match aH d with
 | some [_,k,t,x,y]=>jY ks w h k t x y
 | _=>false) else bw d "rest" 1
inductive spParts2 (vs:List V) (H:Hp) (Q:VK) (E_:XK):Prop
 | mk (b w h p:Int) (t:Addr) (dn:Bool) (e_1:vs=[.int b, .ref t, .str (if dn=true then "down" else "across"), .int p]) (e_2:H t=some (.tup [.int w, .int h])) (e_3:∀ (u t1 t2:Addr) (H':Hp), H' u=some (.tup [.ref t1, .ref t2])->H' t1=some (.tup (if dn=true then [.int p, .int h] else [.int w, .int p]))->H' t2=some (.tup (if dn=true then [.int (w - p - b), .int h] else [.int w, .int (h - p - b)]))->Same H H'->Q (.ref u) H'):spParts2 vs H Q E_
inductive spCut (vs:List V) (H:Hp) (Q:VK) (E_:XK):Prop
 | mk (pp:Addr) (b x y w h:Int) (sp:Addr) (v:V) (d:PyData) (e_1:vs=[.int b,.ref sp]) (e_2:H sp=some (.tup [.int x,.int y,.int w,.int h,v])) (e_3:Dt pp H v d) (e_4:∀H',Same H H'->Q (.bl (isC b w h d)) H'):spCut vs H Q E_
inductive spLeaf (C:Addr) (vs:List V) (H:Hp) (Q:VK) (E_:XK):Prop
 | mk (pp:Addr) (b' x y w h:Int) (s sp:Addr) (ks:List Kd) (v:V) (d:PyData) (e_1:vs=[.ref s,.ref sp]) (e_2:ShopAt C H s b' ks) (e_3:H sp=some (.tup [.int x,.int y,.int w,.int h,v])) (e_4:Dt pp H v d) (e_5:∀H',Same H H'->Q (.bl (isL ks w h d)) H'):spLeaf C vs H Q E_
inductive spBehind (vs:List V) (H:Hp) (Q:VK) (E_:XK):Prop
 | mk (b x y w h p:Int) (sp a:Addr) (dn:Bool) (l r:V) (e_1:vs=[.int b, .ref sp]) (e_2:H sp=some (.tup [.int x, .int y, .int w, .int h, .ref a])) (e_3:(H a=some (.lst [.str (if dn=true then "down" else "across"), .int p, l, r])\/H a=some (.tup [.str (if dn=true then "down" else "across"), .int p, l, r]))) (e_4:∀ (u t1 t2:Addr) (H':Hp), H u=none->H' u=some (.lst [.ref t1, .ref t2])->H' t1=some (.tup (if dn=true then [.int x, .int y, .int p, .int h, l] else [.int x, .int y, .int w, .int p, l]))->H' t2=some (.tup (if dn=true then [.int (x + (p + b)), .int y, .int (w - p - b), .int h, r] else [.int x, .int (y + (p + b)), .int w, .int (h - p - b), r]))->Same H H'->Q (.ref u) H'):spBehind vs H Q E_
theorem scparts2:FnScope ["blade","part","way","p","wide","high"] ["blade","part","way","p"] (defScope dX):=⟨Y,Y,Y,by decide +kernel,Y,by decide +kernel,by decide +kernel⟩
theorem nN {f wa:Addr} {fd:FuncData} (F:Fun K "cut_parts" "cut_parts" dX f fd) (Z:TrC K mg wa):FnOk P w K mg base CX0 1 f fd ["blade","part","way","p"] (spParts2):=by
 refine F.ok scparts2 (λ vs H Q E h=>?_) (λ cdv A outer s H vs Q E hr h=>?_)
 ·obtain ⟨b,w1,h1,p1,t,dn,rfl,_⟩:=h
  rfl
 obtain ⟨b,w1,h1,p1,t,dn,rfl,ht,q⟩:=h
 have nd:=scparts2.nd
 obtain ⟨tdn,hdn⟩:=Z.dn
 obtain ⟨trs,hrs⟩:=Z.rs
 obtain ⟨tpc,hpc⟩:=Z.pc
 obtain ⟨tn1,hn1⟩:=Z.n1
 obtain ⟨tn5,hn5⟩:=Z.n5
 obtain ⟨tn4,hn4⟩:=Z.n4
 refine ⟨_,(@ae _ _ _ _ _ (@bd _ _ _ _ _ _ (pv 1) (aT rfl (ah (ai (i:=4) nd rfl (Or.inl rfl)) (ah (ai (i:=5) nd rfl (Or.inl rfl)) aG))) rfl rfl rfl) (@ae _ _ _ _ _ (@aI _ _ _ _ _ _ _ _ (@aB _ _ _ _ _ _ _ _ bn (pv 2) (aR (v:=.str "down") rfl hdn ⟨tdn,Y⟩) (aD _)) (@ag _ _ _ (@av _ _ _ _ (@ax _ _ _ _ _ (@aa _ _ _ _ _ (@ax _ _ _ _ _ (@aa _ _ _ _ _ (pv 3) (@aa _ _ _ _ _ (pv 5) ab rfl) rfl)) (@aa _ _ _ _ _ (@ax _ _ _ _ _ (@aa _ _ _ _ _ (@ay _ _ _ _ _ _ _ _ aU (@ay _ _ _ _ _ _ _ _ aU (pv 4) (pv 3)) (pv 0)) (@aa _ _ _ _ _ (pv 5) ab rfl) rfl)) ab rfl) rfl)))) aA) (@ag _ _ _ (@av _ _ _ _ (@ax _ _ _ _ _ (@aa _ _ _ _ _ (@ax _ _ _ _ _ (@aa _ _ _ _ _ (pv 4) (@aa _ _ _ _ _ (pv 3) ab rfl) rfl)) (@aa _ _ _ _ _ (@ax _ _ _ _ _ (@aa _ _ _ _ _ (pv 4) (@aa _ _ _ _ _ (@ay _ _ _ _ _ _ _ _ aU (@ay _ _ _ _ _ _ _ _ aU (pv 5) (pv 3)) (pv 0)) ab rfl) rfl)) ab rfl) rfl)))))),?_⟩
 refine ⟨_,Y,t,_,Y,SqT.of ht,Y,_,_,Y,_,_,Y,Y,?_⟩
 cases dn with
 | true =>
  refine ⟨_,Y,Y,_,Y,aP ?_⟩
  refine ⟨_,Y,_,Y,zS2,λ t1 h1'=>?_⟩
  have sa:Same H (upd H t1 (.tup [.int p1,.int h1])):=Same.new h1'
  have ka:(upd H t1 (.tup [.int p1,.int h1])) t1=some (.tup [.int p1,.int h1]):=af
  generalize upd H t1 (.tup [.int p1,.int h1])=Ha at sa ka ⊢
  refine ⟨_,Y,_,Y,_,_,Y,Y,_,Y,_,_,Y,Y,_,Y,zS2,λ t2 h2'=>?_⟩
  have sb:Same Ha (upd Ha t2 (.tup [.int (w1 - p1 - b),.int h1])):=Same.new h2'
  have kb:(upd Ha t2 (.tup [.int (w1 - p1 - b),.int h1])) t2=some (.tup [.int (w1 - p1 - b),.int h1]):=af
  generalize upd Ha t2 (.tup [.int (w1 - p1 - b),.int h1])=Hb at sb kb ⊢
  refine ⟨zS2,λ u hu=>?_⟩
  have sc:Same Hb (upd Hb u (.tup [.ref t1,.ref t2])):=Same.new hu
  have kc:(upd Hb u (.tup [.ref t1,.ref t2])) u=some (.tup [.ref t1,.ref t2]):=af
  generalize upd Hb u (.tup [.ref t1,.ref t2])=Hc at sc kc ⊢
  exact q u t1 t2 Hc kc (sc _ _ (sb _ _ ka)) (sc _ _ kb) ((sa.trans sb).trans sc)
 | false =>
  refine ⟨_,Y,Y,_,Y,aO ?_⟩
  refine ⟨_,Y,_,Y,zS2,λ t1 h1'=>?_⟩
  have sa:Same H (upd H t1 (.tup [.int w1,.int p1])):=Same.new h1'
  have ka:(upd H t1 (.tup [.int w1,.int p1])) t1=some (.tup [.int w1,.int p1]):=af
  generalize upd H t1 (.tup [.int w1,.int p1])=Ha at sa ka ⊢
  refine ⟨_,Y,_,Y,_,Y,_,_,Y,Y,_,Y,_,_,Y,Y,zS2,λ t2 h2'=>?_⟩
  have sb:Same Ha (upd Ha t2 (.tup [.int w1,.int (h1 - p1 - b)])):=Same.new h2'
  have kb:(upd Ha t2 (.tup [.int w1,.int (h1 - p1 - b)])) t2=some (.tup [.int w1,.int (h1 - p1 - b)]):=af
  generalize upd Ha t2 (.tup [.int w1,.int (h1 - p1 - b)])=Hb at sb kb ⊢
  refine ⟨zS2,λ u hu=>?_⟩
  have sc:Same Hb (upd Hb u (.tup [.ref t1,.ref t2])):=Same.new hu
  have kc:(upd Hb u (.tup [.ref t1,.ref t2])) u=some (.tup [.ref t1,.ref t2]):=af
  generalize upd Hb u (.tup [.ref t1,.ref t2])=Hc at sc kc ⊢
  exact q u t1 t2 Hc kc (sc _ _ (sb _ _ ka)) (sc _ _ kb) ((sa.trans sb).trans sc)
theorem hZ {d:PyData} {z:Str} {n:Nat} (h:bw d z n=true):∃r,aH d=some (.str z :: r)/\r.length + 1=n:=by
 unfold bw at h
 split at h
 ·rename_i y r e
  rw [Bool.and_eq_true] at h
  have:=of_decide_eq_true h.2
  subst this
  exact ⟨r,e,of_decide_eq_true h.1⟩
 ·cases h
theorem Dt.ref_row {p:Addr} {H:Hp} {v:V} {d:PyData} {ds:List PyData} (h:Dt p H v d) (e:aH d=some ds):∃a xs,v=.ref a/\(H a=some (.lst xs)\/H a=some (.tup xs))/\Dts p H xs ds:=by
 cases h <;> simp only [aH,Option.some.injEq,reduceCtorEq] at e
 ·subst e; exact ⟨_,_,Y,.inl ‹_›,‹_›⟩
 ·subst e; exact ⟨_,_,Y,.inr ‹_›,‹_›⟩
theorem ixR {H H1:Hp} {a:Addr} {xs:List V} (s1:Same H H1) (hx:H a=some (.lst xs)\/H a=some (.tup xs)) {i:Int} {x:V} (e:atI xs i=some x) {Q':VK} (h:Q' x H1):rIx K (.ref a) (.int i) H1 Q' :=
 hx.elim (λ z=>.inl ⟨a,_,i,x,Y,Y,SqL.of (s1 _ _ z),e,h⟩) (λ z=>.inr (.inl ⟨a,_,i,x,Y,Y,SqT.of (s1 _ _ z),e,h⟩))
theorem sccut:FnScope ["blade","spot","tree","way","side"] ["blade","spot"] (defScope jq):=⟨Y,Y,Y,by decide +kernel,Y,by decide +kernel,by decide +kernel⟩
theorem vI {f wa:Addr} {fd:FuncData} (F:Fun K "is_cut" "is_cut" jq f fd) (Z:TrC K mg wa) (DB:Dn P w K mg base "begins_with" ["thing","word","many"] 2 spBegins) (DW:Dn P w K mg base "is_whole" ["thing","least"] 1 (ce K)):FnOk P w K mg base CX0 3 f fd ["blade","spot"] (spCut):=by
 refine F.ok sccut (λ vs H Q E h=>?_) (λ cdv A outer s H vs Q E hr h=>?_)
 ·obtain ⟨pp,b,x1,y1,w1,h1,sp,v,d,rfl,_⟩:=h
  rfl
 refine cK λ G9 k9=>?_
 obtain ⟨pp,b,x0',y0',w1,h1,sp,v,d,rfl,hsp,hd,q⟩:=h
 refine k9 ?_
 have nd:=sccut.nd
 obtain ⟨tdn,hdn⟩:=Z.dn
 obtain ⟨trs,hrs⟩:=Z.rs
 obtain ⟨tpc,hpc⟩:=Z.pc
 obtain ⟨tn1,hn1⟩:=Z.n1
 obtain ⟨tn5,hn5⟩:=Z.n5
 obtain ⟨tn4,hn4⟩:=Z.n4
 have hr1:=hr.mono (show 1<=2 by decide)
 refine ⟨_,(@ae _ _ _ _ _ (@az _ _ 2 _ _ _ _ nd rfl (Or.inl rfl) (@ao _ _ _ _ _ _ _ ix_tup (pv 1) ad (λ _ _=>rfl)) rfl (Or.inl rfl)) (@ae _ _ _ _ _ (@bO _ _ _ _ _ _ _ _ PassesOwn.never rfl (gP (aR (v:=.ref wa) rfl Z.wy rfl)) (ai (i:=3) nd rfl (Or.inl rfl)) (@ag _ _ _ (@aI _ _ _ _ _ _ _ _ (@aS _ _ _ (@aj _ _ _ _ _ _ _ _ _ _ DB hr rfl (@aa _ _ _ _ _ (pv 2) (@aa _ _ _ _ _ (pv 3) (@aa _ _ _ _ _ (aR (v:=.int 4) rfl hn4 ⟨tn4,Y⟩) ab rfl) rfl) rfl) (by decide) rfl rfl) (by intro _; rfl)) (@ae _ _ _ _ _ (@az _ _ 4 _ _ _ _ nd rfl (Or.inl rfl) (eO (@aB _ _ _ _ _ _ _ _ bn (pv 3) (aR (v:=.str "down") rfl hdn ⟨tdn,Y⟩) (aD _)) (@ao _ _ _ _ _ _ _ ix_tup (pv 1) ad (λ _ _=>rfl)) (@ao _ _ _ _ _ _ _ ix_tup (pv 1) ad (λ _ _=>rfl))) rfl (Or.inl rfl)) (@ag _ _ _ (@av _ _ _ _ (cr (@aj _ _ _ _ _ _ _ _ _ _ DW hr1 rfl (@aa _ _ _ _ _ (@ao _ _ _ _ _ _ _ aY (pv 2) ad (λ _ _=>rfl)) (@aa _ _ _ _ _ ad ab rfl) rfl) (by decide) rfl rfl) (dw (@bq _ _ _ _ _ _ _ _ lW (@ay _ _ _ _ _ _ _ _ aQ (@ao _ _ _ _ _ _ _ aY (pv 2) ad (λ _ _=>rfl)) (pv 0)) (pv 4) (aD _))))))) aA)) (by intro _; rfl)) (@ag _ _ _ (@av _ _ _ _ cM)))),?_⟩
 refine ⟨_,Y,sp,_,4,_,Y,Y,SqT.of hsp,Y,?_⟩
 refine ⟨wa, Y, ⟨_, Z.wq H⟩, gp (xs:=[.str "down", .str "across"]) (λ i σ H'=>(∃v3 v4, σ=[some (.int b), some (.ref sp), some v, v3, v4])/\Same H H'/\(1<=i->bw d "down" 4=false)/\(2<=i->bw d "across" 4=false)) ⟨⟨_, _, Y⟩, Same.refl _, λ z=>absurd z (by decide), λ z=>absurd z (by decide)⟩ (λ i σ H' _ _=>Z.wq H') ?_ ?_⟩
 ·rintro i y σ H1 hi ⟨⟨v3,v4,rfl⟩,s1,g1,g2⟩
  match i,hi with
  | 0,hi =>
   cases hi
   refine ⟨_,Y,_,Y,pp,v,d,"down",4,Y,by decide,hd.same s1,λ H2 s12=>⟨_,Y,?_⟩⟩
   have s2:=s1.trans s12
   refine ca (λ hb=>?_) (λ hb=>⟨⟨_,_,Y⟩,s2,λ _=>by simpa using hb,λ z=>absurd z (by decide)⟩)
   obtain ⟨r0,er,rl⟩:=hZ hb
   obtain ⟨a,xs,rfl,hx,dx⟩:=hd.ref_row er
   cases dx with
   | @cons x0 _ xs0 _ hd0 dx =>
   obtain ⟨x1,x2,x3,d1,d2,d3,rfl,rfl,hd1,hd2,hd3⟩:=dx.three (by simpa using rl)
   have sp2:=s2 _ _ hsp
   have co:eF b w1 d=tS b w1 d1:=by
    unfold eF
    rw [er]
   refine ⟨_,Y,Y,_,Y,aP ⟨_,Y,sp,_,2,_,Y,Y,SqT.of sp2,Y,?_⟩⟩
   have at1:atI [x0,x1,x2,x3] 1=some x1:=aE (by decide) rfl
   obtain ⟨T1,t1⟩:=(hd1.same s2).ty (K:=K)
   refine ⟨_,Y,ixR s2 hx at1 ⟨x1,T1,1,Y,t1,_,Y,?_⟩⟩
   have q1:=q H2 s2
   unfold isC at q1
   rw [if_pos hb,co] at q1
   cases hd1 with
   | int p =>
    have q1:Q (.bl (decide (1<=p) && decide (p + b < w1))) H2:=q1
    refine ca (λ cc=>?_) (λ cc=>?_)
    ·have cc:decide (1<=p)=true:=cc
     refine ⟨_,Y,ixR s2 hx at1 ⟨_,Y,_,_,Y,Y,_,Y,_,_,Y,Y,?_⟩⟩
     rw [cc,Bool.true_and] at q1
     exact q1
    ·have cc:¬ decide (1<=p)=true:=cc
     rw [show decide (1<=p)=false by simpa using cc,Bool.false_and] at q1
     exact q1
   | _=>exact aO q1
  | 1,hi =>
   cases hi
   have hb0:=g1 (by decide)
   refine ⟨_,Y,_,Y,pp,v,d,"across",4,Y,by decide,hd.same s1,λ H2 s12=>⟨_,Y,?_⟩⟩
   have s2:=s1.trans s12
   refine ca (λ hb=>?_) (λ hb=>⟨⟨_,_,Y⟩,s2,λ _=>hb0,λ _=>by simpa using hb⟩)
   obtain ⟨r0,er,rl⟩:=hZ hb
   obtain ⟨a,xs,rfl,hx,dx⟩:=hd.ref_row er
   cases dx with
   | @cons x0 _ xs0 _ hd0 dx =>
   obtain ⟨x1,x2,x3,d1,d2,d3,rfl,rfl,hd1,hd2,hd3⟩:=dx.three (by simpa using rl)
   have sp2:=s2 _ _ hsp
   have co:eF b h1 d=tS b h1 d1:=by
    unfold eF
    rw [er]
   refine ⟨_,Y,Y,_,Y,aO ⟨_,Y,sp,_,3,_,Y,Y,SqT.of sp2,Y,?_⟩⟩
   have at1:atI [x0,x1,x2,x3] 1=some x1:=aE (by decide) rfl
   obtain ⟨T1,t1⟩:=(hd1.same s2).ty (K:=K)
   refine ⟨_,Y,ixR s2 hx at1 ⟨x1,T1,1,Y,t1,_,Y,?_⟩⟩
   have q1:=q H2 s2
   unfold isC at q1
   rw [if_neg (by rw [hb0]; decide),if_pos hb,co] at q1
   cases hd1 with
   | int p =>
    have q1:Q (.bl (decide (1<=p) && decide (p + b < h1))) H2:=q1
    refine ca (λ cc=>?_) (λ cc=>?_)
    ·have cc:decide (1<=p)=true:=cc
     refine ⟨_,Y,ixR s2 hx at1 ⟨_,Y,_,_,Y,Y,_,Y,_,_,Y,Y,?_⟩⟩
     rw [cc,Bool.true_and] at q1
     exact q1
    ·have cc:¬ decide (1<=p)=true:=cc
     rw [show decide (1<=p)=false by simpa using cc,Bool.false_and] at q1
     exact q1
   | _=>exact aO q1
 ·rintro σ H1 ⟨⟨v3,v4,rfl⟩,s1,g1,g2⟩
  have q1:=q H1 s1
  unfold isC at q1
  rw [if_neg (by rw [g1 (by decide)]; decide),if_neg (by rw [g2 (by decide)]; decide)] at q1
  exact q1
theorem dq {C:Addr} {H H':Hp} {s:Addr} {b:Int} {ks:List Kd} (k:Same H H') (S:ShopAt C H s b ks):ShopAt C H' s b ks:=S.keep (λ c o e=>k _ _ e) (λ c C' d fs e=>k _ _ e)
theorem scleaf:FnScope ["shop","spot","x","y","wide","high","tree"] ["shop","spot"] (defScope gC):=⟨Y,Y,Y,by decide +kernel,Y,by decide +kernel,by decide +kernel⟩
theorem tT {f wa C:Addr} {fd:FuncData} (F:Fun K "is_leaf" "is_leaf" gC f fd) (Z:TrC K mg wa) (DB:Dn P w K mg base "begins_with" ["thing","word","many"] 2 spBegins) (DL:Dn P w K mg base "lies_in" ["shop","wide","high","kind","turned","x","y"] 4 (spLiesG K C)):FnOk P w K mg base CX0 5 f fd ["shop","spot"] (spLeaf C):=by
 refine F.ok scleaf (λ vs H Q E h=>?_) (λ cdv A outer s H vs Q E hr h=>?_)
 ·refine cK λ G9 k9=>?_
  obtain ⟨pp,b',x1,y1,w1,h1,s,sp,ks,v,d,rfl,_⟩:=h
  refine k9 ?_
  rfl
 refine cK λ G9 k9=>?_
 obtain ⟨pp,b',x0',y0',w1,h1,s,sp,ks,v,d,rfl,S,hsp,hd,q⟩:=h
 refine k9 ?_
 have nd:=scleaf.nd
 obtain ⟨tdn,hdn⟩:=Z.dn
 obtain ⟨trs,hrs⟩:=Z.rs
 obtain ⟨tpc,hpc⟩:=Z.pc
 obtain ⟨tn1,hn1⟩:=Z.n1
 obtain ⟨tn5,hn5⟩:=Z.n5
 obtain ⟨tn4,hn4⟩:=Z.n4
 have hr2:=hr.mono (show 2<=4 by decide)
 refine ⟨_,(@ae _ _ _ _ _ (@bd _ _ _ _ _ _ (pv 1) (aT rfl (ah (ai (i:=2) nd rfl (Or.inl rfl)) (ah (ai (i:=3) nd rfl (Or.inl rfl)) (ah (ai (i:=4) nd rfl (Or.inl rfl)) (ah (ai (i:=5) nd rfl (Or.inl rfl)) (ah (ai (i:=6) nd rfl (Or.inl rfl)) aG)))))) rfl rfl rfl) (@ae _ _ _ _ _ (@aI _ _ _ _ _ _ _ _ (@aS _ _ _ (@aj _ _ _ _ _ _ _ _ _ _ DB hr2 rfl (@aa _ _ _ _ _ (pv 6) (@aa _ _ _ _ _ (aR (v:=.str "piece") rfl hpc ⟨tpc,Y⟩) (@aa _ _ _ _ _ (aR (v:=.int 5) rfl hn5 ⟨tn5,Y⟩) ab rfl) rfl) rfl) (by decide) rfl rfl) (by intro _; rfl)) (@ag _ _ _ (@av _ _ _ _ (@aj _ _ _ _ _ _ _ _ _ _ DL hr rfl (@aa _ _ _ _ _ (pv 0) (@aa _ _ _ _ _ (pv 4) (@aa _ _ _ _ _ (pv 5) (@aa _ _ _ _ _ (@ao _ _ _ _ _ _ _ aY (pv 6) ad (λ _ _=>rfl)) (@aa _ _ _ _ _ (@ao _ _ _ _ _ _ _ aY (pv 6) ad (λ _ _=>rfl)) (@aa _ _ _ _ _ (@ao _ _ _ _ _ _ _ aY (pv 6) ad (λ _ _=>rfl)) (@aa _ _ _ _ _ (@ao _ _ _ _ _ _ _ aY (pv 6) ad (λ _ _=>rfl)) ab rfl) rfl) rfl) rfl) rfl) rfl) rfl) (by decide) rfl rfl))) aA) (@ag _ _ _ (@av _ _ _ _ (@aj _ _ _ _ _ _ _ _ _ _ DB hr2 rfl (@aa _ _ _ _ _ (pv 6) (@aa _ _ _ _ _ (aR (v:=.str "rest") rfl hrs ⟨trs,Y⟩) (@aa _ _ _ _ _ (aR (v:=.int 1) rfl hn1 ⟨tn1,Y⟩) ab rfl) rfl) rfl) (by decide) rfl rfl))))),?_⟩
 refine ⟨_,Y,sp,_,Y,SqT.of hsp,Y,_,_,Y,_,_,Y,_,_,Y,_,_,Y,_,_,Y,Y,?_⟩
 refine ⟨_,Y,pp,v,d,"piece",5,Y,by decide,hd,λ H1 s1=>⟨_,Y,?_⟩⟩
 refine ca (λ hb=>?_) (λ hb=>?_)
 ·obtain ⟨r0,er,rl⟩:=hZ hb
  obtain ⟨a,xs,rfl,hx,dx⟩:=hd.ref_row er
  cases dx with
  | @cons x0 _ xs0 _ hd0 dx =>
  refine cK λ G9 k9=>?_
  obtain ⟨x1,x2,x3,x4,d1,d2,d3,d4,rfl,rfl,hd1,hd2,hd3,hd4⟩:=dx.four (by simpa using rl)
  refine k9 ?_
  have a1:atI [x0,x1,x2,x3,x4] 1=some x1:=aE (by decide) rfl
  have a2:atI [x0,x1,x2,x3,x4] 2=some x2:=aE (by decide) rfl
  have a3:atI [x0,x1,x2,x3,x4] 3=some x3:=aE (by decide) rfl
  have a4:atI [x0,x1,x2,x3,x4] 4=some x4:=aE (by decide) rfl
  obtain ⟨T1,t1⟩:=(hd1.same s1).ty (K:=K)
  obtain ⟨T2,t2⟩:=(hd2.same s1).ty (K:=K)
  obtain ⟨T3,t3⟩:=(hd3.same s1).ty (K:=K)
  obtain ⟨T4,t4⟩:=(hd4.same s1).ty (K:=K)
  refine ⟨_,Y,_,Y,_,Y,_,Y,ixR s1 hx a1 ⟨_,Y,ixR s1 hx a2 ⟨_,Y,ixR s1 hx a3 ⟨_,Y,ixR s1 hx a4 ?_⟩⟩⟩⟩
  refine ⟨s,b',ks,w1,h1,x1,x2,x3,x4,T1,T2,T3,T4,Y,dq s1 S,t1,t2,t3,t4,λ H2 s2=>?_⟩
  have q1:=q H2 (s1.trans s2)
  unfold isL at q1
  rw [if_pos hb,er] at q1
  have e:jY ks w1 h1 d1 d2 d3 d4=fR ks w1 h1 x1 x2 x3 x4:=by
   cases hd1 with
   | int i=>cases hd2 with
    | bl c=>cases hd3 with
     | int x=>cases hd4 with
      | int y=>rfl
      | _=>simp [jY,fR,aV]
     | _=>simp [jY,fR,aV]
    | _=>simp [jY,fR,ez]
   | _=>simp [jY,fR,ez]
  have q1:Q (.bl (jY ks w1 h1 d1 d2 d3 d4)) H2:=q1
  rw [e] at q1
  exact q1
 ·refine ⟨_,Y,pp,v,d,"rest",1,Y,by decide,hd.same s1,λ H2 s2=>?_⟩
  have q1:=q H2 (s1.trans s2)
  unfold isL at q1
  rw [if_neg hb] at q1
  exact q1
theorem scbehind:FnScope ["blade","spot","x","y","wide","high","tree","way","p","first","second","wide_ahead","high_ahead","wide_behind","high_behind","step","far_x","far_y"] ["blade","spot"] (defScope cf):=⟨Y,Y,Y,by decide +kernel,Y,by decide +kernel,by decide +kernel⟩
set_option maxHeartbeats 1000000 in
theorem nO {f wa:Addr} {fd:FuncData} (F:Fun K "spots_behind" "spots_behind" cf f fd) (Z:TrC K mg wa) (DP:Dn P w K mg base "cut_parts" ["blade","part","way","p"] 1 spParts2):FnOk P w K mg base CX0 2 f fd ["blade","spot"] (spBehind):=by
 refine F.ok scbehind (λ vs H Q E h=>?_) (λ cdv A outer s H vs Q E hr h=>?_)
 ·refine cK λ G9 k9=>?_
  obtain ⟨b,x1,y1,w1,h1,p1,sp,a,dn,l,r,rfl,_⟩:=h
  refine k9 ?_
  rfl
 refine cK λ G9 k9=>?_
 obtain ⟨b,x1,y1,w1,h1,p1,sp,a,dn,l,r,rfl,hsp,ha,q⟩:=h
 refine k9 ?_
 have nd:=scbehind.nd
 obtain ⟨tdn,hdn⟩:=Z.dn
 obtain ⟨trs,hrs⟩:=Z.rs
 obtain ⟨tpc,hpc⟩:=Z.pc
 obtain ⟨tn1,hn1⟩:=Z.n1
 obtain ⟨tn5,hn5⟩:=Z.n5
 obtain ⟨tn4,hn4⟩:=Z.n4
 refine ⟨_,(@ae _ _ _ _ _ (@bd _ _ _ _ _ _ (pv 1) (aT rfl (ah (ai (i:=2) nd rfl (Or.inl rfl)) (ah (ai (i:=3) nd rfl (Or.inl rfl)) (ah (ai (i:=4) nd rfl (Or.inl rfl)) (ah (ai (i:=5) nd rfl (Or.inl rfl)) (ah (ai (i:=6) nd rfl (Or.inl rfl)) aG)))))) rfl rfl rfl) (@ae _ _ _ _ _ (@bd _ _ _ _ _ _ (pv 6) (jg rfl (ah (ai (i:=7) nd rfl (Or.inl rfl)) (ah (ai (i:=8) nd rfl (Or.inl rfl)) (ah (ai (i:=9) nd rfl (Or.inl rfl)) (ah (ai (i:=10) nd rfl (Or.inl rfl)) aG))))) rfl rfl rfl) (@ae _ _ _ _ _ (@bd _ _ _ _ _ _ (@aj _ _ _ _ _ _ _ _ _ _ DP hr rfl (@aa _ _ _ _ _ (pv 0) (@aa _ _ _ _ _ (@ax _ _ _ _ _ (@aa _ _ _ _ _ (pv 4) (@aa _ _ _ _ _ (pv 5) ab rfl) rfl)) (@aa _ _ _ _ _ (pv 7) (@aa _ _ _ _ _ (pv 8) ab rfl) rfl) rfl) rfl) (by decide) rfl rfl) (aT rfl (ah (aT rfl (ah (ai (i:=11) nd rfl (Or.inl rfl)) (ah (ai (i:=12) nd rfl (Or.inl rfl)) aG))) (ah (aT rfl (ah (ai (i:=13) nd rfl (Or.inl rfl)) (ah (ai (i:=14) nd rfl (Or.inl rfl)) aG))) aG))) rfl rfl rfl) (@ae _ _ _ _ _ (@az _ _ 15 _ _ _ _ nd rfl (Or.inl rfl) (@ay _ _ _ _ _ _ _ _ aQ (pv 8) (pv 0)) rfl (Or.inl rfl)) (@ae _ _ _ _ _ (@bd _ _ _ _ _ _ (eO (@aB _ _ _ _ _ _ _ _ bn (pv 7) (aR (v:=.str "down") rfl hdn ⟨tdn,Y⟩) (aD _)) (@ax _ _ _ _ _ (@aa _ _ _ _ _ (@ay _ _ _ _ _ _ _ _ aQ (pv 2) (pv 15)) (@aa _ _ _ _ _ (pv 3) ab rfl) rfl)) (@ax _ _ _ _ _ (@aa _ _ _ _ _ (pv 2) (@aa _ _ _ _ _ (@ay _ _ _ _ _ _ _ _ aQ (pv 3) (pv 15)) ab rfl) rfl))) (aT rfl (ah (ai (i:=16) nd rfl (Or.inl rfl)) (ah (ai (i:=17) nd rfl (Or.inl rfl)) aG))) rfl rfl rfl) (@ag _ _ _ (@av _ _ _ _ (@aM _ _ _ _ (@aa _ _ _ _ _ (@ax _ _ _ _ _ (@aa _ _ _ _ _ (pv 2) (@aa _ _ _ _ _ (pv 3) (@aa _ _ _ _ _ (pv 11) (@aa _ _ _ _ _ (pv 12) (@aa _ _ _ _ _ (pv 9) ab rfl) rfl) rfl) rfl) rfl)) (@aa _ _ _ _ _ (@ax _ _ _ _ _ (@aa _ _ _ _ _ (pv 16) (@aa _ _ _ _ _ (pv 17) (@aa _ _ _ _ _ (pv 13) (@aa _ _ _ _ _ (pv 14) (@aa _ _ _ _ _ (pv 10) ab rfl) rfl) rfl) rfl) rfl)) ab rfl) rfl))))))))),?_⟩
 refine ⟨_,Y,sp,_,Y,SqT.of hsp,Y,_,_,Y,_,_,Y,_,_,Y,_,_,Y,_,_,Y,Y,?_⟩
 have sq:SqL K H a [.str (if dn=true then "down" else "across"),.int p1,l,r]\/SqT K H a [.str (if dn=true then "down" else "across"),.int p1,l,r]:=ha.imp (λ z=>SqL.of z) λ z=>SqT.of z
 refine ⟨_,Y,a,_,Y,sq,Y,_,_,Y,_,_,Y,_,_,Y,_,_,Y,Y,?_⟩
 clear sq
 cases dn with
 | true =>
  refine ⟨_,Y,_,Y,_,Y,zS2,λ tp htp=>?_⟩
  have sa:Same H (upd H tp (.tup [.int w1,.int h1])):=Same.new htp
  have ka:(upd H tp (.tup [.int w1,.int h1])) tp=some (.tup [.int w1,.int h1]):=af
  generalize upd H tp (.tup [.int w1,.int h1])=Ha at sa ka ⊢
  refine ⟨_,Y,_,Y,b,w1,h1,p1,tp,true,Y,ka,λ u t1 t2 Hb ku k1 k2 sb=>?_⟩
  refine ⟨u,_,Y,SqT.of ku,Y,_,_,Y,t1,_,Y,SqT.of k1,Y,_,_,Y,_,_,Y,Y,_,_,Y,t2,_,Y,SqT.of k2,Y,_,_,Y,_,_,Y,Y,Y,?_⟩
  refine bF (λ σ' H'=>σ'=[some (.int b), some (.ref sp), some (.int x1), some (.int y1), some (.int w1), some (.int h1), some (.ref a), some (.str "down"), some (.int p1), some l, some r, some (.int p1), some (.int h1), some (.int (w1 - p1 - b)), some (.int h1), none, none, none]/\Hb=H') (λ R hR=>hR _ _ ⟨rfl, rfl⟩) ?_
  rintro _ _ ⟨rfl,rfl⟩
  refine ⟨_,Y,_,Y,_,_,Y,Y,?_⟩
  refine ⟨_,Y,Y,_,Y,aP ⟨_,Y,_,Y,_,_,Y,Y,_,Y,zS2,λ tf hf=>?_⟩⟩
  have sd:Same Hb (upd Hb tf (.tup [.int (x1 + (p1 + b)),.int y1])):=Same.new hf
  have kd:(upd Hb tf (.tup [.int (x1 + (p1 + b)),.int y1])) tf=some (.tup [.int (x1 + (p1 + b)),.int y1]):=af
  generalize upd Hb tf (.tup [.int (x1 + (p1 + b)),.int y1])=Hd at sd kd ⊢
  refine ⟨tf,_,Y,SqT.of kd,Y,_,_,Y,_,_,Y,Y,?_⟩
  refine ⟨_,Y,_,Y,_,Y,_,Y,_,Y,zS5,λ g1 hg1=>?_⟩
  have se:Same Hd (upd Hd g1 (.tup [.int x1,.int y1,.int p1,.int h1,l])):=Same.new hg1
  have ke:(upd Hd g1 (.tup [.int x1,.int y1,.int p1,.int h1,l])) g1=some (.tup [.int x1,.int y1,.int p1,.int h1,l]):=af
  generalize upd Hd g1 (.tup [.int x1,.int y1,.int p1,.int h1,l])=He at se ke ⊢
  refine ⟨_,Y,_,Y,_,Y,_,Y,_,Y,zS5,λ g2 hg2=>?_⟩
  have sf:Same He (upd He g2 (.tup [.int (x1 + (p1 + b)),.int y1,.int (w1 - p1 - b),.int h1,r])):=Same.new hg2
  have kf:(upd He g2 (.tup [.int (x1 + (p1 + b)),.int y1,.int (w1 - p1 - b),.int h1,r])) g2=some (.tup [.int (x1 + (p1 + b)),.int y1,.int (w1 - p1 - b),.int h1,r]):=af
  generalize upd He g2 (.tup [.int (x1 + (p1 + b)),.int y1,.int (w1 - p1 - b),.int h1,r])=Hf at sf kf ⊢
  refine ⟨zS2,λ lu hlu=>?_⟩
  have sg:Same Hf (upd Hf lu (.lst [.ref g1,.ref g2])):=Same.new hlu
  have kg:(upd Hf lu (.lst [.ref g1,.ref g2])) lu=some (.lst [.ref g1,.ref g2]):=af
  generalize upd Hf lu (.lst [.ref g1,.ref g2])=Hg at sg kg ⊢
  have sA:=((((sa.trans sb).trans sd).trans se).trans sf)
  exact q lu g1 g2 Hg (sA.free hlu) kg (sg _ _ (sf _ _ ke)) (sg _ _ kf) (sA.trans sg)
 | false =>
  refine ⟨_,Y,_,Y,_,Y,zS2,λ tp htp=>?_⟩
  have sa:Same H (upd H tp (.tup [.int w1,.int h1])):=Same.new htp
  have ka:(upd H tp (.tup [.int w1,.int h1])) tp=some (.tup [.int w1,.int h1]):=af
  generalize upd H tp (.tup [.int w1,.int h1])=Ha at sa ka ⊢
  refine ⟨_,Y,_,Y,b,w1,h1,p1,tp,false,Y,ka,λ u t1 t2 Hb ku k1 k2 sb=>?_⟩
  refine ⟨u,_,Y,SqT.of ku,Y,_,_,Y,t1,_,Y,SqT.of k1,Y,_,_,Y,_,_,Y,Y,_,_,Y,t2,_,Y,SqT.of k2,Y,_,_,Y,_,_,Y,Y,Y,?_⟩
  refine bF (λ σ' H'=>σ'=[some (.int b), some (.ref sp), some (.int x1), some (.int y1), some (.int w1), some (.int h1), some (.ref a), some (.str "across"), some (.int p1), some l, some r, some (.int w1), some (.int p1), some (.int w1), some (.int (h1 - p1 - b)), none, none, none]/\Hb=H') (λ R hR=>hR _ _ ⟨rfl, rfl⟩) ?_
  rintro _ _ ⟨rfl,rfl⟩
  refine ⟨_,Y,_,Y,_,_,Y,Y,?_⟩
  refine ⟨_,Y,Y,_,Y,aO ⟨_,Y,_,Y,_,Y,_,_,Y,Y,zS2,λ tf hf=>?_⟩⟩
  have sd:Same Hb (upd Hb tf (.tup [.int x1,.int (y1 + (p1 + b))])):=Same.new hf
  have kd:(upd Hb tf (.tup [.int x1,.int (y1 + (p1 + b))])) tf=some (.tup [.int x1,.int (y1 + (p1 + b))]):=af
  generalize upd Hb tf (.tup [.int x1,.int (y1 + (p1 + b))])=Hd at sd kd ⊢
  refine ⟨tf,_,Y,SqT.of kd,Y,_,_,Y,_,_,Y,Y,?_⟩
  refine ⟨_,Y,_,Y,_,Y,_,Y,_,Y,zS5,λ g1 hg1=>?_⟩
  have se:Same Hd (upd Hd g1 (.tup [.int x1,.int y1,.int w1,.int p1,l])):=Same.new hg1
  have ke:(upd Hd g1 (.tup [.int x1,.int y1,.int w1,.int p1,l])) g1=some (.tup [.int x1,.int y1,.int w1,.int p1,l]):=af
  generalize upd Hd g1 (.tup [.int x1,.int y1,.int w1,.int p1,l])=He at se ke ⊢
  refine ⟨_,Y,_,Y,_,Y,_,Y,_,Y,zS5,λ g2 hg2=>?_⟩
  have sf:Same He (upd He g2 (.tup [.int x1,.int (y1 + (p1 + b)),.int w1,.int (h1 - p1 - b),r])):=Same.new hg2
  have kf:(upd He g2 (.tup [.int x1,.int (y1 + (p1 + b)),.int w1,.int (h1 - p1 - b),r])) g2=some (.tup [.int x1,.int (y1 + (p1 + b)),.int w1,.int (h1 - p1 - b),r]):=af
  generalize upd He g2 (.tup [.int x1,.int (y1 + (p1 + b)),.int w1,.int (h1 - p1 - b),r])=Hf at sf kf ⊢
  refine ⟨zS2,λ lu hlu=>?_⟩
  have sg:Same Hf (upd Hf lu (.lst [.ref g1,.ref g2])):=Same.new hlu
  have kg:(upd Hf lu (.lst [.ref g1,.ref g2])) lu=some (.lst [.ref g1,.ref g2]):=af
  generalize upd Hf lu (.lst [.ref g1,.ref g2])=Hg at sg kg ⊢
  have sA:=((((sa.trans sb).trans sd).trans se).trans sf)
  exact q lu g1 g2 Hg (sA.free hlu) kg (sg _ _ (sf _ _ ke)) (sg _ _ kf) (sA.trans sg)
end
def isT (b:Int) (ks:List Kd) (w h:Int) (d:PyData):Bool :=
 if isC b w h d=true then
  match e:aH d with
  | some [_,.int p,l,r]=>if bw d "down" 4=true then isT b ks p h l && isT b ks (w - p - b) h r else isT b ks w p l && isT b ks w (h - p - b) r
  | _=>false
 else isL ks w h d
termination_by sizeOf d
decreasing_by all_goals (apply qO e; simp)
theorem dL {b:Int} {ks:List Kd} {w h:Int} {d:PyData} (hc:isC b w h d=false):isT b ks w h d=isL ks w h d:=by
 rw [isT,if_neg (by rw [hc]; decide)]
theorem mF {b:Int} {ks:List Kd} {w h:Int} {d:PyData} (hc:isC b w h d=true):∃ (dn:Bool) (p:Int) (l r:PyData),aH d=some [.str (if dn=true then "down" else "across"),.int p,l,r]/\1<=p/\(dn=true->p + b < w)/\(dn=false->p + b < h) /\
  isT b ks w h d=(if dn=true then isT b ks p h l && isT b ks (w - p - b) h r else isT b ks w p l && isT b ks w (h - p - b) r):=by
 have key:∀side,eF b side d=true->∃x p l r,aH d=some [x,.int p,l,r]/\1<=p/\p + b < side:=λ side h=>by
  unfold eF at h
  split at h
  ·rename_i x p l r e
   unfold tS at h
   split at h
   ·rename_i p'
    rw [Bool.and_eq_true] at h
    exact ⟨x,p',l,r,e,of_decide_eq_true h.1,of_decide_eq_true h.2⟩
   ·cases h
  ·cases h
 have hc':=hc
 unfold isC at hc
 by_cases hb:bw d "down" 4=true
 ·rw [if_pos hb] at hc
  obtain ⟨x,p,l,r,e,p1,p2⟩:=key _ hc
  obtain ⟨r',e',_⟩:=hZ hb
  rw [e] at e'
  cases e'
  refine ⟨true,p,l,r,e,p1,λ _=>p2,λ z=>(by cases z),?_⟩
  rw [isT,if_pos hc']
  split
  ·rename_i y p' l' r' e2
   rw [e] at e2
   cases e2
   rw [if_pos hb]; rfl
  ·rename_i z
   exact absurd e (z _ _ _ _)
 ·rw [if_neg hb] at hc
  by_cases hb2:bw d "across" 4=true
  ·rw [if_pos hb2] at hc
   obtain ⟨x,p,l,r,e,p1,p2⟩:=key _ hc
   obtain ⟨r',e',_⟩:=hZ hb2
   rw [e] at e'
   cases e'
   refine ⟨false,p,l,r,e,p1,λ z=>(by cases z),λ _=>p2,?_⟩
   rw [isT,if_pos hc']
   split
   ·rename_i y p' l' r' e2
    rw [e] at e2
    cases e2
    rw [if_neg hb]; rfl
   ·rename_i z
    exact absurd e (z _ _ _ _)
  ·rw [if_neg hb2] at hc
   cases hc
structure Spot where
 x:Int
 y:Int
 w:Int
 h:Int
 d:PyData
def SpAt (p:Addr) (H0 H:Hp) (v:V) (t:Spot):Prop:=∃a u,v=.ref a/\H a=some (.tup [.int t.x,.int t.y,.int t.w,.int t.h,u])/\Dt p H0 u t.d
theorem SpAt.keep {p:Addr} {H0 H H':Hp} (k:∀a xs,H a=some (.tup xs)->H' a=some (.tup xs)) {v:V} {t:Spot} (h:SpAt p H0 H v t):SpAt p H0 H' v t:=by
 obtain ⟨a,u,e,h1,h2⟩:=h
 exact ⟨a,u,e,k _ _ h1,h2⟩
def fS (ts:List Spot):Nat:=(ts.map λ t=>wt t.d).sum
theorem dM (a b:List Spot):fS (a ++ b)=fS a + fS b:=by unfold fS; rw [List.map_append,List.sum_append]
theorem jZ:∀ts:List Spot,ts.length<=fS ts
 | []=>Nat.le_refl _
 | t :: r=>by
  have:=jZ r
  have:=uQ t.d
  show r.length + 1<=wt t.d + fS r
  omega
theorem nP {d x y l r:PyData} (h:aH d=some [x,y,l,r]):wt l + wt r < wt d:=by
 cases d <;> simp only [aH,Option.some.injEq,reduceCtorEq] at h
 ·subst h; simp only [wt,wts]; omega
 ·subst h; simp only [wt,wts]; omega
theorem iI {α β:Type} {R:α->β->Prop} {x:α}:∀ {xs:List α} {zs:List β},Paired R (xs ++ [x]) zs->∃ys y,zs=ys ++ [y]/\Paired R xs ys/\R x y
 | [],zs,h=>by
  cases h with
  | cons a t=>cases t; exact ⟨[],_,Y,.nil,a⟩
 | z :: xs,zs,h=>by
  cases h with
  | cons a t =>
   obtain ⟨ys,y,rfl,p,r⟩:=iI t
   exact ⟨_ :: ys,y,Y,.cons a p,r⟩
theorem eC {α β:Type} {R:α->β->Prop}:∀ {xs:List α} {ys:List β} {xs':List α} {ys':List β},Paired R xs ys->Paired R xs' ys'->Paired R (xs ++ xs') (ys ++ ys')
 | _,_,_,_,.nil,h=>h
 | _,_,_,_,.cons a t,h=>.cons a (eC t h)
section
variable {P:Program} {w:World} {K:PySem.W.Frag} {mg:Str->Option Value} {base:Heap}
inductive spCP (vs:List V) (H:Hp) (Q:VK) (E_:XK):Prop
 | mk (w h:Int) (e_1:vs=[.int w,.int h]) (e_2:1<=w) (e_3:1<=h) (e_4:Q .non H):spCP vs H Q E_
inductive spIsTree (C:Addr) (vs:List V) (H:Hp) (Q:VK) (E_:XK):Prop
 | mk (pp s:Addr) (b w h:Int) (ks:List Kd) (v:V) (d:PyData) (e_1:vs=[.ref s,.int w,.int h,v]) (e_2:ShopAt C H s b ks) (e_3:1<=w) (e_4:1<=h) (e_5:Dt pp H v d) (e_6:wt d<=30000) (e_7:∀H',Same H H'->Q (.bl (isT b ks w h d)) H'):spIsTree C vs H Q E_
theorem sccplate:FnScope ["wide","high"] ["wide","high"] (defScope cG):=⟨Y,Y,Y,by decide +kernel,Y,by decide +kernel,by decide +kernel⟩
theorem nQ {f:Addr} {fd:FuncData} (F:Fun K "check_plate" "check_plate" cG f fd) (DW:Dn P w K mg base "is_whole" ["thing","least"] 1 (ce K)):FnOk P w K mg base CX0 2 f fd ["wide","high"] (spCP):=by
 refine F.ok sccplate (λ vs H Q E h=>?_) (λ cdv A outer s H vs Q E hr h=>?_)
 ·obtain ⟨w1,h1,rfl,_⟩:=h
  rfl
 obtain ⟨w1,h1,rfl,w0,h0,q⟩:=h
 have nd:=sccplate.nd
 refine ⟨_,(@ag _ _ _ (@aI _ _ _ _ _ _ _ _ (PW.pt (bY (@bf _ _ _ _ (@aS _ _ _ (@aj _ _ _ _ _ _ _ _ _ _ DW hr rfl (@aa _ _ _ _ _ (pv 0) (@aa _ _ _ _ _ ad ab rfl) rfl) (by decide) rfl rfl) (by intro _; rfl))) (cq (@bf _ _ _ _ (@aS _ _ _ (@aj _ _ _ _ _ _ _ _ _ _ DW hr rfl (@aa _ _ _ _ _ (pv 1) (@aa _ _ _ _ _ ad ab rfl) rfl) (by decide) rfl rfl) (by intro _; rfl)))))) (@ag _ _ _ cN) aA)),?_⟩
 refine ⟨_,Y,.int w1,"int",1,Y,Ty.int,_,Y,?_⟩
 rw [show aV (.int w1) 1=true from decide_eq_true w0]
 refine aO ⟨_,rfl,.int h1,"int",1,rfl,Ty.int,_,rfl,?_⟩
 rw [show aV (.int h1) 1=true from decide_eq_true h0]
 exact aO q
theorem scistree:FnScope ["shop","wide","high","thing","blade","waiting","spot"] ["shop","wide","high","thing"] (defScope gD):=⟨Y,Y,Y,by decide +kernel,Y,by decide +kernel,by decide +kernel⟩
theorem nR {f C:Addr} {fd:FuncData} (F:Fun K "is_tree" "is_tree" gD f fd) (T:ShopTxt K C) (MB:Mn P w K mg base C "blade" ["self"] 1 (cX C)) (DCP:Dn P w K mg base "check_plate" ["wide","high"] 2 (spCP)) (DC:Dn P w K mg base "is_cut" ["blade","spot"] 3 (spCut)) (DF:Dn P w K mg base "is_leaf" ["shop","spot"] 5 (spLeaf C)) (DS:Dn P w K mg base "spots_behind" ["blade","spot"] 2 (spBehind)):FnOk P w K mg base CX0 6 f fd ["shop","wide","high","thing"] (spIsTree C):=by
 refine F.ok scistree (λ vs H Q E h=>?_) (λ cdv A outer s H vs Q E hr h=>?_)
 ·obtain ⟨pp,s,b,w1,h1,ks,v,d,rfl,_⟩:=h
  rfl
 obtain ⟨pp,s,b,w1,h1,ks,v,d,rfl,S,w0,h0,hd,dz,q⟩:=h
 have nd:=scistree.nd
 have hr1:=hr.mono (show 1<=5 by decide)
 have hr2:=hr.mono (show 2<=5 by decide)
 have hr3:=hr.mono (show 3<=5 by decide)
 refine ⟨_,(@ae _ _ _ _ _ (@bh _ _ _ _ (@aj _ _ _ _ _ _ _ _ _ _ DCP hr2 rfl (@aa _ _ _ _ _ (pv 1) (@aa _ _ _ _ _ (pv 2) ab rfl) rfl) (by decide) rfl rfl) rfl) (@ae _ _ _ _ _ (@az _ _ 4 _ _ _ _ nd rfl (Or.inl rfl) (fL (pv 0) T.cl MB hr1) rfl (Or.inl rfl)) (@ae _ _ _ _ _ (@az _ _ 5 _ _ _ _ nd rfl (Or.inl rfl) (@aM _ _ _ _ (@aa _ _ _ _ _ (@ax _ _ _ _ _ (@aa _ _ _ _ _ ad (@aa _ _ _ _ _ ad (@aa _ _ _ _ _ (pv 1) (@aa _ _ _ _ _ (pv 2) (@aa _ _ _ _ _ (pv 3) ab rfl) rfl) rfl) rfl) rfl)) ab rfl)) rfl (Or.inl rfl)) (@ae _ _ _ _ _ (eP PassesOwn.never (eS (pv 5) (λ _=>rfl)) (@ae _ _ _ _ _ (@az _ _ 6 _ _ _ _ nd rfl (Or.inl rfl) (jb PySem.F.plainAttrs_list PySem.F.slot_list_pop PySem.F.type_list_pop jc (pv 5)) rfl (Or.inl rfl)) (@ag _ _ _ (@aI _ _ _ _ _ _ _ _ (@aS _ _ _ (@aj _ _ _ _ _ _ _ _ _ _ DC hr3 rfl (@aa _ _ _ _ _ (pv 4) (@aa _ _ _ _ _ (pv 6) ab rfl) rfl) (by decide) rfl rfl) (by intro _; rfl)) (@ag _ _ _ (@bh _ _ _ _ (@dE _ _ _ _ _ _ _ _ _ _ _ _ PySem.F.plainAttrs_list PySem.F.slot_list_extend PySem.F.type_list_extend dQ (pv 5) (@aa _ _ _ _ _ (@aj _ _ _ _ _ _ _ _ _ _ DS hr2 rfl (@aa _ _ _ _ _ (pv 4) (@aa _ _ _ _ _ (pv 6) ab rfl) rfl) (by decide) rfl rfl) ab rfl) rfl rfl rfl rfl rfl) rfl)) (@ag _ _ _ (@aI _ _ _ _ _ _ _ _ (@bf _ _ _ _ (@aS _ _ _ (@aj _ _ _ _ _ _ _ _ _ _ DF hr rfl (@aa _ _ _ _ _ (pv 0) (@aa _ _ _ _ _ (pv 6) ab rfl) rfl) (by decide) rfl rfl) (by intro _; rfl))) (@ag _ _ _ (@av _ _ _ _ cM)) aA)))))) (@ag _ _ _ (@av _ _ _ _ cM)))))),?_⟩
 have sz:(40000:Nat)<=sizeLine:=by decide
 refine ⟨_,Y,_,Y,w1,h1,Y,w0,h0,?_⟩
 obtain ⟨dx,r,rs,S1,S2,S3⟩:=id S
 refine ⟨_,Y,s,dx,_,Y,S1,(bV _ _ (by decide +kernel) (by decide +kernel)),s,b,ks,Y,S,?_⟩
 refine ⟨_,Y,_,Y,_,Y,zS5,λ t ht=>?_⟩
 have sa:Same H (upd H t (.tup [.int 0,.int 0,.int w1,.int h1,v])):=Same.new ht
 have ka:(upd H t (.tup [.int 0,.int 0,.int w1,.int h1,v])) t=some (.tup [.int 0,.int 0,.int w1,.int h1,v]):=af
 generalize upd H t (.tup [.int 0,.int 0,.int w1,.int h1,v])=Ha at sa ka ⊢
 refine ⟨zS1,λ wl hwl=>?_⟩
 have sb:Same Ha (upd Ha wl (.lst [.ref t])):=Same.new hwl
 have kb:(upd Ha wl (.lst [.ref t])) wl=some (.lst [.ref t]):=af
 generalize upd Ha wl (.lst [.ref t])=Hb at sb kb ⊢
 have fw:H wl=none:=sa.free hwl
 have sab:=sa.trans sb
 refine ⟨λ m σ H'=>∃ (vs:List V) (ts:List Spot) (v6:Option V),σ=[some (.ref s),some (.int w1),some (.int h1),some v,some (.int b),some (.ref wl),v6]/\m=fS ts/\H' wl=some (.lst vs)/\Paired (SpAt pp H H') vs ts/\fS ts<=30000/\isT b ks w1 h1 d=ts.all (λ t=>isT b ks t.w t.h t.d)/\Same H H',⟨_,[.ref t],[⟨0,0,w1,h1,d⟩],none,Y,Y,kb,.cons ⟨t,v,Y,sb _ _ ka,hd⟩ .nil,by show wt d + 0<=30000; omega,by rw [List.all_cons,List.all_nil,Bool.and_true],sab⟩,?_⟩
 rintro m σ H1 ⟨vs,ts,v6,rfl,rfl,hw,pr,sz1,al,s1⟩
 refine ⟨_,Y,_,.inl ⟨vs,SqL.of hw,Y⟩,?_⟩
 rcases List.eq_nil_or_concat vs with rfl | ⟨vs',v0,rfl⟩
 ·have ets:ts=[]:=by
   have:=Paired.length pr
   cases ts with
   | nil=>rfl
   | cons _ _=>simp at this
  subst ets
  have q1:=q H1 s1
  rw [al] at q1
  exact aO q1
 rw [List.concat_eq_append] at pr hw ⊢
 obtain ⟨ts',t0,rfl,prp,⟨sp,u,rfl,hsp,hdu⟩⟩:=iI pr
 rw [show (!(vs' ++ [V.ref sp]).isEmpty)=true by cases vs' <;> rfl]
 have ssz:fS (ts' ++ [t0])=fS ts' + wt t0.d:=by rw [dM]; show _ + (wt t0.d + 0)=_; omega
 rw [ssz] at sz1 ⊢
 refine aP ⟨λ σ' H'=>∃ (vs:List V) (ts:List Spot) (v6:Option V),σ'=[some (.ref s),some (.int w1),some (.int h1),some v,some (.int b),some (.ref wl),v6]/\fS ts < fS ts' + wt t0.d/\H' wl=some (.lst vs)/\Paired (SpAt pp H H') vs ts/\fS ts<=30000/\isT b ks w1 h1 d=ts.all (λ t=>isT b ks t.w t.h t.d)/\Same H H',λ σ' H' ⟨vs,ts,v6,e,l,r⟩=>⟨_,l,vs,ts,v6,e,rfl,r⟩,?_⟩
 rw [List.all_append,List.all_cons,List.all_nil,Bool.and_true] at al
 have ml:(vs' ++ [V.ref sp]).length=vs'.length + 1:=by rw [List.length_append]; rfl
 have keep:∀ {Hx:Hp} {o:HO},Same H Hx->Same H (upd Hx wl o):=λ {Hx o} sx c oo e=>by
  rw [am (λ z=>by rw [z,fw] at e; cases e)]
  exact sx _ _ e
 refine ap (λ R=>∀ (H':Hp),H' wl=some (.lst vs')->Paired (SpAt pp H H') vs' ts'->H' sp=some (.tup [.int t0.x,.int t0.y,.int t0.w,.int t0.h,u])->Same H H'->R [some (.ref s),some (.int w1),some (.int h1),some v,some (.int b),some (.ref wl),some (.ref sp)] H') (λ Dd hR=>?_) ?_
 ·refine ⟨_,Y,.inl ⟨Y,_,SqL.of hw⟩,wl,_,.ref sp,Y,Y,hw,(by rw [ml]; simp),?_⟩
  rw [List.dropLast_concat]
  have kt:∀ {c:Addr} {xs:List V},H1 c=some (.tup xs)->(upd H1 wl (.lst vs')) c=some (.tup xs):=λ {c xs} e=>by
   rw [am (λ z=>by rw [z,hw] at e; cases e)]; exact e
  exact hR _ af (Paired.mapP prp λ v t h=>h.keep λ a xs e=>kt e) (kt hsp) (keep s1)
 rintro H2 hw2 pr2 hsp2 s2
 refine ⟨_,Y,_,Y,pp,b,t0.x,t0.y,t0.w,t0.h,sp,u,t0.d,Y,hsp2,hdu.same s2,λ H3 s3=>⟨_,Y,?_⟩⟩
 have s03:=s2.trans s3
 refine ca (λ hc=>?_) (λ hc=>?_)
 ·obtain ⟨dn,p,l,r,er,p1,pw,ph,eT⟩:=mF (ks:=ks) hc
  obtain ⟨a,xs,rfl,hx,dxs⟩:=hdu.ref_row er
  cases dxs with
  | @cons x0 _ xs0 _ hd0 dxs =>
  cases dxs with
  | @cons x1 _ xs1 _ hd1 dxs =>
  cases dxs with
  | @cons lv _ xs2 _ hdl dxs =>
  cases dxs with
  | @cons rv _ xs3 _ hdr dxs =>
  cases dxs
  cases hd0
  cases hd1
  refine ⟨_,Y,.inl ⟨Y,_,SqL.of (s3 _ _ hw2)⟩,_,Y,_,Y,?_⟩
  refine ⟨b,t0.x,t0.y,t0.w,t0.h,p,sp,a,dn,lv,rv,Y,s3 _ _ hsp2,hx.imp (s03 _ _) (s03 _ _),λ lu t1 t2 H4 hlu ku k1 k2 s4=>?_⟩
  have hw4:=s4 _ _ (s3 _ _ hw2)
  have pl:=Paired.length pr2
  have sl:=jZ ts'
  have two:=nP er
  refine ⟨wl,lu,_,_,Y,Y,hw4,ku,by show _ + 2<=_; omega,?_⟩
  have kt:∀ {c:Addr} {xs:List V},H4 c=some (.tup xs)->(upd H4 wl (.lst (vs' ++ [.ref t1,.ref t2]))) c=some (.tup xs):=λ {c xs} e=>by
   rw [am (λ z=>by rw [z,hw4] at e; cases e)]; exact e
  have pr4:Paired (SpAt pp H (upd H4 wl (.lst (vs' ++ [.ref t1,.ref t2])))) vs' ts':=Paired.mapP pr2 λ v t h=>h.keep λ a xs e=>kt (s4 _ _ (s3 _ _ e))
  cases dn with
  | true =>
   have k1:H4 t1=some (.tup [.int t0.x,.int t0.y,.int p,.int t0.h,lv]):=k1
   have k2:H4 t2=some (.tup [.int (t0.x + (p + b)),.int t0.y,.int (t0.w - p - b),.int t0.h,rv]):=k2
   refine ⟨vs' ++ [.ref t1,.ref t2],ts' ++ [⟨t0.x,t0.y,p,t0.h,l⟩,⟨t0.x + (p + b),t0.y,t0.w - p - b,t0.h,r⟩],_,Y,?_,af,eC pr4 (.cons ⟨t1,lv,Y,kt k1,hdl⟩ (.cons ⟨t2,rv,Y,kt k2,hdr⟩ .nil)),?_,?_,keep (s03.trans s4)⟩
   ·rw [dM]; show _ + (wt l + (wt r + 0)) < _; omega
   ·rw [dM]; show _ + (wt l + (wt r + 0))<=_; omega
   ·rw [al,eT,List.all_append]
    simp only [if_true,List.all_cons,List.all_nil,Bool.and_true]
  | false =>
   have k1:H4 t1=some (.tup [.int t0.x,.int t0.y,.int t0.w,.int p,lv]):=k1
   have k2:H4 t2=some (.tup [.int t0.x,.int (t0.y + (p + b)),.int t0.w,.int (t0.h - p - b),rv]):=k2
   refine ⟨vs' ++ [.ref t1,.ref t2],ts' ++ [⟨t0.x,t0.y,t0.w,p,l⟩,⟨t0.x,t0.y + (p + b),t0.w,t0.h - p - b,r⟩],_,Y,?_,af,eC pr4 (.cons ⟨t1,lv,Y,kt k1,hdl⟩ (.cons ⟨t2,rv,Y,kt k2,hdr⟩ .nil)),?_,?_,keep (s03.trans s4)⟩
   ·rw [dM]; show _ + (wt l + (wt r + 0)) < _; omega
   ·rw [dM]; show _ + (wt l + (wt r + 0))<=_; omega
   ·rw [al,eT,List.all_append]
    simp only [Bool.false_eq_true,if_false,List.all_cons,List.all_nil,Bool.and_true]
 ·have hc:isC b t0.w t0.h t0.d=false:=by simpa using hc
  have lf:=dL (ks:=ks) hc
  refine ⟨_,Y,_,Y,pp,b,t0.x,t0.y,t0.w,t0.h,s,sp,ks,u,t0.d,Y,dq s03 S,s3 _ _ hsp2,hdu.same s03,λ H4 s4=>⟨_,Y,?_⟩⟩
  have s04:=s03.trans s4
  have sp0:=uQ t0.d
  cases hl:isL ks t0.w t0.h t0.d with
  | true =>
   rw [lf,hl,Bool.and_true] at al
   exact aO ⟨vs',ts',_,rfl,by omega,s4 _ _ (s3 _ _ hw2),Paired.mapP pr2 λ v t h=>h.keep λ a xs e=>s4 _ _ (s3 _ _ e),by omega,al,s04⟩
  | false =>
   rw [lf,hl,Bool.and_false] at al
   have q1:=q H4 s04
   rw [al] at q1
   exact aP q1
end
def mG (k:Kd):List Bool:=if bi k=true then [false,true] else [false]
inductive Tr where
 | rest
 | piece (i:Nat) (c:Bool) (x y:Int)
 | cut (dn:Bool) (p:Int) (l r:Tr)
def toD:Tr->PyData
 | .rest=>.tuple [.str "rest"]
 | .piece i c x y=>.tuple [.str "piece",.int i,.bool c,.int x,.int y]
 | .cut dn p l r=>.tuple [.str (if dn=true then "down" else "across"),.int p,toD l,toD r]
def lvN:Tr->Nat
 | .cut _ _ l r=>lvN l + lvN r
 | _=>1
theorem FH:∀t:Tr,1<=(toD t).depth
 | .rest=>by decide +kernel
 | .piece .. => by show 1<=PyData.depthAll _ + 1; omega
 | .cut .. => by show 1<=PyData.depthAll _ + 1; omega
def TrV (H:Hp):Tr->V->Prop
 | .rest,v=>∃a,v=.ref a/\H a=some (.tup [.str "rest"])
 | .piece i c x y,v=>∃a,v=.ref a/\H a=some (.tup [.str "piece",.int i,.bl c,.int x,.int y])
 | .cut dn p l r,v=>∃a x y,v=.ref a/\H a=some (.tup [.str (if dn=true then "down" else "across"),.int p,x,y])/\TrV H l x/\TrV H r y
theorem TrV.keep {H H':Hp} (k:∀a xs,H a=some (.tup xs)->H' a=some (.tup xs)):∀ (t:Tr) {v:V},TrV H t v->TrV H' t v
 | .rest,_,⟨a,e,h⟩=>⟨a,e,k _ _ h⟩
 | .piece ..,_,⟨a,e,h⟩=>⟨a,e,k _ _ h⟩
 | .cut _ _ l r,_,⟨a,x,y,e,h,h1,h2⟩=>⟨a,x,y,e,k _ _ h,TrV.keep k l h1,TrV.keep k r h2⟩
theorem TrV.dt {p:Addr} {H:Hp}:∀ (t:Tr) {v:V},TrV H t v->Dt p H v (toD t)
 | .rest,_,⟨a,e,h⟩=>by subst e; exact .tup h (.cons (.str _) .nil)
 | .piece ..,_,⟨a,e,h⟩=>by subst e; exact .tup h (.cons (.str _) (.cons (.int _) (.cons (.bl _) (.cons (.int _) (.cons (.int _) .nil)))))
 | .cut _ _ l r,_,⟨a,x,y,e,h,h1,h2⟩=>by subst e; exact .tup h (.cons (.str _) (.cons (.int _) (.cons (TrV.dt l h1) (.cons (TrV.dt r h2) .nil))))
def okT (b:Int) (ks:List Kd):Int->Int->Tr->Prop
 | _,_,.rest=>True
 | w,h,.piece i c x y=>∃k,ks[i]? = some k/\c∈mG k/\0<=x/\0<=y/\x + sd1 k c<=w/\y + sd2 k c<=h
 | w,h,.cut dn p l r=>1<=p/\(if dn=true then p + b < w/\okT b ks p h l/\okT b ks (w - p - b) h r else p + b < h/\okT b ks w p l/\okT b ks w (h - p - b) r)
theorem mH {ks:List Kd} {i:Nat} {c:Bool} {k:Kd} (hk:ks[i]? = some k) (hc:c∈mG k):ez ks (.int i) (.bl c)=true:=by
 unfold ez
 simp only [Int.toNat_natCast,hk]
 rw [decide_eq_true (show (0:Int)<=i by omega),Bool.true_and]
 cases c with
 | false=>rfl
 | true =>
  unfold mG at hc
  cases t:bi k with
  | true=>rfl
  | false=>rw [t] at hc; simp at hc
def But2 (p q:Addr) (H H':Hp):Prop:=∀c o,c≠p->c≠q->H c=some o->H' c=some o
theorem But2.trans {p q:Addr} {H H' H'':Hp} (a:But2 p q H H') (b:But2 p q H' H''):But2 p q H H'':=λ c o n1 n2 e=>b c o n1 n2 (a c o n1 n2 e)
theorem But2.but {p q:Addr} {H H':Hp} (a:But p H H'):But2 p q H H':=λ c o n1 _ e=>a c o n1 e
theorem cB {d:PyData} {y:Str} {r:List PyData} (e:aH d=some (.str y :: r)) (z:Str) (n:Nat):bw d z n=(decide (r.length + 1=n) && decide (y=z)):=by
 unfold bw
 rw [e]
def pcD (ks:List Kd) (w h:Int):List PyData->Bool
 | [k,t,x,y]=>jY ks w h k t x y
 | _=>false
theorem iJ {b:Int} {ks:List Kd} {w h:Int} {d:PyData} {y:Str} {r:List PyData} (e:aH d=some (.str y :: r)) (h1:(decide (y = "down"))=false) (h2:(decide (y = "across"))=false):isT b ks w h d=(if decide (y = "rest")=true then decide (r.length + 1=1) else if decide (y = "piece")=true then pcD ks w h r else false):=by
 have hc:isC b w h d=false:=by
  unfold isC
  rw [cB e,cB e,h1,h2]
  simp only [Bool.and_false]
  rfl
 rw [dL hc]
 unfold isL
 rw [cB e,cB e,e]
 by_cases hr:y = "rest"
 ·subst hr
  rw [show decide ((Str.ofString "rest")=(Str.ofString "piece"))=false by decide +kernel,Bool.and_false,if_neg Bool.false_ne_true,decide_eq_true (rfl:(Str.ofString "rest")=Str.ofString "rest"),if_pos rfl,Bool.and_true]
 ·rw [decide_eq_false hr,if_neg Bool.false_ne_true]
  by_cases hp:y = "piece"
  ·subst hp
   rw [decide_eq_true (rfl:(Str.ofString "piece")=Str.ofString "piece"),Bool.and_true,if_pos (rfl:true=true),Bool.and_false]
   match r with
   | []=>rfl
   | [_]=>rfl
   | [_,_]=>rfl
   | [_,_,_]=>rfl
   | [_,_,_,_]=>rfl
   | _ :: _ :: _ :: _ :: _ :: r=>simp [pcD]
  ·rw [decide_eq_false hp,Bool.and_false,Bool.and_false,if_neg Bool.false_ne_true,if_neg Bool.false_ne_true]
theorem mI {b:Int} {ks:List Kd} {w h:Int} {d:PyData} {dn:Bool} {r:List PyData} (e:aH d=some (.str (if dn=true then "down" else "across") :: r)):isT b ks w h d=(match r with
  | [.int p,l,r']=>decide (1<=p) && (if dn=true then decide (p + b < w) && (isT b ks p h l && isT b ks (w - p - b) h r') else decide (p + b < h) && (isT b ks w p l && isT b ks w (h - p - b) r'))
  | _=>false):=by
 have leafF:isC b w h d=false->isT b ks w h d=false:=λ hc=>by
  rw [dL hc]
  unfold isL
  rw [cB e,cB e]
  cases dn
  ·rw [show decide ((if false=true then (Str.ofString "down") else Str.ofString "across")=Str.ofString "piece")=false by decide +kernel,show decide ((if false=true then (Str.ofString "down") else Str.ofString "across")=Str.ofString "rest")=false by decide +kernel,Bool.and_false,Bool.and_false,if_neg Bool.false_ne_true]
  ·rw [show decide ((if true=true then (Str.ofString "down") else Str.ofString "across")=Str.ofString "piece")=false by decide +kernel,show decide ((if true=true then (Str.ofString "down") else Str.ofString "across")=Str.ofString "rest")=false by decide +kernel,Bool.and_false,Bool.and_false,if_neg Bool.false_ne_true]
 cases hc:isC b w h d with
 | false =>
  rw [leafF hc]
  split
  ·rename_i p l r' e
   unfold isC at hc
   rw [cB e,cB e] at hc
   cases dn
   ·rw [show decide ((if false=true then (Str.ofString "down") else Str.ofString "across")=Str.ofString "down")=false by decide +kernel,show decide ((if false=true then (Str.ofString "down") else Str.ofString "across")=Str.ofString "across")=true by decide +kernel] at hc
    unfold eF at hc
    rw [e] at hc
    have hc:(decide (1<=p) && decide (p + b < h))=false:=hc
    rw [if_neg Bool.false_ne_true,<- Bool.and_assoc,hc,Bool.false_and]
   ·rw [show decide ((if true=true then (Str.ofString "down") else Str.ofString "across")=Str.ofString "down")=true by decide +kernel] at hc
    unfold eF at hc
    rw [e] at hc
    have hc:(decide (1<=p) && decide (p + b < w))=false:=hc
    rw [if_pos rfl,<- Bool.and_assoc,hc,Bool.false_and]
  ·rfl
 | true =>
  obtain ⟨dn',p,l,r',e',p1,pw,ph,eT⟩:=mF (ks:=ks) hc
  rw [e] at e'
  have hdn:dn=dn':=by
   have:=PyData.str.inj (List.cons.inj (Option.some.inj e')).1
   cases dn <;> cases dn' <;> first | rfl | exact absurd this (by decide +kernel)
  subst hdn
  cases e'
  rw [eT]
  cases dn
  ·simp only [Bool.false_eq_true,if_false]
   rw [decide_eq_true p1,decide_eq_true (ph rfl)]; rfl
  ·simp only [if_true]
   rw [decide_eq_true p1,decide_eq_true (pw rfl)]; rfl
def TrD:Tr->PyData->Prop
 | .rest,d=>aH d=some [.str "rest"]
 | .piece i c x y,d=>aH d=some [.str "piece",.int i,.bool c,.int x,.int y]
 | .cut dn p l r,d=>∃dl dr,aH d=some [.str (if dn=true then "down" else "across"),.int p,dl,dr]/\TrD l dl/\TrD r dr
theorem TrD.to:∀t:Tr,TrD t (toD t)
 | .rest=>rfl
 | .piece .. => rfl
 | .cut _ _ l r=>⟨toD l,toD r,Y,TrD.to l,TrD.to r⟩
theorem TrD.good {b:Int} {ks:List Kd}:∀ (t:Tr) (d:PyData) (w h:Int),TrD t d->okT b ks w h t->isT b ks w h d=true
 | .rest,d,w,h,e,_=>by
  have e:aH d=some (.str "rest" :: []):=e
  rw [iJ e (by decide +kernel) (by decide +kernel),if_pos (by decide +kernel)]; rfl
 | .piece i c x y,d,w,h,e,⟨k,hk,hc,x0,y0,hx,hy⟩=>by
  have e:aH d=some (.str "piece" :: [.int i,.bool c,.int x,.int y]):=e
  rw [iJ e (by decide +kernel) (by decide +kernel),if_neg (by decide +kernel),if_pos (by decide +kernel)]
  show fR ks w h (.int i) (.bl c) (.int x) (.int y)=true
  unfold fR
  rw [mH hk hc]
  simp only [Int.toNat_natCast,hk]
  rw [show aV (.int x) 0=true from decide_eq_true x0,show aV (.int y) 0=true from decide_eq_true y0,decide_eq_true hx,decide_eq_true hy]
  rfl
 | .cut true p l r,d,w,h,⟨dl,dr,e,tl,tr⟩,⟨p1,hp,hl,hr⟩=>by
  have eT:isT b ks w h d=(decide (1<=p) && (decide (p + b < w) && (isT b ks p h dl && isT b ks (w - p - b) h dr))):=mI (dn:=true) (r:=[.int p,dl,dr]) e
  rw [eT,decide_eq_true p1,decide_eq_true hp,TrD.good l dl p h tl hl,TrD.good r dr _ h tr hr]; rfl
 | .cut false p l r,d,w,h,⟨dl,dr,e,tl,tr⟩,⟨p1,hp,hl,hr⟩=>by
  have eT:isT b ks w h d=(decide (1<=p) && (decide (p + b < h) && (isT b ks w p dl && isT b ks w (h - p - b) dr))):=mI (dn:=false) (r:=[.int p,dl,dr]) e
  rw [eT,decide_eq_true p1,decide_eq_true hp,TrD.good l dl w p tl hl,TrD.good r dr w _ tr hr]; rfl
def dT:Tr->Nat
 | .cut _ _ l r=>max (dT l) (dT r) + 1
 | _=>0
def szT:Tr->Nat
 | .cut _ _ l r=>szT l + szT r + 1
 | _=>1
theorem kh (t:Tr):1<=szT t:=by cases t <;> simp only [szT] <;> omega
theorem fk {d:PyData} {ds:List PyData} (h:aH d=some ds):wt d=wts ds + 1:=by
 cases d <;> simp only [aH,Option.some.injEq,reduceCtorEq] at h
 ·subst h; rw [wt]
 ·subst h; rw [wt]
theorem nS {C x dx:Addr} {H:Hp} (hx:H x=none) (hd:H dx=none):Same H (upd (upd H dx (.own x)) x (.ins C dx [])):=λ c o e=>by
 rw [am (au e hx),am (au e hd)]; exact e
def dpT:Tr->Nat
 | .cut _ _ l r=>max (dpT l) (dpT r) + 1
 | _=>0
mutual
theorem Dt.fresh {p q:Addr} {H:Hp} (hq:H q=none):∀ {v:V} {d:PyData},Dt p H v d->Dt q H v d
 | _,_,.non=>.non
 | _,_,.bl b=>.bl b
 | _,_,.int i=>.int i
 | _,_,.str z=>.str z
 | _,_,.lst n h r=>.lst (au h hq) h (r.fresh hq)
 | _,_,.tup h r=>.tup h (r.fresh hq)
 | _,_,.emp h=>.emp h
theorem Dts.fresh {p q:Addr} {H:Hp} (hq:H q=none):∀ {vs:List V} {ds:List PyData},Dts p H vs ds->Dts q H vs ds
 | _,_,.nil=>.nil
 | _,_,.cons a r=>.cons (a.fresh hq) (r.fresh hq)
end
def okU (b:Int) (ks:List Kd):Int->Int->Tr->Prop
 | _,_,.rest=>True
 | w,h,.piece i c x y=>∃k,ks[i]? = some k/\(i,c)∈lyK ks 0/\0<=x/\0<=y/\x + sd1 k c<=w/\y + sd2 k c<=h
 | w,h,.cut dn p l r=>1<=p/\(if dn=true then p + b < w/\okU b ks p h l/\okU b ks (w - p - b) h r else p + b < h/\okU b ks w p l/\okU b ks w (h - p - b) r)
theorem lr:∀ {ks:List Kd} {i:Nat} {q:Nat×Bool},q∈lyK ks i->i<=q.1/\∃k,ks[q.1 - i]? = some k/\(q.2=false\/bi k=true)
 | [],_,_,h=>by simp [lyK] at h
 | x :: ks,i,q,h=>by
  rcases List.mem_append.mp (show q∈lyT i x ++ lyK ks (i + 1) from h) with h | h
  ·unfold lyT at h
   rcases List.mem_cons.mp h with rfl | h
   ·exact ⟨Nat.le_refl _,x,by simp,.inl rfl⟩
   ·split at h
    ·rename_i ht
     rw [List.mem_singleton.mp h]
     exact ⟨Nat.le_refl _,x,by simp,.inr ht⟩
    ·simp at h
  ·obtain ⟨h1,k,h2,h3⟩:=lr h
   exact ⟨by omega,k,by rw [show q.1 - i=(q.1 - (i + 1)) + 1 by omega,List.getElem?_cons_succ]; exact h2,h3⟩
theorem vJ {ds:List PyData} (d3:PyData.canLayAll0 ds=true) (d4:PyData.depthAll ds<=1):SeqAt.shaped (.list ds)=true/\(ds=[]->PyData.eqv (.list ds) (.list [])=true)/\(ds≠[]->PyData.eqv (.list ds) (.list [])=false):=by
 refine ⟨?_,λ e=>by subst e; exact PySem.SeqAt.eqv_refl _ rfl,λ e=>?_⟩
 ·unfold SeqAt.shaped
  rw [PyData.canLay0,d3,PyData.depth,decide_eq_true (show PyData.depthAll ds + 1<=64 by omega)]; rfl
 ·cases ds with
  | nil=>exact absurd rfl e
  | cons d r=>rfl
def PotC (H:Hp) (p:Addr):Prop:=∃a b:Int,0<=a/\0<=b/\b < 4294967296/\H p=some (.lst [.int a,.int b])
theorem PotC.same {H H':Hp} {p:Addr} (x:PotC H p) (s:Same H H'):PotC H' p:=by
 obtain ⟨a,b,h1,h2,h3,e⟩:=x
 exact ⟨a,b,h1,h2,h3,s _ _ e⟩
theorem PotC.new {H:Hp} {p q:Addr} {o:HO} (x:PotC H p) (h:H q=none):PotC (upd H q o) p:=x.same (Same.new h)
theorem PotC.some {H:Hp} {p:Addr} (x:PotC H p):H p≠none:=by
 obtain ⟨a,b,h1,h2,h3,e⟩:=x
 rw [e]; exact λ z=>by cases z
theorem PotC.ne {H:Hp} {p q:Addr} (x:PotC H p) (h:H q=none):p≠q:=λ z=>x.some (z ▸ h)
theorem lw {H:Hp} {p:Addr} (h:PotC H p):∃xs,H p=some (.lst xs):=by
 obtain ⟨_,_,_,_,_,e⟩:=h
 exact ⟨_,e⟩
theorem PotC.put {H:Hp} {p l:Addr} {o:HO} (x:PotC H p) (n:p≠l):PotC (upd H l o) p:=by
 obtain ⟨a,b,h1,h2,h3,e⟩:=x
 exact ⟨a,b,h1,h2,h3,by rw [am n]; exact e⟩
theorem But.freeC {p q:Addr} {H H':Hp} (b:But p H H') (x:PotC H' p) (h:H' q=none):q≠p/\H q=none:=by
 have n:q≠p:=λ z=>x.some (z ▸ h)
 refine ⟨n,?_⟩
 cases e:H q with
 | none=>rfl
 | some o=>rw [b q o n e] at h; cases h
theorem bU {p c:Addr} {H0 H:Hp} {o:HO} (b:But p H0 H) (pt:PotC H p) (h:H c=none):∃H',upd H c o=H'/\H' c=some o/\c≠p/\Same H H'/\But p H0 H'/\PotC H' p :=
 ⟨_,rfl,af,Ne.symm (pt.ne h),Same.new h,b.trans (But.new h),pt.new h⟩
theorem cS {p:Addr} {H H':Hp} (b:But p H H') (pt:PotC H p) {c:Addr} {xs:List V} (e:H c=some (.tup xs)):H' c=some (.tup xs):=by
 obtain ⟨_,hp⟩:=lw pt
 exact b _ _ (λ z=>by rw [z,hp] at e; cases e) e
theorem uR {p:Addr} {rs:List V} {ks:List Kd} {H H':Hp} (b:But p H H') (pt:PotC H p) (h:Tups H rs ks):Tups H' rs ks:=Tups.keep (λ x xs e=>cS b pt e) h
theorem But.refl' {p:Addr} {H:Hp}:But p H H:=λ _ _ _ e=>e
section
variable {P:Program} {w:World} {K:PySem.W.Frag} {mg:Str->Option Value} {base:Heap}
inductive spPotC (vs:List V) (H:Hp) (Q:VK) (E_:XK):Prop
 | mk (c k:Int) (e_1:vs=[.int c,.int k]) (e_2:0<=k) (e_3:k<=63) (e_4:∀ (p:Addr) (H':Hp),H p=none->PotC H' p->Same H H'->Q (.ref p) H'):spPotC vs H Q E_
inductive spTake (vs:List V) (H:Hp) (Q:VK) (E_:XK):Prop
 | mk (p:Addr) (m:Int) (e_1:vs=[.ref p,.int m]) (e_2:PotC H p) (e_3:0 < m) (e_4:m<=10 ^ 60) (e_5:∀ (r:Int) (H':Hp),0<=r->r < m->PotC H' p->But p H H'->Q (.int r) H'):spTake vs H Q E_
inductive spUnit (vs:List V) (H:Hp) (Q:VK) (E_:XK):Prop
 | mk (p:Addr) (e_1:vs=[.ref p]) (e_2:PotC H p) (e_3:∀ (r:Int) (H':Hp),1<=r->r < 2 * 10 ^ 56->PotC H' p->But p H H'->Q (.int r) H'):spUnit vs H Q E_
inductive spSideC (vs:List V) (H:Hp) (Q:VK) (E_:XK):Prop
 | mk (p:Addr) (u m:Int) (e_1:vs=[.ref p,.int u,.int m]) (e_2:PotC H p) (e_3:1<=u) (e_4:u < 2 * 10 ^ 56) (e_5:1<=m) (e_6:m<=40) (e_7:∀ (r:Int) (H':Hp),1<=r->r < 10 ^ 58->PotC H' p->But p H H'->Q (.int r) H'):spSideC vs H Q E_
inductive spWorthC (vs:List V) (H:Hp) (Q:VK) (E_:XK):Prop
 | mk (p:Addr) (e_1:vs=[.ref p]) (e_2:PotC H p) (e_3:∀ (r:Int) (H':Hp),0<=r->r < 10 ^ 60->PotC H' p->But p H H'->Q (.int r) H'):spWorthC vs H Q E_
theorem sccell:FnScope ["_law_script","_law_k"] ["_law_script","_law_k"] (defScope mx):=⟨Y,Y,Y,by decide +kernel,Y,by decide +kernel,by decide +kernel⟩
theorem tU {f:Addr} {fd:FuncData} (F:Fun K "_law_cell" "_law_cell" mx f fd) (B:Blt mg):FnOk P w K mg base CX0 1 f fd ["_law_script","_law_k"] (lg K):=by
 refine F.ok sccell (λ vs H Q E h=>?_) (λ cdv A outer s H vs Q E hr h=>?_)
 ·obtain ⟨a,ns,n,rfl,_⟩:=h
  rfl
 obtain ⟨a,ns,n,rfl,hS,n0,q⟩:=h
 have nd:=sccell.nd
 refine ⟨_,(@ae _ _ _ _ _ (@aI _ _ _ _ _ _ _ _ (@aB _ _ _ _ _ _ _ _ lW (pv 1) (@aF _ _ _ _ _ _ _ _ _ aW rfl B.len PySem.boot_len (@aa _ _ _ _ _ (pv 0) ab rfl) (by decide) (by decide) rfl rfl) (aD _)) (@ag _ _ _ (@av _ _ _ _ (@ao _ _ _ _ _ _ _ ix_list (pv 0) (pv 1) (λ _ _=>rfl)))) aA) (@ag _ _ _ (@av _ _ _ _ ad))),?_⟩
 have hl:(ns.map V.int).length=ns.length:=List.length_map _
 refine ⟨_,Y,_,Y,a,_,Y,.inl hS,_,_,Y,Y,_,Y,?_⟩
 refine ca (λ c=>?_) (λ c=>?_)
 ·have c':n < ((ns.map V.int).length:Int):=of_decide_eq_true c
  rw [hl] at c'
  have hk:n.toNat < ns.length:=by omega
  have hv:atI (ns.map V.int) n=some (.int ns[n.toNat]):=aE n0 (by rw [List.getElem?_map,List.getElem?_eq_getElem hk]; rfl)
  exact ⟨_,Y,_,Y,a,_,_,_,Y,Y,hS,hv,q _⟩
 ·exact q _
theorem scpotc:FnScope ["_law_cell_here","_law_k"] ["_law_cell_here","_law_k"] (defScope tM):=⟨Y,Y,Y,by decide +kernel,Y,by decide +kernel,by decide +kernel⟩
theorem tV {f:Addr} {fd:FuncData} (F:Fun K "_law_pot" "_law_pot" tM f fd) (B:Blt mg):FnOk P w K mg base CX0 1 f fd ["_law_cell_here","_law_k"] (spPotC):=by
 refine F.ok scpotc (λ vs H Q E h=>?_) (λ cdv A outer s H vs Q E hr h=>?_)
 ·obtain ⟨c,k,rfl,_⟩:=h
  rfl
 obtain ⟨c,k,rfl,k0,k1,q⟩:=h
 have nd:=scpotc.nd
 refine ⟨_,(@ag _ _ _ (@av _ _ _ _ (@aM _ _ _ _ (@aa _ _ _ _ _ (@aF _ _ _ _ _ _ _ _ _ (fF rfl) rfl B.max PyProof.Rows.boot_max (@aa _ _ _ _ _ ad (@aa _ _ _ _ _ (@ay _ _ _ _ _ _ _ _ aU (@aF _ _ _ _ _ _ _ _ _ jG rfl B.abs PyProof.Rows.boot_abs (@aa _ _ _ _ _ (pv 0) ab rfl) (by decide) (by decide) rfl rfl) (@ay _ _ _ _ _ _ _ _ fE ad ad)) ab rfl) rfl) (by decide) (by decide) rfl rfl) (@aa _ _ _ _ _ (@ay _ _ _ _ _ _ _ _ aQ (@ay _ _ _ _ _ _ _ _ aQ (@ay _ _ _ _ _ _ _ _ fD (@aF _ _ _ _ _ _ _ _ _ jG rfl B.abs PyProof.Rows.boot_abs (@aa _ _ _ _ _ (pv 0) ab rfl) (by decide) (by decide) rfl rfl) ad) (@ay _ _ _ _ _ _ _ _ dB ad (pv 1))) ad) ab rfl) rfl)))),?_⟩
 refine ⟨_,Y,_,Y,_,_,Y,Y,⟨by decide,by decide,by decide⟩,_,_,Y,Y,_,_,Y,_,Y,_,Y,_,_,Y,Y,(by show (0:Int) < 2147483563; decide),_,Y,_,_,Y,Y,.inl ⟨by decide,by decide⟩,_,_,Y,Y,_,_,Y,Y,zS2,λ p hp=>?_⟩
 have e1:=Int.emod_nonneg (if c < 0 then -c else c) (show (2147483563:Int)≠0 by decide)
 have e2:=Int.emod_lt_of_pos (if c < 0 then -c else c) (show (0:Int) < 2147483563 by decide)
 refine q p _ hp ⟨_,_,?_,?_,?_,af⟩ (Same.new hp)
 ·split <;> omega
 ·omega
 ·omega
theorem sctake:FnScope ["_law_pot_here","_law_many","_law_digit"] ["_law_pot_here","_law_many"] (defScope my):=⟨Y,Y,Y,by decide +kernel,Y,by decide +kernel,by decide +kernel⟩
theorem tW {f:Addr} {fd:FuncData} (F:Fun K "_law_take" "_law_take" my f fd) (B:Blt mg):FnOk P w K mg base CX0 1 f fd ["_law_pot_here","_law_many"] (spTake):=by
 refine F.ok sctake (λ vs H Q E h=>?_) (λ cdv A outer s H vs Q E hr h=>?_)
 ·obtain ⟨p,m,rfl,_⟩:=h
  rfl
 obtain ⟨p,m,rfl,⟨a,b,a0,b0,b1,hp⟩,m0,m1,q⟩:=h
 have nd:=sctake.nd
 refine ⟨_,(@ae _ _ _ _ _ (@aI _ _ _ _ _ _ _ _ (@aB _ _ _ _ _ _ _ _ uG (@ao _ _ _ _ _ _ _ ix_list (pv 0) ad (λ _ _=>rfl)) ad (aD _)) (@ae _ _ _ _ _ (@az _ _ 2 _ _ _ _ nd rfl (Or.inl rfl) (@ay _ _ _ _ _ _ _ _ fD (@ao _ _ _ _ _ _ _ ix_list (pv 0) ad (λ _ _=>rfl)) (pv 1)) rfl (Or.inl rfl)) (@ae _ _ _ _ _ (@bd _ _ _ _ _ _ (@ay _ _ _ _ _ _ _ _ eY (@ao _ _ _ _ _ _ _ ix_list (pv 0) ad (λ _ _=>rfl)) (pv 1)) (kG (pv 0) ad eV) rfl rfl rfl) (@ag _ _ _ (@av _ _ _ _ (pv 2))))) aA) (@ae _ _ _ _ _ (@bd _ _ _ _ _ _ (@ay _ _ _ _ _ _ _ _ fD (@ay _ _ _ _ _ _ _ _ aQ (@ay _ _ _ _ _ _ _ _ dB (@ao _ _ _ _ _ _ _ ix_list (pv 0) ad (λ _ _=>rfl)) ad) ad) ad) (kG (pv 0) ad eV) rfl rfl rfl) (@ag _ _ _ (@av _ _ _ _ (@ay _ _ _ _ _ _ _ _ fD (@ay _ _ _ _ _ _ _ _ eY (@ay _ _ _ _ _ _ _ _ fD (@ay _ _ _ _ _ _ _ _ dB (@ao _ _ _ _ _ _ _ ix_list (pv 0) ad (λ _ _=>rfl)) (@ao _ _ _ _ _ _ _ ix_list (pv 0) ad (λ _ _=>rfl))) ad) ad) (pv 1)))))),?_⟩
 have at0:atI [V.int a,V.int b] 0=some (.int a):=rfl
 have at1:atI [V.int a,V.int b] 1=some (.int b):=rfl
 refine ⟨_,Y,p,_,_,_,Y,Y,SqL.of hp,at0,_,_,Y,Y,_,Y,?_⟩
 refine ca (λ c=>?_) (λ c=>?_)
 ·have c':0 < a:=of_decide_eq_true c
  refine ⟨_,Y,p,_,_,_,Y,Y,SqL.of hp,at0,_,Y,_,_,Y,Y,m0,?_⟩
  refine ⟨_,Y,p,_,_,_,Y,Y,SqL.of hp,at0,_,Y,_,_,Y,Y,⟨m0,m1⟩,_,Y,p,_,_,_,Y,Y,hp,Y,?_⟩
  refine ⟨_,Y,q _ _ (Int.emod_nonneg _ (by omega)) (Int.emod_lt_of_pos _ m0) ⟨a / m,b,Int.ediv_nonneg a0 (by omega),b0,b1,af⟩ But.upd⟩
 ·refine ⟨_,Y,p,_,_,_,Y,Y,SqL.of hp,at1,_,_,Y,Y,.inr ⟨by decide,by decide⟩,_,_,Y,Y,_,_,Y,Y,(by show (0:Int) < 2147483629; decide),_,Y,p,_,_,_,Y,Y,hp,Y,?_⟩
  have n0:0<=(b * 39373 + 7919) % 2147483629:=Int.emod_nonneg _ (by decide)
  have n1:(b * 39373 + 7919) % 2147483629 < 2147483629:=Int.emod_lt_of_pos _ (by decide)
  refine ⟨_,Y,p,_,_,_,Y,Y,SqL.of af,Y,_,Y,p,_,_,_,Y,Y,SqL.of af,Y,_,_,Y,Y,.inl ⟨by omega,by omega⟩,_,_,Y,Y,(by show (0:Int) < 2147483563; decide),_,_,Y,Y,⟨by decide,by decide⟩,_,Y,_,_,Y,Y,m0,?_⟩
  exact q _ _ (Int.emod_nonneg _ (by omega)) (Int.emod_lt_of_pos _ m0) ⟨a,_,a0,n0,by omega,af⟩ But.upd
theorem scunit:FnScope ["_law_pot_here","_law_some"] ["_law_pot_here"] (defScope mz):=⟨Y,Y,Y,by decide +kernel,Y,by decide +kernel,by decide +kernel⟩
theorem tX {f:Addr} {fd:FuncData} (F:Fun K "_law_unit" "_law_unit" mz f fd) (B:Blt mg) (DD:Dn P w K mg base "_law_take" ["_law_pot_here","_law_many"] 1 (spTake)):FnOk P w K mg base CX0 2 f fd ["_law_pot_here"] (spUnit):=by
 refine F.ok scunit (λ vs H Q E h=>?_) (λ cdv A outer s H vs Q E hr h=>?_)
 ·obtain ⟨p,rfl,_⟩:=h
  rfl
 obtain ⟨p,rfl,pt,q⟩:=h
 have nd:=scunit.nd
 refine ⟨_,(@ae _ _ _ _ _ (@az _ _ 1 _ _ _ _ nd rfl (Or.inl rfl) (@aM _ _ _ _ (@aa _ _ _ _ _ ad (@aa _ _ _ _ _ ad (@aa _ _ _ _ _ (@ay _ _ _ _ _ _ _ _ aQ ad (@aj _ _ _ _ _ _ _ _ _ _ DD hr rfl (@aa _ _ _ _ _ (pv 0) (@aa _ _ _ _ _ (@ay _ _ _ _ _ _ _ _ fE ad ad) ab rfl) rfl) (by decide) rfl rfl)) (@aa _ _ _ _ _ (@ay _ _ _ _ _ _ _ _ aQ (@ay _ _ _ _ _ _ _ _ fE ad ad) (@aj _ _ _ _ _ _ _ _ _ _ DD hr rfl (@aa _ _ _ _ _ (pv 0) (@aa _ _ _ _ _ (@ay _ _ _ _ _ _ _ _ fE ad ad) ab rfl) rfl) (by decide) rfl rfl)) ab rfl) rfl) rfl) rfl)) rfl (Or.inl rfl)) (@ag _ _ _ (@av _ _ _ _ (@ao _ _ _ _ _ _ _ ix_list (pv 1) (@aj _ _ _ _ _ _ _ _ _ _ DD hr rfl (@aa _ _ _ _ _ (pv 0) (@aa _ _ _ _ _ ad ab rfl) rfl) (by decide) rfl rfl) (λ _ _=>rfl))))),?_⟩
 have e56:(10:Int) ^ (56:Int).toNat=10 ^ 56:=rfl
 have e66:(10:Int) ^ 6 < 10 ^ 56:=by decide
 refine ap (λ R=>∀ (l:Addr) (c d:Int) (H':Hp),l≠p->H' l=some (.lst [.int 1,.int 1,.int c,.int d])->1<=c->c < 2 * 10 ^ 56->1<=d->d < 2 * 10 ^ 56->PotC H' p->But p H H'->R [some (.ref p),some (.ref l)] H') (λ Dd hR=>?_) ?_
 ·refine ⟨_,Y,_,_,Y,Y,⟨by decide,by decide,by decide⟩,p,_,Y,pt,(by show (0:Int) < 10 ^ (6:Int).toNat; decide),(by show (10:Int) ^ (6:Int).toNat<=10 ^ 60; decide),λ r H1 r0 r1 pt1 b1=>⟨_,_,Y,Y,_,_,Y,Y,⟨by decide,by decide,by decide⟩,_,Y,_,_,Y,Y,⟨by decide,by decide,by decide⟩,p,_,Y,pt1,(by show (0:Int) < 10 ^ (56:Int).toNat; decide),(by show (10:Int) ^ (56:Int).toNat<=10 ^ 60; decide),λ r2 H2 r20 r21 pt2 b2=>⟨_,_,Y,Y,zS4,λ l hl=>?_⟩⟩⟩
  have r1:r < 10 ^ 6:=r1
  rw [e56] at r21
  obtain ⟨H3,e3,k3,n3,s3,b3,pt3⟩:=bU (o:=.lst [.int 1,.int 1,.int (1 + r),.int (10 ^ (56:Int).toNat + r2)]) (b1.trans b2) pt2 hl
  rw [show upd H2 l _=H3 from e3]
  exact hR l _ _ _ n3 k3 (by omega) (by omega) (by rw [e56]; omega) (by rw [e56]; omega) pt3 b3
 rintro l c d H1 nlp hl1 c0 c1 d0 d1 pt1 b1
 refine ⟨_,Y,_,Y,p,4,Y,pt1,by decide,by decide,λ r H2 r0 r1 pt2 b2=>?_⟩
 have hl2:=b2 _ _ nlp hl1
 have one:(1:Int) < 2 * 10 ^ 56:=by decide
 obtain ⟨x,hx,x0,x1⟩:∃x:Int,atI [V.int 1,V.int 1,V.int c,V.int d] r=some (.int x)/\1<=x/\x < 2 * 10 ^ 56:=by
  have:r=0\/r=1\/r=2\/r=3:=by omega
  rcases this with rfl | rfl | rfl | rfl
  ·exact ⟨1,Y,by decide,one⟩
  ·exact ⟨1,Y,by decide,one⟩
  ·exact ⟨c,Y,c0,c1⟩
  ·exact ⟨d,Y,d0,d1⟩
 exact ⟨l,_,_,_,Y,Y,SqL.of hl2,hx,q x H2 x0 x1 pt2 (b1.trans b2)⟩
theorem scsidecc:FnScope ["_law_pot_here","_law_unit_here","_law_most"] ["_law_pot_here","_law_unit_here","_law_most"] (defScope mB):=⟨Y,Y,Y,by decide +kernel,Y,by decide +kernel,by decide +kernel⟩
theorem nT {f:Addr} {fd:FuncData} (F:Fun K "_law_side" "_law_side" mB f fd) (B:Blt mg) (DD:Dn P w K mg base "_law_take" ["_law_pot_here","_law_many"] 1 (spTake)):FnOk P w K mg base CX0 2 f fd ["_law_pot_here","_law_unit_here","_law_most"] (spSideC):=by
 refine F.ok scsidecc (λ vs H Q E h=>?_) (λ cdv A outer s H vs Q E hr h=>?_)
 ·obtain ⟨p,u,m,rfl,_⟩:=h
  rfl
 obtain ⟨p,u,m,rfl,pt,u0,u1,m1,m40,q⟩:=h
 have nd:=scsidecc.nd
 refine ⟨_,(@ae _ _ _ _ _ (@aI _ _ _ _ _ _ _ _ (@aB _ _ _ _ _ _ _ _ bn (@aj _ _ _ _ _ _ _ _ _ _ DD hr rfl (@aa _ _ _ _ _ (pv 0) (@aa _ _ _ _ _ ad ab rfl) rfl) (by decide) rfl rfl) ad (aD _)) (@ag _ _ _ (@av _ _ _ _ (@ay _ _ _ _ _ _ _ _ dB (pv 1) (@ay _ _ _ _ _ _ _ _ aQ ad (@aj _ _ _ _ _ _ _ _ _ _ DD hr rfl (@aa _ _ _ _ _ (pv 0) (@aa _ _ _ _ _ (pv 2) ab rfl) rfl) (by decide) rfl rfl))))) aA) (@ag _ _ _ (@av _ _ _ _ (@ay _ _ _ _ _ _ _ _ aQ ad (@aj _ _ _ _ _ _ _ _ _ _ DD hr rfl (@aa _ _ _ _ _ (pv 0) (@aa _ _ _ _ _ (@ay _ _ _ _ _ _ _ _ dB (pv 2) (pv 1)) ab rfl) rfl) (by decide) rfl rfl))))),?_⟩
 have e58:40 * (2 * 10 ^ 56) < (10:Int) ^ 58:=by decide
 have e60:40 * (2 * 10 ^ 56) < (10:Int) ^ 60:=by decide
 have mu:m * u<=40 * (2 * 10 ^ 56):=Int.mul_le_mul m40 (Int.le_of_lt u1) (by omega) (by decide)
 have mu1:1<=m * u:=by have:=Int.mul_le_mul m1 u0 (by decide) (by omega); omega
 refine cI (λ R=>∀ (H':Hp),PotC H' p->But p H H'->R [some (.ref p),some (.int u),some (.int m)] H') (λ R hR=>?_) ?_
 ·refine ⟨_,Y,p,2,Y,pt,by decide,by decide,λ z H1 z0 z1 pt1 b1=>⟨Y,_,Y,?_⟩⟩
  refine ca (λ cc=>?_) (λ cc=>hR _ pt1 b1)
  refine ⟨_,Y,_,Y,_,Y,p,m,Y,pt1,by omega,by omega,λ r H2 r0 r1 pt2 b2=>⟨_,_,Y,Y,_,_,Y,Y,.inr ⟨by omega,by omega⟩,q _ H2 ?_ ?_ pt2 (b1.trans b2)⟩⟩
  ·have:=Int.mul_le_mul u0 (show (1:Int)<=1 + r by omega) (by decide) (by omega)
   omega
  ·have:u * (1 + r)<=u * m:=Int.mul_le_mul_of_nonneg_left (by omega) (by omega)
   rw [Int.mul_comm u m] at this
   omega
 rintro H1 pt1 b1
 exact ⟨_,Y,_,Y,_,Y,_,_,Y,Y,.inl ⟨by omega,by omega⟩,p,m * u,Y,pt1,by omega,by omega,λ r H2 r0 r1 pt2 b2=>⟨_,_,Y,Y,q _ H2 (by omega) (by omega) pt2 (b1.trans b2)⟩⟩
theorem scworthc:FnScope ["_law_pot_here","_law_some"] ["_law_pot_here"] (defScope js):=⟨Y,Y,Y,by decide +kernel,Y,by decide +kernel,by decide +kernel⟩
theorem nU {f:Addr} {fd:FuncData} (F:Fun K "_law_worth" "_law_worth" js f fd) (B:Blt mg) (DD:Dn P w K mg base "_law_take" ["_law_pot_here","_law_many"] 1 (spTake)):FnOk P w K mg base CX0 2 f fd ["_law_pot_here"] (spWorthC):=by
 refine F.ok scworthc (λ vs H Q E h=>?_) (λ cdv A outer s H vs Q E hr h=>?_)
 ·obtain ⟨p,rfl,_⟩:=h
  rfl
 obtain ⟨p,rfl,pt,q⟩:=h
 have nd:=scworthc.nd
 refine ⟨_,(@ae _ _ _ _ _ (@az _ _ 1 _ _ _ _ nd rfl (Or.inl rfl) (@aM _ _ _ _ (@aa _ _ _ _ _ (@aj _ _ _ _ _ _ _ _ _ _ DD hr rfl (@aa _ _ _ _ _ (pv 0) (@aa _ _ _ _ _ ad ab rfl) rfl) (by decide) rfl rfl) (@aa _ _ _ _ _ (@aj _ _ _ _ _ _ _ _ _ _ DD hr rfl (@aa _ _ _ _ _ (pv 0) (@aa _ _ _ _ _ (@ay _ _ _ _ _ _ _ _ fE ad ad) ab rfl) rfl) (by decide) rfl rfl) (@aa _ _ _ _ _ (@ay _ _ _ _ _ _ _ _ aU (@ay _ _ _ _ _ _ _ _ aU (@ay _ _ _ _ _ _ _ _ fE ad ad) ad) (@aj _ _ _ _ _ _ _ _ _ _ DD hr rfl (@aa _ _ _ _ _ (pv 0) (@aa _ _ _ _ _ ad ab rfl) rfl) (by decide) rfl rfl)) ab rfl) rfl) rfl)) rfl (Or.inl rfl)) (@ag _ _ _ (@av _ _ _ _ (@ao _ _ _ _ _ _ _ ix_list (pv 1) (@aj _ _ _ _ _ _ _ _ _ _ DD hr rfl (@aa _ _ _ _ _ (pv 0) (@aa _ _ _ _ _ ad ab rfl) rfl) (by decide) rfl rfl) (λ _ _=>rfl))))),?_⟩
 have e60:(10:Int) ^ (60:Int).toNat=10 ^ 60:=rfl
 have e100:(100:Int) < 10 ^ 60:=by decide
 refine ap (λ R=>∀ (l:Addr) (c d e:Int) (H':Hp),l≠p->H' l=some (.lst [.int c,.int d,.int e])->0<=c->c < 10 ^ 60->0<=d->d < 10 ^ 60->0<=e->e < 10 ^ 60->PotC H' p->But p H H'->R [some (.ref p),some (.ref l)] H') (λ Dd hR=>?_) ?_
 ·refine ⟨_,Y,p,10,Y,pt,by decide,by decide,λ r H1 r0 r1 pt1 b1=>⟨_,Y,_,_,Y,Y,⟨by decide,by decide,by decide⟩,p,_,Y,pt1,(by show (0:Int) < 10 ^ (60:Int).toNat; decide),(by show (10:Int) ^ (60:Int).toNat<=10 ^ 60; decide),λ r2 H2 r20 r21 pt2 b2=>⟨_,_,Y,Y,⟨by decide,by decide,by decide⟩,_,_,Y,Y,_,Y,p,10,Y,pt2,by decide,by decide,λ r3 H3 r30 r31 pt3 b3=>⟨_,_,Y,Y,zS3,λ l hl=>?_⟩⟩⟩⟩
  rw [e60] at r21
  obtain ⟨H4,e4,k4,n4,s4,b4,pt4⟩:=bU (o:=.lst [.int r,.int r2,.int (10 ^ (60:Int).toNat - 1 - r3)]) (b1.trans (b2.trans b3)) pt3 hl
  rw [show upd H3 l _=H4 from e4]
  exact hR l _ _ _ _ n4 k4 r0 (by omega) r20 r21 (by rw [e60]; omega) (by rw [e60]; omega) pt4 b4
 rintro l c d e H1 nlp hl1 c0 c1 d0 d1 e0 e1 pt1 b1
 refine ⟨_,Y,_,Y,p,3,Y,pt1,by decide,by decide,λ r H2 r0 r1 pt2 b2=>?_⟩
 have hl2:=b2 _ _ nlp hl1
 obtain ⟨x,hx,x0,x1⟩:∃x:Int,atI [V.int c,V.int d,V.int e] r=some (.int x)/\0<=x/\x < 10 ^ 60:=by
  have:r=0\/r=1\/r=2:=by omega
  rcases this with rfl | rfl | rfl
  ·exact ⟨c,Y,c0,c1⟩
  ·exact ⟨d,Y,d0,d1⟩
  ·exact ⟨e,Y,e0,e1⟩
 exact ⟨l,_,_,_,Y,Y,SqL.of hl2,hx,q x H2 x0 x1 pt2 (b1.trans b2)⟩
end
def LS (H:Hp) (t:Addr) (b:Int) (ks:List Kd) (kl:Addr):Prop:=∃rs,H t=some (.tup [.int b,.ref kl])/\H kl=some (.lst rs)/\Tups H rs ks
theorem LS.same {H H':Hp} {t kl:Addr} {b:Int} {ks:List Kd} (x:LS H t b ks kl) (s:Same H H'):LS H' t b ks kl:=by
 obtain ⟨rs,h1,h2,h3⟩:=x
 exact ⟨rs,s _ _ h1,s _ _ h2,Tups.keep (λ c xs e=>s _ _ e) h3⟩
theorem LS.but {p:Addr} {H H':Hp} {t kl:Addr} {b:Int} {ks:List Kd} (x:LS H t b ks kl) (n:kl≠p) (pt:PotC H p) (bt:But p H H'):LS H' t b ks kl:=by
 obtain ⟨rs,h1,h2,h3⟩:=x
 exact ⟨rs,cS bt pt h1,bt _ _ n h2,uR bt pt h3⟩
def LyC (H:Hp) (v:V) (q:Nat×Bool):Prop:=∃a,v=.ref a/\H a=some (.tup [.int q.1,.bl q.2])
theorem LyC.keep {H H':Hp} (k:∀a xs,H a=some (.tup xs)->H' a=some (.tup xs)) {v:V} {q:Nat×Bool} (h:LyC H v q):LyC H' v q:=by
 obtain ⟨a,e,h⟩:=h
 exact ⟨a,e,k _ _ h⟩
structure Pq where
 k:Nat
 c:Bool
 x:Int
 y:Int
def pqV (p:Pq):List V:=[.int p.k,.bl p.c,.int p.x,.int p.y]
structure Bx where
 a:Int
 b:Int
 c:Int
 d:Int
def bxV (x:Bx):List V:=[.int x.a,.int x.b,.int x.c,.int x.d]
def Gf (k:Kd) (p:Pq):Bx:=⟨p.x,p.y,p.x + sd1 k p.c,p.y + sd2 k p.c⟩
def apB (o r:Bx):Bool:=decide (o.c<=r.a) || decide (r.c<=o.a) || decide (o.d<=r.b) || decide (r.d<=o.b)
def Sq (H:Hp) (a:Addr) (xs:List V):Prop:=H a=some (.lst xs)\/H a=some (.tup xs)
def qR (k:Kd):Prop:=Good k/\k.w < 10 ^ 58/\k.h < 10 ^ 58
section
variable {P:Program} {w:World} {K:PySem.W.Frag} {mg:Str->Option Value} {base:Heap}
inductive spShopC (vs:List V) (H:Hp) (Q:VK) (E_:XK):Prop
 | mk (p:Addr) (u:Int) (e_1:vs=[.ref p,.int u]) (e_2:PotC H p) (e_3:1<=u) (e_4:u < 2 * 10 ^ 56) (e_5:∀ (t kl:Addr) (b:Int) (ks:List Kd) (H':Hp),LS H' t b ks kl->kl≠p->H kl=none->(∀k∈ks,qR k)->1<=ks.length->ks.length<=8->0<=b->b < 10 ^ 58->PotC H' p->But p H H'->Q (.ref t) H'):spShopC vs H Q E_
inductive spSidesC (vs:List V) (H:Hp) (Q:VK) (E_:XK):Prop
 | mk (t kl:Addr) (b:Int) (ks:List Kd) (i:Nat) (c:Bool) (k:Kd) (e_1:vs=[.ref t,.int i,.bl c]) (e_2:LS H t b ks kl) (e_3:ks[i]? = some k) (e_4:∀ (r:Addr) (H':Hp),H' r=some (.tup [.int (sd1 k c),.int (sd2 k c)])->Same H H'->Q (.ref r) H'):spSidesC vs H Q E_
inductive spLyingsC (vs:List V) (H:Hp) (Q:VK) (E_:XK):Prop
 | mk (t kl:Addr) (b:Int) (ks:List Kd) (e_1:vs=[.ref t]) (e_2:LS H t b ks kl) (e_3:ks.length<=8) (e_4:∀ (l:Addr) (ys:List V) (H':Hp),H' l=some (.lst ys)->H l=none->Paired (LyC H') ys (lyK ks 0)->Same H H'->Q (.ref l) H'):spLyingsC vs H Q E_
inductive spBox (vs:List V) (H:Hp) (Q:VK) (E_:XK):Prop
 | mk (t kl a:Addr) (b:Int) (ks:List Kd) (p:Pq) (k:Kd) (e_1:vs=[.ref t,.ref a]) (e_2:LS H t b ks kl) (e_3:Sq H a (pqV p)) (e_4:ks[p.k]? = some k) (e_5:∀ (r:Addr) (H':Hp),H' r=some (.tup (bxV (Gf k p)))->Same H H'->Q (.ref r) H'):spBox vs H Q E_
inductive spApart (vs:List V) (H:Hp) (Q:VK) (E_:XK):Prop
 | mk (a1 a2:Addr) (o r:Bx) (e_1:vs=[.ref a1,.ref a2]) (e_2:H a1=some (.tup (bxV o))) (e_3:H a2=some (.tup (bxV r))) (e_4:Q (.bl (apB o r)) H):spApart vs H Q E_
theorem scshopc:FnScope ["_law_pot_here","_law_unit_here","_law_blade","_law_kinds","_law_k","_law_wide","_law_high"] ["_law_pot_here","_law_unit_here"] (defScope mC):=⟨Y,Y,Y,by decide +kernel,Y,by decide +kernel,by decide +kernel⟩
theorem qS {f:Addr} {fd:FuncData} (F:Fun K "_law_shop" "_law_shop" mC f fd) (B:Blt mg) (DD:Dn P w K mg base "_law_take" ["_law_pot_here","_law_many"] 1 (spTake)) (DSi:Dn P w K mg base "_law_side" ["_law_pot_here","_law_unit_here","_law_most"] 2 (spSideC)) (DWo:Dn P w K mg base "_law_worth" ["_law_pot_here"] 2 (spWorthC)):FnOk P w K mg base CX0 3 f fd ["_law_pot_here","_law_unit_here"] (spShopC):=by
 refine F.ok scshopc (λ vs H Q E h=>?_) (λ cdv A outer s H vs Q E hr h=>?_)
 ·obtain ⟨p,u,rfl,_⟩:=h
  rfl
 obtain ⟨p,u,rfl,pt,u0,u1,q⟩:=h
 have nd:=scshopc.nd
 refine ⟨_,(@ae _ _ _ _ _ (@az _ _ 2 _ _ _ _ nd rfl (Or.inl rfl) (@ao _ _ _ _ _ _ _ ix_list (@aM _ _ _ _ (@aa _ _ _ _ _ ad (@aa _ _ _ _ _ (pv 1) (@aa _ _ _ _ _ (@aj _ _ _ _ _ _ _ _ _ _ DD (hr.mono (by decide)) rfl (@aa _ _ _ _ _ (pv 0) (@aa _ _ _ _ _ ad ab rfl) rfl) (by decide) rfl rfl) (@aa _ _ _ _ _ (@aj _ _ _ _ _ _ _ _ _ _ DD (hr.mono (by decide)) rfl (@aa _ _ _ _ _ (pv 0) (@aa _ _ _ _ _ (@ay _ _ _ _ _ _ _ _ aQ (@ay _ _ _ _ _ _ _ _ dB ad (pv 1)) ad) ab rfl) rfl) (by decide) rfl rfl) ab rfl) rfl) rfl) rfl)) (@aj _ _ _ _ _ _ _ _ _ _ DD (hr.mono (by decide)) rfl (@aa _ _ _ _ _ (pv 0) (@aa _ _ _ _ _ ad ab rfl) rfl) (by decide) rfl rfl) (λ _ _=>rfl)) rfl (Or.inl rfl)) (@ae _ _ _ _ _ (@az _ _ 3 _ _ _ _ nd rfl (Or.inl rfl) (@aM _ _ _ _ ab) rfl (Or.inl rfl)) (@ae _ _ _ _ _ (@bO _ _ _ _ _ _ _ _ PassesOwn.never rfl (fB rfl B.range (@aa _ _ _ _ _ (@ay _ _ _ _ _ _ _ _ aQ ad (@aj _ _ _ _ _ _ _ _ _ _ DD (hr.mono (by decide)) rfl (@aa _ _ _ _ _ (pv 0) (@aa _ _ _ _ _ ad ab rfl) rfl) (by decide) rfl rfl)) ab rfl)) (ai (i:=4) nd rfl (Or.inl rfl)) (@ae _ _ _ _ _ (@az _ _ 5 _ _ _ _ nd rfl (Or.inl rfl) (@aj _ _ _ _ _ _ _ _ _ _ DSi hr rfl (@aa _ _ _ _ _ (pv 0) (@aa _ _ _ _ _ (pv 1) (@aa _ _ _ _ _ ad ab rfl) rfl) rfl) (by decide) rfl rfl) rfl (Or.inl rfl)) (@ae _ _ _ _ _ (@az _ _ 6 _ _ _ _ nd rfl (Or.inl rfl) (@ao _ _ _ _ _ _ _ ix_list (@aM _ _ _ _ (@aa _ _ _ _ _ (pv 5) (@aa _ _ _ _ _ (@aj _ _ _ _ _ _ _ _ _ _ DSi hr rfl (@aa _ _ _ _ _ (pv 0) (@aa _ _ _ _ _ (pv 1) (@aa _ _ _ _ _ ad ab rfl) rfl) rfl) (by decide) rfl rfl) ab rfl) rfl)) (@bc _ _ _ _ _ _ _ _ _ cj rfl B.int PyProof.Rows.boot_int (@aa _ _ _ _ _ (@bq _ _ _ _ _ _ _ _ uG (@aj _ _ _ _ _ _ _ _ _ _ DD (hr.mono (by decide)) rfl (@aa _ _ _ _ _ (pv 0) (@aa _ _ _ _ _ ad ab rfl) rfl) (by decide) rfl rfl) ad (aD _)) ab rfl) (by decide) (by decide) rfl rfl) (λ _ _=>rfl)) rfl (Or.inl rfl)) (@ag _ _ _ (@bh _ _ _ _ (@dE _ _ _ _ _ _ _ _ _ _ _ _ PySem.F.plainAttrs_list PySem.F.slot_list_append PySem.F.type_list_append bP (pv 3) (@aa _ _ _ _ _ (@ax _ _ _ _ _ (@aa _ _ _ _ _ (pv 5) (@aa _ _ _ _ _ (pv 6) (@aa _ _ _ _ _ (@aj _ _ _ _ _ _ _ _ _ _ DWo hr rfl (@aa _ _ _ _ _ (pv 0) ab rfl) (by decide) rfl rfl) (@aa _ _ _ _ _ (@aj _ _ _ _ _ _ _ _ _ _ DWo hr rfl (@aa _ _ _ _ _ (pv 0) ab rfl) (by decide) rfl rfl) (@aa _ _ _ _ _ (@bq _ _ _ _ _ _ _ _ bn (@aj _ _ _ _ _ _ _ _ _ _ DD (hr.mono (by decide)) rfl (@aa _ _ _ _ _ (pv 0) (@aa _ _ _ _ _ ad ab rfl) rfl) (by decide) rfl rfl) ad (aD _)) ab rfl) rfl) rfl) rfl) rfl)) ab rfl) rfl rfl rfl rfl rfl) rfl)))) (by intro _; rfl)) (@ag _ _ _ (@av _ _ _ _ (@ax _ _ _ _ _ (@aa _ _ _ _ _ (pv 2) (@aa _ _ _ _ _ (pv 3) ab rfl) rfl))))))),?_⟩
 have e60:(100:Int) < 10 ^ 60:=by decide
 have e58:(10:Int) ^ 58 < 10 ^ 60:=by decide
 have e59:2 * (2 * 10 ^ 56) + 100 < (10:Int) ^ 58:=by decide
 have e57:2 * (2 * 10 ^ 56) + 1 < (10:Int) ^ 60:=by decide
 have sz:(100:Nat) < sizeLine:=by decide
 refine ap (λ R=>∀ (b:Int) (H':Hp),0<=b->b < 10 ^ 58->PotC H' p->But p H H'->R [some (.ref p),some (.int u),some (.int b),none,none,none,none] H') (λ Dd hR=>?_) ?_
 ·refine ⟨_,Y,_,Y,p,3,Y,pt,by decide,by decide,λ r1 H1 r10 r11 pt1 b1=>⟨_,Y,_,Y,_,_,Y,Y,.inl ⟨by decide,by decide⟩,_,_,Y,Y,p,_,Y,pt1,by omega,by omega,λ r2 H2 r20 r21 pt2 b2=>⟨zS4,λ l hl=>?_⟩⟩⟩
  obtain ⟨H3,e3,k3,n3,s3,b3,pt3⟩:=bU (o:=.lst [.int 0,.int u,.int r1,.int r2]) (b1.trans b2) pt2 hl
  rw [show upd H2 l _=H3 from e3]
  refine ⟨_,Y,p,4,Y,pt3,by decide,by decide,λ r H4 r0 r1' pt4 b4=>?_⟩
  have hl4:=b4 _ _ n3 k3
  obtain ⟨x,hx,x0,x1⟩:∃x:Int,atI [V.int 0,V.int u,V.int r1,V.int r2] r=some (.int x)/\0<=x/\x < 10 ^ 58:=by
   have:r=0\/r=1\/r=2\/r=3:=by omega
   rcases this with rfl | rfl | rfl | rfl
   ·exact ⟨0,Y,by decide,by omega⟩
   ·exact ⟨u,Y,by omega,by omega⟩
   ·exact ⟨r1,Y,r10,by omega⟩
   ·exact ⟨r2,Y,r20,by omega⟩
  exact ⟨l,_,_,_,Y,Y,SqL.of hl4,hx,hR x _ x0 x1 pt4 (b3.trans b4)⟩
 rintro b H1 b0 b1' pt1 b1
 refine ap (λ R=>∀ (l:Addr) (H':Hp),l≠p->H1 l=none->H' l=some (.lst [])->PotC H' p->But p H H'->R [some (.ref p),some (.int u),some (.int b),some (.ref l),none,none,none] H') (λ Dd hR=>?_) ?_
 ·refine ⟨by decide,λ l hl=>?_⟩
  obtain ⟨H2,e2,k2,n2,s2,b2,pt2⟩:=bU (o:=.lst []) b1 pt1 hl
  rw [show upd H1 l _=H2 from e2]
  exact hR l _ n2 hl k2 pt2 b2
 rintro l H2 nlp hl1 hl2 pt2 b2
 have hl0:H l=none:=(b1.freeC pt1 hl1).2
 refine bF (λ σ' H'=>(∃ (v4 v5 v6:Option V) (rs:List V) (ks:List Kd),σ'=[some (.ref p),some (.int u),some (.int b),some (.ref l),v4,v5,v6]/\H' l=some (.lst rs)/\Tups H' rs ks/\(∀k∈ks,qR k)/\(1<=rs.length/\rs.length<=8)/\PotC H' p/\But p H H')) (λ R hR=>?_) ?_
 ·refine ⟨_,Y,p,8,Y,pt2,by decide,by decide,λ m H3 m0 m1 pt3 b3=>⟨_,_,Y,Y,_,Y,by omega,by omega,?_⟩⟩
  refine fC (n:=(1 + m).toNat) (λ i σ' H'=>(∃ (v4 v5 v6:Option V) (rs:List V) (ks:List Kd),σ'=[some (.ref p),some (.int u),some (.int b),some (.ref l),v4,v5,v6]/\H' l=some (.lst rs)/\Tups H' rs ks/\(∀k∈ks,qR k)/\rs.length=i/\PotC H' p/\But p H H')) ⟨_,_,_,[],[],rfl,b3 _ _ nlp hl2,.nil,λ k hk=>by simp at hk,rfl,pt3,b2.trans b3⟩ ?_ ?_
  ·intro i _ H4 hi hI9
   refine cK λ G9 k9=>?_
   obtain ⟨v4,v5,v6,rs,ks,rfl,hl4,tp4,gk4,rl4,pt4,bt4⟩:=hI9
   refine k9 ?_
   refine ⟨_,Y,_,Y,p,u,6,Y,pt4,u0,u1,by decide,by decide,λ w1 H5 w0 w1' pt5 b5=>?_⟩
   refine ⟨_,Y,_,Y,_,Y,p,u,6,Y,pt5,u0,u1,by decide,by decide,λ h1 H6 h0 h1' pt6 b6=>⟨zS2,λ l2 hl2'=>?_⟩⟩
   obtain ⟨H7,e7,k7,n7,s7,b7,pt7⟩:=bU (o:=.lst [.int w1,.int h1]) (b5.trans b6) pt6 hl2'
   rw [show upd H6 l2 _=H7 from e7]
   refine ⟨_,Y,p,5,Y,pt7,by decide,by decide,λ z H8 z0 z1 pt8 b8=>⟨_,_,Y,Y,.inr ⟨_,Y,?_⟩⟩⟩
   have l28:=b8 _ _ n7 k7
   obtain ⟨nn,hnn,nn0,nn1⟩:∃nn:Int,atI [V.int w1,V.int h1] (if decide (0 < z)=true then (1:Int) else 0)=some (.int nn)/\1<=nn/\nn < 10 ^ 58:=by
    by_cases c:(0:Int) < z
    ·exact ⟨h1,by rw [decide_eq_true c]; rfl,h0,h1'⟩
    ·exact ⟨w1,by rw [decide_eq_false c]; rfl,w0,w1'⟩
   refine ⟨l2,_,_,_,Y,Y,SqL.of l28,hnn,?_⟩
   have b48:=b7.trans b8
   have hl8:=b48 _ _ nlp hl4
   refine ⟨_,Y,.inl ⟨Y,_,SqL.of hl8⟩,_,Y,_,Y,_,Y,p,Y,pt8,λ wo H9 wo0 wo1 pt9 b9=>?_⟩
   refine ⟨_,Y,p,Y,pt9,λ wa Ha wa0 wa1 pta ba=>?_⟩
   refine ⟨_,Y,p,2,Y,pta,by decide,by decide,λ tu Hb tu0 tu1 ptb bb=>⟨Y,zS5,λ t ht=>?_⟩⟩
   have b4b:=b48.trans (b9.trans (ba.trans bb))
   obtain ⟨H12,e12,k12,n12,s12,b12,pt12⟩:=bU (o:=.tup [.int w1,.int nn,.int wo,.int wa,.bl (decide (V.int tu=V.int 0))]) (bt4.trans b4b) ptb ht
   rw [show upd Hb t _=H12 from e12]
   have k12:H12 t=some (.tup (kdV ⟨w1,nn,wo,wa,decide (V.int tu=V.int 0)⟩)):=k12
   have hlc:=s12 _ _ (b4b _ _ nlp hl4)
   refine ⟨l,_,_,Y,Y,hlc,(by have:i < (1 + m).toNat:=hi; omega),?_⟩
   have kt:∀ {c:Addr} {xs:List V},H12 c=some (.tup xs)->(upd H12 l (.lst (rs ++ [.ref t]))) c=some (.tup xs):=λ {c xs} e=>by
    rw [am (λ z=>by rw [z,hlc] at e; cases e)]; exact e
   refine ⟨_,_,_,rs ++ [.ref t],ks ++ [⟨w1,nn,wo,wa,decide (V.int tu=V.int 0)⟩],Y,af,?_,λ k hk=>?_,by rw [List.length_append,rl4]; rfl,pt12.put (Ne.symm nlp),λ c o n e=>?_⟩
   ·exact eC (Tups.keep (λ c xs e=>kt (s12 _ _ e)) (uR b4b pt4 tp4)) (.cons ⟨t,Y,kt k12⟩ .nil)
   ·rcases List.mem_append.mp hk with hk | hk
    ·exact gk4 k hk
    ·rw [List.mem_singleton.mp hk]
     exact ⟨⟨by show (1:Int)<=w1; omega,by show (1:Int)<=nn; omega,wo0,wa0,by show w1 < _; omega,by show nn < _; omega,wo1,wa1⟩,w1',nn1⟩
   ·rw [am (λ z=>by rw [z,hl0] at e; cases e)]
    exact b12 _ _ n e
  ·intro _ H4 hI9
   refine cK λ G9 k9=>?_
   obtain ⟨v4,v5,v6,rs,ks,rfl,hl4,tp4,gk4,rl4,pt4,bt4⟩:=hI9
   refine k9 ?_
   exact hR _ _ ⟨_,_,_,rs,ks,rfl,hl4,tp4,gk4,⟨by omega,by omega⟩,pt4,bt4⟩
 intro _ H3 hI9
 refine cK λ G9 k9=>?_
 obtain ⟨v4,v5,v6,rs,ks,rfl,hl3,tp3,gk3,⟨r1,r8⟩,pt3,bt3⟩:=hI9
 refine k9 ?_
 refine ⟨_,Y,_,Y,zS2,λ t ht=>?_⟩
 obtain ⟨H6,e6,k6,n6,s6,b6,pt6⟩:=bU (o:=.tup [.int b,.ref l]) bt3 pt3 ht
 rw [show upd H3 t _=H6 from e6]
 have rl:=Paired.length tp3
 exact q t l b ks H6 ⟨rs,k6,s6 _ _ hl3,Tups.keep (λ c xs e=>s6 _ _ e) tp3⟩ nlp hl0 gk3 (by omega) (by omega) b0 b1' pt6 b6
theorem scsidesc:FnScope ["_law_shop_here","_law_kind","_law_turned_here","_law_wide","_law_high"] ["_law_shop_here","_law_kind","_law_turned_here"] (defScope jt):=⟨Y,Y,Y,by decide +kernel,Y,by decide +kernel,by decide +kernel⟩
theorem nV {f:Addr} {fd:FuncData} (F:Fun K "_law_sides" "_law_sides" jt f fd) (B:Blt mg):FnOk P w K mg base CX0 1 f fd ["_law_shop_here","_law_kind","_law_turned_here"] (spSidesC):=by
 refine F.ok scsidesc (λ vs H Q E h=>?_) (λ cdv A outer s H vs Q E hr h=>?_)
 ·obtain ⟨t,kl,b,ks,i,c,k,rfl,_⟩:=h
  rfl
 obtain ⟨t,kl,b,ks,i,c,k,rfl,sh,hi,q⟩:=h
 have nd:=scsidesc.nd
 refine ⟨_,(@ae _ _ _ _ _ (@bd _ _ _ _ _ _ (@jJ _ _ _ _ _ _ _ _ _ _ vp (@ao _ _ _ _ _ _ _ ix_list (@ao _ _ _ _ _ _ _ ix_tup (pv 0) ad (λ _ _=>rfl)) (pv 1) (λ _ _=>rfl)) lZ (ma ad)) (aT rfl (ah (ai (i:=3) nd rfl (Or.inl rfl)) (ah (ai (i:=4) nd rfl (Or.inl rfl)) aG))) rfl rfl rfl) (@ag _ _ _ (@av _ _ _ _ (@ao _ _ _ _ _ _ _ ix_list (@aM _ _ _ _ (@aa _ _ _ _ _ (@ax _ _ _ _ _ (@aa _ _ _ _ _ (pv 3) (@aa _ _ _ _ _ (pv 4) ab rfl) rfl)) (@aa _ _ _ _ _ (@ax _ _ _ _ _ (@aa _ _ _ _ _ (pv 4) (@aa _ _ _ _ _ (pv 3) ab rfl) rfl)) ab rfl) rfl)) (@bc _ _ _ _ _ _ _ _ _ cj rfl B.int PyProof.Rows.boot_int (@aa _ _ _ _ _ (pv 2) ab rfl) (by decide) (by decide) rfl rfl) (λ _ _=>rfl))))),?_⟩
 have sz:(100:Nat) < sizeLine:=by decide
 obtain ⟨rs,h1,h2,h3⟩:=id sh
 obtain ⟨vv,hvv,ak,rfl,hak⟩:=Paired.getL h3 hi
 have hak:H ak=some (.tup [.int k.w,.int k.h,.int k.wo,.int k.wa,.bl k.tu]):=hak
 have hat:atI rs (i:Int)=some (.ref ak):=aE (by omega) (by rw [Int.toNat_natCast]; exact hvv)
 refine ap (λ R=>∀ (H':Hp),Same H H'->R [some (.ref t),some (.int i),some (.bl c),some (.int k.w),some (.int k.h)] H') (λ Dd hR=>?_) ?_
 ·refine ⟨_,Y,t,_,1,_,Y,Y,SqT.of h1,Y,_,Y,kl,_,_,_,Y,Y,SqL.of h2,hat,_,Y,ak,_,Y,SqT.of hak,(λ z=>absurd z.2 (show ¬ HT.sIx 5 5 (some 2)=5 by decide)),λ a ha=>?_⟩
  obtain ⟨H1,e1,k1,s1⟩:∃H',upd H a (.tup (io [.int k.w,.int k.h,.int k.wo,.int k.wa,.bl k.tu] none (some 2)))=H'/\H' a=some (.tup (io [.int k.w,.int k.h,.int k.wo,.int k.wa,.bl k.tu] none (some 2)))/\Same H H':=⟨_,Y,af,Same.new ha⟩
  rw [show upd H a _=H1 from e1]
  exact ⟨a,_,Y,SqT.of (show H1 a=some (.tup [.int k.w,.int k.h]) from k1),Y,_,_,Y,_,_,Y,Y,hR _ s1⟩
 rintro H1 s1
 refine ⟨_,Y,_,Y,zS2,λ a ha=>?_⟩
 obtain ⟨H2,e2,k2,s2⟩:∃H',upd H1 a (.tup [.int k.w,.int k.h])=H'/\H' a=some (.tup [.int k.w,.int k.h])/\Same H1 H':=⟨_,Y,af,Same.new ha⟩
 rw [show upd H1 a _=H2 from e2]
 refine ⟨_,Y,_,Y,zS2,λ a2 ha2=>?_⟩
 obtain ⟨H3,e3,k3,s3⟩:∃H',upd H2 a2 (.tup [.int k.h,.int k.w])=H'/\H' a2=some (.tup [.int k.h,.int k.w])/\Same H2 H':=⟨_,Y,af,Same.new ha2⟩
 rw [show upd H2 a2 _=H3 from e3]
 refine ⟨zS2,λ l hl=>?_⟩
 obtain ⟨H4,e4,k4,s4⟩:∃H',upd H3 l (.lst [.ref a,.ref a2])=H'/\H' l=some (.lst [.ref a,.ref a2])/\Same H3 H':=⟨_,Y,af,Same.new hl⟩
 rw [show upd H3 l _=H4 from e4]
 refine ⟨_,Y,.inr ⟨_,Y,?_⟩⟩
 cases c with
 | true=>exact ⟨l,_,_,_,Y,Y,SqL.of k4,Y,q a2 H4 (s4 _ _ k3) (s1.trans (s2.trans (s3.trans s4)))⟩
 | false=>exact ⟨l,_,_,_,Y,Y,SqL.of k4,Y,q a H4 (s4 _ _ (s3 _ _ k2)) (s1.trans (s2.trans (s3.trans s4)))⟩
theorem sclyingsc:FnScope ["_law_shop_here","_law_found","_law_k","_law_kind"] ["_law_shop_here"] (defScope gG):=⟨Y,Y,Y,by decide +kernel,Y,by decide +kernel,by decide +kernel⟩
theorem lA {f:Addr} {fd:FuncData} (F:Fun K "_law_lyings" "_law_lyings" gG f fd) (B:Blt mg):FnOk P w K mg base CX0 1 f fd ["_law_shop_here"] (spLyingsC):=by
 refine F.ok sclyingsc (λ vs H Q E h=>?_) (λ cdv A outer s H vs Q E hr h=>?_)
 ·obtain ⟨t,kl,b,ks,rfl,_⟩:=h
  rfl
 obtain ⟨t,kl,b,ks,rfl,sh,k8,q⟩:=h
 have nd:=sclyingsc.nd
 refine ⟨_,(@ae _ _ _ _ _ (@az _ _ 1 _ _ _ _ nd rfl (Or.inl rfl) (@aM _ _ _ _ ab) rfl (Or.inl rfl)) (@ae _ _ _ _ _ (@bO _ _ _ _ _ _ _ _ PassesOwn.never rfl (tm rfl B.enumerate (@aa _ _ _ _ _ (@ao _ _ _ _ _ _ _ ix_tup (pv 0) ad (λ _ _=>rfl)) ab rfl)) (aT rfl (ah (ai (i:=2) nd rfl (Or.inl rfl)) (ah (ai (i:=3) nd rfl (Or.inl rfl)) aG))) (@ae _ _ _ _ _ (@bh _ _ _ _ (@dE _ _ _ _ _ _ _ _ _ _ _ _ PySem.F.plainAttrs_list PySem.F.slot_list_append PySem.F.type_list_append bP (pv 1) (@aa _ _ _ _ _ (@ax _ _ _ _ _ (@aa _ _ _ _ _ (pv 2) (@aa _ _ _ _ _ cM ab rfl) rfl)) ab rfl) rfl rfl rfl rfl rfl) rfl) (@ag _ _ _ (@aI _ _ _ _ _ _ _ _ (PW.pt (kF (@aS _ _ _ (@ao _ _ _ _ _ _ _ ix_tup (pv 3) ad (λ _ _=>rfl)) (by intro _; rfl)) (iV (@aB _ _ _ _ _ _ _ _ gQ (@ao _ _ _ _ _ _ _ ix_tup (pv 3) ad (λ _ _=>rfl)) (@ao _ _ _ _ _ _ _ ix_tup (pv 3) ad (λ _ _=>rfl)) (aD _))))) (@ag _ _ _ (@bh _ _ _ _ (@dE _ _ _ _ _ _ _ _ _ _ _ _ PySem.F.plainAttrs_list PySem.F.slot_list_append PySem.F.type_list_append bP (pv 1) (@aa _ _ _ _ _ (@ax _ _ _ _ _ (@aa _ _ _ _ _ (pv 2) (@aa _ _ _ _ _ cM ab rfl) rfl)) ab rfl) rfl rfl rfl rfl rfl) rfl)) aA))) (by intro _; rfl)) (@ag _ _ _ (@av _ _ _ _ (pv 1))))),?_⟩
 have sz:(100:Nat) < sizeLine:=by decide
 obtain ⟨rs,h1,h2,h3⟩:=id sh
 have rl:=Paired.length h3
 refine ap (λ R=>∀ (l:Addr) (H':Hp),H l=none->H' l=some (.lst [])->Same H H'->R [some (.ref t),some (.ref l),none,none] H') (λ Dd hR=>?_) ?_
 ·refine ⟨by decide,λ l hl=>?_⟩
  obtain ⟨H1,e1,k1,s1⟩:∃H',upd H l (.lst [])=H'/\H' l=some (.lst [])/\Same H H':=⟨_,Y,af,Same.new hl⟩
  rw [show upd H l _=H1 from e1]
  exact hR l _ hl k1 s1
 rintro l H1 hl hl1 s1
 have nkl:kl≠l:=au h2 hl
 refine bF (λ σ' H'=>(∃v2 v3:Option V,σ'=[some (.ref t),some (.ref l),v2,v3])/\(∃ys,H' l=some (.lst ys)/\Paired (LyC H') ys (lyK ks 0))/\But l H1 H') (λ R hR=>?_) ?_
 ·refine ⟨_,Y,t,_,1,_,Y,Y,SqT.of (s1 _ _ h1),Y,kl,rs,Y,.inl ⟨s1 _ _ h2,qx (f:=.lst) (λ _ _ e=>by cases e; rfl) (l:=kl) (xs:=rs) (λ i σ' H'=>(∃ (v2 v3:Option V) (ys:List V),σ'=[some (.ref t),some (.ref l),v2,v3]/\H' l=some (.lst ys)/\Paired (LyC H') ys (lyK (ks.take i) 0)/\But l H1 H')) ⟨_,_,[],Y,hl1,.nil,λ _ _ _ e=>e⟩ (λ i σ Hx ⟨v2,v3,ys,_,_,_,b⟩=>b _ _ nkl (s1 _ _ h2)) ?_ (λ σ Hx ⟨v2,v3,ys,e,hy,py,b⟩=>hR _ _ ⟨⟨v2,v3,e⟩,⟨ys,hy,by rw [rl,List.take_length] at py; exact py⟩,b⟩)⟩⟩
  intro i x pp σ H2 hx hp hI9
  refine cK λ G9 k9=>?_
  obtain ⟨v2,v3,ys,rfl,l2,py,b2⟩:=hI9
  refine k9 ?_
  obtain ⟨k,hk',ka,rfl,hka⟩:=Paired.getR h3 hx
  have hin:i < rs.length:=(List.getElem?_eq_some_iff.mp hx).1
  obtain ⟨H3,e3,k3,s3⟩:∃H',upd H2 pp (.tup [.int i,.ref ka])=H'/\H' pp=some (.tup [.int i,.ref ka])/\Same H2 H':=⟨_,Y,af,Same.new hp⟩
  rw [show upd H2 pp _=H3 from e3]
  have nka:ka≠l:=au hka hl
  have ka3:H3 ka=some (.tup [.int k.w,.int k.h,.int k.wo,.int k.wa,.bl k.tu]):=s3 _ _ (b2 _ _ nka (s1 _ _ hka))
  have yl:=Paired.length py
  have yl2:=jh (ks.take i) 0
  rw [List.length_take] at yl2
  have lt:lyK (ks.take (i + 1)) 0=lyK (ks.take i) 0 ++ lyT i k:=by
   rw [List.take_add_one,hk']
   show lyK (ks.take i ++ [k]) 0=_
   rw [jM,List.length_take,Nat.zero_add,Nat.min_eq_left (by omega)]
  refine ⟨pp,_,Y,SqT.of k3,Y,_,_,Y,_,_,Y,Y,?_⟩
  have app:∀ (Hx:Hp) (a:Addr) (zs:List V) (q:Nat×Bool) (L:List (Nat×Bool)),Hx l=some (.lst zs)->Paired (LyC Hx) zs L->Hx a=some (.tup [.int q.1,.bl q.2])->But l H1 Hx->Paired (LyC (upd Hx l (.lst (zs ++ [.ref a])))) (zs ++ [.ref a]) (L ++ [q])/\But l H1 (upd Hx l (.lst (zs ++ [.ref a]))):=λ Hx a zs q L hx pz ha bx=>by
   have kt:∀c xs,Hx c=some (.tup xs)->(upd Hx l (.lst (zs ++ [.ref a]))) c=some (.tup xs):=λ c xs e=>by
    rw [am (λ z=>by rw [z,hx] at e; cases e)]; exact e
   exact ⟨eC (Paired.mapP pz λ v q h=>h.keep kt) (.cons ⟨a,Y,kt _ _ ha⟩ .nil),λ c o n e=>by rw [am n]; exact bx _ _ n e⟩
  refine ap (λ R=>∀ (H':Hp),(∃ys,H' l=some (.lst ys)/\ys.length<=2 * i + 1/\Paired (LyC H') ys (lyK (ks.take i) 0 ++ [(i,false)]))->But l H1 H'->R [some (.ref t),some (.ref l),some (.int i),some (.ref ka)] H') (λ Dd hR=>?_) ?_
  ·refine ⟨_,Y,.inl ⟨Y,_,SqL.of (s3 _ _ l2)⟩,_,Y,zS2,λ a ha=>?_⟩
   obtain ⟨H4,e4,k4,s4⟩:∃H',upd H3 a (.tup [.int i,.bl false])=H'/\H' a=some (.tup [.int i,.bl false])/\Same H3 H':=⟨_,Y,af,Same.new ha⟩
   rw [show upd H3 a _=H4 from e4]
   have l4:=s4 _ _ (s3 _ _ l2)
   obtain ⟨a1,a2⟩:=app H4 a ys (i,false) _ l4 (Paired.mapP py λ v q h=>h.keep λ c xs e=>s4 _ _ (s3 _ _ e)) k4 (λ c o n e=>s4 _ _ (s3 _ _ (b2 _ _ n e)))
   exact ⟨l,_,_,Y,Y,l4,by omega,hR _ ⟨_,af,by rw [List.length_append]; show ys.length + 1<=_; omega,a1⟩ a2⟩
  rintro H4 ⟨zs,l4,zl,py4⟩ b4
  have ka4:H4 ka=some (.tup [.int k.w,.int k.h,.int k.wo,.int k.wa,.bl k.tu]):=b4 _ _ nka (s1 _ _ hka)
  have no:bi k=false->(∃ (v2 v3:Option V) (ys:List V),([some (.ref t),some (.ref l),some (.int i),some (.ref ka)]:St)=[some (.ref t),some (.ref l),v2,v3]/\H4 l=some (.lst ys)/\Paired (LyC H4) ys (lyK (ks.take (i + 1)) 0)/\But l H1 H4):=λ ht=>⟨_,_,zs,Y,l4,by rw [lt]; unfold lyT; rw [ht]; exact py4,b4⟩
  refine ⟨_,Y,ka,_,4,_,Y,Y,SqT.of ka4,Y,_,Y,?_⟩
  cases htu:k.tu with
  | false=>exact aO (no (by unfold bi; rw [htu]; rfl))
  | true =>
   refine aP ⟨_,rfl,ka,_,0,_,rfl,rfl,SqT.of ka4,rfl,_,rfl,ka,_,1,_,rfl,rfl,SqT.of ka4,rfl,rfl,_,rfl,?_⟩
   by_cases hwh:k.w=k.h
   ·rw [show (!decide (V.int k.w=V.int k.h))=false by rw [decide_eq_true (by rw [hwh])]; rfl]
    exact aO (no (by unfold bi; rw [decide_eq_true hwh]; simp))
   ·rw [show (!decide (V.int k.w=V.int k.h))=true by rw [decide_eq_false (λ z=>hwh (V.int.inj z))]; rfl]
    have ht:bi k=true:=by unfold bi; rw [htu,decide_eq_false hwh]; rfl
    refine aP ⟨_,rfl,.inl ⟨rfl,_,SqL.of l4⟩,_,rfl,zS2,λ a ha=>?_⟩
    obtain ⟨H5,e5,k5,s5⟩:∃H',upd H4 a (.tup [.int i,.bl true])=H'/\H' a=some (.tup [.int i,.bl true])/\Same H4 H':=⟨_,Y,af,Same.new ha⟩
    rw [show upd H4 a _=H5 from e5]
    have l5:=s5 _ _ l4
    obtain ⟨a1,a2⟩:=app H5 a zs (i,true) _ l5 (Paired.mapP py4 λ v q h=>h.keep λ c xs e=>s5 _ _ e) k5 (λ c o n e=>s5 _ _ (b4 _ _ n e))
    exact ⟨l,_,_,Y,Y,l5,by omega,_,_,_,Y,af,by rw [lt]; unfold lyT; rw [if_pos ht]; rw [List.append_assoc] at a1; exact a1,a2⟩
 rintro _ H2 ⟨⟨v2,v3,rfl⟩,⟨ys,hy,py⟩,b2⟩
 exact ⟨_,Y,q l ys H2 hy hl py (λ c o e=>b2 _ _ (au e hl) (s1 _ _ e))⟩
end
def wyS (dn:Bool):Str:=if dn=true then "down" else "across"
theorem yf {K:PySem.W.Frag} {H:Hp}:∀ {ys:List V} {qs:List (Nat×Bool)},Paired (LyC H) ys qs->∃ds,DatVs K H ys ds/\ds.length=ys.length/\PyData.canLayAll0 ds=true/\PyData.depthAll ds<=1
 | _,_,.nil=>⟨[],.nil,Y,Y,Nat.zero_le _⟩
 | _,_,.cons ⟨a,e,ha⟩ r=>by
  subst e
  obtain ⟨ds,d1,d2,d3,d4⟩:=yf (K:=K) r
  refine ⟨_ :: ds,.cons (.tup (SqT.of ha) (.cons (.int _) (.cons (.bl _) .nil))) d1,by rw [List.length_cons,List.length_cons,d2],?_,?_⟩
  ·simp [PyData.canLayAll0,PyData.canLay0,d3]
  ·simp only [PyData.depthAll,PyData.depth]; omega
theorem LS.keep2 {H H':Hp} {t kl p rm:Addr} {b:Int} {ks:List Kd} {xs ys:List V} (x:LS H t b ks kl) (hp:H p=some (.lst xs)) (hr:H rm=some (.lst ys)) (n1:kl≠p) (n2:kl≠rm) (bt:But2 p rm H H'):LS H' t b ks kl:=by
 obtain ⟨rs,h1,h2,h3⟩:=x
 have k:∀a zs,H a=some (.tup zs)->H' a=some (.tup zs):=λ a zs e=>bt _ _ (λ z=>by rw [z,hp] at e; cases e) (λ z=>by rw [z,hr] at e; cases e) e
 exact ⟨rs,k _ _ h1,bt _ _ n1 n2 h2,Tups.keep k h3⟩
def FtL (ks:List Kd) (W h:Int) (q:Nat×Bool):Prop:=q∈lyK ks 0/\∃k,ks[q.1]? = some k/\sd1 k q.2<=W/\sd2 k q.2<=h
theorem iK {c:Bool} {a b:Prop} (h:c=true) (x:a):if c=true then a else b:=by rw [if_pos h]; exact x
theorem fm {c:Bool} {a b:Prop} (h:c=false) (x:b):if c=true then a else b:=by rw [if_neg (by rw [h]; exact Bool.false_ne_true)]; exact x
section
variable {P:Program} {w:World} {K:PySem.W.Frag} {mg:Str->Option Value} {base:Heap}
inductive spBeh (vs:List V) (H:Hp) (Q:VK) (E_:XK):Prop
 | mk (t kl:Addr) (b W h p:Int) (ks:List Kd) (dn:Bool) (e_1:vs=[.ref t,.int W,.int h,.str (wyS dn),.int p]) (e_2:LS H t b ks kl) (e_3:∀ (r r1 r2:Addr) (H':Hp),H' r=some (.tup [.ref r1,.ref r2])->H' r1=some (.tup [.int (if dn=true then p else W),.int (if dn=true then h else p)])->H' r2=some (.tup [.int (if dn=true then W - p - b else W),.int (if dn=true then h else h - p - b)])->Same H H'->Q (.ref r) H'):spBeh vs H Q E_
inductive spLeafC (vs:List V) (H:Hp) (Q:VK) (E_:XK):Prop
 | mk (p t kl:Addr) (b W h:Int) (ks:List Kd) (e_1:vs=[.ref p,.ref t,.int W,.int h]) (e_2:PotC H p) (e_3:LS H t b ks kl) (e_4:kl≠p) (e_5:ks.length<=8) (e_6:(∀k∈ks,Good k)) (e_7:W < (9 * 10 ^ 59)) (e_8:h < (9 * 10 ^ 59)) (e_9:∀ (v:V) (T:Tr) (H':Hp),TrV H' T v->(∀b,okU b ks W h T)->lvN T=1->dT T=0->PotC H' p->But p H H'->Q v H'):spLeafC vs H Q E_
inductive spTreeC (n:Nat) (vs:List V) (H:Hp) (Q:VK) (E_:XK):Prop
 | mk (p t kl rm:Addr) (b W h r:Int) (ks:List Kd) (deep:Nat) (e_1:vs=[.ref p,.ref t,.int W,.int h,.int deep,.ref rm]) (e_2:PotC H p) (e_3:LS H t b ks kl) (e_4:kl≠p) (e_5:kl≠rm) (e_6:rm≠p) (e_7:ks.length<=8) (e_8:(∀k∈ks,Good k)) (e_9:0<=b) (e_10:W < (9 * 10 ^ 59)) (e_11:h < (9 * 10 ^ 59)) (e_12:H rm=some (.lst [.int r])) (e_13:0<=r) (e_14:deep < n) (e_15:∀ (v:V) (T:Tr) (r':Int) (H':Hp),TrV H' T v->okU b ks W h T->0<=r'->(lvN T:Int)<=r - r' + 1->dT T<=deep->H' rm=some (.lst [.int r'])->PotC H' p->But2 p rm H H'->Q v H'):spTreeC n vs H Q E_
theorem scbeh:FnScope ["_law_shop_here","_law_wide","_law_high","_law_way","_law_p"] ["_law_shop_here","_law_wide","_law_high","_law_way","_law_p"] (defScope gH):=⟨Y,Y,Y,by decide +kernel,Y,by decide +kernel,by decide +kernel⟩
theorem vK {f:Addr} {fd:FuncData} (F:Fun K "_law_behind" "_law_behind" gH f fd) (B:Blt mg):FnOk P w K mg base CX0 1 f fd ["_law_shop_here","_law_wide","_law_high","_law_way","_law_p"] (spBeh):=by
 refine F.ok scbeh (λ vs H Q E h=>?_) (λ cdv A outer s H vs Q E hr h=>?_)
 ·obtain ⟨t,kl,b,W,h1,p,ks,dn,rfl,_⟩:=h
  rfl
 obtain ⟨t,kl,b,W,h1,p,ks,dn,rfl,sh,q⟩:=h
 have nd:=scbeh.nd
 refine ⟨_,(@ae _ _ _ _ _ (@aI _ _ _ _ _ _ _ _ (@aB _ _ _ _ _ _ _ _ bn (pv 3) bI (aD _)) (@ag _ _ _ (@av _ _ _ _ (@ax _ _ _ _ _ (@aa _ _ _ _ _ (@ax _ _ _ _ _ (@aa _ _ _ _ _ (pv 4) (@aa _ _ _ _ _ (pv 2) ab rfl) rfl)) (@aa _ _ _ _ _ (@ax _ _ _ _ _ (@aa _ _ _ _ _ (@ay _ _ _ _ _ _ _ _ aU (@ay _ _ _ _ _ _ _ _ aU (pv 1) (pv 4)) (@ao _ _ _ _ _ _ _ ix_tup (pv 0) ad (λ _ _=>rfl))) (@aa _ _ _ _ _ (pv 2) ab rfl) rfl)) ab rfl) rfl)))) aA) (@ag _ _ _ (@av _ _ _ _ (@ax _ _ _ _ _ (@aa _ _ _ _ _ (@ax _ _ _ _ _ (@aa _ _ _ _ _ (pv 1) (@aa _ _ _ _ _ (pv 4) ab rfl) rfl)) (@aa _ _ _ _ _ (@ax _ _ _ _ _ (@aa _ _ _ _ _ (pv 1) (@aa _ _ _ _ _ (@ay _ _ _ _ _ _ _ _ aU (@ay _ _ _ _ _ _ _ _ aU (pv 2) (pv 4)) (@ao _ _ _ _ _ _ _ ix_tup (pv 0) ad (λ _ _=>rfl))) ab rfl) rfl)) ab rfl) rfl))))),?_⟩
 obtain ⟨kr,ht,_⟩:=id sh
 refine cI (λ R=>dn=false->R [some (.ref t),some (.int W),some (.int h1),some (.str (wyS dn)),some (.int p)] H) (λ R hR=>?_) ?_
 ·refine ⟨_,Y,Y,_,Y,?_⟩
  cases dn with
  | false=>exact fm (by decide +kernel) (hR rfl)
  | true =>
   refine iK (by decide +kernel) ?_
   refine ⟨_,Y,_,Y,zS2,λ r1 hr1=>?_⟩
   obtain ⟨H1,e1,k1,s1⟩:∃H',upd H r1 (.tup [.int p,.int h1])=H'/\H' r1=some (.tup [.int p,.int h1])/\Same H H':=⟨_,Y,af,Same.new hr1⟩
   rw [show upd H r1 _=H1 from e1]
   refine ⟨_,Y,_,Y,_,_,Y,Y,_,Y,t,_,0,_,Y,Y,SqT.of (s1 _ _ ht),Y,_,_,Y,Y,_,Y,zS2,λ r2 hr2=>?_⟩
   obtain ⟨H2,e2,k2,s2⟩:∃H',upd H1 r2 (.tup [.int (W - p - b),.int h1])=H'/\H' r2=some (.tup [.int (W - p - b),.int h1])/\Same H1 H':=⟨_,Y,af,Same.new hr2⟩
   rw [show upd H1 r2 _=H2 from e2]
   refine ⟨zS2,λ r hr=>?_⟩
   obtain ⟨H3,e3,k3,s3⟩:∃H',upd H2 r (.tup [.ref r1,.ref r2])=H'/\H' r=some (.tup [.ref r1,.ref r2])/\Same H2 H':=⟨_,Y,af,Same.new hr⟩
   rw [show upd H2 r _=H3 from e3]
   exact q r r1 r2 H3 k3 (s3 _ _ (s2 _ _ k1)) (s3 _ _ k2) (s1.trans (s2.trans s3))
 rintro rfl
 refine ⟨_,Y,_,Y,zS2,λ r1 hr1=>?_⟩
 obtain ⟨H1,e1,k1,s1⟩:∃H',upd H r1 (.tup [.int W,.int p])=H'/\H' r1=some (.tup [.int W,.int p])/\Same H H':=⟨_,Y,af,Same.new hr1⟩
 rw [show upd H r1 _=H1 from e1]
 refine ⟨_,Y,_,Y,_,Y,_,_,Y,Y,_,Y,t,_,0,_,Y,Y,SqT.of (s1 _ _ ht),Y,_,_,Y,Y,zS2,λ r2 hr2=>?_⟩
 obtain ⟨H2,e2,k2,s2⟩:∃H',upd H1 r2 (.tup [.int W,.int (h1 - p - b)])=H'/\H' r2=some (.tup [.int W,.int (h1 - p - b)])/\Same H1 H':=⟨_,Y,af,Same.new hr2⟩
 rw [show upd H1 r2 _=H2 from e2]
 refine ⟨zS2,λ r hr=>?_⟩
 obtain ⟨H3,e3,k3,s3⟩:∃H',upd H2 r (.tup [.ref r1,.ref r2])=H'/\H' r=some (.tup [.ref r1,.ref r2])/\Same H2 H':=⟨_,Y,af,Same.new hr⟩
 rw [show upd H2 r _=H3 from e3]
 exact q r r1 r2 H3 k3 (s3 _ _ (s2 _ _ k1)) (s3 _ _ k2) (s1.trans (s2.trans s3))
theorem scleafc:FnScope ["_law_pot_here","_law_shop_here","_law_wide","_law_high","_law_some","_law_kind","_law_turned_here","_law_own"] ["_law_pot_here","_law_shop_here","_law_wide","_law_high"] (defScope mD):=⟨Y,Y,Y,by decide +kernel,Y,by decide +kernel,by decide +kernel⟩
theorem qT {f:Addr} {fd:FuncData} (F:Fun K "_law_leaf" "_law_leaf" mD f fd) (B:Blt mg) (DD:Dn P w K mg base "_law_take" ["_law_pot_here","_law_many"] 1 (spTake)) (DSd:Dn P w K mg base "_law_sides" ["_law_shop_here","_law_kind","_law_turned_here"] 1 (spSidesC)) (DLy:Dn P w K mg base "_law_lyings" ["_law_shop_here"] 1 (spLyingsC)):FnOk P w K mg base CX0 2 f fd ["_law_pot_here","_law_shop_here","_law_wide","_law_high"] (spLeafC):=by
 refine F.ok scleafc (λ vs H Q E h=>?_) (λ cdv A outer s H vs Q E hr h=>?_)
 ·obtain ⟨p,t,kl,b,W,h1,ks,rfl,_⟩:=h
  rfl
 refine cK λ G9 k9=>?_
 obtain ⟨p,t,kl,b,W,h1,ks,rfl,pt,sh,nk,k8,gk,w58,h58,q⟩:=h
 refine k9 ?_
 have nd:=scleafc.nd
 have hu:=hr.units
 refine ⟨_,(@ae _ _ _ _ _ (@az _ _ 4 _ _ _ _ nd rfl (Or.inl rfl) (@aM _ _ _ _ ab) rfl (Or.inl rfl)) (@ae _ _ _ _ _ (@bO _ _ _ _ _ _ _ _ PassesOwn.never rfl (dP (@aj _ _ _ _ _ _ _ _ _ _ DLy (hr.mono (by decide)) rfl (@aa _ _ _ _ _ (pv 1) ab rfl) (by decide) rfl rfl)) (aT rfl (ah (ai (i:=5) nd rfl (Or.inl rfl)) (ah (ai (i:=6) nd rfl (Or.inl rfl)) aG))) (@ae _ _ _ _ _ (@az _ _ 7 _ _ _ _ nd rfl (Or.inl rfl) (@aj _ _ _ _ _ _ _ _ _ _ DSd (hr.mono (by decide)) rfl (@aa _ _ _ _ _ (pv 1) (@aa _ _ _ _ _ (pv 5) (@aa _ _ _ _ _ (pv 6) ab rfl) rfl) rfl) (by decide) rfl rfl) rfl (Or.inl rfl)) (@ag _ _ _ (@aI _ _ _ _ _ _ _ _ (PW.pt (kF (@aB _ _ _ _ _ _ _ _ ix (@ao _ _ _ _ _ _ _ ix_tup (pv 7) ad (λ _ _=>rfl)) (pv 2) (aD _)) (iV (@aB _ _ _ _ _ _ _ _ ix (@ao _ _ _ _ _ _ _ ix_tup (pv 7) ad (λ _ _=>rfl)) (pv 3) (aD _))))) (@ag _ _ _ (@bh _ _ _ _ (@dE _ _ _ _ _ _ _ _ _ _ _ _ PySem.F.plainAttrs_list PySem.F.slot_list_append PySem.F.type_list_append bP (pv 4) (@aa _ _ _ _ _ (@ax _ _ _ _ _ (@aa _ _ _ _ _ (pv 5) (@aa _ _ _ _ _ (pv 6) ab rfl) rfl)) ab rfl) rfl rfl rfl rfl rfl) rfl)) aA))) (by intro _; rfl)) (@ae _ _ _ _ _ (@aI _ _ _ _ _ _ _ _ (PW.pt (bY (@aB _ _ _ _ _ _ _ _ (vy hu) (pv 4) (@aM _ _ _ _ ab) (aD _)) (cq (@aB _ _ _ _ _ _ _ _ bn (@aj _ _ _ _ _ _ _ _ _ _ DD (hr.mono (by decide)) rfl (@aa _ _ _ _ _ (pv 0) (@aa _ _ _ _ _ ad ab rfl) rfl) (by decide) rfl rfl) ad (aD _))))) (@ag _ _ _ (@av _ _ _ _ (@ax _ _ _ _ _ (@aa _ _ _ _ _ bI ab rfl)))) aA) (@ae _ _ _ _ _ (@bd _ _ _ _ _ _ (@ao _ _ _ _ _ _ _ ix_list (pv 4) (@aj _ _ _ _ _ _ _ _ _ _ DD (hr.mono (by decide)) rfl (@aa _ _ _ _ _ (pv 0) (@aa _ _ _ _ _ (@aF _ _ _ _ _ _ _ _ _ aW rfl B.len PySem.boot_len (@aa _ _ _ _ _ (pv 4) ab rfl) (by decide) (by decide) rfl rfl) ab rfl) rfl) (by decide) rfl rfl) (λ _ _=>rfl)) (aT rfl (ah (ai (i:=5) nd rfl (Or.inl rfl)) (ah (ai (i:=6) nd rfl (Or.inl rfl)) aG))) rfl rfl rfl) (@ae _ _ _ _ _ (@az _ _ 7 _ _ _ _ nd rfl (Or.inl rfl) (@aj _ _ _ _ _ _ _ _ _ _ DSd (hr.mono (by decide)) rfl (@aa _ _ _ _ _ (pv 1) (@aa _ _ _ _ _ (pv 5) (@aa _ _ _ _ _ (pv 6) ab rfl) rfl) rfl) (by decide) rfl rfl) rfl (Or.inl rfl)) (@ag _ _ _ (@av _ _ _ _ (@ax _ _ _ _ _ (@aa _ _ _ _ _ bI (@aa _ _ _ _ _ (pv 5) (@aa _ _ _ _ _ (pv 6) (@aa _ _ _ _ _ (@aj _ _ _ _ _ _ _ _ _ _ DD (hr.mono (by decide)) rfl (@aa _ _ _ _ _ (pv 0) (@aa _ _ _ _ _ (@ay _ _ _ _ _ _ _ _ aQ (@ay _ _ _ _ _ _ _ _ aU (pv 2) (@ao _ _ _ _ _ _ _ ix_tup (pv 7) ad (λ _ _=>rfl))) ad) ab rfl) rfl) (by decide) rfl rfl) (@aa _ _ _ _ _ (@aj _ _ _ _ _ _ _ _ _ _ DD (hr.mono (by decide)) rfl (@aa _ _ _ _ _ (pv 0) (@aa _ _ _ _ _ (@ay _ _ _ _ _ _ _ _ aQ (@ay _ _ _ _ _ _ _ _ aU (pv 3) (@ao _ _ _ _ _ _ _ ix_tup (pv 7) ad (λ _ _=>rfl))) ad) ab rfl) rfl) (by decide) rfl rfl) ab rfl) rfl) rfl) rfl) rfl))))))))),?_⟩
 have sz:(1000:Nat) < sizeLine:=by decide
 have e58:(10:Int) ^ 58 + 10 < 10 ^ 60:=by decide
 have e60:(100:Int) < 10 ^ 60:=by decide
 have ly8:=jh ks 0
 refine ap (λ R=>∀ (so:Addr) (H':Hp),H so=none->H' so=some (.lst [])->Same H H'->R [some (.ref p),some (.ref t),some (.int W),some (.int h1),some (.ref so),none,none,none] H') (λ Dd hR=>?_) ?_
 ·refine ⟨by decide,λ so hso=>?_⟩
  obtain ⟨H1,e1,k1,s1⟩:∃H',upd H so (.lst [])=H'/\H' so=some (.lst [])/\Same H H':=⟨_,Y,af,Same.new hso⟩
  rw [show upd H so _=H1 from e1]
  exact hR so _ hso k1 s1
 rintro so H1 hso0 hso1 s1
 have sh1:=sh.same s1
 have pt1:=pt.same s1
 have nsp:so≠p:=Ne.symm (pt.ne hso0)
 obtain ⟨kr,lst1,lst2,lst3⟩:=id sh
 have nks:kl≠so:=au lst2 hso0
 have shk:∀ {Hx:Hp},But so H1 Hx->LS Hx t b ks kl:=λ bx=>by
  have k:∀a zs,H a=some (.tup zs)->_:=λ a zs e=>bx _ _ (au e hso0) (s1 _ _ e)
  exact ⟨kr,k _ _ lst1,bx _ _ nks (s1 _ _ lst2),Tups.keep k lst3⟩
 have tks:∀ {Hx Hy:Hp} {us:List V},Hx so=some (.lst us)->But so Hx Hy->∀a zs,Hx a=some (.tup zs)->Hy a=some (.tup zs):=λ h bx a zs e=>bx _ _ (λ z=>by rw [z,h] at e; cases e) e
 refine bF (λ σ' H'=>∃ (v5 v6 v7:Option V) (us:List V) (qs:List (Nat×Bool)),σ'=[some (.ref p),some (.ref t),some (.int W),some (.int h1),some (.ref so),v5,v6,v7]/\H' so=some (.lst us)/\Paired (LyC H') us qs/\(∀q∈qs,FtL ks W h1 q)/\us.length<=16/\But so H1 H') (λ R hR=>?_) ?_
 ·refine ⟨_,Y,t,kl,b,ks,Y,sh1,k8,λ l ys H2 hl hl0 pl s2=>?_⟩
  have yl:=Paired.length pl
  have nls:l≠so:=λ z=>by rw [z,hso1] at hl0; cases hl0
  refine ⟨l,Y,⟨_,SqL.of hl⟩,dA (xs:=ys) (λ i σ' H'=>(∃ (v5 v6 v7:Option V) (us:List V) (qs:List (Nat×Bool)),σ'=[some (.ref p),some (.ref t),some (.int W),some (.int h1),some (.ref so),v5,v6,v7]/\H' so=some (.lst us)/\Paired (LyC H') us qs/\(∀q∈qs,FtL ks W h1 q)/\us.length<=i/\But so H1 H')/\But so H2 H') ⟨⟨_,_,_,[],[],Y,s2 _ _ hso1,.nil,(λ q hq=>by simp at hq),Nat.le_refl _,yd s2⟩,But.refl'⟩ (λ i σ H' _ h=>SqL.of (h.2 _ _ nls hl)) ?_ (λ σ H' h=>hR _ _ (by obtain ⟨v5,v6,v7,us,qs,h1,h2,h3,h4,h5,h6⟩:=h.1; exact ⟨v5,v6,v7,us,qs,h1,h2,h3,h4,by omega,h6⟩))⟩
  rintro i x _ H3 hi ⟨⟨v5,v6,v7,us,qs,rfl,hu3,pu3,ft3,ul3,b13⟩,b23⟩
  obtain ⟨q0,hq0,aq,rfl,haq⟩:=Paired.getR pl hi
  have hin:i < ys.length:=(List.getElem?_eq_some_iff.mp hi).1
  have hly:=List.mem_of_getElem? hq0
  obtain ⟨_,kk,hkk,_⟩:=lr hly
  have hkk:ks[q0.1]? = some kk:=by simpa using hkk
  have haq3:=tks (s2 _ _ hso1) b23 _ _ haq
  refine ⟨aq,_,Y,SqT.of haq3,Y,_,_,Y,_,_,Y,Y,?_⟩
  refine ap (λ R=>∀ (ow:Addr) (H':Hp),H' ow=some (.tup [.int (sd1 kk q0.2),.int (sd2 kk q0.2)])->Same H3 H'->R [some (.ref p),some (.ref t),some (.int W),some (.int h1),some (.ref so),some (.int q0.1),some (.bl q0.2),some (.ref ow)] H') (λ Dd hR=>?_) ?_
  ·exact ⟨_,Y,_,Y,_,Y,t,kl,b,ks,q0.1,q0.2,kk,Y,shk b13,hkk,λ r H4 hr s4=>hR r _ hr s4⟩
  rintro ow H4 how s34
  have hu4:=s34 _ _ hu3
  have pu4:Paired (LyC H4) us qs:=Paired.mapP pu3 λ v q h=>h.keep λ a xs e=>s34 _ _ e
  have b14:But so H1 H4:=λ c o n e=>s34 _ _ (b13 _ _ n e)
  have b24:But so H2 H4:=λ c o n e=>s34 _ _ (b23 _ _ n e)
  have skip:(∃ (v5 v6 v7:Option V) (us':List V) (qs':List (Nat×Bool)),[some (.ref p),some (.ref t),some (.int W),some (.int h1),some (.ref so),some (.int q0.1),some (.bl q0.2),some (.ref ow)]=[some (.ref p),some (.ref t),some (.int W),some (.int h1),some (.ref so),v5,v6,v7]/\H4 so=some (.lst us')/\Paired (LyC H4) us' qs'/\(∀q∈qs',FtL ks W h1 q)/\us'.length<=i + 1/\But so H1 H4)/\But so H2 H4:=⟨⟨_,_,_,us,qs,Y,hu4,pu4,ft3,by omega,b14⟩,b24⟩
  refine ⟨_,Y,ow,_,0,_,Y,Y,SqT.of how,Y,_,Y,_,_,Y,Y,_,Y,?_⟩
  refine ca (λ c1=>?_) (λ c1=>skip)
  refine ⟨_,Y,ow,_,1,_,Y,Y,SqT.of how,Y,_,Y,_,_,Y,Y,_,Y,?_⟩
  refine ca (λ c2=>?_) (λ c2=>skip)
  refine ⟨_,Y,.inl ⟨Y,_,SqL.of hu4⟩,_,Y,_,Y,zS2,λ tp htp=>?_⟩
  obtain ⟨H5,e5,k5,s5⟩:∃H',upd H4 tp (.tup [.int q0.1,.bl q0.2])=H'/\H' tp=some (.tup [.int q0.1,.bl q0.2])/\Same H4 H':=⟨_,Y,af,Same.new htp⟩
  rw [show upd H4 tp _=H5 from e5]
  have hu5:=s5 _ _ hu4
  have bu:But so H5 (upd H5 so (.lst (us ++ [.ref tp]))):=λ c o n e=>by rw [am n]; exact e
  refine ⟨so,_,_,Y,Y,hu5,by omega,⟨_,_,_,us ++ [.ref tp],qs ++ [q0],Y,af,?_,λ q hq=>?_,by rw [List.length_append]; show us.length + 1<=_; omega,λ c o n e=>bu _ _ n (s5 _ _ (b14 _ _ n e))⟩,λ c o n e=>bu _ _ n (s5 _ _ (b24 _ _ n e))⟩
  ·exact eC (Paired.mapP pu4 λ v q h=>h.keep λ a xs e=>tks hu5 bu _ _ (s5 _ _ e)) (.cons ⟨tp,Y,tks hu5 bu _ _ k5⟩ .nil)
  ·rcases List.mem_append.mp hq with hq | hq
   ·exact ft3 q hq
   ·rw [List.mem_singleton.mp hq]
    exact ⟨hly,kk,hkk,of_decide_eq_true c1,of_decide_eq_true c2⟩
 intro _ H2 hI9
 refine cK λ G9 k9=>?_
 obtain ⟨v5,v6,v7,us,qs,rfl,hu2,pu2,ft,ul,b12⟩:=hI9
 refine k9 ?_
 have pt2:PotC H2 p:=by
  obtain ⟨a,b,h1,h2,h3,e⟩:=pt1
  exact ⟨a,b,h1,h2,h3,b12 _ _ (Ne.symm nsp) e⟩
 have b02:But p H H2:=λ c o n e=>b12 _ _ (au e hso0) (s1 _ _ e)
 have sh2:=shk b12
 have rest:∀Hx,But p H Hx->PotC Hx p->∀r,Hx r=none->Q (.ref r) (upd Hx r (.tup [.str "rest"])):=λ Hx bx px r hr=>by
  obtain ⟨H9,e9,k9,n9,s9,b9,pt9⟩:=bU (o:=.tup [.str "rest"]) bx px hr
  rw [show upd Hx r _=H9 from e9]
  exact q _ .rest H9 ⟨r,rfl,k9⟩ (λ _=>trivial) rfl rfl pt9 b9
 refine cI (λ R=>∀ (H':Hp),us≠[]->H' so=some (.lst us)->Paired (LyC H') us qs->LS H' t b ks kl->PotC H' p->But p H H'->R [some (.ref p),some (.ref t),some (.int W),some (.int h1),some (.ref so),v5,v6,v7] H') (λ R hR=>?_) ?_
 ·refine ⟨_,Y,by decide,λ e he=>?_⟩
  obtain ⟨H3,e3,k3,n3,s3,b3,pt3⟩:=bU (o:=.lst []) b02 pt2 he
  rw [show upd H2 e _=H3 from e3]
  obtain ⟨ds,d1,d2,d3,d4⟩:=yf (K:=K) (Paired.mapP pu2 λ v q h=>h.keep λ a xs e=>s3 _ _ e)
  obtain ⟨sh1,sh2',sh3⟩:=vJ d3 d4
  refine ⟨.list ds,.list [],.lst (SqL.of (s3 _ _ hu2)) d1,.lst (SqL.of k3) .nil,sh1,by decide +kernel,_,Y,?_⟩
  by_cases hz0:us=[]
  ·rw [sh2' (by rw [hz0] at d2; exact List.eq_nil_of_length_eq_zero d2)]
   exact aP (aP ⟨zS1,λ r hr=>rest _ b3 pt3 r hr⟩)
  rw [sh3 (λ z=>hz0 (by rw [z] at d2; exact List.eq_nil_of_length_eq_zero d2.symm))]
  refine aO ⟨_,rfl,p,5,rfl,pt3,by decide,by decide,λ z H4 z0 z1 pt4 b4=>⟨rfl,_,rfl,?_⟩⟩
  refine ca (λ cc=>⟨zS1,λ r hr=>rest _ (b3.trans b4) pt4 r hr⟩) (λ cc=>?_)
  exact hR _ hz0 (b4 _ _ nsp (s3 _ _ hu2)) (Paired.mapP pu2 (λ v q h=>h.keep λ a xs e=>cS b4 pt3 (s3 _ _ e))) ((sh2.same s3).but nk pt3 b4) pt4 (b3.trans b4)
 rintro H3 une hu3 pu3 sh3 pt3 b03
 have u1:1<=us.length:=Nat.pos_of_ne_zero λ z=>une (List.eq_nil_of_length_eq_zero z)
 refine ap (λ R=>∀ (i:Nat) (c:Bool) (k:Kd) (H':Hp),(i,c)∈lyK ks 0->ks[i]? = some k->sd1 k c<=W->sd2 k c<=h1->LS H' t b ks kl->PotC H' p->But p H H'->R [some (.ref p),some (.ref t),some (.int W),some (.int h1),some (.ref so),some (.int i),some (.bl c),v7] H') (λ Dd hR=>?_) ?_
 ·refine ⟨_,Y,_,Y,_,Y,so,_,Y,.inl (SqL.of hu3),p,_,Y,pt3,by omega,by omega,λ r H4 r0 r1 pt4 b4=>?_⟩
  obtain ⟨v,hv⟩:∃v,us[r.toNat]? = some v:=⟨_,List.getElem?_eq_getElem (show r.toNat < us.length by omega)⟩
  obtain ⟨q0,hq0,aq,rfl,haq⟩:=Paired.getR pu3 hv
  obtain ⟨f1,k,hk,f2,f3⟩:=ft q0 (List.mem_of_getElem? hq0)
  exact ⟨so,_,_,_,Y,Y,SqL.of (b4 _ _ nsp hu3),aE r0 hv,aq,_,Y,SqT.of (cS b4 pt3 haq),Y,_,_,Y,_,_,Y,Y,hR q0.1 q0.2 k _ f1 hk f2 f3 (sh3.but nk pt3 b4) pt4 (b03.trans b4)⟩
 rintro i c k H4 hly hk f2 f3 sh4 pt4 b04
 refine ap (λ R=>∀ (ow:Addr) (H':Hp),H' ow=some (.tup [.int (sd1 k c),.int (sd2 k c)])->PotC H' p->But p H H'->R [some (.ref p),some (.ref t),some (.int W),some (.int h1),some (.ref so),some (.int i),some (.bl c),some (.ref ow)] H') (λ Dd hR=>?_) ?_
 ·exact ⟨_,Y,_,Y,_,Y,t,kl,b,ks,i,c,k,Y,sh4,hk,λ r H5 hr s5=>hR r _ hr (pt4.same s5) (λ c o n e=>s5 _ _ (b04 _ _ n e))⟩
 rintro ow H5 how pt5 b05
 have g:=gk k (List.mem_of_getElem? hk)
 have sp:1<=sd1 k c/\1<=sd2 k c:=by have:=g.w; have:=g.h; cases c <;> exact ⟨by assumption,by assumption⟩
 refine ⟨_,Y,_,Y,_,Y,_,Y,_,Y,ow,_,0,_,Y,Y,SqT.of how,Y,_,_,Y,Y,_,_,Y,Y,p,W - sd1 k c + 1,Y,pt5,by omega,by omega,λ x H6 x0 x1 pt6 b6=>?_⟩
 have how6:=cS b6 pt5 how
 refine ⟨_,Y,_,Y,_,Y,ow,_,1,_,Y,Y,SqT.of how6,Y,_,_,Y,Y,_,_,Y,Y,p,h1 - sd2 k c + 1,Y,pt6,by omega,by omega,λ y H7 y0 y1 pt7 b7=>?_⟩
 refine ⟨zS5,λ r hr=>?_⟩
 obtain ⟨H8,e8,k8,n8,s8,b8,pt8⟩:=bU (o:=.tup [.str "piece",.int i,.bl c,.int x,.int y]) ((b05.trans b6).trans b7) pt7 hr
 rw [show upd H7 r _=H8 from e8]
 exact q _ (.piece i c x y) H8 ⟨r,rfl,k8⟩ (λ _=>⟨k,hk,hly,x0,y0,by omega,by omega⟩) rfl rfl pt8 b8
end
section
variable {P:Program} {w:World} {K:PySem.W.Frag} {mg:Str->Option Value} {base:Heap}
theorem sctreec:FnScope ["_law_pot_here","_law_shop_here","_law_wide","_law_high","_law_deep_here","_law_room","_law_way","_law_side_here","_law_p","_law_one","_law_other","_law_first"] ["_law_pot_here","_law_shop_here","_law_wide","_law_high","_law_deep_here","_law_room"] (defScope iG):=⟨Y,Y,Y,by decide +kernel,Y,by decide +kernel,by decide +kernel⟩
set_option maxHeartbeats 1000000 in
theorem qU {f:Addr} {fd:FuncData} (F:Fun K "_law_tree" "_law_tree" iG f fd) (B:Blt mg) (n:Nat) (DD:Dn P w K mg base "_law_take" ["_law_pot_here","_law_many"] 1 (spTake)) (DBh:Dn P w K mg base "_law_behind" ["_law_shop_here","_law_wide","_law_high","_law_way","_law_p"] 1 (spBeh)) (DLf:Dn P w K mg base "_law_leaf" ["_law_pot_here","_law_shop_here","_law_wide","_law_high"] 2 (spLeafC)) (DT:Dn P w K mg base "_law_tree" ["_law_pot_here","_law_shop_here","_law_wide","_law_high","_law_deep_here","_law_room"] (3 + n) (spTreeC n)):FnOk P w K mg base CX0 (3 + (n + 1)) f fd ["_law_pot_here","_law_shop_here","_law_wide","_law_high","_law_deep_here","_law_room"] (spTreeC (n + 1)):=by
 refine F.ok sctreec (λ vs H Q E h=>?_) (λ cdv A outer s H vs Q E hr h=>?_)
 ·obtain ⟨p,t,kl,rm,b,W,h1,r,ks,deep,rfl,_⟩:=h
  rfl
 obtain ⟨p,t,kl,rm,b,W,h1,r,ks,deep,rfl,pt,sh,nk,nkr,nrp,k8,gk,b0,w58,h58,hrm,r0,dn0,q⟩:=h
 have nd:=sctreec.nd
 refine ⟨_,(@ae _ _ _ _ _ (@az _ _ 6 _ _ _ _ nd rfl (Or.inl rfl) (@ao _ _ _ _ _ _ _ ix_list (@aM _ _ _ _ (@aa _ _ _ _ _ bI (@aa _ _ _ _ _ bI ab rfl) rfl)) (@aj _ _ _ _ _ _ _ _ _ _ DD (hr.mono (show 1<=3 + n by omega)) rfl (@aa _ _ _ _ _ (pv 0) (@aa _ _ _ _ _ ad ab rfl) rfl) (by decide) rfl rfl) (λ _ _=>rfl)) rfl (Or.inl rfl)) (@ae _ _ _ _ _ (@az _ _ 7 _ _ _ _ nd rfl (Or.inl rfl) (@ay _ _ _ _ _ _ _ _ aU (@ay _ _ _ _ _ _ _ _ aU (@ao _ _ _ _ _ _ _ ix_list (@aM _ _ _ _ (@aa _ _ _ _ _ (pv 2) (@aa _ _ _ _ _ (pv 3) ab rfl) rfl)) (@bc _ _ _ _ _ _ _ _ _ cj rfl B.int PyProof.Rows.boot_int (@aa _ _ _ _ _ (@bq _ _ _ _ _ _ _ _ bn (pv 6) bI (aD _)) ab rfl) (by decide) (by decide) rfl rfl) (λ _ _=>rfl)) (@ao _ _ _ _ _ _ _ ix_tup (pv 1) ad (λ _ _=>rfl))) ad) rfl (Or.inl rfl)) (@ae _ _ _ _ _ (@aI _ _ _ _ _ _ _ _ (PW.pt (bY (@aB _ _ _ _ _ _ _ _ bn (pv 4) ad (aD _)) (bY (@aB _ _ _ _ _ _ _ _ bn (@ao _ _ _ _ _ _ _ ix_list (pv 5) ad (λ _ _=>rfl)) ad (aD _)) (bY (@aB _ _ _ _ _ _ _ _ lW (pv 7) ad (aD _)) (cq (@aB _ _ _ _ _ _ _ _ bn (@aj _ _ _ _ _ _ _ _ _ _ DD (hr.mono (show 1<=3 + n by omega)) rfl (@aa _ _ _ _ _ (pv 0) (@aa _ _ _ _ _ ad ab rfl) rfl) (by decide) rfl rfl) ad (aD _))))))) (@ag _ _ _ (@av _ _ _ _ (@aj _ _ _ _ _ _ _ _ _ _ DLf (hr.mono (show 2<=3 + n by omega)) rfl (@aa _ _ _ _ _ (pv 0) (@aa _ _ _ _ _ (pv 1) (@aa _ _ _ _ _ (pv 2) (@aa _ _ _ _ _ (pv 3) ab rfl) rfl) rfl) rfl) (by decide) rfl rfl))) aA) (@ae _ _ _ _ _ (@bd _ _ _ _ _ _ (@ay _ _ _ _ _ _ _ _ aU (@ao _ _ _ _ _ _ _ ix_list (pv 5) ad (λ _ _=>rfl)) ad) (kG (pv 5) ad eV) rfl rfl rfl) (@ae _ _ _ _ _ (@az _ _ 8 _ _ _ _ nd rfl (Or.inl rfl) (@ay _ _ _ _ _ _ _ _ aQ ad (@ao _ _ _ _ _ _ _ ix_list (@aM _ _ _ _ (@aa _ _ _ _ _ (@aj _ _ _ _ _ _ _ _ _ _ DD (hr.mono (show 1<=3 + n by omega)) rfl (@aa _ _ _ _ _ (pv 0) (@aa _ _ _ _ _ (pv 7) ab rfl) rfl) (by decide) rfl rfl) (@aa _ _ _ _ _ (@ay _ _ _ _ _ _ _ _ eY (pv 7) ad) (@aa _ _ _ _ _ (@aj _ _ _ _ _ _ _ _ _ _ DD (hr.mono (show 1<=3 + n by omega)) rfl (@aa _ _ _ _ _ (pv 0) (@aa _ _ _ _ _ (@aF _ _ _ _ _ _ _ _ _ (fG rfl) rfl B.min PyProof.Rows.boot_min (@aa _ _ _ _ _ (pv 7) (@aa _ _ _ _ _ ad ab rfl) rfl) (by decide) (by decide) rfl rfl) ab rfl) rfl) (by decide) rfl rfl) ab rfl) rfl) rfl)) (@aj _ _ _ _ _ _ _ _ _ _ DD (hr.mono (show 1<=3 + n by omega)) rfl (@aa _ _ _ _ _ (pv 0) (@aa _ _ _ _ _ ad ab rfl) rfl) (by decide) rfl rfl) (λ _ _=>rfl))) rfl (Or.inl rfl)) (@ae _ _ _ _ _ (@az _ _ 8 _ _ _ _ nd rfl (Or.inl rfl) (@aF _ _ _ _ _ _ _ _ _ (fG rfl) rfl B.min PyProof.Rows.boot_min (@aa _ _ _ _ _ (pv 8) (@aa _ _ _ _ _ (pv 7) ab rfl) rfl) (by decide) (by decide) rfl rfl) rfl (Or.inl rfl)) (@ae _ _ _ _ _ (@bd _ _ _ _ _ _ (@aj _ _ _ _ _ _ _ _ _ _ DBh (hr.mono (show 1<=3 + n by omega)) rfl (@aa _ _ _ _ _ (pv 1) (@aa _ _ _ _ _ (pv 2) (@aa _ _ _ _ _ (pv 3) (@aa _ _ _ _ _ (pv 6) (@aa _ _ _ _ _ (pv 8) ab rfl) rfl) rfl) rfl) rfl) (by decide) rfl rfl) (aT rfl (ah (ai (i:=9) nd rfl (Or.inl rfl)) (ah (ai (i:=10) nd rfl (Or.inl rfl)) aG))) rfl rfl rfl) (@ae _ _ _ _ _ (@az _ _ 11 _ _ _ _ nd rfl (Or.inl rfl) (@aj _ _ _ _ _ _ _ _ _ _ DT hr rfl (@aa _ _ _ _ _ (pv 0) (@aa _ _ _ _ _ (pv 1) (@aa _ _ _ _ _ (@ao _ _ _ _ _ _ _ ix_tup (pv 9) ad (λ _ _=>rfl)) (@aa _ _ _ _ _ (@ao _ _ _ _ _ _ _ ix_tup (pv 9) ad (λ _ _=>rfl)) (@aa _ _ _ _ _ (@ay _ _ _ _ _ _ _ _ aU (pv 4) ad) (@aa _ _ _ _ _ (pv 5) ab rfl) rfl) rfl) rfl) rfl) rfl) (by decide) rfl rfl) rfl (Or.inl rfl)) (@ag _ _ _ (@av _ _ _ _ (@ax _ _ _ _ _ (@aa _ _ _ _ _ (pv 6) (@aa _ _ _ _ _ (pv 8) (@aa _ _ _ _ _ (pv 11) (@aa _ _ _ _ _ (@aj _ _ _ _ _ _ _ _ _ _ DT hr rfl (@aa _ _ _ _ _ (pv 0) (@aa _ _ _ _ _ (pv 1) (@aa _ _ _ _ _ (@ao _ _ _ _ _ _ _ ix_tup (pv 10) ad (λ _ _=>rfl)) (@aa _ _ _ _ _ (@ao _ _ _ _ _ _ _ ix_tup (pv 10) ad (λ _ _=>rfl)) (@aa _ _ _ _ _ (@ay _ _ _ _ _ _ _ _ aU (pv 4) ad) (@aa _ _ _ _ _ (pv 5) ab rfl) rfl) rfl) rfl) rfl) rfl) (by decide) rfl rfl) ab rfl) rfl) rfl) rfl)))))))))))),?_⟩
 have e58:(10:Int) ^ 58 + 10 < 10 ^ 60:=by decide
 have e60:(100:Int) < 10 ^ 60:=by decide
 have sz:(1000:Nat) < sizeLine:=by decide
 obtain ⟨_,hp0⟩:=lw pt
 refine ap (λ R=>∀ (dn:Bool) (H':Hp),PotC H' p->But p H H'->R [some (.ref p),some (.ref t),some (.int W),some (.int h1),some (.int deep),some (.ref rm),some (.str (wyS dn)),none,none,none,none,none] H') (λ Dd hR=>?_) ?_
 ·refine ⟨zS2,λ l hl=>?_⟩
  obtain ⟨H1, e1, k1, n1, s1, b1, pt1⟩:=bU (o:=.lst [.str "down", .str "across"]) But.refl' pt hl
  rw [show upd H l _=H1 from e1]
  refine ⟨_,Y,p,2,Y,pt1,by decide,by decide,λ z H2 z0 z1 pt2 b2=>?_⟩
  have:z=0\/z=1:=by omega
  rcases this with rfl | rfl
  ·exact ⟨l,_,_,_,Y,Y,SqL.of (b2 _ _ n1 k1),Y,hR true _ pt2 (b1.trans b2)⟩
  ·exact ⟨l,_,_,_,Y,Y,SqL.of (b2 _ _ n1 k1),Y,hR false _ pt2 (b1.trans b2)⟩
 rintro dn H1 pt1 b1
 have sh1:=sh.but nk pt b1
 have hrm1:=b1 _ _ nrp hrm
 refine ap (λ R=>∀ (sd:Int) (H':Hp),sd=(if dn=true then W else h1) - b - 1->Same H1 H'->R [some (.ref p),some (.ref t),some (.int W),some (.int h1),some (.int deep),some (.ref rm),some (.str (wyS dn)),some (.int sd),none,none,none,none] H') (λ Dd hR=>?_) ?_
 ·refine ⟨_,Y,_,Y,zS2,λ rl hrl=>?_⟩
  obtain ⟨H2,e2,k2,s2⟩:∃H',upd H1 rl (.lst [.int W,.int h1])=H'/\H' rl=some (.lst [.int W,.int h1])/\Same H1 H':=⟨_,Y,af,Same.new hrl⟩
  rw [show upd H1 rl _=H2 from e2]
  obtain ⟨kr,ht,_⟩:=id (sh1.same s2)
  refine ⟨_,Y,Y,.inr ⟨_,Y,rl,_,_,.int (if dn=true then W else h1),Y,Y,SqL.of k2,?_,_,Y,t,_,0,_,Y,Y,SqT.of ht,Y,_,_,Y,Y,_,_,Y,Y,hR _ _ rfl s2⟩⟩
  cases dn with
  | true =>
   rw [show decide (V.str (wyS true)=V.str "across")=false by decide +kernel]
   rfl
  | false =>
   rw [show decide (V.str (wyS false)=V.str "across")=true by decide +kernel]
   rfl
 rintro sd H2 esd s12
 have pt2:=pt1.same s12
 have sh2:=sh1.same s12
 have hrm2:=s12 _ _ hrm1
 have b2:But p H H2:=λ c o n e=>s12 _ _ (b1 _ _ n e)
 have leaf:∀Hx,But p H Hx->PotC Hx p->spLeafC [.ref p,.ref t,.int W,.int h1] Hx Q E0:=λ Hx bx px =>
  ⟨p,t,kl,b,W,h1,ks,rfl,px,sh.but nk pt bx,nk,k8,gk,w58,h58,λ v T H' tv ok ln d0 pt' b'=>q v T r H' tv (ok b) r0 (by omega) (by omega) (b' _ _ nrp (bx _ _ nrp hrm)) pt' (But2.but (bx.trans b'))⟩
 refine cI (λ R=>∀ (H':Hp),1<=r->1<=deep->1<=sd->PotC H' p->But p H H'->R [some (.ref p),some (.ref t),some (.int W),some (.int h1),some (.int deep),some (.ref rm),some (.str (wyS dn)),some (.int sd),none,none,none,none] H') (λ R hR=>?_) ?_
 ·refine ⟨_,Y,Y,_,Y,?_⟩
  by_cases c1:deep=0
  ·rw [show decide (V.int (deep:Int)=V.int 0)=true from decide_eq_true (by rw [c1]; rfl)]
   exact aP (aP ⟨_,rfl,_,rfl,_,rfl,_,rfl,leaf _ b2 pt2⟩)
  rw [show decide (V.int (deep:Int)=V.int 0)=false from decide_eq_false (λ z=>c1 (by have:=V.int.inj z; omega))]
  refine aO ⟨_,rfl,rm,_,0,_,rfl,rfl,SqL.of hrm2,rfl,rfl,_,rfl,?_⟩
  by_cases c2:r=0
  ·rw [show decide (V.int r=V.int 0)=true from decide_eq_true (by rw [c2])]
   exact aP (aP ⟨_,rfl,_,rfl,_,rfl,_,rfl,leaf _ b2 pt2⟩)
  rw [show decide (V.int r=V.int 0)=false from decide_eq_false (λ z=>c2 (V.int.inj z))]
  refine aO ⟨_,rfl,_,_,rfl,rfl,_,rfl,?_⟩
  by_cases c3:sd < 1
  ·rw [decide_eq_true c3]
   exact aP (aP ⟨_,rfl,_,rfl,_,rfl,_,rfl,leaf _ b2 pt2⟩)
  rw [decide_eq_false c3]
  refine aO ⟨_,rfl,p,4,rfl,pt2,by decide,by decide,λ z H3 z0 z1 pt3 b3=>⟨rfl,_,rfl,?_⟩⟩
  refine ca (λ cc=>⟨_,Y,_,Y,_,Y,_,Y,leaf _ (b2.trans b3) pt3⟩) (λ cc=>hR _ (by omega) (by omega) (by omega) pt3 (b2.trans b3))
 clear leaf sh2 pt2 b2 hrm2 s12 sh1 hrm1 b1 pt1
 clear H2 H1
 rintro H3 r1 deep1 sd1' pt3 b3
 have hrm3:=b3 _ _ nrp hrm
 obtain ⟨d',hd'⟩:∃d',deep=d' + 1:=⟨deep - 1,by omega⟩
 have ed:((deep:Int) - 1)=(d':Int):=by omega
 refine ap (λ R=>∀ (H':Hp),H' rm=some (.lst [.int (r - 1)])->PotC H' p->But2 p rm H H'->R [some (.ref p),some (.ref t),some (.int W),some (.int h1),some (.int deep),some (.ref rm),some (.str (wyS dn)),some (.int sd),none,none,none,none] H') (λ Dd hR=>?_) ?_
 ·exact ⟨_,Y,rm,_,0,_,Y,Y,SqL.of hrm3,Y,_,_,Y,Y,_,Y,rm,_,0,0,Y,Y,hrm3,Y,hR _ af (pt3.put (Ne.symm nrp)) (λ c o n1 n2 e=>by rw [am n2]; exact b3 _ _ n1 e)⟩
 rintro H4 hrm4 pt4 b4
 have sdm:sd < (9 * 10 ^ 59):=by rw [esd]; cases dn <;> simp only [if_true,Bool.false_eq_true,if_false] <;> omega
 refine ap (λ R=>∀ (pl:Int) (H':Hp),1<=pl->PotC H' p->But p H4 H'->R [some (.ref p),some (.ref t),some (.int W),some (.int h1),some (.int deep),some (.ref rm),some (.str (wyS dn)),some (.int sd),some (.int pl),none,none,none] H') (λ Dd hR=>?_) ?_
 ·refine ⟨_,Y,_,Y,p,sd,Y,pt4,by omega,by omega,λ z1 H5 z10 z11 pt5 b5=>⟨_,Y,_,_,Y,Y,⟨by decide,by decide⟩,_,Y,_,Y,_,_,Y,p,_,Y,pt5,?_,?_,λ z2 H6 z20 z21 pt6 b6=>⟨zS3,λ l hl=>?_⟩⟩⟩
  ·show 0 < (if (9:Int) < sd then 9 else sd)
   split <;> omega
  ·show (if (9:Int) < sd then 9 else sd)<=_
   split <;> omega
  obtain ⟨H7,e7,k7,n7,s7,b7,pt7⟩:=bU (o:=.lst [.int z1,.int (sd / 2),.int z2]) (b5.trans b6) pt6 hl
  rw [show upd H6 l _=H7 from e7]
  refine ⟨_,Y,p,3,Y,pt7,by decide,by decide,λ z H8 z0 z1' pt8 b8=>?_⟩
  have d0:0<=sd / 2:=Int.ediv_nonneg (by omega) (by decide)
  obtain ⟨xx,hxx,xx0⟩:∃xx:Int,atI [V.int z1,V.int (sd / 2),V.int z2] z=some (.int xx)/\0<=xx:=by
   have:z=0\/z=1\/z=2:=by omega
   rcases this with rfl | rfl | rfl
   ·exact ⟨_,Y,z10⟩
   ·exact ⟨_,Y,d0⟩
   ·exact ⟨_,Y,z20⟩
  exact ⟨l,_,_,_,Y,Y,SqL.of (b8 _ _ n7 k7),hxx,_,_,Y,Y,hR (1 + xx) _ (by omega) pt8 (b7.trans b8)⟩
 rintro pl0 H5 pl01 pt5 b45
 refine ap (λ R=>∀ (pl:Int),1<=pl->pl<=sd->R [some (.ref p),some (.ref t),some (.int W),some (.int h1),some (.int deep),some (.ref rm),some (.str (wyS dn)),some (.int sd),some (.int pl),none,none,none] H5) (λ Dd hR=>?_) ?_
 ·refine ⟨_,Y,_,Y,_,_,Y,hR _ ?_ ?_⟩
  ·split <;> omega
  ·split <;> omega
 rintro pl pl1 pls
 have b05:But2 p rm H H5:=b4.trans (But2.but b45)
 have hrm5:=b45 _ _ nrp hrm4
 have sh5:LS H5 t b ks kl:=sh.keep2 hp0 hrm nk nkr b05
 refine ap (λ R=>∀ (o1 o2:Addr) (H':Hp),H' o1=some (.tup [.int (if dn=true then pl else W),.int (if dn=true then h1 else pl)])->H' o2=some (.tup [.int (if dn=true then W - pl - b else W),.int (if dn=true then h1 else h1 - pl - b)])->Same H5 H'->R [some (.ref p),some (.ref t),some (.int W),some (.int h1),some (.int deep),some (.ref rm),some (.str (wyS dn)),some (.int sd),some (.int pl),some (.ref o1),some (.ref o2),none] H') (λ Dd hR=>?_) ?_
 ·exact ⟨_,Y,_,Y,_,Y,_,Y,_,Y,t,kl,b,W,h1,pl,ks,dn,Y,sh5,λ rr r1 r2 H6 e1 e2 e3 s6=>⟨rr,_,Y,SqT.of e1,Y,_,_,Y,_,_,Y,Y,hR r1 r2 _ e2 e3 s6⟩⟩
 rintro o1 o2 H6 ho1 ho2 s56
 have pt6:=pt5.same s56
 have hrm6:=s56 _ _ hrm5
 have sh6:=sh5.same s56
 obtain ⟨_,hp6⟩:=lw pt6
 have a1:(if dn=true then pl else W) < (9 * 10 ^ 59):=by split <;> omega
 have a2:(if dn=true then h1 else pl) < (9 * 10 ^ 59):=by cases dn <;> simp only [if_true,Bool.false_eq_true,if_false] at * <;> omega
 have a3:(if dn=true then W - pl - b else W) < (9 * 10 ^ 59):=by split <;> omega
 have a4:(if dn=true then h1 else h1 - pl - b) < (9 * 10 ^ 59):=by split <;> omega
 refine ap (λ R=>∀ (v1:V) (T1:Tr) (r1:Int) (H':Hp),TrV H' T1 v1->okU b ks (if dn=true then pl else W) (if dn=true then h1 else pl) T1->0<=r1->(lvN T1:Int)<=r - 1 - r1 + 1->dT T1<=d'->H' rm=some (.lst [.int r1])->PotC H' p->But2 p rm H6 H'->R [some (.ref p),some (.ref t),some (.int W),some (.int h1),some (.int deep),some (.ref rm),some (.str (wyS dn)),some (.int sd),some (.int pl),some (.ref o1),some (.ref o2),some v1] H') (λ Dd hR=>?_) ?_
 ·exact ⟨_,Y,_,Y,_,Y,o1,_,0,_,Y,Y,SqT.of ho1,Y,_,Y,o1,_,1,_,Y,Y,SqT.of ho1,Y,_,Y,_,_,Y,Y,_,Y,p,t,kl,rm,b,_,_,r - 1,ks,d',(by rw [<- ed]; rfl),pt6,sh6,nk,nkr,nrp,k8,gk,b0,a1,a2,hrm6,by omega,by omega,λ v T r' H7 tv ok r0' ln dp hrm7 pt7 b7=>hR v T r' _ tv ok r0' ln dp hrm7 pt7 b7⟩
 rintro v1 T1 q1 H7 tv1 ok1 q10 ln1 dp1 hrm7 pt7 b67
 have sh7:=sh6.keep2 hp6 hrm6 nk nkr b67
 have kt:∀ {Ha Hb:Hp} {xs ys:List V},Ha p=some (.lst xs)->Ha rm=some (.lst ys)->But2 p rm Ha Hb->∀a zs,Ha a=some (.tup zs)->Hb a=some (.tup zs):=λ e1 e2 bb a zs e=>bb _ _ (λ z=>by rw [z,e1] at e; cases e) (λ z=>by rw [z,e2] at e; cases e) e
 have ho2':=kt hp6 hrm6 b67 _ _ ho2
 refine ⟨_,Y,_,Y,_,Y,_,Y,_,Y,_,Y,o2,_,0,_,Y,Y,SqT.of ho2',Y,_,Y,o2,_,1,_,Y,Y,SqT.of ho2',Y,_,Y,_,_,Y,Y,_,Y,p,t,kl,rm,b,_,_,q1,ks,d',(by rw [<- ed]; rfl),pt7,sh7,nk,nkr,nrp,k8,gk,b0,a3,a4,hrm7,q10,by omega,λ v2 T2 q2 H8 tv2 ok2 q20 ln2 dp2 hrm8 pt8 b78=>?_⟩
 obtain ⟨_,hp7⟩:=lw pt7
 refine ⟨zS4,λ tt htt=>?_⟩
 obtain ⟨H9,e9,k9,s9⟩:∃H',upd H8 tt (.tup [.str (wyS dn),.int pl,v1,v2])=H'/\H' tt=some (.tup [.str (wyS dn),.int pl,v1,v2])/\Same H8 H':=⟨_,Y,af,Same.new htt⟩
 rw [show upd H8 tt _=H9 from e9]
 refine q _ (.cut dn pl T1 T2) q2 H9 ⟨tt,v1,v2,rfl,k9,TrV.keep (λ a xs e=>s9 _ _ (kt hp7 hrm7 b78 _ _ e)) T1 tv1,TrV.keep (λ a xs e=>s9 _ _ e) T2 tv2⟩ ⟨pl1,?_⟩ q20 (by show ((lvN T1 + lvN T2:Nat):Int)<=_; omega) (by show max (dT T1) (dT T2) + 1<=_; omega) (s9 _ _ hrm8) (pt8.same s9) (λ c o n1 n2 e=>s9 _ _ (b78 _ _ n1 n2 (b67 _ _ n1 n2 (s56 _ _ (b05 _ _ n1 n2 e)))))
 cases dn with
 | true =>
  have esd:sd=W - b - 1:=esd
  exact ⟨by omega,ok1,ok2⟩
 | false =>
  have esd:sd=h1 - b - 1:=esd
  exact ⟨by omega,ok1,ok2⟩
theorem nW {f:Addr} {fd:FuncData} (F:Fun K "_law_tree" "_law_tree" iG f fd):FnOk P w K mg base CX0 3 f fd ["_law_pot_here","_law_shop_here","_law_wide","_law_high","_law_deep_here","_law_room"] (spTreeC 0):=by
 refine F.ok sctreec (λ vs H Q E h=>?_) (λ cdv A outer s H vs Q E hr h=>?_)
 ·obtain ⟨p,t,kl,rm,b,W,h1,r,ks,deep,rfl,_⟩:=h
  rfl
 ·obtain ⟨p,t,kl,rm,b,W,h1,r,ks,deep,_,_,_,_,_,_,_,_,_,_,_,_,_,z,_⟩:=h
  exact absurd z (Nat.not_lt_zero _)
theorem iL {f:Addr} {fd:FuncData} (F:Fun K "_law_tree" "_law_tree" iG f fd) (B:Blt mg) (DD:Dn P w K mg base "_law_take" ["_law_pot_here","_law_many"] 1 (spTake)) (DBh:Dn P w K mg base "_law_behind" ["_law_shop_here","_law_wide","_law_high","_law_way","_law_p"] 1 (spBeh)) (DLf:Dn P w K mg base "_law_leaf" ["_law_pot_here","_law_shop_here","_law_wide","_law_high"] 2 (spLeafC)) (mk:∀n,FnOk P w K mg base CX0 (3 + n) f fd ["_law_pot_here","_law_shop_here","_law_wide","_law_high","_law_deep_here","_law_room"] (spTreeC n)->Dn P w K mg base "_law_tree" ["_law_pot_here","_law_shop_here","_law_wide","_law_high","_law_deep_here","_law_room"] (3 + n) (spTreeC n)):∀n,FnOk P w K mg base CX0 (3 + n) f fd ["_law_pot_here","_law_shop_here","_law_wide","_law_high","_law_deep_here","_law_room"] (spTreeC n)
 | 0=>nW F
 | n + 1=>qU F B n DD DBh DLf (mk n (iL F B DD DBh DLf mk n))
end
def ofL:List (Int×Tl)->Tls
 | []=>.nil
 | z :: r=>.cons z.1 z.2 (ofL r)
def srt (l:List (Int×Tl)):List (Int×Tl):=l.mergeSort λ a b=>Bool.not (aN (bS b) (bS a))
theorem bA (l:List (Int×Tl)):(srt l).Perm l:=List.mergeSort_perm _ _
theorem lB (l:List (Int×Tl)):(srt l).Pairwise λ x y=>aN (bS y) (bS x)=false:=by
 refine (List.pairwise_mergeSort (λ a b c h1 h2=>?_) (λ a b=>?_) l).imp (λ h=>by simpa using h)
 ·simp only [Bool.not_eq_true'] at h1 h2 ⊢
  cases e:aN (bS c) (bS a) with
  | false=>rfl
  | true =>
   rcases gx _ (bS b) _ e with z | z
   ·rw [z] at h2; cases h2
   ·rw [z] at h1; cases h1
 ·cases e:aN (bS b) (bS a) with
  | false=>rfl
  | true =>
   cases e2:aN (bS a) (bS b) with
   | false=>rfl
   | true =>
    have:=dU _ _ _ e e2
    rw [bR] at this
    cases this
theorem ia {l l':List (Int×Tl)} (h:l'.Perm l) (h1:l'.Pairwise λ x y=>aN (bS y) (bS x)=false):l'=srt l :=
 (h.trans (bA l).symm).eq_of_pairwise (λ a c _ _ x y=>qE (dW _ _ y x)) h1 (lB l)
theorem qV {l l':List (Int×Tl)} (h:l'.Perm l):srt l'=srt l:=ia ((bA l').trans h) (lB l')
def tel (b:Int):Tr->Int->Int->Tl×List (Int×Tl)×List (Int×Tl)
 | .rest,w,h=>(.rest,[(w,.rest)],[(h,.rest)])
 | .piece i c x y,w,h=>(.piece i c x y,[(w,.piece i c x y)],[(h,.piece i c x y)])
 | .cut true p l r,w,h=>(.row true (ofL (srt ((tel b l p h).2.1 ++ (tel b r (w - p - b) h).2.1))),(tel b l p h).2.1 ++ (tel b r (w - p - b) h).2.1,[(h,.row true (ofL (srt ((tel b l p h).2.1 ++ (tel b r (w - p - b) h).2.1))))])
 | .cut false p l r,w,h=>(.row false (ofL (srt ((tel b l w p).2.2 ++ (tel b r w (h - p - b)).2.2))),[(w,.row false (ofL (srt ((tel b l w p).2.2 ++ (tel b r w (h - p - b)).2.2))))],(tel b l w p).2.2 ++ (tel b r w (h - p - b)).2.2)
def bm (b:Int) (t:Tr) (w h:Int):Tl:=(tel b t w h).1
def aX (b:Int) (dn:Bool) (t:Tr) (w h:Int):List (Int×Tl):=if dn=true then (tel b t w h).2.1 else (tel b t w h).2.2
def isW (dn:Bool):Tr->Bool
 | .cut d _ _ _=>d == dn
 | _=>false
theorem bB (b:Int) (dn:Bool) (p:Int) (l r:Tr) (w h:Int):aX b dn (.cut dn p l r) w h=aX b dn l (if dn=true then p else w) (if dn=true then h else p) ++ aX b dn r (if dn=true then w - p - b else w) (if dn=true then h else h - p - b):=by
 cases dn <;> rfl
theorem bG {b:Int} {dn:Bool} {t:Tr} (e:isW dn t=false) (w h:Int):aX b dn t w h=[(if dn=true then w else h,bm b t w h)]:=by
 cases t with
 | rest=>cases dn <;> rfl
 | piece=>cases dn <;> rfl
 | cut d=>cases d <;> cases dn <;> first | rfl | cases e
theorem bX (b:Int) (dn:Bool) (p:Int) (l r:Tr) (w h:Int):bm b (.cut dn p l r) w h=.row dn (ofL (srt (aX b dn (.cut dn p l r) w h))):=by
 cases dn <;> rfl
theorem cL (b:Int):∀ (t:Tr) (w h:Int),(tel b t w h).2.1.length<=lvN t/\(tel b t w h).2.2.length<=lvN t/\1<=lvN t
 | .rest,_,_=>⟨Nat.le_refl _,Nat.le_refl _,Nat.le_refl _⟩
 | .piece ..,_,_=>⟨Nat.le_refl _,Nat.le_refl _,Nat.le_refl _⟩
 | .cut true p l r,w,h=>by
  have h1:=cL b l p h
  have h2:=cL b r (w - p - b) h
  show List.length (_ ++ _)<=lvN l + lvN r/\1<=lvN l + lvN r/\1<=lvN l + lvN r
  rw [List.length_append]; omega
 | .cut false p l r,w,h=>by
  have h1:=cL b l w p
  have h2:=cL b r w (h - p - b)
  show 1<=lvN l + lvN r/\List.length (_ ++ _)<=lvN l + lvN r/\1<=lvN l + lvN r
  rw [List.length_append]; omega
theorem kj (b:Int) (dn:Bool) (t:Tr) (w h:Int):(aX b dn t w h).length<=lvN t:=by
 have:=cL b t w h
 cases dn
 ·exact this.2.1
 ·exact this.1
theorem iM {m:Nat}:∀ {l:List (Int×Tl)},(∀z∈l,(tlD z.2).depth<=m)->PyData.depthAll (bj (ofL l))<=m + 1
 | [],_=>Nat.zero_le _
 | z :: l,h=>by
  have h1:=h z List.mem_cons_self
  have h2:=iM (l:=l) λ y hy=>h y (List.mem_cons_of_mem _ hy)
  show max (max 0 (max (tlD z.2).depth 0) + 1) (PyData.depthAll (bj (ofL l)))<=m + 1
  omega
theorem iN {m:Nat} {dn:Bool} {l:List (Int×Tl)} (h:∀z∈l,(tlD z.2).depth<=m):(tlD (.row dn (ofL (srt l)))).depth<=m + 3:=by
 have:=iM (l:=srt l) λ z hz=>h z ((bA l).mem_iff.mp hz)
 show max 0 (max (PyData.depthAll (bj (ofL (srt l))) + 1) 0) + 1<=m + 3
 omega
theorem ck (b:Int):∀ (t:Tr) (w h:Int),(tlD (tel b t w h).1).depth<=3 * dT t + 1/\(∀z∈(tel b t w h).2.1,(tlD z.2).depth<=3 * dT t + 1)/\(∀z∈(tel b t w h).2.2,(tlD z.2).depth<=3 * dT t + 1)
 | .rest,_,_=>⟨Nat.le_refl _,λ z hz=>by rw [List.mem_singleton.mp hz]; exact Nat.le_refl _,λ z hz=>by rw [List.mem_singleton.mp hz]; exact Nat.le_refl _⟩
 | .piece ..,_,_=>⟨Nat.le_refl _,λ z hz=>by rw [List.mem_singleton.mp hz]; exact Nat.le_refl _,λ z hz=>by rw [List.mem_singleton.mp hz]; exact Nat.le_refl _⟩
 | .cut true p l r,w,h=>by
  have h1:=(ck b l p h).2.1
  have h2:=(ck b r (w - p - b) h).2.1
  have all:∀z∈(tel b l p h).2.1 ++ (tel b r (w - p - b) h).2.1,(tlD z.2).depth<=3 * max (dT l) (dT r) + 1:=λ z hz=>by
   rcases List.mem_append.mp hz with hz | hz
   ·have:=h1 z hz; omega
   ·have:=h2 z hz; omega
  have k:=iN (dn:=true) all
  refine ⟨by show (tlD (.row true _)).depth<=3 * (max (dT l) (dT r) + 1) + 1; omega,λ z hz=>?_,λ z hz=>?_⟩
  ·have:=all z hz
   show _<=3 * (max (dT l) (dT r) + 1) + 1
   omega
  ·rw [List.mem_singleton.mp hz]
   show (tlD (.row true _)).depth<=3 * (max (dT l) (dT r) + 1) + 1
   omega
 | .cut false p l r,w,h=>by
  have h1:=(ck b l w p).2.2
  have h2:=(ck b r w (h - p - b)).2.2
  have all:∀z∈(tel b l w p).2.2 ++ (tel b r w (h - p - b)).2.2,(tlD z.2).depth<=3 * max (dT l) (dT r) + 1:=λ z hz=>by
   rcases List.mem_append.mp hz with hz | hz
   ·have:=h1 z hz; omega
   ·have:=h2 z hz; omega
  have k:=iN (dn:=false) all
  refine ⟨by show (tlD (.row false _)).depth<=3 * (max (dT l) (dT r) + 1) + 1; omega,λ z hz=>?_,λ z hz=>?_⟩
  ·rw [List.mem_singleton.mp hz]
   show (tlD (.row false _)).depth<=3 * (max (dT l) (dT r) + 1) + 1
   omega
  ·have:=all z hz
   show _<=3 * (max (dT l) (dT r) + 1) + 1
   omega
theorem lC {b:Int} {dn:Bool} {t:Tr} {w h:Int} {z:Int×Tl} (hz:z∈aX b dn t w h):(tlD z.2).depth<=3 * dT t + 1:=by
 have:=ck b t w h
 cases dn
 ·exact this.2.2 z hz
 ·exact this.2.1 z hz
mutual
def TlV (H:Hp):Tl->V->Prop
 | .rest,v=>∃a,v=.ref a/\H a=some (.tup [.str "rest"])
 | .piece i c x y,v=>∃a,v=.ref a/\H a=some (.tup [.str "piece",.int i,.bl c,.int x,.int y])
 | .row dn r,v=>∃a q xs,v=.ref a/\H a=some (.tup [.str (wyL dn),.ref q])/\H q=some (.tup xs)/\TlsV H r xs
def TlsV (H:Hp):Tls->List V->Prop
 | .nil,xs=>xs=[]
 | .cons n t r,xs=>∃a u ys,xs=.ref a :: ys/\H a=some (.tup [.int n,u])/\TlV H t u/\TlsV H r ys
end
mutual
theorem TlV.keep {H H':Hp} (k:∀a xs,H a=some (.tup xs)->H' a=some (.tup xs)):∀ (t:Tl) {v:V},TlV H t v->TlV H' t v
 | .rest,_,h=>by
  rw [TlV] at h ⊢
  obtain ⟨a,e,h⟩:=h
  exact ⟨a,e,k _ _ h⟩
 | .piece ..,_,h=>by
  rw [TlV] at h ⊢
  obtain ⟨a,e,h⟩:=h
  exact ⟨a,e,k _ _ h⟩
 | .row dn r,_,h=>by
  rw [TlV] at h ⊢
  obtain ⟨a,q,xs,e,h1,h2,h3⟩:=h
  exact ⟨a,q,xs,e,k _ _ h1,k _ _ h2,TlsV.keep k r h3⟩
theorem TlsV.keep {H H':Hp} (k:∀a xs,H a=some (.tup xs)->H' a=some (.tup xs)):∀ (t:Tls) {v:List V},TlsV H t v->TlsV H' t v
 | .nil,_,h=>by rw [TlsV] at h ⊢; exact h
 | .cons n t r,_,h=>by
  rw [TlsV] at h ⊢
  obtain ⟨a,u,ys,e,h1,h2,h3⟩:=h
  exact ⟨a,u,ys,e,k _ _ h1,TlV.keep k t h2,TlsV.keep k r h3⟩
end
mutual
theorem TlV.dat {K:PySem.W.Frag} {H:Hp}:∀ (t:Tl) {v:V},TlV H t v->DatV K H v (tlD t)
 | .rest,_,h=>by
  rw [TlV] at h
  obtain ⟨a,e,h⟩:=h
  subst e
  exact .tup (SqT.of h) (.cons (.str _) .nil)
 | .piece ..,_,h=>by
  rw [TlV] at h
  obtain ⟨a,e,h⟩:=h
  subst e
  exact .tup (SqT.of h) (.cons (.str _) (.cons (.int _) (.cons (.bl _) (.cons (.int _) (.cons (.int _) .nil)))))
 | .row dn r,_,h=>by
  rw [TlV] at h
  obtain ⟨a,q,xs,e,h1,h2,h3⟩:=h
  subst e
  exact .tup (SqT.of h1) (.cons (.str _) (.cons (.tup (SqT.of h2) (TlsV.dat r h3)) .nil))
theorem TlsV.dat {K:PySem.W.Frag} {H:Hp}:∀ (t:Tls) {v:List V},TlsV H t v->DatVs K H v (bj t)
 | .nil,_,h=>by rw [TlsV] at h; subst h; exact .nil
 | .cons n t r,_,h=>by
  rw [TlsV] at h
  obtain ⟨a,u,ys,e,h1,h2,h3⟩:=h
  subst e
  exact .cons (.tup (SqT.of h1) (.cons (.int _) (.cons (TlV.dat t h2) .nil))) (TlsV.dat r h3)
end
def ItV (H:Hp) (v:V) (z:Int×Tl):Prop:=∃a u,v=.ref a/\H a=some (.tup [.int z.1,u])/\TlV H z.2 u
theorem ItV.keep {H H':Hp} (k:∀a xs,H a=some (.tup xs)->H' a=some (.tup xs)) {v:V} {z:Int×Tl} (h:ItV H v z):ItV H' v z:=by
 obtain ⟨a,u,e,h1,h2⟩:=h
 exact ⟨a,u,e,k _ _ h1,TlV.keep k _ h2⟩
theorem ItV.dat {K:PySem.W.Frag} {H:Hp} {a:Addr} {z:Int×Tl} (h:ItV H (.ref a) z):DatV K H (.ref a) (.tuple [.int z.1,tlD z.2]):=by
 obtain ⟨c,u,e,h1,h2⟩:=h
 cases e
 exact .tup (SqT.of h1) (.cons (.int _) (.cons (TlV.dat _ h2) .nil))
theorem ju {H:Hp}:∀ {vs:List V} {zs:List (Int×Tl)},Paired (ItV H) vs zs->TlsV H (ofL zs) vs
 | _,_,.nil=>by rw [ofL,TlsV]
 | _,_,.cons ⟨a,u,e,h1,h2⟩ r=>by
  rw [ofL,TlsV]
  exact ⟨a,u,_,by rw [e],h1,h2,ju r⟩
theorem lD {H:Hp}:∀ {vs:List V} {zs:List (Int×Tl)},Paired (ItV H) vs zs->∃ps:List (Addr×(Int×Tl)),vs=ps.map (λ z=>V.ref z.1)/\zs=ps.map (·.2)/\∀z∈ps,ItV H (.ref z.1) z.2
 | _,_,.nil=>⟨[],Y,Y,λ z hz=>by cases hz⟩
 | _,_,.cons (b:=z) ⟨a,u,e,h1,h2⟩ r=>by
  obtain ⟨ps,e1,e2,h⟩:=lD r
  refine ⟨(a,z) :: ps,by rw [e,e1]; rfl,by rw [e2]; rfl,λ y hy=>?_⟩
  rcases List.mem_cons.mp hy with hy | hy
  ·rw [hy]; exact ⟨a,u,Y,h1,h2⟩
  ·exact h y hy
theorem lE {H:Hp}:∀ {ps:List (Addr×(Int×Tl))},(∀z∈ps,ItV H (.ref z.1) z.2)->Paired (ItV H) (ps.map λ z=>V.ref z.1) (ps.map (·.2))
 | [],_=>.nil
 | z :: ps,h=>.cons (h z List.mem_cons_self) (lE λ y hy=>h y (List.mem_cons_of_mem _ hy))
theorem dk:∀t:Tr,szT t + 1=2 * lvN t
 | .rest=>rfl
 | .piece .. => rfl
 | .cut _ _ l r=>by
  have h1:=dk l
  have h2:=dk r
  show szT l + szT r + 1 + 1=2 * (lvN l + lvN r)
  omega
theorem fT:∀t:Tr,dT t + 1<=lvN t
 | .rest=>Nat.le_refl _
 | .piece .. => Nat.le_refl _
 | .cut _ _ l r=>by
  have h1:=fT l
  have h2:=fT r
  show max (dT l) (dT r) + 1 + 1<=lvN l + lvN r
  omega
theorem Room.units220 {k:Nat} {A:Around} (r:Room k A) (h:2<=k):A.units + 220 < cLine:=by have:=r.un; omega
structure Wa where
 w:Int
 h:Int
 t:Tr
def WaAt (p:Addr) (H0 H:Hp) (v:V) (z:Wa):Prop:=∃a c u d,v=.ref a/\H a=some (.tup [.ref c,u])/\H c=some (.tup [.int z.w,.int z.h])/\Dt p H0 u d/\TrD z.t d
theorem WaAt.keep {p:Addr} {H0 H H':Hp} (k:∀a xs,H a=some (.tup xs)->H' a=some (.tup xs)) {v:V} {z:Wa} (h:WaAt p H0 H v z):WaAt p H0 H' v z:=by
 obtain ⟨a,c,u,d,e,h1,h2,h3,h4⟩:=h
 exact ⟨a,c,u,d,e,k _ _ h1,k _ _ h2,h3,h4⟩
def wsz (ts:List Wa):Nat:=(ts.map λ t=>szT t.t).sum
theorem fq (a b:List Wa):wsz (a ++ b)=wsz a + wsz b:=by unfold wsz; rw [List.map_append,List.sum_append]
theorem mJ:∀ts:List Wa,ts.length<=wsz ts
 | []=>Nat.le_refl _
 | t :: r=>by
  have:=mJ r
  have:=kh t.t
  show r.length + 1<=szT t.t + wsz r
  omega
def wrw (b:Int) (dn:Bool) (ts:List Wa):List (Int×Tl):=ts.flatMap λ z=>aX b dn z.t z.w z.h
theorem jv (b:Int) (dn:Bool) (s t:List Wa):wrw b dn (s ++ t)=wrw b dn s ++ wrw b dn t:=List.flatMap_append
theorem gI (b:Int) (dn:Bool) (z:Wa):wrw b dn [z]=aX b dn z.t z.w z.h:=by
 show aX b dn z.t z.w z.h ++ []=_
 rw [List.append_nil]
theorem uS (dn:Bool):inV (V.str (wyL dn)) [V.str "down",V.str "across"]=true:=by cases dn <;> decide +kernel
theorem yg (d dn:Bool):decide (V.str (wyL d)=V.str (wyL dn))=(d == dn):=by cases d <;> cases dn <;> decide +kernel
def hdW:Tr->Str
 | .rest => "rest"
 | .piece .. => "piece"
 | .cut dn _ _ _=>wyL dn
theorem lF (t:Tr) (dn:Bool):decide (V.str (hdW t)=V.str (wyL dn))=isW dn t:=by
 cases t with
 | rest=>cases dn <;> decide +kernel
 | piece =>
  show decide (V.str "piece" = V.str (wyL dn))=false
  cases dn <;> decide +kernel
 | cut d=>exact yg d dn
theorem TrD.head {t:Tr} {d:PyData} (h:TrD t d):∃ys,aH d=some (.str (hdW t) :: ys):=by
 cases t with
 | rest=>exact ⟨_,h⟩
 | piece=>exact ⟨_,h⟩
 | cut dn p l r =>
  obtain ⟨dl,dr,e,_⟩:=h
  exact ⟨_,e⟩
theorem Dt.head {p:Addr} {H:Hp} {v:V} {d:PyData} {y:Str} {ys:List PyData} (h:Dt p H v d) (er:aH d=some (.str y :: ys)):∃a xs,v=.ref a/\(H a=some (.lst (.str y :: xs))\/H a=some (.tup (.str y :: xs)))/\Dts p H xs ys:=by
 obtain ⟨a,xs,e,hx,dxs⟩:=h.ref_row er
 cases dxs with
 | cons hd0 dxs =>
  cases hd0
  exact ⟨a,_,e,hx,dxs⟩
theorem vL (dn:Bool) (p:Int) (l r:Tr):dT l < dT (.cut dn p l r)/\dT r < dT (.cut dn p l r)/\szT (.cut dn p l r)=szT l + szT r + 1/\lvN (.cut dn p l r)=lvN l + lvN r:=by
 refine ⟨?_,?_,Y,Y⟩
 ·show dT l < max (dT l) (dT r) + 1; omega
 ·show dT r < max (dT l) (dT r) + 1; omega
section
variable {P:Program} {w:World} {K:PySem.W.Frag} {mg:Str->Option Value} {base:Heap}
inductive spCheckT (C:Addr) (vs:List V) (H:Hp) (Q:VK) (E_:XK):Prop
 | mk (pp s:Addr) (b w h:Int) (ks:List Kd) (v:V) (d:PyData) (e_1:vs=[.ref s,.int w,.int h,v]) (e_2:ShopAt C H s b ks) (e_3:1<=w) (e_4:1<=h) (e_5:Dt pp H v d) (e_6:wt d<=30000) (e_7:isT b ks w h d=true) (e_8:∀H',Same H H'->Q .non H'):spCheckT C vs H Q E_
inductive spSideA (vs:List V) (H:Hp) (Q:VK) (E_:XK):Prop
 | mk (c:Addr) (w h:Int) (dn:Bool) (e_1:vs=[.ref c,.str (wyL dn)]) (e_2:H c=some (.tup [.int w,.int h])) (e_3:Q (.int (if dn=true then w else h)) H):spSideA vs H Q E_
inductive spTell (n:Nat) (vs:List V) (H:Hp) (Q:VK) (E_:XK):Prop
 | mk (pp c:Addr) (b w h:Int) (v:V) (d:PyData) (t:Tr) (e_1:vs=[.int b,.ref c,v]) (e_2:H c=some (.tup [.int w,.int h])) (e_3:Dt pp H v d) (e_4:TrD t d) (e_5:lvN t<=63) (e_6:dT t < n) (e_7:∀ (u:V) (H':Hp),TlV H' (bm b t w h) u->Same H H'->Q u H'):spTell n vs H Q E_
inductive spTellO (C:Addr) (vs:List V) (H:Hp) (Q:VK) (E_:XK):Prop
 | mk (pp s:Addr) (b w h:Int) (ks:List Kd) (v:V) (d:PyData) (t:Tr) (e_1:vs=[.ref s,.int w,.int h,v]) (e_2:ShopAt C H s b ks) (e_3:1<=w) (e_4:1<=h) (e_5:Dt pp H v d) (e_6:wt d<=30000) (e_7:TrD t d) (e_8:okT b ks w h t) (e_9:lvN t<=63) (e_10:dT t < 50) (e_11:∀ (u:V) (H':Hp),TlV H' (bm b t w h) u->Same H H'->Q u H'):spTellO C vs H Q E_
theorem sccheckt:FnScope ["shop","wide","high","thing"] ["shop","wide","high","thing"] (defScope cY):=⟨Y,Y,Y,by decide +kernel,Y,by decide +kernel,by decide +kernel⟩
theorem nX {f C:Addr} {fd:FuncData} (F:Fun K "check_tree" "check_tree" cY f fd) (DI:Dn P w K mg base "is_tree" ["shop","wide","high","thing"] 6 (spIsTree C)):FnOk P w K mg base CX0 7 f fd ["shop","wide","high","thing"] (spCheckT C):=by
 refine F.ok sccheckt (λ vs H Q E h=>?_) (λ cdv A outer s H vs Q E hr h=>?_)
 ·obtain ⟨pp,s,b,w1,h1,ks,v,d,rfl,_⟩:=h
  rfl
 refine cK λ G9 k9=>?_
 obtain ⟨pp,s,b,w1,h1,ks,v,d,rfl,SH,w0,h0,hd,dz,ht,q⟩:=h
 refine k9 ?_
 have nd:=sccheckt.nd
 refine ⟨_,(@ag _ _ _ (@aI _ _ _ _ _ _ _ _ (@bf _ _ _ _ (@aS _ _ _ (@aj _ _ _ _ _ _ _ _ _ _ DI hr rfl (@aa _ _ _ _ _ (pv 0) (@aa _ _ _ _ _ (pv 1) (@aa _ _ _ _ _ (pv 2) (@aa _ _ _ _ _ (pv 3) ab rfl) rfl) rfl) rfl) (by decide) rfl rfl) (by intro _; rfl))) (@ag _ _ _ cN) aA)),?_⟩
 refine ⟨_,Y,_,Y,_,Y,_,Y,pp,s,b,w1,h1,ks,v,d,Y,SH,w0,h0,hd,dz,λ H1 s1=>⟨_,Y,?_⟩⟩
 rw [ht]
 exact aO (q _ s1)
theorem scsidea:FnScope ["part","way"] ["part","way"] (defScope cZ):=⟨Y,Y,Y,by decide +kernel,Y,by decide +kernel,by decide +kernel⟩
theorem qW {f wa:Addr} {fd:FuncData} (F:Fun K "side_along" "side_along" cZ f fd) (Z:TrC K mg wa):FnOk P w K mg base CX0 1 f fd ["part","way"] (spSideA):=by
 refine F.ok scsidea (λ vs H Q E h=>?_) (λ cdv A outer s H vs Q E hr h=>?_)
 ·obtain ⟨c,w1,h1,dn,rfl,_⟩:=h
  rfl
 obtain ⟨c,w1,h1,dn,rfl,hc,q⟩:=h
 have nd:=scsidea.nd
 obtain ⟨tdn,hdn⟩:=Z.dn
 refine ⟨_,(@ag _ _ _ (@av _ _ _ _ (eO (@aB _ _ _ _ _ _ _ _ bn (pv 1) (aR (v:=.str "down") rfl hdn ⟨tdn,Y⟩) (aD _)) (@ao _ _ _ _ _ _ _ ix_tup (pv 0) ad (λ _ _=>rfl)) (@ao _ _ _ _ _ _ _ ix_tup (pv 0) ad (λ _ _=>rfl))))),?_⟩
 refine ⟨_,Y,Y,_,Y,?_⟩
 cases dn with
 | true=>exact iK (by decide +kernel) ⟨_,rfl,c,_,0,_,rfl,rfl,SqT.of hc,rfl,q⟩
 | false=>exact fm (by decide +kernel) ⟨_,rfl,c,_,1,_,rfl,rfl,SqT.of hc,rfl,q⟩
theorem sctell:FnScope ["blade","part","tree","way","row","waiting","inner_part","inner_tree","first","second"] ["blade","part","tree"] (defScope bo):=⟨Y,Y,Y,by decide +kernel,Y,by decide +kernel,by decide +kernel⟩
set_option maxHeartbeats 1000000 in
theorem tY {f wa:Addr} {fd:FuncData} (F:Fun K "telling_of_part" "telling_of_part" bo f fd) (B:Blt mg) (Z:TrC K mg wa) (n:Nat) (n60:n<=60) (DC:Dn P w K mg base "cut_parts" ["blade","part","way","p"] 1 (spParts2)) (DSA:Dn P w K mg base "side_along" ["part","way"] 1 (spSideA)) (DT:Dn P w K mg base "telling_of_part" ["blade","part","tree"] (3 + n) (spTell n)):FnOk P w K mg base CX0 (3 + (n + 1)) f fd ["blade","part","tree"] (spTell (n + 1)):=by
 refine F.ok sctell (λ vs H Q E h=>?_) (λ cdv A outer s H vs Q E hr h=>?_)
 ·obtain ⟨pp,c,b,w1,h1,v,d,t,rfl,_⟩:=h
  rfl
 refine cK λ G9 k9=>?_
 obtain ⟨pp,c,b,w1,h1,v,d,t,rfl,hc,hd,td,l63,dn0,q⟩:=h
 refine k9 ?_
 have nd:=sctell.nd
 have hu:=Room.units220 hr (show 2<=3 + n by omega)
 refine ⟨_,(@ae _ _ _ _ _ (@az _ _ 3 _ _ _ _ nd rfl (Or.inl rfl) (@ao _ _ _ _ _ _ _ aY (pv 2) ad (λ _ _=>rfl)) rfl (Or.inl rfl)) (@ae _ _ _ _ _ (@aI _ _ _ _ _ _ _ _ (@aB _ _ _ _ _ _ _ _ eX (pv 3) (aR (v:=.ref wa) rfl Z.wy rfl) rfl) (@ag _ _ _ (@av _ _ _ _ (@bc _ _ _ _ _ _ _ _ _ br rfl B.tuple PyProof.Rows.boot_tuple (@aa _ _ _ _ _ (pv 2) ab rfl) (by decide) (by decide) rfl rfl))) aA) (@ae _ _ _ _ _ (@az _ _ 4 _ _ _ _ nd rfl (Or.inl rfl) (@aM _ _ _ _ ab) rfl (Or.inl rfl)) (@ae _ _ _ _ _ (@az _ _ 5 _ _ _ _ nd rfl (Or.inl rfl) (@aM _ _ _ _ (@aa _ _ _ _ _ (@ax _ _ _ _ _ (@aa _ _ _ _ _ (pv 1) (@aa _ _ _ _ _ (pv 2) ab rfl) rfl)) ab rfl)) rfl (Or.inl rfl)) (@ae _ _ _ _ _ (eP PassesOwn.never (eS (pv 5) (λ _=>rfl)) (@ae _ _ _ _ _ (@bd _ _ _ _ _ _ (jb PySem.F.plainAttrs_list PySem.F.slot_list_pop PySem.F.type_list_pop jc (pv 5)) (aT rfl (ah (ai (i:=6) nd rfl (Or.inl rfl)) (ah (ai (i:=7) nd rfl (Or.inl rfl)) aG))) rfl rfl rfl) (@ag _ _ _ (@aI _ _ _ _ _ _ _ _ (@aB _ _ _ _ _ _ _ _ bn (@ao _ _ _ _ _ _ _ aY (pv 7) ad (λ _ _=>rfl)) (pv 3) (aD _)) (@ae _ _ _ _ _ (@bd _ _ _ _ _ _ (@aj _ _ _ _ _ _ _ _ _ _ DC (hr.mono (show 1<=3 + n by omega)) rfl (@aa _ _ _ _ _ (pv 0) (@aa _ _ _ _ _ (pv 6) (@aa _ _ _ _ _ (pv 3) (@aa _ _ _ _ _ (@ao _ _ _ _ _ _ _ aY (pv 7) ad (λ _ _=>rfl)) ab rfl) rfl) rfl) rfl) (by decide) rfl rfl) (aT rfl (ah (ai (i:=8) nd rfl (Or.inl rfl)) (ah (ai (i:=9) nd rfl (Or.inl rfl)) aG))) rfl rfl rfl) (@ag _ _ _ (@bh _ _ _ _ (@dE _ _ _ _ _ _ _ _ _ _ _ _ PySem.F.plainAttrs_list PySem.F.slot_list_extend PySem.F.type_list_extend dQ (pv 5) (@aa _ _ _ _ _ (@aM _ _ _ _ (@aa _ _ _ _ _ (@ax _ _ _ _ _ (@aa _ _ _ _ _ (pv 8) (@aa _ _ _ _ _ (@ao _ _ _ _ _ _ _ aY (pv 7) ad (λ _ _=>rfl)) ab rfl) rfl)) (@aa _ _ _ _ _ (@ax _ _ _ _ _ (@aa _ _ _ _ _ (pv 9) (@aa _ _ _ _ _ (@ao _ _ _ _ _ _ _ aY (pv 7) ad (λ _ _=>rfl)) ab rfl) rfl)) ab rfl) rfl)) ab rfl) rfl rfl rfl rfl rfl) rfl))) (@ag _ _ _ (@bh _ _ _ _ (@dE _ _ _ _ _ _ _ _ _ _ _ _ PySem.F.plainAttrs_list PySem.F.slot_list_append PySem.F.type_list_append bP (pv 4) (@aa _ _ _ _ _ (@ax _ _ _ _ _ (@aa _ _ _ _ _ (@aj _ _ _ _ _ _ _ _ _ _ DSA (hr.mono (show 1<=3 + n by omega)) rfl (@aa _ _ _ _ _ (pv 6) (@aa _ _ _ _ _ (pv 3) ab rfl) rfl) (by decide) rfl rfl) (@aa _ _ _ _ _ (@aj _ _ _ _ _ _ _ _ _ _ DT (hr.mono (show 3 + n<=3 + n by omega)) rfl (@aa _ _ _ _ _ (pv 0) (@aa _ _ _ _ _ (pv 6) (@aa _ _ _ _ _ (pv 7) ab rfl) rfl) rfl) (by decide) rfl rfl) ab rfl) rfl)) ab rfl) rfl rfl rfl rfl rfl) rfl)))))) (@ag _ _ _ (@av _ _ _ _ (@ax _ _ _ _ _ (@aa _ _ _ _ _ (pv 3) (@aa _ _ _ _ _ (@bc _ _ _ _ _ _ _ _ _ br rfl B.tuple PyProof.Rows.boot_tuple (@aa _ _ _ _ _ (@aF _ _ _ _ _ _ _ _ _ (fg hu) rfl B.sorted PyProof.Rows.boot_sorted (@aa _ _ _ _ _ (pv 4) ab rfl) (by decide) (by decide) rfl rfl) ab rfl) (by decide) (by decide) rfl rfl) ab rfl) rfl))))))))),?_⟩
 have sz:(40000:Nat)<=sizeLine:=by decide
 obtain ⟨ys,er⟩:=TrD.head td
 obtain ⟨a,xs,rfl,hx,dxs⟩:=hd.head er
 refine ⟨_,Y,ixR (Same.refl _) hx (aE (Int.le_refl _) rfl) ?_⟩
 cases t with
 | rest =>
  have td:aH d=some [.str "rest"]:=td
  rw [td] at er
  cases er
  cases dxs
  refine ⟨_,Y,wa,_,Y,.inr (Z.wq _),Y,Y,_,Y,?_⟩
  show (if (!inV (V.str "rest") [V.str "down",V.str "across"])=true then _ else _)
  rw [show inV (V.str "rest") [V.str "down",V.str "across"]=false by decide +kernel]
  refine aP ?_
  rcases hx with hx | hx
  ·refine ⟨_,Y,a,_,Y,.inl ⟨SqL.of hx,λ l hl=>q _ _ ?_ (Same.new hl)⟩⟩
   show TlV _ (.rest) _
   rw [TlV]
   exact ⟨l,Y,af⟩
  ·refine ⟨_,Y,a,_,Y,.inr ⟨SqT.of hx,q _ _ ?_ (Same.refl _)⟩⟩
   show TlV _ (.rest) _
   rw [TlV]
   exact ⟨a,Y,hx⟩
 | piece i cc x y =>
  have td:aH d=some [.str "piece",.int i,.bool cc,.int x,.int y]:=td
  rw [td] at er
  cases er
  cases dxs with
  | cons g1 dxs =>
  cases dxs with
  | cons g2 dxs =>
  cases dxs with
  | cons g3 dxs =>
  cases dxs with
  | cons g4 dxs =>
  cases dxs
  cases g1
  cases g2
  cases g3
  cases g4
  refine ⟨_,Y,wa,_,Y,.inr (Z.wq _),Y,Y,_,Y,?_⟩
  show (if (!inV (V.str "piece") [V.str "down",V.str "across"])=true then _ else _)
  rw [show inV (V.str "piece") [V.str "down",V.str "across"]=false by decide +kernel]
  refine aP ?_
  rcases hx with hx | hx
  ·refine ⟨_,Y,a,_,Y,.inl ⟨SqL.of hx,λ l hl=>q _ _ ?_ (Same.new hl)⟩⟩
   show TlV _ (.piece i cc x y) _
   rw [TlV]
   exact ⟨l,Y,af⟩
  ·refine ⟨_,Y,a,_,Y,.inr ⟨SqT.of hx,q _ _ ?_ (Same.refl _)⟩⟩
   show TlV _ (.piece i cc x y) _
   rw [TlV]
   exact ⟨a,Y,hx⟩
 | cut dn pl tl tr =>
  obtain ⟨t,et⟩:∃t,t=Tr.cut dn pl tl tr:=⟨_,Y⟩
  rw [<- et] at td l63 dn0 q er
  have szt:=dk t
  have dl:=fT t
  refine ⟨_,Y,wa,_,Y,.inr (Z.wq _),Y,Y,_,Y,?_⟩
  show (if (!inV (V.str (wyL dn)) [V.str "down",V.str "across"])=true then _ else _)
  rw [uS]
  refine aO ⟨by decide,λ rl hrl=>?_⟩
  obtain ⟨H0,e0,k0,s0⟩:∃H',upd H rl (.lst [])=H'/\H' rl=some (.lst [])/\Same H H':=⟨_,Y,af,Same.new hrl⟩
  rw [show upd H rl _=H0 from e0]
  refine ⟨_,Y,_,Y,zS2,λ t' ht=>?_⟩
  obtain ⟨Ha,ea,ka,sa⟩:∃H',upd H0 t' (.tup [.ref c,.ref a])=H'/\H' t'=some (.tup [.ref c,.ref a])/\Same H0 H':=⟨_,Y,af,Same.new ht⟩
  rw [show upd H0 t' _=Ha from ea]
  refine ⟨zS1,λ wl hwl=>?_⟩
  obtain ⟨Hb,eb,kb,sb⟩:∃H',upd Ha wl (.lst [.ref t'])=H'/\H' wl=some (.lst [.ref t'])/\Same Ha H':=⟨_,Y,af,Same.new hwl⟩
  rw [show upd Ha wl _=Hb from eb]
  have fw:H wl=none:=(s0.trans sa).free hwl
  have nrw:rl≠wl:=λ z=>by rw [<- z,sa _ _ k0] at hwl; cases hwl
  have sab:=(s0.trans sa).trans sb
  obtain ⟨v,ev⟩:∃v,v=V.ref a:=⟨_,Y⟩
  rw [<- ev] at hd ka ⊢
  clear ev hx dxs e0 ea eb
  refine ⟨λ m σ H'=>∃ (vs us:List V) (ts:List Wa) (L:List (Int×Tl)) (v6 v7 v8 v9:Option V),σ=[some (.int b),some (.ref c),some v,some (.str (wyL dn)),some (.ref rl),some (.ref wl),v6,v7,v8,v9]/\m=wsz ts/\H' wl=some (.lst vs)/\H' rl=some (.lst us)/\Paired (WaAt pp H H') vs ts/\Paired (ItV H') us L/\(L ++ wrw b dn ts).Perm (aX b dn t w1 h1)/\(∀z∈ts,(z.t=t\/dT z.t < dT t)/\lvN z.t<=63)/\wsz ts<=10000/\Same H H',⟨_,[.ref t'],[],[⟨w1,h1,t⟩],[],none,none,none,none,Y,Y,kb,sb _ _ (sa _ _ k0),.cons ⟨t',c,v,d,Y,sb _ _ ka,sab _ _ hc,hd,td⟩ .nil,.nil,?_,?_,(by show szT t + 0<=10000; omega),sab⟩,?_⟩
  ·rw [gI]
   exact .refl _
  ·intro z hz
   rw [List.mem_singleton.mp hz]
   exact ⟨.inl rfl,l63⟩
  intro m σ H1 hI9
  refine cK λ G9 k9=>?_
  obtain ⟨vs,us,ts,L,v6,v7,v8,v9,rfl,rfl,hw,hl,pr,pu,pm,dz,sz1,s1⟩:=hI9
  refine k9 ?_
  refine ⟨_,Y,_,.inl ⟨vs,SqL.of hw,Y⟩,?_⟩
  rcases List.eq_nil_or_concat vs with rfl | ⟨vs',v0,rfl⟩
  ·have ets:ts=[]:=by
    have:=Paired.length pr
    cases ts with
    | nil=>rfl
    | cons _ _=>simp at this
   subst ets
   rw [show wrw b dn []=[] from rfl,List.append_nil] at pm
   obtain ⟨ps,rfl,rfl,ips⟩:=lD pu
   have ll:=kj b dn t w1 h1
   have pl':=pm.length_eq
   rw [List.length_map] at pl'
   refine aO ⟨_,rfl,_,rfl,rl,ps,rfl,SqL.of hl,by omega,λ z hz=>⟨(ips z hz).dat,?_⟩,λ l ps' hl' pm' pw=>?_⟩
   ·have:=lC (pm.mem_iff.mp (List.mem_map.mpr ⟨z,hz,Y⟩))
    omega
   obtain ⟨H2,e2,k2,s2⟩:∃H',upd H1 l (.lst (ps'.map λ z=>V.ref z.1))=H'/\H' l=some (.lst (ps'.map λ z=>V.ref z.1))/\Same H1 H':=⟨_,Y,af,Same.new hl'⟩
   rw [show upd H1 l _=H2 from e2]
   refine ⟨l,_,Y,.inl ⟨SqL.of k2,λ tq htq=>?_⟩⟩
   obtain ⟨H3,e3,k3,s3⟩:∃H',upd H2 tq (.tup (ps'.map λ z=>V.ref z.1))=H'/\H' tq=some (.tup (ps'.map λ z=>V.ref z.1))/\Same H2 H':=⟨_,Y,af,Same.new htq⟩
   rw [show upd H2 tq _=H3 from e3]
   refine ⟨zS2,λ fr hfr=>?_⟩
   obtain ⟨H4,e4,k4,s4⟩:∃H',upd H3 fr (.tup [.str (wyL dn),.ref tq])=H'/\H' fr=some (.tup [.str (wyL dn),.ref tq])/\Same H3 H':=⟨_,Y,af,Same.new hfr⟩
   rw [show upd H3 fr _=H4 from e4]
   have s14:=s2.trans (s3.trans s4)
   refine q _ H4 ?_ (s1.trans s14)
   rw [et,bX,<- et,TlV]
   refine ⟨fr,tq,_,Y,k4,s4 _ _ k3,?_⟩
   have ee:ps'.map (·.2)=srt (aX b dn t w1 h1):=ia ((pm'.map _).trans pm) pw
   rw [<- ee]
   exact ju (lE λ z hz=>(ips z (pm'.mem_iff.mp hz)).keep λ a xs e=>s14 _ _ e)
  rw [List.concat_eq_append] at pr hw ⊢
  obtain ⟨ts',t0,rfl,prp,⟨sp,c0,u,du,rfl,hsp,hc0,hdu,tdu⟩⟩:=iI pr
  rw [show (!(vs' ++ [V.ref sp]).isEmpty)=true by cases vs' <;> rfl]
  have ssz:wsz (ts' ++ [t0])=wsz ts' + szT t0.t:=by rw [fq]; show _ + (szT t0.t + 0)=_; omega
  rw [ssz] at sz1 ⊢
  refine aP ⟨λ σ' H'=>∃ (vs us:List V) (ts:List Wa) (L:List (Int×Tl)) (v6 v7 v8 v9:Option V),σ'=[some (.int b),some (.ref c),some v,some (.str (wyL dn)),some (.ref rl),some (.ref wl),v6,v7,v8,v9]/\wsz ts < wsz ts' + szT t0.t/\H' wl=some (.lst vs)/\H' rl=some (.lst us)/\Paired (WaAt pp H H') vs ts/\Paired (ItV H') us L/\(L ++ wrw b dn ts).Perm (aX b dn t w1 h1)/\(∀z∈ts,(z.t=t\/dT z.t < dT t)/\lvN z.t<=63)/\wsz ts<=10000/\Same H H',λ σ' H' ⟨vs,us,ts,L,v6,v7,v8,v9,e,l,r⟩=>⟨_,l,vs,us,ts,L,v6,v7,v8,v9,e,rfl,r⟩,?_⟩
  rw [jv,gI] at pm
  have ml:(vs' ++ [V.ref sp]).length=vs'.length + 1:=by rw [List.length_append]; rfl
  have keep:∀ {Hx:Hp} {o:HO},Same H Hx->Same H (upd Hx wl o):=λ {Hx o} sx c oo e=>by
   rw [am (λ z=>by rw [z,fw] at e; cases e)]
   exact sx _ _ e
  have keepL:∀ {Hx:Hp} {o:HO},Same H Hx->Same H (upd Hx rl o):=λ {Hx o} sx c oo e=>by
   rw [am (λ z=>by rw [z,hrl] at e; cases e)]
   exact sx _ _ e
  refine ap (λ R=>∀ (H':Hp),H' wl=some (.lst vs')->H' rl=some (.lst us)->Paired (WaAt pp H H') vs' ts'->Paired (ItV H') us L->H' c0=some (.tup [.int t0.w,.int t0.h])->Same H H'->R [some (.int b),some (.ref c),some v,some (.str (wyL dn)),some (.ref rl),some (.ref wl),some (.ref c0),some u,v8,v9] H') (λ Dd hR=>?_) ?_
  ·refine ⟨_,Y,.inl ⟨Y,_,SqL.of hw⟩,wl,_,.ref sp,Y,Y,hw,(by rw [ml]; simp),?_⟩
   rw [List.dropLast_concat]
   have kt:∀ {c:Addr} {xs:List V},H1 c=some (.tup xs)->(upd H1 wl (.lst vs')) c=some (.tup xs):=λ {c xs} e=>by
    rw [am (λ z=>by rw [z,hw] at e; cases e)]; exact e
   refine ⟨sp,_,Y,SqT.of (kt hsp),Y,_,_,Y,_,_,Y,Y,?_⟩
   exact hR _ af (by rw [am nrw]; exact hl) (Paired.mapP prp λ v t h=>h.keep λ a xs e=>kt e) (Paired.mapP pu λ v t h=>h.keep λ a xs e=>kt e) (kt hc0) (keep s1)
  clear hw hl pr prp pu hsp hc0
  rintro H2 hw2 hl2 pr2 pu2 hc2 s02
  obtain ⟨ys0,er0⟩:=TrD.head tdu
  obtain ⟨a0,xs0,rfl,hx0,dx0⟩:=hdu.head er0
  have sl:=mJ ts'
  have pl2:=Paired.length pr2
  refine ⟨_,Y,ixR s02 hx0 (aE (Int.le_refl _) rfl) ⟨_,Y,Y,_,Y,?_⟩⟩
  show (if (decide (V.str (hdW t0.t)=V.str (wyL dn)))=true then _ else _)
  rw [lF]
  have dz0:=dz t0 (List.mem_append.mpr (.inr (List.mem_singleton.mpr rfl)))
  have dz':∀z∈ts',(z.t=t\/dT z.t < dT t)/\lvN z.t<=63:=λ z hz=>dz z (List.mem_append.mpr (.inl hz))
  cases hw0:isW dn t0.t with
  | false =>
   have nt:t0.t≠t:=λ z=>by
    rw [z,et] at hw0
    simp [isW] at hw0
   have dlt:=dz0.1.resolve_left nt
   have sp0:=kh t0.t
   have pul:=Paired.length pu2
   have l0:=fT t0.t
   rw [bG hw0] at pm
   have lml:=kj b dn t w1 h1
   have pml:=pm.length_eq
   rw [List.length_append,List.length_append,List.length_singleton] at pml
   refine aO ⟨_,rfl,.inl ⟨rfl,_,SqL.of hl2⟩,_,rfl,_,rfl,c0,t0.w,t0.h,dn,rfl,hc2,_,rfl,_,rfl,_,rfl,pp,c0,b,t0.w,t0.h,.ref a0,du,t0.t,rfl,hc2,hdu.same s02,tdu,dz0.2,by omega,λ uu H3 tv s3=>⟨zS2,λ it hit=>?_⟩⟩
   obtain ⟨H4,e4,k4,s4⟩:∃H',upd H3 it (.tup [.int (if dn=true then t0.w else t0.h),uu])=H'/\H' it=some (.tup [.int (if dn=true then t0.w else t0.h),uu])/\Same H3 H':=⟨_,Y,af,Same.new hit⟩
   rw [show upd H3 it _=H4 from e4]
   have s24:=s3.trans s4
   have hl4:=s24 _ _ hl2
   refine ⟨rl,us,_,Y,Y,hl4,by omega,?_⟩
   have kt:∀ {c:Addr} {xs:List V},H4 c=some (.tup xs)->(upd H4 rl (.lst (us ++ [.ref it]))) c=some (.tup xs):=λ {c xs} e=>by
    rw [am (λ z=>by rw [z,hl4] at e; cases e)]; exact e
   refine ⟨vs',us ++ [.ref it],ts',L ++ [(if dn=true then t0.w else t0.h,bm b t0.t t0.w t0.h)],_,_,_,_,Y,by omega,by rw [am (Ne.symm nrw)]; exact s24 _ _ hw2,af,Paired.mapP pr2 λ v t h=>h.keep λ a xs e=>kt (s24 _ _ e),eC (Paired.mapP pu2 λ v t h=>h.keep λ a xs e=>kt (s24 _ _ e)) (.cons ⟨it,uu,Y,kt k4,TlV.keep (λ a xs e=>kt (s4 _ _ e)) _ tv⟩ .nil),?_,dz',by omega,keepL (s02.trans s24)⟩
   refine List.Perm.trans ?_ pm
   rw [List.append_assoc]
   exact (List.Perm.append_left _ List.perm_append_comm)
  | true =>
   obtain ⟨p0,l0,r0,e0⟩:∃p0 l0 r0,t0.t=.cut dn p0 l0 r0:=by
    cases z:t0.t with
    | rest=>rw [z] at hw0; cases hw0
    | piece=>rw [z] at hw0; cases hw0
    | cut d p0 l0 r0 =>
     rw [z] at hw0
     have:d=dn:=by simpa [isW] using hw0
     rw [this]
     exact ⟨_,_,_,Y⟩
   rw [e0] at tdu er0 hx0 dz0
   obtain ⟨q1,q2,q3,q4⟩:=vL dn p0 l0 r0
   have szt0:szT t0.t=szT l0 + szT r0 + 1:=by rw [e0]; exact q3
   obtain ⟨dl0,dr0,er1,tdl,tdr⟩:=tdu
   rw [er1] at er0
   cases er0
   cases dx0 with
   | @cons x1 _ xs1 _ g1 dx0 =>
   cases dx0 with
   | @cons lv _ xs2 _ gl dx0 =>
   cases dx0 with
   | @cons rv _ xs3 _ gr dx0 =>
   cases dx0
   cases g1
   have hx0:H a0=some (.lst [.str (wyL dn),.int p0,lv,rv])\/H a0=some (.tup [.str (wyL dn),.int p0,lv,rv]):=hx0
   refine aP ?_
   refine ap (λ R=>∀t1 t2 (H':Hp),H' t1=some (.tup [.int (if dn=true then p0 else t0.w),.int (if dn=true then t0.h else p0)])->H' t2=some (.tup [.int (if dn=true then t0.w - p0 - b else t0.w),.int (if dn=true then t0.h else t0.h - p0 - b)])->Same H2 H'->R [some (.int b),some (.ref c),some v,some (.str (wyL dn)),some (.ref rl),some (.ref wl),some (.ref c0),some (.ref a0),some (.ref t1),some (.ref t2)] H') (λ Dd hR=>?_) ?_
   ·refine ⟨_,Y,_,Y,_,Y,_,Y,ixR s02 hx0 (aE (by decide) rfl) ⟨b,t0.w,t0.h,p0,c0,dn,Y,hc2,λ u t1 t2 H3 ku k1 k2 s3=>⟨u,_,Y,SqT.of ku,Y,_,_,Y,_,_,Y,Y,hR t1 t2 _ ?_ ?_ s3⟩⟩⟩
    ·rw [k1]; cases dn <;> rfl
    ·rw [k2]; cases dn <;> rfl
   rintro t1 t2 H3 k1 k2 s23
   have s03:=s02.trans s23
   refine ⟨_,Y,.inl ⟨Y,_,SqL.of (s23 _ _ hw2)⟩,_,Y,_,Y,ixR s03 hx0 (aE (by decide) rfl) ⟨zS2,λ i1 hi1=>?_⟩⟩
   obtain ⟨H4,e4,k4,s4⟩:∃H',upd H3 i1 (.tup [.ref t1,lv])=H'/\H' i1=some (.tup [.ref t1,lv])/\Same H3 H':=⟨_,Y,af,Same.new hi1⟩
   rw [show upd H3 i1 _=H4 from e4]
   refine ⟨_,Y,_,Y,ixR (s03.trans s4) hx0 (aE (by decide) rfl) ⟨zS2,λ i2 hi2=>?_⟩⟩
   obtain ⟨H5,e5,k5,s5⟩:∃H',upd H4 i2 (.tup [.ref t2,rv])=H'/\H' i2=some (.tup [.ref t2,rv])/\Same H4 H':=⟨_,Y,af,Same.new hi2⟩
   rw [show upd H4 i2 _=H5 from e5]
   refine ⟨zS2,λ lu hlu=>?_⟩
   obtain ⟨H6,e6,k6,s6⟩:∃H',upd H5 lu (.lst [.ref i1,.ref i2])=H'/\H' lu=some (.lst [.ref i1,.ref i2])/\Same H5 H':=⟨_,Y,af,Same.new hlu⟩
   rw [show upd H5 lu _=H6 from e6]
   have s36:=s4.trans (s5.trans s6)
   have s26:=s23.trans s36
   have hw6:=s26 _ _ hw2
   refine ⟨wl,lu,_,_,Y,Y,hw6,k6,by show _ + 2<=_; omega,?_⟩
   have kt:∀ {c:Addr} {xs:List V},H6 c=some (.tup xs)->(upd H6 wl (.lst (vs' ++ [.ref i1,.ref i2]))) c=some (.tup xs):=λ {c xs} e=>by
    rw [am (λ z=>by rw [z,hw6] at e; cases e)]; exact e
   have dl9:dT l0 < dT t/\dT r0 < dT t:=by
    rcases dz0.1 with z | z
    ·rw [<- z]; exact ⟨q1,q2⟩
    ·exact ⟨Nat.lt_trans q1 z,Nat.lt_trans q2 z⟩
   refine ⟨vs' ++ [.ref i1,.ref i2],us,ts' ++ ([⟨if dn=true then p0 else t0.w,if dn=true then t0.h else p0,l0⟩] ++ [⟨if dn=true then t0.w - p0 - b else t0.w,if dn=true then t0.h else t0.h - p0 - b,r0⟩]),L,_,_,_,_,Y,?_,af,by rw [am nrw]; exact s26 _ _ hl2,eC (Paired.mapP pr2 λ v t h=>h.keep λ a xs e=>kt (s26 _ _ e)) (.cons ⟨i1,t1,lv,dl0,Y,kt (s6 _ _ (s5 _ _ k4)),kt (s36 _ _ k1),gl,tdl⟩ (.cons ⟨i2,t2,rv,dr0,Y,kt (s6 _ _ k5),kt (s36 _ _ k2),gr,tdr⟩ .nil)),Paired.mapP pu2 λ v t h=>h.keep λ a xs e=>kt (s26 _ _ e),?_,λ z hz=>?_,?_,keep (s02.trans s26)⟩
   ·rw [fq,fq]; show _ + ((szT l0 + 0) + (szT r0 + 0)) < _; omega
   ·rw [jv,jv,gI,gI]
    rw [e0,bB] at pm
    exact pm
   ·rcases List.mem_append.mp hz with hz | hz
    ·exact dz' z hz
    ·rcases List.mem_append.mp hz with hz | hz
     ·rw [List.mem_singleton.mp hz]; exact ⟨.inr dl9.1,by show lvN l0<=63; have:=dz0.2; have:=(cL b r0 0 0).2.2; omega⟩
     ·rw [List.mem_singleton.mp hz]; exact ⟨.inr dl9.2,by show lvN r0<=63; have:=dz0.2; have:=(cL b l0 0 0).2.2; omega⟩
   ·rw [fq,fq]; show _ + ((szT l0 + 0) + (szT r0 + 0))<=_; omega
theorem qX {f:Addr} {fd:FuncData} (F:Fun K "telling_of_part" "telling_of_part" bo f fd):FnOk P w K mg base CX0 3 f fd ["blade","part","tree"] (spTell 0):=by
 refine F.ok sctell (λ vs H Q E h=>?_) (λ cdv A outer s H vs Q E hr h=>?_)
 ·obtain ⟨pp,c,b,w1,h1,v,d,t,rfl,_⟩:=h
  rfl
 ·refine cK λ G9 k9=>?_
  obtain ⟨pp,c,b,w1,h1,v,d,t,rfl,_,_,_,_,z,_⟩:=h
  refine k9 ?_
  exact absurd z (Nat.not_lt_zero _)
theorem km {f wa:Addr} {fd:FuncData} (F:Fun K "telling_of_part" "telling_of_part" bo f fd) (B:Blt mg) (Z:TrC K mg wa) (DC:Dn P w K mg base "cut_parts" ["blade","part","way","p"] 1 (spParts2)) (DSA:Dn P w K mg base "side_along" ["part","way"] 1 (spSideA)) (mk:∀n,FnOk P w K mg base CX0 (3 + n) f fd ["blade","part","tree"] (spTell n)->Dn P w K mg base "telling_of_part" ["blade","part","tree"] (3 + n) (spTell n)):∀n,n<=60->FnOk P w K mg base CX0 (3 + n) f fd ["blade","part","tree"] (spTell n)
 | 0,_=>qX F
 | n + 1,h=>tY F B Z n (by omega) DC DSA (mk n (km F B Z DC DSA mk n (by omega)))
theorem sctello:FnScope ["shop","wide","high","tree"] ["shop","wide","high","tree"] (defScope df):=⟨Y,Y,Y,by decide +kernel,Y,by decide +kernel,by decide +kernel⟩
theorem qY {f C:Addr} {fd:FuncData} (F:Fun K "telling_of" "telling_of" df f fd) (T:ShopTxt K C) (MB:Mn P w K mg base C "blade" ["self"] 1 (cX C)) (DCt:Dn P w K mg base "check_tree" ["shop","wide","high","thing"] 7 (spCheckT C)) (DT:Dn P w K mg base "telling_of_part" ["blade","part","tree"] 53 (spTell 50)):FnOk P w K mg base CX0 54 f fd ["shop","wide","high","tree"] (spTellO C):=by
 refine F.ok sctello (λ vs H Q E h=>?_) (λ cdv A outer s H vs Q E hr h=>?_)
 ·obtain ⟨pp,s,b,w1,h1,ks,v,d,t,rfl,_⟩:=h
  rfl
 refine cK λ G9 k9=>?_
 obtain ⟨pp,s,b,w1,h1,ks,v,d,t,rfl,SH,w0,h0,hd,dz,td,okt,l63,dlt,q⟩:=h
 refine k9 ?_
 have nd:=sctello.nd
 refine ⟨_,(@ae _ _ _ _ _ (@bh _ _ _ _ (@aj _ _ _ _ _ _ _ _ _ _ DCt (hr.mono (by decide)) rfl (@aa _ _ _ _ _ (pv 0) (@aa _ _ _ _ _ (pv 1) (@aa _ _ _ _ _ (pv 2) (@aa _ _ _ _ _ (pv 3) ab rfl) rfl) rfl) rfl) (by decide) rfl rfl) rfl) (@ag _ _ _ (@av _ _ _ _ (@aj _ _ _ _ _ _ _ _ _ _ DT hr rfl (@aa _ _ _ _ _ (fL (pv 0) T.cl MB (hr.mono (by decide))) (@aa _ _ _ _ _ (@ax _ _ _ _ _ (@aa _ _ _ _ _ (pv 1) (@aa _ _ _ _ _ (pv 2) ab rfl) rfl)) (@aa _ _ _ _ _ (pv 3) ab rfl) rfl) rfl) (by decide) rfl rfl)))),?_⟩
 obtain ⟨dx,r,rs,S1,S2,S3⟩:=id SH
 refine ⟨_,Y,_,Y,_,Y,_,Y,pp,s,b,w1,h1,ks,v,d,Y,SH,w0,h0,hd,dz,TrD.good t d w1 h1 td okt,λ H1 s1=>?_⟩
 have SH1:=dq s1 SH
 obtain ⟨dx',r',rs',S1',S2',S3'⟩:=id SH1
 refine ⟨_,Y,s,dx',_,Y,S1',(bV _ _ (by decide +kernel) (by decide +kernel)),s,b,ks,Y,SH1,_,Y,_,Y,zS2,λ c hc=>?_⟩
 obtain ⟨H2,e2,k2,s2⟩:∃H',upd H1 c (.tup [.int w1,.int h1])=H'/\H' c=some (.tup [.int w1,.int h1])/\Same H1 H':=⟨_,Y,af,Same.new hc⟩
 rw [show upd H1 c _=H2 from e2]
 exact ⟨_,Y,pp,c,b,w1,h1,v,d,t,Y,k2,hd.same (s1.trans s2),td,l63,dlt,λ u H3 tv s3=>q u H3 tv (s1.trans (s2.trans s3))⟩
end
theorem qZ:∀t:Tr,(toD t).canLay0=true/\(toD t).depth=dT t + 1
 | .rest=>⟨by decide +kernel,Y⟩
 | .piece .. => ⟨by simp [toD,PyData.canLay0,PyData.canLayAll0]; decide +kernel,Y⟩
 | .cut dn p l r=>by
  obtain ⟨l1,l2⟩:=qZ l
  obtain ⟨r1,r2⟩:=qZ r
  refine ⟨?_,?_⟩
  ·simp [toD,PyData.canLay0,PyData.canLayAll0,l1,r1]
   cases dn <;> decide +kernel
  ·simp only [toD,PyData.depth,PyData.depthAll,l2,r2,dT]
   omega
theorem TrV.head {H:Hp}:∀ (t:Tr) {v:V},TrV H t v->∃a xs,v=.ref a/\H a=some (.tup (.str (hdW t) :: xs))
 | .rest,_,⟨a,e,h⟩=>⟨a,_,e,h⟩
 | .piece ..,_,⟨a,e,h⟩=>⟨a,_,e,h⟩
 | .cut ..,_,⟨a,x,y,e,h,_⟩=>⟨a,_,e,h⟩
theorem Dts.get {p:Addr} {H:Hp}:∀ {vs:List V} {ds:List PyData} {i:Nat} {x:V},Dts p H vs ds->vs[i]? = some x->∃d,ds[i]? = some d/\Dt p H x d
 | _,_,0,_,.cons a _,e=>⟨_,Y,by cases e; exact a⟩
 | _,_,i + 1,_,.cons _ r,e=>by
  obtain ⟨d,h1,h2⟩:=r.get (i:=i) (by simpa using e)
  exact ⟨d,by simpa using h1,h2⟩
mutual
inductive Lsd:PyData->PyData->Prop
 | same (d:PyData):Lsd d d
 | row {ds ds':List PyData}:Lsds ds ds'->Lsd (.tuple ds) (.list ds')
inductive Lsds:List PyData->List PyData->Prop
 | nil:Lsds [] []
 | cons {d d':PyData} {ds ds':List PyData}:Lsd d d'->Lsds ds ds'->Lsds (d :: ds) (d' :: ds')
end
theorem Lsd.row_of {d d':PyData} {ds:List PyData} (h:Lsd d d') (e:d=.tuple ds):∃ds',aH d'=some ds'/\Lsds ds ds':=by
 cases h with
 | same d =>
  subst e
  refine ⟨ds,Y,?_⟩
  induction ds with
  | nil=>exact .nil
  | cons d ds ih=>exact .cons (.same d) ih
 | row r=>cases e; exact ⟨_,Y,r⟩
theorem Lsd.str {z:Str} {d:PyData} (h:Lsd (.str z) d):d=.str z:=by cases h; rfl
theorem Lsd.int {i:Int} {d:PyData} (h:Lsd (.int i) d):d=.int i:=by cases h; rfl
theorem Lsd.bool {b:Bool} {d:PyData} (h:Lsd (.bool b) d):d=.bool b:=by cases h; rfl
theorem Lsds.one {d:PyData} {ds es:List PyData} (h:Lsds (d :: ds) es):∃e es',es=e :: es'/\Lsd d e/\Lsds ds es':=by
 cases h with
 | cons a r=>exact ⟨_,_,Y,a,r⟩
theorem Lsds.zero {es:List PyData} (h:Lsds [] es):es=[]:=by cases h; rfl
theorem Lsd.tree:∀ (t:Tr) {d:PyData},Lsd (toD t) d->TrD t d
 | .rest,d,h=>by
  obtain ⟨ds',e,r⟩:=h.row_of rfl
  obtain ⟨x1,es,rfl,h1,r⟩:=r.one
  cases r.zero
  cases h1.str
  exact e
 | .piece i c x y,d,h=>by
  obtain ⟨ds',e,r⟩:=h.row_of rfl
  obtain ⟨x1,es,rfl,h1,r⟩:=r.one
  obtain ⟨x2,es,rfl,h2,r⟩:=r.one
  obtain ⟨x3,es,rfl,h3,r⟩:=r.one
  obtain ⟨x4,es,rfl,h4,r⟩:=r.one
  obtain ⟨x5,es,rfl,h5,r⟩:=r.one
  cases r.zero
  cases h1.str
  cases h2.int
  cases h3.bool
  cases h4.int
  cases h5.int
  exact e
 | .cut dn p l r,d,h=>by
  obtain ⟨ds',e,r'⟩:=h.row_of rfl
  obtain ⟨x1,es,rfl,h1,r'⟩:=r'.one
  obtain ⟨x2,es,rfl,h2,r'⟩:=r'.one
  obtain ⟨x3,es,rfl,h3,r'⟩:=r'.one
  obtain ⟨x4,es,rfl,h4,r'⟩:=r'.one
  cases r'.zero
  cases h1.str
  cases h2.int
  exact ⟨x3,x4,e,Lsd.tree l h3,Lsd.tree r h4⟩
mutual
theorem Lsd.wt:∀ {d d':PyData},Lsd d d'->wt d'=wt d
 | _,_,.same _=>rfl
 | _,_,.row r=>by simp only [Pc.wt]; rw [r.wts]
theorem Lsds.wts:∀ {d d':List PyData},Lsds d d'->wts d'=wts d
 | _,_,.nil=>rfl
 | _,_,.cons a r=>by simp only [Pc.wts]; rw [a.wt,r.wts]
end
mutual
theorem Lsd.depth:∀ {d d':PyData},Lsd d d'->d'.depth=d.depth
 | _,_,.same _=>rfl
 | _,_,.row r=>by simp only [PyData.depth]; rw [r.depth]
theorem Lsds.depth:∀ {d d':List PyData},Lsds d d'->PyData.depthAll d'=PyData.depthAll d
 | _,_,.nil=>rfl
 | _,_,.cons a r=>by simp only [PyData.depthAll]; rw [a.depth,r.depth]
end
theorem gf {b:Int} {ks:List Kd}:∀ (t:Tr) {w h:Int},okU b ks w h t->okT b ks w h t
 | .rest,_,_,_=>trivial
 | .piece i c x y,w,h,⟨k,hk,hm,x0,y0,hx,hy⟩=>by
  refine ⟨k,hk,?_,x0,y0,hx,hy⟩
  obtain ⟨_,k',hk',hc⟩:=lr hm
  have hk':ks[i]? = some k':=hk'
  rw [hk] at hk'
  cases hk'
  unfold mG
  rcases hc with hc | hc
  ·have hc:c=false:=hc
   rw [hc]
   split <;> simp
  ·rw [if_pos hc]
   cases c <;> simp
 | .cut true p l r,w,h,⟨p1,hp,hl,hr⟩=>⟨p1,hp,gf l hl,gf r hr⟩
 | .cut false p l r,w,h,⟨p1,hp,hl,hr⟩=>⟨p1,hp,gf l hl,gf r hr⟩
theorem ib:∀t:Tr,wt (toD t)<=11 * szT t
 | .rest=>by decide +kernel
 | .piece .. => by
  have:wt (.str "piece")=6:=by decide +kernel
  show wt (.str "piece") + (1 + (1 + (1 + (1 + 0)))) + 1<=11 * 1
  omega
 | .cut dn p l r=>by
  have h1:=ib l
  have h2:=ib r
  have h3:wt (.str (if dn=true then "down" else "across"))<=7:=by cases dn <;> decide +kernel
  show wt (.str (if dn=true then "down" else "across")) + (1 + (wt (toD l) + (wt (toD r) + 0))) + 1<=11 * (szT l + szT r + 1)
  omega
section
variable {P:Program} {w:World} {K:PySem.W.Frag} {mg:Str->Option Value} {base:Heap}
inductive spDeep (vs:List V) (H:Hp) (Q:VK) (E_:XK):Prop
 | mk (p t kl:Addr) (b u tn:Int) (ks:List Kd) (e_1:vs=[.ref p,.ref t,.int u,.int tn]) (e_2:PotC H p) (e_3:LS H t b ks kl) (e_4:kl≠p) (e_5:ks.length<=8) (e_6:(∀k∈ks,Good k)) (e_7:0<=b) (e_8:b < 10 ^ 58) (e_9:1<=u) (e_10:u < 2 * 10 ^ 56) (e_11:0<=tn) (e_12:tn < 4) (e_13:∀ (r:Addr) (W h:Int) (v:V) (T:Tr) (H':Hp),H' r=some (.tup [.int W,.int h,v])->TrV H' T v->okU b ks W h T->1<=W->1<=h->W < 9 * 10 ^ 59->h < 9 * 10 ^ 59->lvN T<=45->PotC H' p->But p H H'->Q (.ref r) H'):spDeep vs H Q E_
theorem scdeep:FnScope ["_law_pot_here","_law_shop_here","_law_unit_here","_law_turn","_law_wide","_law_high","_law_tree_here","_law_k","_law_way","_law_size","_law_far","_law_sides_here","_law_leaf_here"] ["_law_pot_here","_law_shop_here","_law_unit_here","_law_turn"] (defScope mE):=⟨Y,Y,Y,by decide +kernel,Y,by decide +kernel,by decide +kernel⟩
set_option maxHeartbeats 1000000 in
theorem tZ {f:Addr} {fd:FuncData} (F:Fun K "_law_deep" "_law_deep" mE f fd) (B:Blt mg) (DD:Dn P w K mg base "_law_take" ["_law_pot_here","_law_many"] 1 (spTake)) (DSi:Dn P w K mg base "_law_side" ["_law_pot_here","_law_unit_here","_law_most"] 2 (spSideC)) (DLf:Dn P w K mg base "_law_leaf" ["_law_pot_here","_law_shop_here","_law_wide","_law_high"] 2 (spLeafC)):FnOk P w K mg base CX0 3 f fd ["_law_pot_here","_law_shop_here","_law_unit_here","_law_turn"] (spDeep):=by
 refine F.ok scdeep (λ vs H Q E h=>?_) (λ cdv A outer s H vs Q E hr h=>?_)
 ·obtain ⟨p,t,kl,b,u,tn,ks,rfl,_⟩:=h
  rfl
 refine cK λ G9 k9=>?_
 obtain ⟨p,t,kl,b,u,tn,ks,rfl,pt,sh,nk,k8,gk,b0,b58,u1,u2,tn0,tn4,q⟩:=h
 refine k9 ?_
 have nd:=scdeep.nd
 refine ⟨_,(@ae _ _ _ _ _ (kH rfl nd rfl rfl (i:=4) (j:=5) (by decide) rfl rfl (@aa _ _ _ _ _ (@aj _ _ _ _ _ _ _ _ _ _ DSi (hr.mono (by decide)) rfl (@aa _ _ _ _ _ (pv 0) (@aa _ _ _ _ _ (pv 2) (@aa _ _ _ _ _ ad ab rfl) rfl) rfl) (by decide) rfl rfl) (@aa _ _ _ _ _ (@aj _ _ _ _ _ _ _ _ _ _ DSi (hr.mono (by decide)) rfl (@aa _ _ _ _ _ (pv 0) (@aa _ _ _ _ _ (pv 2) (@aa _ _ _ _ _ ad ab rfl) rfl) rfl) (by decide) rfl rfl) ab rfl) rfl) rfl) (@ae _ _ _ _ _ (@az _ _ 6 _ _ _ _ nd rfl (Or.inl rfl) (@aj _ _ _ _ _ _ _ _ _ _ DLf (hr.mono (by decide)) rfl (@aa _ _ _ _ _ (pv 0) (@aa _ _ _ _ _ (pv 1) (@aa _ _ _ _ _ (pv 4) (@aa _ _ _ _ _ (pv 5) ab rfl) rfl) rfl) rfl) (by decide) rfl rfl) rfl (Or.inl rfl)) (@ae _ _ _ _ _ (@bO _ _ _ _ _ _ _ _ PassesOwn.never rfl (fB rfl B.range (@aa _ _ _ _ _ (@ay _ _ _ _ _ _ _ _ aQ ad (@aj _ _ _ _ _ _ _ _ _ _ DD (hr.mono (by decide)) rfl (@aa _ _ _ _ _ (pv 0) (@aa _ _ _ _ _ ad ab rfl) rfl) (by decide) rfl rfl)) ab rfl)) (ai (i:=7) nd rfl (Or.inl rfl)) (@ae _ _ _ _ _ (@az _ _ 8 _ _ _ _ nd rfl (Or.inl rfl) (@ao _ _ _ _ _ _ _ ix_list (@aM _ _ _ _ (@aa _ _ _ _ _ bI (@aa _ _ _ _ _ bI ab rfl) rfl)) (@ay _ _ _ _ _ _ _ _ fD (@ao _ _ _ _ _ _ _ ix_list (@aM _ _ _ _ (@aa _ _ _ _ _ ad (@aa _ _ _ _ _ (@ay _ _ _ _ _ _ _ _ eY (pv 7) ad) (@aa _ _ _ _ _ (pv 7) (@aa _ _ _ _ _ (@aj _ _ _ _ _ _ _ _ _ _ DD (hr.mono (by decide)) rfl (@aa _ _ _ _ _ (pv 0) (@aa _ _ _ _ _ ad ab rfl) rfl) (by decide) rfl rfl) ab rfl) rfl) rfl) rfl)) (pv 3) (λ _ _=>rfl)) ad) (λ _ _=>rfl)) rfl (Or.inl rfl)) (@ae _ _ _ _ _ (kH rfl nd rfl rfl (i:=9) (j:=10) (by decide) rfl rfl (@aa _ _ _ _ _ (@aj _ _ _ _ _ _ _ _ _ _ DSi (hr.mono (by decide)) rfl (@aa _ _ _ _ _ (pv 0) (@aa _ _ _ _ _ (pv 2) (@aa _ _ _ _ _ ad ab rfl) rfl) rfl) (by decide) rfl rfl) (@aa _ _ _ _ _ (@ao _ _ _ _ _ _ _ ix_list (@aM _ _ _ _ (@aa _ _ _ _ _ (pv 4) (@aa _ _ _ _ _ (pv 5) ab rfl) rfl)) (@bc _ _ _ _ _ _ _ _ _ cj rfl B.int PyProof.Rows.boot_int (@aa _ _ _ _ _ (@bq _ _ _ _ _ _ _ _ bn (pv 8) bI (aD _)) ab rfl) (by decide) (by decide) rfl rfl) (λ _ _=>rfl)) ab rfl) rfl) rfl) (@ae _ _ _ _ _ (@az _ _ 11 _ _ _ _ nd rfl (Or.inl rfl) (@ao _ _ _ _ _ _ _ ix_list (@aM _ _ _ _ (@aa _ _ _ _ _ (@ax _ _ _ _ _ (@aa _ _ _ _ _ (pv 9) (@aa _ _ _ _ _ (pv 5) ab rfl) rfl)) (@aa _ _ _ _ _ (@ax _ _ _ _ _ (@aa _ _ _ _ _ (pv 4) (@aa _ _ _ _ _ (pv 9) ab rfl) rfl)) ab rfl) rfl)) (@bc _ _ _ _ _ _ _ _ _ cj rfl B.int PyProof.Rows.boot_int (@aa _ _ _ _ _ (@bq _ _ _ _ _ _ _ _ bn (pv 8) bI (aD _)) ab rfl) (by decide) (by decide) rfl rfl) (λ _ _=>rfl)) rfl (Or.inl rfl)) (@ae _ _ _ _ _ (@az _ _ 12 _ _ _ _ nd rfl (Or.inl rfl) (@aj _ _ _ _ _ _ _ _ _ _ DLf (hr.mono (by decide)) rfl (@aa _ _ _ _ _ (pv 0) (@aa _ _ _ _ _ (pv 1) (@aa _ _ _ _ _ (@ao _ _ _ _ _ _ _ ix_tup (pv 11) ad (λ _ _=>rfl)) (@aa _ _ _ _ _ (@ao _ _ _ _ _ _ _ ix_tup (pv 11) ad (λ _ _=>rfl)) ab rfl) rfl) rfl) rfl) (by decide) rfl rfl) rfl (Or.inl rfl)) (@ae _ _ _ _ _ (@aI _ _ _ _ _ _ _ _ (@aB _ _ _ _ _ _ _ _ bn (pv 8) bI (aD _)) (@ag _ _ _ (@az _ _ 4 _ _ _ _ nd rfl (Or.inl rfl) (@ay _ _ _ _ _ _ _ _ aQ (@ay _ _ _ _ _ _ _ _ aQ (pv 4) (pv 9)) (@ao _ _ _ _ _ _ _ ix_tup (pv 1) ad (λ _ _=>rfl))) rfl (Or.inl rfl))) (@ag _ _ _ (@az _ _ 5 _ _ _ _ nd rfl (Or.inl rfl) (@ay _ _ _ _ _ _ _ _ aQ (@ay _ _ _ _ _ _ _ _ aQ (pv 5) (pv 9)) (@ao _ _ _ _ _ _ _ ix_tup (pv 1) ad (λ _ _=>rfl))) rfl (Or.inl rfl)))) (@ag _ _ _ (@az _ _ 6 _ _ _ _ nd rfl (Or.inl rfl) (@ao _ _ _ _ _ _ _ ix_list (@aM _ _ _ _ (@aa _ _ _ _ _ (@ax _ _ _ _ _ (@aa _ _ _ _ _ (pv 8) (@aa _ _ _ _ _ (pv 9) (@aa _ _ _ _ _ (pv 12) (@aa _ _ _ _ _ (pv 6) ab rfl) rfl) rfl) rfl)) (@aa _ _ _ _ _ (@ax _ _ _ _ _ (@aa _ _ _ _ _ (pv 8) (@aa _ _ _ _ _ (pv 10) (@aa _ _ _ _ _ (pv 6) (@aa _ _ _ _ _ (pv 12) ab rfl) rfl) rfl) rfl)) ab rfl) rfl)) (@aj _ _ _ _ _ _ _ _ _ _ DD (hr.mono (by decide)) rfl (@aa _ _ _ _ _ (pv 0) (@aa _ _ _ _ _ ad ab rfl) rfl) (by decide) rfl rfl) (λ _ _=>rfl)) rfl (Or.inl rfl)))))))) (by intro _; rfl)) (@ag _ _ _ (@av _ _ _ _ (@ax _ _ _ _ _ (@aa _ _ _ _ _ (pv 4) (@aa _ _ _ _ _ (pv 5) (@aa _ _ _ _ _ (pv 6) ab rfl) rfl) rfl))))))),?_⟩
 have e58:(10:Int) ^ 58 + 44 * (2 * 10 ^ 58) < 9 * 10 ^ 59:=by decide
 have e57:(10:Int) ^ 58 < 9 * 10 ^ 59:=by decide
 have ep:(0:Int) < 10 ^ 58:=by decide
 have sz:(1000:Nat) < sizeLine:=by decide
 refine ap (λ R=>∀ (W h1:Int) (H':Hp),1<=W->W < 10 ^ 58->1<=h1->h1 < 10 ^ 58->PotC H' p->But p H H'->R [some (.ref p),some (.ref t),some (.int u),some (.int tn),some (.int W),some (.int h1),none,none,none,none,none,none,none] H') (λ Dd hR=>?_) ?_
 ·exact ⟨_,Y,_,Y,p,u,6,Y,pt,u1,u2,by decide,by decide,λ W H1 w0 w58 pt1 b1=>⟨_,Y,_,Y,p,u,6,Y,pt1,u1,u2,by decide,by decide,λ h1 H2 h0 h58 pt2 b2=>⟨_,_,Y,hR W h1 _ w0 w58 h0 h58 pt2 (b1.trans b2)⟩⟩⟩
 rintro W h1 H1 w0 w58 h0 h58 pt1 b1
 refine ap (λ R=>∀ (v:V) (T:Tr) (H':Hp),TrV H' T v->okU b ks W h1 T->lvN T=1->PotC H' p->But p H H'->R [some (.ref p),some (.ref t),some (.int u),some (.int tn),some (.int W),some (.int h1),some v,none,none,none,none,none,none] H') (λ Dd hR=>?_) ?_
 ·exact ⟨_,Y,_,Y,_,Y,_,Y,p,t,kl,b,W,h1,ks,Y,pt1,sh.but nk pt b1,nk,k8,gk,by omega,by omega,λ v T H2 tv ok ln _ pt2 b2=>hR v T _ tv (ok b) ln pt2 (b1.trans b2)⟩
 clear b1 pt1
 clear H1
 rintro v T H1 tv okv lv1 pt1 b1
 refine bF (λ σ' H'=>∃i:Nat,i<=44/\∃ (W h1:Int) (v:V) (T:Tr) (v7 v8 v9 va vb vc:Option V),σ'=[some (.ref p),some (.ref t),some (.int u),some (.int tn),some (.int W),some (.int h1),some v,v7,v8,v9,va,vb,vc]/\1<=W/\1<=h1/\W < 10 ^ 58 + i * (2 * 10 ^ 58)/\h1 < 10 ^ 58 + i * (2 * 10 ^ 58)/\TrV H' T v/\okU b ks W h1 T/\lvN T<=i + 1/\PotC H' p/\But p H H') (λ R hR=>?_) ?_
 ·refine ⟨_,Y,p,25,Y,pt1,by decide,by decide,λ m H2 m0 m1 pt2 b2=>⟨_,_,Y,Y,_,Y,by omega,by omega,?_⟩⟩
  refine fC (n:=(20 + m).toNat) (λ i σ' H'=>∃ (W h1:Int) (v:V) (T:Tr) (v7 v8 v9 va vb vc:Option V),σ'=[some (.ref p),some (.ref t),some (.int u),some (.int tn),some (.int W),some (.int h1),some v,v7,v8,v9,va,vb,vc]/\1<=W/\1<=h1/\W < 10 ^ 58 + i * (2 * 10 ^ 58)/\h1 < 10 ^ 58 + i * (2 * 10 ^ 58)/\TrV H' T v/\okU b ks W h1 T/\lvN T<=i + 1/\PotC H' p/\But p H H') ⟨W,h1,v,T,_,_,_,_,_,_,rfl,w0,h0,by omega,by omega,TrV.keep (λ a xs e=>cS b2 pt1 e) T tv,okv,by omega,pt2,b1.trans b2⟩ ?_ (λ σ Hx h=>hR _ _ ⟨(20 + m).toNat,by omega,h⟩)
  clear tv okv lv1 pt1 b1 pt2 b2 w0 w58 h0 h58
  clear H1 H2 W h1 v T
  intro i _ H1 hi hI9
  refine cK λ G9 k9=>?_
  obtain ⟨W,h1,v,T,v7,v8,v9,va,vb,vc,rfl,w0,h0,w59,h59,tv1,ok1,lv1,pt1,b1⟩:=hI9
  refine k9 ?_
  have i44:i<=43:=by omega
  have i44':(i:Int)<=43:=by omega
  have im:(i:Int) * (2 * 10 ^ 58)<=43 * (2 * 10 ^ 58):=Int.mul_le_mul_of_nonneg_right i44' (by omega)
  have is:((i + 1:Nat):Int) * (2 * 10 ^ 58)=i * (2 * 10 ^ 58) + 2 * 10 ^ 58:=by
   rw [Int.natCast_add,Int.add_mul]; omega
  refine bF (λ σ' H'=>∃dn:Bool,σ'=[some (.ref p),some (.ref t),some (.int u),some (.int tn),some (.int W),some (.int h1),some v,some (.int (0 + (i:Int))),some (.str (wyL dn)),v9,va,vb,vc]/\TrV H' T v/\PotC H' p/\But p H H') (λ R hR=>?_) ?_
  ·refine ⟨zS2,λ l hl=>?_⟩
   obtain ⟨H2,e2,k2,n2,s2,b2,pt2⟩:=bU (o:=.lst [.str "down",.str "across"]) b1 pt1 hl
   rw [show upd H1 l _=H2 from e2]
   refine ⟨_,Y,_,_,Y,Y,⟨by decide,by decide⟩,_,Y,_,Y,p,2,Y,pt2,by decide,by decide,λ z H3 z0 z1 pt3 b3=>⟨zS4,λ l2 hl2=>?_⟩⟩
   obtain ⟨H4,e4,k4,n4,s4,b4,pt4⟩:=bU (o:=.lst [.int 0,.int ((0 + (i:Int)) / 4),.int (0 + (i:Int)),.int z]) (b2.trans b3) pt3 hl2
   rw [show upd H3 l2 _=H4 from e4]
   obtain ⟨xx,hxx⟩:∃xx:Int,atI [V.int 0,V.int ((0 + (i:Int)) / 4),V.int (0 + (i:Int)),V.int z] tn=some (.int xx):=by
    have:tn=0\/tn=1\/tn=2\/tn=3:=by omega
    rcases this with rfl | rfl | rfl | rfl <;> exact ⟨_,Y⟩
   have hl4:=s4 _ _ (b3 _ _ n2 k2)
   have fin:∀dn:Bool,_:=λ dn=>hR [some (.ref p),some (.ref t),some (.int u),some (.int tn),some (.int W),some (.int h1),some v,some (.int (0 + (i:Int))),some (.str (wyL dn)),v9,va,vb,vc] H4 ⟨dn,rfl,TrV.keep (λ a xs e=>s4 _ _ (cS b3 pt2 (s2 _ _ e))) T tv1,pt4,b4⟩
   have mo:xx % 2=0\/xx % 2=1:=by omega
   refine ⟨_,Y,l2,_,_,_,Y,Y,SqL.of k4,hxx,_,_,Y,Y,(by show (0:Int) < 2; decide),?_⟩
   rcases mo with e | e
   ·exact ⟨l,_,_,_,Y,by rw [e],SqL.of hl4,Y,fin true⟩
   ·exact ⟨l,_,_,_,Y,by rw [e],SqL.of hl4,Y,fin false⟩
  clear tv1 pt1
  rintro _ H2 ⟨dn,rfl,tv2,pt2,b2⟩
  refine ap (λ R=>∀ (sz0:Int) (H':Hp),1<=sz0->sz0 < 10 ^ 58->TrV H' T v->PotC H' p->But p H H'->R [some (.ref p),some (.ref t),some (.int u),some (.int tn),some (.int W),some (.int h1),some v,some (.int (0 + (i:Int))),some (.str (wyL dn)),some (.int sz0),some (.int (if dn=true then W else h1)),vb,vc] H') (λ Dd hR=>?_) ?_
  ·refine ⟨_,Y,_,Y,p,u,3,Y,pt2,u1,u2,by decide,by decide,λ sz0 H3 s0 s58 pt3 b3=>⟨_,Y,_,Y,zS2,λ ol hol=>?_⟩⟩
   obtain ⟨H4,e4,k4,n4,s4,b4,pt4⟩:=bU (o:=.lst [.int W,.int h1]) (b2.trans b3) pt3 hol
   rw [show upd H3 ol _=H4 from e4]
   refine ⟨_,Y,Y,.inr ⟨_,Y,ol,_,_,.int (if dn=true then W else h1),Y,Y,SqL.of k4,?_,_,_,Y,hR sz0 _ s0 s58 (TrV.keep (λ a xs e=>s4 _ _ (cS b3 pt2 e)) T tv2) pt4 b4⟩⟩
   cases dn with
   | true =>
    rw [show decide (V.str (wyL true)=V.str "across")=false by decide +kernel]
    rfl
   | false =>
    rw [show decide (V.str (wyL false)=V.str "across")=true by decide +kernel]
    rfl
  clear tv2 pt2 b2
  clear H2
  rintro sz0 H2 s0 s58 tv2 pt2 b2
  refine ap (λ R=>∀ (so:Addr) (H':Hp),H' so=some (.tup [.int (if dn=true then sz0 else W),.int (if dn=true then h1 else sz0)])->TrV H' T v->PotC H' p->But p H H'->R [some (.ref p),some (.ref t),some (.int u),some (.int tn),some (.int W),some (.int h1),some v,some (.int (0 + (i:Int))),some (.str (wyL dn)),some (.int sz0),some (.int (if dn=true then W else h1)),some (.ref so),vc] H') (λ Dd hR=>?_) ?_
  ·refine ⟨_,Y,_,Y,zS2,λ a1 ha1=>?_⟩
   obtain ⟨H3,e3,k3,n3,s3,b3,pt3⟩:=bU (o:=.tup [.int sz0,.int h1]) b2 pt2 ha1
   rw [show upd H2 a1 _=H3 from e3]
   refine ⟨_,Y,_,Y,zS2,λ a2 ha2=>?_⟩
   obtain ⟨H4,e4,k4,n4,s4,b4,pt4⟩:=bU (o:=.tup [.int W,.int sz0]) b3 pt3 ha2
   rw [show upd H3 a2 _=H4 from e4]
   refine ⟨zS2,λ ol hol=>?_⟩
   obtain ⟨H5,e5,k5,n5,s5,b5,pt5⟩:=bU (o:=.lst [.ref a1,.ref a2]) b4 pt4 hol
   rw [show upd H4 ol _=H5 from e5]
   have tv5:=TrV.keep (λ a xs e=>s5 _ _ (s4 _ _ (s3 _ _ e))) T tv2
   refine ⟨_,Y,Y,.inr ⟨_,Y,ol,_,_,.ref (if dn=true then a1 else a2),Y,Y,SqL.of k5,?_,hR _ _ ?_ tv5 pt5 b5⟩⟩
   ·cases dn with
    | true =>
     rw [show decide (V.str (wyL true)=V.str "across")=false by decide +kernel]
     rfl
    | false =>
     rw [show decide (V.str (wyL false)=V.str "across")=true by decide +kernel]
     rfl
   ·cases dn with
    | true=>exact s5 _ _ (s4 _ _ k3)
    | false=>exact s5 _ _ k4
  clear tv2 pt2 b2
  clear H2
  rintro so H2 hso tv2 pt2 b2
  refine ap (λ R=>∀ (lf:V) (TL:Tr) (H':Hp),TrV H' TL lf->okU b ks (if dn=true then sz0 else W) (if dn=true then h1 else sz0) TL->lvN TL=1->TrV H' T v->PotC H' p->But p H H'->R [some (.ref p),some (.ref t),some (.int u),some (.int tn),some (.int W),some (.int h1),some v,some (.int (0 + (i:Int))),some (.str (wyL dn)),some (.int sz0),some (.int (if dn=true then W else h1)),some (.ref so),some lf] H') (λ Dd hR=>?_) ?_
  ·refine ⟨_,Y,_,Y,_,Y,so,_,0,_,Y,Y,SqT.of hso,Y,_,Y,so,_,1,_,Y,Y,SqT.of hso,Y,p,t,kl,b,_,_,ks,Y,pt2,sh.but nk pt b2,nk,k8,gk,?_,?_,λ lf TL H3 tl ok ln _ pt3 b3=>hR lf TL _ tl (ok b) ln (TrV.keep (λ a xs e=>cS b3 pt2 e) T tv2) pt3 (b2.trans b3)⟩
   ·split <;> omega
   ·split <;> omega
  clear tv2 pt2 b2 hso
  clear H2
  rintro lf TL H2 tl2 okl ll1 tv2 pt2 b2
  obtain ⟨kr,ht,_⟩:=id (sh.but nk pt b2)
  refine ap (λ R=>R [some (.ref p),some (.ref t),some (.int u),some (.int tn),some (.int (if dn=true then W + sz0 + b else W)),some (.int (if dn=true then h1 else h1 + sz0 + b)),some v,some (.int (0 + (i:Int))),some (.str (wyL dn)),some (.int sz0),some (.int (if dn=true then W else h1)),some (.ref so),some lf] H2) (λ Dd hR=>?_) ?_
  ·refine ⟨_,Y,Y,_,Y,?_⟩
   cases dn with
   | true=>exact iK (by decide +kernel) ⟨_,rfl,_,rfl,_,_,rfl,rfl,_,rfl,t,_,0,_,rfl,rfl,SqT.of ht,rfl,_,_,rfl,rfl,hR⟩
   | false=>exact fm (by decide +kernel) ⟨_,rfl,_,rfl,_,_,rfl,rfl,_,rfl,t,_,0,_,rfl,rfl,SqT.of ht,rfl,_,_,rfl,rfl,hR⟩
  skip
  refine ⟨_,Y,_,Y,_,Y,_,Y,zS4,λ a1 ha1=>?_⟩
  obtain ⟨H3,e3,k3,n3,s3,b3,pt3⟩:=bU (o:=.tup [.str (wyL dn),.int sz0,lf,v]) b2 pt2 ha1
  rw [show upd H2 a1 _=H3 from e3]
  refine ⟨_,Y,_,Y,_,Y,_,Y,zS4,λ a2 ha2=>?_⟩
  obtain ⟨H4,e4,k4,n4,s4,b4,pt4⟩:=bU (o:=.tup [.str (wyL dn),.int (if dn=true then W else h1),v,lf]) b3 pt3 ha2
  rw [show upd H3 a2 _=H4 from e4]
  refine ⟨zS2,λ ol hol=>?_⟩
  obtain ⟨H5,e5,k5,n5,s5,b5,pt5⟩:=bU (o:=.lst [.ref a1,.ref a2]) b4 pt4 hol
  rw [show upd H4 ol _=H5 from e5]
  refine ⟨_,Y,p,2,Y,pt5,by decide,by decide,λ z H6 z0 z1 pt6 b6=>?_⟩
  have k6:∀a xs,H2 a=some (.tup xs)->H6 a=some (.tup xs):=λ a xs e=>cS b6 pt5 (s5 _ _ (s4 _ _ (s3 _ _ e)))
  have tv6:=TrV.keep k6 T tv2
  have tl6:=TrV.keep k6 TL tl2
  have b06:But p H H6:=λ c o n e=>b6 _ _ n (s5 _ _ (s4 _ _ (s3 _ _ (b2 _ _ n e))))
  have W':1<=(if dn=true then W + sz0 + b else W):=by split <;> omega
  have H'':1<=(if dn=true then h1 else h1 + sz0 + b):=by split <;> omega
  have W2:(if dn=true then W + sz0 + b else W) < 10 ^ 58 + ((i + 1:Nat):Int) * (2 * 10 ^ 58):=by split <;> omega
  have H2':(if dn=true then h1 else h1 + sz0 + b) < 10 ^ 58 + ((i + 1:Nat):Int) * (2 * 10 ^ 58):=by split <;> omega
  have zz:z=0\/z=1:=by omega
  rcases zz with rfl | rfl
  ·refine ⟨ol,_,_,_,Y,Y,SqL.of (b6 _ _ n5 k5),Y,_,_,.ref a1,.cut dn sz0 TL T,_,_,_,_,_,_,Y,W',H'',W2,H2',⟨a1,lf,v,Y,cS b6 pt5 (s5 _ _ (s4 _ _ k3)),tl6,tv6⟩,?_,by show lvN TL + lvN T<=_; omega,pt6,b06⟩
   refine ⟨s0,?_⟩
   cases dn with
   | true =>
    show sz0 + b < W + sz0 + b/\okU b ks sz0 h1 TL/\okU b ks (W + sz0 + b - sz0 - b) h1 T
    rw [show W + sz0 + b - sz0 - b=W by omega]
    exact ⟨by omega,okl,ok1⟩
   | false =>
    show sz0 + b < h1 + sz0 + b/\okU b ks W sz0 TL/\okU b ks W (h1 + sz0 + b - sz0 - b) T
    rw [show h1 + sz0 + b - sz0 - b=h1 by omega]
    exact ⟨by omega,okl,ok1⟩
  ·refine ⟨ol,_,_,_,Y,Y,SqL.of (b6 _ _ n5 k5),Y,_,_,.ref a2,.cut dn (if dn=true then W else h1) T TL,_,_,_,_,_,_,Y,W',H'',W2,H2',⟨a2,v,lf,Y,cS b6 pt5 (s5 _ _ k4),tv6,tl6⟩,?_,by show lvN T + lvN TL<=_; omega,pt6,b06⟩
   cases dn with
   | true =>
    show 1<=W/\W + b < W + sz0 + b/\okU b ks W h1 T/\okU b ks (W + sz0 + b - W - b) h1 TL
    rw [show W + sz0 + b - W - b=sz0 by omega]
    exact ⟨w0,by omega,ok1,okl⟩
   | false =>
    show 1<=h1/\h1 + b < h1 + sz0 + b/\okU b ks W h1 T/\okU b ks W (h1 + sz0 + b - h1 - b) TL
    rw [show h1 + sz0 + b - h1 - b=sz0 by omega]
    exact ⟨h0,by omega,ok1,okl⟩
 clear tv okv lv1 pt1 b1 w0 w58 h0 h58
 clear H1 W h1 v T
 intro _ H1 hI9
 refine cK λ G9 k9=>?_
 obtain ⟨i,i44,W,h1,v,T,v7,v8,v9,va,vb,vc,rfl,w0,h0,w59,h59,tv1,ok1,lv1,pt1,b1⟩:=hI9
 refine k9 ?_
 have im:(i:Int) * (2 * 10 ^ 58)<=44 * (2 * 10 ^ 58):=Int.mul_le_mul_of_nonneg_right (by omega) (by omega)
 refine ⟨_,Y,_,Y,_,Y,zS3,λ r hr=>?_⟩
 obtain ⟨H2,e2,k2,n2,s2,b2,pt2⟩:=bU (o:=.tup [.int W,.int h1,v]) b1 pt1 hr
 rw [show upd H1 r _=H2 from e2]
 exact q r W h1 v T H2 k2 (TrV.keep (λ a xs e=>s2 _ _ e) T tv1) ok1 w0 h0 (by omega) (by omega) (by omega) pt2 b2
end
def tlW (dn:Bool):Tl->Bool
 | .row d _=>d == dn
 | _=>false
def toL:Tls->List (Int×Tl)
 | .nil=>[]
 | .cons n t r=>(n,t) :: toL r
theorem rc (n:Int) (t:Tl) (r:Tls):toL (.cons n t r)=(n,t) :: toL r:=by rw [toL]
theorem ej:∀r:Tls,ofL (toL r)=r
 | .nil=>rfl
 | .cons n t r=>by rw [toL,ofL,ej r]
theorem fu:∀l:List (Int×Tl),toL (ofL l)=l
 | []=>rfl
 | z :: l=>by rw [ofL,toL,fu l]
def bp (b:Int) (l:List (Int×Tl)):Int:=(l.map (·.1)).sum + b * (l.length - 1)
theorem cT (b:Int) (z:Int×Tl):bp b [z]=z.1:=by
 show z.1 + 0 + b * ((1:Nat) - 1)=z.1
 rw [show (((1:Nat):Int) - 1)=0 by omega,Int.mul_zero]; omega
theorem iO (b:Int) (z y:Int×Tl) (l:List (Int×Tl)):bp b (z :: y :: l)=z.1 + b + bp b (y :: l):=by
 show z.1 + ((y :: l).map (·.1)).sum + b * (((y :: l).length + 1:Nat) - 1)=z.1 + b + (((y :: l).map (·.1)).sum + b * ((y :: l).length - 1))
 rw [Int.natCast_add,Int.mul_sub,Int.mul_sub,Int.mul_add]
 omega
theorem iP (b:Int) {l l':List (Int×Tl)}:bp b (l ++ l')=bp b l + b + bp b l':=by
 unfold bp
 rw [List.map_append,List.sum_append,List.length_append,Int.natCast_add,Int.mul_sub,Int.mul_sub,Int.mul_sub,Int.mul_add]
 omega
theorem nY {l l':List Int} (h:l.Perm l'):l.sum=l'.sum:=by
 induction h with
 | nil=>rfl
 | cons x _ ih=>rw [List.sum_cons,List.sum_cons,ih]
 | swap x y l=>rw [List.sum_cons,List.sum_cons,List.sum_cons,List.sum_cons]; omega
 | trans _ _ h1 h2=>rw [h1,h2]
theorem lG (b:Int) {l l':List (Int×Tl)} (h:l.Perm l'):bp b l=bp b l':=by
 unfold bp
 rw [nY (h.map _),h.length_eq]
theorem iQ {b:Int} (b0:0<=b):∀ {l:List (Int×Tl)},l≠[]->(∀z∈l,1<=z.1)->1<=bp b l
 | [],h,_=>absurd rfl h
 | [z],_,h=>by rw [cT]; exact h z List.mem_cons_self
 | z :: y :: l,_,h=>by
  have:=iQ b0 (l:=y :: l) (by simp) λ x hx=>h x (List.mem_cons_of_mem _ hx)
  have:=h z List.mem_cons_self
  rw [iO]; omega
mutual
def okL (b:Int) (ks:List Kd):Tl->Int->Int->Prop
 | .rest,_,_=>True
 | .piece i c x y,w,h=>okU b ks w h (.piece i c x y)
 | .row dn r,w,h=>2<=(toL r).length/\bp b (toL r)=(if dn=true then w else h)/\(toL r).Pairwise (λ x y=>aN (bS y) (bS x)=false)/\gm b ks dn r w h
def gm (b:Int) (ks:List Kd) (dn:Bool):Tls->Int->Int->Prop
 | .nil,_,_=>True
 | .cons n t r,w,h=>1<=n/\tlW dn t=false/\okL b ks t (if dn=true then n else w) (if dn=true then h else n)/\gm b ks dn r w h
end
def okI (b:Int) (ks:List Kd) (dn:Bool) (w h:Int) (z:Int×Tl):Prop:=1<=z.1/\tlW dn z.2=false/\okL b ks z.2 (if dn=true then z.1 else w) (if dn=true then h else z.1)
theorem mK {b:Int} {ks:List Kd} {dn:Bool} {w h:Int}:∀ {l:List (Int×Tl)},(∀z∈l,okI b ks dn w h z)->gm b ks dn (ofL l) w h
 | [],_=>by rw [ofL,gm]; trivial
 | z :: l,hz=>by
  rw [ofL,gm]
  obtain ⟨h1,h2,h3⟩:=hz z List.mem_cons_self
  exact ⟨h1,h2,h3,mK λ y hy=>hz y (List.mem_cons_of_mem _ hy)⟩
theorem gJ {b:Int} {ks:List Kd} {dn:Bool} {w h:Int}:∀ {r:Tls},gm b ks dn r w h->∀z∈toL r,okI b ks dn w h z
 | .nil,_,z,hz=>by rw [toL] at hz; cases hz
 | .cons n t r,ho,z,hz=>by
  rw [gm] at ho
  rw [toL] at hz
  obtain ⟨h1,h2,h3,h4⟩:=ho
  rcases List.mem_cons.mp hz with e | hz
  ·rw [e]; exact ⟨h1,h2,h3⟩
  ·exact gJ h4 z hz
mutual
def bD:Tl->Tr
 | .rest=>.rest
 | .piece i c x y=>.piece i c x y
 | .row dn r=>trs dn r
def trs (dn:Bool):Tls->Tr
 | .nil=>.rest
 | .cons n t r=>match r with
  | .nil=>bD t
  | .cons .. => .cut dn n (bD t) (trs dn r)
end
theorem mL (dn:Bool) (n:Int) (t:Tl):trs dn (.cons n t .nil)=bD t:=by rw [trs]
theorem fv (dn:Bool) (n m:Int) (t u:Tl) (r:Tls):trs dn (.cons n t (.cons m u r))=.cut dn n (bD t) (trs dn (.cons m u r)):=by rw [trs]
theorem ic (dn:Bool) (r:Tls):bD (.row dn r)=trs dn r:=by rw [bD]
theorem rg {b:Int} {ks:List Kd} (e:Bool):∀ {t:Tl} {w h:Int},okL b ks t w h->isW e (bD t)=tlW e t
 | .rest,_,_,_=>by rw [bD]; rfl
 | .piece ..,_,_,_=>by rw [bD]; rfl
 | .row dn .nil,_,_,h=>by rw [okL,toL] at h; exact absurd h.1 (by decide)
 | .row dn (.cons n t .nil),_,_,h=>by rw [okL,toL,toL] at h; exact absurd h.1 (by simp)
 | .row dn (.cons n t (.cons m u r)),_,_,h=>by rw [ic,fv]; rfl
mutual
theorem mM {b:Int} {ks:List Kd} (b0:0<=b):∀ (t:Tl) {w h:Int},okL b ks t w h->okU b ks w h (bD t)/\bm b (bD t) w h=t
 | .rest,_,_,_=>by rw [bD]; exact ⟨trivial,Y⟩
 | .piece ..,_,_,ho=>by rw [okL] at ho; rw [bD]; exact ⟨ho,Y⟩
 | .row dn .nil,_,_,h=>by rw [okL,toL] at h; exact absurd h.1 (by decide)
 | .row dn (.cons n t .nil),_,_,h=>by rw [okL,toL,toL] at h; exact absurd h.1 (by simp)
 | .row dn (.cons n t (.cons m u r)),w,h,ho=>by
  rw [okL] at ho
  obtain ⟨_,hs,hw,ho⟩:=ho
  obtain ⟨h1,h2⟩:=rh b0 dn (.cons m u r) n t ho
  rw [hs] at h1 h2
  have ew:(if dn=true then (if dn=true then w else h) else w)=w:=by cases dn <;> rfl
  have eh:(if dn=true then h else (if dn=true then w else h))=h:=by cases dn <;> rfl
  rw [ew,eh] at h1 h2
  rw [ic]
  refine ⟨h2,?_⟩
  rw [fv,bX,<- fv,h1,<- ia (.refl _) hw,ej]
termination_by t=>sizeOf t
decreasing_by all_goals (simp; try omega)
theorem rh {b:Int} {ks:List Kd} (b0:0<=b) (dn:Bool):∀ (r:Tls) (n:Int) (t:Tl) {w h:Int},gm b ks dn (.cons n t r) w h ->
  aX b dn (trs dn (.cons n t r)) (if dn=true then bp b (toL (.cons n t r)) else w) (if dn=true then h else bp b (toL (.cons n t r)))=toL (.cons n t r) /\
  okU b ks (if dn=true then bp b (toL (.cons n t r)) else w) (if dn=true then h else bp b (toL (.cons n t r))) (trs dn (.cons n t r))
 | .nil,n,t,w,h,ho=>by
  rw [gm] at ho
  obtain ⟨h1,h2,h3,_⟩:=ho
  obtain ⟨g1,g2⟩:=mM b0 t h3
  have e:=rg dn h3
  rw [h2] at e
  rw [mL,toL,toL,cT,bG e,g2]
  exact ⟨by cases dn <;> rfl,g1⟩
 | .cons m u r,n,t,w,h,ho=>by
  rw [gm] at ho
  obtain ⟨h1,h2,h3,h4⟩:=ho
  obtain ⟨g1,g2⟩:=mM b0 t h3
  have e:=rg dn h3
  rw [h2] at e
  obtain ⟨k1,k2⟩:=rh b0 dn r m u h4
  have pos:=iQ b0 (l:=toL (.cons m u r)) (by rw [toL]; simp) λ z hz=>(gJ h4 z hz).1
  have es:bp b (toL (.cons n t (.cons m u r)))=n + b + bp b (toL (.cons m u r)):=by
   rw [toL,toL]; exact iO b _ _ _
  rw [es,fv,bB,rc n t (.cons m u r)]
  generalize bp b (toL (.cons m u r))=s at k1 k2 pos
  cases dn with
  | true =>
   have k1:aX b true (trs true (.cons m u r)) s h=toL (.cons m u r):=k1
   have k2:okU b ks s h (trs true (.cons m u r)):=k2
   have g1:okU b ks n h (bD t):=g1
   have g2:bm b (bD t) n h=t:=g2
   refine ⟨?_,?_⟩
   ·show aX b true (bD t) n h ++ aX b true (trs true (.cons m u r)) (n + b + s - n - b) h=_
    rw [show n + b + s - n - b=s by omega,k1,bG e,g2]; rfl
   ·show 1<=n/\n + b < n + b + s/\okU b ks n h (bD t)/\okU b ks (n + b + s - n - b) h (trs true (.cons m u r))
    rw [show n + b + s - n - b=s by omega]
    exact ⟨h1,by omega,g1,k2⟩
  | false =>
   have k1:aX b false (trs false (.cons m u r)) w s=toL (.cons m u r):=k1
   have k2:okU b ks w s (trs false (.cons m u r)):=k2
   have g1:okU b ks w n (bD t):=g1
   have g2:bm b (bD t) w n=t:=g2
   refine ⟨?_,?_⟩
   ·show aX b false (bD t) w n ++ aX b false (trs false (.cons m u r)) w (n + b + s - n - b)=_
    rw [show n + b + s - n - b=s by omega,k1,bG e,g2]; rfl
   ·show 1<=n/\n + b < n + b + s/\okU b ks w n (bD t)/\okU b ks w (n + b + s - n - b) (trs false (.cons m u r))
    rw [show n + b + s - n - b=s by omega]
    exact ⟨h1,by omega,g1,k2⟩
termination_by r _ t=>sizeOf r + sizeOf t + 1
decreasing_by all_goals (simp; try omega)
end
theorem vM {b:Int} {ks:List Kd} {dn:Bool} {w h:Int} {l:List (Int×Tl)} (h2:2<=l.length) (hs:bp b l=(if dn=true then w else h)) (hz:∀z∈l,okI b ks dn w h z):okL b ks (.row dn (ofL (srt l))) w h:=by
 rw [okL,fu]
 exact ⟨by rw [(bA l).length_eq]; exact h2,by rw [lG b (bA l)]; exact hs,lB l,mK λ z hm=>hz z ((bA l).mem_iff.mp hm)⟩
theorem ie {b:Int} {ks:List Kd} (b0:0<=b):∀ (t:Tr) {w h:Int},okU b ks w h t->1<=w->1<=h->okL b ks (bm b t w h) w h/\∀dn,(∀z∈aX b dn t w h,okI b ks dn w h z)/\bp b (aX b dn t w h)=(if dn=true then w else h)/\1<=(aX b dn t w h).length
 | .rest,w,h,ok,w1,h1=>by
  have k:okL b ks .rest w h:=by rw [okL]; trivial
  refine ⟨k,λ dn=>?_⟩
  rw [bG (by rfl)]
  refine ⟨λ z hz=>?_,cT _ _,Nat.le_refl _⟩
  rw [List.mem_singleton.mp hz]
  refine ⟨by show 1<=(if dn=true then w else h); split <;> omega,Y,?_⟩
  show okL b ks .rest _ _
  rw [okL]; trivial
 | .piece i c x y,w,h,ok,w1,h1=>by
  have k:okL b ks (.piece i c x y) w h:=by rw [okL]; exact ok
  refine ⟨k,λ dn=>?_⟩
  rw [bG (by rfl)]
  refine ⟨λ z hz=>?_,cT _ _,Nat.le_refl _⟩
  rw [List.mem_singleton.mp hz]
  refine ⟨by show 1<=(if dn=true then w else h); split <;> omega,Y,?_⟩
  show okL b ks (.piece i c x y) (if dn=true then (if dn=true then w else h) else w) (if dn=true then h else (if dn=true then w else h))
  cases dn <;> exact k
 | .cut d p l r,w,h,⟨p1,ok⟩,w1,h1=>by
  have own:(∀z∈aX b d (.cut d p l r) w h,okI b ks d w h z)/\bp b (aX b d (.cut d p l r) w h)=(if d=true then w else h)/\2<=(aX b d (.cut d p l r) w h).length:=by
   rw [bB]
   cases d with
   | true =>
    obtain ⟨hp,hl,hr⟩:p + b < w/\okU b ks p h l/\okU b ks (w - p - b) h r:=ok
    obtain ⟨a1,a2,a3⟩:=(ie b0 l hl p1 h1).2 true
    obtain ⟨c1,c2,c3⟩:=(ie b0 r hr (by omega) h1).2 true
    refine ⟨λ z hz=>?_,?_,by rw [List.length_append]; show 2<=(aX b true l p h).length + (aX b true r (w - p - b) h).length; omega⟩
    ·rcases List.mem_append.mp hz with hz | hz
     ·exact a1 z hz
     ·exact c1 z hz
    ·rw [iP]
     show bp b (aX b true l p h) + b + bp b (aX b true r (w - p - b) h)=w
     rw [a2,c2]
     show p + b + (w - p - b)=w
     omega
   | false =>
    obtain ⟨hp,hl,hr⟩:p + b < h/\okU b ks w p l/\okU b ks w (h - p - b) r:=ok
    obtain ⟨a1,a2,a3⟩:=(ie b0 l hl w1 p1).2 false
    obtain ⟨c1,c2,c3⟩:=(ie b0 r hr w1 (by omega)).2 false
    refine ⟨λ z hz=>?_,?_,by rw [List.length_append]; show 2<=(aX b false l w p).length + (aX b false r w (h - p - b)).length; omega⟩
    ·rcases List.mem_append.mp hz with hz | hz
     ·exact a1 z hz
     ·exact c1 z hz
    ·rw [iP]
     show bp b (aX b false l w p) + b + bp b (aX b false r w (h - p - b))=h
     rw [a2,c2]
     show p + b + (h - p - b)=h
     omega
  obtain ⟨o1,o2,o3⟩:=own
  have k:okL b ks (bm b (.cut d p l r) w h) w h:=by rw [bX]; exact vM o3 o2 o1
  refine ⟨k,λ dn=>?_⟩
  by_cases e:d=dn
  ·subst e
   exact ⟨o1,o2,by omega⟩
  ·have ew:isW dn (.cut d p l r)=false:=by cases d <;> cases dn <;> first | rfl | exact absurd rfl e
   rw [bG ew]
   refine ⟨λ z hz=>?_,cT _ _,Nat.le_refl _⟩
   rw [List.mem_singleton.mp hz]
   refine ⟨by show 1<=(if dn=true then w else h); split <;> omega,?_,?_⟩
   ·show tlW dn (bm b (.cut d p l r) w h)=false
    rw [bX]
    exact ew
   ·show okL b ks (bm b (.cut d p l r) w h) (if dn=true then (if dn=true then w else h) else w) (if dn=true then h else (if dn=true then w else h))
    cases dn <;> exact k
mutual
def lcT:Tl->Nat
 | .row _ r=>lcS r
 | _=>1
def lcS:Tls->Nat
 | .nil=>0
 | .cons _ t r=>lcT t + lcS r
end
def lcL (l:List (Int×Tl)):Nat:=(l.map λ z=>lcT z.2).sum
theorem lH:∀r:Tls,lcS r=lcL (toL r)
 | .nil=>by rw [lcS]; rfl
 | .cons n t r=>by
  rw [lcS,toL,lH r]; rfl
theorem rj (dn:Bool) (l:List (Int×Tl)):lcT (.row dn (ofL (srt l)))=lcL l:=by
 rw [lcT,lH,fu]
 exact ((bA l).map _).sum_nat
theorem rn (a b:List (Int×Tl)):lcL (a ++ b)=lcL a + lcL b:=by unfold lcL; rw [List.map_append,List.sum_append]
theorem fU (b:Int):∀ (t:Tr) (w h:Int),lcT (tel b t w h).1=lvN t/\lcL (tel b t w h).2.1=lvN t/\lcL (tel b t w h).2.2=lvN t
 | .rest,_,_=>⟨by show lcT .rest=1; rw [lcT]; simp,by show lcT .rest + 0=1; rw [lcT]; simp,by show lcT .rest + 0=1; rw [lcT]; simp⟩
 | .piece i c x y,_,_=>⟨by show lcT (.piece i c x y)=1; rw [lcT]; simp,by show lcT (.piece i c x y) + 0=1; rw [lcT]; simp,by show lcT (.piece i c x y) + 0=1; rw [lcT]; simp⟩
 | .cut true p l r,w,h=>by
  have h1:=(fU b l p h).2.1
  have h2:=(fU b r (w - p - b) h).2.1
  have h3:=rj true ((tel b l p h).2.1 ++ (tel b r (w - p - b) h).2.1)
  have h4:=rn (tel b l p h).2.1 (tel b r (w - p - b) h).2.1
  refine ⟨?_,?_,?_⟩
  ·show lcT (.row true _)=lvN l + lvN r; omega
  ·show lcL (_ ++ _)=lvN l + lvN r; omega
  ·show lcT (.row true _) + 0=lvN l + lvN r; omega
 | .cut false p l r,w,h=>by
  have h1:=(fU b l w p).2.2
  have h2:=(fU b r w (h - p - b)).2.2
  have h3:=rj false ((tel b l w p).2.2 ++ (tel b r w (h - p - b)).2.2)
  have h4:=rn (tel b l w p).2.2 (tel b r w (h - p - b)).2.2
  refine ⟨?_,?_,?_⟩
  ·show lcT (.row false _)=lvN l + lvN r; omega
  ·show lcT (.row false _) + 0=lvN l + lvN r; omega
  ·show lcL (_ ++ _)=lvN l + lvN r; omega
theorem uT {b:Int} {ks:List Kd} (b0:0<=b) {t:Tl} {w h:Int} (ok:okL b ks t w h):lvN (bD t)=lcT t:=by
 have h1:=(fU b (bD t) w h).1
 have h2:(tel b (bD t) w h).1=t:=(mM b0 t ok).2
 rw [h2] at h1
 exact h1.symm
theorem Lsds.two {d e:PyData} {es:List PyData} (h:Lsds [d,e] es):∃d' e',es=[d',e']/\Lsd d d'/\Lsd e e':=by
 obtain ⟨x1,es,rfl,h1,r⟩:=h.one
 obtain ⟨x2,es,rfl,h2,r⟩:=r.one
 cases r.zero
 exact ⟨x1,x2,Y,h1,h2⟩
theorem lI {n:Int} {t:Tl} {d:PyData} (h:Lsd (.tuple [.int n,tlD t]) d):∃e,aH d=some [.int n,e]/\Lsd (tlD t) e:=by
 obtain ⟨ds',e,r⟩:=h.row_of rfl
 obtain ⟨x1,x2,rfl,h1,h2⟩:=r.two
 cases h1.int
 exact ⟨x2,e,h2⟩
theorem rz {dn:Bool} {r:Tls} {d:PyData} (h:Lsd (tlD (.row dn r)) d):∃e,aH d=some [.str (wyL dn),e]/\Lsd (.tuple (bj r)) e:=by
 obtain ⟨ds',e,r⟩:=h.row_of (by rw [tlD])
 obtain ⟨x1,x2,rfl,h1,h2⟩:=r.two
 cases h1.str
 exact ⟨x2,e,h2⟩
theorem ig:∀ {l:List (Int×Tl)} {es:List PyData},Lsds (bj (ofL l)) es->es.length=l.length/\∀ (i:Nat) (e:PyData),es[i]? = some e->∃z:Int×Tl,l[i]? = some z/\Lsd (.tuple [.int z.1,tlD z.2]) e
 | [],es,h=>by
  rw [ofL,bj] at h
  cases h.zero
  exact ⟨Y,λ i e he=>by simp at he⟩
 | z :: l,es,h=>by
  rw [ofL,bj] at h
  obtain ⟨x,es,rfl,h1,h2⟩:=h.one
  obtain ⟨g1,g2⟩:=ig h2
  refine ⟨by rw [List.length_cons,List.length_cons,g1],λ i e he=>?_⟩
  cases i with
  | zero=>cases he; exact ⟨z,Y,h1⟩
  | succ i=>exact g2 i e (by simpa using he)
theorem uU (e:Bool) {t:Tl} {d:PyData} (h:Lsd (tlD t) d):bw d (wyL e) 2=tlW e t:=by
 cases t with
 | rest =>
  have:aH d=some (.str "rest" :: []):=Lsd.tree .rest h
  rw [cB this]; rfl
 | piece i c x y =>
  have:aH d=some (.str "piece" :: [.int i,.bool c,.int x,.int y]):=Lsd.tree (.piece i c x y) h
  rw [cB this]; rfl
 | row dn r =>
  obtain ⟨x,er,_⟩:=rz h
  rw [cB er]
  show (decide ((1:Nat) + 1=2) && decide (wyL dn=wyL e))=(dn == e)
  cases dn <;> cases e <;> decide +kernel
def wyO:Tl->V
 | .row dn _=>.str (wyL dn)
 | _=>.non
theorem vN {dn:Bool} {t:Tl} (h:tlW dn t=false):(!decide (wyO t=.str (wyL dn)))=true:=by
 cases t with
 | rest=>rfl
 | piece=>rfl
 | row d r=>cases d <;> cases dn <;> first | rfl | cases h | decide +kernel
theorem Dt.rowT {K:PySem.W.Frag} {p:Addr} {H:Hp} {v:V} {d:PyData} {ds:List PyData} (h:Dt p H v d) (er:aH d=some ds):∃a xs T,v=.ref a/\(H a=some (.lst xs)\/H a=some (.tup xs))/\Dts p H xs ds/\Ty K H v T/\(T == "list" || T == "tuple")=true:=by
 rcases h.row (K:=K) with ⟨e,_⟩ | ⟨a,xs,ds',T,e,e2,hx,dx,ty,hT⟩
 ·rw [e] at er; cases er
 ·rw [e] at er; cases er; exact ⟨a,xs,T,e2,hx,dx,ty,hT⟩
section
variable {P:Program} {w:World} {K:PySem.W.Frag} {mg:Str->Option Value} {base:Heap}
inductive spPartA (vs:List V) (H:Hp) (Q:VK) (E_:XK):Prop
 | mk (c:Addr) (w h n:Int) (dn:Bool) (e_1:vs=[.ref c,.str (wyL dn),.int n]) (e_2:H c=some (.tup [.int w,.int h])) (e_3:∀ (r:Addr) (H':Hp),H' r=some (.tup [.int (if dn=true then n else w),.int (if dn=true then h else n)])->Same H H'->Q (.ref r) H'):spPartA vs H Q E_
inductive spWayOf (vs:List V) (H:Hp) (Q:VK) (E_:XK):Prop
 | mk (pp:Addr) (v:V) (d:PyData) (t:Tl) (e_1:vs=[v]) (e_2:Dt pp H v d) (e_3:Lsd (tlD t) d) (e_4:∀ (H':Hp),Same H H'->Q (wyO t) H'):spWayOf vs H Q E_
inductive spSized (vs:List V) (H:Hp) (Q:VK) (E_:XK):Prop
 | mk (pp:Addr) (v:V) (d:PyData) (n:Int) (t:Tl) (dn:Bool) (e_1:vs=[.str (wyL dn),v]) (e_2:Dt pp H v d) (e_3:Lsd (.tuple [.int n,tlD t]) d) (e_4:1<=n) (e_5:tlW dn t=false) (e_6:∀ (H':Hp),Same H H'->Q (.bl true) H'):spSized vs H Q E_
inductive spDivd (vs:List V) (H:Hp) (Q:VK) (E_:XK):Prop
 | mk (pp:Addr) (v:V) (d:PyData) (b s:Int) (l:List (Int×Tl)) (dn:Bool) (e_1:vs=[.int b,.int s,.str (wyL dn),v]) (e_2:Dt pp H v d) (e_3:Lsd (.tuple (bj (ofL l))) d) (e_4:2<=l.length) (e_5:l.length<=63) (e_6:(∀z∈l,1<=z.1/\tlW dn z.2=false)) (e_7:bp b l=s) (e_8:∀ (H':Hp),Same H H'->Q (.bl true) H'):spDivd vs H Q E_
theorem scparta:FnScope ["part","way","size"] ["part","way","size"] (defScope de):=⟨Y,Y,Y,by decide +kernel,Y,by decide +kernel,by decide +kernel⟩
theorem rA {f wa:Addr} {fd:FuncData} (F:Fun K "part_along" "part_along" de f fd) (Z:TrC K mg wa):FnOk P w K mg base CX0 1 f fd ["part","way","size"] (spPartA):=by
 refine F.ok scparta (λ vs H Q E h=>?_) (λ cdv A outer s H vs Q E hr h=>?_)
 ·obtain ⟨c,w1,h1,n,dn,rfl,_⟩:=h
  rfl
 obtain ⟨c,w1,h1,n,dn,rfl,hc,q⟩:=h
 have nd:=scparta.nd
 obtain ⟨tdn,hdn⟩:=Z.dn
 refine ⟨_,(@ag _ _ _ (@av _ _ _ _ (eO (@aB _ _ _ _ _ _ _ _ bn (pv 1) (aR (v:=.str "down") rfl hdn ⟨tdn,Y⟩) (aD _)) (@ax _ _ _ _ _ (@aa _ _ _ _ _ (pv 2) (@aa _ _ _ _ _ (@ao _ _ _ _ _ _ _ ix_tup (pv 0) ad (λ _ _=>rfl)) ab rfl) rfl)) (@ax _ _ _ _ _ (@aa _ _ _ _ _ (@ao _ _ _ _ _ _ _ ix_tup (pv 0) ad (λ _ _=>rfl)) (@aa _ _ _ _ _ (pv 2) ab rfl) rfl))))),?_⟩
 refine ⟨_,Y,Y,_,Y,?_⟩
 cases dn with
 | true=>exact iK (by decide +kernel) ⟨_,rfl,_,rfl,c,_,1,_,rfl,rfl,SqT.of hc,rfl,zS2,λ r hr=>q r _ af (Same.new hr)⟩
 | false=>exact fm (by decide +kernel) ⟨_,rfl,c,_,0,_,rfl,rfl,SqT.of hc,rfl,_,rfl,zS2,λ r hr=>q r _ af (Same.new hr)⟩
theorem scwayof:FnScope ["thing","way"] ["thing"] (defScope jr):=⟨Y,Y,Y,by decide +kernel,Y,by decide +kernel,by decide +kernel⟩
theorem rB {f wa:Addr} {fd:FuncData} (F:Fun K "way_of" "way_of" jr f fd) (Z:TrC K mg wa) (hc2:∃t,mg "THINGS_OF_A_CUT_TELLING" = some (.int 2 t)) (DB:Dn P w K mg base "begins_with" ["thing","word","many"] 2 (spBegins)):FnOk P w K mg base CX0 3 f fd ["thing"] (spWayOf):=by
 refine F.ok scwayof (λ vs H Q E h=>?_) (λ cdv A outer s H vs Q E hr h=>?_)
 ·obtain ⟨pp,v,d,t,rfl,_⟩:=h
  rfl
 obtain ⟨pp,v,d,t,rfl,hd,ld,q⟩:=h
 have nd:=scwayof.nd
 obtain ⟨tt2,ht2⟩:=hc2
 refine ⟨_,(@ae _ _ _ _ _ (@bO _ _ _ _ _ _ _ _ PassesOwn.never rfl (gP (aR (v:=.ref wa) rfl Z.wy rfl)) (ai (i:=1) nd rfl (Or.inl rfl)) (@ag _ _ _ (@aI _ _ _ _ _ _ _ _ (@aS _ _ _ (@aj _ _ _ _ _ _ _ _ _ _ DB hr rfl (@aa _ _ _ _ _ (pv 0) (@aa _ _ _ _ _ (pv 1) (@aa _ _ _ _ _ (aR (v:=.int 2) rfl ht2 ⟨tt2,Y⟩) ab rfl) rfl) rfl) (by decide) rfl rfl) (by intro _; rfl)) (@ag _ _ _ (@av _ _ _ _ (pv 1))) aA)) (by intro _; rfl)) (@ag _ _ _ (@av _ _ _ _ iT))),?_⟩
 refine ⟨wa, Y, ⟨_, Z.wq H⟩, gp (xs:=[.str "down", .str "across"]) (λ i σ H'=>(∃v1, σ=[some v, v1])/\Same H H'/\(1<=i->tlW true t=false)/\(2<=i->tlW false t=false)) ⟨⟨_, Y⟩, Same.refl _, λ z=>absurd z (by decide), λ z=>absurd z (by decide)⟩ (λ i σ H' _ _=>Z.wq H') ?_ ?_⟩
 ·rintro i y σ H1 hi ⟨⟨v1,rfl⟩,s1,g1,g2⟩
  match i,hi with
  | 0,hi =>
   cases hi
   refine ⟨_,Y,_,Y,pp,v,d,wyL true,2,Y,by decide,hd.same s1,λ H2 s12=>⟨_,Y,?_⟩⟩
   have s2:=s1.trans s12
   rw [uU true ld]
   refine ca (λ hb=>⟨_,Y,?_⟩) (λ hb=>⟨⟨_,Y⟩,s2,λ _=>by simpa using hb,λ z=>absurd z (by decide)⟩)
   have q1:=q H2 s2
   cases t with
   | row e r =>
    have:e=true:=by simpa [tlW] using hb
    subst this
    exact q1
   | _=>cases hb
  | 1,hi =>
   cases hi
   refine ⟨_,Y,_,Y,pp,v,d,wyL false,2,Y,by decide,hd.same s1,λ H2 s12=>⟨_,Y,?_⟩⟩
   have s2:=s1.trans s12
   rw [uU false ld]
   refine ca (λ hb=>⟨_,Y,?_⟩) (λ hb=>⟨⟨_,Y⟩,s2,λ _=>g1 (by decide),λ _=>by simpa using hb⟩)
   have q1:=q H2 s2
   cases t with
   | row e r =>
    have:e=false:=by simpa [tlW] using hb
    subst this
    exact q1
   | _=>cases hb
 ·rintro σ H1 ⟨⟨v1,rfl⟩,s1,g1,g2⟩
  have q1:=q H1 s1
  have a1:=g1 (by decide)
  have a2:=g2 (by decide)
  cases t with
  | row e r =>
   cases e with
   | true=>cases a1
   | false=>cases a2
  | _=>exact q1
theorem scsized:FnScope ["way","thing"] ["way","thing"] (defScope fh):=⟨Y,Y,Y,by decide +kernel,Y,by decide +kernel,by decide +kernel⟩
theorem rC {f:Addr} {fd:FuncData} (F:Fun K "is_sized" "is_sized" fh f fd) (B:Blt mg) (DR:Dn P w K mg base "is_row" ["thing"] 1 (gZ K)) (DW:Dn P w K mg base "is_whole" ["thing","least"] 1 (ce K)) (DWo:Dn P w K mg base "way_of" ["thing"] 3 (spWayOf)):FnOk P w K mg base CX0 4 f fd ["way","thing"] (spSized):=by
 refine F.ok scsized (λ vs H Q E h=>?_) (λ cdv A outer s H vs Q E hr h=>?_)
 ·obtain ⟨pp,v,d,n,t,dn,rfl,_⟩:=h
  rfl
 obtain ⟨pp,v,d,n,t,dn,rfl,hd,ld,n1,ne,q⟩:=h
 have nd:=scsized.nd
 refine ⟨_,(@ag _ _ _ (@av _ _ _ _ (cr (@aj _ _ _ _ _ _ _ _ _ _ DR (hr.mono (by decide)) rfl (@aa _ _ _ _ _ (pv 1) ab rfl) (by decide) rfl rfl) (cr (@bq _ _ _ _ _ _ _ _ bn (@aF _ _ _ _ _ _ _ _ _ aW rfl B.len PySem.boot_len (@aa _ _ _ _ _ (pv 1) ab rfl) (by decide) (by decide) rfl rfl) ad (aD _)) (cr (@aj _ _ _ _ _ _ _ _ _ _ DW (hr.mono (by decide)) rfl (@aa _ _ _ _ _ (@ao _ _ _ _ _ _ _ aY (pv 1) ad (λ _ _=>rfl)) (@aa _ _ _ _ _ ad ab rfl) rfl) (by decide) rfl rfl) (dw (@bq _ _ _ _ _ _ _ _ gQ (@aj _ _ _ _ _ _ _ _ _ _ DWo hr rfl (@aa _ _ _ _ _ (@ao _ _ _ _ _ _ _ aY (pv 1) ad (λ _ _=>rfl)) ab rfl) (by decide) rfl rfl) (pv 0) (aD _)))))))),?_⟩
 obtain ⟨e2,er,l2⟩:=lI ld
 obtain ⟨a,xs,T0,rfl,hx,dx,t0,rT⟩:=hd.rowT (K:=K) er
 cases dx with
 | @cons x0 _ xs0 _ g0 dx =>
 cases dx with
 | @cons x1 _ xs1 _ g1 dx =>
 cases dx
 cases g0
 refine ⟨_,Y,.ref a,T0,Y,t0,λ H1 s1=>⟨_,Y,?_⟩⟩
 rw [rT]
 have sq:SqL K H1 a [.int n,x1]\/SqT K H1 a [.int n,x1]:=hx.imp (λ z=>SqL.of (s1 _ _ z)) λ z=>SqT.of (s1 _ _ z)
 refine aP ⟨_,rfl,a,_,rfl,sq,rfl,_,rfl,?_⟩
 refine iK rfl ⟨_,rfl,ixR s1 hx (aE (Int.le_refl _) rfl) ⟨.int n,"int",1,rfl,Ty.int,_,rfl,?_⟩⟩
 rw [show aV (.int n) 1=true from decide_eq_true n1]
 refine aP ⟨_,rfl,ixR s1 hx (aE (by decide) rfl) ⟨pp,x1,e2,t,rfl,g1.same s1,l2,λ H2 s2=>⟨_,rfl,by cases t <;> rfl,?_⟩⟩⟩
 rw [vN ne]
 exact q H2 (s1.trans s2)
theorem scdivd:FnScope ["blade","side","way","row"] ["blade","side","way","row"] (defScope bT):=⟨Y,Y,Y,by decide +kernel,Y,by decide +kernel,by decide +kernel⟩
theorem uh {f:Addr} {fd:FuncData} (F:Fun K "is_divided" "is_divided" bT f fd) (B:Blt mg) (hc2:∃t,mg "LEAST_IN_A_ROW" = some (.int 2 t)) (DR:Dn P w K mg base "is_row" ["thing"] 1 (gZ K)) (DSz:Dn P w K mg base "is_sized" ["way","thing"] 4 (spSized)):FnOk P w K mg base CX0 5 f fd ["blade","side","way","row"] (spDivd):=by
 refine F.ok scdivd (λ vs H Q E h=>?_) (λ cdv A outer s H vs Q E hr h=>?_)
 ·obtain ⟨pp,v,d,b,s,l,dn,rfl,_⟩:=h
  rfl
 obtain ⟨pp,v,d,b,s,l,dn,rfl,hd,ld,l2,l63,al,hs,q⟩:=h
 have nd:=scdivd.nd
 obtain ⟨tl2,hl2⟩:=hc2
 refine ⟨_,(@ae _ _ _ _ _ (@aI _ _ _ _ _ _ _ _ (PW.pt (bY (@bf _ _ _ _ (@aS _ _ _ (@aj _ _ _ _ _ _ _ _ _ _ DR (hr.mono (by decide)) rfl (@aa _ _ _ _ _ (pv 3) ab rfl) (by decide) rfl rfl) (by intro _; rfl))) (bY (@aB _ _ _ _ _ _ _ _ lW (@aF _ _ _ _ _ _ _ _ _ aW rfl B.len PySem.boot_len (@aa _ _ _ _ _ (pv 3) ab rfl) (by decide) (by decide) rfl rfl) (aR (v:=.int 2) rfl hl2 ⟨tl2,Y⟩) (aD _)) (cq (@bf _ _ _ _ (@aS _ _ _ (@aF _ _ _ _ _ _ _ _ _ (nE rfl) rfl B.all PyProof.Rows.boot_all (@aa _ _ _ _ _ (gt (own:=["thing"]) (cs:=["way"]) (cap:=[2]) rfl (jk (pv 3)) (bQ (sc:=defScope bT) (N:=["blade","side","way","row"]) rfl rfl (by decide +kernel)) (λ _ _ _ _ _=>ai (i:=0) (by show List.Nodup (["thing","way"]:List Str) ; decide +kernel) rfl (Or.inl rfl) (Or.inr rfl)) (λ _ _ _ _ _=>cw) (λ _ _ _ _ _=>(@aj _ _ _ _ _ _ _ _ _ _ DSz hr rfl (@aa _ _ _ _ _ (pv 1) (@aa _ _ _ _ _ (pv 0) ab rfl) rfl) (by decide) rfl rfl))) ab rfl) (by decide) (by decide) rfl rfl) (by intro _; rfl))))))) (@ag _ _ _ (@av _ _ _ _ cM)) aA) (@ag _ _ _ (@av _ _ _ _ (@bq _ _ _ _ _ _ _ _ bn (@ay _ _ _ _ _ _ _ _ aQ (@aF _ _ _ _ _ _ _ _ _ (iF rfl) rfl B.sum PyProof.Rows.boot_sum (@aa _ _ _ _ _ (gt (own:=["thing"]) (cs:=[]) (cap:=[]) rfl (jk (pv 3)) (bQ (sc:=defScope bT) (N:=["blade","side","way","row"]) rfl rfl (by decide +kernel)) (λ _ _ _ _ _=>ai (i:=0) (by show List.Nodup (["thing"]:List Str) ; decide +kernel) rfl (Or.inl rfl) (Or.inr rfl)) (λ _ _ _ _ _=>cw) (λ _ _ _ _ _=>(ao (r:=rIx K) aY (pv 0) ad (λ _ _=>rfl)))) ab rfl) (by decide) (by decide) rfl rfl) (@ay _ _ _ _ _ _ _ _ dB (pv 0) (@ay _ _ _ _ _ _ _ _ aU (@aF _ _ _ _ _ _ _ _ _ aW rfl B.len PySem.boot_len (@aa _ _ _ _ _ (pv 3) ab rfl) (by decide) (by decide) rfl rfl) ad))) (pv 1) (aD _))))),?_⟩
 have sz:(1000:Nat) < sizeLine:=by decide
 obtain ⟨es,er,le⟩:=ld.row_of rfl
 obtain ⟨el,eg⟩:=ig le
 obtain ⟨a,xs,T0,rfl,hx,dx,t0,rT⟩:=hd.rowT (K:=K) er
 have xl:=dx.length
 refine ap (λ R=>∀ (H':Hp),Same H H'->R [some (.int b),some (.int s),some (.str (wyL dn)),some (.ref a)] H') (λ Dd hR=>?_) ?_
 ·refine ⟨_,Y,.ref a,T0,Y,t0,λ H1 s1=>⟨_,Y,?_⟩⟩
  rw [rT]
  have hx1:=hx.imp (s1 _ _) (s1 _ _)
  have sq:SqL K H1 a xs\/SqT K H1 a xs:=hx1.imp (λ z=>SqL.of z) λ z=>SqT.of z
  refine aO ⟨_,rfl,a,_,rfl,sq,_,_,rfl,rfl,_,rfl,?_⟩
  refine fm (decide_eq_false (by omega)) ⟨_,rfl,a,rfl,fQ (K:=K) hx1 (λ i us Hx=>Same H1 Hx/\us=(List.replicate i true).map V.bl) (λ i us Hx _ e o h=>e.1 _ _ h) ⟨Same.refl _,rfl⟩ ?_ ?_⟩
  ·rintro i x us Hx hi ⟨sx,rfl⟩
   have hin:i < xs.length:=(List.getElem?_eq_some_iff.mp hi).1
   obtain ⟨e,he,hxe⟩:=dx.get hi
   obtain ⟨z,hz,lz⟩:=eg i e he
   obtain ⟨z1,z2⟩:=al z (List.mem_of_getElem? hz)
   refine ⟨by rw [List.length_map,List.length_replicate]; omega,leS.set rfl,cz ⟨_,Y,_,Y,pp,x,e,z.1,z.2,dn,Y,hxe.same (s1.trans sx),lz,z1,z2,λ H3 s3=>Nx.of hin ⟨sx.trans s3,?_⟩⟩⟩
   rw [List.replicate_succ',List.map_append]; rfl
  ·rintro us Hx ⟨sx,rfl⟩
   refine ⟨by rw [List.length_map,List.length_replicate]; omega,λ l' hl'=>⟨l',_,Y,SqL.of af,_,Y,?_⟩⟩
   have:(List.replicate xs.length true).all id=true:=by rw [List.all_eq_true]; intro y hy; rw [List.eq_of_mem_replicate hy]; rfl
   rw [this]
   exact aO (hR _ (s1.trans (sx.trans (Same.new hl'))))
 rintro H1 s1
 have hx1:=hx.imp (s1 _ _) (s1 _ _)
 refine ⟨_,Y,a,Y,fQ (K:=K) hx1 (λ i us Hx=>Same H1 Hx/\us=((l.take i).map (·.1)).map V.int) (λ i us Hx _ e o h=>e.1 _ _ h) ⟨Same.refl _,Y⟩ ?_ ?_⟩
 ·rintro i x us Hx hi ⟨sx,rfl⟩
  have hin:i < xs.length:=(List.getElem?_eq_some_iff.mp hi).1
  obtain ⟨e,he,hxe⟩:=dx.get hi
  obtain ⟨z,hz,lz⟩:=eg i e he
  obtain ⟨e2,er2,_⟩:=lI lz
  obtain ⟨a2,xs2,rfl,hx2,dx2⟩:=hxe.ref_row er2
  cases dx2 with
  | cons g0 dx2 =>
  cases g0
  refine ⟨by rw [List.length_map,List.length_map,List.length_take]; omega,leS.set rfl,cz ⟨_,Y,ixR (s1.trans sx) hx2 (aE (Int.le_refl _) rfl) (Nx.of hin ⟨sx,?_⟩)⟩⟩
  rw [List.take_add_one,hz]
  simp only [Option.toList_some,List.map_append,List.map_cons,List.map_nil]
 ·rintro us Hx ⟨sx,rfl⟩
  have hx3:=hx1.imp (sx _ _) (sx _ _)
  rw [show l.take xs.length=l by rw [show xs.length=l.length by omega,List.take_length]]
  refine ⟨by rw [List.length_map,List.length_map]; omega,λ l' hl'=>⟨l',_,Y,SqL.of af,?_⟩⟩
  have s4:=Same.new hl' (o:=.lst ((l.map (·.1)).map V.int))
  have sq:SqL K _ a xs\/SqT K _ a xs:=(hx3.imp (s4 _ _) (s4 _ _)).imp (λ z=>SqL.of z) λ z=>SqT.of z
  refine ⟨_,Y,_,Y,a,_,Y,sq,_,_,Y,Y,_,_,Y,Y,.inr ⟨by omega,by omega⟩,_,_,Y,Y,_,Y,Y,?_⟩
  have e9:(l.map (·.1)).sum + b * ((xs.length:Int) - 1)=s:=by
   rw [show (xs.length:Int)=(l.length:Int) by omega]; exact hs
  rw [e9,decide_eq_true (rfl:V.int s=V.int s)]
  exact q _ (s1.trans (sx.trans s4))
end
theorem vO {a b c:St} (h1:leS a b) (h2:leS b c):leS a c:=⟨h2.1.trans h1.1,λ i v e=>h2.2 i v (h1.2 i v e)⟩
def lfT:Tl->Option Tr
 | .rest=>some .rest
 | .piece i c x y=>some (.piece i c x y)
 | .row .. => none
theorem rD {b:Int} {ks:List Kd} {w h:Int} {t:Tl} {T:Tr} {d:PyData} (e:lfT t=some T) (ld:Lsd (tlD t) d) (ok:okL b ks t w h):isL ks w h d=true/\TrD T d/\tlD t=toD T/\wyO t=.non:=by
 cases t with
 | rest =>
  cases e
  have td:TrD .rest d:=Lsd.tree .rest ld
  have g:=TrD.good (b:=b) (ks:=ks) .rest d w h td trivial
  have er:aH d=some (.str "rest" :: []):=td
  have hc:isC b w h d=false:=by unfold isC; rw [cB er,cB er]; rfl
  rw [dL hc] at g
  exact ⟨g,td,Y,Y⟩
 | piece i c x y =>
  cases e
  rw [okL] at ok
  have td:TrD (.piece i c x y) d:=Lsd.tree (.piece i c x y) ld
  have g:=TrD.good (b:=b) (ks:=ks) (.piece i c x y) d w h td (gf _ ok)
  have er:aH d=some (.str "piece" :: [.int i,.bool c,.int x,.int y]):=td
  have hc:isC b w h d=false:=by unfold isC; rw [cB er,cB er]; rfl
  rw [dL hc] at g
  exact ⟨g,td,Y,Y⟩
 | row=>cases e
theorem rE {H:Hp} {pp:Addr} {H0:Hp} {xs:List V} {ds:List PyData} {t:Tl} {T:Tr} {d:PyData} {a:Addr} (e:lfT t=some T) (td:TrD T d) (er:aH d=some ds) (dx:Dts pp H0 xs ds) (h:H a=some (.tup xs)):TlV H t (.ref a):=by
 cases t with
 | rest =>
  cases e
  have td:aH d=some [.str "rest"]:=td
  rw [td] at er
  cases er
  cases dx with
  | cons g0 dx =>
  cases dx
  cases g0
  rw [TlV]
  exact ⟨a,Y,h⟩
 | piece i c x y =>
  cases e
  have td:aH d=some [.str "piece",.int i,.bool c,.int x,.int y]:=td
  rw [td] at er
  cases er
  cases dx with
  | cons g0 dx =>
  cases dx with
  | cons g1 dx =>
  cases dx with
  | cons g2 dx =>
  cases dx with
  | cons g3 dx =>
  cases dx with
  | cons g4 dx =>
  cases dx
  cases g0
  cases g1
  cases g2
  cases g3
  cases g4
  rw [TlV]
  exact ⟨a,Y,h⟩
 | row=>cases e
theorem ii {n:Int} {t:Tl} {dn:Bool} {r:Tls} {z:Int×Tl} (h:z∈toL r):(tlD z.2).depth + 3<=(tlD (.row dn r)).depth:=by
 have:∀r:Tls,z∈toL r->(tlD z.2).depth + 1<=PyData.depthAll (bj r):=λ r=>by
  induction r using Tls.rec (motive_1:=λ _=>True) with
  | rest=>trivial
  | piece=>trivial
  | row=>trivial
  | nil=>intro h; rw [toL] at h; cases h
  | cons n t r _ ih =>
   intro h
   rw [toL] at h
   show _<=max (max 0 (max (tlD t).depth 0) + 1) (PyData.depthAll (bj r))
   rcases List.mem_cons.mp h with e | h
   ·rw [e]; show (tlD t).depth + 1<=_; omega
   ·have:=ih h; omega
 have:=this r h
 show _<=max 0 (max (PyData.depthAll (bj r) + 1) 0) + 1
 omega
theorem mN {n:Nat}:∀ {l:List Nat},n∈l->n<=l.sum
 | x :: l,h=>by
  rw [List.sum_cons]
  rcases List.mem_cons.mp h with h | h
  ·omega
  ·have:=mN h; omega
theorem rF {r:Tls} {z:Int×Tl} (h:z∈toL r):lcT z.2<=lcS r:=by
 rw [lH]
 unfold lcL
 exact mN (List.mem_map.mpr ⟨z,h,Y⟩)
theorem lJ {b:Int} {ks:List Kd} {dn:Bool} {w h:Int}:∀ {r:Tls},gm b ks dn r w h->(∀z∈toL r,1<=lcT z.2)->(toL r).length<=lcS r
 | .nil,_,_=>by rw [toL]; exact Nat.zero_le _
 | .cons n t r,ho,hz=>by
  rw [gm] at ho
  have:=lJ ho.2.2.2 λ z hm=>hz z (by rw [toL]; exact List.mem_cons_of_mem _ hm)
  have:=hz (n,t) (by rw [toL]; exact List.mem_cons_self)
  rw [toL,lcS,List.length_cons]
  show _<=lcT t + lcS r
  have:1<=lcT t:=this
  omega
theorem rG {b:Int} {ks:List Kd} (b0:0<=b) {t:Tl} {w h:Int} (ok:okL b ks t w h):1<=lcT t:=by
 rw [<- uT b0 ok]
 exact (cL b (bD t) w h).2.2
theorem jw {K:PySem.W.Frag} {H:Hp}:∀ {vs:List V} {zs:List (Int×Tl)},Paired (ItV H) vs zs->DatVs K H vs (bj (ofL zs))
 | _,_,.nil=>by rw [ofL,bj]; exact .nil
 | _,_,.cons ⟨a,u,e,h1,h2⟩ r=>by
  rw [ofL,bj]
  subst e
  exact .cons (.tup (SqT.of h1) (.cons (.int _) (.cons (TlV.dat _ h2) .nil))) (jw r)
def TmV (H:Hp) (v:V) (z:Int×Tl):Prop:=∃a u,v=.ref a/\H a=some (.tup [.int z.1,u])/\TrV H (bD z.2) u
theorem TmV.keep {H H':Hp} (k:∀a xs,H a=some (.tup xs)->H' a=some (.tup xs)) {v:V} {z:Int×Tl} (h:TmV H v z):TmV H' v z:=by
 obtain ⟨a,u,e,h1,h2⟩:=h
 exact ⟨a,u,e,k _ _ h1,TrV.keep k _ h2⟩
theorem mO {H:Hp}:∀ {r:Tls} {vs:List V},TlsV H r vs->Paired (ItV H) vs (toL r)
 | .nil,vs,h=>by rw [TlsV] at h; subst h; rw [toL]; exact .nil
 | .cons n t r,vs,h=>by
  rw [TlsV] at h
  obtain ⟨a,u,ys,e,h1,h2,h3⟩:=h
  subst e
  rw [toL]
  exact .cons ⟨a,u,Y,h1,h2⟩ (mO h3)
section
variable {P:Program} {w:World} {K:PySem.W.Frag} {mg:Str->Option Value} {base:Heap}
inductive spAsT (C:Addr) (n:Nat) (vs:List V) (H:Hp) (Q:VK) (E_:XK):Prop
 | mk (pp s c:Addr) (b w h:Int) (ks:List Kd) (v:V) (d:PyData) (t:Tl) (e_1:vs=[.ref s,.ref c,v]) (e_2:ShopAt C H s b ks) (e_3:H c=some (.tup [.int w,.int h])) (e_4:Dt pp H v d) (e_5:Lsd (tlD t) d) (e_6:okL b ks t w h) (e_7:0<=b) (e_8:lcT t<=63) (e_9:(tlD t).depth < n) (e_10:(tlD t).depth<=200) (e_11:∀ (u:V) (H':Hp),TlV H' t u->Same H H'->Q u H'):spAsT C n vs H Q E_
inductive spTbt (n:Nat) (vs:List V) (H:Hp) (Q:VK) (E_:XK):Prop
 | mk (b w h:Int) (ks:List Kd) (v:V) (t:Tl) (e_1:vs=[v]) (e_2:TlV H t v) (e_3:okL b ks t w h) (e_4:0<=b) (e_5:lcT t<=63) (e_6:(tlD t).depth < n) (e_7:∀ (u:V) (H':Hp),TrV H' (bD t) u->Same H H'->Q u H'):spTbt n vs H Q E_
inductive spTreeTo (C:Addr) (vs:List V) (H:Hp) (Q:VK) (E_:XK):Prop
 | mk (pp s:Addr) (b w h:Int) (ks:List Kd) (v:V) (d:PyData) (t:Tl) (e_1:vs=[.ref s,.int w,.int h,v]) (e_2:ShopAt C H s b ks) (e_3:1<=w) (e_4:1<=h) (e_5:Dt pp H v d) (e_6:Lsd (tlD t) d) (e_7:okL b ks t w h) (e_8:0<=b) (e_9:lcT t<=63) (e_10:(tlD t).depth<=150) (e_11:∀ (u:V) (H':Hp),TrV H' (bD t) u->Same H H'->Q u H'):spTreeTo C vs H Q E_
theorem scast:FnScope ["shop","part","thing","way","row"] ["shop","part","thing"] (defScope bE):=⟨Y,Y,Y,by decide +kernel,Y,by decide +kernel,by decide +kernel⟩
set_option maxHeartbeats 1000000 in
theorem vP {f C:Addr} {fd:FuncData} (F:Fun K "as_telling" "as_telling" bE f fd) (B:Blt mg) (T:ShopTxt K C) (n:Nat) (MB:Mn P w K mg base C "blade" ["self"] 1 (cX C)) (DF:Dn P w K mg base "is_leaf" ["shop","spot"] 5 (spLeaf C)) (DWo:Dn P w K mg base "way_of" ["thing"] 3 (spWayOf)) (DSA:Dn P w K mg base "side_along" ["part","way"] 1 (spSideA)) (DPA:Dn P w K mg base "part_along" ["part","way","size"] 1 (spPartA)) (DDv:Dn P w K mg base "is_divided" ["blade","side","way","row"] 5 (spDivd)) (DT:Dn P w K mg base "as_telling" ["shop","part","thing"] (6 + n) (spAsT C n)):FnOk P w K mg base CX0 (6 + (n + 1)) f fd ["shop","part","thing"] (spAsT C (n + 1)):=by
 refine F.ok scast (λ vs H Q E h=>?_) (λ cdv A outer s H vs Q E hr h=>?_)
 ·obtain ⟨pp,s,c,b,w1,h1,ks,v,d,t,rfl,_⟩:=h
  rfl
 obtain ⟨pp,s,c,b,w1,h1,ks,v,d,t,rfl,SH,hc,hd,ld,okt,b0,l63,dn0,d200,q⟩:=h
 have nd:=scast.nd
 have hu:=Room.units220 hr (show 2<=6 + n by omega)
 refine ⟨_,(@ae _ _ _ _ _ (@az _ _ 3 _ _ _ _ nd rfl (Or.inr rfl) (@aj _ _ _ _ _ _ _ _ _ _ DWo (hr.mono (show 3<=6 + n by omega)) rfl (@aa _ _ _ _ _ (pv 2) ab rfl) (by decide) rfl rfl) rfl (Or.inl rfl)) (@ae _ _ _ _ _ (@aI _ _ _ _ _ _ _ _ (@aB _ _ _ _ _ _ _ _ vk (pv 3) iT (aD _)) (@ae _ _ _ _ _ (@aI _ _ _ _ _ _ _ _ (@bf _ _ _ _ (@aS _ _ _ (@aj _ _ _ _ _ _ _ _ _ _ DF (hr.mono (show 5<=6 + n by omega)) rfl (@aa _ _ _ _ _ (pv 0) (@aa _ _ _ _ _ (@ax _ _ _ _ _ (@aa _ _ _ _ _ ad (@aa _ _ _ _ _ ad (@aa _ _ _ _ _ (@ao _ _ _ _ _ _ _ ix_tup (pv 1) ad (λ _ _=>rfl)) (@aa _ _ _ _ _ (@ao _ _ _ _ _ _ _ ix_tup (pv 1) ad (λ _ _=>rfl)) (@aa _ _ _ _ _ (pv 2) ab rfl) rfl) rfl) rfl) rfl)) ab rfl) rfl) (by decide) rfl rfl) (by intro _; rfl))) (@ag _ _ _ cN) aA) (@ag _ _ _ (@av _ _ _ _ (@bc _ _ _ _ _ _ _ _ _ br rfl B.tuple PyProof.Rows.boot_tuple (@aa _ _ _ _ _ (pv 2) ab rfl) (by decide) (by decide) rfl rfl)))) aA) (@ae _ _ _ _ _ (@aI _ _ _ _ _ _ _ _ (@bf _ _ _ _ (@aS _ _ _ (@aj _ _ _ _ _ _ _ _ _ _ DDv (hr.mono (show 5<=6 + n by omega)) rfl (@aa _ _ _ _ _ (fL (pv 0) T.cl MB (hr.mono (show 1<=6 + n by omega))) (@aa _ _ _ _ _ (@aj _ _ _ _ _ _ _ _ _ _ DSA (hr.mono (show 1<=6 + n by omega)) rfl (@aa _ _ _ _ _ (pv 1) (@aa _ _ _ _ _ (pv 3) ab rfl) rfl) (by decide) rfl rfl) (@aa _ _ _ _ _ (pv 3) (@aa _ _ _ _ _ (@ao _ _ _ _ _ _ _ aY (pv 2) ad (λ _ _=>rfl)) ab rfl) rfl) rfl) rfl) (by decide) rfl rfl) (by intro _; rfl))) (@ag _ _ _ cN) aA) (@ae _ _ _ _ _ (je (i:=4) (own:=["size","inner"]) (cs:=["shop","part","way"]) (cap:=[0,1,3]) rfl nd rfl rfl rfl (jk (@ao _ _ _ _ _ _ _ aY (pv 2) ad (λ _ _=>rfl))) (bQ (sc:=defScope bE) (N:=["shop","part","thing","way","row"]) rfl rfl (by decide +kernel)) (λ _ _ _ _ _=>tJ K rfl rfl (by show List.Nodup (["size","inner","shop","part","way"]:List Str) ; decide +kernel) rfl rfl rfl rfl) (λ _ _ _ _ _=>cw) (λ _ _ _ _ _=>(@ax _ _ _ _ _ (@aa _ _ _ _ _ (pv 0) (@aa _ _ _ _ _ (@aj _ _ _ _ _ _ _ _ _ _ DT hr rfl (@aa _ _ _ _ _ (pv 2) (@aa _ _ _ _ _ (@aj _ _ _ _ _ _ _ _ _ _ DPA (hr.mono (show 1<=6 + n by omega)) rfl (@aa _ _ _ _ _ (pv 3) (@aa _ _ _ _ _ (pv 4) (@aa _ _ _ _ _ (pv 0) ab rfl) rfl) rfl) (by decide) rfl rfl) (@aa _ _ _ _ _ (pv 1) ab rfl) rfl) rfl) (by decide) rfl rfl) ab rfl) rfl)))) (@ae _ _ _ _ _ (@aI _ _ _ _ _ _ _ _ (@aB _ _ _ _ _ _ _ _ (lp hu) (pv 4) (@aF _ _ _ _ _ _ _ _ _ (fg hu) rfl B.sorted PyProof.Rows.boot_sorted (@aa _ _ _ _ _ (pv 4) ab rfl) (by decide) (by decide) rfl rfl) (aD _)) (@ag _ _ _ cN) aA) (@ag _ _ _ (@av _ _ _ _ (@ax _ _ _ _ _ (@aa _ _ _ _ _ (pv 3) (@aa _ _ _ _ _ (@bc _ _ _ _ _ _ _ _ _ br rfl B.tuple PyProof.Rows.boot_tuple (@aa _ _ _ _ _ (pv 4) ab rfl) (by decide) (by decide) rfl rfl) ab rfl) rfl))))))))),?_⟩
 have sz:(1000:Nat) < sizeLine:=by decide
 refine ap (λ R=>∀ (H':Hp),Same H H'->R [some (.ref s),some (.ref c),some v,some (wyO t),none] H') (λ Dd hR=>?_) ?_
 ·exact ⟨_,Y,pp,v,d,t,Y,hd,ld,λ H1 s1=>hR _ s1⟩
 rintro H1 s1
 refine cI (λ R=>∀dn r (H':Hp),t=.row dn r->Same H H'->R [some (.ref s),some (.ref c),some v,some (.str (wyL dn)),none] H') (λ R hR=>?_) ?_
 ·cases e:lfT t with
  | some T =>
   obtain ⟨g1,g2,g3,g4⟩:=rD e ld okt
   rw [g4]
   refine ⟨_,Y,Y,_,Y,iK rfl ?_⟩
   refine ⟨_,Y,_,Y,c,_,0,_,Y,Y,SqT.of (s1 _ _ hc),Y,_,Y,c,_,1,_,Y,Y,SqT.of (s1 _ _ hc),Y,_,Y,zS5,λ sp hsp=>?_⟩
   obtain ⟨H2,e2,k2,s2⟩:∃H',upd H1 sp (.tup [.int 0,.int 0,.int w1,.int h1,v])=H'/\H' sp=some (.tup [.int 0,.int 0,.int w1,.int h1,v])/\Same H1 H':=⟨_,Y,af,Same.new hsp⟩
   rw [show upd H1 sp _=H2 from e2]
   have s02:=s1.trans s2
   refine ⟨pp,b,0,0,w1,h1,s,sp,ks,v,d,Y,dq s02 SH,k2,hd.same s02,λ H3 s3=>⟨_,Y,?_⟩⟩
   rw [g1]
   have s03:=s02.trans s3
   obtain ⟨ys,er⟩:=TrD.head g2
   obtain ⟨a,xs,T0,rfl,hx,dx,_,_⟩:=hd.rowT (K:=K) er
   refine aO ?_
   rcases hx with hx | hx
   ·exact ⟨_,Y,a,_,Y,.inl ⟨SqL.of (s03 _ _ hx),λ l hl=>q _ _ (rE e g2 er dx af) (s03.trans (Same.new hl))⟩⟩
   ·exact ⟨_,Y,a,_,Y,.inr ⟨SqT.of (s03 _ _ hx),q _ _ (rE e g2 er dx (s03 _ _ hx)) s03⟩⟩
  | none =>
   cases t with
   | row dn r=>exact ⟨_,Y,Y,_,Y,fm rfl (hR dn r _ rfl s1)⟩
   | rest=>cases e
   | piece=>cases e
 clear s1
 clear H1
 rintro dn r H1 rfl s1
 obtain ⟨e2,er,l2⟩:=rz ld
 obtain ⟨a,xs,T0,rfl,hx,dx,_,_⟩:=hd.rowT (K:=K) er
 cases dx with
 | @cons x0 _ xs0 _ g0 dx =>
 cases dx with
 | @cons x1 _ xs1 _ g1 dx =>
 cases dx
 cases g0
 rw [okL] at okt
 obtain ⟨o1,o2,o3,o4⟩:=okt
 rw [lcT] at l63
 have items:=gJ o4
 have ll:=lJ o4 λ z hz=>rG b0 (items z hz).2.2
 rw [<- ej r] at l2
 have hr0:ofL (toL r)=r:=ej r
 refine ap (λ R=>∀ (H':Hp),Same H H'->R [some (.ref s),some (.ref c),some (.ref a),some (.str (wyL dn)),none] H') (λ Dd hR=>?_) ?_
 ·have SH1:=dq s1 SH
  obtain ⟨dx',r',rs',S1',S2',S3'⟩:=id SH1
  refine ⟨_,Y,s,dx',_,Y,S1',(bV _ _ (by decide +kernel) (by decide +kernel)),s,b,ks,Y,SH1,_,Y,_,Y,c,w1,h1,dn,Y,s1 _ _ hc,_,Y,_,Y,ixR s1 hx (aE (by decide) rfl) ⟨pp,x1,e2,b,_,toL r,dn,Y,g1.same s1,l2,o1,by omega,λ z hz=>⟨(items z hz).1,(items z hz).2.1⟩,o2,λ H2 s2=>⟨_,Y,aO (hR _ (s1.trans s2))⟩⟩⟩
 clear s1
 clear H1
 rintro H1 s1
 obtain ⟨es,er2,le⟩:=l2.row_of rfl
 obtain ⟨el,eg⟩:=ig le
 obtain ⟨a2,xs2,T2,rfl,hx2,dx2,_,_⟩:=g1.rowT (K:=K) er2
 have xl:=dx2.length
 refine ap (λ R=>∀ (rl:Addr) (us:List V) (H':Hp),H' rl=some (.lst us)->Paired (ItV H') us (toL r)->Same H H'->R [some (.ref s),some (.ref c),some (.ref a),some (.str (wyL dn)),some (.ref rl)] H') (λ Dd hR=>?_) ?_
 ·have hx3:=hx2.imp (s1 _ _) (s1 _ _)
  refine ⟨_,Y,ixR s1 hx (aE (by decide) rfl) ⟨a2,Y,fQ (K:=K) hx3 (λ i us Hx=>Same H1 Hx/\Paired (ItV Hx) us ((toL r).take i)) (λ i us Hx _ e o h=>e.1 _ _ h) ⟨Same.refl _,.nil⟩ ?_ ?_⟩⟩
  ·rintro i x us Hx hi ⟨sx,pu⟩
   have hin:i < xs2.length:=(List.getElem?_eq_some_iff.mp hi).1
   obtain ⟨e,he,hxe⟩:=dx2.get hi
   obtain ⟨z,hz,lz⟩:=eg i e he
   obtain ⟨e3,er3,l3⟩:=lI lz
   obtain ⟨a3,xs3,rfl,hx3',dx3⟩:=hxe.ref_row er3
   cases dx3 with
   | @cons y0 _ ys0 _ g0 dx3 =>
   cases dx3 with
   | @cons y1 _ ys1 _ g3 dx3 =>
   cases dx3
   cases g0
   have ul:=Paired.length pu
   rw [List.length_take] at ul
   have s0x:=s1.trans sx
   have hm:=List.mem_of_getElem? hz
   obtain ⟨m1,m2,m3⟩:=items z hm
   have sq:=(hx3'.imp (s0x _ _) (s0x _ _)).imp (λ z=>SqL.of (K:=K) z) λ z=>SqT.of (K:=K) z
   have dpt:=ii (n:=0) (t:=.rest) (dn:=dn) hm
   have lcm:=rF hm
   refine ⟨by omega,a3,_,Y,sq,Y,_,_,Y,_,_,Y,Y,vO (leS.set rfl) (leS.set rfl),cz ?_⟩
   refine ⟨_,Y,_,Y,_,Y,_,Y,_,Y,c,w1,h1,z.1,dn,Y,s0x _ _ hc,λ c' H3 hc' s3=>?_⟩
   refine ⟨_,Y,pp,s,c',b,_,_,ks,y1,e3,z.2,Y,dq (s0x.trans s3) SH,hc',g3.same (s0x.trans s3),l3,m3,b0,by omega,by omega,by omega,λ u H4 tv s4=>⟨zS2,λ it hit=>?_⟩⟩
   obtain ⟨H5,e5,k5,s5⟩:∃H',upd H4 it (.tup [.int z.1,u])=H'/\H' it=some (.tup [.int z.1,u])/\Same H4 H':=⟨_,Y,af,Same.new hit⟩
   rw [show upd H4 it _=H5 from e5]
   have sx5:=s3.trans (s4.trans s5)
   refine Nx.of hin ⟨sx.trans sx5,?_⟩
   rw [List.take_add_one,hz]
   exact eC (Paired.mapP pu λ v t h=>h.keep λ a xs e=>sx5 _ _ e) (.cons ⟨it,u,Y,k5,TlV.keep (λ a xs e=>s5 _ _ e) _ tv⟩ .nil)
  ·rintro us Hx ⟨sx,pu⟩
   rw [show (toL r).take xs2.length=toL r by rw [show xs2.length=(toL r).length by omega,List.take_length]] at pu
   have ul:=Paired.length pu
   refine ⟨by omega,λ rl hrl=>?_⟩
   obtain ⟨H5,e5,k5,s5⟩:∃H',upd Hx rl (.lst us)=H'/\H' rl=some (.lst us)/\Same Hx H':=⟨_,Y,af,Same.new hrl⟩
   rw [show upd Hx rl _=H5 from e5]
   exact hR rl us _ k5 (Paired.mapP pu (λ v t h=>h.keep λ a xs e=>s5 _ _ e)) (s1.trans (sx.trans s5))
 clear s1
 clear H1
 rintro rl us H1 hrl pu s1
 have ul:=Paired.length pu
 have rd:(PyData.list (bj r)).canLay0=true/\(PyData.list (bj r)).depth<=210:=by
  refine ⟨by simp only [PyData.canLay0]; exact ff r,?_⟩
  have:max 0 (max (PyData.depthAll (bj r) + 1) 0) + 1<=200:=d200
  show PyData.depthAll (bj r) + 1<=210
  omega
 refine ap (λ R=>∀ (H':Hp),Same H1 H'->R [some (.ref s),some (.ref c),some (.ref a),some (.str (wyL dn)),some (.ref rl)] H') (λ Dd hR=>?_) ?_
 ·obtain ⟨ps,rfl,eps,ips⟩:=lD pu
  have pl:ps.length=(toL r).length:=by rw [eps,List.length_map]
  refine ⟨_,Y,_,Y,rl,ps,Y,SqL.of hrl,by omega,λ z hz=>⟨(ips z hz).dat,?_⟩,λ l ps' hl pm pw=>?_⟩
  ·have:=ii (n:=0) (t:=.rest) (dn:=dn) (show z.2∈toL r by rw [eps]; exact List.mem_map.mpr ⟨z,hz,Y⟩)
   omega
  obtain ⟨H2,e2,k2,s2⟩:∃H',upd H1 l (.lst (ps'.map λ z=>V.ref z.1))=H'/\H' l=some (.lst (ps'.map λ z=>V.ref z.1))/\Same H1 H':=⟨_,Y,af,Same.new hl⟩
  rw [show upd H1 l _=H2 from e2]
  have e9:ps'.map (·.2)=toL r:=by
   rw [ia (pm.map _) pw,<- eps,<- ia (.refl _) o3]
  have p1:Paired (ItV H2) (ps.map λ z=>V.ref z.1) (toL r):=Paired.mapP pu λ v t h=>h.keep λ a xs e=>s2 _ _ e
  have p2:Paired (ItV H2) (ps'.map λ z=>V.ref z.1) (toL r):=by
   rw [<- e9]
   exact lE λ z hz=>(ips z (pm.mem_iff.mp hz)).keep λ a xs e=>s2 _ _ e
  have d1:=jw (K:=K) p1
  have d2:=jw (K:=K) p2
  rw [hr0] at d1 d2
  refine ⟨.list (bj r),.list (bj r),.lst (SqL.of (s2 _ _ hrl)) d1,.lst (SqL.of k2) d2,rd.1,rd.1,rd.2,_,Y,?_⟩
  rw [SeqAt.eqv_refl _ rd.1]
  exact fm rfl (hR _ s2)
 rintro H2 s2
 refine ⟨_,Y,_,Y,rl,_,Y,.inl ⟨SqL.of (s2 _ _ hrl),λ tq htq=>?_⟩⟩
 obtain ⟨H3,e3,k3,s3⟩:∃H',upd H2 tq (.tup us)=H'/\H' tq=some (.tup us)/\Same H2 H':=⟨_,Y,af,Same.new htq⟩
 rw [show upd H2 tq _=H3 from e3]
 refine ⟨zS2,λ fr hfr=>?_⟩
 obtain ⟨H4,e4,k4,s4⟩:∃H',upd H3 fr (.tup [.str (wyL dn),.ref tq])=H'/\H' fr=some (.tup [.str (wyL dn),.ref tq])/\Same H3 H':=⟨_,Y,af,Same.new hfr⟩
 rw [show upd H3 fr _=H4 from e4]
 have s14:=s2.trans (s3.trans s4)
 refine q _ H4 ?_ (s1.trans s14)
 rw [TlV]
 refine ⟨fr,tq,_,Y,k4,s4 _ _ k3,?_⟩
 rw [<- hr0]
 exact ju (Paired.mapP pu λ v t h=>h.keep λ a xs e=>s14 _ _ e)
theorem ui {f C:Addr} {fd:FuncData} (F:Fun K "as_telling" "as_telling" bE f fd):FnOk P w K mg base CX0 6 f fd ["shop","part","thing"] (spAsT C 0):=by
 refine F.ok scast (λ vs H Q E h=>?_) (λ cdv A outer s H vs Q E hr h=>?_)
 ·obtain ⟨pp,s,c,b,w1,h1,ks,v,d,t,rfl,_⟩:=h
  rfl
 ·obtain ⟨pp,s,c,b,w1,h1,ks,v,d,t,rfl,_,_,_,_,_,_,_,z,_⟩:=h
  exact absurd z (Nat.not_lt_zero _)
theorem mP {f C:Addr} {fd:FuncData} (F:Fun K "as_telling" "as_telling" bE f fd) (B:Blt mg) (T:ShopTxt K C) (MB:Mn P w K mg base C "blade" ["self"] 1 (cX C)) (DF:Dn P w K mg base "is_leaf" ["shop","spot"] 5 (spLeaf C)) (DWo:Dn P w K mg base "way_of" ["thing"] 3 (spWayOf)) (DSA:Dn P w K mg base "side_along" ["part","way"] 1 (spSideA)) (DPA:Dn P w K mg base "part_along" ["part","way","size"] 1 (spPartA)) (DDv:Dn P w K mg base "is_divided" ["blade","side","way","row"] 5 (spDivd)) (mk:∀n,FnOk P w K mg base CX0 (6 + n) f fd ["shop","part","thing"] (spAsT C n)->Dn P w K mg base "as_telling" ["shop","part","thing"] (6 + n) (spAsT C n)):∀n,FnOk P w K mg base CX0 (6 + n) f fd ["shop","part","thing"] (spAsT C n)
 | 0=>ui F
 | n + 1=>vP F B T n MB DF DWo DSA DPA DDv (mk n (mP F B T MB DF DWo DSA DPA DDv mk n))
theorem sctbt:FnScope ["telling","way","trees","tree","size","ahead"] ["telling"] (defScope be):=⟨Y,Y,Y,by decide +kernel,Y,by decide +kernel,by decide +kernel⟩
set_option maxHeartbeats 1000000 in
theorem vQ {f wa:Addr} {fd:FuncData} (F:Fun K "tree_by_telling" "tree_by_telling" be f fd) (B:Blt mg) (Z:TrC K mg wa) (rv:mg "reversed" = none) (n:Nat) (DT:Dn P w K mg base "tree_by_telling" ["telling"] (1 + n) (spTbt n)):FnOk P w K mg base CX0 (1 + (n + 1)) f fd ["telling"] (spTbt (n + 1)):=by
 refine F.ok sctbt (λ vs H Q E h=>?_) (λ cdv A outer s H vs Q E hr h=>?_)
 ·obtain ⟨b,w1,h1,ks,v,t,rfl,_⟩:=h
  rfl
 obtain ⟨b,w1,h1,ks,v,t,rfl,tv,okt,b0,l63,dn0,q⟩:=h
 have nd:=sctbt.nd
 refine ⟨_,(@ae _ _ _ _ _ (@az _ _ 1 _ _ _ _ nd rfl (Or.inl rfl) (@ao _ _ _ _ _ _ _ ix_tup (pv 0) ad (λ _ _=>rfl)) rfl (Or.inl rfl)) (@ae _ _ _ _ _ (@aI _ _ _ _ _ _ _ _ (@aB _ _ _ _ _ _ _ _ eX (pv 1) (aR (v:=.ref wa) rfl Z.wy rfl) rfl) (@ag _ _ _ (@av _ _ _ _ (pv 0))) aA) (@ae _ _ _ _ _ (je (i:=2) (own:=["size","inner"]) (cs:=[]) (cap:=[]) rfl nd rfl rfl rfl (gP (@ao _ _ _ _ _ _ _ ix_tup (pv 0) ad (λ _ _=>rfl))) (bQ (sc:=defScope be) (N:=["telling","way","trees","tree","size","ahead"]) rfl rfl (by decide +kernel)) (λ _ _ _ _ _=>qy K rfl rfl (by show List.Nodup (["size","inner"]:List Str) ; decide +kernel) rfl rfl rfl rfl) (λ _ _ _ _ _=>cw) (λ _ _ _ _ _=>(@ax _ _ _ _ _ (@aa _ _ _ _ _ (pv 0) (@aa _ _ _ _ _ (@aj _ _ _ _ _ _ _ _ _ _ DT hr rfl (@aa _ _ _ _ _ (pv 1) ab rfl) (by decide) rfl rfl) ab rfl) rfl)))) (@ae _ _ _ _ _ (@az _ _ 3 _ _ _ _ nd rfl (Or.inl rfl) (@ao _ _ _ _ _ _ _ ix_tup (@ao _ _ _ _ _ _ _ ix_list (pv 2) (@uF _ _ _ _ _ _ pY ad) (λ _ _=>rfl)) ad (λ _ _=>rfl)) rfl (Or.inl rfl)) (@ae _ _ _ _ _ (@bO _ _ _ _ _ _ _ _ PassesOwn.never rfl (vD rfl rv (@aa _ _ _ _ _ (@jJ _ _ _ _ _ _ _ _ _ _ sV (pv 2) lZ (ma (@uF _ _ _ _ _ _ pY ad))) ab rfl)) (aT rfl (ah (ai (i:=4) nd rfl (Or.inl rfl)) (ah (ai (i:=5) nd rfl (Or.inl rfl)) aG))) (@ag _ _ _ (@az _ _ 3 _ _ _ _ nd rfl (Or.inl rfl) (@ax _ _ _ _ _ (@aa _ _ _ _ _ (pv 1) (@aa _ _ _ _ _ (pv 4) (@aa _ _ _ _ _ (pv 5) (@aa _ _ _ _ _ (pv 3) ab rfl) rfl) rfl) rfl)) rfl (Or.inl rfl))) (by intro _; rfl)) (@ag _ _ _ (@av _ _ _ _ (pv 3)))))))),?_⟩
 have sz:(1000:Nat) < sizeLine:=by decide
 cases e:lfT t with
 | some T =>
  have hh:∃a xs y,v=.ref a/\H a=some (.tup (.str y :: xs))/\inV (V.str y) [V.str "down",V.str "across"]=false/\TrV H (bD t) v:=by
   cases t with
   | rest =>
    rw [TlV] at tv
    obtain ⟨a,ea,ha⟩:=tv
    rw [bD]
    exact ⟨a,_,_,ea,ha,by decide +kernel,a,ea,ha⟩
   | piece i cc x y =>
    rw [TlV] at tv
    obtain ⟨a,ea,ha⟩:=tv
    rw [bD]
    exact ⟨a,_,_,ea,ha,by decide +kernel,a,ea,ha⟩
   | row=>cases e
  obtain ⟨a,xs,y,rfl,ha,iv,tr⟩:=hh
  refine ⟨_,Y,a,_,0,_,Y,Y,SqT.of ha,aE (Int.le_refl _) rfl,_,Y,wa,_,Y,.inr (Z.wq _),Y,Y,_,Y,?_⟩
  show (if (!inV (V.str y) [V.str "down",V.str "across"])=true then _ else _)
  rw [iv]
  exact aP ⟨_,rfl,q _ _ tr (Same.refl _)⟩
 | none =>
 cases t with
 | rest=>cases e
 | piece=>cases e
 | row dn r =>
 rw [TlV] at tv
 obtain ⟨a,qa,xs,rfl,ha,hq,tvs⟩:=tv
 have its:=mO tvs
 have xl:=Paired.length its
 rw [okL] at okt
 obtain ⟨o1,o2,o3,o4⟩:=okt
 rw [lcT] at l63
 have items:=gJ o4
 have ll:=lJ o4 λ z hz=>rG b0 (items z hz).2.2
 refine ap (λ R=>R [some (.ref a),some (.str (wyL dn)),none,none,none,none] H) (λ Dd hR=>?_) ?_
 ·exact ⟨_,Y,a,_,0,_,Y,Y,SqT.of ha,Y,hR⟩
 skip
 refine ap (λ R=>R [some (.ref a),some (.str (wyL dn)),none,none,none,none] H) (λ Dd hR=>?_) ?_
 ·refine ⟨_,Y,wa,_,Y,.inr (Z.wq _),Y,Y,_,Y,?_⟩
  show (if (!inV (V.str (wyL dn)) [V.str "down",V.str "across"])=true then _ else _)
  rw [uS]
  exact aO (hR)
 skip
 refine ap (λ R=>∀ (tl:Addr) (us:List V) (H':Hp),H' tl=some (.lst us)->Paired (TmV H') us (toL r)->Same H H'->R [some (.ref a),some (.str (wyL dn)),some (.ref tl),none,none,none] H') (λ Dd hR=>?_) ?_
 ·refine ⟨_,Y,a,_,1,_,Y,Y,SqT.of ha,Y,qa,Y,⟨_,SqT.of hq⟩,(dF (K:=K) (.inr hq) (λ i us Hx=>Same H Hx/\Paired (TmV Hx) us ((toL r).take i)) (λ i us Hx _ e o h=>e.1 _ _ h) ⟨Same.refl _,.nil⟩ ?_ ?_).2 hq⟩
  ·rintro i x us Hx hi ⟨sx,pu⟩
   have hin:i < xs.length:=(List.getElem?_eq_some_iff.mp hi).1
   obtain ⟨z,hz,a3,u3,rfl,h3,tv3⟩:=Paired.getR its hi
   have ul:=Paired.length pu
   rw [List.length_take] at ul
   have hm:=List.mem_of_getElem? hz
   obtain ⟨m1,m2,m3⟩:=items z hm
   have dpt:=ii (n:=0) (t:=.rest) (dn:=dn) hm
   have lcm:=rF hm
   refine ⟨by omega,a3,_,Y,SqT.of (sx _ _ h3),Y,_,_,Y,_,_,Y,Y,vO (leS.set rfl) (leS.set rfl),cz ?_⟩
   refine ⟨_,Y,_,Y,b,_,_,ks,u3,z.2,Y,TlV.keep (λ a xs e=>sx _ _ e) _ tv3,m3,b0,by omega,by omega,λ u H4 tv s4=>⟨zS2,λ it hit=>?_⟩⟩
   obtain ⟨H5,e5,k5,s5⟩:∃H',upd H4 it (.tup [.int z.1,u])=H'/\H' it=some (.tup [.int z.1,u])/\Same H4 H':=⟨_,Y,af,Same.new hit⟩
   rw [show upd H4 it _=H5 from e5]
   have sx5:=s4.trans s5
   refine Nx.of hin ⟨sx.trans sx5,?_⟩
   rw [List.take_add_one,hz]
   exact eC (Paired.mapP pu λ v t h=>h.keep λ a xs e=>sx5 _ _ e) (.cons ⟨it,u,Y,k5,TrV.keep (λ a xs e=>s5 _ _ e) _ tv⟩ .nil)
  ·rintro us Hx ⟨sx,pu⟩
   rw [show (toL r).take xs.length=toL r by rw [xl,List.take_length]] at pu
   have ul:=Paired.length pu
   refine ⟨by omega,λ rl hrl=>?_⟩
   obtain ⟨H5,e5,k5,s5⟩:∃H',upd Hx rl (.lst us)=H'/\H' rl=some (.lst us)/\Same Hx H':=⟨_,Y,af,Same.new hrl⟩
   rw [show upd Hx rl _=H5 from e5]
   exact hR rl us _ k5 (Paired.mapP pu (λ v t h=>h.keep λ a xs e=>s5 _ _ e)) (sx.trans s5)
 rintro tl us H1 htl pu s1
 rcases List.eq_nil_or_concat us with rfl | ⟨us',u0,rfl⟩
 ·have:=Paired.length pu
  rw [<- this] at o1
  exact absurd o1 (by simp)
 rw [List.concat_eq_append] at pu htl
 obtain ⟨l',z0,el,pu',a0,t0,rfl,h0,tv0⟩:=iI pu
 have pl':=Paired.length pu'
 have erow:r=ofL (l' ++ [z0]):=by rw [<- el,ej]
 have l1:(toL r).length=l'.length + 1:=by rw [el,List.length_append]; rfl
 refine ap (λ R=>R [some (.ref a),some (.str (wyL dn)),some (.ref tl),some t0,none,none] H1) (λ Dd hR=>?_) ?_
 ·exact ⟨_,Y,1,Y,tl,_,_,_,Y,Y,SqL.of htl,qj _ _,a0,_,1,_,Y,Y,SqT.of h0,Y,hR⟩
 skip
 refine ap (λ R=>∀ (v3:V) (v4 v5:Option V) (H':Hp),TrV H' (trs dn r) v3->Same H H'->R [some (.ref a),some (.str (wyL dn)),some (.ref tl),some v3,v4,v5] H') (λ Dd hR=>?_) ?_
 ·refine ⟨_,Y,1,Y,_,Y,tl,_,Y,SqL.of htl,λ sl hsl=>?_⟩
  have ecut:io (us' ++ [V.ref a0]) none (some (-1))=us':=by
   unfold io
   rw [show HT.sIx (us' ++ [V.ref a0]).length 0 none=0 from rfl,List.drop_zero,Nat.sub_zero]
   rw [show HT.sIx (us' ++ [V.ref a0]).length (us' ++ [V.ref a0]).length (some (-1))=us'.length by rw [List.length_append]; unfold HT.sIx; simp; try omega]
   rw [List.take_left]
  rw [ecut]
  obtain ⟨H2,e2,k2,s2⟩:∃H',upd H1 sl (.lst us')=H'/\H' sl=some (.lst us')/\Same H1 H':=⟨_,Y,af,Same.new hsl⟩
  rw [show upd H1 sl _=H2 from e2]
  have k12:∀a xs,H1 a=some (.tup xs)->H2 a=some (.tup xs):=λ a xs e=>s2 _ _ e
  refine ⟨sl,_,Y,SqL.of k2,tK (xs:=us') (λ i σ' H'=>(∃ (v3:V) (v4 v5:Option V),σ'=[some (.ref a),some (.str (wyL dn)),some (.ref tl),some v3,v4,v5]/\TrV H' (trs dn (ofL ((toL r).drop (l'.length - i)))) v3)/\Same H2 H') ⟨⟨_,_,_,Y,?_⟩,Same.refl _⟩ (λ i σ H' _ h=>SqL.of (h.2 _ _ k2)) ?_ ?_⟩
  ·rw [el,Nat.sub_zero,List.drop_left,ofL,ofL,mL]
   exact TrV.keep k12 _ tv0
  ·rintro i x σ H3 hi hx ⟨⟨v3,v4,v5,rfl,tv3⟩,s3⟩
   obtain ⟨z,hz,a3,u3,rfl,h3,tvz⟩:=Paired.getR pu' hx
   have h3':=s3 _ _ (s2 _ _ h3)
   refine ⟨a3,_,Y,SqT.of h3',Y,_,_,Y,_,_,Y,Y,?_⟩
   refine ⟨_,Y,_,Y,_,Y,_,Y,zS4,λ nt hnt=>?_⟩
   obtain ⟨H4,e4,k4,s4⟩:∃H',upd H3 nt (.tup [.str (wyL dn),.int z.1,u3,v3])=H'/\H' nt=some (.tup [.str (wyL dn),.int z.1,u3,v3])/\Same H3 H':=⟨_,Y,af,Same.new hnt⟩
   rw [show upd H3 nt _=H4 from e4]
   refine ⟨⟨_,_,_,Y,?_⟩,s3.trans s4⟩
   have k34:∀a xs,H3 a=some (.tup xs)->H4 a=some (.tup xs):=λ a xs e=>s4 _ _ e
   have hzr:(toL r)[l'.length - (i + 1)]? = some z:=by
    rw [el,List.getElem?_append_left (by omega)]
    rw [pl'] at hz
    rw [show l'.length - (i + 1)=l'.length - 1 - i by omega]
    exact hz
   have hlt:l'.length - (i + 1) < (toL r).length:=by omega
   have dd:(toL r).drop (l'.length - (i + 1))=z :: (toL r).drop (l'.length - i):=by
    rw [List.drop_eq_getElem_cons hlt,show l'.length - (i + 1) + 1=l'.length - i by omega]
    congr 1
    rw [List.getElem?_eq_getElem hlt] at hzr
    exact Option.some.inj hzr
   rw [dd]
   obtain ⟨y,ys,ey⟩:∃y ys,(toL r).drop (l'.length - i)=y :: ys:=by
    cases hd:(toL r).drop (l'.length - i) with
    | nil =>
     have:=congrArg List.length hd
     rw [List.length_drop] at this
     have:(toL r).length - (l'.length - i)=0:=this
     omega
    | cons y ys=>exact ⟨y,ys,Y⟩
   rw [ey] at tv3 ⊢
   rw [ofL,ofL,fv]
   rw [ofL] at tv3
   exact ⟨nt,u3,v3,Y,k4,TrV.keep (λ a xs e=>k34 _ _ (s3 _ _ (s2 _ _ e))) _ tvz,TrV.keep k34 _ tv3⟩
  ·rintro σ H3 ⟨⟨v3,v4,v5,rfl,tv3⟩,s3⟩
   rw [pl',Nat.sub_self,List.drop_zero,ej] at tv3
   exact hR v3 v4 v5 _ tv3 (s1.trans (s2.trans s3))
 rintro v3 v4 v5 H2 tv3 s2
 exact ⟨_,Y,q _ _ (by rw [ic]; exact tv3) s2⟩
theorem uj {f:Addr} {fd:FuncData} (F:Fun K "tree_by_telling" "tree_by_telling" be f fd):FnOk P w K mg base CX0 1 f fd ["telling"] (spTbt 0):=by
 refine F.ok sctbt (λ vs H Q E h=>?_) (λ cdv A outer s H vs Q E hr h=>?_)
 ·obtain ⟨b,w1,h1,ks,v,t,rfl,_⟩:=h
  rfl
 ·obtain ⟨b,w1,h1,ks,v,t,rfl,_,_,_,_,z,_⟩:=h
  exact absurd z (Nat.not_lt_zero _)
theorem mQ {f wa:Addr} {fd:FuncData} (F:Fun K "tree_by_telling" "tree_by_telling" be f fd) (B:Blt mg) (Z:TrC K mg wa) (rv:mg "reversed" = none) (mk:∀n,FnOk P w K mg base CX0 (1 + n) f fd ["telling"] (spTbt n)->Dn P w K mg base "tree_by_telling" ["telling"] (1 + n) (spTbt n)):∀n,FnOk P w K mg base CX0 (1 + n) f fd ["telling"] (spTbt n)
 | 0=>uj F
 | n + 1=>vQ F B Z rv n (mk n (mQ F B Z rv mk n))
theorem sctreeto:FnScope ["shop","wide","high","telling"] ["shop","wide","high","telling"] (defScope dZ):=⟨Y,Y,Y,by decide +kernel,Y,by decide +kernel,by decide +kernel⟩
theorem nZ {f C:Addr} {fd:FuncData} (F:Fun K "tree_told" "tree_told" dZ f fd) (B:Blt mg) (DCP:Dn P w K mg base "check_plate" ["wide","high"] 2 (spCP)) (DA:Dn P w K mg base "as_telling" ["shop","part","thing"] 157 (spAsT C 151)) (DT:Dn P w K mg base "tree_by_telling" ["telling"] 152 (spTbt 151)):FnOk P w K mg base CX0 160 f fd ["shop","wide","high","telling"] (spTreeTo C):=by
 refine F.ok sctreeto (λ vs H Q E h=>?_) (λ cdv A outer s H vs Q E hr h=>?_)
 ·obtain ⟨pp,s,b,w1,h1,ks,v,d,t,rfl,_⟩:=h
  rfl
 obtain ⟨pp,s,b,w1,h1,ks,v,d,t,rfl,SH,w0,h0,hd,ld,okt,b0,l63,d150,q⟩:=h
 have nd:=sctreeto.nd
 refine ⟨_,(@ae _ _ _ _ _ (@bh _ _ _ _ (@aj _ _ _ _ _ _ _ _ _ _ DCP (hr.mono (by decide)) rfl (@aa _ _ _ _ _ (pv 1) (@aa _ _ _ _ _ (pv 2) ab rfl) rfl) (by decide) rfl rfl) rfl) (@ag _ _ _ (@av _ _ _ _ (@aj _ _ _ _ _ _ _ _ _ _ DT (hr.mono (by decide)) rfl (@aa _ _ _ _ _ (@aj _ _ _ _ _ _ _ _ _ _ DA (hr.mono (by decide)) rfl (@aa _ _ _ _ _ (pv 0) (@aa _ _ _ _ _ (@ax _ _ _ _ _ (@aa _ _ _ _ _ (pv 1) (@aa _ _ _ _ _ (pv 2) ab rfl) rfl)) (@aa _ _ _ _ _ (pv 3) ab rfl) rfl) rfl) (by decide) rfl rfl) ab rfl) (by decide) rfl rfl)))),?_⟩
 refine ⟨_,Y,_,Y,w1,h1,Y,w0,h0,?_⟩
 refine ⟨_,Y,_,Y,_,Y,zS2,λ c hc=>?_⟩
 obtain ⟨H2,e2,k2,s2⟩:∃H',upd H c (.tup [.int w1,.int h1])=H'/\H' c=some (.tup [.int w1,.int h1])/\Same H H':=⟨_,Y,af,Same.new hc⟩
 rw [show upd H c _=H2 from e2]
 exact ⟨_,Y,pp,s,c,b,w1,h1,ks,v,d,t,Y,dq s2 SH,k2,hd.same s2,ld,okt,b0,l63,by omega,by omega,λ u H3 tv s3=>⟨b,w1,h1,ks,u,t,Y,tv,okt,b0,l63,by omega,λ u2 H4 tr s4=>q u2 H4 tr (s2.trans (s3.trans s4))⟩⟩
end
structure Lf where
 x:Int
 y:Int
 w:Int
 h:Int
 t:Tr
def lvs (b:Int):Tr->Int->Int->Int->Int->List Lf
 | .cut true p l r,x,y,w,h=>lvs b r (x + (p + b)) y (w - p - b) h ++ lvs b l x y p h
 | .cut false p l r,x,y,w,h=>lvs b r x (y + (p + b)) w (h - p - b) ++ lvs b l x y w p
 | .rest,x,y,w,h=>[⟨x,y,w,h,.rest⟩]
 | .piece i c u v,x,y,w,h=>[⟨x,y,w,h,.piece i c u v⟩]
def LfAt (p:Addr) (H0 H:Hp) (v:V) (t:Lf):Prop:=∃a u d,v=.ref a/\H a=some (.tup [.int t.x,.int t.y,.int t.w,.int t.h,u])/\Dt p H0 u d/\TrD t.t d
theorem LfAt.keep {p:Addr} {H0 H H':Hp} (k:∀a xs,H a=some (.tup xs)->H' a=some (.tup xs)) {v:V} {t:Lf} (h:LfAt p H0 H v t):LfAt p H0 H' v t:=by
 obtain ⟨a,u,d,e,h1,h2,h3⟩:=h
 exact ⟨a,u,d,e,k _ _ h1,h2,h3⟩
def lsz (ts:List Lf):Nat:=(ts.map λ t=>szT t.t).sum
theorem ci (a b:List Lf):lsz (a ++ b)=lsz a + lsz b:=by unfold lsz; rw [List.map_append,List.sum_append]
theorem gK:∀ts:List Lf,ts.length<=lsz ts
 | []=>Nat.le_refl _
 | t :: r=>by
  have:=gK r
  have:=kh t.t
  show r.length + 1<=szT t.t + lsz r
  omega
def oa (b:Int) (ts:List Lf):List Lf:=ts.reverse.flatMap λ t=>lvs b t.t t.x t.y t.w t.h
theorem cU (b:Int) (ts:List Lf) (t:Lf):oa b (ts ++ [t])=lvs b t.t t.x t.y t.w t.h ++ oa b ts:=by
 unfold oa
 rw [List.reverse_append]
 rfl
section
variable {P:Program} {w:World} {K:PySem.W.Frag} {mg:Str->Option Value} {base:Heap}
inductive spLeaves (C:Addr) (vs:List V) (H:Hp) (Q:VK) (E_:XK):Prop
 | mk (pp s:Addr) (b w h:Int) (ks:List Kd) (v:V) (d:PyData) (t:Tr) (e_1:vs=[.ref s,.int w,.int h,v]) (e_2:ShopAt C H s b ks) (e_3:Dt pp H v d) (e_4:TrD t d) (e_5:szT t<=10000) (e_6:∀ (l:Addr) (us:List V) (H':Hp),H l=none->H' l=some (.lst us)->Paired (LfAt pp H H') us (lvs b t 0 0 w h)->Same H H'->Q (.ref l) H'):spLeaves C vs H Q E_
theorem scleaves:FnScope ["shop","wide","high","tree","leaves","waiting","spot"] ["shop","wide","high","tree"] (defScope dY):=⟨Y,Y,Y,by decide +kernel,Y,by decide +kernel,by decide +kernel⟩
set_option maxHeartbeats 1000000 in
theorem oe {f C wa:Addr} {fd:FuncData} (F:Fun K "leaves_of" "leaves_of" dY f fd) (T:ShopTxt K C) (Z:TrC K mg wa) (MB:Mn P w K mg base C "blade" ["self"] 1 (cX C)) (DS:Dn P w K mg base "spots_behind" ["blade","spot"] 2 (spBehind)):FnOk P w K mg base CX0 3 f fd ["shop","wide","high","tree"] (spLeaves C):=by
 refine F.ok scleaves (λ vs H Q E h=>?_) (λ cdv A outer s H vs Q E hr h=>?_)
 ·obtain ⟨pp,s,b,w1,h1,ks,v,d,t,rfl,_⟩:=h
  rfl
 obtain ⟨pp,s,b,w1,h1,ks,v,d,t,rfl,SH,hd,td,tz,q⟩:=h
 have nd:=scleaves.nd
 refine ⟨_,(@ae _ _ _ _ _ (@az _ _ 4 _ _ _ _ nd rfl (Or.inl rfl) (@aM _ _ _ _ ab) rfl (Or.inl rfl)) (@ae _ _ _ _ _ (@az _ _ 5 _ _ _ _ nd rfl (Or.inl rfl) (@aM _ _ _ _ (@aa _ _ _ _ _ (@ax _ _ _ _ _ (@aa _ _ _ _ _ ad (@aa _ _ _ _ _ ad (@aa _ _ _ _ _ (pv 1) (@aa _ _ _ _ _ (pv 2) (@aa _ _ _ _ _ (pv 3) ab rfl) rfl) rfl) rfl) rfl)) ab rfl)) rfl (Or.inl rfl)) (@ae _ _ _ _ _ (eP PassesOwn.never (eS (pv 5) (λ _=>rfl)) (@ae _ _ _ _ _ (@az _ _ 6 _ _ _ _ nd rfl (Or.inl rfl) (jb PySem.F.plainAttrs_list PySem.F.slot_list_pop PySem.F.type_list_pop jc (pv 5)) rfl (Or.inl rfl)) (@ag _ _ _ (@aI _ _ _ _ _ _ _ _ (@aB _ _ _ _ _ _ _ _ fJ (@ao _ _ _ _ _ _ _ aY (@ao _ _ _ _ _ _ _ ix_tup (pv 6) ad (λ _ _=>rfl)) ad (λ _ _=>rfl)) (aR (v:=.ref wa) rfl Z.wy rfl) rfl) (@ag _ _ _ (@bh _ _ _ _ (@dE _ _ _ _ _ _ _ _ _ _ _ _ PySem.F.plainAttrs_list PySem.F.slot_list_extend PySem.F.type_list_extend dQ (pv 5) (@aa _ _ _ _ _ (@aj _ _ _ _ _ _ _ _ _ _ DS hr rfl (@aa _ _ _ _ _ (fL (pv 0) T.cl MB (hr.mono (by decide))) (@aa _ _ _ _ _ (pv 6) ab rfl) rfl) (by decide) rfl rfl) ab rfl) rfl rfl rfl rfl rfl) rfl)) (@ag _ _ _ (@bh _ _ _ _ (@dE _ _ _ _ _ _ _ _ _ _ _ _ PySem.F.plainAttrs_list PySem.F.slot_list_append PySem.F.type_list_append bP (pv 4) (@aa _ _ _ _ _ (pv 6) ab rfl) rfl rfl rfl rfl rfl) rfl)))))) (@ag _ _ _ (@av _ _ _ _ (pv 4)))))),?_⟩
 have sz:(40000:Nat)<=sizeLine:=by decide
 obtain ⟨dx,r,rs,S1,S2,S3⟩:=id SH
 refine ⟨by decide,λ ll hll=>?_⟩
 have s0:Same H (upd H ll (.lst [])):=Same.new hll
 have k0:(upd H ll (.lst [])) ll=some (.lst []):=af
 generalize upd H ll (.lst [])=H0 at s0 k0 ⊢
 refine ⟨_,Y,_,Y,_,Y,zS5,λ t' ht=>?_⟩
 have sa:Same H0 (upd H0 t' (.tup [.int 0,.int 0,.int w1,.int h1,v])):=Same.new ht
 have ka:(upd H0 t' (.tup [.int 0,.int 0,.int w1,.int h1,v])) t'=some (.tup [.int 0,.int 0,.int w1,.int h1,v]):=af
 generalize upd H0 t' (.tup [.int 0,.int 0,.int w1,.int h1,v])=Ha at sa ka ⊢
 refine ⟨zS1,λ wl hwl=>?_⟩
 have sb:Same Ha (upd Ha wl (.lst [.ref t'])):=Same.new hwl
 have kb:(upd Ha wl (.lst [.ref t'])) wl=some (.lst [.ref t']):=af
 generalize upd Ha wl (.lst [.ref t'])=Hb at sb kb ⊢
 have fw:H wl=none:=(s0.trans sa).free hwl
 have nlw:ll≠wl:=λ z=>by rw [<- z,sa _ _ k0] at hwl; cases hwl
 have sab:=(s0.trans sa).trans sb
 refine ⟨λ m σ H'=>∃ (vs us:List V) (ts L:List Lf) (v6:Option V),σ=[some (.ref s),some (.int w1),some (.int h1),some v,some (.ref ll),some (.ref wl),v6]/\m=lsz ts/\H' wl=some (.lst vs)/\H' ll=some (.lst us)/\Paired (LfAt pp H H') vs ts/\Paired (LfAt pp H H') us L/\lsz ts + L.length<=10000/\L ++ oa b ts=lvs b t 0 0 w1 h1/\Same H H',⟨_,[.ref t'],[],[⟨0,0,w1,h1,t⟩],[],none,Y,Y,kb,sb _ _ (sa _ _ k0),.cons ⟨t',v,d,Y,sb _ _ ka,hd,td⟩ .nil,.nil,(by show szT t + 0 + 0<=10000; omega),(by show [] ++ (lvs b t 0 0 w1 h1 ++ [])=_; rw [List.append_nil]; rfl),sab⟩,?_⟩
 rintro m σ H1 ⟨vs,us,ts,L,v6,rfl,rfl,hw,hl,pr,pu,sz1,al,s1⟩
 refine ⟨_,Y,_,.inl ⟨vs,SqL.of hw,Y⟩,?_⟩
 rcases List.eq_nil_or_concat vs with rfl | ⟨vs',v0,rfl⟩
 ·have ets:ts=[]:=by
   have:=Paired.length pr
   cases ts with
   | nil=>rfl
   | cons _ _=>simp at this
  subst ets
  rw [show oa b []=[] from rfl,List.append_nil] at al
  rw [al] at pu
  exact aO ⟨_,rfl,q ll us H1 hll hl pu s1⟩
 rw [List.concat_eq_append] at pr hw ⊢
 obtain ⟨ts',t0,rfl,prp,⟨sp,u,du,rfl,hsp,hdu,tdu⟩⟩:=iI pr
 rw [show (!(vs' ++ [V.ref sp]).isEmpty)=true by cases vs' <;> rfl]
 have ssz:lsz (ts' ++ [t0])=lsz ts' + szT t0.t:=by rw [ci]; show _ + (szT t0.t + 0)=_; omega
 rw [ssz] at sz1 ⊢
 refine aP ⟨λ σ' H'=>∃ (vs us:List V) (ts L:List Lf) (v6:Option V),σ'=[some (.ref s),some (.int w1),some (.int h1),some v,some (.ref ll),some (.ref wl),v6]/\lsz ts < lsz ts' + szT t0.t/\H' wl=some (.lst vs)/\H' ll=some (.lst us)/\Paired (LfAt pp H H') vs ts/\Paired (LfAt pp H H') us L/\lsz ts + L.length<=10000/\L ++ oa b ts=lvs b t 0 0 w1 h1/\Same H H',λ σ' H' ⟨vs,us,ts,L,v6,e,l,r⟩=>⟨_,l,vs,us,ts,L,v6,e,rfl,r⟩,?_⟩
 rw [cU] at al
 have ml:(vs' ++ [V.ref sp]).length=vs'.length + 1:=by rw [List.length_append]; rfl
 have keep:∀ {Hx:Hp} {o:HO},Same H Hx->Same H (upd Hx wl o):=λ {Hx o} sx c oo e=>by
  rw [am (λ z=>by rw [z,fw] at e; cases e)]
  exact sx _ _ e
 have keepL:∀ {Hx:Hp} {o:HO},Same H Hx->Same H (upd Hx ll o):=λ {Hx o} sx c oo e=>by
  rw [am (λ z=>by rw [z,hll] at e; cases e)]
  exact sx _ _ e
 refine ap (λ R=>∀ (H':Hp),H' wl=some (.lst vs')->H' ll=some (.lst us)->Paired (LfAt pp H H') vs' ts'->Paired (LfAt pp H H') us L->H' sp=some (.tup [.int t0.x,.int t0.y,.int t0.w,.int t0.h,u])->Same H H'->R [some (.ref s),some (.int w1),some (.int h1),some v,some (.ref ll),some (.ref wl),some (.ref sp)] H') (λ Dd hR=>?_) ?_
 ·refine ⟨_,Y,.inl ⟨Y,_,SqL.of hw⟩,wl,_,.ref sp,Y,Y,hw,(by rw [ml]; simp),?_⟩
  rw [List.dropLast_concat]
  have kt:∀ {c:Addr} {xs:List V},H1 c=some (.tup xs)->(upd H1 wl (.lst vs')) c=some (.tup xs):=λ {c xs} e=>by
   rw [am (λ z=>by rw [z,hw] at e; cases e)]; exact e
  exact hR _ af (by rw [am nlw]; exact hl) (Paired.mapP prp λ v t h=>h.keep λ a xs e=>kt e) (Paired.mapP pu λ v t h=>h.keep λ a xs e=>kt e) (kt hsp) (keep s1)
 rintro H2 hw2 hl2 pr2 pu2 hsp2 s02
 have a4:atI [.int t0.x,.int t0.y,.int t0.w,.int t0.h,u] 4=some u:=aE (by decide) rfl
 have inT:∀z:Str,(z = "down" \/ z = "across")->inV (V.str z) [V.str "down",V.str "across"]=true:=λ z hz=>by
  rcases hz with e | e <;> subst e <;> decide +kernel
 have go:∀ (y:Str) (ys:List PyData),aH du=some (.str y :: ys)->∃a xs,u=.ref a/\(H a=some (.lst (.str y :: xs))\/H a=some (.tup (.str y :: xs)))/\Dts pp H xs ys:=λ y ys er=>by
  obtain ⟨a,xs,e,hx,dxs⟩:=hdu.ref_row er
  cases dxs with
  | cons hd0 dxs =>
   cases hd0
   exact ⟨a,_,e,hx,dxs⟩
 refine ⟨_,Y,sp,_,4,_,Y,Y,SqT.of hsp2,a4,?_⟩
 obtain ⟨tt,et⟩:∃tt,t0.t=tt:=⟨_,Y⟩
 cases tt with
 | cut dn p l r =>
  rw [et] at tdu
  obtain ⟨dl,dr,er,tl,tr⟩:=tdu
  obtain ⟨a,xs,eu,hx,dxs⟩:=go _ _ er
  have hx0:=hx
  cases dxs with
  | @cons x1 _ xs1 _ hd1 dxs =>
  cases dxs with
  | @cons lv _ xs2 _ hdl dxs =>
  cases dxs with
  | @cons rv _ xs3 _ hdr dxs =>
  cases dxs
  cases hd1
  subst eu
  show rIx K (.ref a) (.int 0) H2 _
  refine ixR s02 hx (aE (Int.le_refl _) rfl) ?_
  refine ⟨wa,_,Y,.inr (Z.wq _),Y,Y,_,Y,?_⟩
  show (if (inV (V.str (if dn=true then "down" else "across")) [V.str "down",V.str "across"])=true then _ else _)
  rw [inT _ (by cases dn <;> first | exact .inl rfl | exact .inr rfl)]
  have SH2:=dq s02 SH
  obtain ⟨dx',r',rs',S1',S2',S3'⟩:=id SH2
  refine aP ⟨_,rfl,.inl ⟨rfl,_,SqL.of hw2⟩,_,rfl,s,dx',_,rfl,S1',(bV _ _ (by decide +kernel) (by decide +kernel)),s,b,ks,rfl,SH2,_,rfl,?_⟩
  refine ⟨b,t0.x,t0.y,t0.w,t0.h,p,sp,a,dn,lv,rv,Y,hsp2,hx.imp (s02 _ _) (s02 _ _),λ lu t1 t2 H4 hlu ku k1 k2 s4=>?_⟩
  have hw4:=s4 _ _ hw2
  have pl:=Paired.length pr2
  have sl:=gK ts'
  have sz0:szT t0.t=szT l + szT r + 1:=by rw [et]; rfl
  refine ⟨wl,lu,_,_,Y,Y,hw4,ku,by show _ + 2<=_; omega,?_⟩
  have kt:∀ {c:Addr} {xs:List V},H4 c=some (.tup xs)->(upd H4 wl (.lst (vs' ++ [.ref t1,.ref t2]))) c=some (.tup xs):=λ {c xs} e=>by
   rw [am (λ z=>by rw [z,hw4] at e; cases e)]; exact e
  have kl4:(upd H4 wl (.lst (vs' ++ [.ref t1,.ref t2]))) ll=some (.lst us):=by rw [am nlw]; exact s4 _ _ hl2
  have pr4:Paired (LfAt pp H (upd H4 wl (.lst (vs' ++ [.ref t1,.ref t2])))) vs' ts':=Paired.mapP pr2 λ v t h=>h.keep λ a xs e=>kt (s4 _ _ e)
  have pu4:Paired (LfAt pp H (upd H4 wl (.lst (vs' ++ [.ref t1,.ref t2])))) us L:=Paired.mapP pu2 λ v t h=>h.keep λ a xs e=>kt (s4 _ _ e)
  cases dn with
  | true =>
   have k1:H4 t1=some (.tup [.int t0.x,.int t0.y,.int p,.int t0.h,lv]):=k1
   have k2:H4 t2=some (.tup [.int (t0.x + (p + b)),.int t0.y,.int (t0.w - p - b),.int t0.h,rv]):=k2
   refine ⟨vs' ++ [.ref t1,.ref t2],us,ts' ++ [⟨t0.x,t0.y,p,t0.h,l⟩] ++ [⟨t0.x + (p + b),t0.y,t0.w - p - b,t0.h,r⟩],L,_,Y,?_,af,kl4,?_,pu4,?_,?_,keep (s02.trans s4)⟩
   ·rw [ci,ci]; show _ + (szT l + 0) + (szT r + 0) < _; rw [sz0]; omega
   ·rw [List.append_assoc]; exact eC pr4 (.cons ⟨t1,lv,dl,Y,kt k1,hdl,tl⟩ (.cons ⟨t2,rv,dr,Y,kt k2,hdr,tr⟩ .nil))
   ·rw [ci,ci]; show _ + (szT l + 0) + (szT r + 0) + _<=_; rw [sz0] at sz1; omega
   ·rw [cU,cU,<- al,et,lvs,List.append_assoc]
  | false =>
   have k1:H4 t1=some (.tup [.int t0.x,.int t0.y,.int t0.w,.int p,lv]):=k1
   have k2:H4 t2=some (.tup [.int t0.x,.int (t0.y + (p + b)),.int t0.w,.int (t0.h - p - b),rv]):=k2
   refine ⟨vs' ++ [.ref t1,.ref t2],us,ts' ++ [⟨t0.x,t0.y,t0.w,p,l⟩] ++ [⟨t0.x,t0.y + (p + b),t0.w,t0.h - p - b,r⟩],L,_,Y,?_,af,kl4,?_,pu4,?_,?_,keep (s02.trans s4)⟩
   ·rw [ci,ci]; show _ + (szT l + 0) + (szT r + 0) < _; rw [sz0]; omega
   ·rw [List.append_assoc]; exact eC pr4 (.cons ⟨t1,lv,dl,Y,kt k1,hdl,tl⟩ (.cons ⟨t2,rv,dr,Y,kt k2,hdr,tr⟩ .nil))
   ·rw [ci,ci]; show _ + (szT l + 0) + (szT r + 0) + _<=_; rw [sz0] at sz1; omega
   ·rw [cU,cU,<- al,et,lvs,List.append_assoc]
 | rest =>
  rw [et] at tdu
  obtain ⟨a,xs,eu,hx,dxs⟩:=go _ _ tdu
  subst eu
  show rIx K (.ref a) (.int 0) H2 _
  refine ixR s02 hx (aE (Int.le_refl _) rfl) ?_
  refine ⟨wa,_,Y,.inr (Z.wq _),Y,Y,_,Y,?_⟩
  show (if (inV (V.str "rest") [V.str "down",V.str "across"])=true then _ else _)
  rw [show inV (V.str "rest") [V.str "down",V.str "across"]=false by decide +kernel]
  have sl:=gK ts'
  have ul:=Paired.length pu2
  have SZ:szT t0.t=1:=by rw [et]; rfl
  refine aO ⟨_,rfl,.inl ⟨rfl,_,SqL.of hl2⟩,_,rfl,ll,us,_,rfl,rfl,hl2,by omega,?_⟩
  have kt:∀ {c:Addr} {xs:List V},H2 c=some (.tup xs)->(upd H2 ll (.lst (us ++ [.ref sp]))) c=some (.tup xs):=λ {c xs} e=>by
   rw [am (λ z=>by rw [z,hl2] at e; cases e)]; exact e
  refine ⟨vs',us ++ [.ref sp],ts',L ++ [t0],_,Y,by omega,by rw [am (Ne.symm nlw)]; exact hw2,af,Paired.mapP pr2 λ v t h=>h.keep λ a xs e=>kt e,eC (Paired.mapP pu2 λ v t h=>h.keep λ a xs e=>kt e) (.cons ⟨sp,.ref a,du,Y,kt hsp2,hdu,by rw [et]; exact tdu⟩ .nil),?_,?_,keepL s02⟩
  ·rw [List.length_append]; show _ + (_ + 1)<=_; omega
  ·rw [<- al,List.append_assoc]
   congr 2
   rw [et]
   cases t0
   cases et
   rfl
 | piece i c x y =>
  rw [et] at tdu
  obtain ⟨a,xs,eu,hx,dxs⟩:=go _ _ tdu
  subst eu
  show rIx K (.ref a) (.int 0) H2 _
  refine ixR s02 hx (aE (Int.le_refl _) rfl) ?_
  refine ⟨wa,_,Y,.inr (Z.wq _),Y,Y,_,Y,?_⟩
  show (if (inV (V.str "piece") [V.str "down",V.str "across"])=true then _ else _)
  rw [show inV (V.str "piece") [V.str "down",V.str "across"]=false by decide +kernel]
  have sl:=gK ts'
  have ul:=Paired.length pu2
  have SZ:szT t0.t=1:=by rw [et]; rfl
  refine aO ⟨_,rfl,.inl ⟨rfl,_,SqL.of hl2⟩,_,rfl,ll,us,_,rfl,rfl,hl2,by omega,?_⟩
  have kt:∀ {c:Addr} {xs:List V},H2 c=some (.tup xs)->(upd H2 ll (.lst (us ++ [.ref sp]))) c=some (.tup xs):=λ {c xs} e=>by
   rw [am (λ z=>by rw [z,hl2] at e; cases e)]; exact e
  refine ⟨vs',us ++ [.ref sp],ts',L ++ [t0],_,Y,by omega,by rw [am (Ne.symm nlw)]; exact hw2,af,Paired.mapP pr2 λ v t h=>h.keep λ a xs e=>kt e,eC (Paired.mapP pu2 λ v t h=>h.keep λ a xs e=>kt e) (.cons ⟨sp,.ref a,du,Y,kt hsp2,hdu,by rw [et]; exact tdu⟩ .nil),?_,?_,keepL s02⟩
  ·rw [List.length_append]; show _ + (_ + 1)<=_; omega
  ·rw [<- al,List.append_assoc]
   congr 2
   rw [et]
   cases t0
   cases et
   rfl
set_option maxHeartbeats 1000000 in
end
theorem TrD.many {b:Int}:∀ (t:Tr) (d:PyData) (x y w h:Int),TrD t d->(lvs b t x y w h).length=lvN t/\szT t<=wt d
 | .rest,d,_,_,_,_,e=>by
  have:=fk (show aH d=some [.str "rest"] from e)
  have w1:wts [.str "rest"]=5:=by decide +kernel
  refine ⟨Y,?_⟩
  show 1<=wt d
  omega
 | .piece i c u v,d,_,_,_,_,e=>by
  have:=fk (show aH d=some [.str "piece",.int i,.bool c,.int u,.int v] from e)
  have w1:wts [.str "piece",.int i,.bool c,.int u,.int v]=10:=by
   show wt (.str "piece") + (1 + (1 + (1 + (1 + 0))))=10
   decide +kernel
  refine ⟨Y,?_⟩
  show 1<=wt d
  omega
 | .cut true p l r,d,x,y,w,h,⟨dl,dr,e,tl,tr⟩=>by
  have h0:=fk e
  have w1:wts [.str (if true=true then "down" else "across"),.int p,dl,dr]=5 + (1 + (wt dl + (wt dr + 0))):=by
   show wt (.str "down") + (1 + (wt dl + (wt dr + 0)))=_
   rw [show wt (.str "down")=5 by decide +kernel]
  have h1:=TrD.many (b:=b) r dr (x + (p + b)) y (w - p - b) h tr
  have h2:=TrD.many (b:=b) l dl x y p h tl
  rw [lvs,List.length_append,szT,lvN]
  omega
 | .cut false p l r,d,x,y,w,h,⟨dl,dr,e,tl,tr⟩=>by
  have h0:=fk e
  have w1:wts [.str (if false=true then "down" else "across"),.int p,dl,dr]=7 + (1 + (wt dl + (wt dr + 0))):=by
   show wt (.str "across") + (1 + (wt dl + (wt dr + 0)))=_
   rw [show wt (.str "across")=7 by decide +kernel]
  have h1:=TrD.many (b:=b) r dr x (y + (p + b)) w (h - p - b) tr
  have h2:=TrD.many (b:=b) l dl x y w p tl
  rw [lvs,List.length_append,szT,lvN]
  omega
theorem cC (b:Int):∀ (t:Tr) (x y w h:Int),∀f∈lvs b t x y w h,f.t=.rest\/∃i c u v,f.t=.piece i c u v
 | .rest,_,_,_,_,f,hf=>by cases List.mem_singleton.mp hf; exact .inl rfl
 | .piece i c u v,_,_,_,_,f,hf=>by cases List.mem_singleton.mp hf; exact .inr ⟨i,c,u,v,Y⟩
 | .cut true p l r,x,y,w,h,f,hf=>by
  rw [lvs] at hf
  exact (List.mem_append.mp hf).elim (cC b r _ _ _ _ f) (cC b l _ _ _ _ f)
 | .cut false p l r,x,y,w,h,f,hf=>by
  rw [lvs] at hf
  exact (List.mem_append.mp hf).elim (cC b r _ _ _ _ f) (cC b l _ _ _ _ f)
structure TrH (C pp s:Addr) (b w h:Int) (ks:List Kd) (v:V) (d:PyData) (t:Tr) (H:Hp):Prop where
 sh:ShopAt C H s b ks
 w1:1<=w
 h1:1<=h
 dt:Dt pp H v d
 td:TrD t d
 ok:okT b ks w h t
 wd:wt d<=2000
 ln:lvN t<=63
theorem TrH.same {C pp s:Addr} {b w h:Int} {ks:List Kd} {v:V} {d:PyData} {t:Tr} {H H':Hp} (x:TrH C pp s b w h ks v d t H) (k:Same H H'):TrH C pp s b w h ks v d t H':=⟨dq k x.sh,x.w1,x.h1,x.dt.same k,x.td,x.ok,x.wd,x.ln⟩
structure Pce where
 k:Nat
 c:Bool
 x:Int
 y:Int
def Gg (p:Pce):List V:=[.int p.k,.bl p.c,.int p.x,.int p.y]
def yh (p:Pce):List Int:=[(p.k:Int),if p.c=true then 1 else 0,p.x,p.y]
def lfP (f:Lf):Option Pce:=match f.t with
 | .piece i c u v=>some ⟨i,c,f.x + u,f.y + v⟩
 | _=>none
def pcs (b:Int) (t:Tr) (w h:Int):List Pce:=(lvs b t 0 0 w h).filterMap lfP
def PA (H:Hp) (a:Addr) (p:Pce):Prop:=H a=some (.tup (Gg p))
def gg (H:Hp) (a:Addr):Pce:=match H a with
 | some (.tup [.int k,.bl c,.int x,.int y])=>⟨k.toNat,c,x,y⟩
 | _=>⟨0,false,0,0⟩
theorem PA.of {H:Hp} {a:Addr} {p:Pce} (h:PA H a p):gg H a=p:=by
 unfold gg
 rw [show H a=some (.tup [.int p.k,.bl p.c,.int p.x,.int p.y]) from h]
 show (⟨(p.k:Int).toNat,p.c,p.x,p.y⟩:Pce)=p
 rw [Int.toNat_natCast]
theorem PA.map {H:Hp}:∀ {as:List Addr} {ps:List Pce},Paired (PA H) as ps->as.map (gg H)=ps
 | _,_,.nil=>rfl
 | _,_,.cons h r=>by rw [List.map_cons,h.of,PA.map r]
theorem PA.mem {H:Hp}:∀ {as:List Addr} {ps:List Pce},Paired (PA H) as ps->∀a∈as,PA H a (gg H a)
 | _,_,.nil,a,h=>by cases h
 | _,_,.cons h r,a,hm=>by
  rcases List.mem_cons.mp hm with e | e
  ·subst e; rw [h.of]; exact h
  ·exact PA.mem r a e
theorem PA.back {H:Hp}:∀ {as:List Addr},(∀a∈as,PA H a (gg H a))->Paired (PA H) as (as.map (gg H))
 | [],_=>.nil
 | a :: as,h=>.cons (h a List.mem_cons_self) (PA.back λ b hb=>h b (List.mem_cons_of_mem _ hb))
theorem PA.keep {H H':Hp} (k:∀a xs,H a=some (.tup xs)->H' a=some (.tup xs)) {as:List Addr} {ps:List Pce} (h:Paired (PA H) as ps):Paired (PA H') as ps:=Paired.mapP h λ a p e=>k _ _ e
section
variable {P:Program} {w:World} {K:PySem.W.Frag} {mg:Str->Option Value} {base:Heap}
inductive spPieces (C:Addr) (vs:List V) (H:Hp) (Q:VK) (E_:XK):Prop
 | mk (pp s:Addr) (b w h:Int) (ks:List Kd) (v:V) (d:PyData) (t:Tr) (e_1:vs=[.ref s,.int w,.int h,v]) (e_2:TrH C pp s b w h ks v d t H) (e_3:∀ (l:Addr) (as:List Addr) (ps:List Pce) (H':Hp),H l=none->H' l=some (.lst (as.map V.ref))->Paired (PA H') as ps->ps.Perm (pcs b t w h)->(ps.map yh).Pairwise (λ x y=>aN y x=false)->Same H H'->Q (.ref l) H'):spPieces C vs H Q E_
theorem scpieces:FnScope ["shop","wide","high","tree","pieces","x","y","part_wide","part_high","leaf","word","kind","turned","piece_x","piece_y"] ["shop","wide","high","tree"] (defScope ec):=⟨Y,Y,Y,by decide +kernel,Y,by decide +kernel,by decide +kernel⟩
set_option maxHeartbeats 1000000 in
theorem og {f C wa:Addr} {fd:FuncData} (F:Fun K "pieces_of" "pieces_of" ec f fd) (B:Blt mg) (Z:TrC K mg wa) (DC:Dn P w K mg base "check_tree" ["shop","wide","high","thing"] 7 (spCheckT C)) (DL:Dn P w K mg base "leaves_of" ["shop","wide","high","tree"] 3 (spLeaves C)):FnOk P w K mg base CX0 8 f fd ["shop","wide","high","tree"] (spPieces C):=by
 refine F.ok scpieces (λ vs H Q E h=>?_) (λ cdv A outer s H vs Q E hr h=>?_)
 ·obtain ⟨pp,s,b,w1,h1,ks,v,d,t,rfl,_⟩:=h
  rfl
 obtain ⟨pp,s,b,w1,h1,ks,v,d,t,rfl,th,q⟩:=h
 have nd:=scpieces.nd
 obtain ⟨trs,hrs⟩:=Z.rs
 refine ⟨_,(@ae _ _ _ _ _ (@bh _ _ _ _ (@aj _ _ _ _ _ _ _ _ _ _ DC hr rfl (@aa _ _ _ _ _ (pv 0) (@aa _ _ _ _ _ (pv 1) (@aa _ _ _ _ _ (pv 2) (@aa _ _ _ _ _ (pv 3) ab rfl) rfl) rfl) rfl) (by decide) rfl rfl) rfl) (@ae _ _ _ _ _ (@az _ _ 4 _ _ _ _ nd rfl (Or.inl rfl) (@aM _ _ _ _ ab) rfl (Or.inl rfl)) (@ae _ _ _ _ _ (@bO _ _ _ _ _ _ _ _ PassesOwn.never rfl (dP (@aj _ _ _ _ _ _ _ _ _ _ DL (hr.mono (by decide)) rfl (@aa _ _ _ _ _ (pv 0) (@aa _ _ _ _ _ (pv 1) (@aa _ _ _ _ _ (pv 2) (@aa _ _ _ _ _ (pv 3) ab rfl) rfl) rfl) rfl) (by decide) rfl rfl)) (aT rfl (ah (ai (i:=5) nd rfl (Or.inl rfl)) (ah (ai (i:=6) nd rfl (Or.inl rfl)) (ah (ai (i:=7) nd rfl (Or.inl rfl)) (ah (ai (i:=8) nd rfl (Or.inl rfl)) (ah (ai (i:=9) nd rfl (Or.inl rfl)) aG)))))) (@ag _ _ _ (@aI _ _ _ _ _ _ _ _ (@aB _ _ _ _ _ _ _ _ gQ (@ao _ _ _ _ _ _ _ aY (pv 9) ad (λ _ _=>rfl)) (aR (v:=.str "rest") rfl hrs ⟨trs,Y⟩) (aD _)) (@ae _ _ _ _ _ (@bd _ _ _ _ _ _ (pv 9) (jg rfl (ah (ai (i:=10) nd rfl (Or.inl rfl)) (ah (ai (i:=11) nd rfl (Or.inl rfl)) (ah (ai (i:=12) nd rfl (Or.inl rfl)) (ah (ai (i:=13) nd rfl (Or.inl rfl)) (ah (ai (i:=14) nd rfl (Or.inl rfl)) aG)))))) rfl rfl rfl) (@ag _ _ _ (@bh _ _ _ _ (@dE _ _ _ _ _ _ _ _ _ _ _ _ PySem.F.plainAttrs_list PySem.F.slot_list_append PySem.F.type_list_append bP (pv 4) (@aa _ _ _ _ _ (@ax _ _ _ _ _ (@aa _ _ _ _ _ (pv 11) (@aa _ _ _ _ _ (pv 12) (@aa _ _ _ _ _ (@ay _ _ _ _ _ _ _ _ aQ (pv 5) (pv 13)) (@aa _ _ _ _ _ (@ay _ _ _ _ _ _ _ _ aQ (pv 6) (pv 14)) ab rfl) rfl) rfl) rfl)) ab rfl) rfl rfl rfl rfl rfl) rfl))) aA)) (by intro _; rfl)) (@ag _ _ _ (@av _ _ _ _ (@aF _ _ _ _ _ _ _ _ _ jj rfl B.sorted PyProof.Rows.boot_sorted (@aa _ _ _ _ _ (pv 4) ab rfl) (by decide) (by decide) rfl rfl)))))),?_⟩
 have sz:(40000:Nat)<=sizeLine:=by decide
 obtain ⟨m1,m2⟩:=TrD.many (b:=b) t d 0 0 w1 h1 th.td
 have wd:=th.wd
 have ln:=th.ln
 refine ⟨_,Y,_,Y,_,Y,_,Y,pp,s,b,w1,h1,ks,v,d,Y,th.sh,th.w1,th.h1,th.dt,by omega,TrD.good t d w1 h1 th.td th.ok,λ H1 s1=>?_⟩
 refine ⟨by decide,λ pl hpl=>?_⟩
 have s2:Same H1 (upd H1 pl (.lst [])):=Same.new hpl
 have k2:(upd H1 pl (.lst [])) pl=some (.lst []):=af
 generalize upd H1 pl (.lst [])=H2 at s2 k2 ⊢
 have s02:=s1.trans s2
 have th2:=th.same s02
 have fp:H pl=none:=s1.free hpl
 have dp:Dt pl H2 v d:=(th.dt.fresh fp).same s02
 refine bF (λ σ' H'=>σ'=[some (.ref s),some (.int w1),some (.int h1),some v,some (.ref pl),none,none,none,none,none,none,none,none,none,none]/\H2=H') (λ R hR=>hR _ _ ⟨rfl,rfl⟩) ?_
 rintro _ _ ⟨rfl,rfl⟩
 refine ap (λ R=>∀v5 v6 v7 v8 v9 v10 v11 v12 v13 v14 (H':Hp),(∃as,H' pl=some (.lst (as.map V.ref))/\Paired (PA H') as (pcs b t w1 h1)/\as.length<=63)->Same H H'->R [some (.ref s),some (.int w1),some (.int h1),some v,some (.ref pl),v5,v6,v7,v8,v9,v10,v11,v12,v13,v14] H') (λ Dd hR=>?_) ?_
 ·refine ⟨_,Y,_,Y,_,Y,_,Y,pl,s,b,w1,h1,ks,v,d,t,Y,th2.sh,dp,th2.td,by omega,λ ll us H3 hll l3 pu s23=>?_⟩
  have s03:=s02.trans s23
  have ul:=Paired.length pu
  have npl:ll≠pl:=λ z=>by rw [z,k2] at hll; cases hll
  refine ⟨ll,Y,⟨_,SqL.of l3⟩,dA (xs:=us) (λ i σ' H'=>(∃v5 v6 v7 v8 v9 v10 v11 v12 v13 v14,σ'=[some (.ref s),some (.int w1),some (.int h1),some v,some (.ref pl),v5,v6,v7,v8,v9,v10,v11,v12,v13,v14])/\(∃as,H' pl=some (.lst (as.map V.ref))/\Paired (PA H') as (((lvs b t 0 0 w1 h1).take i).filterMap lfP))/\H' ll=some (.lst us)/\Paired (LfAt pl H2 H') us (lvs b t 0 0 w1 h1)/\But pl H2 H'/\Same H H') ⟨⟨_,_,_,_,_,_,_,_,_,_,Y⟩,⟨[],s23 _ _ k2,.nil⟩,l3,pu,yd s23,s03⟩ (λ i σ H' _ h=>SqL.of h.2.2.1) ?_ ?_⟩
  ·rintro i x σ H4 hi ⟨⟨v5,v6,v7,v8,v9,v10,v11,v12,v13,v14,rfl⟩,⟨as,hp4,pa4⟩,l4,pu4,b4,s4⟩
   have hin:i < us.length:=(List.getElem?_eq_some_iff.mp hi).1
   obtain ⟨f,hf,a,u,du,rfl,ha,hdu,tdu⟩:=Paired.getR pu4 hi
   have pal:=Paired.length pa4
   have fml:(((lvs b t 0 0 w1 h1).take i).filterMap lfP).length<=i:=Nat.le_trans (List.length_filterMap_le _ _) (by rw [List.length_take]; omega)
   have tk:(lvs b t 0 0 w1 h1).take (i + 1)=(lvs b t 0 0 w1 h1).take i ++ [f]:=by rw [List.take_add_one,hf]; rfl
   refine ⟨a,_,Y,SqT.of ha,Y,_,_,Y,_,_,Y,_,_,Y,_,_,Y,_,_,Y,Y,?_⟩
   have hdu4:Dt pl H4 u du:=hdu.but ⟨_,k2⟩ b4
   rcases cC b t 0 0 w1 h1 f (List.mem_of_getElem? hf) with et | ⟨ki,c,px,py,et⟩
   ·rw [et] at tdu
    obtain ⟨a', xs, rfl, hx, dxs⟩:=hdu4.ref_row (show aH du=some [.str "rest"] from tdu)
    cases dxs with
    | cons hd0 dxs =>
    cases hd0
    cases dxs
    refine ⟨_,Y,ixR (Same.refl _) hx (aE (Int.le_refl _) rfl) ⟨Y,_,Y,?_⟩⟩
    refine aO ⟨⟨_,_,_,_,_,_,_,_,_,_,rfl⟩,⟨as,hp4,?_⟩,l4,pu4,b4,s4⟩
    rw [tk,List.filterMap_append,show [f].filterMap lfP=[] by rw [List.filterMap_cons,show lfP f=none by unfold lfP; rw [et]]; rfl,List.append_nil]
    exact pa4
   ·rw [et] at tdu
    obtain ⟨a', xs, rfl, hx, dxs⟩:=hdu4.ref_row (show aH du=some [.str "piece", .int ki, .bool c, .int px, .int py] from tdu)
    cases dxs with
    | cons hd0 dxs =>
    cases dxs with
    | cons hd1 dxs =>
    cases dxs with
    | cons hd2 dxs =>
    cases dxs with
    | cons hd3 dxs =>
    cases dxs with
    | cons hd4 dxs =>
    cases dxs
    cases hd0; cases hd1; cases hd2; cases hd3; cases hd4
    refine ⟨_,Y,ixR (Same.refl _) hx (aE (Int.le_refl _) rfl) ⟨Y,_,Y,?_⟩⟩
    refine aP ?_
    refine ⟨_,Y,a',_,Y,hx.imp (λ z=>SqL.of z) (λ z=>SqT.of z),Y,_,_,Y,_,_,Y,_,_,Y,_,_,Y,_,_,Y,Y,?_⟩
    refine ⟨_,Y,.inl ⟨Y,_,SqL.of hp4⟩,_,Y,_,Y,_,Y,_,Y,_,_,Y,Y,_,Y,_,Y,_,_,Y,Y,zS4,λ tp htp=>?_⟩
    have s5:=Same.new htp (o:=.tup [.int ki,.bl c,.int (f.x + px),.int (f.y + py)])
    have k5:(upd H4 tp (.tup [.int ki,.bl c,.int (f.x + px),.int (f.y + py)])) tp=some (.tup [.int ki,.bl c,.int (f.x + px),.int (f.y + py)]):=af
    rw [show upd H4 tp _=upd H4 tp (.tup [.int ki,.bl c,.int (f.x + px),.int (f.y + py)]) from rfl]
    generalize upd H4 tp (.tup [.int ki,.bl c,.int (f.x + px),.int (f.y + py)])=H5 at s5 k5 ⊢
    have hp5:=s5 _ _ hp4
    refine ⟨pl,_,_,Y,Y,hp5,(by rw [List.length_map]; omega),?_⟩
    have kt:∀ (a:Addr) (xs:List V),H4 a=some (.tup xs)->(upd H5 pl (.lst (as.map V.ref ++ [.ref tp]))) a=some (.tup xs):=λ a xs e=>by
     rw [am (λ z=>by rw [z,hp4] at e; cases e)]; exact s5 _ _ e
    refine ⟨⟨_,_,_,_,_,_,_,_,_,_,Y⟩,⟨as ++ [tp],by rw [af,List.map_append]; rfl,?_⟩,by rw [am npl]; exact s5 _ _ l4,Paired.mapP pu4 λ v f h=>h.keep kt,b4.trans (λ cc o n e=>by rw [am n]; exact s5 _ _ e),λ cc o e=>by rw [am (λ z=>by rw [z,fp] at e; cases e)]; exact s5 _ _ (s4 _ _ e)⟩
    rw [tk,List.filterMap_append,show [f].filterMap lfP=[⟨ki,c,f.x + px,f.y + py⟩] by rw [List.filterMap_cons,show lfP f=some ⟨ki,c,f.x + px,f.y + py⟩ by unfold lfP; rw [et]]; rfl]
    exact eC (PA.keep kt pa4) (.cons (show _=_ by rw [am (λ z=>by rw [z,hp5] at k5; cases k5)]; exact k5) .nil)
  ·rintro σ H4 ⟨⟨v5,v6,v7,v8,v9,v10,v11,v12,v13,v14,rfl⟩,⟨as,hp4,pa4⟩,l4,pu4,b4,s4⟩
   rw [ul,List.take_length] at pa4
   have:=Paired.length pa4
   have fml:((lvs b t 0 0 w1 h1).filterMap lfP).length<=(lvs b t 0 0 w1 h1).length:=List.length_filterMap_le _ _
   exact hR _ _ _ _ _ _ _ _ _ _ _ ⟨as,hp4,pa4,by omega⟩ s4
 rintro v5 v6 v7 v8 v9 v10 v11 v12 v13 v14 H3 ⟨as,hp3,pa3,al⟩ s3
 have mem:=PA.mem pa3
 have mp:=PA.map pa3
 refine ⟨_,Y,pl,as,[false,true,false,false],λ a=>yh (gg H3 a),Y,SqL.of hp3,by omega,Y,λ a ha=>⟨_,SqT.of (mem a ha),Y⟩,λ l as' hl pa so=>?_⟩
 have s4:=Same.new hl (o:=.lst (as'.map V.ref))
 refine q l as' (as'.map (gg H3)) _ (s3.free hl) af (PA.keep (λ a xs e=>s4 _ _ e) (PA.back λ a ha=>mem a (pa.mem_iff.mp ha))) ?_ ?_ (s3.trans s4)
 ·rw [<- mp]; exact pa.map _
 ·rw [List.map_map]; exact so
end
theorem rH {X:Cx}:xK X (λ o i H Q=>∃p xs k x,o=.ref p/\i=.int k/\0<=k/\H p=some (.lst xs)/\atI xs k=some x/\Q x H):=by
 intro pins s σ H o i ov iv Q I ro ri h
 obtain ⟨p,xs,k,x,rfl,rfl,k0,hp,hx,q⟩:=h
 cases ro
 obtain ⟨t,rfl⟩:=ri
 obtain ⟨its,r,pl,hz⟩:=I.list (SqL.of hp)
 obtain ⟨j,h1,h2,h3,h4,h5⟩:=gq hx
 obtain ⟨w,ew,rw'⟩:=r.get h2
 have hl:=r.length
 have hn:=eH
 have hj:k.toNat=j:=by
  rw [seqIndex_of k0 h5] at h1
  exact Option.some.inj h1
 exact wpAny_getItem_list pl.isList k0 (by omega) (by rw [hj]; simpa using ew) ⟨x,H,I,rw',q⟩
def bC (ps:List Pce) (n:Nat):List Int:=(List.range n).map λ k=>((ps.filter λ p=>p.k == k).length:Int)
theorem dN (ps:List Pce) (n:Nat):(bC ps n).length=n:=by unfold bC; rw [List.length_map,List.length_range]
theorem gL {ps:List Pce} {n k:Nat} (h:k < n):(bC ps n)[k]? = some ((ps.filter λ p=>p.k == k).length:Int):=by
 unfold bC
 rw [List.getElem?_map,List.getElem?_range h]; rfl
theorem oh {ps qs:List Pce} (h:ps.Perm qs) (n:Nat):bC ps n=bC qs n:=by
 unfold bC
 apply List.map_congr_left
 intro k _
 rw [(h.filter _).length_eq]
theorem rJ {ps:List Pce} {p:Pce} {n:Nat} (h:p.k < n):((bC ps n).map V.int).set p.k (.int (((ps.filter λ q=>q.k == p.k).length:Int) + 1))=(bC (ps ++ [p]) n).map V.int:=by
 apply List.ext_getElem?
 intro j
 rw [List.getElem?_set]
 by_cases hj:j < n
 ·rw [List.getElem?_map,List.getElem?_map,gL hj,gL hj,List.length_map,dN]
  by_cases e:p.k=j
  ·subst e
   rw [if_pos rfl,if_pos h,List.filter_append,List.length_append]
   simp
  ·rw [if_neg e,List.filter_append,List.length_append]
   have:([p].filter λ q=>q.k == j)=[]:=by simp [e]
   rw [this]; rfl
 ·have h1:((bC ps n).map V.int)[j]? = none:=List.getElem?_eq_none (by rw [List.length_map,dN]; omega)
  have h2:((bC (ps ++ [p]) n).map V.int)[j]? = none:=List.getElem?_eq_none (by rw [List.length_map,dN]; omega)
  rw [h1,h2,if_neg (by omega)]
theorem ij {b:Int} {ks:List Kd}:∀ (t:Tr) (x y w h:Int),okT b ks w h t->∀f∈lvs b t x y w h,∀i c u v,f.t=.piece i c u v->i < ks.length
 | .rest,_,_,_,_,_,f,hf,i,c,u,v,e=>by cases List.mem_singleton.mp hf; cases e
 | .piece ..,_,_,_,_,⟨k,hk,_⟩,f,hf,i,c,u,v,e=>by
  cases List.mem_singleton.mp hf
  cases e
  exact (List.getElem?_eq_some_iff.mp hk).1
 | .cut true p l r,x,y,w,h,⟨_,_,hl,hr⟩,f,hf,i,c,u,v,e=>by
  rw [lvs] at hf
  exact (List.mem_append.mp hf).elim (λ z=>ij r _ _ _ _ hr f z i c u v e) (λ z=>ij l _ _ _ _ hl f z i c u v e)
 | .cut false p l r,x,y,w,h,⟨_,_,hl,hr⟩,f,hf,i,c,u,v,e=>by
  rw [lvs] at hf
  exact (List.mem_append.mp hf).elim (λ z=>ij r _ _ _ _ hr f z i c u v e) (λ z=>ij l _ _ _ _ hl f z i c u v e)
theorem vR {b:Int} {ks:List Kd} {t:Tr} {w h:Int} (ok:okT b ks w h t) {p:Pce} (hp:p∈pcs b t w h):p.k < ks.length:=by
 obtain ⟨f,hf,e⟩:=List.mem_filterMap.mp hp
 rcases cC b t 0 0 w h f hf with et | ⟨i,c,u,v,et⟩
 ·unfold lfP at e; rw [et] at e; cases e
 ·have:=ij t 0 0 w h ok f hf i c u v et
  unfold lfP at e; rw [et] at e; cases e; exact this
section
variable {P:Program} {w:World} {K:PySem.W.Frag} {mg:Str->Option Value} {base:Heap}
inductive spCountsO (C:Addr) (vs:List V) (H:Hp) (Q:VK) (E_:XK):Prop
 | mk (pp s:Addr) (b w h:Int) (ks:List Kd) (v:V) (d:PyData) (t:Tr) (e_1:vs=[.ref s,.int w,.int h,v]) (e_2:TrH C pp s b w h ks v d t H) (e_3:ks.length<=8) (e_4:∀ (l:Addr) (H':Hp),H l=none->H' l=some (.lst ((bC (pcs b t w h) ks.length).map V.int))->Same H H'->Q (.ref l) H'):spCountsO C vs H Q E_
inductive spWorthO (C:Addr) (vs:List V) (H:Hp) (Q:VK) (E_:XK):Prop
 | mk (pp s:Addr) (b w h:Int) (ks:List Kd) (v:V) (d:PyData) (t:Tr) (e_1:vs=[.ref s,.int w,.int h,v]) (e_2:TrH C pp s b w h ks v d t H) (e_3:ks.length<=8) (e_4:(∀k∈ks,Good k)) (e_5:∀ (H':Hp),Same H H'->Q (.int (((bC (pcs b t w h) ks.length).zip ks).map λ z=>z.1 * z.2.wo).sum) H'):spWorthO C vs H Q E_
theorem sccountso:FnScope ["shop","wide","high","tree","pieces","counts","kind","turned","x","y"] ["shop","wide","high","tree"] (defScope cP):=⟨Y,Y,Y,by decide +kernel,Y,by decide +kernel,by decide +kernel⟩
set_option maxHeartbeats 1000000 in
theorem lK {f C:Addr} {fd:FuncData} (F:Fun K "counts_of" "counts_of" cP f fd) (B:Blt mg) (T:ShopTxt K C) (MK:Mn P w K mg base C "kinds" ["self"] 1 (gv C)) (DP:Dn P w K mg base "pieces_of" ["shop","wide","high","tree"] 8 (spPieces C)):FnOk P w K mg base CX0 9 f fd ["shop","wide","high","tree"] (spCountsO C):=by
 refine F.ok sccountso (λ vs H Q E h=>?_) (λ cdv A outer s H vs Q E hr h=>?_)
 ·obtain ⟨pp,s,b,w1,h1,ks,v,d,t,rfl,_⟩:=h
  rfl
 obtain ⟨pp,s,b,w1,h1,ks,v,d,t,rfl,th,k8,q⟩:=h
 have nd:=sccountso.nd
 refine ⟨_,(@ae _ _ _ _ _ (@az _ _ 4 _ _ _ _ nd rfl (Or.inl rfl) (@aj _ _ _ _ _ _ _ _ _ _ DP hr rfl (@aa _ _ _ _ _ (pv 0) (@aa _ _ _ _ _ (pv 1) (@aa _ _ _ _ _ (pv 2) (@aa _ _ _ _ _ (pv 3) ab rfl) rfl) rfl) rfl) (by decide) rfl rfl) rfl (Or.inl rfl)) (@ae _ _ _ _ _ (je (i:=5) (own:=["kind"]) (cs:=[]) (cap:=[]) rfl nd rfl rfl rfl (dP (fL (pv 0) T.cl MK (hr.mono (by decide)))) (bQ (sc:=defScope cP) (N:=["shop","wide","high","tree","pieces","counts","kind","turned","x","y"]) rfl rfl (by decide +kernel)) (λ _ _ _ _ _=>ai (i:=0) (by show List.Nodup (["kind"]:List Str) ; decide +kernel) rfl (Or.inl rfl) (Or.inr rfl)) (λ _ _ _ _ _=>cw) (λ _ _ _ _ _=>ad)) (@ae _ _ _ _ _ (@bO _ _ _ _ _ _ _ _ PassesOwn.never rfl (dP (pv 4)) (aT rfl (ah (ai (i:=6) nd rfl (Or.inl rfl)) (ah (ai (i:=7) nd rfl (Or.inl rfl)) (ah (ai (i:=8) nd rfl (Or.inl rfl)) (ah (ai (i:=9) nd rfl (Or.inl rfl)) aG))))) (@ag _ _ _ (sI (pv 5) (pv 6) rH ad gN eV)) (by intro _; rfl)) (@ag _ _ _ (@av _ _ _ _ (pv 5)))))),?_⟩
 have sz:(40000:Nat)<=sizeLine:=by decide
 refine ap (λ R=>∀pl as ps (H':Hp),H' pl=some (.lst (as.map V.ref))->Paired (PA H') as ps->ps.Perm (pcs b t w1 h1)->Same H H'->R [some (.ref s),some (.int w1),some (.int h1),some v,some (.ref pl),none,none,none,none,none] H') (λ Dd hR=>?_) ?_
 ·exact ⟨_,Y,_,Y,_,Y,_,Y,pp,s,b,w1,h1,ks,v,d,t,Y,th,λ l as ps H1 hl l1 pa pe so s1=>hR l as ps _ l1 pa pe s1⟩
 rintro pl as ps H1 hp1 pa1 pe s1
 have th1:=th.same s1
 refine ap (λ R=>∀cl (H':Hp),H1 cl=none->H' cl=some (.lst ((bC [] ks.length).map V.int))->Same H1 H'->R [some (.ref s),some (.int w1),some (.int h1),some v,some (.ref pl),some (.ref cl),none,none,none,none] H') (λ Dd hR=>?_) ?_
 ·obtain ⟨dx,r,rs,S1,S2,S3⟩:=id th1.sh
  refine ⟨_,Y,s,dx,_,Y,S1,(bV _ _ (by decide +kernel) (by decide +kernel)),s,b,ks,Y,th1.sh,λ l rs' hl tp=>?_⟩
  have s2:=Same.new hl (o:=.lst rs')
  have k2:(upd H1 l (.lst rs')) l=some (.lst rs'):=af
  generalize upd H1 l (.lst rs')=H2 at s2 k2 ⊢
  have tl:=Paired.length tp
  refine ⟨l,Y,⟨_,SqL.of k2⟩,(dF (K:=K) (.inl k2) (λ i ys Hx=>Same H2 Hx/\ys=List.replicate i (.int 0)) (λ i ys Hx _ ⟨sx,_⟩ o e=>sx _ _ e) ⟨Same.refl _,Y⟩ ?_ ?_).1 k2⟩
  ·rintro i x ys Hx hi ⟨sx,rfl⟩
   have hin:i < rs'.length:=(List.getElem?_eq_some_iff.mp hi).1
   refine ⟨by rw [List.length_replicate]; omega,leS.set rfl,cz ?_⟩
   show Nx rs'.length (λ i ys Hx=>Same H2 Hx/\ys=List.replicate i (V.int 0)) i (List.replicate i (V.int 0) ++ [.int 0]) Hx
   refine Nx.of hin ?_
   exact ⟨sx,(List.replicate_succ' ..).symm⟩
  ·rintro ys Hx ⟨sx,rfl⟩
   refine ⟨by rw [List.length_replicate]; omega,λ cl hcl=>hR cl _ ((s2.trans sx).free hcl) ?_ ((s2.trans sx).trans (Same.new hcl))⟩
   rw [af]
   congr 2
   rw [tl]
   unfold bC
   apply List.ext_getElem
   ·simp
   ·intro j h1 h2
    simp
 rintro cl H2 hcl hc2 s2
 have fc:H cl=none:=s1.free hcl
 have npc:pl≠cl:=λ z=>by rw [<- z,hp1] at hcl; cases hcl
 have pal:=Paired.length pa1
 have pa2:Paired (PA H2) as ps:=PA.keep (λ a xs e=>s2 _ _ e) pa1
 have hp2:=s2 _ _ hp1
 refine ap (λ R=>∀v6 v7 v8 v9 (H':Hp),H' cl=some (.lst ((bC ps ks.length).map V.int))->Same H H'->R [some (.ref s),some (.int w1),some (.int h1),some v,some (.ref pl),some (.ref cl),v6,v7,v8,v9] H') (λ Dd hR=>?_) ?_
 ·refine ⟨_,Y,pl,Y,⟨_,SqL.of hp2⟩,dA (xs:=as.map V.ref) (λ i σ' H'=>(∃v6 v7 v8 v9,σ'=[some (.ref s),some (.int w1),some (.int h1),some v,some (.ref pl),some (.ref cl),v6,v7,v8,v9])/\H' cl=some (.lst ((bC (ps.take i) ks.length).map V.int))/\H' pl=some (.lst (as.map V.ref))/\Paired (PA H') as ps/\Same H H') ⟨⟨_,_,_,_,Y⟩,hc2,hp2,pa2,s1.trans s2⟩ (λ i σ H' _ h=>SqL.of h.2.2.1) ?_ ?_⟩
  ·rintro i x σ H3 hi ⟨⟨v6,v7,v8,v9,rfl⟩,hc3,hp3,pa3,s3⟩
   rw [List.getElem?_map] at hi
   obtain ⟨a,ha,rfl⟩:=Option.map_eq_some_iff.mp hi
   obtain ⟨p,hpi,pA⟩:=Paired.getR pa3 ha
   have hk:=vR th.ok (pe.mem_iff.mp (List.mem_of_getElem? hpi))
   have pA:H3 a=some (.tup [.int p.k,.bl p.c,.int p.x,.int p.y]):=pA
   refine ⟨a,_,Y,SqT.of pA,Y,_,_,Y,_,_,Y,_,_,Y,_,_,Y,Y,?_⟩
   have hat:atI ((bC (ps.take i) ks.length).map V.int) (p.k:Int)=some (.int (((ps.take i).filter λ q=>q.k == p.k).length:Int)):=aE (by omega) (by rw [Int.toNat_natCast,List.getElem?_map,gL hk]; rfl)
   have hix:ixN ((bC (ps.take i) ks.length).map V.int).length (p.k:Int)=some p.k:=by
    unfold ixN
    rw [if_pos (by omega),List.length_map,dN,if_pos (by omega),Int.toNat_natCast]
   refine ⟨_,Y,_,Y,cl,_,_,_,Y,Y,by omega,hc3,hat,_,_,Y,Y,cl,_,_,p.k,Y,Y,hc3,hix,?_⟩
   have kt:∀ (o:HO) (a:Addr) (xs:List V),H3 a=some (.tup xs)->(upd H3 cl o) a=some (.tup xs):=λ o a xs e=>by
    rw [am (λ z=>by rw [z,hc3] at e; cases e)]; exact e
   refine ⟨⟨_,_,_,_,Y⟩,?_,by rw [am npc]; exact hp3,PA.keep (kt _) pa3,λ c o e=>by rw [am (λ z=>by rw [z,fc] at e; cases e)]; exact s3 _ _ e⟩
   rw [af,rJ hk,List.take_add_one,hpi]; rfl
  ·rintro σ H3 ⟨⟨v6,v7,v8,v9,rfl⟩,hc3,hp3,pa3,s3⟩
   rw [List.length_map,pal,List.take_length] at hc3
   exact hR _ _ _ _ _ hc3 s3
 rintro v6 v7 v8 v9 H3 hc3 s3
 rw [oh pe] at hc3
 exact ⟨_,Y,q cl H3 fc hc3 s3⟩
end
section
variable {P:Program} {w:World} {K:PySem.W.Frag} {mg:Str->Option Value} {base:Heap}
theorem scwortho:FnScope ["shop","wide","high","tree","counts"] ["shop","wide","high","tree"] (defScope dJ):=⟨Y,Y,Y,by decide +kernel,Y,by decide +kernel,by decide +kernel⟩
set_option maxHeartbeats 1000000 in
theorem oi {f C:Addr} {fd:FuncData} (F:Fun K "worth_of" "worth_of" dJ f fd) (B:Blt mg) (T:ShopTxt K C) (MK:Mn P w K mg base C "kinds" ["self"] 1 (gv C)) (DCo:Dn P w K mg base "counts_of" ["shop","wide","high","tree"] 9 (spCountsO C)):FnOk P w K mg base CX0 10 f fd ["shop","wide","high","tree"] (spWorthO C):=by
 refine F.ok scwortho (λ vs H Q E h=>?_) (λ cdv A outer s H vs Q E hr h=>?_)
 ·obtain ⟨pp,s,b,w1,h1,ks,v,d,t,rfl,_⟩:=h
  rfl
 obtain ⟨pp,s,b,w1,h1,ks,v,d,t,rfl,th,k8,gk,q⟩:=h
 have nd:=scwortho.nd
 refine ⟨_,(@ae _ _ _ _ _ (@az _ _ 4 _ _ _ _ nd rfl (Or.inl rfl) (@aj _ _ _ _ _ _ _ _ _ _ DCo hr rfl (@aa _ _ _ _ _ (pv 0) (@aa _ _ _ _ _ (pv 1) (@aa _ _ _ _ _ (pv 2) (@aa _ _ _ _ _ (pv 3) ab rfl) rfl) rfl) rfl) (by decide) rfl rfl) rfl (Or.inl rfl)) (@ag _ _ _ (@av _ _ _ _ (@aF _ _ _ _ _ _ _ _ _ (iF rfl) rfl B.sum PyProof.Rows.boot_sum (@aa _ _ _ _ _ (gt (own:=["count","kind"]) (cs:=[]) (cap:=[]) rfl (vz rfl B.zip (@aa _ _ _ _ _ (pv 4) (@aa _ _ _ _ _ (fL (pv 0) T.cl MK (hr.mono (by decide))) ab rfl) rfl)) (bQ (sc:=defScope dJ) (N:=["shop","wide","high","tree","counts"]) rfl rfl (by decide +kernel)) (λ _ _ _ _ _=>qy K rfl rfl (by show List.Nodup (["count","kind"]:List Str) ; decide +kernel) rfl rfl rfl rfl) (λ _ _ _ _ _=>cw) (λ _ _ _ _ _=>(@ay _ _ _ _ _ _ _ _ dB (pv 0) (ao (r:=rIxT K) ix_tup (pv 1) ad (λ _ _=>rfl))))) ab rfl) (by decide) (by decide) rfl rfl)))),?_⟩
 have sz:(40000:Nat)<=sizeLine:=by decide
 refine ap (λ R=>∀cl (H':Hp),H' cl=some (.lst ((bC (pcs b t w1 h1) ks.length).map V.int))->Same H H'->R [some (.ref s),some (.int w1),some (.int h1),some v,some (.ref cl)] H') (λ Dd hR=>?_) ?_
 ·exact ⟨_,Y,_,Y,_,Y,_,Y,pp,s,b,w1,h1,ks,v,d,t,Y,th,k8,λ l H1 hl l1 s1=>hR l _ l1 s1⟩
 rintro cl H1 hc1 s1
 have th1:=th.same s1
 obtain ⟨dx,r,rs,S1,S2,S3⟩:=id th1.sh
 obtain ⟨m1,m2⟩:=TrD.many (b:=b) t d 0 0 w1 h1 th.td
 have wd:=th.wd
 have ln:=th.ln
 have pl54:(pcs b t w1 h1).length<=63:=Nat.le_trans (List.length_filterMap_le _ _) (by omega)
 refine ⟨_,Y,_,Y,s,dx,_,Y,S1,(bV _ _ (by decide +kernel) (by decide +kernel)),s,b,ks,Y,th1.sh,λ l rs' hl tp=>?_⟩
 have s2:=Same.new hl (o:=.lst rs')
 have k2:(upd H1 l (.lst rs')) l=some (.lst rs'):=af
 have tp2:Tups (upd H1 l (.lst rs')) rs' ks:=Tups.keep (λ c xs e=>s2 _ _ e) tp
 generalize upd H1 l (.lst rs')=H2 at s2 k2 tp2 ⊢
 have tl:=Paired.length tp
 have hc2:=s2 _ _ hc1
 have e60:(100:Int) < 10 ^ 60:=by decide
 generalize hcn:bC (pcs b t w1 h1) ks.length=cn at *
 have cl0:cn.length=ks.length:=by rw [<- hcn,dN]
 have cb:∀ (i:Nat) (c:Int),cn[i]? = some c->0<=c/\c<=63:=λ i c hi=>by
  have hlt:i < ks.length:=by rw [<- cl0]; exact (List.getElem?_eq_some_iff.mp hi).1
  rw [<- hcn,gL hlt] at hi
  cases hi
  have:=List.length_filter_le (λ p:Pce=>p.k == i) (pcs b t w1 h1)
  omega
 refine ⟨cl,l,_,_,Y,hc2,k2,qz (xs:=cn.map V.int) (ys:=rs') (λ i zs H4=>Same H2 H4/\zs=(((cn.zip ks).take i).map λ z=>z.1 * z.2.wo).map V.int) (by rw [List.length_map,cl0]; exact tl.symm) (λ i zs H4 ⟨s4,_⟩=>⟨s4 _ _ hc2,s4 _ _ k2⟩) ⟨Same.refl _,Y⟩ (λ i zs H4 hi ⟨_,e⟩=>by rw [e,List.length_map,List.length_map,List.length_take]; rw [List.length_map] at hi; omega) ?_ ?_⟩
 ·rintro i x y tz zs H4 hx hy htz ⟨s4,rfl⟩
  rw [List.getElem?_map] at hx
  obtain ⟨c,hc,rfl⟩:=Option.map_eq_some_iff.mp hx
  obtain ⟨k,hk,ak,rfl,hak⟩:=Paired.getR tp2 hy
  have g:=gk k (List.mem_of_getElem? hk)
  have hcb:=cb i c hc
  have s5:=Same.new htz (o:=.tup [.int c,.ref ak])
  have k5:(upd H4 tz (.tup [.int c,.ref ak])) tz=some (.tup [.int c,.ref ak]):=af
  generalize upd H4 tz (.tup [.int c,.ref ak])=H5 at s5 k5 ⊢
  have ak5:H5 ak=some (.tup [.int k.w,.int k.h,.int k.wo,.int k.wa,.bl k.tu]):=s5 _ _ (s4 _ _ hak)
  refine ⟨tz,_,Y,SqT.of k5,Y,_,_,Y,_,_,Y,Y,vO (leS.set rfl) (leS.set rfl),cz ?_⟩
  refine ⟨_,Y,_,Y,ak,_,2,_,Y,Y,SqT.of ak5,Y,_,_,Y,Y,?_,Nx.of (by rw [List.length_map,cl0]; exact (List.getElem?_eq_some_iff.mp hk).1) ⟨s4.trans s5,?_⟩⟩
  ·exact .inl ⟨by omega,by omega⟩
  ·have hzz:(cn.zip ks)[i]? = some (c,k):=by rw [List.getElem?_zip_eq_some]; exact ⟨hc,hk⟩
   rw [List.take_add_one,hzz]
   simp only [Option.toList_some,List.map_append,List.map_cons,List.map_nil]
 ·rintro zs H4 ⟨s4,rfl⟩
  refine ⟨by rw [List.length_map,List.length_map,List.length_take,List.length_zip]; omega,λ p hp=>?_⟩
  rw [List.length_map,List.take_of_length_le (by rw [List.length_zip]; omega)]
  exact ⟨p,_,Y,SqL.of af,q _ (((s1.trans s2).trans s4).trans (Same.new hp))⟩
end
def pcA (ks:List Kd) (f:Lf):Int:=match f.t with
 | .piece i c _ _=>(match ks[i]? with
  | some k=>sd1 k c * sd2 k c
  | none=>0)
 | _=>0
def rsA (f:Lf):Int:=match f.t with
 | .rest=>f.w * f.h
 | _=>0
def mgA (ks:List Kd) (f:Lf):Int:=match f.t with
 | .piece _ _ _ _=>f.w * f.h - pcA ks f
 | _=>0
def bv (g:Lf->Int) (fs:List Lf):Int:=(fs.map g).sum
theorem cm (g:Lf->Int) (fs:List Lf) (f:Lf):bv g (fs ++ [f])=bv g fs + g f:=by unfold bv; rw [List.map_append,List.sum_append]; simp
theorem fz {b:Int} {ks:List Kd} (b0:0<=b):∀ (t:Tr) (x y w h:Int),1<=w->1<=h->okT b ks w h t->∀f∈lvs b t x y w h,1<=f.w/\f.w<=w/\1<=f.h/\f.h<=h/\okT b ks f.w f.h f.t
 | .rest,x,y,w,h,w0,h0,ok,f,hf=>by cases List.mem_singleton.mp hf; exact ⟨w0,Int.le_refl _,h0,Int.le_refl _,ok⟩
 | .piece ..,x,y,w,h,w0,h0,ok,f,hf=>by cases List.mem_singleton.mp hf; exact ⟨w0,Int.le_refl _,h0,Int.le_refl _,ok⟩
 | .cut true p l r,x,y,w,h,w0,h0,⟨p1,hp,hl,hr⟩,f,hf=>by
  rw [lvs] at hf
  rcases List.mem_append.mp hf with z | z
  ·have:=fz b0 r _ _ _ _ (by omega) h0 hr f z
   exact ⟨this.1,by omega,this.2.2.1,this.2.2.2.1,this.2.2.2.2⟩
  ·have:=fz b0 l _ _ _ _ p1 h0 hl f z
   exact ⟨this.1,by omega,this.2.2.1,this.2.2.2.1,this.2.2.2.2⟩
 | .cut false p l r,x,y,w,h,w0,h0,⟨p1,hp,hl,hr⟩,f,hf=>by
  rw [lvs] at hf
  rcases List.mem_append.mp hf with z | z
  ·have:=fz b0 r _ _ _ _ w0 (by omega) hr f z
   exact ⟨this.1,this.2.1,this.2.2.1,by omega,this.2.2.2.2⟩
  ·have:=fz b0 l _ _ _ _ w0 p1 hl f z
   exact ⟨this.1,this.2.1,this.2.2.1,by omega,this.2.2.2.2⟩
section
variable {P:Program} {w:World} {K:PySem.W.Frag} {mg:Str->Option Value} {base:Heap}
inductive spAreas (C:Addr) (vs:List V) (H:Hp) (Q:VK) (E_:XK):Prop
 | mk (pp s:Addr) (b w h:Int) (ks:List Kd) (v:V) (d:PyData) (t:Tr) (e_1:vs=[.ref s,.int w,.int h,v]) (e_2:TrH C pp s b w h ks v d t H) (e_3:0<=b) (e_4:w<=10 ^ 60) (e_5:h<=10 ^ 60) (e_6:(∀k∈ks,Good k)) (e_7:∀ (l:Addr) (A R M:Int) (H':Hp),A=bv (pcA ks) (lvs b t 0 0 w h)->R=bv rsA (lvs b t 0 0 w h)->M=bv (mgA ks) (lvs b t 0 0 w h)->H l=none->H' l=some (.tup [.int A,.int R,.int M,.int (w * h - A - R - M)])->Same H H'->Q (.ref l) H'):spAreas C vs H Q E_
theorem scareas:FnScope ["shop","wide","high","tree","pieces","rests","margins","x","y","part_wide","part_high","leaf","cells","piece_wide","piece_high"] ["shop","wide","high","tree"] (defScope fi):=⟨Y,Y,Y,by decide +kernel,Y,by decide +kernel,by decide +kernel⟩
theorem rK {f C wa:Addr} {fd:FuncData} (F:Fun K "areas_of" "areas_of" fi f fd) (B:Blt mg) (T:ShopTxt K C) (Z:TrC K mg wa) (MS:Mn P w K mg base C "sides" ["self","kind","turned"] 3 (spSides K C)) (DC:Dn P w K mg base "check_tree" ["shop","wide","high","thing"] 7 (spCheckT C)) (DL:Dn P w K mg base "leaves_of" ["shop","wide","high","tree"] 3 (spLeaves C)):FnOk P w K mg base CX0 8 f fd ["shop","wide","high","tree"] (spAreas C):=by
 refine F.ok scareas (λ vs H Q E h=>?_) (λ cdv A outer s H vs Q E hr h=>?_)
 ·obtain ⟨pp,s,b,w1,h1,ks,v,d,t,rfl,_⟩:=h
  rfl
 obtain ⟨pp,s,b,w1,h1,ks,v,d,t,rfl,th,b0,w60,h60,gk,q⟩:=h
 have nd:=scareas.nd
 obtain ⟨trs,hrs⟩:=Z.rs
 refine ⟨_,(@ae _ _ _ _ _ (@bh _ _ _ _ (@aj _ _ _ _ _ _ _ _ _ _ DC hr rfl (@aa _ _ _ _ _ (pv 0) (@aa _ _ _ _ _ (pv 1) (@aa _ _ _ _ _ (pv 2) (@aa _ _ _ _ _ (pv 3) ab rfl) rfl) rfl) rfl) (by decide) rfl rfl) rfl) (@ae _ _ _ _ _ (tE (i:=4) (j:=5) (k:=6) nd rfl rfl rfl rfl rfl rfl ad) (@ae _ _ _ _ _ (@bO _ _ _ _ _ _ _ _ PassesOwn.never rfl (dP (@aj _ _ _ _ _ _ _ _ _ _ DL (hr.mono (by decide)) rfl (@aa _ _ _ _ _ (pv 0) (@aa _ _ _ _ _ (pv 1) (@aa _ _ _ _ _ (pv 2) (@aa _ _ _ _ _ (pv 3) ab rfl) rfl) rfl) rfl) (by decide) rfl rfl)) (aT rfl (ah (ai (i:=7) nd rfl (Or.inl rfl)) (ah (ai (i:=8) nd rfl (Or.inl rfl)) (ah (ai (i:=9) nd rfl (Or.inl rfl)) (ah (ai (i:=10) nd rfl (Or.inl rfl)) (ah (ai (i:=11) nd rfl (Or.inl rfl)) aG)))))) (@ae _ _ _ _ _ (@az _ _ 12 _ _ _ _ nd rfl (Or.inl rfl) (@ay _ _ _ _ _ _ _ _ gw (pv 9) (pv 10)) rfl (Or.inl rfl)) (@ag _ _ _ (@aI _ _ _ _ _ _ _ _ (@aB _ _ _ _ _ _ _ _ bn (@ao _ _ _ _ _ _ _ aY (pv 11) ad (λ _ _=>rfl)) (aR (v:=.str "rest") rfl hrs ⟨trs,Y⟩) (aD _)) (@ag _ _ _ (iW (i:=5) nd rfl (Or.inl rfl) (pv 12) gN)) (@ae _ _ _ _ _ (@bd _ _ _ _ _ _ (mj (pv 0) T.cl MS (hr.mono (by decide)) (@aa _ _ _ _ _ (@ao _ _ _ _ _ _ _ aY (pv 11) ad (λ _ _=>rfl)) (@aa _ _ _ _ _ (@ao _ _ _ _ _ _ _ aY (pv 11) ad (λ _ _=>rfl)) ab rfl) rfl)) (aT rfl (ah (ai (i:=13) nd rfl (Or.inl rfl)) (ah (ai (i:=14) nd rfl (Or.inl rfl)) aG))) rfl rfl rfl) (@ae _ _ _ _ _ (iW (i:=4) nd rfl (Or.inl rfl) (@ay _ _ _ _ _ _ _ _ gw (pv 13) (pv 14)) gN) (@ag _ _ _ (iW (i:=6) nd rfl (Or.inl rfl) (@ay _ _ _ _ _ _ _ _ aU (pv 12) (@ay _ _ _ _ _ _ _ _ gw (pv 13) (pv 14))) gN))))))) (by intro _; rfl)) (@ag _ _ _ (@av _ _ _ _ (@ax _ _ _ _ _ (@aa _ _ _ _ _ (pv 4) (@aa _ _ _ _ _ (pv 5) (@aa _ _ _ _ _ (pv 6) (@aa _ _ _ _ _ (@ay _ _ _ _ _ _ _ _ aU (@ay _ _ _ _ _ _ _ _ aU (@ay _ _ _ _ _ _ _ _ aU (@ay _ _ _ _ _ _ _ _ gw (pv 1) (pv 2)) (pv 4)) (pv 5)) (pv 6)) ab rfl) rfl) rfl) rfl))))))),?_⟩
 have sz:(40000:Nat)<=sizeLine:=by decide
 obtain ⟨m1,m2⟩:=TrD.many (b:=b) t d 0 0 w1 h1 th.td
 have wd:=th.wd
 have ln:=th.ln
 refine ⟨_,Y,_,Y,_,Y,_,Y,pp,s,b,w1,h1,ks,v,d,Y,th.sh,th.w1,th.h1,th.dt,by omega,TrD.good t d w1 h1 th.td th.ok,λ H1 s1=>?_⟩
 have th1:=th.same s1
 refine bF (λ σ' H'=>σ'=[some (.ref s),some (.int w1),some (.int h1),some v,none,none,none,none,none,none,none,none,none,none,none]/\H1=H') (λ R hR=>hR _ _ ⟨rfl,rfl⟩) ?_
 rintro _ _ ⟨rfl,rfl⟩
 refine bF (λ σ' H'=>σ'=[some (.ref s),some (.int w1),some (.int h1),some v,some (.int 0),some (.int 0),some (.int 0),none,none,none,none,none,none,none,none]/\H1=H') (λ R hR=>hR _ _ ⟨rfl,rfl⟩) ?_
 rintro _ _ ⟨rfl,rfl⟩
 refine ap (λ R=>∀v7 v8 v9 v10 v11 v12 v13 v14 (H':Hp),Same H H'->R [some (.ref s),some (.int w1),some (.int h1),some v,some (.int (bv (pcA ks) (lvs b t 0 0 w1 h1))),some (.int (bv rsA (lvs b t 0 0 w1 h1))),some (.int (bv (mgA ks) (lvs b t 0 0 w1 h1))),v7,v8,v9,v10,v11,v12,v13,v14] H') (λ Dd hR=>?_) ?_
 ·refine ⟨_,Y,_,Y,_,Y,_,Y,pp,s,b,w1,h1,ks,v,d,t,Y,th1.sh,th1.dt,th1.td,by omega,λ ll us H3 hll l3 pu s13=>?_⟩
  have s03:=s1.trans s13
  have ul:=Paired.length pu
  refine ⟨ll,Y,⟨_,SqL.of l3⟩,dA (xs:=us) (λ i σ' H'=>(∃v7 v8 v9 v10 v11 v12 v13 v14,σ'=[some (.ref s),some (.int w1),some (.int h1),some v,some (.int (bv (pcA ks) ((lvs b t 0 0 w1 h1).take i))),some (.int (bv rsA ((lvs b t 0 0 w1 h1).take i))),some (.int (bv (mgA ks) ((lvs b t 0 0 w1 h1).take i))),v7,v8,v9,v10,v11,v12,v13,v14])/\Same H3 H') ⟨⟨_,_,_,_,_,_,_,_,Y⟩,Same.refl _⟩ (λ i σ H' _ h=>SqL.of (h.2 _ _ l3)) ?_ ?_⟩
  ·rintro i x σ H4 hi ⟨⟨v7,v8,v9,v10,v11,v12,v13,v14,rfl⟩,s34⟩
   obtain ⟨f,hf,a,u,du,rfl,ha,hdu,tdu⟩:=Paired.getR pu hi
   have tk:(lvs b t 0 0 w1 h1).take (i + 1)=(lvs b t 0 0 w1 h1).take i ++ [f]:=by rw [List.take_add_one,hf]; rfl
   obtain ⟨fw0,fw1,fh0,fh1,okf⟩:=fz b0 t 0 0 w1 h1 th.w1 th.h1 th.ok f (List.mem_of_getElem? hf)
   refine ⟨a,_,Y,SqT.of (s34 _ _ ha),Y,_,_,Y,_,_,Y,_,_,Y,_,_,Y,_,_,Y,Y,?_⟩
   refine ⟨_,Y,_,Y,_,_,Y,Y,⟨b60 (by omega) (by omega),b60 (by omega) (by omega)⟩,?_⟩
   have s04:=s03.trans s34
   have hdu4:Dt pp H4 u du:=hdu.same (s13.trans s34)
   rcases cC b t 0 0 w1 h1 f (List.mem_of_getElem? hf) with et | ⟨ki,c,px,py,et⟩
   ·rw [et] at tdu
    obtain ⟨a', xs, rfl, hx, dxs⟩:=hdu4.ref_row (show aH du=some [.str "rest"] from tdu)
    cases dxs with
    | cons hd0 dxs =>
    cases hd0
    cases dxs
    have e1:pcA ks f=0:=by unfold pcA; rw [et]
    have e2:rsA f=f.w * f.h:=by unfold rsA; rw [et]
    have e3:mgA ks f=0:=by unfold mgA; rw [et]
    refine ⟨_,Y,ixR (Same.refl _) hx (aE (Int.le_refl _) rfl) ⟨Y,_,Y,?_⟩⟩
    refine aP ⟨_,rfl,_,rfl,_,_,rfl,rfl,?_⟩
    refine ⟨?_,s34⟩
    rw [tk,cm,cm,cm,e1,e2,e3,Int.add_zero,Int.add_zero]
    exact ⟨_,_,_,_,_,_,_,_,Y⟩
   ·rw [et] at tdu okf
    obtain ⟨k,hk,hc,x0,y0,hxw,hyh⟩:=okf
    have gk1:=gk k (List.mem_of_getElem? hk)
    have sw:=gk1.w
    have sh:=gk1.h
    have sb:1<=sd1 k c/\1<=sd2 k c:=by cases c <;> exact ⟨by assumption,by assumption⟩
    obtain ⟨a', xs, rfl, hx, dxs⟩:=hdu4.ref_row (show aH du=some [.str "piece", .int ki, .bool c, .int px, .int py] from tdu)
    cases dxs with
    | cons hd0 dxs =>
    cases dxs with
    | cons hd1 dxs =>
    cases dxs with
    | cons hd2 dxs =>
    cases dxs with
    | cons hd3 dxs =>
    cases dxs with
    | cons hd4 dxs =>
    cases dxs
    cases hd0; cases hd1; cases hd2; cases hd3; cases hd4
    have e1:pcA ks f=sd1 k c * sd2 k c:=by unfold pcA; rw [et]; dsimp only; rw [hk]
    have e2:rsA f=0:=by unfold rsA; rw [et]
    have e3:mgA ks f=f.w * f.h - sd1 k c * sd2 k c:=by unfold mgA; rw [et]; dsimp only; rw [e1]
    refine ⟨_,Y,ixR (Same.refl _) hx (aE (Int.le_refl _) rfl) ⟨Y,_,Y,?_⟩⟩
    refine aO ?_
    have SH4:=dq s04 th.sh
    obtain ⟨dx,r,rs,S1,S2,S3⟩:=id SH4
    refine ⟨_,Y,s,dx,_,Y,S1,(bV _ _ (by decide +kernel) (by decide +kernel)),_,Y,ixR (Same.refl _) hx (aE (by decide) rfl) ⟨_,Y,ixR (Same.refl _) hx (aE (by decide) rfl) ?_⟩⟩
    refine ⟨s,b,ks,.int ki,.bl c,_,_,Y,SH4,Ty.int,Ty.bl,mH hk hc,λ i' c' k' p e1' e2' hk' _ hp=>?_⟩
    cases e1'
    cases e2'
    rw [Int.toNat_natCast,hk] at hk'
    cases hk'
    rw [jX]
    have s5:=Same.new hp (o:=.tup [.int (sd1 k c),.int (sd2 k c)])
    have k5:(upd H4 p (.tup [.int (sd1 k c),.int (sd2 k c)])) p=some (.tup [.int (sd1 k c),.int (sd2 k c)]):=af
    generalize upd H4 p (.tup [.int (sd1 k c),.int (sd2 k c)])=H5 at s5 k5 ⊢
    refine ⟨p,_,Y,SqT.of k5,Y,_,_,Y,_,_,Y,Y,?_⟩
    have q1:=b60 (show 0<=sd1 k c by omega) (by omega)
    have q2:=b60 (show 0<=sd2 k c by omega) (by omega)
    refine ⟨_,Y,_,Y,_,Y,_,_,Y,Y,⟨q1,q2⟩,_,_,Y,Y,?_⟩
    refine ⟨_,Y,_,Y,_,Y,_,Y,_,_,Y,Y,⟨q1,q2⟩,_,_,Y,Y,_,_,Y,Y,?_⟩
    refine ⟨?_,s34.trans s5⟩
    rw [tk,cm,cm,cm,e1,e2,e3,Int.add_zero]
    exact ⟨_,_,_,_,_,_,_,_,Y⟩
  ·rintro σ H4 ⟨⟨v7,v8,v9,v10,v11,v12,v13,v14,rfl⟩,s34⟩
   rw [ul,List.take_length]
   exact hR _ _ _ _ _ _ _ _ _ (s03.trans s34)
 rintro v7 v8 v9 v10 v11 v12 v13 v14 H3 s3
 obtain ⟨A,hA⟩:∃A,A=bv (pcA ks) (lvs b t 0 0 w1 h1):=⟨_,Y⟩
 obtain ⟨R,hR⟩:∃R,R=bv rsA (lvs b t 0 0 w1 h1):=⟨_,Y⟩
 obtain ⟨M,hM⟩:∃M,M=bv (mgA ks) (lvs b t 0 0 w1 h1):=⟨_,Y⟩
 rw [<- hA,<- hR,<- hM]
 have w0:=th.w1
 have h0:=th.h1
 refine ⟨_,Y,_,Y,_,Y,_,Y,_,Y,_,_,Y,Y,⟨b60 (by omega) (by omega),b60 (by omega) (by omega)⟩,_,Y,_,_,Y,Y,_,Y,_,_,Y,Y,_,Y,_,_,Y,Y,zS4,λ l hl=>?_⟩
 exact q l A R M _ hA hR hM (s3.free hl) af (s3.trans (Same.new hl))
end
abbrev wv (d:Bool):V:=.str (if d=true then "down" else "across")
def mR (la:Option Bool) (dn:Bool):Nat:=match la with
 | none=>0
 | some d=>if d=dn then 0 else 1
def tn:Tr->Option Bool->Nat->Nat
 | .cut dn _ l r,la,n=>max (tn l (some dn) (n + mR la dn)) (tn r (some dn) (n + mR la dn))
 | .rest,_,n=>n
 | .piece _ _ _ _,_,n=>n
theorem uV:∀ (t:Tr) (la:Option Bool) (n:Nat),n<=tn t la n
 | .rest,_,_=>Nat.le_refl _
 | .piece ..,_,_=>Nat.le_refl _
 | .cut dn _ l r,la,n=>by
  have:=uV l (some dn) (n + mR la dn)
  show n<=max _ _
  omega
structure Sk where
 t:Tr
 la:Option Bool
 n:Nat
def laV:Option Bool->V
 | none=>.non
 | some d=>wv d
def SkAt (p:Addr) (H0 H:Hp) (v:V) (k:Sk):Prop:=∃a u d,v=.ref a/\H a=some (.tup [u,laV k.la,.int (k.n:Nat)])/\Dt p H0 u d/\TrD k.t d
theorem SkAt.keep {p:Addr} {H0 H H':Hp} (k:∀a xs,H a=some (.tup xs)->H' a=some (.tup xs)) {v:V} {t:Sk} (h:SkAt p H0 H v t):SkAt p H0 H' v t:=by
 obtain ⟨a,u,d,e,h1,h2,h3⟩:=h
 exact ⟨a,u,d,e,k _ _ h1,h2,h3⟩
def ksz (ts:List Sk):Nat:=(ts.map λ k=>szT k.t).sum
theorem mS (a b:List Sk):ksz (a ++ b)=ksz a + ksz b:=by unfold ksz; rw [List.map_append,List.sum_append]
theorem mT:∀ts:List Sk,ts.length<=ksz ts
 | []=>Nat.le_refl _
 | t :: r=>by
  have:=mT r
  have:=kh t.t
  show r.length + 1<=szT t.t + ksz r
  omega
def fV:List Sk->Nat
 | []=>0
 | k :: r=>max (tn k.t k.la k.n) (fV r)
theorem ik:∀a b:List Sk,fV (a ++ b)=max (fV a) (fV b)
 | [],b=>(Nat.zero_max (fV b)).symm
 | k :: r,b=>by
  show max _ (fV (r ++ b))=max (max _ (fV r)) (fV b)
  rw [ik r b,Nat.max_assoc]
theorem vS {a n S M:Nat} (h:n<=M):max (max a n) (max S M)=max a (max S M) :=
 Nat.le_antisymm (Nat.max_le.2 ⟨Nat.max_le.2 ⟨Nat.le_max_left _ _,Nat.le_trans h (Nat.le_trans (Nat.le_max_right _ _) (Nat.le_max_right _ _))⟩,Nat.le_max_right _ _⟩) (Nat.max_le.2 ⟨Nat.le_trans (Nat.le_max_left _ _) (Nat.le_max_left _ _),Nat.le_max_right _ _⟩)
section
variable {P:Program} {w:World} {K:PySem.W.Frag} {mg:Str->Option Value} {base:Heap}
inductive spTurns (C:Addr) (vs:List V) (H:Hp) (Q:VK) (E_:XK):Prop
 | mk (pp s:Addr) (b w h:Int) (ks:List Kd) (v:V) (d:PyData) (t:Tr) (e_1:vs=[.ref s,.int w,.int h,v]) (e_2:ShopAt C H s b ks) (e_3:1<=w) (e_4:1<=h) (e_5:Dt pp H v d) (e_6:wt d<=30000) (e_7:TrD t d) (e_8:okT b ks w h t) (e_9:szT t<=10000) (e_10:∀H',Same H H'->Q (.int (tn t none 0:Nat)) H'):spTurns C vs H Q E_
theorem scturns:FnScope ["shop","wide","high","tree","most","waiting","part_tree","way_ahead","turns","way"] ["shop","wide","high","tree"] (defScope fj):=⟨Y,Y,Y,by decide +kernel,Y,by decide +kernel,by decide +kernel⟩
theorem rL {f C wa:Addr} {fd:FuncData} (F:Fun K "turns_of" "turns_of" fj f fd) (B:Blt mg) (Z:TrC K mg wa) (DC:Dn P w K mg base "check_tree" ["shop","wide","high","thing"] 7 (spCheckT C)):FnOk P w K mg base CX0 8 f fd ["shop","wide","high","tree"] (spTurns C):=by
 refine F.ok scturns (λ vs H Q E h=>?_) (λ cdv A outer s H vs Q E hr h=>?_)
 ·obtain ⟨pp,s,b,w1,h1,ks,v,d,t,rfl,_⟩:=h
  rfl
 obtain ⟨pp,s,b,w1,h1,ks,v,d,t,rfl,SH,w0,h0,hd,dz,td,hok,tz,q⟩:=h
 have nd:=scturns.nd
 refine ⟨_,(@ae _ _ _ _ _ (@bh _ _ _ _ (@aj _ _ _ _ _ _ _ _ _ _ DC hr rfl (@aa _ _ _ _ _ (pv 0) (@aa _ _ _ _ _ (pv 1) (@aa _ _ _ _ _ (pv 2) (@aa _ _ _ _ _ (pv 3) ab rfl) rfl) rfl) rfl) (by decide) rfl rfl) rfl) (@ae _ _ _ _ _ (@az _ _ 4 _ _ _ _ nd rfl (Or.inl rfl) ad rfl (Or.inl rfl)) (@ae _ _ _ _ _ (@az _ _ 5 _ _ _ _ nd rfl (Or.inl rfl) (@aM _ _ _ _ (@aa _ _ _ _ _ (@ax _ _ _ _ _ (@aa _ _ _ _ _ (pv 3) (@aa _ _ _ _ _ iT (@aa _ _ _ _ _ ad ab rfl) rfl) rfl)) ab rfl)) rfl (Or.inl rfl)) (@ae _ _ _ _ _ (eP PassesOwn.never (eS (pv 5) (λ _=>rfl)) (@ae _ _ _ _ _ (@bd _ _ _ _ _ _ (jb PySem.F.plainAttrs_list PySem.F.slot_list_pop PySem.F.type_list_pop jc (pv 5)) (aT rfl (ah (ai (i:=6) nd rfl (Or.inl rfl)) (ah (ai (i:=7) nd rfl (Or.inl rfl)) (ah (ai (i:=8) nd rfl (Or.inl rfl)) aG)))) rfl rfl rfl) (@ae _ _ _ _ _ (@az _ _ 4 _ _ _ _ nd rfl (Or.inl rfl) (@aF _ _ _ _ _ _ _ _ _ (fF rfl) rfl B.max PyProof.Rows.boot_max (@aa _ _ _ _ _ (pv 4) (@aa _ _ _ _ _ (pv 8) ab rfl) rfl) (by decide) (by decide) rfl rfl) rfl (Or.inl rfl)) (@ae _ _ _ _ _ (@az _ _ 9 _ _ _ _ nd rfl (Or.inl rfl) (@ao _ _ _ _ _ _ _ aY (pv 6) ad (λ _ _=>rfl)) rfl (Or.inl rfl)) (@ag _ _ _ (@aI _ _ _ _ _ _ _ _ (@aB _ _ _ _ _ _ _ _ fJ (pv 9) (aR (v:=.ref wa) rfl Z.wy rfl) rfl) (@ae _ _ _ _ _ (@aI _ _ _ _ _ _ _ _ (PW.pt (kF (@aB _ _ _ _ _ _ _ _ sK (pv 7) iT (aD _)) (iV (@aB _ _ _ _ _ _ _ _ gQ (pv 7) (pv 9) (aD _))))) (@ag _ _ _ (iW (i:=8) nd rfl (Or.inl rfl) ad gN)) aA) (@ag _ _ _ (@bh _ _ _ _ (@dE _ _ _ _ _ _ _ _ _ _ _ _ PySem.F.plainAttrs_list PySem.F.slot_list_extend PySem.F.type_list_extend dQ (pv 5) (@aa _ _ _ _ _ (@aM _ _ _ _ (@aa _ _ _ _ _ (@ax _ _ _ _ _ (@aa _ _ _ _ _ (@ao _ _ _ _ _ _ _ aY (pv 6) ad (λ _ _=>rfl)) (@aa _ _ _ _ _ (pv 9) (@aa _ _ _ _ _ (pv 8) ab rfl) rfl) rfl)) (@aa _ _ _ _ _ (@ax _ _ _ _ _ (@aa _ _ _ _ _ (@ao _ _ _ _ _ _ _ aY (pv 6) ad (λ _ _=>rfl)) (@aa _ _ _ _ _ (pv 9) (@aa _ _ _ _ _ (pv 8) ab rfl) rfl) rfl)) ab rfl) rfl)) ab rfl) rfl rfl rfl rfl rfl) rfl))) aA)))))) (@ag _ _ _ (@av _ _ _ _ (pv 4))))))),?_⟩
 refine ap (λ R=>∀ (H':Hp),Same H H'->R [some (.ref s),some (.int w1),some (.int h1),some v,none,none,none,none,none,none] H') (λ Dd hR=>?_) ?_
 ·exact ⟨_,Y,_,Y,_,Y,_,Y,pp,s,b,w1,h1,ks,v,d,Y,SH,w0,h0,hd,dz,TrD.good t d w1 h1 td hok,λ H1 s1=>hR _ s1⟩
 rintro H0 s0
 refine bF (λ σ' H'=>σ'=[some (.ref s),some (.int w1),some (.int h1),some v,some (.int 0),none,none,none,none,none]/\H0=H') (λ R hR=>hR _ _ ⟨rfl,rfl⟩) ?_
 rintro _ _ ⟨rfl,rfl⟩
 refine ap (λ R=>∀ (t' wl:Addr) (H':Hp),H' t'=some (.tup [v,.non,.int 0])->H' wl=some (.lst [.ref t'])->H wl=none->Same H H'->R [some (.ref s),some (.int w1),some (.int h1),some v,some (.int 0),some (.ref wl),none,none,none,none] H') (λ Dd hR=>?_) ?_
 ·refine ⟨_,Y,zS3,λ t' ht'=>?_⟩
  obtain ⟨Ha,e1,k1,s1⟩:∃H',upd H0 t' (.tup [v,.non,.int 0])=H'/\H' t'=some (.tup [v,.non,.int 0])/\Same H0 H':=⟨_,Y,af,Same.new ht'⟩
  rw [show upd H0 t' _=Ha from e1]
  refine ⟨zS1,λ wl hwl=>?_⟩
  have fw:H wl=none:=(s0.trans s1).free hwl
  obtain ⟨Hb,e2,k2,s2⟩:∃H',upd Ha wl (.lst [.ref t'])=H'/\H' wl=some (.lst [.ref t'])/\Same Ha H':=⟨_,Y,af,Same.new hwl⟩
  rw [show upd Ha wl _=Hb from e2]
  exact hR t' wl _ (s2 _ _ k1) k2 fw ((s0.trans s1).trans s2)
 rintro t' wl Hb kt' kb fw sab
 refine bF (λ σ' H'=>∃v6 v7 v8 v9:Option V,σ'=[some (.ref s),some (.int w1),some (.int h1),some v,some (.int (tn t none 0:Nat)),some (.ref wl),v6,v7,v8,v9]/\Same H H') (λ R hR=>?_) ?_
 ·refine ⟨λ m σ' H'=>∃ (vs:List V) (ts:List Sk) (m0:Nat) (v6 v7 v8 v9:Option V),σ'=[some (.ref s),some (.int w1),some (.int h1),some v,some (.int (m0:Nat)),some (.ref wl),v6,v7,v8,v9]/\m=ksz ts/\H' wl=some (.lst vs)/\Paired (SkAt pp H H') vs ts/\ksz ts<=10000/\max m0 (fV ts)=tn t none 0/\Same H H',⟨_,[.ref t'],[⟨t,none,0⟩],0,none,none,none,none,Y,Y,kb,.cons ⟨t',v,d,Y,kt',hd,td⟩ .nil,(by show szT t + 0<=10000; omega),(by show max 0 (max (tn t none 0) 0)=_; omega),sab⟩,?_⟩
  rintro m σ H1 ⟨vs,ts,m0,v6,v7,v8,v9,rfl,rfl,hw,pr,sz1,al,s1⟩
  refine ⟨_,Y,_,.inl ⟨vs,SqL.of hw,Y⟩,?_⟩
  rcases List.eq_nil_or_concat vs with rfl | ⟨vs',v0,rfl⟩
  ·have ets:ts=[]:=by
    have:=Paired.length pr
    cases ts with
    | nil=>rfl
    | cons _ _=>simp at this
   subst ets
   have al:max m0 0=tn t none 0:=al
   have em:m0=tn t none 0:=by omega
   subst em
   exact aO (hR _ _ ⟨v6,v7,v8,v9,rfl,s1⟩)
  rw [List.concat_eq_append] at pr hw ⊢
  obtain ⟨ts',t0,rfl,prp,⟨sp,u,du,rfl,hsp,hdu,tdu⟩⟩:=iI pr
  rw [show (!(vs' ++ [V.ref sp]).isEmpty)=true by cases vs' <;> rfl]
  have ssz:ksz (ts' ++ [t0])=ksz ts' + szT t0.t:=by rw [mS]; show _ + (szT t0.t + 0)=_; omega
  rw [ssz] at sz1 ⊢
  have al2:max m0 (max (fV ts') (tn t0.t t0.la t0.n))=tn t none 0:=by
   rw [<- al,ik]
   show _=max m0 (max (fV ts') (max (tn t0.t t0.la t0.n) 0))
   rw [Nat.max_zero]
  refine aP ⟨λ σ' H'=>∃ (vs:List V) (ts:List Sk) (m0:Nat) (v6 v7 v8 v9:Option V),σ'=[some (.ref s),some (.int w1),some (.int h1),some v,some (.int (m0:Nat)),some (.ref wl),v6,v7,v8,v9]/\ksz ts < ksz ts' + szT t0.t/\H' wl=some (.lst vs)/\Paired (SkAt pp H H') vs ts/\ksz ts<=10000/\max m0 (fV ts)=tn t none 0/\Same H H',λ σ' H' ⟨vs,ts,m0,v6,v7,v8,v9,e,l,r⟩=>⟨_,l,vs,ts,m0,v6,v7,v8,v9,e,rfl,r⟩,?_⟩
  have ml:(vs' ++ [V.ref sp]).length=vs'.length + 1:=by rw [List.length_append]; rfl
  have keep:∀ {Hx:Hp} {o:HO},Same H Hx->Same H (upd Hx wl o):=λ {Hx o} sx c oo e=>by
   rw [am (λ z=>by rw [z,fw] at e; cases e)]
   exact sx _ _ e
  have go:∀ (y:Str) (ys:List PyData),aH du=some (.str y :: ys)->∃a xs,u=.ref a/\(H a=some (.lst (.str y :: xs))\/H a=some (.tup (.str y :: xs)))/\Dts pp H xs ys:=λ y ys er=>by
   obtain ⟨a,xs,e,hx,dxs⟩:=hdu.ref_row er
   cases dxs with
   | cons hd0 dxs =>
    cases hd0
    exact ⟨a,_,e,hx,dxs⟩
  refine ap (λ R=>∀ (H':Hp),H' wl=some (.lst vs')->Paired (SkAt pp H H') vs' ts'->Same H H'->R [some (.ref s),some (.int w1),some (.int h1),some v,some (.int (m0:Nat)),some (.ref wl),some u,some (laV t0.la),some (.int (t0.n:Nat)),v9] H') (λ Dd hR=>?_) ?_
  ·refine ⟨_,Y,.inl ⟨Y,_,SqL.of hw⟩,wl,_,.ref sp,Y,Y,hw,(by rw [ml]; simp),?_⟩
   rw [List.dropLast_concat]
   have kt:∀ {c:Addr} {xs:List V},H1 c=some (.tup xs)->(upd H1 wl (.lst vs')) c=some (.tup xs):=λ {c xs} e=>by
    rw [am (λ z=>by rw [z,hw] at e; cases e)]; exact e
   exact ⟨sp,_,Y,SqT.of (kt hsp),Y,_,_,Y,_,_,Y,_,_,Y,Y,hR _ af (Paired.mapP prp λ v t h=>h.keep λ a xs e=>kt e) (keep s1)⟩
  rintro H2 hw2 pr2 s02
  clear prp hsp hw pr
  obtain ⟨m1,hm1⟩:∃m1:Nat,m1=max m0 t0.n:=⟨_,Y⟩
  refine bF (λ σ' H'=>σ'=[some (.ref s),some (.int w1),some (.int h1),some v,some (.int (m1:Nat)),some (.ref wl),some u,some (laV t0.la),some (.int (t0.n:Nat)),v9]/\H2=H') (λ R hR=>?_) ?_
  ·refine ⟨_,Y,_,Y,_,_,Y,hR _ _ ⟨?_,Y⟩⟩
   have em:(m1:Int)=(if (t0.n:Int) > (m0:Int) then (t0.n:Int) else m0):=by split <;> omega
   rw [em]
   rfl
  rintro _ _ ⟨rfl,rfl⟩
  have pl:=Paired.length pr2
  have sl:=mT ts'
  have big:30000<=sizeLine:=by decide
  have tg:=uV t0.t t0.la t0.n
  obtain ⟨tt,et⟩:∃tt,t0.t=tt:=⟨_,Y⟩
  have zpos:=kh t0.t
  cases tt with
  | cut dn p l r =>
   rw [et] at tdu
   obtain ⟨dl,dr,er,tl,tr⟩:=tdu
   obtain ⟨a,xs,eu,hx,dxs⟩:=go _ _ er
   cases dxs with
   | @cons x1 _ xs1 _ hd1 dxs =>
   cases dxs with
   | @cons lv _ xs2 _ hdl dxs =>
   cases dxs with
   | @cons rv _ xs3 _ hdr dxs =>
   cases dxs
   cases hd1
   subst eu
   refine ap (λ R=>R [some (.ref s),some (.int w1),some (.int h1),some v,some (.int (m1:Nat)),some (.ref wl),some (.ref a),some (laV t0.la),some (.int (t0.n:Nat)),some (wv dn)] H2) (λ Dd hR=>?_) ?_
   ·refine ⟨_,Y,?_⟩
    show rIx K (.ref a) (.int 0) H2 _
    exact ixR s02 hx (aE (Int.le_refl _) rfl) (hR)
   skip
   refine ⟨_,Y,wa,_,Y,.inr (Z.wq _),Y,Y,_,Y,?_⟩
   show (if (inV (wv dn) [V.str "down",V.str "across"])=true then _ else _)
   rw [show inV (wv dn) [V.str "down",V.str "across"]=true by cases dn <;> decide +kernel]
   refine aP ?_
   obtain ⟨n1,hn1⟩:∃n1:Nat,n1=t0.n + mR t0.la dn:=⟨_,Y⟩
   refine bF (λ σ' H'=>σ'=[some (.ref s),some (.int w1),some (.int h1),some v,some (.int (m1:Nat)),some (.ref wl),some (.ref a),some (laV t0.la),some (.int (n1:Nat)),some (wv dn)]/\H2=H') (λ R hR=>?_) ?_
   ·obtain ⟨la,ela⟩:∃la,t0.la=la:=⟨_,Y⟩
    rw [ela] at hn1 ⊢
    refine ⟨_,Y,Y,_,Y,?_⟩
    cases la with
    | none =>
     have:n1=t0.n:=hn1
     subst this
     exact aO (aO (hR _ _ ⟨by rw [ela],rfl⟩))
    | some d0 =>
     refine aP ⟨_,rfl,_,rfl,rfl,_,rfl,?_⟩
     have ek:(!decide (wv d0=wv dn))=!decide (d0=dn):=by cases d0 <;> cases dn <;> decide +kernel
     show (if (!decide (wv d0=wv dn))=true then _ else _)
     rw [ek]
     have hn1:n1=t0.n + (if d0=dn then 0 else 1):=hn1
     by_cases e:d0=dn
     ·rw [if_pos e] at hn1
      have:n1=t0.n:=hn1
      subst this
      rw [decide_eq_true e]
      exact aO (hR _ _ ⟨by rw [ela],rfl⟩)
     ·rw [if_neg e] at hn1
      rw [decide_eq_false e]
      exact aP ⟨_,rfl,_,_,rfl,rfl,hR _ _ ⟨by rw [ela,hn1]; rfl,rfl⟩⟩
   rintro _ _ ⟨rfl,rfl⟩
   refine ⟨_,Y,.inl ⟨Y,_,SqL.of hw2⟩,_,Y,?_⟩
   refine ixR s02 hx (aE (i:=2) (by decide) rfl) ?_
   refine ⟨_,Y,_,Y,zS3,λ t1 ht1=>?_⟩
   obtain ⟨H3,e3,k3,s3⟩:∃H',upd H2 t1 (.tup [lv,wv dn,.int (n1:Nat)])=H'/\H' t1=some (.tup [lv,wv dn,.int (n1:Nat)])/\Same H2 H':=⟨_,Y,af,Same.new ht1⟩
   rw [show upd H2 t1 _=H3 from e3]
   have s03:=s02.trans s3
   refine ⟨_,Y,?_⟩
   refine ixR s03 hx (aE (i:=3) (by decide) rfl) ?_
   refine ⟨_,Y,_,Y,zS3,λ t2 ht2=>?_⟩
   obtain ⟨H4,e4,k4,s4⟩:∃H',upd H3 t2 (.tup [rv,wv dn,.int (n1:Nat)])=H'/\H' t2=some (.tup [rv,wv dn,.int (n1:Nat)])/\Same H3 H':=⟨_,Y,af,Same.new ht2⟩
   rw [show upd H3 t2 _=H4 from e4]
   refine ⟨zS2,λ lu hlu=>?_⟩
   obtain ⟨H5,e5,k5,s5⟩:∃H',upd H4 lu (.lst [.ref t1,.ref t2])=H'/\H' lu=some (.lst [.ref t1,.ref t2])/\Same H4 H':=⟨_,Y,af,Same.new hlu⟩
   rw [show upd H4 lu _=H5 from e5]
   have s25:=s3.trans (s4.trans s5)
   have hw5:=s25 _ _ hw2
   refine ⟨wl,lu,_,_,Y,Y,hw5,k5,(by show _ + 2<=_; omega),?_⟩
   have kt:∀ {c:Addr} {xs:List V},H5 c=some (.tup xs)->(upd H5 wl (.lst (vs' ++ [.ref t1,.ref t2]))) c=some (.tup xs):=λ {c xs} e=>by
    rw [am (λ z=>by rw [z,hw5] at e; cases e)]; exact e
   have e2:ksz (ts' ++ [⟨l,some dn,n1⟩,⟨r,some dn,n1⟩])=ksz ts' + (szT l + szT r):=by
    rw [mS]
    show _ + (szT l + (szT r + 0))=_
    omega
   have sz0:szT t0.t=szT l + szT r + 1:=by rw [et]; rfl
   refine ⟨_,ts' ++ [⟨l,some dn,n1⟩,⟨r,some dn,n1⟩],m1,_,_,_,_,Y,by rw [e2]; omega,af,eC (Paired.mapP pr2 λ v t h=>h.keep λ a xs e=>kt (s25 _ _ e)) (.cons (show SkAt pp H _ (.ref t1) ⟨l,some dn,n1⟩ from ⟨t1,lv,dl,Y,kt (s5 _ _ (s4 _ _ k3)),hdl,tl⟩) (.cons (show SkAt pp H _ (.ref t2) ⟨r,some dn,n1⟩ from ⟨t2,rv,dr,Y,kt (s5 _ _ k4),hdr,tr⟩) .nil)),by rw [e2]; omega,?_,keep (s02.trans s25)⟩
   rw [ik]
   show max m1 (max (fV ts') (max (tn l (some dn) n1) (max (tn r (some dn) n1) 0)))=_
   have etn:tn t0.t t0.la t0.n=max (tn l (some dn) n1) (tn r (some dn) n1):=by rw [et,hn1]; rfl
   rw [etn] at al2 tg
   rw [Nat.max_zero,show m1=max m0 t0.n from hm1,vS tg,al2]
  | rest =>
   rw [et] at tdu
   obtain ⟨a,xs,eu,hx,dxs⟩:=go _ _ tdu
   subst eu
   refine ap (λ R=>R [some (.ref s),some (.int w1),some (.int h1),some v,some (.int (m1:Nat)),some (.ref wl),some (.ref a),some (laV t0.la),some (.int (t0.n:Nat)),some (.str "rest")] H2) (λ Dd hR=>?_) ?_
   ·refine ⟨_,Y,?_⟩
    show rIx K (.ref a) (.int 0) H2 _
    exact ixR s02 hx (aE (Int.le_refl _) rfl) (hR)
   skip
   refine ⟨_,Y,wa,_,Y,.inr (Z.wq _),Y,Y,_,Y,?_⟩
   show (if (inV (V.str "rest") [V.str "down",V.str "across"])=true then _ else _)
   rw [show inV (V.str "rest") [V.str "down",V.str "across"]=false by decide +kernel]
   have etn:tn t0.t t0.la t0.n=t0.n:=by rw [et]; rfl
   exact aO ⟨vs',ts',m1,_,_,_,_,rfl,by omega,hw2,pr2,by omega,by omega,s02⟩
  | piece i c x y =>
   rw [et] at tdu
   obtain ⟨a,xs,eu,hx,dxs⟩:=go _ _ tdu
   subst eu
   refine ap (λ R=>R [some (.ref s),some (.int w1),some (.int h1),some v,some (.int (m1:Nat)),some (.ref wl),some (.ref a),some (laV t0.la),some (.int (t0.n:Nat)),some (.str "piece")] H2) (λ Dd hR=>?_) ?_
   ·refine ⟨_,Y,?_⟩
    show rIx K (.ref a) (.int 0) H2 _
    exact ixR s02 hx (aE (Int.le_refl _) rfl) (hR)
   skip
   refine ⟨_,Y,wa,_,Y,.inr (Z.wq _),Y,Y,_,Y,?_⟩
   show (if (inV (V.str "piece") [V.str "down",V.str "across"])=true then _ else _)
   rw [show inV (V.str "piece") [V.str "down",V.str "across"]=false by decide +kernel]
   have etn:tn t0.t t0.la t0.n=t0.n:=by rw [et]; rfl
   exact aO ⟨vs',ts',m1,_,_,_,_,rfl,by omega,hw2,pr2,by omega,by omega,s02⟩
 rintro _ H1 ⟨v6,v7,v8,v9,rfl,s1⟩
 exact ⟨_,Y,q H1 s1⟩
end
mutual
def lfM:Tl->Int->Int->List (Int×Int×Tr)
 | .rest,w,h=>[(w,h,.rest)]
 | .piece i c x y,w,h=>[(w,h,.piece i c x y)]
 | .row dn r,w,h=>lfS dn r w h
def lfS (dn:Bool):Tls->Int->Int->List (Int×Int×Tr)
 | .nil,_,_=>[]
 | .cons n t r,w,h=>lfM t (if dn=true then n else w) (if dn=true then h else n) ++ lfS dn r w h
end
def lfL (dn:Bool) (l:List (Int×Tl)) (w h:Int):List (Int×Int×Tr):=l.flatMap λ z=>lfM z.2 (if dn=true then z.1 else w) (if dn=true then h else z.1)
theorem rM (dn:Bool) (w h:Int):∀l:List (Int×Tl),lfS dn (ofL l) w h=lfL dn l w h
 | []=>by rw [ofL,lfS]; rfl
 | z :: l=>by rw [ofL,lfS,rM dn w h l]; rfl
theorem uk (dn:Bool) (l:List (Int×Tl)) (w h:Int):(lfM (.row dn (ofL (srt l))) w h).Perm (lfL dn l w h):=by
 rw [lfM,rM]
 exact (bA l).flatMap_right _
def mLf (f:Lf):Int×Int×Tr:=(f.w,f.h,f.t)
theorem um (dn:Bool) (a c:List (Int×Tl)) (w h:Int):lfL dn (a ++ c) w h=lfL dn a w h ++ lfL dn c w h:=List.flatMap_append
theorem jx (dn:Bool) (z:Int×Tl) (w h:Int):lfL dn [z] w h=lfM z.2 (if dn=true then z.1 else w) (if dn=true then h else z.1):=by
 show lfM z.2 _ _ ++ []=_
 rw [List.append_nil]
theorem fW (b:Int):∀ (t:Tr) (x y w h:Int),((lvs b t x y w h).map mLf).Perm (lfM (bm b t w h) w h)/\∀dn,((lvs b t x y w h).map mLf).Perm (lfL dn (aX b dn t w h) w h)
 | .rest,x,y,w,h=>by
  have k:((lvs b .rest x y w h).map mLf).Perm (lfM (bm b .rest w h) w h):=by
   show List.Perm [(w,h,Tr.rest)] (lfM .rest w h)
   rw [lfM]
  refine ⟨k,λ dn=>?_⟩
  rw [bG (by rfl),jx]
  cases dn <;> exact k
 | .piece i c px py,x,y,w,h=>by
  have k:((lvs b (.piece i c px py) x y w h).map mLf).Perm (lfM (bm b (.piece i c px py) w h) w h):=by
   show List.Perm [(w,h,Tr.piece i c px py)] (lfM (.piece i c px py) w h)
   rw [lfM]
  refine ⟨k,λ dn=>?_⟩
  rw [bG (by rfl),jx]
  cases dn <;> exact k
 | .cut d p l r,x,y,w,h=>by
  have own:((lvs b (.cut d p l r) x y w h).map mLf).Perm (lfL d (aX b d (.cut d p l r) w h) w h):=by
   rw [bB,um]
   cases d with
   | true =>
    rw [lvs,List.map_append]
    have h1:=(fW b l x y p h).2 true
    have h2:=(fW b r (x + (p + b)) y (w - p - b) h).2 true
    exact (h2.append h1).trans List.perm_append_comm
   | false =>
    rw [lvs,List.map_append]
    have h1:=(fW b l x y w p).2 false
    have h2:=(fW b r x (y + (p + b)) w (h - p - b)).2 false
    exact (h2.append h1).trans List.perm_append_comm
  have k:((lvs b (.cut d p l r) x y w h).map mLf).Perm (lfM (bm b (.cut d p l r) w h) w h):=by
   rw [bX]
   exact own.trans (uk d _ w h).symm
  refine ⟨k,λ dn=>?_⟩
  by_cases e:d=dn
  ·subst e; exact own
  ·have ew:isW dn (.cut d p l r)=false:=by cases d <;> cases dn <;> first | rfl | exact absurd rfl e
   rw [bG ew,jx]
   cases dn <;> exact k
theorem oj {b:Int} {t u:Tr} {w h:Int} (e:bm b t w h=bm b u w h):((lvs b t 0 0 w h).map mLf).Perm ((lvs b u 0 0 w h).map mLf):=by
 have h1:=(fW b t 0 0 w h).1
 have h2:=(fW b u 0 0 w h).1
 rw [e] at h1
 exact h1.trans h2.symm
theorem om {l l':List Int} (h:l.Perm l'):l.sum=l'.sum:=by
 induction h with
 | nil=>rfl
 | cons x _ ih=>rw [List.sum_cons,List.sum_cons,ih]
 | swap x y l=>rw [List.sum_cons,List.sum_cons,List.sum_cons,List.sum_cons]; omega
 | trans _ _ h1 h2=>rw [h1,h2]
theorem eN {g:Lf->Int} {g':Int×Int×Tr->Int} (hg:∀f,g f=g' (mLf f)) {fs gs:List Lf} (h:(fs.map mLf).Perm (gs.map mLf)):bv g fs=bv g gs:=by
 have e:∀l:List Lf,bv g l=((l.map mLf).map g').sum:=λ l=>by
  unfold bv
  rw [List.map_map]
  congr 1
  exact List.map_congr_left λ f _=>hg f
 rw [e,e]
 exact om (h.map g')
def kdL (k:Nat):Int×Int×Tr->Bool
 | (_,_,.piece i _ _ _)=>i == k
 | _=>false
theorem lL {b:Int} {t u:Tr} {w h:Int} (n:Nat) (p:((lvs b t 0 0 w h).map mLf).Perm ((lvs b u 0 0 w h).map mLf)):bC (pcs b t w h) n=bC (pcs b u w h) n:=by
 have e:∀ (l:List Lf) (k:Nat),((l.filterMap lfP).filter λ p=>p.k == k).length=((l.map mLf).filter (kdL k)).length:=λ l k=>by
  induction l with
  | nil=>rfl
  | cons f l ih =>
   obtain ⟨x,y,w,h,t⟩:=f
   cases t with
   | rest=>exact ih
   | cut=>exact ih
   | piece i c px py =>
    rw [List.filterMap_cons]
    show (List.filter _ (⟨i,c,x + px,y + py⟩ :: l.filterMap lfP)).length=(List.filter (kdL k) ((w,h,.piece i c px py) :: l.map mLf)).length
    rw [List.filter_cons,List.filter_cons]
    cases z:(i == k) with
    | true =>
     have e2:kdL k (w,h,.piece i c px py)=true:=z
     rw [if_pos rfl,if_pos e2,List.length_cons,List.length_cons,ih]
    | false =>
     have e2:kdL k (w,h,.piece i c px py)=false:=z
     rw [if_neg (by decide),if_neg (by rw [e2]; decide),ih]
 unfold bC
 refine List.map_congr_left λ k _=>?_
 unfold pcs
 rw [e,e,(p.filter _).length_eq]
mutual
def rdT:Tl->Nat
 | .row _ r=>rdS r + 1
 | .rest=>0
 | .piece .. => 0
def rdS:Tls->Nat
 | .nil=>0
 | .cons _ t r=>max (rdT t) (rdS r)
end
def rdL (l:List (Int×Tl)):Nat:=(l.map λ z=>rdT z.2).foldr max 0
theorem rN:∀l:List (Int×Tl),rdS (ofL l)=rdL l
 | []=>by rw [ofL,rdS]; rfl
 | z :: l=>by rw [ofL,rdS,rN l]; rfl
theorem oq {l l':List Nat} (h:l.Perm l'):l.foldr max 0=l'.foldr max 0:=by
 induction h with
 | nil=>rfl
 | cons x _ ih=>rw [List.foldr_cons,List.foldr_cons,ih]
 | swap x y l=>rw [List.foldr_cons,List.foldr_cons,List.foldr_cons,List.foldr_cons]; omega
 | trans _ _ h1 h2=>rw [h1,h2]
theorem rO (a c:List Nat):(a ++ c).foldr max 0=max (a.foldr max 0) (c.foldr max 0):=by
 induction a with
 | nil=>show c.foldr max 0=max 0 _; omega
 | cons x a ih=>rw [List.cons_append,List.foldr_cons,List.foldr_cons,ih]; omega
theorem mU (dn:Bool) (l:List (Int×Tl)):rdT (.row dn (ofL (srt l)))=rdL l + 1:=by
 rw [rdT,rN]
 unfold rdL
 rw [oq ((bA l).map _)]
theorem uo (a c:List (Int×Tl)):rdL (a ++ c)=max (rdL a) (rdL c):=by
 unfold rdL
 rw [List.map_append,rO]
theorem jy (z:Int×Tl):rdL [z]=rdT z.2:=by
 show max (rdT z.2) 0=_
 omega
theorem jz (b:Int):∀ (t:Tr) (dn:Bool) (n:Nat) (w h:Int),tn t (some dn) n=n + rdL (aX b dn t w h)
 | .rest,dn,n,w,h=>by
  rw [bG (by rfl),jy]
  show n=n + rdT .rest
  rw [rdT]; omega
 | .piece i c x y,dn,n,w,h=>by
  rw [bG (by rfl),jy]
  show n=n + rdT (.piece i c x y)
  rw [rdT]; omega
 | .cut d p l r,dn,n,w,h=>by
  have own:∀m,max (tn l (some d) m) (tn r (some d) m)=m + rdL (aX b d (.cut d p l r) w h):=λ m=>by
   rw [bB,uo,<- tn_max m,<- jz b l d m,<- jz b r d m]
  by_cases e:d=dn
  ·subst e
   show max (tn l (some d) (n + (if d=d then 0 else 1))) (tn r (some d) (n + (if d=d then 0 else 1)))=_
   rw [if_pos rfl,Nat.add_zero]
   exact own n
  ·have ew:isW dn (.cut d p l r)=false:=by cases d <;> cases dn <;> first | rfl | exact absurd rfl e
   show max (tn l (some d) (n + (if dn=d then 0 else 1))) (tn r (some d) (n + (if dn=d then 0 else 1)))=_
   rw [if_neg (Ne.symm e),own,bG ew,jy,bX,mU]
   omega
where
 tn_max (m:Nat) {a c:Nat}:max (m + a) (m + c)=m + max a c:=by omega
theorem mV (b:Int) (t:Tr) (w h:Int):tn t none 0=rdT (bm b t w h) - 1:=by
 cases t with
 | rest=>rfl
 | piece=>rfl
 | cut d p l r =>
  show max (tn l (some d) (0 + 0)) (tn r (some d) (0 + 0))=_
  have h1:=jz b (.cut d p l r) d 0 w h
  have h2:tn (.cut d p l r) (some d) 0=max (tn l (some d) (0 + (if d=d then 0 else 1))) (tn r (some d) (0 + (if d=d then 0 else 1))):=rfl
  rw [if_pos rfl] at h2
  rw [bX,mU,<- h2,h1]
  omega
theorem kn {b:Int} {t u:Tr} {w h:Int} (e:bm b t w h=bm b u w h) (dn:Bool):(aX b dn t w h).Perm (aX b dn u w h):=by
 have w1:∀t:Tr,isW dn t=tlW dn (bm b t w h):=λ t=>by
  cases t with
  | rest=>rfl
  | piece=>rfl
  | cut d=>rw [bX]; rfl
 have ew:isW dn t=isW dn u:=by rw [w1,w1,e]
 cases z:isW dn t with
 | false=>rw [bG z,bG (by rw [<- ew]; exact z),e]
 | true =>
  have cu:∀t:Tr,isW dn t=true->∃p l r,t=.cut dn p l r:=λ t ht=>by
   cases t with
   | rest=>cases ht
   | piece=>cases ht
   | cut d p l r =>
    have:d=dn:=by simpa [isW] using ht
    rw [this]; exact ⟨_,_,_,Y⟩
  obtain ⟨p,l,r,rfl⟩:=cu t z
  obtain ⟨p',l',r',rfl⟩:=cu u (by rw [<- ew]; exact z)
  rw [bX,bX] at e
  have e1:=congrArg toL (Tl.row.inj e).2
  rw [fu,fu] at e1
  exact (bA _).symm.trans (e1 ▸ bA _)
theorem rP {b:Int} {dn:Bool} {p p':Int} {l r l' r':Tr} {w h:Int} (e:(aX b dn (.cut dn p l r) w h).Perm (aX b dn (.cut dn p' l' r') w h)):bm b (.cut dn p l r) w h=bm b (.cut dn p' l' r') w h:=by
 rw [bX,bX,qV e]
theorem yi {b:Int} {ks:List Kd} {w h p p1:Int} {dn:Bool} {a c r:Tr} (b0:0<=b) (ok:okU b ks w h (.cut dn p (.cut dn p1 a c) r)):okU b ks w h (.cut dn p1 a (.cut dn (p - p1 - b) c r))/\aX b dn (.cut dn p1 a (.cut dn (p - p1 - b) c r)) w h=aX b dn (.cut dn p (.cut dn p1 a c) r) w h:=by
 rw [bB,bB,bB,bB]
 cases dn with
 | true =>
  obtain ⟨h1,h2,⟨h3,h4,h5,h6⟩,h7⟩:=ok
  refine ⟨⟨h3,by omega,h5,by omega,by omega,h6,?_⟩,?_⟩
  ·rw [show w - p1 - b - (p - p1 - b) - b=w - p - b by omega]; exact h7
  ·simp only [if_true]
   rw [show w - p1 - b - (p - p1 - b) - b=w - p - b by omega,List.append_assoc]
 | false =>
  obtain ⟨h1,h2,⟨h3,h4,h5,h6⟩,h7⟩:=ok
  refine ⟨⟨h3,by omega,h5,by omega,by omega,h6,?_⟩,?_⟩
  ·rw [show h - p1 - b - (p - p1 - b) - b=h - p - b by omega]; exact h7
  ·simp only [Bool.false_eq_true,if_false]
   rw [show h - p1 - b - (p - p1 - b) - b=h - p - b by omega,List.append_assoc]
theorem yj {b:Int} {ks:List Kd} {w h p p2:Int} {dn:Bool} {l e f:Tr} (b0:0<=b) (ok:okU b ks w h (.cut dn p l (.cut dn p2 e f))):okU b ks w h (.cut dn (p + b + p2) (.cut dn p l e) f)/\aX b dn (.cut dn (p + b + p2) (.cut dn p l e) f) w h=aX b dn (.cut dn p l (.cut dn p2 e f)) w h:=by
 rw [bB,bB,bB,bB]
 cases dn with
 | true =>
  obtain ⟨h1,h2,h3,⟨h4,h5,h6,h7⟩⟩:=ok
  refine ⟨⟨by omega,by omega,⟨h1,by omega,h3,?_⟩,?_⟩,?_⟩
  ·rw [show p + b + p2 - p - b=p2 by omega]; exact h6
  ·rw [show w - (p + b + p2) - b=w - p - b - p2 - b by omega]; exact h7
  ·simp only [if_true]
   rw [show p + b + p2 - p - b=p2 by omega,show w - (p + b + p2) - b=w - p - b - p2 - b by omega,List.append_assoc]
 | false =>
  obtain ⟨h1,h2,h3,⟨h4,h5,h6,h7⟩⟩:=ok
  refine ⟨⟨by omega,by omega,⟨h1,by omega,h3,?_⟩,?_⟩,?_⟩
  ·rw [show p + b + p2 - p - b=p2 by omega]; exact h6
  ·rw [show h - (p + b + p2) - b=h - p - b - p2 - b by omega]; exact h7
  ·simp only [Bool.false_eq_true,if_false]
   rw [show p + b + p2 - p - b=p2 by omega,show h - (p + b + p2) - b=h - p - b - p2 - b by omega,List.append_assoc]
theorem Gh {b:Int} {ks:List Kd} {w h p:Int} {dn:Bool} {l r:Tr} (b0:0<=b) (ok:okU b ks w h (.cut dn p l r)):okU b ks w h (.cut dn ((if dn=true then w else h) - p - b) r l)/\(aX b dn (.cut dn ((if dn=true then w else h) - p - b) r l) w h).Perm (aX b dn (.cut dn p l r) w h):=by
 rw [bB,bB]
 cases dn with
 | true =>
  obtain ⟨h1,h2,h3,h4⟩:=ok
  simp only [if_true]
  rw [show w - (w - p - b) - b=p by omega]
  refine ⟨⟨by omega,by omega,h4,?_⟩,List.perm_append_comm⟩
  rw [show w - (w - p - b) - b=p by omega]; exact h3
 | false =>
  obtain ⟨h1,h2,h3,h4⟩:=ok
  simp only [Bool.false_eq_true,if_false]
  rw [show h - (h - p - b) - b=p by omega]
  refine ⟨⟨by omega,by omega,h4,?_⟩,List.perm_append_comm⟩
  rw [show h - (h - p - b) - b=p by omega]; exact h3
def gn (b:Int) (ks:List Kd) (T:Tr) (w h:Int):PyData:=.list [.list ((bC (pcs b T w h) ks.length).map .int),.int (((bC (pcs b T w h) ks.length).zip ks).map λ z=>z.1 * z.2.wo).sum,.tuple [.int (bv (pcA ks) (lvs b T 0 0 w h)),.int (bv rsA (lvs b T 0 0 w h)),.int (bv (mgA ks) (lvs b T 0 0 w h)),.int (w * h - bv (pcA ks) (lvs b T 0 0 w h) - bv rsA (lvs b T 0 0 w h) - bv (mgA ks) (lvs b T 0 0 w h))],.int (tn T none 0:Nat)]
theorem vT {b:Int} {ks:List Kd} {T U:Tr} {w h:Int} (e:bm b T w h=bm b U w h):gn b ks T w h=gn b ks U w h:=by
 have p:=oj e
 have e1:=lL ks.length p
 have e2:bv (pcA ks) (lvs b T 0 0 w h)=bv (pcA ks) (lvs b U 0 0 w h):=eN (g':=λ z=>pcA ks ⟨0,0,z.1,z.2.1,z.2.2⟩) (λ f=>rfl) p
 have e3:bv rsA (lvs b T 0 0 w h)=bv rsA (lvs b U 0 0 w h):=eN (g':=λ z=>rsA ⟨0,0,z.1,z.2.1,z.2.2⟩) (λ f=>rfl) p
 have e4:bv (mgA ks) (lvs b T 0 0 w h)=bv (mgA ks) (lvs b U 0 0 w h):=eN (g':=λ z=>mgA ks ⟨0,0,z.1,z.2.1,z.2.2⟩) (λ f=>rfl) p
 have e5:tn T none 0=tn U none 0:=by rw [mV b T w h,mV b U w h,e]
 unfold gn
 rw [e1,e2,e3,e4,e5]
theorem ko:∀ns:List Int,PyData.canLayAll0 (ns.map PyData.int)=true/\PyData.depthAll (ns.map PyData.int)=0
 | []=>⟨Y,Y⟩
 | n :: ns=>by
  obtain ⟨h1,h2⟩:=ko ns
  refine ⟨by simp only [List.map_cons,PyData.canLayAll0,PyData.canLay0,Bool.true_and]; exact h1,?_⟩
  show max 0 (PyData.depthAll (ns.map PyData.int))=0
  omega
theorem up (b:Int) (ks:List Kd) (T:Tr) (w h:Int):(gn b ks T w h).canLay0=true/\(gn b ks T w h).depth<=210:=by
 obtain ⟨h1,h2⟩:=ko (bC (pcs b T w h) ks.length)
 unfold gn
 refine ⟨by simp only [PyData.canLay0,PyData.canLayAll0,Bool.and_true]; exact h1,?_⟩
 show max (PyData.depthAll ((bC (pcs b T w h) ks.length).map PyData.int) + 1) (max 0 (max (max 0 (max 0 (max 0 (max 0 0))) + 1) (max 0 0))) + 1<=210
 omega
theorem mW {p:Addr} {H:Hp}:∀ns:List Int,Dts p H (ns.map V.int) (ns.map PyData.int)
 | []=>.nil
 | n :: ns=>.cons (.int n) (mW ns)
theorem gh {K:PySem.W.Frag} {p:Addr} {H:Hp}:∀ {ns:List Int} {vs:List V},Dts p H vs (ns.map PyData.int)->DatVs K H vs (ns.map PyData.int)
 | [],_,h=>by cases h; exact .nil
 | n :: ns,_,h=>by
  cases h with
  | cons a r =>
   cases a
   exact .cons (.int _) (gh r)
theorem mX {K:PySem.W.Frag} {p:Addr} {H:Hp} {v:V} {b:Int} {ks:List Kd} {T:Tr} {w h:Int} (hd:Dt p H v (gn b ks T w h)):DatV K H v (gn b ks T w h):=by
 unfold gn at hd ⊢
 cases hd with
 | lst n h1 r =>
 cases r with
 | cons a1 r =>
 cases r with
 | cons a2 r =>
 cases r with
 | cons a3 r =>
 cases r with
 | cons a4 r =>
 cases r
 cases a2
 cases a4
 cases a1 with
 | lst n2 h2 r2 =>
 cases a3 with
 | tup h3 r3 =>
 cases r3 with
 | cons c1 r3 =>
 cases r3 with
 | cons c2 r3 =>
 cases r3 with
 | cons c3 r3 =>
 cases r3 with
 | cons c4 r3 =>
 cases r3
 cases c1
 cases c2
 cases c3
 cases c4
 exact .lst (SqL.of h1) (.cons (.lst (SqL.of h2) (gh r2)) (.cons (.int _) (.cons (.tup (SqT.of h3) (.cons (.int _) (.cons (.int _) (.cons (.int _) (.cons (.int _) .nil))))) (.cons (.int _) .nil))))
section
variable {P:Program} {w:World} {K:PySem.W.Frag} {mg:Str->Option Value} {base:Heap}
inductive spRegr (vs:List V) (H:Hp) (Q:VK) (E_:XK):Prop
 | mk (t kl:Addr) (b W h p:Int) (ks:List Kd) (dn:Bool) (l r:Tr) (v:V) (e_1:vs=[.ref t,v]) (e_2:LS H t b ks kl) (e_3:TrV H (.cut dn p l r) v) (e_4:okU b ks W h (.cut dn p l r)) (e_5:0<=b) (e_6:∀ (v':V) (p':Int) (l' r':Tr) (H':Hp),TrV H' (.cut dn p' l' r') v'->okU b ks W h (.cut dn p' l' r')->aX b dn (.cut dn p' l' r') W h=aX b dn (.cut dn p l r) W h->lvN (.cut dn p' l' r')=lvN (.cut dn p l r)->Same H H'->Q v' H'):spRegr vs H Q E_
inductive spTurn (n:Nat) (vs:List V) (H:Hp) (Q:VK) (E_:XK):Prop
 | mk (p t kl:Addr) (b W h:Int) (ks:List Kd) (v:V) (T:Tr) (e_1:vs=[.ref p,.ref t,.int W,.int h,v]) (e_2:PotC H p) (e_3:LS H t b ks kl) (e_4:kl≠p) (e_5:TrV H T v) (e_6:okU b ks W h T) (e_7:0<=b) (e_8:1<=W) (e_9:1<=h) (e_10:lvN T < n) (e_11:∀ (v':V) (T':Tr) (H':Hp),TrV H' T' v'->okU b ks W h T'->bm b T' W h=bm b T W h->lvN T'=lvN T->PotC H' p->But p H H'->Q v' H'):spTurn n vs H Q E_
inductive spMes (C:Addr) (vs:List V) (H:Hp) (Q:VK) (E_:XK):Prop
 | mk (pp s:Addr) (b w h:Int) (ks:List Kd) (v:V) (d:PyData) (T:Tr) (e_1:vs=[.ref s,.int w,.int h,v]) (e_2:TrH C pp s b w h ks v d T H) (e_3:ks.length<=8) (e_4:(∀k∈ks,Good k)) (e_5:0<=b) (e_6:w<=10 ^ 60) (e_7:h<=10 ^ 60) (e_8:∀ (r:Addr) (H':Hp),(∀p,H p≠none->Dt p H' (.ref r) (gn b ks T w h))->Same H H'->Q (.ref r) H'):spMes C vs H Q E_
theorem scregr:FnScope ["_law_shop_here","_law_tree_here","_law_way","_law_p","_law_first","_law_second"] ["_law_shop_here","_law_tree_here"] (defScope dj):=⟨Y,Y,Y,by decide +kernel,Y,by decide +kernel,by decide +kernel⟩
theorem uq {f:Addr} {fd:FuncData} (F:Fun K "_law_regrouped" "_law_regrouped" dj f fd) (B:Blt mg):FnOk P w K mg base CX0 1 f fd ["_law_shop_here","_law_tree_here"] (spRegr):=by
 refine F.ok scregr (λ vs H Q E h=>?_) (λ cdv A outer s H vs Q E hr h=>?_)
 ·obtain ⟨t,kl,b,W,h1,p,ks,dn,l,r,v,rfl,_⟩:=h
  rfl
 obtain ⟨t,kl,b,W,hh,p,ks,dn,l,r,v,rfl,sh,tv,ok,b0,q⟩:=h
 have nd:=scregr.nd
 refine ⟨_,(@ae _ _ _ _ _ (@bd _ _ _ _ _ _ (pv 1) (aT rfl (ah (ai (i:=2) nd rfl (Or.inl rfl)) (ah (ai (i:=3) nd rfl (Or.inl rfl)) (ah (ai (i:=4) nd rfl (Or.inl rfl)) (ah (ai (i:=5) nd rfl (Or.inl rfl)) aG))))) rfl rfl rfl) (@ae _ _ _ _ _ (@aI _ _ _ _ _ _ _ _ (@aB _ _ _ _ _ _ _ _ bn (@ao _ _ _ _ _ _ _ ix_tup (pv 4) ad (λ _ _=>rfl)) (pv 2) (aD _)) (@ag _ _ _ (@av _ _ _ _ (@ax _ _ _ _ _ (@aa _ _ _ _ _ (pv 2) (@aa _ _ _ _ _ (@ao _ _ _ _ _ _ _ ix_tup (pv 4) ad (λ _ _=>rfl)) (@aa _ _ _ _ _ (@ao _ _ _ _ _ _ _ ix_tup (pv 4) ad (λ _ _=>rfl)) (@aa _ _ _ _ _ (@ax _ _ _ _ _ (@aa _ _ _ _ _ (pv 2) (@aa _ _ _ _ _ (@ay _ _ _ _ _ _ _ _ aU (@ay _ _ _ _ _ _ _ _ aU (pv 3) (@ao _ _ _ _ _ _ _ ix_tup (pv 4) ad (λ _ _=>rfl))) (@ao _ _ _ _ _ _ _ ix_tup (pv 0) ad (λ _ _=>rfl))) (@aa _ _ _ _ _ (@ao _ _ _ _ _ _ _ ix_tup (pv 4) ad (λ _ _=>rfl)) (@aa _ _ _ _ _ (pv 5) ab rfl) rfl) rfl) rfl)) ab rfl) rfl) rfl) rfl)))) aA) (@ae _ _ _ _ _ (@aI _ _ _ _ _ _ _ _ (@aB _ _ _ _ _ _ _ _ bn (@ao _ _ _ _ _ _ _ ix_tup (pv 5) ad (λ _ _=>rfl)) (pv 2) (aD _)) (@ag _ _ _ (@av _ _ _ _ (@ax _ _ _ _ _ (@aa _ _ _ _ _ (pv 2) (@aa _ _ _ _ _ (@ay _ _ _ _ _ _ _ _ aQ (@ay _ _ _ _ _ _ _ _ aQ (pv 3) (@ao _ _ _ _ _ _ _ ix_tup (pv 0) ad (λ _ _=>rfl))) (@ao _ _ _ _ _ _ _ ix_tup (pv 5) ad (λ _ _=>rfl))) (@aa _ _ _ _ _ (@ax _ _ _ _ _ (@aa _ _ _ _ _ (pv 2) (@aa _ _ _ _ _ (pv 3) (@aa _ _ _ _ _ (pv 4) (@aa _ _ _ _ _ (@ao _ _ _ _ _ _ _ ix_tup (pv 5) ad (λ _ _=>rfl)) ab rfl) rfl) rfl) rfl)) (@aa _ _ _ _ _ (@ao _ _ _ _ _ _ _ ix_tup (pv 5) ad (λ _ _=>rfl)) ab rfl) rfl) rfl) rfl)))) aA) (@ag _ _ _ (@av _ _ _ _ (pv 1)))))),?_⟩
 obtain ⟨kr,ht,_⟩:=id sh
 obtain ⟨a,x,y,rfl,ha,tl,tr⟩:=id tv
 have ha:H a=some (.tup [.str (wyL dn),.int p,x,y]):=ha
 obtain ⟨a1,xs1,rfl,h1⟩:=TrV.head l tl
 obtain ⟨a2,xs2,rfl,h2⟩:=TrV.head r tr
 refine ap (λ R=>R [some (.ref t),some (.ref a),some (.str (wyL dn)),some (.int p),some (.ref a1),some (.ref a2)] H) (λ Dd hR=>?_) ?_
 ·exact ⟨_,Y,a,_,Y,SqT.of ha,Y,_,_,Y,_,_,Y,_,_,Y,_,_,Y,Y,hR⟩
 skip
 refine cI (λ R=>R [some (.ref t),some (.ref a),some (.str (wyL dn)),some (.int p),some (.ref a1),some (.ref a2)] H) (λ R hR=>?_) ?_
 ·refine ⟨_,Y,a1,_,0,_,Y,Y,SqT.of h1,aE (Int.le_refl _) rfl,_,Y,Y,_,Y,?_⟩
  rw [lF]
  cases e:isW dn l with
  | false=>exact aO (hR)
  | true =>
   cases l with
   | rest=>cases e
   | piece=>cases e
   | cut d p1 la lc =>
    have:d=dn:=by simpa [isW] using e
    subst this
    obtain ⟨a1',x1,y1,e1,hx1,ta,tc⟩:=id tl
    cases e1
    have hx1:H a1=some (.tup [.str (wyL d),.int p1,x1,y1]):=hx1
    obtain ⟨ok',erw⟩:=yi b0 ok
    refine aP ⟨_,rfl,_,rfl,a1,_,1,_,rfl,rfl,SqT.of hx1,rfl,_,rfl,a1,_,2,_,rfl,rfl,SqT.of hx1,rfl,_,rfl,_,rfl,_,rfl,a1,_,1,_,rfl,rfl,SqT.of hx1,rfl,_,_,rfl,rfl,_,rfl,t,_,0,_,rfl,rfl,SqT.of ht,rfl,_,_,rfl,rfl,_,rfl,a1,_,3,_,rfl,rfl,SqT.of hx1,rfl,_,rfl,zS4,λ i1 hi1=>?_⟩
    obtain ⟨H1,e1,k1,s1⟩:∃H',upd H i1 (.tup [.str (wyL d),.int (p - p1 - b),y1,.ref a2])=H'/\H' i1=some (.tup [.str (wyL d),.int (p - p1 - b),y1,.ref a2])/\Same H H':=⟨_,Y,af,Same.new hi1⟩
    rw [show upd H i1 _=H1 from e1]
    refine ⟨zS4,λ i2 hi2=>?_⟩
    obtain ⟨H2,e2,k2,s2⟩:∃H',upd H1 i2 (.tup [.str (wyL d),.int p1,x1,.ref i1])=H'/\H' i2=some (.tup [.str (wyL d),.int p1,x1,.ref i1])/\Same H1 H':=⟨_,Y,af,Same.new hi2⟩
    rw [show upd H1 i2 _=H2 from e2]
    have k:∀a xs,H a=some (.tup xs)->H2 a=some (.tup xs):=λ a xs e=>s2 _ _ (s1 _ _ e)
    exact q (.ref i2) p1 la (.cut d (p - p1 - b) lc r) H2 ⟨i2,x1,.ref i1,rfl,k2,TrV.keep k _ ta,i1,y1,.ref a2,rfl,s2 _ _ k1,TrV.keep k _ tc,TrV.keep k _ tr⟩ ok' erw (by show lvN la + (lvN lc + lvN r)=lvN la + lvN lc + lvN r; omega) (s1.trans s2)
 skip
 refine cI (λ R=>R [some (.ref t),some (.ref a),some (.str (wyL dn)),some (.int p),some (.ref a1),some (.ref a2)] H) (λ R hR=>?_) ?_
 ·refine ⟨_,Y,a2,_,0,_,Y,Y,SqT.of h2,aE (Int.le_refl _) rfl,_,Y,Y,_,Y,?_⟩
  rw [lF]
  cases e:isW dn r with
  | false=>exact aO (hR)
  | true =>
   cases r with
   | rest=>cases e
   | piece=>cases e
   | cut d p2 re rf =>
    have:d=dn:=by simpa [isW] using e
    subst this
    obtain ⟨a2',x2,y2,e2,hx2,te,tf⟩:=id tr
    cases e2
    have hx2:H a2=some (.tup [.str (wyL d),.int p2,x2,y2]):=hx2
    obtain ⟨ok',erw⟩:=yj b0 ok
    refine aP ⟨_,rfl,_,rfl,_,rfl,t,_,0,_,rfl,rfl,SqT.of ht,rfl,_,_,rfl,rfl,_,rfl,a2,_,1,_,rfl,rfl,SqT.of hx2,rfl,_,_,rfl,rfl,_,rfl,_,rfl,_,rfl,_,rfl,a2,_,2,_,rfl,rfl,SqT.of hx2,rfl,zS4,λ i1 hi1=>?_⟩
    obtain ⟨H1,e1,k1,s1⟩:∃H',upd H i1 (.tup [.str (wyL d),.int p,.ref a1,x2])=H'/\H' i1=some (.tup [.str (wyL d),.int p,.ref a1,x2])/\Same H H':=⟨_,Y,af,Same.new hi1⟩
    rw [show upd H i1 _=H1 from e1]
    refine ⟨_,Y,a2,_,3,_,Y,Y,SqT.of (s1 _ _ hx2),Y,zS4,λ i2 hi2=>?_⟩
    obtain ⟨H2,e2,k2,s2⟩:∃H',upd H1 i2 (.tup [.str (wyL d),.int (p + b + p2),.ref i1,y2])=H'/\H' i2=some (.tup [.str (wyL d),.int (p + b + p2),.ref i1,y2])/\Same H1 H':=⟨_,Y,af,Same.new hi2⟩
    rw [show upd H1 i2 _=H2 from e2]
    have k:∀a xs,H a=some (.tup xs)->H2 a=some (.tup xs):=λ a xs e=>s2 _ _ (s1 _ _ e)
    exact q (.ref i2) (p + b + p2) (.cut d p l re) rf H2 ⟨i2,.ref i1,y2,rfl,k2,⟨i1,.ref a1,x2,rfl,s2 _ _ k1,TrV.keep k _ tl,TrV.keep k _ te⟩,TrV.keep k _ tf⟩ ok' erw (by show lvN l + lvN re + lvN rf=lvN l + (lvN re + lvN rf); omega) (s1.trans s2)
 skip
 exact ⟨_,Y,q _ p l r H tv ok rfl rfl (Same.refl _)⟩
theorem scturn:FnScope ["_law_pot_here","_law_shop_here","_law_wide","_law_high","_law_tree_here","_law_side_here","_law_way","_law_p","_law_first","_law_second","_law_one","_law_other"] ["_law_pot_here","_law_shop_here","_law_wide","_law_high","_law_tree_here"] (defScope cR):=⟨Y,Y,Y,by decide +kernel,Y,by decide +kernel,by decide +kernel⟩
set_option maxHeartbeats 1000000 in
theorem ur {f:Addr} {fd:FuncData} (F:Fun K "_law_turned" "_law_turned" cR f fd) (B:Blt mg) (n:Nat) (DD:Dn P w K mg base "_law_take" ["_law_pot_here","_law_many"] 1 (spTake)) (DBh:Dn P w K mg base "_law_behind" ["_law_shop_here","_law_wide","_law_high","_law_way","_law_p"] 1 (spBeh)) (DRg:Dn P w K mg base "_law_regrouped" ["_law_shop_here","_law_tree_here"] 1 (spRegr)) (DT:Dn P w K mg base "_law_turned" ["_law_pot_here","_law_shop_here","_law_wide","_law_high","_law_tree_here"] (2 + n) (spTurn n)):FnOk P w K mg base CX0 (2 + (n + 1)) f fd ["_law_pot_here","_law_shop_here","_law_wide","_law_high","_law_tree_here"] (spTurn (n + 1)):=by
 refine F.ok scturn (λ vs H Q E h=>?_) (λ cdv A outer s H vs Q E hr h=>?_)
 ·obtain ⟨p,t,kl,b,W,h1,ks,v,T,rfl,_⟩:=h
  rfl
 obtain ⟨p,t,kl,b,W,h1,ks,v,T,rfl,pt,sh,nk,tv,okT,b0,w0,h0,ln,q⟩:=h
 have nd:=scturn.nd
 refine ⟨_,(@ae _ _ _ _ _ (@aI _ _ _ _ _ _ _ _ (@aB _ _ _ _ _ _ _ _ fJ (@ao _ _ _ _ _ _ _ ix_tup (pv 4) ad (λ _ _=>rfl)) (@ax _ _ _ _ _ (@aa _ _ _ _ _ bI (@aa _ _ _ _ _ bI ab rfl) rfl)) rfl) (@ag _ _ _ (@av _ _ _ _ (pv 4))) aA) (@ae _ _ _ _ _ (@az _ _ 5 _ _ _ _ nd rfl (Or.inl rfl) (@ao _ _ _ _ _ _ _ ix_list (@aM _ _ _ _ (@aa _ _ _ _ _ (pv 2) (@aa _ _ _ _ _ (pv 3) ab rfl) rfl)) (@bc _ _ _ _ _ _ _ _ _ cj rfl B.int PyProof.Rows.boot_int (@aa _ _ _ _ _ (@bq _ _ _ _ _ _ _ _ bn (@ao _ _ _ _ _ _ _ ix_tup (pv 4) ad (λ _ _=>rfl)) bI (aD _)) ab rfl) (by decide) (by decide) rfl rfl) (λ _ _=>rfl)) rfl (Or.inl rfl)) (@ae _ _ _ _ _ (@aI _ _ _ _ _ _ _ _ (@aB _ _ _ _ _ _ _ _ bn (@aj _ _ _ _ _ _ _ _ _ _ DD (hr.mono (show 1<=2 + n by omega)) rfl (@aa _ _ _ _ _ (pv 0) (@aa _ _ _ _ _ ad ab rfl) rfl) (by decide) rfl rfl) ad (aD _)) (@ag _ _ _ (@az _ _ 4 _ _ _ _ nd rfl (Or.inl rfl) (@aj _ _ _ _ _ _ _ _ _ _ DRg (hr.mono (show 1<=2 + n by omega)) rfl (@aa _ _ _ _ _ (pv 1) (@aa _ _ _ _ _ (pv 4) ab rfl) rfl) (by decide) rfl rfl) rfl (Or.inl rfl))) aA) (@ae _ _ _ _ _ (@aI _ _ _ _ _ _ _ _ (@aB _ _ _ _ _ _ _ _ bn (@aj _ _ _ _ _ _ _ _ _ _ DD (hr.mono (show 1<=2 + n by omega)) rfl (@aa _ _ _ _ _ (pv 0) (@aa _ _ _ _ _ ad ab rfl) rfl) (by decide) rfl rfl) ad (aD _)) (@ag _ _ _ (@az _ _ 4 _ _ _ _ nd rfl (Or.inl rfl) (@ax _ _ _ _ _ (@aa _ _ _ _ _ (@ao _ _ _ _ _ _ _ ix_tup (pv 4) ad (λ _ _=>rfl)) (@aa _ _ _ _ _ (@ay _ _ _ _ _ _ _ _ aU (@ay _ _ _ _ _ _ _ _ aU (pv 5) (@ao _ _ _ _ _ _ _ ix_tup (pv 4) ad (λ _ _=>rfl))) (@ao _ _ _ _ _ _ _ ix_tup (pv 1) ad (λ _ _=>rfl))) (@aa _ _ _ _ _ (@ao _ _ _ _ _ _ _ ix_tup (pv 4) ad (λ _ _=>rfl)) (@aa _ _ _ _ _ (@ao _ _ _ _ _ _ _ ix_tup (pv 4) ad (λ _ _=>rfl)) ab rfl) rfl) rfl) rfl)) rfl (Or.inl rfl))) aA) (@ae _ _ _ _ _ (@bd _ _ _ _ _ _ (pv 4) (aT rfl (ah (ai (i:=6) nd rfl (Or.inl rfl)) (ah (ai (i:=7) nd rfl (Or.inl rfl)) (ah (ai (i:=8) nd rfl (Or.inl rfl)) (ah (ai (i:=9) nd rfl (Or.inl rfl)) aG))))) rfl rfl rfl) (@ae _ _ _ _ _ (@bd _ _ _ _ _ _ (@aj _ _ _ _ _ _ _ _ _ _ DBh (hr.mono (show 1<=2 + n by omega)) rfl (@aa _ _ _ _ _ (pv 1) (@aa _ _ _ _ _ (pv 2) (@aa _ _ _ _ _ (pv 3) (@aa _ _ _ _ _ (pv 6) (@aa _ _ _ _ _ (pv 7) ab rfl) rfl) rfl) rfl) rfl) (by decide) rfl rfl) (aT rfl (ah (ai (i:=10) nd rfl (Or.inl rfl)) (ah (ai (i:=11) nd rfl (Or.inl rfl)) aG))) rfl rfl rfl) (@ae _ _ _ _ _ (@az _ _ 8 _ _ _ _ nd rfl (Or.inl rfl) (@aj _ _ _ _ _ _ _ _ _ _ DT hr rfl (@aa _ _ _ _ _ (pv 0) (@aa _ _ _ _ _ (pv 1) (@aa _ _ _ _ _ (@ao _ _ _ _ _ _ _ ix_tup (pv 10) ad (λ _ _=>rfl)) (@aa _ _ _ _ _ (@ao _ _ _ _ _ _ _ ix_tup (pv 10) ad (λ _ _=>rfl)) (@aa _ _ _ _ _ (pv 8) ab rfl) rfl) rfl) rfl) rfl) (by decide) rfl rfl) rfl (Or.inl rfl)) (@ag _ _ _ (@av _ _ _ _ (@ax _ _ _ _ _ (@aa _ _ _ _ _ (pv 6) (@aa _ _ _ _ _ (pv 7) (@aa _ _ _ _ _ (pv 8) (@aa _ _ _ _ _ (@aj _ _ _ _ _ _ _ _ _ _ DT hr rfl (@aa _ _ _ _ _ (pv 0) (@aa _ _ _ _ _ (pv 1) (@aa _ _ _ _ _ (@ao _ _ _ _ _ _ _ ix_tup (pv 11) ad (λ _ _=>rfl)) (@aa _ _ _ _ _ (@ao _ _ _ _ _ _ _ ix_tup (pv 11) ad (λ _ _=>rfl)) (@aa _ _ _ _ _ (pv 9) ab rfl) rfl) rfl) rfl) rfl) (by decide) rfl rfl) ab rfl) rfl) rfl) rfl))))))))))),?_⟩
 obtain ⟨a,xs,rfl,hx⟩:=TrV.head T tv
 refine cI (λ R=>∀ (dn:Bool) (p0:Int) (l0 r0:Tr) (H':Hp),T=.cut dn p0 l0 r0->Same H H'->R [some (.ref p),some (.ref t),some (.int W),some (.int h1),some (.ref a),none,none,none,none,none,none,none] H') (λ R hR=>?_) ?_
 ·refine ⟨_,Y,a,_,0,_,Y,Y,SqT.of hx,aE (Int.le_refl _) rfl,zS2,λ q0 hq0=>?_⟩
  obtain ⟨H0, e0, k0, n0, s0, b0', pt0⟩:=bU (o:=.tup [.str "rest", .str "piece"]) But.refl' pt hq0
  rw [show upd H q0 _=H0 from e0]
  refine ⟨q0,_,Y,.inr (SqT.of k0),Y,Y,_,Y,?_⟩
  show (if (inV (V.str (hdW T)) [V.str "rest",V.str "piece"])=true then _ else _)
  have leaf:=q (.ref a) T H0 (TrV.keep (λ a xs e=>s0 _ _ e) _ tv) okT rfl rfl pt0 b0'
  cases eT:T with
  | rest =>
   rw [show inV (V.str (hdW .rest)) [V.str "rest",V.str "piece"]=true by show inV (V.str "rest") [V.str "rest",V.str "piece"]=true; decide +kernel]
   exact aP ⟨_,rfl,leaf⟩
  | piece i cc x y =>
   rw [show inV (V.str (hdW (.piece i cc x y))) [V.str "rest",V.str "piece"]=true by show inV (V.str "piece") [V.str "rest",V.str "piece"]=true; decide +kernel]
   exact aP ⟨_,rfl,leaf⟩
  | cut dn p0 l0 r0 =>
   rw [show inV (V.str (hdW (.cut dn p0 l0 r0))) [V.str "rest",V.str "piece"]=false by show inV (V.str (wyL dn)) [V.str "rest",V.str "piece"]=false; cases dn <;> decide +kernel]
   exact aO (hR dn p0 l0 r0 _ eT s0)
 rintro dn p0 l0 r0 H0 rfl s0
 have tv0:=TrV.keep (λ a xs e=>s0 _ _ e) _ tv
 have sh0:=sh.same s0
 have hx0:H0 a=some (.tup (.str (wyL dn) :: xs)):=s0 _ _ hx
 have pt0:=pt.same s0
 have b0':But p H H0:=λ c o _ e=>s0 _ _ e
 clear hx
 refine ap (λ R=>∀ (H':Hp),TrV H' (.cut dn p0 l0 r0) (.ref a)->PotC H' p->But p H H'->R [some (.ref p),some (.ref t),some (.int W),some (.int h1),some (.ref a),some (.int (if dn=true then W else h1)),none,none,none,none,none,none] H') (λ Dd hR=>?_) ?_
 ·refine ⟨_,Y,_,Y,zS2,λ ol hol=>?_⟩
  obtain ⟨H1,e1,k1,n1,s1,b1,pt1⟩:=bU (o:=.lst [.int W,.int h1]) b0' pt0 hol
  rw [show upd H0 ol _=H1 from e1]
  refine ⟨_,Y,a,_,0,_,Y,Y,SqT.of (s1 _ _ hx0),aE (Int.le_refl _) rfl,Y,.inr ⟨_,Y,ol,_,_,.int (if dn=true then W else h1),Y,Y,SqL.of k1,?_,hR _ (TrV.keep (λ a xs e=>s1 _ _ e) _ tv0) pt1 b1⟩⟩
  cases dn with
  | true =>
   rw [show decide (V.str (wyL true)=V.str "across")=false by decide +kernel]
   rfl
  | false =>
   rw [show decide (V.str (wyL false)=V.str "across")=true by decide +kernel]
   rfl
 clear tv0 sh0 hx0 pt0 b0' s0
 clear H0
 rintro H1 tv1 pt1 b1
 refine ap (λ R=>∀ (v1:V) (p1:Int) (l1 r1:Tr) (H':Hp),TrV H' (.cut dn p1 l1 r1) v1->okU b ks W h1 (.cut dn p1 l1 r1)->(aX b dn (.cut dn p1 l1 r1) W h1).Perm (aX b dn (.cut dn p0 l0 r0) W h1)->lvN (.cut dn p1 l1 r1)=lvN (.cut dn p0 l0 r0)->PotC H' p->But p H H'->R [some (.ref p),some (.ref t),some (.int W),some (.int h1),some v1,some (.int (if dn=true then W else h1)),none,none,none,none,none,none] H') (λ Dd hR=>?_) ?_
 ·refine ⟨_,Y,p,2,Y,pt1,by decide,by decide,λ z H2 z0 z1 pt2 b2=>⟨Y,_,Y,?_⟩⟩
  have tv2:=TrV.keep (λ a xs e=>cS b2 pt1 e) _ tv1
  refine ca (λ c=>?_) (λ c=>hR _ p0 l0 r0 _ tv2 okT (.refl _) rfl pt2 (b1.trans b2))
  exact ⟨_,Y,_,Y,t,kl,b,W,h1,p0,ks,dn,l0,r0,_,Y,sh.but nk pt (b1.trans b2),tv2,okT,b0,λ v' p' l' r' H3 tv3 ok3 erw3 ln3 s3=>hR v' p' l' r' _ tv3 ok3 (by rw [erw3]) ln3 (pt2.same s3) (λ c o n e=>s3 _ _ ((b1.trans b2) _ _ n e))⟩
 clear tv1 pt1 b1
 clear H1
 rintro v1 p1 l1 r1 H1 tv1 ok1 pm1 ln1 pt1 b1
 refine ap (λ R=>∀ (v2:V) (p2:Int) (l2 r2:Tr) (H':Hp),TrV H' (.cut dn p2 l2 r2) v2->okU b ks W h1 (.cut dn p2 l2 r2)->(aX b dn (.cut dn p2 l2 r2) W h1).Perm (aX b dn (.cut dn p0 l0 r0) W h1)->lvN (.cut dn p2 l2 r2)=lvN (.cut dn p0 l0 r0)->PotC H' p->But p H H'->R [some (.ref p),some (.ref t),some (.int W),some (.int h1),some v2,some (.int (if dn=true then W else h1)),none,none,none,none,none,none] H') (λ Dd hR=>?_) ?_
 ·refine ⟨_,Y,p,2,Y,pt1,by decide,by decide,λ z H2 z0 z1 pt2 b2=>⟨Y,_,Y,?_⟩⟩
  have tv2:=TrV.keep (λ a xs e=>cS b2 pt1 e) _ tv1
  refine ca (λ c=>?_) (λ c=>hR _ p1 l1 r1 _ tv2 ok1 pm1 ln1 pt2 (b1.trans b2))
  obtain ⟨a1,x1,y1,rfl,ha1,tl1,tr1⟩:=id tv2
  have ha1:H2 a1=some (.tup [.str (wyL dn),.int p1,x1,y1]):=ha1
  obtain ⟨kr,ht,_⟩:=id (sh.but nk pt (b1.trans b2))
  obtain ⟨ok',pm'⟩:=Gh b0 ok1
  refine ⟨_,Y,a1,_,0,_,Y,Y,SqT.of ha1,Y,_,Y,_,Y,a1,_,1,_,Y,Y,SqT.of ha1,Y,_,_,Y,Y,_,Y,t,_,0,_,Y,Y,SqT.of ht,Y,_,_,Y,Y,_,Y,a1,_,3,_,Y,Y,SqT.of ha1,Y,_,Y,a1,_,2,_,Y,Y,SqT.of ha1,Y,zS4,λ it hit=>?_⟩
  obtain ⟨H3,e3,k3,n3,s3,b3,pt3⟩:=bU (o:=.tup [.str (wyL dn),.int ((if dn=true then W else h1) - p1 - b),y1,x1]) (b1.trans b2) pt2 hit
  rw [show upd H2 it _=H3 from e3]
  have k:∀a xs,H2 a=some (.tup xs)->H3 a=some (.tup xs):=λ a xs e=>s3 _ _ e
  exact hR _ _ r1 l1 _ ⟨it,y1,x1,rfl,k3,TrV.keep k _ tr1,TrV.keep k _ tl1⟩ ok' (pm'.trans pm1) (by rw [<- ln1]; show lvN r1 + lvN l1=lvN l1 + lvN r1; omega) pt3 b3
 clear tv1 pt1 b1 ok1 pm1 ln1
 clear H1 v1 p1 l1 r1
 rintro v2 p2 l2 r2 H1 tv1 ok1 pm1 ln1 pt1 b1
 obtain ⟨a1,x1,y1,rfl,ha1,tl1,tr1⟩:=id tv1
 have ha1:H1 a1=some (.tup [.str (wyL dn),.int p2,x1,y1]):=ha1
 refine ap (λ R=>R [some (.ref p),some (.ref t),some (.int W),some (.int h1),some (.ref a1),some (.int (if dn=true then W else h1)),some (.str (wyL dn)),some (.int p2),some x1,some y1,none,none] H1) (λ Dd hR=>?_) ?_
 ·exact ⟨_,Y,a1,_,Y,SqT.of ha1,Y,_,_,Y,_,_,Y,_,_,Y,_,_,Y,Y,hR⟩
 skip
 refine ap (λ R=>∀ (o1 o2:Addr) (H':Hp),H' o1=some (.tup [.int (if dn=true then p2 else W),.int (if dn=true then h1 else p2)])->H' o2=some (.tup [.int (if dn=true then W - p2 - b else W),.int (if dn=true then h1 else h1 - p2 - b)])->Same H1 H'->R [some (.ref p),some (.ref t),some (.int W),some (.int h1),some (.ref a1),some (.int (if dn=true then W else h1)),some (.str (wyL dn)),some (.int p2),some x1,some y1,some (.ref o1),some (.ref o2)] H') (λ Dd hR=>?_) ?_
 ·exact ⟨_,Y,_,Y,_,Y,_,Y,_,Y,t,kl,b,W,h1,p2,ks,dn,Y,sh.but nk pt b1,λ rr r1 r2 H6 e1 e2 e3 s6=>⟨rr,_,Y,SqT.of e1,Y,_,_,Y,_,_,Y,Y,hR r1 r2 _ e2 e3 s6⟩⟩
 rintro o1 o2 H2 ho1 ho2 s12
 have b2:But p H H2:=λ c o n e=>s12 _ _ (b1 _ _ n e)
 have pt2:=pt1.same s12
 have okl:okU b ks (if dn=true then p2 else W) (if dn=true then h1 else p2) l2/\okU b ks (if dn=true then W - p2 - b else W) (if dn=true then h1 else h1 - p2 - b) r2/\1<=p2/\1<=(if dn=true then p2 else W)/\1<=(if dn=true then h1 else p2)/\1<=(if dn=true then W - p2 - b else W)/\1<=(if dn=true then h1 else h1 - p2 - b):=by
  cases dn with
  | true =>
   obtain ⟨g1,g2,g3,g4⟩:=ok1
   exact ⟨g3,g4,g1,g1,h0,by show 1<=W - p2 - b; omega,h0⟩
  | false =>
   obtain ⟨g1,g2,g3,g4⟩:=ok1
   exact ⟨g3,g4,g1,w0,g1,w0,by show 1<=h1 - p2 - b; omega⟩
 obtain ⟨okl,okr,p21,d1,d2,d3,d4⟩:=okl
 have lnl:lvN l2 + lvN r2=lvN (.cut dn p0 l0 r0):=ln1
 have lp1:=(cL b l2 0 0).2.2
 have lp2:=(cL b r2 0 0).2.2
 refine ap (λ R=>∀ (v3:V) (l3:Tr) (H':Hp),TrV H' l3 v3->okU b ks (if dn=true then p2 else W) (if dn=true then h1 else p2) l3->bm b l3 (if dn=true then p2 else W) (if dn=true then h1 else p2)=bm b l2 (if dn=true then p2 else W) (if dn=true then h1 else p2)->lvN l3=lvN l2->PotC H' p->But p H2 H'->R [some (.ref p),some (.ref t),some (.int W),some (.int h1),some (.ref a1),some (.int (if dn=true then W else h1)),some (.str (wyL dn)),some (.int p2),some v3,some y1,some (.ref o1),some (.ref o2)] H') (λ Dd hR=>?_) ?_
 ·exact ⟨_,Y,_,Y,_,Y,o1,_,0,_,Y,Y,SqT.of ho1,Y,_,Y,o1,_,1,_,Y,Y,SqT.of ho1,Y,_,Y,p,t,kl,b,_,_,ks,x1,l2,Y,pt2,sh.but nk pt b2,nk,TrV.keep (λ a xs e=>s12 _ _ e) _ tl1,okl,b0,d1,d2,by omega,λ v' T' H3 tv3 ok3 et3 ln3 pt3 b3=>hR v' T' _ tv3 ok3 et3 ln3 pt3 b3⟩
 rintro v3 l3 H3 tv3 ok3 et3 ln3 pt3 b23
 have b3:=b2.trans b23
 have ho2':=cS b23 pt2 ho2
 refine ⟨_,Y,_,Y,_,Y,_,Y,_,Y,_,Y,o2,_,0,_,Y,Y,SqT.of ho2',Y,_,Y,o2,_,1,_,Y,Y,SqT.of ho2',Y,_,Y,p,t,kl,b,_,_,ks,y1,r2,Y,pt3,sh.but nk pt b3,nk,TrV.keep (λ a xs e=>cS b23 pt2 (s12 _ _ e)) _ tr1,okr,b0,d3,d4,by omega,λ v4 r4 H4 tv4 ok4 et4 ln4 pt4 b4=>⟨zS4,λ it hit=>?_⟩⟩
 obtain ⟨H5,e5,k5,n5,s5,b5,pt5⟩:=bU (o:=.tup [.str (wyL dn),.int p2,v3,v4]) (b3.trans b4) pt4 hit
 rw [show upd H4 it _=H5 from e5]
 have k45:∀a xs,H4 a=some (.tup xs)->H5 a=some (.tup xs):=λ a xs e=>s5 _ _ e
 refine q _ (.cut dn p2 l3 r4) H5 ⟨it,v3,v4,rfl,k5,TrV.keep (λ a xs e=>k45 _ _ (cS b4 pt3 e)) _ tv3,TrV.keep k45 _ tv4⟩ ?_ ?_ (by show lvN l3 + lvN r4=_; omega) pt5 b5
 ·cases dn with
  | true =>
   obtain ⟨g1,g2,g3,g4⟩:=ok1
   exact ⟨g1,g2,ok3,ok4⟩
  | false =>
   obtain ⟨g1,g2,g3,g4⟩:=ok1
   exact ⟨g1,g2,ok3,ok4⟩
 ·refine rP (List.Perm.trans ?_ pm1)
  rw [bB,bB]
  exact (kn et3 dn).append (kn et4 dn)
theorem rQ {f:Addr} {fd:FuncData} (F:Fun K "_law_turned" "_law_turned" cR f fd):FnOk P w K mg base CX0 2 f fd ["_law_pot_here","_law_shop_here","_law_wide","_law_high","_law_tree_here"] (spTurn 0):=by
 refine F.ok scturn (λ vs H Q E h=>?_) (λ cdv A outer s H vs Q E hr h=>?_)
 ·obtain ⟨p,t,kl,b,W,h1,ks,v,T,rfl,_⟩:=h
  rfl
 ·obtain ⟨p,t,kl,b,W,h1,ks,v,T,rfl,_,_,_,_,_,_,_,_,z,_⟩:=h
  exact absurd z (Nat.not_lt_zero _)
theorem kq {f:Addr} {fd:FuncData} (F:Fun K "_law_turned" "_law_turned" cR f fd) (B:Blt mg) (DD:Dn P w K mg base "_law_take" ["_law_pot_here","_law_many"] 1 (spTake)) (DBh:Dn P w K mg base "_law_behind" ["_law_shop_here","_law_wide","_law_high","_law_way","_law_p"] 1 (spBeh)) (DRg:Dn P w K mg base "_law_regrouped" ["_law_shop_here","_law_tree_here"] 1 (spRegr)) (mk:∀n,FnOk P w K mg base CX0 (2 + n) f fd ["_law_pot_here","_law_shop_here","_law_wide","_law_high","_law_tree_here"] (spTurn n)->Dn P w K mg base "_law_turned" ["_law_pot_here","_law_shop_here","_law_wide","_law_high","_law_tree_here"] (2 + n) (spTurn n)):∀n,FnOk P w K mg base CX0 (2 + n) f fd ["_law_pot_here","_law_shop_here","_law_wide","_law_high","_law_tree_here"] (spTurn n)
 | 0=>rQ F
 | n + 1=>ur F B n DD DBh DRg (mk n (kq F B DD DBh DRg mk n))
theorem scmes:FnScope ["_law_made","_law_wide","_law_high","_law_tree_here","_law_found"] ["_law_made","_law_wide","_law_high","_law_tree_here"] (defScope ef):=⟨Y,Y,Y,by decide +kernel,Y,by decide +kernel,by decide +kernel⟩
theorem vU {f C:Addr} {fd:FuncData} (F:Fun K "_law_measured" "_law_measured" ef f fd) (B:Blt mg) (DCo:Dn P w K mg base "counts_of" ["shop","wide","high","tree"] 9 (spCountsO C)) (DWo:Dn P w K mg base "worth_of" ["shop","wide","high","tree"] 10 (spWorthO C)) (DAr:Dn P w K mg base "areas_of" ["shop","wide","high","tree"] 8 (spAreas C)) (DTn:Dn P w K mg base "turns_of" ["shop","wide","high","tree"] 8 (spTurns C)):FnOk P w K mg base CX0 11 f fd ["_law_made","_law_wide","_law_high","_law_tree_here"] (spMes C):=by
 refine F.ok scmes (λ vs H Q E h=>?_) (λ cdv A outer s H vs Q E hr h=>?_)
 ·obtain ⟨pp,s,b,w1,h1,ks,v,d,T,rfl,_⟩:=h
  rfl
 obtain ⟨pp,s,b,w1,h1,ks,v,d,T,rfl,th,k8,gk,b0,w60,h60,q⟩:=h
 have nd:=scmes.nd
 refine ⟨_,(@ae _ _ _ _ _ (@az _ _ 4 _ _ _ _ nd rfl (Or.inl rfl) (@aM _ _ _ _ (@aa _ _ _ _ _ (@aj _ _ _ _ _ _ _ _ _ _ DCo (hr.mono (by decide)) rfl (@aa _ _ _ _ _ (pv 0) (@aa _ _ _ _ _ (pv 1) (@aa _ _ _ _ _ (pv 2) (@aa _ _ _ _ _ (pv 3) ab rfl) rfl) rfl) rfl) (by decide) rfl rfl) (@aa _ _ _ _ _ (@aj _ _ _ _ _ _ _ _ _ _ DWo hr rfl (@aa _ _ _ _ _ (pv 0) (@aa _ _ _ _ _ (pv 1) (@aa _ _ _ _ _ (pv 2) (@aa _ _ _ _ _ (pv 3) ab rfl) rfl) rfl) rfl) (by decide) rfl rfl) (@aa _ _ _ _ _ (@aj _ _ _ _ _ _ _ _ _ _ DAr (hr.mono (by decide)) rfl (@aa _ _ _ _ _ (pv 0) (@aa _ _ _ _ _ (pv 1) (@aa _ _ _ _ _ (pv 2) (@aa _ _ _ _ _ (pv 3) ab rfl) rfl) rfl) rfl) (by decide) rfl rfl) ab rfl) rfl) rfl)) rfl (Or.inl rfl)) (@ag _ _ _ (@av _ _ _ _ (@ay _ _ _ _ _ _ _ _ vw (pv 4) (@aM _ _ _ _ (@aa _ _ _ _ _ (@aj _ _ _ _ _ _ _ _ _ _ DTn (hr.mono (by decide)) rfl (@aa _ _ _ _ _ (pv 0) (@aa _ _ _ _ _ (pv 1) (@aa _ _ _ _ _ (pv 2) (@aa _ _ _ _ _ (pv 3) ab rfl) rfl) rfl) rfl) (by decide) rfl rfl) ab rfl)))))),?_⟩
 have szt:=dk T
 have l63:=th.ln
 refine ap (λ R=>∀ (fo c ar:Addr) (H':Hp),H fo=none->H c=none->H' fo=some (.lst [.ref c,.int (((bC (pcs b T w1 h1) ks.length).zip ks).map λ z=>z.1 * z.2.wo).sum,.ref ar])->H' c=some (.lst ((bC (pcs b T w1 h1) ks.length).map V.int))->H' ar=some (.tup [.int (bv (pcA ks) (lvs b T 0 0 w1 h1)),.int (bv rsA (lvs b T 0 0 w1 h1)),.int (bv (mgA ks) (lvs b T 0 0 w1 h1)),.int (w1 * h1 - bv (pcA ks) (lvs b T 0 0 w1 h1) - bv rsA (lvs b T 0 0 w1 h1) - bv (mgA ks) (lvs b T 0 0 w1 h1))])->Same H H'->R [some (.ref s),some (.int w1),some (.int h1),some v,some (.ref fo)] H') (λ Dd hR=>?_) ?_
 ·refine ⟨_,Y,_,Y,_,Y,_,Y,pp,s,b,w1,h1,ks,v,d,T,Y,th,k8,λ c H1 hc k1 s1=>?_⟩
  refine ⟨_,Y,_,Y,_,Y,_,Y,pp,s,b,w1,h1,ks,v,d,T,Y,th.same s1,k8,gk,λ H2 s2=>?_⟩
  have s02:=s1.trans s2
  refine ⟨_,Y,_,Y,_,Y,_,Y,pp,s,b,w1,h1,ks,v,d,T,Y,th.same s02,b0,w60,h60,gk,λ ar A R' M H3 eA eR eM har k3 s3=>⟨zS3,λ fo hfo=>?_⟩⟩
  obtain ⟨H4,e4,k4,s4⟩:∃H',upd H3 fo (.lst [.ref c,.int (((bC (pcs b T w1 h1) ks.length).zip ks).map λ z=>z.1 * z.2.wo).sum,.ref ar])=H'/\H' fo=some (.lst [.ref c,.int (((bC (pcs b T w1 h1) ks.length).zip ks).map λ z=>z.1 * z.2.wo).sum,.ref ar])/\Same H3 H':=⟨_,Y,af,Same.new hfo⟩
  rw [show upd H3 fo _=H4 from e4]
  subst eA eR eM
  exact hR fo c ar _ ((s02.trans s3).free hfo) hc k4 (s4 _ _ (s3 _ _ (s2 _ _ k1))) (s4 _ _ k3) (s02.trans (s3.trans s4))
 rintro fo c ar H1 hfo0 hc0 hfo hc har s1
 have th1:=th.same s1
 refine ⟨_,Y,_,Y,_,Y,_,Y,_,Y,pp,s,b,w1,h1,ks,v,d,T,Y,th1.sh,th1.w1,th1.h1,th1.dt,?_,th1.td,th1.ok,by omega,λ H2 s2=>⟨zS1,λ t1 ht1=>?_⟩⟩
 ·have:=th1.wd
  omega
 obtain ⟨H3,e3,k3,s3⟩:∃H',upd H2 t1 (.lst [.int (tn T none 0:Nat)])=H'/\H' t1=some (.lst [.int (tn T none 0:Nat)])/\Same H2 H':=⟨_,Y,af,Same.new ht1⟩
 rw [show upd H2 t1 _=H3 from e3]
 have s13:=s2.trans s3
 refine ⟨fo,t1,_,_,Y,Y,s13 _ _ hfo,k3,zS4,λ r hr=>?_⟩
 obtain ⟨H4,e4,k4,s4⟩:∃H',upd H3 r (.lst ([.ref c,.int (((bC (pcs b T w1 h1) ks.length).zip ks).map λ z=>z.1 * z.2.wo).sum,.ref ar] ++ [.int (tn T none 0:Nat)]))=H'/\H' r=some (.lst ([.ref c,.int (((bC (pcs b T w1 h1) ks.length).zip ks).map λ z=>z.1 * z.2.wo).sum,.ref ar] ++ [.int (tn T none 0:Nat)]))/\Same H3 H':=⟨_,Y,af,Same.new hr⟩
 rw [show upd H3 r _=H4 from e4]
 have s14:=s13.trans s4
 have fr:H r=none:=(s1.trans s13).free hr
 refine q r H4 (λ p hp=>?_) (s1.trans s14)
 have np:∀ {x:Addr},H x=none->x≠p:=λ e z=>hp (z ▸ e)
 exact .lst (np fr) k4 (.cons (.lst (np hc0) (s14 _ _ hc) (mW _)) (.cons (.int _) (.cons (.tup (s14 _ _ har) (.cons (.int _) (.cons (.int _) (.cons (.int _) (.cons (.int _) .nil))))) (.cons (.int _) .nil))))
end
theorem rR {C p s:Addr} {b':Int} {ks:List Kd} {H H':Hp} (pt:PotC H p) (b:But p H H') (h:ShopAt C H s b' ks):ShopAt C H' s b' ks:=by
 obtain ⟨_,hp⟩:=lw pt
 exact h.keep (λ x xs e=>b _ _ (λ z=>by rw [z,hp] at e; cases e) e) (λ x C' d fs e=>b _ _ (λ z=>by rw [z,hp] at e; cases e) e)
structure LY (C p t kl x:Addr) (b:Int) (ks:List Kd) (H:Hp):Prop where
 ls:LS H t b ks kl
 sh:ShopAt C H x b ks
 po:PotC H p
theorem LY.same {C p t kl x:Addr} {b:Int} {ks:List Kd} {H H':Hp} (h:LY C p t kl x b ks H) (s:Same H H'):LY C p t kl x b ks H' :=
 ⟨h.ls.same s,dq s h.sh,h.po.same s⟩
theorem LY.but {C p t kl x:Addr} {b:Int} {ks:List Kd} {H H':Hp} (h:LY C p t kl x b ks H) (nk:kl≠p) (pt:PotC H' p) (bb:But p H H'):LY C p t kl x b ks H' :=
 ⟨h.ls.but nk h.po bb,rR h.po bb h.sh,pt⟩
theorem TlV.ref {H:Hp}:∀ (t:Tl) {v:V},TlV H t v->∃a,v=.ref a
 | .rest,_,h=>by rw [TlV] at h; exact ⟨_,h.choose_spec.1⟩
 | .piece ..,_,h=>by rw [TlV] at h; exact ⟨_,h.choose_spec.1⟩
 | .row ..,_,h=>by
  rw [TlV] at h
  obtain ⟨a,q,xs,e,_⟩:=h
  exact ⟨a,e⟩
mutual
theorem TlV.dt {p:Addr} {H:Hp}:∀ (t:Tl) {v:V},TlV H t v->Dt p H v (tlD t)
 | .rest,_,h=>by
  rw [TlV] at h
  obtain ⟨a,e,h⟩:=h
  subst e
  exact .tup h (.cons (.str _) .nil)
 | .piece ..,_,h=>by
  rw [TlV] at h
  obtain ⟨a,e,h⟩:=h
  subst e
  exact .tup h (.cons (.str _) (.cons (.int _) (.cons (.bl _) (.cons (.int _) (.cons (.int _) .nil)))))
 | .row dn r,_,h=>by
  rw [TlV] at h
  obtain ⟨a,q,xs,e,h1,h2,h3⟩:=h
  subst e
  exact .tup h1 (.cons (.str _) (.cons (.tup h2 (TlsV.dt r h3)) .nil))
theorem TlsV.dt {p:Addr} {H:Hp}:∀ (t:Tls) {v:List V},TlsV H t v->Dts p H v (bj t)
 | .nil,_,h=>by rw [TlsV] at h; subst h; exact .nil
 | .cons n t r,_,h=>by
  rw [TlsV] at h
  obtain ⟨a,u,ys,e,h1,h2,h3⟩:=h
  subst e
  exact .cons (.tup h1 (.cons (.int _) (.cons (TlV.dt t h2) .nil))) (TlsV.dt r h3)
end
structure TrO (b:Int) (ks:List Kd) (W h:Int) (T U:Tr):Prop where
 ok:okU b ks W h U
 tl:bm b U W h=bm b T W h
 ln:lvN U=lvN T
theorem rS {C p s:Addr} {b w h:Int} {ks:List Kd} {v:V} {t:Tr} {H:Hp} (sh:ShopAt C H s b ks) (w1:1<=w) (h1:1<=h) (tv:TrV H t v) (ok:okU b ks w h t) (ln:lvN t<=45):TrH C p s b w h ks v (toD t) t H:=by
 have:=ib t
 have:=dk t
 exact ⟨sh,w1,h1,TrV.dt t tv,TrD.to t,gf t ok,by omega,by omega⟩
section
variable {P:Program} {w:World} {K:PySem.W.Frag} {mg:Str->Option Value} {base:Heap}
def mY (K:PySem.W.Frag):Sp:=λ vs H Q _=>∃ (a:Addr) (ns:List Int),vs=[.ref a]/\SqL K H a (ns.map V.int)/\ns.length<=63/\∀H',Q (.bl true) H'
theorem sclaw:FnScope ["_law_script","_law_k","_law_pot_here","_law_unit_here","_law_shop_here","_law_made","_law_wide","_law_high","_law_tree_here","_law_told","_law_due","_law_other","_law_one"] ["_law_script"] (defScope jW):=⟨Y,Y,Y,by decide +kernel,Y,by decide +kernel,by decide +kernel⟩
set_option maxHeartbeats 1000000 in
theorem vV {f C:Addr} {fd:FuncData} (F:Fun K "law" "law" jW f fd) (B:Blt mg) (DC:Dn P w K mg base "_law_cell" ["_law_script","_law_k"] 1 (lg K)) (DP:Dn P w K mg base "_law_pot" ["_law_cell_here","_law_k"] 1 (spPotC)) (DD:Dn P w K mg base "_law_take" ["_law_pot_here","_law_many"] 1 (spTake)) (DU:Dn P w K mg base "_law_unit" ["_law_pot_here"] 2 (spUnit)) (DSp:Dn P w K mg base "_law_shop" ["_law_pot_here","_law_unit_here"] 3 (spShopC)) (DSi:Dn P w K mg base "_law_side" ["_law_pot_here","_law_unit_here","_law_most"] 2 (spSideC)) (DT:Dn P w K mg base "_law_tree" ["_law_pot_here","_law_shop_here","_law_wide","_law_high","_law_deep_here","_law_room"] 14 (spTreeC 11)) (DDe:Dn P w K mg base "_law_deep" ["_law_pot_here","_law_shop_here","_law_unit_here","_law_turn"] 3 (spDeep)) (DTu:Dn P w K mg base "_law_turned" ["_law_pot_here","_law_shop_here","_law_wide","_law_high","_law_tree_here"] 52 (spTurn 50)) (DMe:Dn P w K mg base "_law_measured" ["_law_made","_law_wide","_law_high","_law_tree_here"] 11 (spMes C)) (DTe:Dn P w K mg base "telling_of" ["shop","wide","high","tree"] 54 (spTellO C)) (DTt:Dn P w K mg base "tree_told" ["shop","wide","high","telling"] 160 (spTreeTo C)) (DSh:Kn P w K mg base "Shop" C ["self","blade","kinds"] 3 (kY C)):FnOk P w K mg base CX0 161 f fd ["_law_script"] (mY K):=by
 refine F.ok sclaw (λ vs H Q E h=>?_) (λ cdv A outer s H vs Q E hr h=>?_)
 ·obtain ⟨a,ns,rfl,_⟩:=h
  rfl
 obtain ⟨a,ns,rfl,hS,n63,q⟩:=h
 have nd:=sclaw.nd
 have hu2:=Room.units220 hr (by decide)
 refine ⟨_,(@ae _ _ _ _ _ (@bO _ _ _ _ _ _ _ _ PassesOwn.never rfl (fB rfl B.range (@aa _ _ _ _ _ (@aF _ _ _ _ _ _ _ _ _ (fF rfl) rfl B.max PyProof.Rows.boot_max (@aa _ _ _ _ _ ad (@aa _ _ _ _ _ (@aF _ _ _ _ _ _ _ _ _ (fG rfl) rfl B.min PyProof.Rows.boot_min (@aa _ _ _ _ _ ad (@aa _ _ _ _ _ (@aF _ _ _ _ _ _ _ _ _ aW rfl B.len PySem.boot_len (@aa _ _ _ _ _ (pv 0) ab rfl) (by decide) (by decide) rfl rfl) ab rfl) rfl) (by decide) (by decide) rfl rfl) ab rfl) rfl) (by decide) (by decide) rfl rfl) ab rfl)) (ai (i:=1) nd rfl (Or.inl rfl)) (@ae _ _ _ _ _ (@az _ _ 2 _ _ _ _ nd rfl (Or.inl rfl) (@aj _ _ _ _ _ _ _ _ _ _ DP (hr.mono (by decide)) rfl (@aa _ _ _ _ _ (@aj _ _ _ _ _ _ _ _ _ _ DC (hr.mono (by decide)) rfl (@aa _ _ _ _ _ (pv 0) (@aa _ _ _ _ _ (pv 1) ab rfl) rfl) (by decide) rfl rfl) (@aa _ _ _ _ _ (pv 1) ab rfl) rfl) (by decide) rfl rfl) rfl (Or.inl rfl)) (@ae _ _ _ _ _ (@az _ _ 3 _ _ _ _ nd rfl (Or.inl rfl) (@aj _ _ _ _ _ _ _ _ _ _ DU (hr.mono (by decide)) rfl (@aa _ _ _ _ _ (pv 2) ab rfl) (by decide) rfl rfl) rfl (Or.inl rfl)) (@ae _ _ _ _ _ (@az _ _ 4 _ _ _ _ nd rfl (Or.inl rfl) (@aj _ _ _ _ _ _ _ _ _ _ DSp (hr.mono (by decide)) rfl (@aa _ _ _ _ _ (pv 2) (@aa _ _ _ _ _ (pv 3) ab rfl) rfl) (by decide) rfl rfl) rfl (Or.inl rfl)) (@ae _ _ _ _ _ (@az _ _ 5 _ _ _ _ nd rfl (Or.inl rfl) (xY DSh (hr.mono (by decide)) rfl (@aa _ _ _ _ _ (@ao _ _ _ _ _ _ _ ix_tup (pv 4) ad (λ _ _=>rfl)) (@aa _ _ _ _ _ (@ao _ _ _ _ _ _ _ ix_tup (pv 4) ad (λ _ _=>rfl)) ab rfl) rfl)) rfl (Or.inl rfl)) (@ae _ _ _ _ _ (kH rfl nd rfl rfl (i:=6) (j:=7) (by decide) rfl rfl (@aa _ _ _ _ _ (@aj _ _ _ _ _ _ _ _ _ _ DSi (hr.mono (by decide)) rfl (@aa _ _ _ _ _ (pv 2) (@aa _ _ _ _ _ (pv 3) (@aa _ _ _ _ _ ad ab rfl) rfl) rfl) (by decide) rfl rfl) (@aa _ _ _ _ _ (@aj _ _ _ _ _ _ _ _ _ _ DSi (hr.mono (by decide)) rfl (@aa _ _ _ _ _ (pv 2) (@aa _ _ _ _ _ (pv 3) (@aa _ _ _ _ _ ad ab rfl) rfl) rfl) (by decide) rfl rfl) ab rfl) rfl) rfl) (@ae _ _ _ _ _ (@az _ _ 8 _ _ _ _ nd rfl (Or.inl rfl) (@aj _ _ _ _ _ _ _ _ _ _ DT (hr.mono (by decide)) rfl (@aa _ _ _ _ _ (pv 2) (@aa _ _ _ _ _ (pv 4) (@aa _ _ _ _ _ (pv 6) (@aa _ _ _ _ _ (pv 7) (@aa _ _ _ _ _ ad (@aa _ _ _ _ _ (@aM _ _ _ _ (@aa _ _ _ _ _ ad ab rfl)) ab rfl) rfl) rfl) rfl) rfl) rfl) (by decide) rfl rfl) rfl (Or.inl rfl)) (@ae _ _ _ _ _ (@aI _ _ _ _ _ _ _ _ (@aB _ _ _ _ _ _ _ _ bn (@aj _ _ _ _ _ _ _ _ _ _ DD (hr.mono (by decide)) rfl (@aa _ _ _ _ _ (pv 2) (@aa _ _ _ _ _ ad ab rfl) rfl) (by decide) rfl rfl) ad (aD _)) (@ag _ _ _ (@bd _ _ _ _ _ _ (@aj _ _ _ _ _ _ _ _ _ _ DDe (hr.mono (by decide)) rfl (@aa _ _ _ _ _ (pv 2) (@aa _ _ _ _ _ (pv 4) (@aa _ _ _ _ _ (pv 3) (@aa _ _ _ _ _ (@aj _ _ _ _ _ _ _ _ _ _ DD (hr.mono (by decide)) rfl (@aa _ _ _ _ _ (pv 2) (@aa _ _ _ _ _ ad ab rfl) rfl) (by decide) rfl rfl) ab rfl) rfl) rfl) rfl) (by decide) rfl rfl) (aT rfl (ah (ai (i:=6) nd rfl (Or.inl rfl)) (ah (ai (i:=7) nd rfl (Or.inl rfl)) (ah (ai (i:=8) nd rfl (Or.inl rfl)) aG)))) rfl rfl rfl)) aA) (@ae _ _ _ _ _ (@az _ _ 9 _ _ _ _ nd rfl (Or.inl rfl) (@aj _ _ _ _ _ _ _ _ _ _ DTe (hr.mono (by decide)) rfl (@aa _ _ _ _ _ (pv 5) (@aa _ _ _ _ _ (pv 6) (@aa _ _ _ _ _ (pv 7) (@aa _ _ _ _ _ (pv 8) ab rfl) rfl) rfl) rfl) (by decide) rfl rfl) rfl (Or.inl rfl)) (@ae _ _ _ _ _ (@az _ _ 10 _ _ _ _ nd rfl (Or.inl rfl) (@aj _ _ _ _ _ _ _ _ _ _ DMe (hr.mono (by decide)) rfl (@aa _ _ _ _ _ (pv 5) (@aa _ _ _ _ _ (pv 6) (@aa _ _ _ _ _ (pv 7) (@aa _ _ _ _ _ (pv 8) ab rfl) rfl) rfl) rfl) (by decide) rfl rfl) rfl (Or.inl rfl)) (@ae _ _ _ _ _ (@az _ _ 11 _ _ _ _ nd rfl (Or.inl rfl) (@aj _ _ _ _ _ _ _ _ _ _ DTu (hr.mono (by decide)) rfl (@aa _ _ _ _ _ (pv 2) (@aa _ _ _ _ _ (pv 4) (@aa _ _ _ _ _ (pv 6) (@aa _ _ _ _ _ (pv 7) (@aa _ _ _ _ _ (pv 8) ab rfl) rfl) rfl) rfl) rfl) (by decide) rfl rfl) rfl (Or.inl rfl)) (@ag _ _ _ (@bO _ _ _ _ _ _ _ _ PassesOwn.never rfl (gP (@ax _ _ _ _ _ (@aa _ _ _ _ _ (pv 11) (@aa _ _ _ _ _ (@aj _ _ _ _ _ _ _ _ _ _ DTu (hr.mono (by decide)) rfl (@aa _ _ _ _ _ (pv 2) (@aa _ _ _ _ _ (pv 4) (@aa _ _ _ _ _ (pv 6) (@aa _ _ _ _ _ (pv 7) (@aa _ _ _ _ _ (pv 11) ab rfl) rfl) rfl) rfl) rfl) (by decide) rfl rfl) (@aa _ _ _ _ _ (@aj _ _ _ _ _ _ _ _ _ _ DTt hr rfl (@aa _ _ _ _ _ (pv 5) (@aa _ _ _ _ _ (pv 6) (@aa _ _ _ _ _ (pv 7) (@aa _ _ _ _ _ (pv 9) ab rfl) rfl) rfl) rfl) (by decide) rfl rfl) ab rfl) rfl) rfl))) (ai (i:=12) nd rfl (Or.inl rfl)) (@ag _ _ _ (@aI _ _ _ _ _ _ _ _ (PW.pt (bY (@aB _ _ _ _ _ _ _ _ (lp hu2) (@aj _ _ _ _ _ _ _ _ _ _ DTe (hr.mono (by decide)) rfl (@aa _ _ _ _ _ (pv 5) (@aa _ _ _ _ _ (pv 6) (@aa _ _ _ _ _ (pv 7) (@aa _ _ _ _ _ (pv 12) ab rfl) rfl) rfl) rfl) (by decide) rfl rfl) (pv 9) (aD _)) (cq (@aB _ _ _ _ _ _ _ _ (lp hu2) (@aj _ _ _ _ _ _ _ _ _ _ DMe (hr.mono (by decide)) rfl (@aa _ _ _ _ _ (pv 5) (@aa _ _ _ _ _ (pv 6) (@aa _ _ _ _ _ (pv 7) (@aa _ _ _ _ _ (pv 12) ab rfl) rfl) rfl) rfl) (by decide) rfl rfl) (pv 10) (aD _))))) (@ag _ _ _ (@av _ _ _ _ cM)) aA)) (by intro _; rfl))))))))))))) (by intro _; rfl)) (@ag _ _ _ (@av _ _ _ _ cM))),?_⟩
 have sz:(10000:Nat) < sizeLine:=by decide
 have ln:(ns.map V.int).length=ns.length:=List.length_map _
 have e59:(10:Int) ^ 58 < 9 * 10 ^ 59:=by decide
 have e60:9 * (10:Int) ^ 59 < 10 ^ 60:=by decide
 refine bF (λ σ' H'=>True) (λ R hR=>?_) ?_
 ·refine ⟨_,Y,a,_,Y,.inl hS,_,_,Y,_,_,Y,_,Y,?_,?_,?_⟩
  ·rw [ln]; split <;> omega
  ·rw [ln]; split <;> omega
  generalize hn:(Int.toNat _)=n
  have n8:n<=8:=by
   rw [<- hn]
   split <;> (try split) <;> omega
  refine fC (n:=n) (λ i σ H'=>∃ (v1 v2 v3 v4 v5 v6 v7 v8 v9 v10 v11 v12:Option V),σ=[some (.ref a),v1,v2,v3,v4,v5,v6,v7,v8,v9,v10,v11,v12]/\Same H H') ⟨_,_,_,_,_,_,_,_,_,_,_,_,rfl,Same.refl _⟩ ?_ (λ σ Hx _=>hR _ _ trivial)
  intro i σ Hx hi hI9
  refine cK λ G9 k9=>?_
  obtain ⟨v1,v2,v3,v4,v5,v6,v7,v8,v9,v10,v11,v12,rfl,sx⟩:=hI9
  refine k9 ?_
  refine ap (λ R=>∀p (H':Hp),Hx p=none->PotC H' p->But p Hx H'->R [some (.ref a),some (.int (0 + (i:Int))),some (.ref p),v3,v4,v5,v6,v7,v8,v9,v10,v11,v12] H') (λ Dd hR=>?_) ?_
  ·exact ⟨_,Y,_,Y,a,ns,_,Y,sx.seq hS,by omega,λ c=>⟨_,Y,c,_,Y,by omega,by omega,λ p Hb hp ptb sb=>hR p _ hp ptb (Pc.Same.but sb)⟩⟩
  rintro p H1 hp pt1 b1
  refine ap (λ R=>∀ (u:Int) (H':Hp),1<=u->u < 2 * 10 ^ 56->PotC H' p->But p Hx H'->R [some (.ref a),some (.int (0 + (i:Int))),some (.ref p),some (.int u),v4,v5,v6,v7,v8,v9,v10,v11,v12] H') (λ Dd hR=>?_) ?_
  ·exact ⟨_,Y,p,Y,pt1,λ u H2 u1 u2 pt2 b2=>hR u _ u1 u2 pt2 (b1.trans b2)⟩
  rintro u H2 u1 u2 pt2 b2
  refine ap (λ R=>∀ (t kl:Addr) (b:Int) (ks:List Kd) (H':Hp),LS H' t b ks kl->kl≠p->(∀k∈ks,Good k)->1<=ks.length->ks.length<=8->0<=b->b < 10 ^ 58->PotC H' p->But p Hx H'->R [some (.ref a),some (.int (0 + (i:Int))),some (.ref p),some (.int u),some (.ref t),v5,v6,v7,v8,v9,v10,v11,v12] H') (λ Dd hR=>?_) ?_
  ·exact ⟨_,Y,_,Y,p,u,Y,pt2,u1,u2,λ t kl b ks H3 ls nk _ gk k1 k8 b0 b60 pt3 b3=>hR t kl b ks _ ls nk (λ k hk=>(gk k hk).1) k1 k8 b0 b60 pt3 (b2.trans b3)⟩
  rintro t kl b ks H3 ls3 nk gk k1 kn8 b0 b58 pt3 b3
  refine ap (λ R=>∀ (x:Addr) (H':Hp),LS H' t b ks kl->ShopAt C H' x b ks->PotC H' p->But p Hx H'->R [some (.ref a),some (.int (0 + (i:Int))),some (.ref p),some (.int u),some (.ref t),some (.ref x),v6,v7,v8,v9,v10,v11,v12] H') (λ Dd hR=>?_) ?_
  ·obtain ⟨rs,q1,q2,q3⟩:=id ls3
   have rl:=Paired.length q3
   refine ⟨_,Y,t,_,0,_,Y,Y,SqT.of q1,Y,_,Y,t,_,1,_,Y,Y,SqT.of q1,Y,λ x dx hx hdx ne0=>?_⟩
   have sm:Same H3 (upd (upd H3 dx (.own x)) x (.ins C dx [])):=nS hx hdx
   refine ⟨x,dx,kl,b,rs,ks,Y,af,b0,.inl (sm _ _ q2),Paired.mapP (Tups.keep (λ c xs e=>sm _ _ e) q3) (λ v k h=>.inl h),gk,by omega,by omega,λ Hb Sb kb=>⟨Y,?_⟩⟩
   have sb:Same H3 Hb:=λ c o e=>kb c o (au e hx) (sm _ _ e)
   exact hR x _ (ls3.same sb) Sb (pt3.same sb) (λ c o n e=>sb _ _ (b3 _ _ n e))
  rintro x H4 ls4 sh4 pt4 b4
  refine ap (λ R=>∀ (W h1:Int) (H':Hp),1<=W->W < 10 ^ 58->1<=h1->h1 < 10 ^ 58->LS H' t b ks kl->ShopAt C H' x b ks->PotC H' p->But p Hx H'->R [some (.ref a),some (.int (0 + (i:Int))),some (.ref p),some (.int u),some (.ref t),some (.ref x),some (.int W),some (.int h1),v8,v9,v10,v11,v12] H') (λ Dd hR=>?_) ?_
  ·exact ⟨_,Y,_,Y,p,u,40,Y,pt4,u1,u2,by decide,by decide,λ W H5 w0 w58 pt5 b5=>⟨_,Y,_,Y,p,u,40,Y,pt5,u1,u2,by decide,by decide,λ h1 H6 h0 h58 pt6 b6=>⟨_,_,Y,hR W h1 _ w0 w58 h0 h58 ((ls4.but nk pt4 b5).but nk pt5 b6) (rR pt5 b6 (rR pt4 b5 sh4)) pt6 (b4.trans (b5.trans b6))⟩⟩⟩
  clear b1 pt1 b2 pt2 b3 pt3 ls3 b4 pt4 ls4 sh4
  clear H1 H2 H3 H4
  rintro W h1 H5 w0 w58 h0 h58 ls5 sh5 pt5 b5
  refine ap (λ R=>∀ (v:V) (T:Tr) (H':Hp),okU b ks W h1 T->lvN T<=31->TrV H' T v->LY C p t kl x b ks H'->But p Hx H'->R [some (.ref a),some (.int (0 + (i:Int))),some (.ref p),some (.int u),some (.ref t),some (.ref x),some (.int W),some (.int h1),some v,v9,v10,v11,v12] H') (λ Dd hR=>?_) ?_
  ·refine ⟨_,Y,_,Y,_,Y,_,Y,zS1,λ rm hrm=>?_⟩
   obtain ⟨H7,e7,k7,n7,s7,b7,pt7⟩:=bU (o:=.lst [.int 30]) b5 pt5 hrm
   rw [show upd H5 rm _=H7 from e7]
   have ls7:=ls5.same s7
   obtain ⟨rs,q1,q2,q3⟩:=id ls5
   have nkr:kl≠rm:=au q2 hrm
   refine ⟨p,t,kl,rm,b,W,h1,30,ks,10,Y,pt7,ls7,nk,nkr,n7,kn8,gk,b0,by omega,by omega,k7,by decide,by decide,λ v T r' H8 tv ok r0 ln dp hrm8 pt8 b78=>?_⟩
   obtain ⟨_,hp7⟩:=lw pt7
   have tk:∀c xs,H7 c=some (.tup xs)->H8 c=some (.tup xs):=λ c xs e=>b78 _ _ (λ z=>by rw [z,hp7] at e; cases e) (λ z=>by rw [z,k7] at e; cases e) e
   have ls8:=ls7.keep2 hp7 k7 nk nkr b78
   have sh8:ShopAt C H8 x b ks:=(dq s7 sh5).keep (λ c xs e=>tk _ _ e) (λ c C' d fs e=>b78 _ _ (λ z=>by rw [z,hp7] at e; cases e) (λ z=>by rw [z,k7] at e; cases e) e)
   have b08:But p Hx H8:=λ c o n e=>b78 _ _ n (au (b5 _ _ n e) hrm) (b7 _ _ n e)
   exact hR v T _ ok (by omega) tv ⟨ls8,sh8,pt8⟩ b08
  clear b5 pt5 ls5 sh5
  clear H5
  rintro v0 T0 H5 ok0 l31 tv5 ly5 b5
  refine ap (λ R=>∀ (W h1:Int) (v:V) (T:Tr) (H':Hp),1<=W->W < 9 * 10 ^ 59->1<=h1->h1 < 9 * 10 ^ 59->okU b ks W h1 T->lvN T<=45->TrV H' T v->LY C p t kl x b ks H'->But p Hx H'->R [some (.ref a),some (.int (0 + (i:Int))),some (.ref p),some (.int u),some (.ref t),some (.ref x),some (.int W),some (.int h1),some v,v9,v10,v11,v12] H') (λ Dd hR=>?_) ?_
  ·refine ⟨_,Y,p,4,Y,ly5.po,by decide,by decide,λ z H6 z0 z1 pt6 b6=>⟨Y,_,Y,?_⟩⟩
   have ly6:=ly5.but nk pt6 b6
   refine ca (λ c=>?_) (λ c=>hR W h1 v0 T0 _ w0 (by omega) h0 (by omega) ok0 (by omega) (TrV.keep (λ a xs e=>cS b6 ly5.po e) _ tv5) ly6 (b5.trans b6))
   refine ⟨_,Y,_,Y,_,Y,_,Y,p,2,Y,pt6,by decide,by decide,λ tn H7 tn0 tn4 pt7 b7=>?_⟩
   have ly7:=ly6.but nk pt7 b7
   exact ⟨p,t,kl,b,u,tn,ks,Y,pt7,ly7.ls,nk,kn8,gk,b0,b58,u1,u2,tn0,by omega,λ r W' h' v T H8 hr tv ok w0' h0' w59 h59 ln pt8 b8=>⟨r,_,Y,SqT.of hr,Y,_,_,Y,_,_,Y,_,_,Y,Y,hR W' h' v T _ w0' w59 h0' h59 ok ln tv (ly7.but nk pt8 b8) (b5.trans (b6.trans (b7.trans b8)))⟩⟩
  clear b5 ly5 ok0 l31 w0 w58 h0 h58 tv5
  clear H5 W h1
  clear v0 T0
  rintro W h1 v T H5 w0 w59 h0 h59 okT l45 tv5 ly5 b5
  have dl:=fT T
  have szt:=dk T
  have wtd:=ib T
  have tl0:TrO b ks W h1 T T:=⟨okT,Y,Y⟩
  have okl:=(ie b0 T okT w0 h0).1
  have dpl:(tlD (bm b T W h1)).depth<=150:=by
   have:(tlD (bm b T W h1)).depth<=3 * dT T + 1:=(ck b T W h1).1
   omega
  have lcl:lcT (bm b T W h1)=lvN T:=(fU b T W h1).1
  refine ap (λ R=>∀uv (H':Hp),TlV H' (bm b T W h1) (.ref uv)->TrV H' T v->LY C p t kl x b ks H'->But p Hx H'->R [some (.ref a),some (.int (0 + (i:Int))),some (.ref p),some (.int u),some (.ref t),some (.ref x),some (.int W),some (.int h1),some v,some (.ref uv),v10,v11,v12] H') (λ Dd hR=>?_) ?_
  ·refine ⟨_,Y,_,Y,_,Y,_,Y,p,x,b,W,h1,ks,v,toD T,T,Y,ly5.sh,w0,h0,TrV.dt T tv5,by omega,TrD.to T,gf T okT,by omega,by omega,λ uu H6 tl s6=>?_⟩
   obtain ⟨uv,rfl⟩:=TlV.ref _ tl
   exact hR uv _ tl (TrV.keep (λ a xs e=>s6 _ _ e) _ tv5) (ly5.same s6) (λ c o n e=>s6 _ _ (b5 _ _ n e))
  clear ly5 b5 tv5
  clear H5
  rintro uv H5 tl5 tv5 ly5 b5
  refine ap (λ R=>∀du (H':Hp),Dt p H' (.ref du) (gn b ks T W h1)->TlV H' (bm b T W h1) (.ref uv)->TrV H' T v->LY C p t kl x b ks H'->But p Hx H'->R [some (.ref a),some (.int (0 + (i:Int))),some (.ref p),some (.int u),some (.ref t),some (.ref x),some (.int W),some (.int h1),some v,some (.ref uv),some (.ref du),v11,v12] H') (λ Dd hR=>?_) ?_
  ·exact ⟨_,Y,_,Y,_,Y,_,Y,p,x,b,W,h1,ks,v,toD T,T,Y,rS ly5.sh w0 h0 tv5 okT l45,kn8,gk,b0,by omega,by omega,λ r H6 hm s6=>hR r _ (hm p ly5.po.some) (TlV.keep (λ a xs e=>s6 _ _ e) _ tl5) (TrV.keep (λ a xs e=>s6 _ _ e) _ tv5) (ly5.same s6) (λ c o n e=>s6 _ _ (b5 _ _ n e))⟩
  clear ly5 b5 tv5 tl5
  clear H5
  rintro du H5 md5 tl5 tv5 ly5 b5
  have keepA:∀ {Hy:Hp},PotC Hy p->But p H5 Hy->Dt p Hy (.ref du) (gn b ks T W h1)/\TlV Hy (bm b T W h1) (.ref uv)/\LY C p t kl x b ks Hy/\But p Hx Hy:=λ pty bty=>⟨md5.but (lw ly5.po) bty,TlV.keep (λ a xs e=>cS bty ly5.po e) _ tl5,ly5.but nk pty bty,b5.trans bty⟩
  refine ap (λ R=>∀ov T1 (H':Hp),TrV H' T1 ov->TrO b ks W h1 T T1->PotC H' p->But p H5 H'->R [some (.ref a),some (.int (0 + (i:Int))),some (.ref p),some (.int u),some (.ref t),some (.ref x),some (.int W),some (.int h1),some v,some (.ref uv),some (.ref du),some ov,v12] H') (λ Dd hR=>?_) ?_
  ·exact ⟨_,Y,_,Y,_,Y,_,Y,_,Y,p,t,kl,b,W,h1,ks,v,T,Y,ly5.po,ly5.ls,nk,tv5,okT,b0,w0,h0,by omega,λ v' T' H6 tv6 ok6 et6 ln6 pt6 b6=>hR v' T' _ tv6 ⟨ok6,et6,ln6⟩ pt6 b6⟩
  rintro ov T1 H6 tv6 o1 pt6 b56
  obtain ⟨md6,tl6,ly6,b6⟩:=keepA pt6 b56
  have ln1:=o1.ln
  refine ⟨_,Y,_,Y,_,Y,_,Y,_,Y,_,Y,p,t,kl,b,W,h1,ks,ov,T1,Y,pt6,ly6.ls,nk,tv6,o1.ok,b0,w0,h0,by omega,λ v2 T2 H7 tv7 ok7 et7 ln7 pt7 b67=>?_⟩
  have b57:=b56.trans b67
  obtain ⟨md7,tl7,ly7,b7⟩:=keepA pt7 b57
  have o2:TrO b ks W h1 T T2:=⟨ok7,et7.trans o1.tl,ln7.trans o1.ln⟩
  refine ⟨_,Y,_,Y,_,Y,_,Y,p,x,b,W,h1,ks,.ref uv,_,bm b T W h1,Y,ly7.sh,w0,h0,TlV.dt _ tl7,.same _,okl,b0,by omega,dpl,λ v3 H8 tv8 s78=>⟨zS3,λ tq htq=>?_⟩⟩
  have o3:TrO b ks W h1 T (bD (bm b T W h1)):=by
   obtain ⟨g1,g2⟩:=mM b0 _ okl
   exact ⟨g1,g2,by rw [uT b0 okl]; exact lcl⟩
  obtain ⟨H9,e9,k9,s9⟩:∃H',upd H8 tq (.tup [ov,v2,v3])=H'/\H' tq=some (.tup [ov,v2,v3])/\Same H8 H':=⟨_,Y,af,Same.new htq⟩
  rw [show upd H8 tq _=H9 from e9]
  have s79:=s78.trans s9
  have md9:=md7.same s79
  have tl9:=TlV.keep (λ a xs e=>s79 _ _ e) _ tl7
  have ly9:=ly7.same s79
  have b9:But p Hx H9:=λ c o n e=>s79 _ _ (b7 _ _ n e)
  have all9:∀y∈[ov,v2,v3],∃T',TrV H9 T' y/\TrO b ks W h1 T T':=λ y hy=>by
   simp only [List.mem_cons,List.not_mem_nil,or_false] at hy
   rcases hy with rfl | rfl | rfl
   ·exact ⟨T1,TrV.keep (λ a xs e=>s79 _ _ (cS b67 pt6 e)) _ tv6,o1⟩
   ·exact ⟨T2,TrV.keep (λ a xs e=>s79 _ _ e) _ tv7,o2⟩
   ·exact ⟨_,TrV.keep (λ a xs e=>s9 _ _ e) _ tv8,o3⟩
  have fin:∀ {Hy:Hp},But p Hx Hy->Same H Hy:=λ by' c o e=>by' _ _ (au (sx _ _ e) hp) (sx _ _ e)
  refine ⟨tq,Y,⟨_,SqT.of k9⟩,gp (xs:=[ov,v2,v3]) (λ j σ' H'=>(∃v12,σ'=[some (.ref a),some (.int (0 + (i:Int))),some (.ref p),some (.int u),some (.ref t),some (.ref x),some (.int W),some (.int h1),some v,some (.ref uv),some (.ref du),some ov,v12])/\Same H9 H') ⟨⟨_,Y⟩,Same.refl _⟩ (λ j σ H' _ h=>SqT.of (h.2 _ _ k9)) ?_ (λ σ Hy h=>by obtain ⟨⟨_,Y⟩,sy⟩:=h; exact ⟨_,_,_,_,_,_,_,_,_,_,_,_,Y,fin λ c o n e=>sy _ _ (b9 _ _ n e)⟩)⟩
  rintro j y _ Hy hj ⟨⟨v12,rfl⟩,sy⟩
  obtain ⟨T',tvy,oy⟩:=all9 y (List.mem_of_getElem? hj)
  have tvy':=TrV.keep (λ a xs e=>sy _ _ e) _ tvy
  have lyy:=ly9.same sy
  have lny:=oy.ln
  have dly:=fT T'
  have szy:=dk T'
  have wty:=ib T'
  refine ⟨_,Y,_,Y,_,Y,_,Y,p,x,b,W,h1,ks,y,toD T',T',Y,lyy.sh,w0,h0,TrV.dt T' tvy',by omega,TrD.to T',gf T' oy.ok,by omega,by omega,λ uu Hz tlz sz1=>?_⟩
  rw [oy.tl] at tlz
  have syz:=sy.trans sz1
  refine ⟨_,Y,tlD (bm b T W h1),tlD (bm b T W h1),TlV.dat _ tlz,TlV.dat _ (TlV.keep (λ a xs e=>syz _ _ e) _ tl9),cJ _,cJ _,by omega,_,Y,?_⟩
  rw [SeqAt.eqv_refl _ (cJ _)]
  refine fm rfl ⟨_,rfl,_,rfl,_,rfl,_,rfl,p,x,b,W,h1,ks,y,toD T',T',rfl,rS (lyy.same sz1).sh w0 h0 (TrV.keep (λ a xs e=>sz1 _ _ e) _ tvy') oy.ok (by omega),kn8,gk,b0,by omega,by omega,λ r Hw hm sw=>?_⟩
  have hmr:=mX (K:=K) (hm p (lyy.same sz1).po.some)
  rw [vT oy.tl] at hmr
  have hmd:=mX (K:=K) (md9.same (syz.trans sw))
  obtain ⟨c1,c2⟩:=up b ks T W h1
  refine ⟨_,Y,_,_,hmr,hmd,c1,c1,c2,_,Y,?_⟩
  rw [SeqAt.eqv_refl _ c1]
  exact fm rfl ⟨⟨_,rfl⟩,syz.trans sw⟩
 rintro _ H1 _
 exact q H1
end
theorem Gi {α:Type} {us:List α} (h:us.length=1):∃a,us=[a]:=by
 match us,h with
 | [a],_=>exact ⟨a,Y⟩
theorem vW {α:Type} {us:List α} (h:us.length=2):∃a b,us=[a,b]:=by
 match us,h with
 | [a,b],_=>exact ⟨a,b,Y⟩
theorem vX {α:Type} {us:List α} (h:us.length=3):∃a b c,us=[a,b,c]:=by
 match us,h with
 | [a,b,c],_=>exact ⟨a,b,c,Y⟩
theorem Gj {α:Type} {us:List α} (h:us.length=4):∃a b c d,us=[a,b,c,d]:=by
 match us,h with
 | [a,b,c,d],_=>exact ⟨a,b,c,d,Y⟩
theorem Gk {α:Type} {us:List α} (h:us.length=5):∃a b c d e,us=[a,b,c,d,e]:=by
 match us,h with
 | [a,b,c,d,e],_=>exact ⟨a,b,c,d,e,Y⟩
abbrev DI (K:PySem.W.Frag) (n:Str) (st:Stmt) (f:Addr):Prop:=∃ (od an:Option Addr) (sl:Array (Option Value)) (oc kV dc pm cd ct:Value),PySem.W.nsIn K mainGlobals n=some (some (.ref f))/\K.lookup f=some ⟨oc,od,.func (PySem.W.fnOf n n (defArgs st) (defBody st) (defScope st) .none kV dc pm an cd ct),sl⟩/\PySem.W.codeIn K cd n=true/\PySem.W.keepIn K (.ref f)=true
abbrev MI (K:PySem.W.Frag) (C:Addr) (n q:Str) (st:Stmt) (f:Addr):Prop:=∃ (od an:Option Addr) (sl:Array (Option Value)) (oc kV dc pm cd ct:Value),PySem.W.findIn K (.ref C) n=some (some (.ref f))/\PySem.W.isFn K (.ref f)=true/\K.lookup f=some ⟨oc,od,.func (PySem.W.fnOf n q (defArgs st) (defBody st) (defScope st) .none kV dc pm an cd ct),sl⟩/\PySem.W.codeIn K cd q=true/\PySem.W.keepIn K (.ref f)=true
theorem diM {K:PySem.W.Frag} {n:Str} {st:Stmt} {f:Addr} {od an:Option Addr} {sl:Array (Option Value)} {oc kV dc pm cd ct:Value} (a:PySem.W.nsIn K mainGlobals n=some (some (.ref f))) (l:K.lookup f=some ⟨oc,od,.func (PySem.W.fnOf n n (defArgs st) (defBody st) (defScope st) .none kV dc pm an cd ct),sl⟩) (c:PySem.W.codeIn K cd n=true) (k:PySem.W.keepIn K (.ref f)=true):DI K n st f:=⟨_,_,_,_,_,_,_,_,_,a,l,c,k⟩
theorem miM {K:PySem.W.Frag} {C:Addr} {n q:Str} {st:Stmt} {f:Addr} {od an:Option Addr} {sl:Array (Option Value)} {oc kV dc pm cd ct:Value} (a:PySem.W.findIn K (.ref C) n=some (some (.ref f))) (i:PySem.W.isFn K (.ref f)=true) (l:K.lookup f=some ⟨oc,od,.func (PySem.W.fnOf n q (defArgs st) (defBody st) (defScope st) .none kV dc pm an cd ct),sl⟩) (c:PySem.W.codeIn K cd q=true) (k:PySem.W.keepIn K (.ref f)=true):MI K C n q st f:=⟨_,_,_,_,_,_,_,_,_,a,i,l,c,k⟩
inductive DE (K:PySem.W.Frag) (mg:Str->Option Value) (n:Str) (st:Stmt) (f:Addr) (ps:List Str):Prop
 | mk (fd:FuncData) (F:Fun K n n st f fd) (b:Binds K fd ps []) (k:PySem.W.keepIn K (.ref f)=true) (q:mg n=some (.ref f)):DE K mg n st f ps
theorem diE {K:PySem.W.Frag} {h:Heap} {mg:Str->Option Value} {n:Str} {st:Stmt} {f:Addr} (X:K.In h) (G:h.Ns mainGlobals mg) (d:DI K n st f) (ps:List Str) (hb:∀ (kV dc pm:Value) (an:Option Addr) (cd ct:Value) (us:List Value),us.length=ps.length->bindArgs (PySem.W.fnOf n n (defArgs st) (defBody st) (defScope st) .none kV dc pm an cd ct) ⟨us,[]⟩=pure (ps.zip us)):DE K mg n st f ps:=by
 obtain ⟨_,_,_,_,_,_,_,_,_,a,l,c,k⟩:=d
 have F:=kU (st:=st) l c k
 exact ⟨_,F,F.binds hb,k,PySem.W.mg_of X G a⟩
inductive ME (K:PySem.W.Frag) (C:Addr) (n q:Str) (st:Stmt) (f:Addr) (ps:List Str):Prop
 | mk (fd:FuncData) (F:Fun K n q st f fd) (b:Binds K fd ps []) (k:PySem.W.keepIn K (.ref f)=true) (a:PySem.W.findIn K (.ref C) n=some (some (.ref f))) (i:PySem.W.isFn K (.ref f)=true):ME K C n q st f ps
theorem miE {K:PySem.W.Frag} {C:Addr} {n q:Str} {st:Stmt} {f:Addr} (d:MI K C n q st f) (ps:List Str) (hb:∀ (kV dc pm:Value) (an:Option Addr) (cd ct:Value) (us:List Value),us.length=ps.length->bindArgs (PySem.W.fnOf n q (defArgs st) (defBody st) (defScope st) .none kV dc pm an cd ct) ⟨us,[]⟩=pure (ps.zip us)):ME K C n q st f ps:=by
 obtain ⟨_,_,_,_,_,_,_,_,_,a,i,l,c,k⟩:=d
 have F:=kU (st:=st) l c k
 exact ⟨_,F,F.binds hb,k,a,i⟩
theorem bd1 {n q:Str} {st:Stmt} {a:Str} (h:∀ (kV dc pm:Value) (an:Option Addr) (cd ct ua:Value),bindArgs (PySem.W.fnOf n q (defArgs st) (defBody st) (defScope st) .none kV dc pm an cd ct) ⟨[ua],[]⟩=pure [(a,ua)]):∀ (kV dc pm:Value) (an:Option Addr) (cd ct:Value) (us:List Value),us.length=[a].length->bindArgs (PySem.W.fnOf n q (defArgs st) (defBody st) (defScope st) .none kV dc pm an cd ct) ⟨us,[]⟩=pure ([a].zip us):=by
 intro _ _ _ _ _ _ us hl
 obtain ⟨_,rfl⟩:=Gi hl
 exact h _ _ _ _ _ _ _
theorem bd2 {n q:Str} {st:Stmt} {a b:Str} (h:∀ (kV dc pm:Value) (an:Option Addr) (cd ct ua ub:Value),bindArgs (PySem.W.fnOf n q (defArgs st) (defBody st) (defScope st) .none kV dc pm an cd ct) ⟨[ua,ub],[]⟩=pure [(a,ua),(b,ub)]):∀ (kV dc pm:Value) (an:Option Addr) (cd ct:Value) (us:List Value),us.length=[a,b].length->bindArgs (PySem.W.fnOf n q (defArgs st) (defBody st) (defScope st) .none kV dc pm an cd ct) ⟨us,[]⟩=pure ([a,b].zip us):=by
 intro _ _ _ _ _ _ us hl
 obtain ⟨_,_,rfl⟩:=vW hl
 exact h _ _ _ _ _ _ _ _
theorem bd3 {n q:Str} {st:Stmt} {a b c:Str} (h:∀ (kV dc pm:Value) (an:Option Addr) (cd ct ua ub uc:Value),bindArgs (PySem.W.fnOf n q (defArgs st) (defBody st) (defScope st) .none kV dc pm an cd ct) ⟨[ua,ub,uc],[]⟩=pure [(a,ua),(b,ub),(c,uc)]):∀ (kV dc pm:Value) (an:Option Addr) (cd ct:Value) (us:List Value),us.length=[a,b,c].length->bindArgs (PySem.W.fnOf n q (defArgs st) (defBody st) (defScope st) .none kV dc pm an cd ct) ⟨us,[]⟩=pure ([a,b,c].zip us):=by
 intro _ _ _ _ _ _ us hl
 obtain ⟨_,_,_,rfl⟩:=vX hl
 exact h _ _ _ _ _ _ _ _ _
theorem bd4 {n q:Str} {st:Stmt} {a b c d:Str} (h:∀ (kV dc pm:Value) (an:Option Addr) (cd ct ua ub uc ud:Value),bindArgs (PySem.W.fnOf n q (defArgs st) (defBody st) (defScope st) .none kV dc pm an cd ct) ⟨[ua,ub,uc,ud],[]⟩=pure [(a,ua),(b,ub),(c,uc),(d,ud)]):∀ (kV dc pm:Value) (an:Option Addr) (cd ct:Value) (us:List Value),us.length=[a,b,c,d].length->bindArgs (PySem.W.fnOf n q (defArgs st) (defBody st) (defScope st) .none kV dc pm an cd ct) ⟨us,[]⟩=pure ([a,b,c,d].zip us):=by
 intro _ _ _ _ _ _ us hl
 obtain ⟨_,_,_,_,rfl⟩:=Gj hl
 exact h _ _ _ _ _ _ _ _ _ _
theorem bd5 {n q:Str} {st:Stmt} {a b c d e:Str} (h:∀ (kV dc pm:Value) (an:Option Addr) (cd ct ua ub uc ud ue:Value),bindArgs (PySem.W.fnOf n q (defArgs st) (defBody st) (defScope st) .none kV dc pm an cd ct) ⟨[ua,ub,uc,ud,ue],[]⟩=pure [(a,ua),(b,ub),(c,uc),(d,ud),(e,ue)]):∀ (kV dc pm:Value) (an:Option Addr) (cd ct:Value) (us:List Value),us.length=[a,b,c,d,e].length->bindArgs (PySem.W.fnOf n q (defArgs st) (defBody st) (defScope st) .none kV dc pm an cd ct) ⟨us,[]⟩=pure ([a,b,c,d,e].zip us):=by
 intro _ _ _ _ _ _ us hl
 obtain ⟨_,_,_,_,_,rfl⟩:=Gk hl
 exact h _ _ _ _ _ _ _ _ _ _ _
theorem lx6 {α:Type} {us:List α} (h:us.length=6):∃a b c d e f,us=[a,b,c,d,e,f]:=by
 match us,h with
 | [a,b,c,d,e,f],_=>exact ⟨a,b,c,d,e,f,Y⟩
theorem bd6 {n q:Str} {st:Stmt} {a b c d e f:Str} (h:∀ (kV dc pm:Value) (an:Option Addr) (cd ct ua ub uc ud ue uf:Value),bindArgs (PySem.W.fnOf n q (defArgs st) (defBody st) (defScope st) .none kV dc pm an cd ct) ⟨[ua,ub,uc,ud,ue,uf],[]⟩=pure [(a,ua),(b,ub),(c,uc),(d,ud),(e,ue),(f,uf)]):∀ (kV dc pm:Value) (an:Option Addr) (cd ct:Value) (us:List Value),us.length=[a,b,c,d,e,f].length->bindArgs (PySem.W.fnOf n q (defArgs st) (defBody st) (defScope st) .none kV dc pm an cd ct) ⟨us,[]⟩=pure ([a,b,c,d,e,f].zip us):=by
 intro _ _ _ _ _ _ us hl
 obtain ⟨_,_,_,_,_,_,rfl⟩:=lx6 hl
 exact h _ _ _ _ _ _ _ _ _ _ _ _
theorem lx7 {α:Type} {us:List α} (h:us.length=7):∃a b c d e f g,us=[a,b,c,d,e,f,g]:=by
 match us,h with
 | [a,b,c,d,e,f,g],_=>exact ⟨a,b,c,d,e,f,g,Y⟩
theorem bd7 {n q:Str} {st:Stmt} {a b c d e f g:Str} (h:∀ (kV dc pm:Value) (an:Option Addr) (cd ct ua ub uc ud ue uf ug:Value),bindArgs (PySem.W.fnOf n q (defArgs st) (defBody st) (defScope st) .none kV dc pm an cd ct) ⟨[ua,ub,uc,ud,ue,uf,ug],[]⟩=pure [(a,ua),(b,ub),(c,uc),(d,ud),(e,ue),(f,uf),(g,ug)]):∀ (kV dc pm:Value) (an:Option Addr) (cd ct:Value) (us:List Value),us.length=[a,b,c,d,e,f,g].length->bindArgs (PySem.W.fnOf n q (defArgs st) (defBody st) (defScope st) .none kV dc pm an cd ct) ⟨us,[]⟩=pure ([a,b,c,d,e,f,g].zip us):=by
 intro _ _ _ _ _ _ us hl
 obtain ⟨_,_,_,_,_,_,_,rfl⟩:=lx7 hl
 exact h _ _ _ _ _ _ _ _ _ _ _ _ _
theorem HS {α:Type} {us:List α} (h:us.length=6):∃a b c d e f,us=[a,b,c,d,e,f]:=by
 match us,h with
 | [a,b,c,d,e,f],_=>exact ⟨a,b,c,d,e,f,Y⟩
theorem HU {α:Type} {us:List α} (h:us.length=7):∃a b c d e f g,us=[a,b,c,d,e,f,g]:=by
 match us,h with
 | [a,b,c,d,e,f,g],_=>exact ⟨a,b,c,d,e,f,g,Y⟩
set_option maxHeartbeats 4000000 in
open PySem.W in
theorem all_mk {l:OpenLaw} {w:World} {K:Frag} {h:Heap} {mg:Str->Option Value} {fa f0 f1 f2 f3 f4 f5 f6 f7 f8 f9 f10 f11 f12 f13 f14 f15 f16 f17 f18 f19 f20 f21 f22 f23 f24 f25 f26 f27 f28 f29 f30 f31 f32 f33 f34 f35 f36 f37 f38 f39 f40 f41 f42 f43 f44 f45 f46 C fm0 fm1 fm2 fm3 fm4 xWAYS:Addr} (X:K.In h) (G:h.Ns mainGlobals mg) (hfa:mg "law" = some (.ref fa))
  {tc0:Tok} {tc1:Tok} {tc2:Tok} {tc3:Tok} {tc4:Tok} {tc5:Tok} {tc6:Tok} {tc7:Tok} {tc8:Tok} {tc9:Tok}
  (d0:DI K "is_whole" jo f0)
  (d1:DI K "is_truth" jp f1)
  (d2:DI K "is_row" tL f2)
  (d3:DI K "is_kind" gE f3)
  (d4:DI K "can_lie_turned" gF f4)
  (d5:DI K "check_plate" cG f5)
  (d6:DI K "lies_in" gB f6)
  (d7:DI K "cut_parts" dX f7)
  (d8:DI K "begins_with" cH f8)
  (d9:DI K "is_cut" jq f9)
  (d10:DI K "is_leaf" gC f10)
  (d11:DI K "spots_behind" cf f11)
  (d12:DI K "is_tree" gD f12)
  (d13:DI K "check_tree" cY f13)
  (d14:DI K "side_along" cZ f14)
  (d15:DI K "telling_of_part" bo f15)
  (d16:DI K "telling_of" df f16)
  (d17:DI K "part_along" de f17)
  (d18:DI K "way_of" jr f18)
  (d19:DI K "is_sized" fh f19)
  (d20:DI K "is_divided" bT f20)
  (d21:DI K "as_telling" bE f21)
  (d22:DI K "tree_by_telling" be f22)
  (d23:DI K "tree_told" dZ f23)
  (d24:DI K "leaves_of" dY f24)
  (d25:DI K "pieces_of" ec f25)
  (d26:DI K "counts_of" cP f26)
  (d27:DI K "worth_of" dJ f27)
  (d28:DI K "areas_of" fi f28)
  (d29:DI K "turns_of" fj f29)
  (d30:DI K "_law_cell" mx f30)
  (d31:DI K "_law_pot" tM f31)
  (d32:DI K "_law_take" my f32)
  (d33:DI K "_law_unit" mz f33)
  (d34:DI K "_law_side" mB f34)
  (d35:DI K "_law_worth" js f35)
  (d36:DI K "_law_shop" mC f36)
  (d37:DI K "_law_sides" jt f37)
  (d38:DI K "_law_lyings" gG f38)
  (d39:DI K "_law_behind" gH f39)
  (d40:DI K "_law_leaf" mD f40)
  (d41:DI K "_law_tree" iG f41)
  (d42:DI K "_law_deep" mE f42)
  (d43:DI K "_law_regrouped" dj f43)
  (d44:DI K "_law_turned" cR f44)
  (d45:DI K "_law_measured" ef f45)
  (d46:DI K "law" jW f46)
  (aC:nsIn K mainGlobals "Shop" = some (some (.ref C)))
  (dm0:MI K C "__init__" "Shop.__init__" cQ fm0)
  (dm1:MI K C "blade" "Shop.blade" dg fm1)
  (dm2:MI K C "kinds" "Shop.kinds" dh fm2)
  (dm3:MI K C "is_lying" "Shop.is_lying" cg fm3)
  (dm4:MI K C "sides" "Shop.sides" di fm4)
  (pg:plainGet K C Str.empty=true)
  (hd:hasDictIn K C=true)
  (po:plainOver K C=true)
  (sa:findIn K (.ref C) "__setattr__" = some (some (.builtin "object.__setattr__")))
  (mk:makesIn K C=true)
  (kc:keepIn K (.ref C)=true)
  (n0:findIn K (.ref C) "blade_width" = some none)
  (n1:findIn K (.ref C) "kind_rows" = some none)
  (eWAYS:nsIn K mainGlobals "WAYS" = some (some (.ref xWAYS)))
  (lWAYS:∃ (o:Obj) (its:Array Value) (n:Nat),K.lookup xWAYS=some o/\o.cls=.type "tuple" /\ o.data=.seq its n/\its.size<=sizeLine/\Vals [.str "down",.str "across"] its.toList)
  (z0:nsIn K mainGlobals "isinstance" = some none)
  (z1:nsIn K mainGlobals "int" = some none)
  (z2:nsIn K mainGlobals "bool" = some none)
  (z3:nsIn K mainGlobals "list" = some none)
  (z4:nsIn K mainGlobals "tuple" = some none)
  (z5:nsIn K mainGlobals "len" = some none)
  (z6:nsIn K mainGlobals "range" = some none)
  (z7:nsIn K mainGlobals "max" = some none)
  (z8:nsIn K mainGlobals "min" = some none)
  (z9:nsIn K mainGlobals "abs" = some none)
  (z10:nsIn K mainGlobals "divmod" = some none)
  (z11:nsIn K mainGlobals "sum" = some none)
  (z12:nsIn K mainGlobals "sorted" = some none)
  (z13:nsIn K mainGlobals "all" = some none)
  (z14:nsIn K mainGlobals "repr" = some none)
  (z15:nsIn K mainGlobals "zip" = some none)
  (z16:nsIn K mainGlobals "enumerate" = some none)
  (z17:nsIn K mainGlobals "str" = some none)
  (z18:nsIn K mainGlobals "reversed" = some none)
  (uc0:nsIn K mainGlobals "MOST_KINDS" = some (some (.int 8 tc0)))
  (uc1:nsIn K mainGlobals "THINGS_OF_A_KIND" = some (some (.int 5 tc1)))
  (uc2:nsIn K mainGlobals "DOWN" = some (some (.str "down" tc2)))
  (uc3:nsIn K mainGlobals "REST" = some (some (.str "rest" tc3)))
  (uc4:nsIn K mainGlobals "PIECE" = some (some (.str "piece" tc4)))
  (uc5:nsIn K mainGlobals "THINGS_OF_A_REST" = some (some (.int 1 tc5)))
  (uc6:nsIn K mainGlobals "THINGS_OF_A_PIECE" = some (some (.int 5 tc6)))
  (uc7:nsIn K mainGlobals "THINGS_OF_A_CUT" = some (some (.int 4 tc7)))
  (uc8:nsIn K mainGlobals "THINGS_OF_A_CUT_TELLING" = some (some (.int 2 tc8)))
  (uc9:nsIn K mainGlobals "LEAST_IN_A_ROW" = some (some (.int 2 tc9))) :
  ∃fd:FuncData,(∀ (s:Shared) (v:Value),BindsTo s fd ⟨[v],[]⟩ [("_law_script",v)])/\∀base:Heap,K.In base->base.Ns mainGlobals mg->FnOk l.prog w K mg base CX0 161 fa fd ["_law_script"] (mY K):=by
 obtain ⟨_,F0,b0,k0,q0⟩:=diE X G d0 ["thing","least"] (bd2 λ _ _ _ _ _ _ _ _=>rfl)
 obtain ⟨_,F1,b1,k1,q1⟩:=diE X G d1 ["thing"] (bd1 λ _ _ _ _ _ _ _=>rfl)
 obtain ⟨_,F2,b2,k2,q2⟩:=diE X G d2 ["thing"] (bd1 λ _ _ _ _ _ _ _=>rfl)
 obtain ⟨_,F3,b3,k3,q3⟩:=diE X G d3 ["thing"] (bd1 λ _ _ _ _ _ _ _=>rfl)
 obtain ⟨_,F4,b4,k4,q4⟩:=diE X G d4 ["kind"] (bd1 λ _ _ _ _ _ _ _=>rfl)
 obtain ⟨_,F5,b5,k5,q5⟩:=diE X G d5 ["wide","high"] (bd2 λ _ _ _ _ _ _ _ _=>rfl)
 obtain ⟨_,F6,b6,k6,q6⟩:=diE X G d6 ["shop","wide","high","kind","turned","x","y"] (bd7 λ _ _ _ _ _ _ _ _ _ _ _ _ _=>rfl)
 obtain ⟨_,F7,b7,k7,q7⟩:=diE X G d7 ["blade","part","way","p"] (bd4 λ _ _ _ _ _ _ _ _ _ _=>rfl)
 obtain ⟨_,F8,b8,k8,q8⟩:=diE X G d8 ["thing","word","many"] (bd3 λ _ _ _ _ _ _ _ _ _=>rfl)
 obtain ⟨_,F9,b9,k9,q9⟩:=diE X G d9 ["blade","spot"] (bd2 λ _ _ _ _ _ _ _ _=>rfl)
 obtain ⟨_,F10,b10,k10,q10⟩:=diE X G d10 ["shop","spot"] (bd2 λ _ _ _ _ _ _ _ _=>rfl)
 obtain ⟨_,F11,b11,k11,q11⟩:=diE X G d11 ["blade","spot"] (bd2 λ _ _ _ _ _ _ _ _=>rfl)
 obtain ⟨_,F12,b12,k12,q12⟩:=diE X G d12 ["shop","wide","high","thing"] (bd4 λ _ _ _ _ _ _ _ _ _ _=>rfl)
 obtain ⟨_,F13,b13,k13,q13⟩:=diE X G d13 ["shop","wide","high","thing"] (bd4 λ _ _ _ _ _ _ _ _ _ _=>rfl)
 obtain ⟨_,F14,b14,k14,q14⟩:=diE X G d14 ["part","way"] (bd2 λ _ _ _ _ _ _ _ _=>rfl)
 obtain ⟨_,F15,b15,k15,q15⟩:=diE X G d15 ["blade","part","tree"] (bd3 λ _ _ _ _ _ _ _ _ _=>rfl)
 obtain ⟨_,F16,b16,k16,q16⟩:=diE X G d16 ["shop","wide","high","tree"] (bd4 λ _ _ _ _ _ _ _ _ _ _=>rfl)
 obtain ⟨_,F17,b17,k17,q17⟩:=diE X G d17 ["part","way","size"] (bd3 λ _ _ _ _ _ _ _ _ _=>rfl)
 obtain ⟨_,F18,b18,k18,q18⟩:=diE X G d18 ["thing"] (bd1 λ _ _ _ _ _ _ _=>rfl)
 obtain ⟨_,F19,b19,k19,q19⟩:=diE X G d19 ["way","thing"] (bd2 λ _ _ _ _ _ _ _ _=>rfl)
 obtain ⟨_,F20,b20,k20,q20⟩:=diE X G d20 ["blade","side","way","row"] (bd4 λ _ _ _ _ _ _ _ _ _ _=>rfl)
 obtain ⟨_,F21,b21,k21,q21⟩:=diE X G d21 ["shop","part","thing"] (bd3 λ _ _ _ _ _ _ _ _ _=>rfl)
 obtain ⟨_,F22,b22,k22,q22⟩:=diE X G d22 ["telling"] (bd1 λ _ _ _ _ _ _ _=>rfl)
 obtain ⟨_,F23,b23,k23,q23⟩:=diE X G d23 ["shop","wide","high","telling"] (bd4 λ _ _ _ _ _ _ _ _ _ _=>rfl)
 obtain ⟨_,F24,b24,k24,q24⟩:=diE X G d24 ["shop","wide","high","tree"] (bd4 λ _ _ _ _ _ _ _ _ _ _=>rfl)
 obtain ⟨_,F25,b25,k25,q25⟩:=diE X G d25 ["shop","wide","high","tree"] (bd4 λ _ _ _ _ _ _ _ _ _ _=>rfl)
 obtain ⟨_,F26,b26,k26,q26⟩:=diE X G d26 ["shop","wide","high","tree"] (bd4 λ _ _ _ _ _ _ _ _ _ _=>rfl)
 obtain ⟨_,F27,b27,k27,q27⟩:=diE X G d27 ["shop","wide","high","tree"] (bd4 λ _ _ _ _ _ _ _ _ _ _=>rfl)
 obtain ⟨_,F28,b28,k28,q28⟩:=diE X G d28 ["shop","wide","high","tree"] (bd4 λ _ _ _ _ _ _ _ _ _ _=>rfl)
 obtain ⟨_,F29,b29,k29,q29⟩:=diE X G d29 ["shop","wide","high","tree"] (bd4 λ _ _ _ _ _ _ _ _ _ _=>rfl)
 obtain ⟨_,F30,b30,k30,q30⟩:=diE X G d30 ["_law_script","_law_k"] (bd2 λ _ _ _ _ _ _ _ _=>rfl)
 obtain ⟨_,F31,b31,k31,q31⟩:=diE X G d31 ["_law_cell_here","_law_k"] (bd2 λ _ _ _ _ _ _ _ _=>rfl)
 obtain ⟨_,F32,b32,k32,q32⟩:=diE X G d32 ["_law_pot_here","_law_many"] (bd2 λ _ _ _ _ _ _ _ _=>rfl)
 obtain ⟨_,F33,b33,k33,q33⟩:=diE X G d33 ["_law_pot_here"] (bd1 λ _ _ _ _ _ _ _=>rfl)
 obtain ⟨_,F34,b34,k34,q34⟩:=diE X G d34 ["_law_pot_here","_law_unit_here","_law_most"] (bd3 λ _ _ _ _ _ _ _ _ _=>rfl)
 obtain ⟨_,F35,b35,k35,q35⟩:=diE X G d35 ["_law_pot_here"] (bd1 λ _ _ _ _ _ _ _=>rfl)
 obtain ⟨_,F36,b36,k36,q36⟩:=diE X G d36 ["_law_pot_here","_law_unit_here"] (bd2 λ _ _ _ _ _ _ _ _=>rfl)
 obtain ⟨_,F37,b37,k37,q37⟩:=diE X G d37 ["_law_shop_here","_law_kind","_law_turned_here"] (bd3 λ _ _ _ _ _ _ _ _ _=>rfl)
 obtain ⟨_,F38,b38,k38,q38⟩:=diE X G d38 ["_law_shop_here"] (bd1 λ _ _ _ _ _ _ _=>rfl)
 obtain ⟨_,F39,b39,k39,q39⟩:=diE X G d39 ["_law_shop_here","_law_wide","_law_high","_law_way","_law_p"] (bd5 λ _ _ _ _ _ _ _ _ _ _ _=>rfl)
 obtain ⟨_,F40,b40,k40,q40⟩:=diE X G d40 ["_law_pot_here","_law_shop_here","_law_wide","_law_high"] (bd4 λ _ _ _ _ _ _ _ _ _ _=>rfl)
 obtain ⟨_,F41,b41,k41,q41⟩:=diE X G d41 ["_law_pot_here","_law_shop_here","_law_wide","_law_high","_law_deep_here","_law_room"] (bd6 λ _ _ _ _ _ _ _ _ _ _ _ _=>rfl)
 obtain ⟨_,F42,b42,k42,q42⟩:=diE X G d42 ["_law_pot_here","_law_shop_here","_law_unit_here","_law_turn"] (bd4 λ _ _ _ _ _ _ _ _ _ _=>rfl)
 obtain ⟨_,F43,b43,k43,q43⟩:=diE X G d43 ["_law_shop_here","_law_tree_here"] (bd2 λ _ _ _ _ _ _ _ _=>rfl)
 obtain ⟨_,F44,b44,k44,q44⟩:=diE X G d44 ["_law_pot_here","_law_shop_here","_law_wide","_law_high","_law_tree_here"] (bd5 λ _ _ _ _ _ _ _ _ _ _ _=>rfl)
 obtain ⟨_,F45,b45,k45,q45⟩:=diE X G d45 ["_law_made","_law_wide","_law_high","_law_tree_here"] (bd4 λ _ _ _ _ _ _ _ _ _ _=>rfl)
 obtain ⟨_,an,_,_,kV,dc,pm,cd,ct,a46,l46,c46,k46⟩:=d46
 have F46:=kU (st:=jW) l46 c46 k46
 obtain ⟨_,Fm0,bm0,km0,am0,im0⟩:=miE dm0 ["self","blade","kinds"] (bd3 λ _ _ _ _ _ _ _ _ _=>rfl)
 obtain ⟨_,Fm1,bm1,km1,am1,im1⟩:=miE dm1 ["self"] (bd1 λ _ _ _ _ _ _ _=>rfl)
 obtain ⟨_,Fm2,bm2,km2,am2,im2⟩:=miE dm2 ["self"] (bd1 λ _ _ _ _ _ _ _=>rfl)
 obtain ⟨_,Fm3,bm3,km3,am3,im3⟩:=miE dm3 ["self","kind","turned"] (bd3 λ _ _ _ _ _ _ _ _ _=>rfl)
 obtain ⟨_,Fm4,bm4,km4,am4,im4⟩:=miE dm4 ["self","kind","turned"] (bd3 λ _ _ _ _ _ _ _ _ _=>rfl)
 have e:=hfa.symm.trans (mg_of X G a46)
 cases e
 have y0:=mg_none_of X G z0
 have y1:=mg_none_of X G z1
 have y2:=mg_none_of X G z2
 have y3:=mg_none_of X G z3
 have y4:=mg_none_of X G z4
 have y5:=mg_none_of X G z5
 have y6:=mg_none_of X G z6
 have y7:=mg_none_of X G z7
 have y8:=mg_none_of X G z8
 have y9:=mg_none_of X G z9
 have y10:=mg_none_of X G z10
 have y11:=mg_none_of X G z11
 have y12:=mg_none_of X G z12
 have y13:=mg_none_of X G z13
 have y14:=mg_none_of X G z14
 have y15:=mg_none_of X G z15
 have y16:=mg_none_of X G z16
 have y17:=mg_none_of X G z17
 have y18:=mg_none_of X G z18
 have gWAYS:=mg_of X G eWAYS
 have u0:=mg_of X G uc0
 have u1:=mg_of X G uc1
 have u2:=mg_of X G uc2
 have u3:=mg_of X G uc3
 have u4:=mg_of X G uc4
 have u5:=mg_of X G uc5
 have u6:=mg_of X G uc6
 have u7:=mg_of X G uc7
 have u8:=mg_of X G uc8
 have u9:=mg_of X G uc9
 have qC:=mg_of X G aC
 refine ⟨fnOf "law" "law" (defArgs jW) (defBody jW) (defScope jW) .none kV dc pm an cd ct,λ s v=>.of_eq rfl,λ base _ _=>?_⟩
 have B:Blt mg:=⟨y0,y1,y2,y3,y4,y5,y6,y7,y8,y9,y10,y11,y12,y13,y14,y15,y16,⟨_,u0⟩,⟨_,u1⟩⟩
 have T:ShopTxt K C:=⟨⟨pg,hd,po,sa⟩,n0,n1⟩
 have Z:TrC K mg xWAYS:=⟨⟨_,u2⟩,⟨_,u3⟩,⟨_,u4⟩,⟨_,u5⟩,⟨_,u6⟩,⟨_,u7⟩,gWAYS,λ H=>.inr lWAYS⟩
 have D0:Dn l.prog w K mg base "is_whole" ["thing","least"] 1 (ce K):=⟨_,_,qH F0 B,b0,k0,q0⟩
 have D1:Dn l.prog w K mg base "is_truth" ["thing"] 1 (gu K):=⟨_,_,qI F1 B,b1,k1,q1⟩
 have D2:Dn l.prog w K mg base "is_row" ["thing"] 1 (gZ K):=⟨_,_,vG F2 B,b2,k2,q2⟩
 have D3:Dn l.prog w K mg base "is_kind" ["thing"] 2 (fb K):=⟨_,_,nI F3 B D0 D1 D2,b3,k3,q3⟩
 have D4:Dn l.prog w K mg base "can_lie_turned" ["kind"] 1 (hJ K):=⟨_,_,nJ F4,b4,k4,q4⟩
 have MB:Mn l.prog w K mg base C "blade" ["self"] 1 (cX C):=⟨_,_,qJ Fm1 T,bm1,⟨am1,im1,km1⟩⟩
 have MK:Mn l.prog w K mg base C "kinds" ["self"] 1 (gv C):=⟨_,_,qK Fm2 T y3,bm2,⟨am2,im2,km2⟩⟩
 have MI:Mn l.prog w K mg base C "is_lying" ["self","kind","turned"] 2 (dS K C):=⟨_,_,lq Fm3 B T D0 D1 D4,bm3,⟨am3,im3,km3⟩⟩
 have MS:Mn l.prog w K mg base C "sides" ["self","kind","turned"] 3 (spSides K C):=⟨_,_,qN Fm4 T MI,bm4,⟨am4,im4,km4⟩⟩
 have DS:Kn l.prog w K mg base "Shop" C ["self","blade","kinds"] 3 (kY C):=⟨_,_,⟨mk,am0,im0,kc⟩,tP Fm0 B T D0 D2 D3,bm0,qC⟩
 have D5:Dn l.prog w K mg base "check_plate" ["wide","high"] 2 (spCP):=⟨_,_,nQ F5 D0,b5,k5,q5⟩
 have D6:Dn l.prog w K mg base "lies_in" ["shop","wide","high","kind","turned","x","y"] 4 (spLiesG K C):=⟨_,_,qQ F6 T D0 MI MS,b6,k6,q6⟩
 have D7:Dn l.prog w K mg base "cut_parts" ["blade","part","way","p"] 1 (spParts2):=⟨_,_,nN F7 Z,b7,k7,q7⟩
 have D8:Dn l.prog w K mg base "begins_with" ["thing","word","many"] 2 (spBegins):=⟨_,_,nM F8 B y17 D2,b8,k8,q8⟩
 have D9:Dn l.prog w K mg base "is_cut" ["blade","spot"] 3 (spCut):=⟨_,_,vI F9 Z D8 D0,b9,k9,q9⟩
 have D10:Dn l.prog w K mg base "is_leaf" ["shop","spot"] 5 (spLeaf C):=⟨_,_,tT F10 Z D8 D6,b10,k10,q10⟩
 have D11:Dn l.prog w K mg base "spots_behind" ["blade","spot"] 2 (spBehind):=⟨_,_,nO F11 Z D7,b11,k11,q11⟩
 have D12:Dn l.prog w K mg base "is_tree" ["shop","wide","high","thing"] 6 (spIsTree C):=⟨_,_,nR F12 T MB D5 D9 D10 D11,b12,k12,q12⟩
 have D13:Dn l.prog w K mg base "check_tree" ["shop","wide","high","thing"] 7 (spCheckT C):=⟨_,_,nX F13 D12,b13,k13,q13⟩
 have D14:Dn l.prog w K mg base "side_along" ["part","way"] 1 (spSideA):=⟨_,_,qW F14 Z,b14,k14,q14⟩
 have D15:Dn l.prog w K mg base "telling_of_part" ["blade","part","tree"] 53 (spTell 50):=⟨_,_,km F15 B Z D7 D14 (λ n h=>⟨_,_,h,b15,k15,q15⟩) 50 (by decide),b15,k15,q15⟩
 have D16:Dn l.prog w K mg base "telling_of" ["shop","wide","high","tree"] 54 (spTellO C):=⟨_,_,qY F16 T MB D13 D15,b16,k16,q16⟩
 have D17:Dn l.prog w K mg base "part_along" ["part","way","size"] 1 (spPartA):=⟨_,_,rA F17 Z,b17,k17,q17⟩
 have D18:Dn l.prog w K mg base "way_of" ["thing"] 3 (spWayOf):=⟨_,_,rB F18 Z ⟨_,u8⟩ D8,b18,k18,q18⟩
 have D19:Dn l.prog w K mg base "is_sized" ["way","thing"] 4 (spSized):=⟨_,_,rC F19 B D2 D0 D18,b19,k19,q19⟩
 have D20:Dn l.prog w K mg base "is_divided" ["blade","side","way","row"] 5 (spDivd):=⟨_,_,uh F20 B ⟨_,u9⟩ D2 D19,b20,k20,q20⟩
 have D21:Dn l.prog w K mg base "as_telling" ["shop","part","thing"] 157 (spAsT C 151):=⟨_,_,mP F21 B T MB D10 D18 D14 D17 D20 (λ n h=>⟨_,_,h,b21,k21,q21⟩) 151,b21,k21,q21⟩
 have D22:Dn l.prog w K mg base "tree_by_telling" ["telling"] 152 (spTbt 151):=⟨_,_,mQ F22 B Z y18 (λ n h=>⟨_,_,h,b22,k22,q22⟩) 151,b22,k22,q22⟩
 have D23:Dn l.prog w K mg base "tree_told" ["shop","wide","high","telling"] 160 (spTreeTo C):=⟨_,_,nZ F23 B D5 D21 D22,b23,k23,q23⟩
 have D24:Dn l.prog w K mg base "leaves_of" ["shop","wide","high","tree"] 3 (spLeaves C):=⟨_,_,oe F24 T Z MB D11,b24,k24,q24⟩
 have D25:Dn l.prog w K mg base "pieces_of" ["shop","wide","high","tree"] 8 (spPieces C):=⟨_,_,og F25 B Z D13 D24,b25,k25,q25⟩
 have D26:Dn l.prog w K mg base "counts_of" ["shop","wide","high","tree"] 9 (spCountsO C):=⟨_,_,lK F26 B T MK D25,b26,k26,q26⟩
 have D27:Dn l.prog w K mg base "worth_of" ["shop","wide","high","tree"] 10 (spWorthO C):=⟨_,_,oi F27 B T MK D26,b27,k27,q27⟩
 have D28:Dn l.prog w K mg base "areas_of" ["shop","wide","high","tree"] 8 (spAreas C):=⟨_,_,rK F28 B T Z MS D13 D24,b28,k28,q28⟩
 have D29:Dn l.prog w K mg base "turns_of" ["shop","wide","high","tree"] 8 (spTurns C):=⟨_,_,rL F29 B Z D13,b29,k29,q29⟩
 have D30:Dn l.prog w K mg base "_law_cell" ["_law_script","_law_k"] 1 (lg K):=⟨_,_,tU F30 B,b30,k30,q30⟩
 have D31:Dn l.prog w K mg base "_law_pot" ["_law_cell_here","_law_k"] 1 (spPotC):=⟨_,_,tV F31 B,b31,k31,q31⟩
 have D32:Dn l.prog w K mg base "_law_take" ["_law_pot_here","_law_many"] 1 (spTake):=⟨_,_,tW F32 B,b32,k32,q32⟩
 have D33:Dn l.prog w K mg base "_law_unit" ["_law_pot_here"] 2 (spUnit):=⟨_,_,tX F33 B D32,b33,k33,q33⟩
 have D34:Dn l.prog w K mg base "_law_side" ["_law_pot_here","_law_unit_here","_law_most"] 2 (spSideC):=⟨_,_,nT F34 B D32,b34,k34,q34⟩
 have D35:Dn l.prog w K mg base "_law_worth" ["_law_pot_here"] 2 (spWorthC):=⟨_,_,nU F35 B D32,b35,k35,q35⟩
 have D36:Dn l.prog w K mg base "_law_shop" ["_law_pot_here","_law_unit_here"] 3 (spShopC):=⟨_,_,qS F36 B D32 D34 D35,b36,k36,q36⟩
 have D37:Dn l.prog w K mg base "_law_sides" ["_law_shop_here","_law_kind","_law_turned_here"] 1 (spSidesC):=⟨_,_,nV F37 B,b37,k37,q37⟩
 have D38:Dn l.prog w K mg base "_law_lyings" ["_law_shop_here"] 1 (spLyingsC):=⟨_,_,lA F38 B,b38,k38,q38⟩
 have D39:Dn l.prog w K mg base "_law_behind" ["_law_shop_here","_law_wide","_law_high","_law_way","_law_p"] 1 (spBeh):=⟨_,_,vK F39 B,b39,k39,q39⟩
 have D40:Dn l.prog w K mg base "_law_leaf" ["_law_pot_here","_law_shop_here","_law_wide","_law_high"] 2 (spLeafC):=⟨_,_,qT F40 B D32 D37 D38,b40,k40,q40⟩
 have D41:Dn l.prog w K mg base "_law_tree" ["_law_pot_here","_law_shop_here","_law_wide","_law_high","_law_deep_here","_law_room"] 14 (spTreeC 11):=⟨_,_,iL F41 B D32 D39 D40 (λ n h=>⟨_,_,h,b41,k41,q41⟩) 11,b41,k41,q41⟩
 have D42:Dn l.prog w K mg base "_law_deep" ["_law_pot_here","_law_shop_here","_law_unit_here","_law_turn"] 3 (spDeep):=⟨_,_,tZ F42 B D32 D34 D40,b42,k42,q42⟩
 have D43:Dn l.prog w K mg base "_law_regrouped" ["_law_shop_here","_law_tree_here"] 1 (spRegr):=⟨_,_,uq F43 B,b43,k43,q43⟩
 have D44:Dn l.prog w K mg base "_law_turned" ["_law_pot_here","_law_shop_here","_law_wide","_law_high","_law_tree_here"] 52 (spTurn 50):=⟨_,_,kq F44 B D32 D39 D43 (λ n h=>⟨_,_,h,b44,k44,q44⟩) 50,b44,k44,q44⟩
 have D45:Dn l.prog w K mg base "_law_measured" ["_law_made","_law_wide","_law_high","_law_tree_here"] 11 (spMes C):=⟨_,_,vU F45 B D26 D27 D28 D29,b45,k45,q45⟩
 exact vV F46 B D30 D31 D32 D33 D36 D34 D41 D42 D44 D45 D16 D23 DS
theorem walk {l:PySem.W.OpenLaw} {q:Program} {loose:List Str} {XP:(Str->Option Value)->Heap->Prop} {YP:World->Heap->Prop} {d:DefRec} {K:Params->PySem.W.Frag} (hn:l.most=some 63) (hdf:d.params.defaults=[])
  (hY:∀ (w:World) (h:Heap),YP w h->(K w.params).In h)
  (F:∀ (w:World) (mg:Str->Option Value) (fa:Addr) (h:Heap),(K w.params).In h->h.Ns mainGlobals mg->mg d.name=some (.ref fa) ->
   ∃fd:FuncData,(∀ (s:Shared) (u:Value),BindsTo s fd ⟨[u],[]⟩ [("_law_script",u)])/\∀base:Heap,(K w.params).In base->base.Ns mainGlobals mg->FnOk l.prog w (K w.params) mg base CX0 161 fa fd ["_law_script"] (mY (K w.params))) :
  PySem.W.WalkO q loose XP YP l.row.toRowW d [] (λ f vs=>PySem.call f vs) :=
 L2.walk_of (n:=63) (k:=161) (x := "_law_script") (CX:=λ _=>CX0) (sp:=λ w=>mY (K w.params)) hn (by decide) hdf ⟨rfl,by decide,by decide,rfl⟩ hY F (λ _ _ a ns hl _ hS=>⟨a,ns,Y,hS,hl,λ _=>rfl⟩) λ _ _ _ _ _ z=>z
end Pc
namespace Pc
open PySem L2
section
open PySem.W
noncomputable def kE (P:Params) (n:Str) (t:Nat) (v:Value):DictEntry:=⟨PyData.keyHash P n,.str n t,v⟩
noncomputable def kO3 (P:Params):Obj:=⟨(.type "dict"),none,(.dict #[kE P "__name__" 165 (.str "law_platecuts_k83_whole_exchanges_keep_telli" 763),kE P "__doc__" 166 .none,kE P "__package__" 167 .none,kE P "__loader__" 168 (.builtin "__main__.__loader__#opaque"),kE P "__spec__" 169 .none,kE P "__annotations__" 170 (.ref 6),kE P "__builtins__" 171 (.ref 4),kE P "__file__" 173 (.str "/claim/cut.py" 172),kE P "__cached__" 174 .none,kE P "_wall" 193 (.ref 21),kE P "PlateError" 213 (.ref 31),kE P "NoBlade" 229 (.ref 44),kE P "NoKinds" 245 (.ref 56),kE P "NoKind" 261 (.ref 68),kE P "NoLying" 277 (.ref 80),kE P "NoPlate" 293 (.ref 92),kE P "NoTree" 309 (.ref 104),kE P "NoTelling" 325 (.ref 116),kE P "is_whole" 335 (.ref 125),kE P "is_truth" 342 (.ref 132),kE P "is_row" 349 (.ref 139),kE P "check_plate" 357 (.ref 146),kE P "DOWN" 361 (.str "down" 360),kE P "ACROSS" 363 (.str "across" 362),kE P "WAYS" 364 (.ref 147),kE P "lies_in" 379 (.ref 154),kE P "cut_parts" 391 (.ref 161),kE P "REST" 395 (.str "rest" 394),kE P "PIECE" 397 (.str "piece" 396),kE P "THINGS_OF_A_REST" 399 (.int 1 398),kE P "THINGS_OF_A_PIECE" 401 (.int 5 400),kE P "THINGS_OF_A_CUT" 403 (.int 4 402),kE P "begins_with" 412 (.ref 168),kE P "is_cut" 423 (.ref 175),kE P "is_leaf" 436 (.ref 182),kE P "spots_behind" 460 (.ref 189),kE P "is_tree" 473 (.ref 196),kE P "check_tree" 483 (.ref 203),kE P "leaves_of" 496 (.ref 210),kE P "THINGS_OF_A_CUT_TELLING" 500 (.int 2 499),kE P "LEAST_IN_A_ROW" 502 (.int 2 501),kE P "side_along" 510 (.ref 217),kE P "part_along" 519 (.ref 224),kE P "telling_of_part" 535 (.ref 231),kE P "telling_of" 545 (.ref 238),kE P "way_of" 553 (.ref 245),kE P "is_sized" 561 (.ref 252),kE P "is_divided" 567 (.ref 257),kE P "as_telling" 573 (.ref 262),kE P "tree_by_telling" 579 (.ref 267),kE P "tree_told" 589 (.ref 274),kE P "pieces_of" 612 (.ref 281),kE P "counts_of" 618 (.ref 286),kE P "worth_of" 624 (.ref 291),kE P "areas_of" 645 (.ref 298),kE P "MOST_KINDS" 649 (.int 8 648),kE P "THINGS_OF_A_KIND" 651 (.int 5 650),kE P "is_kind" 663 (.ref 305),kE P "can_lie_turned" 670 (.ref 312),kE P "Shop" 744 (.ref 367),kE P "turns_of" 762 (.ref 378),kE P "_law_cell" 772 (.ref 385),kE P "_law_pot" 780 (.ref 392),kE P "_law_take" 789 (.ref 399),kE P "_law_unit" 797 (.ref 406),kE P "_law_side" 806 (.ref 413),kE P "_law_worth" 814 (.ref 420),kE P "_law_shop" 827 (.ref 427),kE P "_law_sides" 838 (.ref 434),kE P "_law_lyings" 848 (.ref 441),kE P "_law_behind" 859 (.ref 448),kE P "_law_leaf" 873 (.ref 455),kE P "_law_tree" 891 (.ref 462),kE P "_law_regrouped" 903 (.ref 469),kE P "_law_turned" 921 (.ref 476),kE P "_law_measured" 932 (.ref 483),kE P "_law_deep" 951 (.ref 490),kE P "law" 970 (.ref 497)] 78),#[]⟩
noncomputable def gk0 (x0:Str)(x1:Nat)(x2:Str)(x3 x4 x5 x6 x7 x8 x9 x10 x11 x12 x13:Nat)(P:Params):Obj:=⟨(.type "code"),none,(.fields #[.str x0 x1,.str x2 x3,.str "/claim/cut.py" x4,.int x5 0,.int x6 0,.int 0 0,.int 0 0,.int 3 0,.ref x7,.bool true,.int 181 0,.ref x8,.none,.ref x9,.ref x10,.ref x11,.int x12 0,.int x5 0,.str "/claim/cut.py" x13]),#[]⟩
noncomputable def Gm:=gk0 "_wall" 187 "_wall" 188 189 1 1 15 16 17 18 19 191 192
noncomputable def gk1 (x0 x1:Str)(x2:Stmt)(x3:Str)(x4 x5:Nat)(P:Params):Obj:=⟨(.type "function"),none,(.func (fnOf x0 x1 (defArgs x2) (defBody x2) (defScope x2) .none .none .none (.str x3 x4) none (.ref x5) .none)),#[]⟩
noncomputable def Gn:=gk1 "_wall" "_wall" yc "__main__" 164 20
noncomputable def Go (P:Params):Obj:=⟨(.type "dict"),none,(.dict #[kE P "__module__" 203 (.str "platecuts.errors" 194),kE P "__firstlineno__" 207 (.int 5 206),kE P "__static_attributes__" 208 (.ref 29),kE P "__weakref__" 210 (.ref 32),kE P "__doc__" 211 .none] 3),#[]⟩
noncomputable def Gp (P:Params):Obj:=⟨(.type "type"),none,(.cls ⟨"PlateError",[.type "ValueError"],[.ref 31,.type "ValueError",.type "Exception",.type "BaseException",.type "object"],30,"PlateError",true,[],[.ref 44,.ref 56,.ref 68,.ref 80,.ref 92,.ref 104,.ref 116],false,none,false⟩),#[some (.ref 22),none,some (.str "PlateError" 196),some (.str "PlateError" 204),some (.builtin "ValueError.__new__"),some (.bool true)]⟩
noncomputable def gk2 (x0 x1 x2 x3 x4 x5 x6:Nat)(P:Params):Obj:=⟨(.type "dict"),none,(.dict #[kE P "__module__" x0 (.str "platecuts.errors" 194),kE P "__firstlineno__" x1 (.int x2 x3),kE P "__static_attributes__" x4 (.ref x5),kE P "__doc__" x6 .none] 2),#[]⟩
noncomputable def Gq:=gk2 221 225 7 224 226 42 227
noncomputable def gk3 (x0:Str)(x1 x2 x3 x4 x5:Nat)(P:Params):Obj:=⟨(.type "type"),none,(.cls ⟨x0,[.ref 31],[.ref x1,.ref 31,.type "ValueError",.type "Exception",.type "BaseException",.type "object"],x2,x0,true,[],[],false,none,false⟩),#[some (.ref x3),none,some (.str x0 x4),some (.str x0 x5),some (.builtin "ValueError.__new__"),some (.bool true)]⟩
noncomputable def Gr:=gk3 "NoBlade" 44 43 35 214 222
noncomputable def Gs:=gk2 237 241 9 240 242 54 243
noncomputable def Gu:=gk3 "NoKinds" 56 55 47 230 238
noncomputable def Gv:=gk2 253 257 11 256 258 66 259
noncomputable def Gw:=gk3 "NoKind" 68 67 59 246 254
noncomputable def Gx:=gk2 269 273 13 272 274 78 275
noncomputable def Gy:=gk3 "NoLying" 80 79 71 262 270
noncomputable def Gz:=gk2 285 289 15 288 290 90 291
noncomputable def GA:=gk3 "NoPlate" 92 91 83 278 286
noncomputable def yk:=gk2 301 305 17 304 306 102 307
noncomputable def ym:=gk3 "NoTree" 104 103 95 294 302
noncomputable def yn:=gk2 317 321 19 320 322 114 323
noncomputable def yo:=gk3 "NoTelling" 116 115 107 310 318
noncomputable def yp:=gk0 "is_whole" 328 "is_whole" 329 330 22 2 119 120 121 122 123 333 334
noncomputable def yq:=gk1 "is_whole" "is_whole" jo "platecuts.checks" 326 124
noncomputable def yr:=gk0 "is_truth" 336 "is_truth" 337 338 24 1 126 127 128 129 130 340 341
noncomputable def yt:=gk1 "is_truth" "is_truth" jp "platecuts.checks" 326 131
noncomputable def yu:=gk0 "is_row" 343 "is_row" 344 345 26 1 133 134 135 136 137 347 348
noncomputable def yw:=gk1 "is_row" "is_row" tL "platecuts.checks" 326 138
noncomputable def yx:=gk0 "check_plate" 350 "check_plate" 351 352 28 2 140 141 142 143 144 355 356
noncomputable def yy:=gk1 "check_plate" "check_plate" cG "platecuts.checks" 326 145
noncomputable def yz (P:Params):Obj:=⟨(.type "tuple"),none,(.seq #[.str "down" 360,.str "across" 362] 0),#[]⟩
noncomputable def yA:=gk0 "lies_in" 365 "lies_in" 366 367 35 7 148 149 150 151 152 377 378
noncomputable def yB:=gk1 "lies_in" "lies_in" gB "platecuts.parts" 358 153
noncomputable def yC:=gk0 "cut_parts" 380 "cut_parts" 381 382 40 4 155 156 157 158 159 389 390
noncomputable def yD:=gk1 "cut_parts" "cut_parts" dX "platecuts.parts" 358 160
noncomputable def yE:=gk0 "begins_with" 404 "begins_with" 405 406 51 3 162 163 164 165 166 410 411
noncomputable def yF:=gk1 "begins_with" "begins_with" cH "platecuts.trees" 392 167
noncomputable def yG:=gk0 "is_cut" 413 "is_cut" 414 415 55 2 169 170 171 172 173 421 422
noncomputable def yH:=gk1 "is_cut" "is_cut" jq "platecuts.trees" 392 174
noncomputable def yI:=gk0 "is_leaf" 424 "is_leaf" 425 426 62 2 176 177 178 179 180 434 435
noncomputable def yJ:=gk1 "is_leaf" "is_leaf" gC "platecuts.trees" 392 181
noncomputable def yK:=gk0 "spots_behind" 437 "spots_behind" 438 439 67 2 183 184 185 186 187 458 459
noncomputable def yL:=gk1 "spots_behind" "spots_behind" cf "platecuts.trees" 392 188
noncomputable def yM:=gk0 "is_tree" 461 "is_tree" 462 463 74 4 190 191 192 193 194 471 472
noncomputable def yN:=gk1 "is_tree" "is_tree" gD "platecuts.trees" 392 195
noncomputable def yO:=gk0 "check_tree" 474 "check_tree" 475 476 85 4 197 198 199 200 201 481 482
noncomputable def yP:=gk1 "check_tree" "check_tree" cY "platecuts.trees" 392 202
noncomputable def yQ:=gk0 "leaves_of" 484 "leaves_of" 485 486 88 4 204 205 206 207 208 494 495
noncomputable def yR:=gk1 "leaves_of" "leaves_of" dY "platecuts.trees" 392 209
noncomputable def yS:=gk0 "side_along" 503 "side_along" 504 505 101 2 211 212 213 214 215 508 509
noncomputable def yT:=gk1 "side_along" "side_along" cZ "platecuts.tellings" 497 216
noncomputable def yU:=gk0 "part_along" 511 "part_along" 512 513 103 3 218 219 220 221 222 517 518
noncomputable def yV:=gk1 "part_along" "part_along" de "platecuts.tellings" 497 223
noncomputable def yW:=gk0 "telling_of_part" 520 "telling_of_part" 521 522 105 3 225 226 227 228 229 533 534
noncomputable def yX:=gk1 "telling_of_part" "telling_of_part" bo "platecuts.tellings" 497 230
noncomputable def yY:=gk0 "telling_of" 536 "telling_of" 537 538 119 4 232 233 234 235 236 543 544
noncomputable def yZ:=gk1 "telling_of" "telling_of" df "platecuts.tellings" 497 237
noncomputable def za:=gk0 "way_of" 546 "way_of" 547 548 122 1 239 240 241 242 243 551 552
noncomputable def zb:=gk1 "way_of" "way_of" jr "platecuts.tellings" 497 244
noncomputable def zc:=gk0 "is_sized" 554 "is_sized" 555 556 127 2 246 247 248 249 250 559 560
noncomputable def zd:=gk1 "is_sized" "is_sized" fh "platecuts.tellings" 497 251
noncomputable def gk4 (x0:Str)(x1:Nat)(x2:Str)(x3 x4 x5 x6 x7 x8 x9 x10 x11:Nat)(P:Params):Obj:=⟨(.type "code"),none,(.fields #[.str x0 x1,.str x2 x3,.str "/claim/cut.py" x4,.int x5 0,.int x6 0,.int 0 0,.int 0 0,.int 3 0,.ref x7,.bool true,.int 181 0,.ref x8,.none,.none,.none,.ref x9,.int x10 0,.int x5 0,.str "/claim/cut.py" x11]),#[]⟩
noncomputable def ze:=gk4 "is_divided" 562 "is_divided" 563 564 129 4 253 254 255 565 566
noncomputable def zf:=gk1 "is_divided" "is_divided" bT "platecuts.tellings" 497 256
noncomputable def zg:=gk4 "as_telling" 568 "as_telling" 569 570 133 3 258 259 260 571 572
noncomputable def zh:=gk1 "as_telling" "as_telling" bE "platecuts.tellings" 497 261
noncomputable def zi:=gk4 "tree_by_telling" 574 "tree_by_telling" 575 576 145 1 263 264 265 577 578
noncomputable def zj:=gk1 "tree_by_telling" "tree_by_telling" be "platecuts.tellings" 497 266
noncomputable def zk:=gk0 "tree_told" 580 "tree_told" 581 582 154 4 268 269 270 271 272 587 588
noncomputable def zm:=gk1 "tree_told" "tree_told" dZ "platecuts.tellings" 497 273
noncomputable def zn:=gk0 "pieces_of" 592 "pieces_of" 593 594 158 4 275 276 277 278 279 610 611
noncomputable def zo:=gk1 "pieces_of" "pieces_of" ec "platecuts.measures" 590 280
noncomputable def zp:=gk4 "counts_of" 613 "counts_of" 614 615 166 4 282 283 284 616 617
noncomputable def zq:=gk1 "counts_of" "counts_of" cP "platecuts.measures" 590 285
noncomputable def zr:=gk4 "worth_of" 619 "worth_of" 620 621 172 4 287 288 289 622 623
noncomputable def zt:=gk1 "worth_of" "worth_of" dJ "platecuts.measures" 590 290
noncomputable def zu:=gk0 "areas_of" 625 "areas_of" 626 627 175 4 292 293 294 295 296 643 644
noncomputable def zw:=gk1 "areas_of" "areas_of" fi "platecuts.measures" 590 297
noncomputable def zx:=gk0 "is_kind" 652 "is_kind" 653 654 190 1 299 300 301 302 303 661 662
noncomputable def zy:=gk1 "is_kind" "is_kind" gE "platecuts.shops" 646 304
noncomputable def zA:=gk0 "can_lie_turned" 664 "can_lie_turned" 665 666 197 1 306 307 308 309 310 668 669
noncomputable def zB:=gk1 "can_lie_turned" "can_lie_turned" gF "platecuts.shops" 646 311
noncomputable def zC:=gk4 "__init__" 683 "Shop.__init__" 684 685 201 3 320 321 322 686 687
noncomputable def zD:=gk1 "__init__" "Shop.__init__" cQ "platecuts.shops" 646 323
noncomputable def zE:=gk0 "blade" 689 "Shop.blade" 690 691 212 1 325 326 327 328 329 693 694
noncomputable def zF:=gk1 "blade" "Shop.blade" dg "platecuts.shops" 646 330
noncomputable def zG:=gk0 "kinds" 696 "Shop.kinds" 697 698 215 1 332 333 334 335 336 700 701
noncomputable def zH:=gk1 "kinds" "Shop.kinds" dh "platecuts.shops" 646 337
noncomputable def zI:=gk4 "wanted" 703 "Shop.wanted" 704 705 218 1 339 340 341 706 707
noncomputable def zJ:=gk1 "wanted" "Shop.wanted" jU "platecuts.shops" 646 342
noncomputable def zK:=gk0 "lyings" 709 "Shop.lyings" 710 711 221 1 344 345 346 347 348 713 714
noncomputable def zL:=gk1 "lyings" "Shop.lyings" jV "platecuts.shops" 646 349
noncomputable def zM:=gk0 "is_lying" 716 "Shop.is_lying" 717 718 224 3 351 352 353 354 355 722 723
noncomputable def zN:=gk1 "is_lying" "Shop.is_lying" cg "platecuts.shops" 646 356
noncomputable def zO:=gk0 "sides" 725 "Shop.sides" 726 727 229 3 358 359 360 361 362 732 733
noncomputable def zP:=gk1 "sides" "Shop.sides" di "platecuts.shops" 646 363
noncomputable def zQ (P:Params):Obj:=⟨(.type "dict"),none,(.dict #[kE P "__module__" 678 (.str "platecuts.shops" 646),kE P "__firstlineno__" 682 (.int 199 681),kE P "__init__" 688 (.ref 324),kE P "blade" 695 (.ref 331),kE P "kinds" 702 (.ref 338),kE P "wanted" 708 (.ref 343),kE P "lyings" 715 (.ref 350),kE P "is_lying" 724 (.ref 357),kE P "sides" 734 (.ref 364),kE P "__static_attributes__" 737 (.ref 365),kE P "__dict__" 739 (.ref 368),kE P "__weakref__" 741 (.ref 369),kE P "__doc__" 742 .none] 4),#[]⟩
noncomputable def zR (P:Params):Obj:=⟨(.type "type"),none,(.cls ⟨"Shop",[.type "object"],[.ref 367,.type "object"],366,"Shop",true,[],[],false,none,false⟩),#[none,none,some (.str "Shop" 671),some (.str "Shop" 679),some (.builtin "object.__new__"),some (.bool true)]⟩
noncomputable def zS:=gk0 "turns_of" 747 "turns_of" 748 749 237 4 372 373 374 375 376 760 761
noncomputable def zT:=gk1 "turns_of" "turns_of" fj "platecuts.turning" 745 377
noncomputable def zU:=gk0 "_law_cell" 765 "_law_cell" 766 767 251 2 379 380 381 382 383 770 771
noncomputable def zV:=gk1 "_law_cell" "_law_cell" mx "law_platecuts_k83_whole_exchanges_keep_telli" 763 384
noncomputable def zW:=gk0 "_law_pot" 773 "_law_pot" 774 775 255 2 386 387 388 389 390 778 779
noncomputable def zX:=gk1 "_law_pot" "_law_pot" tM "law_platecuts_k83_whole_exchanges_keep_telli" 763 391
noncomputable def zY:=gk0 "_law_take" 781 "_law_take" 782 783 257 2 393 394 395 396 397 787 788
noncomputable def zZ:=gk1 "_law_take" "_law_take" my "law_platecuts_k83_whole_exchanges_keep_telli" 763 398
noncomputable def Aa:=gk0 "_law_unit" 790 "_law_unit" 791 792 264 1 400 401 402 403 404 795 796
noncomputable def Ab:=gk1 "_law_unit" "_law_unit" mz "law_platecuts_k83_whole_exchanges_keep_telli" 763 405
noncomputable def Ac:=gk0 "_law_side" 798 "_law_side" 799 800 267 3 407 408 409 410 411 804 805
noncomputable def Ad:=gk1 "_law_side" "_law_side" mB "law_platecuts_k83_whole_exchanges_keep_telli" 763 412
noncomputable def Ae:=gk0 "_law_worth" 807 "_law_worth" 808 809 271 1 414 415 416 417 418 812 813
noncomputable def Af:=gk1 "_law_worth" "_law_worth" js "law_platecuts_k83_whole_exchanges_keep_telli" 763 419
noncomputable def Ag:=gk0 "_law_shop" 815 "_law_shop" 816 817 274 2 421 422 423 424 425 825 826
noncomputable def Ah:=gk1 "_law_shop" "_law_shop" mC "law_platecuts_k83_whole_exchanges_keep_telli" 763 426
noncomputable def Ai:=gk0 "_law_sides" 828 "_law_sides" 829 830 282 3 428 429 430 431 432 836 837
noncomputable def Aj:=gk1 "_law_sides" "_law_sides" jt "law_platecuts_k83_whole_exchanges_keep_telli" 763 433
noncomputable def Ak:=gk0 "_law_lyings" 839 "_law_lyings" 840 841 285 1 435 436 437 438 439 846 847
noncomputable def Al:=gk1 "_law_lyings" "_law_lyings" gG "law_platecuts_k83_whole_exchanges_keep_telli" 763 440
noncomputable def Am:=gk0 "_law_behind" 849 "_law_behind" 850 851 292 5 442 443 444 445 446 857 858
noncomputable def An:=gk1 "_law_behind" "_law_behind" gH "law_platecuts_k83_whole_exchanges_keep_telli" 763 447
noncomputable def Ao:=gk0 "_law_leaf" 860 "_law_leaf" 861 862 296 4 449 450 451 452 453 871 872
noncomputable def Ap:=gk1 "_law_leaf" "_law_leaf" mD "law_platecuts_k83_whole_exchanges_keep_telli" 763 454
noncomputable def Aq:=gk0 "_law_tree" 874 "_law_tree" 875 876 307 6 456 457 458 459 460 889 890
noncomputable def Ar:=gk1 "_law_tree" "_law_tree" iG "law_platecuts_k83_whole_exchanges_keep_telli" 763 461
noncomputable def As:=gk0 "_law_regrouped" 892 "_law_regrouped" 893 894 318 2 463 464 465 466 467 901 902
noncomputable def At:=gk1 "_law_regrouped" "_law_regrouped" dj "law_platecuts_k83_whole_exchanges_keep_telli" 763 468
noncomputable def Au:=gk0 "_law_turned" 904 "_law_turned" 905 906 325 5 470 471 472 473 474 919 920
noncomputable def Av:=gk1 "_law_turned" "_law_turned" cR "law_platecuts_k83_whole_exchanges_keep_telli" 763 475
noncomputable def Aw:=gk0 "_law_measured" 922 "_law_measured" 923 924 337 4 477 478 479 480 481 930 931
noncomputable def Ax:=gk1 "_law_measured" "_law_measured" ef "law_platecuts_k83_whole_exchanges_keep_telli" 763 482
noncomputable def Ay:=gk0 "_law_deep" 933 "_law_deep" 934 935 340 4 484 485 486 487 488 949 950
noncomputable def Az:=gk1 "_law_deep" "_law_deep" mE "law_platecuts_k83_whole_exchanges_keep_telli" 763 489
noncomputable def AA:=gk0 "law" 952 "law" 953 954 354 1 491 492 493 494 495 968 969
noncomputable def AB:=gk1 "law" "law" jW "law_platecuts_k83_whole_exchanges_keep_telli" 763 496
noncomputable def kK:Params->Frag:=λ P=>(nat_lit 3,kO3 P) :: (nat_lit 20,Gm P) :: (nat_lit 21,Gn P) :: (nat_lit 30,Go P) :: (nat_lit 31,Gp P) :: (nat_lit 43,Gq P) :: (nat_lit 44,Gr P) :: (nat_lit 55,Gs P) :: (nat_lit 56,Gu P) :: (nat_lit 67,Gv P) :: (nat_lit 68,Gw P) :: (nat_lit 79,Gx P) :: (nat_lit 80,Gy P) :: (nat_lit 91,Gz P) :: (nat_lit 92,GA P) :: (nat_lit 103,yk P) :: (nat_lit 104,ym P) :: (nat_lit 115,yn P) :: (nat_lit 116,yo P) :: (nat_lit 124,yp P) :: (nat_lit 125,yq P) :: (nat_lit 131,yr P) :: (nat_lit 132,yt P) :: (nat_lit 138,yu P) :: (nat_lit 139,yw P) :: (nat_lit 145,yx P) :: (nat_lit 146,yy P) :: (nat_lit 147,yz P) :: (nat_lit 153,yA P) :: (nat_lit 154,yB P) :: (nat_lit 160,yC P) :: (nat_lit 161,yD P) :: (nat_lit 167,yE P) :: (nat_lit 168,yF P) :: (nat_lit 174,yG P) :: (nat_lit 175,yH P) :: (nat_lit 181,yI P) :: (nat_lit 182,yJ P) :: (nat_lit 188,yK P) :: (nat_lit 189,yL P) :: (nat_lit 195,yM P) :: (nat_lit 196,yN P) :: (nat_lit 202,yO P) :: (nat_lit 203,yP P) :: (nat_lit 209,yQ P) :: (nat_lit 210,yR P) :: (nat_lit 216,yS P) :: (nat_lit 217,yT P) :: (nat_lit 223,yU P) :: (nat_lit 224,yV P) :: (nat_lit 230,yW P) :: (nat_lit 231,yX P) :: (nat_lit 237,yY P) :: (nat_lit 238,yZ P) :: (nat_lit 244,za P) :: (nat_lit 245,zb P) :: (nat_lit 251,zc P) :: (nat_lit 252,zd P) :: (nat_lit 256,ze P) :: (nat_lit 257,zf P) :: (nat_lit 261,zg P) :: (nat_lit 262,zh P) :: (nat_lit 266,zi P) :: (nat_lit 267,zj P) :: (nat_lit 273,zk P) :: (nat_lit 274,zm P) :: (nat_lit 280,zn P) :: (nat_lit 281,zo P) :: (nat_lit 285,zp P) :: (nat_lit 286,zq P) :: (nat_lit 290,zr P) :: (nat_lit 291,zt P) :: (nat_lit 297,zu P) :: (nat_lit 298,zw P) :: (nat_lit 304,zx P) :: (nat_lit 305,zy P) :: (nat_lit 311,zA P) :: (nat_lit 312,zB P) :: (nat_lit 323,zC P) :: (nat_lit 324,zD P) :: (nat_lit 330,zE P) :: (nat_lit 331,zF P) :: (nat_lit 337,zG P) :: (nat_lit 338,zH P) :: (nat_lit 342,zI P) :: (nat_lit 343,zJ P) :: (nat_lit 349,zK P) :: (nat_lit 350,zL P) :: (nat_lit 356,zM P) :: (nat_lit 357,zN P) :: (nat_lit 363,zO P) :: (nat_lit 364,zP P) :: (nat_lit 366,zQ P) :: (nat_lit 367,zR P) :: (nat_lit 377,zS P) :: (nat_lit 378,zT P) :: (nat_lit 384,zU P) :: (nat_lit 385,zV P) :: (nat_lit 391,zW P) :: (nat_lit 392,zX P) :: (nat_lit 398,zY P) :: (nat_lit 399,zZ P) :: (nat_lit 405,Aa P) :: (nat_lit 406,Ab P) :: (nat_lit 412,Ac P) :: (nat_lit 413,Ad P) :: (nat_lit 419,Ae P) :: (nat_lit 420,Af P) :: (nat_lit 426,Ag P) :: (nat_lit 427,Ah P) :: (nat_lit 433,Ai P) :: (nat_lit 434,Aj P) :: (nat_lit 440,Ak P) :: (nat_lit 441,Al P) :: (nat_lit 447,Am P) :: (nat_lit 448,An P) :: (nat_lit 454,Ao P) :: (nat_lit 455,Ap P) :: (nat_lit 461,Aq P) :: (nat_lit 462,Ar P) :: (nat_lit 468,As P) :: (nat_lit 469,At P) :: (nat_lit 475,Au P) :: (nat_lit 476,Av P) :: (nat_lit 482,Aw P) :: (nat_lit 483,Ax P) :: (nat_lit 489,Ay P) :: (nat_lit 490,Az P) :: (nat_lit 496,AA P) :: (nat_lit 497,AB P) :: []
end
end Pc
set_option maxHeartbeats 0
noncomputable abbrev PySem.W.Fast.tw16834192429977445806:PySem.Program:=PySem.Challenge.pw_platecuts_k83_whole_exchanges_keep_telli
theorem PySem.W.Fast.te16834192429977445806:PySem.Challenge.pw_platecuts_k83_whole_exchanges_keep_telli=PySem.W.Fast.tw16834192429977445806:=rfl
namespace Hd
open PySem PySem.W
def S0:Str:=⟨⟨[95,95,110,97,109,101,95,95]⟩⟩
def S2:Str:=⟨⟨[95,95,100,111,99,95,95]⟩⟩
def S3:Str:=⟨⟨[95,95,112,97,99,107,97,103,101,95,95]⟩⟩
def S4:Str:=⟨⟨[95,95,108,111,97,100,101,114,95,95]⟩⟩
def S5:Str:=⟨⟨[95,95,115,112,101,99,95,95]⟩⟩
def AC:Str:=⟨⟨[95,95,109,97,105,110,95,95]⟩⟩
def AD:Str:=⟨⟨[95,95,97,110,110,111,116,97,116,105,111,110,115,95,95]⟩⟩
def AE:Str:=⟨⟨[95,95,98,117,105,108,116,105,110,115,95,95]⟩⟩
def AF:Str:=⟨⟨[95,95,102,105,108,101,95,95]⟩⟩
def kx:Str:=⟨⟨[47,99,108,97,105,109,47,99,117,116,46,112,121]⟩⟩
def AG:Str:=⟨⟨[95,95,99,97,99,104,101,100,95,95]⟩⟩
def GB:Str:=⟨⟨[60,109,111,100,117,108,101,62]⟩⟩
def ky:Str:=⟨⟨[112,108,97,116,101,99,117,116,115,46,116,114,101,101,115]⟩⟩
def lM:Str:=⟨⟨[95,119,97,108,108]⟩⟩
def jA:Str:=⟨⟨[80,108,97,116,101,69,114,114,111,114]⟩⟩
def ot:Str:=⟨⟨[78,111,66,108,97,100,101]⟩⟩
def ou:Str:=⟨⟨[78,111,75,105,110,100,115]⟩⟩
def oz:Str:=⟨⟨[78,111,75,105,110,100]⟩⟩
def oA:Str:=⟨⟨[78,111,76,121,105,110,103]⟩⟩
def oB:Str:=⟨⟨[78,111,80,108,97,116,101]⟩⟩
def oC:Str:=⟨⟨[78,111,84,114,101,101]⟩⟩
def oE:Str:=⟨⟨[78,111,84,101,108,108,105,110,103]⟩⟩
def lN:Str:=⟨⟨[105,115,95,119,104,111,108,101]⟩⟩
def lO:Str:=⟨⟨[105,115,95,116,114,117,116,104]⟩⟩
def lP:Str:=⟨⟨[105,115,95,114,111,119]⟩⟩
def lQ:Str:=⟨⟨[99,104,101,99,107,95,112,108,97,116,101]⟩⟩
def vY:Str:=⟨⟨[68,79,87,78]⟩⟩
def vZ:Str:=⟨⟨[100,111,119,110]⟩⟩
def wc:Str:=⟨⟨[65,67,82,79,83,83]⟩⟩
def we:Str:=⟨⟨[97,99,114,111,115,115]⟩⟩
def wf:Str:=⟨⟨[87,65,89,83]⟩⟩
def lR:Str:=⟨⟨[108,105,101,115,95,105,110]⟩⟩
def lS:Str:=⟨⟨[99,117,116,95,112,97,114,116,115]⟩⟩
def wg:Str:=⟨⟨[82,69,83,84]⟩⟩
def AH:Str:=⟨⟨[114,101,115,116]⟩⟩
def wj:Str:=⟨⟨[80,73,69,67,69]⟩⟩
def AI:Str:=⟨⟨[112,105,101,99,101]⟩⟩
def wk:Str:=⟨⟨[84,72,73,78,71,83,95,79,70,95,65,95,82,69,83,84]⟩⟩
def wm:Str:=⟨⟨[84,72,73,78,71,83,95,79,70,95,65,95,80,73,69,67,69]⟩⟩
def GC:Str:=⟨⟨[107]⟩⟩
def rV:Str:=⟨⟨[95,95,109,111,100,117,108,101,95,95]⟩⟩
def il:Str:=⟨⟨[112,108,97,116,101,99,117,116,115,46,101,114,114,111,114,115]⟩⟩
def AJ:Str:=⟨⟨[95,95,113,117,97,108,110,97,109,101,95,95]⟩⟩
def rW:Str:=⟨⟨[95,95,102,105,114,115,116,108,105,110,101,110,111,95,95]⟩⟩
def rX:Str:=⟨⟨[95,95,115,116,97,116,105,99,95,97,116,116,114,105,98,117,116,101,115,95,95]⟩⟩
def wn:Str:=⟨⟨[95,95,119,101,97,107,114,101,102,95,95]⟩⟩
def jB:Str:=⟨⟨[116,104,105,110,103]⟩⟩
def GD:Str:=⟨⟨[108,101,97,115,116]⟩⟩
def ut:Str:=⟨⟨[112,108,97,116,101,99,117,116,115,46,99,104,101,99,107,115]⟩⟩
def fX:Str:=⟨⟨[119,105,100,101]⟩⟩
def fY:Str:=⟨⟨[104,105,103,104]⟩⟩
def jC:Str:=⟨⟨[115,104,111,112]⟩⟩
def rY:Str:=⟨⟨[107,105,110,100]⟩⟩
def uw:Str:=⟨⟨[116,117,114,110,101,100]⟩⟩
def rZ:Str:=⟨⟨[120]⟩⟩
def si:Str:=⟨⟨[121]⟩⟩
def AK:Str:=⟨⟨[112,105,101,99,101,95,119,105,100,101]⟩⟩
def AL:Str:=⟨⟨[112,105,101,99,101,95,104,105,103,104]⟩⟩
def AM:Str:=⟨⟨[112,108,97,116,101,99,117,116,115,46,112,97,114,116,115]⟩⟩
def iq:Str:=⟨⟨[98,108,97,100,101]⟩⟩
def ux:Str:=⟨⟨[112,97,114,116]⟩⟩
def jD:Str:=⟨⟨[119,97,121]⟩⟩
def AN:Str:=⟨⟨[112]⟩⟩
def dv:Str:=⟨⟨[108,97,119,95,112,108,97,116,101,99,117,116,115,95,107,56,51,95,119,104,111,108,101,95,101,120,99,104,97,110,103,101,115,95,107,101,101,112,95,116,101,108,108,105]⟩⟩
def AO:Str:=⟨⟨[84,72,73,78,71,83,95,79,70,95,65,95,67,85,84]⟩⟩
def oF:Str:=⟨⟨[98,101,103,105,110,115,95,119,105,116,104]⟩⟩
def oG:Str:=⟨⟨[105,115,95,99,117,116]⟩⟩
def oH:Str:=⟨⟨[105,115,95,108,101,97,102]⟩⟩
def oI:Str:=⟨⟨[115,112,111,116,115,95,98,101,104,105,110,100]⟩⟩
def oJ:Str:=⟨⟨[105,115,95,116,114,101,101]⟩⟩
def oK:Str:=⟨⟨[99,104,101,99,107,95,116,114,101,101]⟩⟩
def oM:Str:=⟨⟨[108,101,97,118,101,115,95,111,102]⟩⟩
def AQ:Str:=⟨⟨[84,72,73,78,71,83,95,79,70,95,65,95,67,85,84,95,84,69,76,76,73,78,71]⟩⟩
def AR:Str:=⟨⟨[76,69,65,83,84,95,73,78,95,65,95,82,79,87]⟩⟩
def oN:Str:=⟨⟨[115,105,100,101,95,97,108,111,110,103]⟩⟩
def oO:Str:=⟨⟨[112,97,114,116,95,97,108,111,110,103]⟩⟩
def oP:Str:=⟨⟨[116,101,108,108,105,110,103,95,111,102,95,112,97,114,116]⟩⟩
def oQ:Str:=⟨⟨[116,101,108,108,105,110,103,95,111,102]⟩⟩
def oR:Str:=⟨⟨[119,97,121,95,111,102]⟩⟩
def oS:Str:=⟨⟨[105,115,95,115,105,122,101,100]⟩⟩
def oT:Str:=⟨⟨[105,115,95,100,105,118,105,100,101,100]⟩⟩
def oU:Str:=⟨⟨[97,115,95,116,101,108,108,105,110,103]⟩⟩
def oV:Str:=⟨⟨[116,114,101,101,95,98,121,95,116,101,108,108,105,110,103]⟩⟩
def oW:Str:=⟨⟨[116,114,101,101,95,116,111,108,100]⟩⟩
def oX:Str:=⟨⟨[112,105,101,99,101,115,95,111,102]⟩⟩
def oY:Str:=⟨⟨[99,111,117,110,116,115,95,111,102]⟩⟩
def oZ:Str:=⟨⟨[119,111,114,116,104,95,111,102]⟩⟩
def pb:Str:=⟨⟨[97,114,101,97,115,95,111,102]⟩⟩
def AS:Str:=⟨⟨[77,79,83,84,95,75,73,78,68,83]⟩⟩
def AT:Str:=⟨⟨[84,72,73,78,71,83,95,79,70,95,65,95,75,73,78,68]⟩⟩
def pd:Str:=⟨⟨[105,115,95,107,105,110,100]⟩⟩
def pf:Str:=⟨⟨[99,97,110,95,108,105,101,95,116,117,114,110,101,100]⟩⟩
def kz:Str:=⟨⟨[83,104,111,112]⟩⟩
def pi:Str:=⟨⟨[116,117,114,110,115,95,111,102]⟩⟩
def pj:Str:=⟨⟨[95,108,97,119,95,99,101,108,108]⟩⟩
def pk:Str:=⟨⟨[95,108,97,119,95,112,111,116]⟩⟩
def pq:Str:=⟨⟨[95,108,97,119,95,116,97,107,101]⟩⟩
def pC:Str:=⟨⟨[95,108,97,119,95,117,110,105,116]⟩⟩
def pE:Str:=⟨⟨[95,108,97,119,95,115,105,100,101]⟩⟩
def pF:Str:=⟨⟨[95,108,97,119,95,119,111,114,116,104]⟩⟩
def pG:Str:=⟨⟨[95,108,97,119,95,115,104,111,112]⟩⟩
def pH:Str:=⟨⟨[95,108,97,119,95,115,105,100,101,115]⟩⟩
def pI:Str:=⟨⟨[95,108,97,119,95,108,121,105,110,103,115]⟩⟩
def pJ:Str:=⟨⟨[95,108,97,119,95,98,101,104,105,110,100]⟩⟩
def pK:Str:=⟨⟨[95,108,97,119,95,108,101,97,102]⟩⟩
def pL:Str:=⟨⟨[95,108,97,119,95,116,114,101,101]⟩⟩
def pM:Str:=⟨⟨[95,108,97,119,95,114,101,103,114,111,117,112,101,100]⟩⟩
def pN:Str:=⟨⟨[95,108,97,119,95,116,117,114,110,101,100]⟩⟩
def pO:Str:=⟨⟨[95,108,97,119,95,109,101,97,115,117,114,101,100]⟩⟩
def pP:Str:=⟨⟨[95,108,97,119,95,100,101,101,112]⟩⟩
def sj:Str:=⟨⟨[108,97,119]⟩⟩
def AU:Str:=⟨⟨[119,111,114,100]⟩⟩
def GE:Str:=⟨⟨[109,97,110,121]⟩⟩
def sk:Str:=⟨⟨[115,112,111,116]⟩⟩
def kA:Str:=⟨⟨[116,114,101,101]⟩⟩
def GF:Str:=⟨⟨[115,105,100,101]⟩⟩
def AV:Str:=⟨⟨[102,105,114,115,116]⟩⟩
def AW:Str:=⟨⟨[115,101,99,111,110,100]⟩⟩
def GG:Str:=⟨⟨[119,105,100,101,95,97,104,101,97,100]⟩⟩
def GH:Str:=⟨⟨[104,105,103,104,95,97,104,101,97,100]⟩⟩
def GI:Str:=⟨⟨[119,105,100,101,95,98,101,104,105,110,100]⟩⟩
def GJ:Str:=⟨⟨[104,105,103,104,95,98,101,104,105,110,100]⟩⟩
def GK:Str:=⟨⟨[115,116,101,112]⟩⟩
def GL:Str:=⟨⟨[102,97,114,95,120]⟩⟩
def GM:Str:=⟨⟨[102,97,114,95,121]⟩⟩
def wr:Str:=⟨⟨[119,97,105,116,105,110,103]⟩⟩
def GN:Str:=⟨⟨[108,101,97,118,101,115]⟩⟩
def ir:Str:=⟨⟨[112,108,97,116,101,99,117,116,115,46,116,101,108,108,105,110,103,115]⟩⟩
def GO:Str:=⟨⟨[115,105,122,101]⟩⟩
def AX:Str:=⟨⟨[114,111,119]⟩⟩
def GP:Str:=⟨⟨[105,110,110,101,114,95,112,97,114,116]⟩⟩
def GQ:Str:=⟨⟨[105,110,110,101,114,95,116,114,101,101]⟩⟩
def GR:Str:=⟨⟨[116,101,108,108,105,110,103]⟩⟩
def GS:Str:=⟨⟨[112,105,101,99,101,115]⟩⟩
def AY:Str:=⟨⟨[112,97,114,116,95,119,105,100,101]⟩⟩
def AZ:Str:=⟨⟨[112,97,114,116,95,104,105,103,104]⟩⟩
def Ba:Str:=⟨⟨[108,101,97,102]⟩⟩
def GT:Str:=⟨⟨[112,105,101,99,101,95,120]⟩⟩
def GU:Str:=⟨⟨[112,105,101,99,101,95,121]⟩⟩
def uy:Str:=⟨⟨[112,108,97,116,101,99,117,116,115,46,109,101,97,115,117,114,101,115]⟩⟩
def GV:Str:=⟨⟨[114,101,115,116,115]⟩⟩
def GW:Str:=⟨⟨[109,97,114,103,105,110,115]⟩⟩
def GX:Str:=⟨⟨[99,101,108,108,115]⟩⟩
def GY:Str:=⟨⟨[119,111,114,116,104]⟩⟩
def pQ:Str:=⟨⟨[119,97,110,116,101,100]⟩⟩
def Bb:Str:=⟨⟨[116,117,114,110,115]⟩⟩
def pR:Str:=⟨⟨[112,108,97,116,101,99,117,116,115,46,115,104,111,112,115]⟩⟩
def sn:Str:=⟨⟨[95,95,105,110,105,116,95,95]⟩⟩
def sr:Str:=⟨⟨[107,105,110,100,115]⟩⟩
def ss:Str:=⟨⟨[108,121,105,110,103,115]⟩⟩
def su:Str:=⟨⟨[105,115,95,108,121,105,110,103]⟩⟩
def sv:Str:=⟨⟨[115,105,100,101,115]⟩⟩
def wu:Str:=⟨⟨[83,104,111,112,46,95,95,105,110,105,116,95,95]⟩⟩
def sC:Str:=⟨⟨[115,101,108,102]⟩⟩
def ww:Str:=⟨⟨[83,104,111,112,46,98,108,97,100,101]⟩⟩
def wx:Str:=⟨⟨[83,104,111,112,46,107,105,110,100,115]⟩⟩
def wz:Str:=⟨⟨[83,104,111,112,46,119,97,110,116,101,100]⟩⟩
def wA:Str:=⟨⟨[83,104,111,112,46,108,121,105,110,103,115]⟩⟩
def wB:Str:=⟨⟨[83,104,111,112,46,105,115,95,108,121,105,110,103]⟩⟩
def wC:Str:=⟨⟨[83,104,111,112,46,115,105,100,101,115]⟩⟩
def GZ:Str:=⟨⟨[98,108,97,100,101,95,119,105,100,116,104]⟩⟩
def Hh:Str:=⟨⟨[107,105,110,100,95,114,111,119,115]⟩⟩
def Bc:Str:=⟨⟨[95,95,100,105,99,116,95,95]⟩⟩
def Hi:Str:=⟨⟨[109,111,115,116]⟩⟩
def Hj:Str:=⟨⟨[112,97,114,116,95,116,114,101,101]⟩⟩
def Hk:Str:=⟨⟨[119,97,121,95,97,104,101,97,100]⟩⟩
def Hl:Str:=⟨⟨[112,108,97,116,101,99,117,116,115,46,116,117,114,110,105,110,103]⟩⟩
def Bd:Str:=⟨⟨[95,108,97,119,95,115,99,114,105,112,116]⟩⟩
def pS:Str:=⟨⟨[95,108,97,119,95,107]⟩⟩
def Hm:Str:=⟨⟨[95,108,97,119,95,99,101,108,108,95,104,101,114,101]⟩⟩
def jE:Str:=⟨⟨[95,108,97,119,95,112,111,116,95,104,101,114,101]⟩⟩
def Hn:Str:=⟨⟨[95,108,97,119,95,109,97,110,121]⟩⟩
def Ho:Str:=⟨⟨[95,108,97,119,95,100,105,103,105,116]⟩⟩
def wD:Str:=⟨⟨[95,108,97,119,95,115,111,109,101]⟩⟩
def uz:Str:=⟨⟨[95,108,97,119,95,117,110,105,116,95,104,101,114,101]⟩⟩
def Hq:Str:=⟨⟨[95,108,97,119,95,109,111,115,116]⟩⟩
def Hr:Str:=⟨⟨[95,108,97,119,95,98,108,97,100,101]⟩⟩
def Hs:Str:=⟨⟨[95,108,97,119,95,107,105,110,100,115]⟩⟩
def kB:Str:=⟨⟨[95,108,97,119,95,119,105,100,101]⟩⟩
def kC:Str:=⟨⟨[95,108,97,119,95,104,105,103,104]⟩⟩
def kD:Str:=⟨⟨[95,108,97,119,95,115,104,111,112,95,104,101,114,101]⟩⟩
def wE:Str:=⟨⟨[95,108,97,119,95,107,105,110,100]⟩⟩
def Be:Str:=⟨⟨[95,108,97,119,95,116,117,114,110,101,100,95,104,101,114,101]⟩⟩
def Bf:Str:=⟨⟨[95,108,97,119,95,102,111,117,110,100]⟩⟩
def uA:Str:=⟨⟨[95,108,97,119,95,119,97,121]⟩⟩
def uB:Str:=⟨⟨[95,108,97,119,95,112]⟩⟩
def Ht:Str:=⟨⟨[95,108,97,119,95,111,119,110]⟩⟩
def Hu:Str:=⟨⟨[95,108,97,119,95,100,101,101,112,95,104,101,114,101]⟩⟩
def Hv:Str:=⟨⟨[95,108,97,119,95,114,111,111,109]⟩⟩
def Bg:Str:=⟨⟨[95,108,97,119,95,115,105,100,101,95,104,101,114,101]⟩⟩
def wF:Str:=⟨⟨[95,108,97,119,95,111,110,101]⟩⟩
def wG:Str:=⟨⟨[95,108,97,119,95,111,116,104,101,114]⟩⟩
def wH:Str:=⟨⟨[95,108,97,119,95,102,105,114,115,116]⟩⟩
def sD:Str:=⟨⟨[95,108,97,119,95,116,114,101,101,95,104,101,114,101]⟩⟩
def Bh:Str:=⟨⟨[95,108,97,119,95,115,101,99,111,110,100]⟩⟩
def Bi:Str:=⟨⟨[95,108,97,119,95,109,97,100,101]⟩⟩
def HA:Str:=⟨⟨[95,108,97,119,95,116,117,114,110]⟩⟩
def HB:Str:=⟨⟨[95,108,97,119,95,115,105,122,101]⟩⟩
def HC:Str:=⟨⟨[95,108,97,119,95,102,97,114]⟩⟩
def HD:Str:=⟨⟨[95,108,97,119,95,115,105,100,101,115,95,104,101,114,101]⟩⟩
def HE:Str:=⟨⟨[95,108,97,119,95,108,101,97,102,95,104,101,114,101]⟩⟩
def HF:Str:=⟨⟨[95,108,97,119,95,116,111,108,100]⟩⟩
def HG:Str:=⟨⟨[95,108,97,119,95,100,117,101]⟩⟩
noncomputable abbrev HK:Hook:=kHook Pc.kK [nat_lit 3,nat_lit 20,nat_lit 21,nat_lit 30,nat_lit 31,nat_lit 43,nat_lit 44,nat_lit 55,nat_lit 56,nat_lit 67,nat_lit 68,nat_lit 79,nat_lit 80,nat_lit 91,nat_lit 92,nat_lit 103,nat_lit 104,nat_lit 115,nat_lit 116,nat_lit 124,nat_lit 125,nat_lit 131,nat_lit 132,nat_lit 138,nat_lit 139,nat_lit 145,nat_lit 146,nat_lit 147,nat_lit 153,nat_lit 154,nat_lit 160,nat_lit 161,nat_lit 167,nat_lit 168,nat_lit 174,nat_lit 175,nat_lit 181,nat_lit 182,nat_lit 188,nat_lit 189,nat_lit 195,nat_lit 196,nat_lit 202,nat_lit 203,nat_lit 209,nat_lit 210,nat_lit 216,nat_lit 217,nat_lit 223,nat_lit 224,nat_lit 230,nat_lit 231,nat_lit 237,nat_lit 238,nat_lit 244,nat_lit 245,nat_lit 251,nat_lit 252,nat_lit 256,nat_lit 257,nat_lit 261,nat_lit 262,nat_lit 266,nat_lit 267,nat_lit 273,nat_lit 274,nat_lit 280,nat_lit 281,nat_lit 285,nat_lit 286,nat_lit 290,nat_lit 291,nat_lit 297,nat_lit 298,nat_lit 304,nat_lit 305,nat_lit 311,nat_lit 312,nat_lit 323,nat_lit 324,nat_lit 330,nat_lit 331,nat_lit 337,nat_lit 338,nat_lit 342,nat_lit 343,nat_lit 349,nat_lit 350,nat_lit 356,nat_lit 357,nat_lit 363,nat_lit 364,nat_lit 366,nat_lit 367,nat_lit 377,nat_lit 378,nat_lit 384,nat_lit 385,nat_lit 391,nat_lit 392,nat_lit 398,nat_lit 399,nat_lit 405,nat_lit 406,nat_lit 412,nat_lit 413,nat_lit 419,nat_lit 420,nat_lit 426,nat_lit 427,nat_lit 433,nat_lit 434,nat_lit 440,nat_lit 441,nat_lit 447,nat_lit 448,nat_lit 454,nat_lit 455,nat_lit 461,nat_lit 462,nat_lit 468,nat_lit 469,nat_lit 475,nat_lit 476,nat_lit 482,nat_lit 483,nat_lit 489,nat_lit 490,nat_lit 496,nat_lit 497] (λ _=>by kernel_rfl)
noncomputable abbrev pt:Program:=PySem.W.Fast.tw16834192429977445806
theorem pt_eq:PySem.Challenge.pw_platecuts_k83_whole_exchanges_keep_telli=pt:=PySem.W.Fast.te16834192429977445806
noncomputable def tp (i:Nat):Stmt:=pt.main.body.getD i (.Pass ⟨0,0,0,0⟩)
noncomputable abbrev f (o:Params->Obj) (l r:Params->BT):Params->BT:=λ P=>.node (o P) (l P) (r P)
noncomputable abbrev z:Params->BT:=λ _=>.nil
noncomputable abbrev e (P:Params) (n:Str) (t:Nat) (v:Value):DictEntry:=⟨PyData.keyHash P n,.str n t,v⟩
noncomputable abbrev m0:Nat:=nat_lit 11
noncomputable abbrev an:Option Value:=(some (.ref 6))
noncomputable abbrev en:Env:={ scope:=pt.main.scope,locals:=mainNs,globals:=mainNs,cells:=[],code:=(.ref 13),frame:=some 14 }
noncomputable abbrev cE:Code:=.body (behindTheImports pt) en
noncomputable abbrev qP:Pos:=⟨0,0,0,0⟩
noncomputable abbrev B:List Frame:=[topFrame qP]
noncomputable abbrev L0:=SL.s14018661285674007319x4
noncomputable abbrev L1:=SL.s11665532747177232413x24
noncomputable abbrev L2:=SL.s15183661809925369436x15
noncomputable abbrev L3:=SL.s13915890719876406383x10
noncomputable abbrev L4:=SL.s13459172003223722735x3
noncomputable abbrev L5:=SL.s10557405761357834076x3
noncomputable abbrev L6:=SL.s4233737765568776869x3
noncomputable abbrev L7:=SL.s2508922471967985374x5
noncomputable abbrev L8:=SL.s15574269061696679450x3
noncomputable abbrev L9:=SL.s6016482663378992977x10
noncomputable abbrev L10:=SL.s5596568736180474577x8
noncomputable abbrev L11:=SL.s2839554839881490554x3
noncomputable abbrev L12:=SL.s725004073602090463x7
noncomputable abbrev L13:=SL.s9436932552931045734x7
noncomputable abbrev L14:=SL.s2754603736356183583x3
noncomputable abbrev L15:=SL.s15185746759980889043x6
noncomputable abbrev L16:=SL.s8192189862530294059x4
noncomputable abbrev L17:=SL.s7038307821325472102x4
noncomputable abbrev L18:=SL.s5662562618415449548x6
noncomputable abbrev L19:=SL.s15281542589158584767x7
noncomputable abbrev L20:=SL.s17651547275483570877x7
noncomputable abbrev L21:=SL.s4036449017235975746x7
noncomputable abbrev L22:=SL.s8879979712987360175x4
noncomputable abbrev L23:=SL.s1801250619170735830x3
noncomputable abbrev L24:=SL.s17659931425627118568x2
noncomputable abbrev L25:=SL.s6063217899685152688x5
noncomputable abbrev L26:=SL.s8008927332132565319x10
noncomputable abbrev L27:=SL.s3544116645089599534x10
noncomputable abbrev L28:=SL.s13761710972054866084x4
noncomputable abbrev L29:=SL.s12896375587409280029x5
noncomputable abbrev L30:=SL.s13014049009108672802x3
noncomputable abbrev L31:=SL.s13935586738268321596x6
noncomputable abbrev L32:=SL.s8200498257699607233x3
noncomputable abbrev L33:=SL.s14114244577727609259x3
noncomputable abbrev L34:=SL.s1499430450269397089x4
noncomputable abbrev L35:=SL.s8755793994789770505x5
noncomputable abbrev L36:=SL.s15725212667919936108x3
noncomputable abbrev L37:=SL.s15791221867095933363x3
noncomputable abbrev L38:=SL.s81309575031448614x3
noncomputable abbrev L39:=SL.s8069831620301644142x5
noncomputable abbrev L40:=SL.s10061844253413749634x4
noncomputable abbrev L41:=SL.s9496514870978017513x5
noncomputable abbrev L42:=SL.s8899691144933366716x7
noncomputable abbrev L43:=SL.s15201008993051130160x6
noncomputable abbrev L44:=SL.s741896355592496720x3
noncomputable abbrev L45:=SL.s17925004256654032244x4
noncomputable abbrev L46:=SL.s11695548795398191787x4
noncomputable abbrev L47:=SL.s4156966113859768872x10
noncomputable abbrev L48:=SL.s9501651726347032510x9
noncomputable abbrev L49:=SL.s15722918466584999320x5
noncomputable abbrev L50:=SL.s591115383303110208x11
noncomputable abbrev L51:=SL.s15721156781594690315x7
noncomputable abbrev L52:=SL.s14340494229221121180x9
noncomputable abbrev L53:=SL.s13429844117177748173x6
noncomputable abbrev L54:=SL.s16463266125957815391x5
noncomputable abbrev L55:=SL.s4922535414793169389x9
noncomputable abbrev L56:=SL.s8101838861749082086x8
noncomputable abbrev L57:=SL.s7066276694103001551x3
noncomputable abbrev L58:=SL.s9222952809800978799x4
noncomputable abbrev L59:=SL.s462964344163437139x3
noncomputable abbrev L60:=SL.s2742458400755230247x6
noncomputable abbrev L61:=SL.s1438033511350832697x5
noncomputable abbrev L62:=SL.s14365286008749172514x8
noncomputable abbrev L63:=SL.s3642769012341782148x3
noncomputable abbrev L64:=SL.s4674234679698826739x5
noncomputable abbrev L65:=SL.s16656946322747308186x12
noncomputable abbrev L66:=SL.s10796804682411823810x3
noncomputable abbrev L67:=SL.s4290257624100764138x5
noncomputable abbrev L68:=SL.s2766695959194262286x5
noncomputable abbrev L69:=SL.s17162191345867700912x4
noncomputable abbrev L70:=SL.s14339709457334898076x3
noncomputable abbrev L71:=SL.s4278001404047624695x13
noncomputable abbrev L72:=SL.s6585700554429387442x18
noncomputable abbrev L73:=SL.s5946037652744460706x9
noncomputable abbrev L74:=SL.s7410770068591931388x13
noncomputable abbrev L75:=SL.s11817881795495490833x17
noncomputable abbrev L76:=SL.s15679963881808890155x10
noncomputable abbrev L77:=SL.s3871700062485845797x15
noncomputable abbrev L78:=SL.s7689518266570723881x14
noncomputable abbrev L79:=SL.s9001593270443806431x14
noncomputable abbrev L80:=SL.s6882542574934516792x11
noncomputable abbrev L81:=SL.s14403400214490484960x8
noncomputable abbrev L82:=SL.s14457978657717015782x11
noncomputable abbrev L83:=SL.s1753610191782819921x11
noncomputable abbrev L84:=SL.s14119380538032626715x11
noncomputable abbrev L85:=SL.s11437920000406562045x9
noncomputable abbrev L86:=SL.s10852414792293593619x7
noncomputable abbrev L87:=SL.s14816307405966870543x14
noncomputable abbrev L88:=SL.s8682627914449686677x12
noncomputable abbrev L89:=SL.s4428170145600203450x18
noncomputable abbrev L90:=SL.s5991306692159431302x13
noncomputable abbrev L91:=SL.s16067994140765818257x11
noncomputable abbrev L92:=SL.s2327743974964600596x11
noncomputable abbrev L93:=SL.s2804747833354056582x9
noncomputable abbrev L94:=SL.s6070975301684473832x10
noncomputable abbrev L95:=SL.s14270485950484850486x7
noncomputable abbrev L96:=SL.s12041534306414923332x18
noncomputable abbrev L97:=SL.s2531307568338490285x13
noncomputable abbrev L98:=SL.s631175304937289666x17
noncomputable abbrev L99:=SL.s5144983644357021410x12
noncomputable abbrev HV:=SL.s18039099521571816885x18
noncomputable abbrev HW:=SL.s6011586214260557989x15
noncomputable abbrev HX:=SL.s5430567037509283100x13
noncomputable abbrev HY:=SL.s8117915138073963741x13
noncomputable abbrev HZ:=SL.s3423317712779056401x25
noncomputable abbrev Ia:=SL.s2007317383269046180x15
noncomputable abbrev Ib:=SL.s17481586968713580700x14
noncomputable abbrev Ic:=SL.s2450899226349176912x13
noncomputable abbrev Id:=SL.s16626165730633575011x14
noncomputable abbrev Ie:=SL.s14288496050688921416x11
noncomputable abbrev Ig:=SL.s5735081916595925998x15
noncomputable abbrev Ih:=SL.s3865607918536308442x17
noncomputable abbrev Ii:=SL.s13337502604062700212x15
noncomputable abbrev Ij:=SL.s13114017843053701147x15
noncomputable abbrev Ik:=SL.s17467278006356818441x17
noncomputable abbrev Il:=SL.s17722149559621369488x16
noncomputable abbrev Im:=SL.s7855274175708717672x17
noncomputable abbrev Io:=SL.s13351283678309829046x18
noncomputable abbrev Ip:=SL.s6668348653404991179x15
noncomputable abbrev Iq:=SL.s12913350958174193794x18
noncomputable abbrev Ir:=SL.s16115879512475548326x12
noncomputable abbrev Iu:=SL.s15920661018069861047x16
noncomputable abbrev Iv:=SL.s10779130036587390575x21
noncomputable abbrev Iw:=SL.s7801419657504700863x10
noncomputable abbrev Ix:=SL.s1688129525768580628x8
noncomputable abbrev Iy:=SL.s1031832959479892071x19
noncomputable abbrev Iz:=SL.s8991790508128307865x19
noncomputable abbrev IA:=SL.s14539662485746970245x23
noncomputable abbrev IB:=SL.s11643622729373238714x14
noncomputable abbrev IC:=SL.s3386828779285465597x17
noncomputable abbrev ID:=SL.s13042696260734638735x12
noncomputable abbrev IE:=SL.s18239426817015966623x15
noncomputable abbrev IF:=SL.s1270395311379034370x22
noncomputable abbrev IG:=SL.s10696252587037064777x22
noncomputable abbrev IH:=SL.s7852717498200857586x20
noncomputable abbrev II:=SL.s6377248116197321094x8
noncomputable abbrev IJ:=SL.s3834378056692298002x18
noncomputable abbrev IK:=SL.s17586630440231065808x18
noncomputable abbrev IL:=SL.s15234114252648025395x21
noncomputable abbrev IM:=SL.s8496462677383758984x14
noncomputable abbrev IN:=SL.s16789243406116112673x4
noncomputable abbrev IO:=SL.s14400166428656793546x20
noncomputable abbrev IP:=SL.s5857708277339239366x20
noncomputable abbrev IQ:=SL.s7804999707787243718x20
noncomputable abbrev Bj:=SL.s7097527257260152453x26
noncomputable abbrev IR:=SL.s6658869562736209489x6
noncomputable abbrev wI:=SL.s5856160107412720595x4
noncomputable abbrev HI:=SL.s658472552662922059x5
noncomputable abbrev sZ (w:World) (os:OsState):Shared:=⟨boot_heap w.params,Array.mk [],boot_drawn,boot_toks,os⟩
noncomputable def o11 (P:Params):Obj:=⟨(.type L68),none,(.seq #[] 0),#[]⟩
noncomputable def o12 (P:Params):Obj:=⟨.none,none,(.fields #[]),#[]⟩
noncomputable def g0 (x0:Str)(x1 x2 x3:Nat)(P:Params):Obj:=⟨(.type wI),none,(.fields #[.str x0 x1,.str x0 (x1+1),.str kx (x1+2),.int x2 0,.int 0 0,.int 0 0,.int 0 0,.int 0 0,.ref x3,.bool false,.int 181 0,.ref (x3+1),.none,.none,.none,.none,.int (x1+3) 0,.int x2 0,.str kx (x1+4)]),#[]⟩
noncomputable def o13:=g0 GB 182 1 11
noncomputable def g1 (x0 x1:Nat)(x2:Str)(x3:Nat)(P:Params):Obj:=⟨(.type HI),none,.plain,#[some (.ref x0),some (.ref 3),some (.ref x1),none,some (.str x2 x3),none,some (.ref 0)]⟩
noncomputable def o14:=g1 13 3 AC 164
noncomputable def hA (P:Params):Heap:=⟨⟨[boot_o_0 P,boot_o_1 P,boot_o_2 P,boot_o_3 P,boot_o_4 P,boot_o_5 P,boot_o_6 P,boot_o_7 P,boot_o_8 P,boot_o_9 P,boot_o_10 P,o11 P,o12 P,o13 P,o14 P]⟩,{ }⟩
noncomputable abbrev sA (w:World) (os:OsState):Shared:=⟨hA w.params,(Array.mk []),⟨0,0,0,0⟩,187,os⟩
noncomputable abbrev pA:Pos:=⟨0,0,0,0⟩
theorem pre (w:World):(λ os=>topGo treeTable pt w m0 an 12 (sZ w os) (topStub pt))=λ os=>some (sA w os,(⟨denote treeTable cE,cE,pA,B⟩:Thread)):=by
 rw [PySem.W.Fast.te15667345088766844465,PySem.W.Fast.te14364793385576792824,PySem.W.Fast.te11892475500146522536]; kernel_rfl
noncomputable def tB:Params->BT:=(f boot_o_0 (f boot_o_1 (f boot_o_3 (f boot_o_7 z z) (f o11 z z)) (f boot_o_5 (f boot_o_9 z z) (f o13 z z))) (f boot_o_2 (f boot_o_4 (f boot_o_8 z z) (f o12 z z)) (f boot_o_6 (f boot_o_10 z z) (f o14 z z))))
noncomputable abbrev sB (w:World) (os:OsState):SharedT:=⟨tB w.params,15,{ },(Array.mk []),⟨0,0,0,0⟩,187,os⟩
noncomputable abbrev pB:Pos:=⟨0,0,0,0⟩
theorem blk (w:World):(λ os=>segRun treeTable pt w m0 an 1 1 (sA w os) ⟨(blockStart (behindTheImports pt) en).wrap (λ _=>doneF .next) deadEnd id id,cE,pA,B⟩)=λ os=>some (.next,(sB w os).abs,cE,pB):=by
 rw [PySem.W.Fast.te14374325043358763698,PySem.W.Fast.te14364793385576792824,PySem.W.Fast.te1066825118222455980]; kernel_rfl
noncomputable def HJ (P:Params):Obj:=⟨(.type L0),none,(.dict #[e P S0 165 (.str ky 392),e P S2 166 .none,e P S3 167 .none,e P S4 168 (.builtin Bj),e P S5 169 .none,e P AD 170 (.ref 6),e P AE 171 (.ref 4),e P AF 173 (.str kx 172),e P AG 174 .none,e P lM 193 (.ref 21),e P jA 213 (.ref 31),e P ot 229 (.ref 44),e P ou 245 (.ref 56),e P oz 261 (.ref 68),e P oA 277 (.ref 80),e P oB 293 (.ref 92),e P oC 309 (.ref 104),e P oE 325 (.ref 116),e P lN 335 (.ref 125),e P lO 342 (.ref 132),e P lP 349 (.ref 139),e P lQ 357 (.ref 146),e P vY 361 (.str vZ 360),e P wc 363 (.str we 362),e P wf 364 (.ref 147),e P lR 379 (.ref 154),e P lS 391 (.ref 161),e P wg 395 (.str AH 394),e P wj 397 (.str AI 396),e P wk 399 (.int 1 398),e P wm 401 (.int 5 400)] 31),#[]⟩
noncomputable def Bk (P:Params):Obj:=⟨.none,none,(.fields #[.int 1 0,.int 0 0,.ref 20,.int 5 0,.int 0 0,.ref 27,.int 7 0,.int 0 0,.ref 40,.int 9 0,.int 0 0,.ref 52,.int 11 0,.int 0 0,.ref 64,.int 13 0,.int 0 0,.ref 76,.int 15 0,.int 0 0,.ref 88,.int 17 0,.int 0 0,.ref 100,.int 19 0,.int 0 0,.ref 112,.int 22 0,.int 0 0,.ref 124,.int 24 0,.int 0 0,.ref 131,.int 26 0,.int 0 0,.ref 138,.int 28 0,.int 0 0,.ref 145,.int 35 0,.int 0 0,.ref 153,.int 40 0,.int 0 0,.ref 160]),#[]⟩
noncomputable def g2 (x0:Str)(x1:Nat)(P:Params):Obj:=⟨(.type L68),none,(.seq #[.str x0 x1] 0),#[]⟩
noncomputable def o17:=g2 GC 190
noncomputable def g3 (x0:Str)(x1:Nat)(P:Params):Obj:=⟨.none,none,(.func ⟨x0,x0,L2.defArgs (tp x1),(.stmts (L2.defBody (tp x1))),L2.defScope (tp x1),0,[],.none,.none,.none,.none,none,.none,.none,0⟩),#[]⟩
noncomputable def o19:=g3 lM 0
noncomputable def g4 (x0:Str)(x1:Nat)(x2:Str)(x3 x4 x5 x6:Nat)(P:Params):Obj:=⟨(.type wI),none,(.fields #[.str x0 x1,.str x2 (x1+1),.str kx (x1+2),.int x3 0,.int x4 0,.int 0 0,.int 0 0,.int 3 0,.ref x5,.bool true,.int 181 0,.ref (x5+1),.none,.ref (x5+2),.ref (x5+3),.ref (x5+4),.int x6 0,.int x3 0,.str kx (x6+1)]),#[]⟩
noncomputable def o20:=g4 lM 187 lM 1 1 15 191
noncomputable abbrev Bl:=SL.s7174869446012820540x8
noncomputable def g5 (x0:Str)(x1:Nat)(x2:Str)(x3 x4:Nat)(P:Params):Obj:=⟨(.type Bl),none,(.func ⟨x0,x0,L2.defArgs (tp x1),(.stmts (L2.defBody (tp x1))),L2.defScope (tp x1),3,[],.none,.none,.none,.str x2 x3,none,.ref x4,.none,0⟩),#[]⟩
noncomputable def o21:=g5 lM 0 AC 164 20
noncomputable def o22 (P:Params):Obj:=⟨(.type L68),none,(.seq #[.type L94] 0),#[]⟩
noncomputable abbrev Bm:=SL.s11030030927630378310x26
noncomputable abbrev HL:=SL.s10062305145149207511x16
noncomputable def o23 (P:Params):Obj:=⟨(.type Bm),none,(.fields #[.builtin HL,.type L69]),#[]⟩
noncomputable def g6 (x0:Nat)(x1:Str)(x2 x3:Nat)(P:Params):Obj:=⟨(.type L0),none,(.dict #[e P rV x0 (.str il 194),e P AJ (x0+2) (.str x1 (x0+1)),e P rW (x0+4) (.int x2 (x0+3)),e P rX (x0+5) (.ref x3)] 4),#[]⟩
noncomputable def o24:=g6 203 jA 5 29
noncomputable def o27:=g0 jA 198 5 25
noncomputable def o28:=g1 27 24 il 194
noncomputable def o30 (P:Params):Obj:=⟨(.type L0),none,(.dict #[e P rV 203 (.str il 194),e P rW 207 (.int 5 206),e P rX 208 (.ref 29),e P wn 210 (.ref 32),e P S2 211 .none] 3),#[]⟩
noncomputable abbrev Bn:=SL.s4209523147560561109x18
noncomputable def o31 (P:Params):Obj:=⟨(.type L69),none,(.cls ⟨jA,[.type L94],[.ref 31,.type L94,.type L73,.type L71,.type L60],30,jA,true,[],[.ref 44,.ref 56,.ref 68,.ref 80,.ref 92,.ref 104,.ref 116],false,none,false⟩),#[some (.ref 22),none,some (.str jA 196),some (.str jA 204),some (.builtin Bn),some (.bool true)]⟩
noncomputable abbrev Bo:=SL.s14755015743595814543x17
noncomputable abbrev HM:=SL.s10220274742760427390x26
noncomputable def g7 (x0 x1:Nat)(P:Params):Obj:=⟨(.type Bo),none,(.fields #[.str wn x0,.ref x1,.builtin HM,.none]),#[]⟩
noncomputable def o32:=g7 209 31
noncomputable def g8 (x0:Nat)(P:Params):Obj:=⟨(.type L67),none,(.fields #[.ref x0,.ref x0,.ref x0]),#[]⟩
noncomputable def o33:=g8 31
noncomputable abbrev HN:=SL.s4860613602091757760x24
noncomputable def g9 (x0:Nat)(P:Params):Obj:=⟨(.type Bm),none,(.fields #[.builtin HN,.ref x0]),#[]⟩
noncomputable def o34:=g9 31
noncomputable def o35 (P:Params):Obj:=⟨(.type L68),none,(.seq #[.ref 31] 0),#[]⟩
noncomputable def o37:=g6 221 ot 7 42
noncomputable def o40:=g0 ot 216 7 38
noncomputable def o41:=g1 40 37 il 194
noncomputable def g10 (x0 x1 x2:Nat)(P:Params):Obj:=⟨(.type L0),none,(.dict #[e P rV x0 (.str il 194),e P rW (x0+4) (.int x1 (x0+3)),e P rX (x0+5) (.ref x2),e P S2 (x0+6) .none] 2),#[]⟩
noncomputable def o43:=g10 221 7 42
noncomputable def g11 (x0:Str)(x1 x2 x3 x4:Nat)(P:Params):Obj:=⟨(.type L69),none,(.cls ⟨x0,[.ref 31],[.ref x1,.ref 31,.type L94,.type L73,.type L71,.type L60],x2,x0,true,[],[],false,none,false⟩),#[some (.ref x3),none,some (.str x0 x4),some (.str x0 (x4+8)),some (.builtin Bn),some (.bool true)]⟩
noncomputable def o44:=g11 ot 44 43 35 214
noncomputable def o45:=g8 44
noncomputable def o46:=g9 44
noncomputable def o49:=g6 237 ou 9 54
noncomputable def o52:=g0 ou 232 9 50
noncomputable def o53:=g1 52 49 il 194
noncomputable def o55:=g10 237 9 54
noncomputable def o56:=g11 ou 56 55 47 230
noncomputable def o57:=g8 56
noncomputable def o58:=g9 56
noncomputable def o61:=g6 253 oz 11 66
noncomputable def o64:=g0 oz 248 11 62
noncomputable def o65:=g1 64 61 il 194
noncomputable def o67:=g10 253 11 66
noncomputable def o68:=g11 oz 68 67 59 246
noncomputable def o69:=g8 68
noncomputable def o70:=g9 68
noncomputable def o73:=g6 269 oA 13 78
noncomputable def o76:=g0 oA 264 13 74
noncomputable def o77:=g1 76 73 il 194
noncomputable def o79:=g10 269 13 78
noncomputable def o80:=g11 oA 80 79 71 262
noncomputable def o81:=g8 80
noncomputable def o82:=g9 80
noncomputable def o85:=g6 285 oB 15 90
noncomputable def o88:=g0 oB 280 15 86
noncomputable def o89:=g1 88 85 il 194
noncomputable def o91:=g10 285 15 90
noncomputable def o92:=g11 oB 92 91 83 278
noncomputable def o93:=g8 92
noncomputable def o94:=g9 92
noncomputable def o97:=g6 301 oC 17 102
noncomputable def wJ:=g0 oC 296 17 98
noncomputable def wK:=g1 100 97 il 194
noncomputable def wL:=g10 301 17 102
noncomputable def wM:=g11 oC 104 103 95 294
noncomputable def wN:=g8 104
noncomputable def wO:=g9 104
noncomputable def wP:=g6 317 oE 19 114
noncomputable def wQ:=g0 oE 312 19 110
noncomputable def wR:=g1 112 109 il 194
noncomputable def wS:=g10 317 19 114
noncomputable def wT:=g11 oE 116 115 107 310
noncomputable def wU:=g8 116
noncomputable def wV:=g9 116
noncomputable def g12 (x0:Str)(x1:Nat)(x2:Str)(x3:Nat)(P:Params):Obj:=⟨(.type L68),none,(.seq #[.str x0 x1,.str x2 x3] 0),#[]⟩
noncomputable def wW:=g12 jB 331 GD 332
noncomputable def wX:=g3 lN 11
noncomputable def wY:=g4 lN 328 lN 22 2 119 333
noncomputable def wZ:=g5 lN 11 ut 326 124
noncomputable def xa:=g2 jB 339
noncomputable def xb:=g3 lO 12
noncomputable def xc:=g4 lO 336 lO 24 1 126 340
noncomputable def xf:=g5 lO 12 ut 326 131
noncomputable def xg:=g2 jB 346
noncomputable def xh:=g3 lP 13
noncomputable def xi:=g4 lP 343 lP 26 1 133 347
noncomputable def xj:=g5 lP 13 ut 326 138
noncomputable def xk:=g12 fX 353 fY 354
noncomputable def xm:=g3 lQ 14
noncomputable def xn:=g4 lQ 350 lQ 28 2 140 355
noncomputable def xo:=g5 lQ 14 ut 326 145
noncomputable def xq:=g12 vZ 360 we 362
noncomputable def xt (P:Params):Obj:=⟨(.type L68),none,(.seq #[.str jC 368,.str fX 369,.str fY 370,.str rY 371,.str uw 372,.str rZ 373,.str si 374,.str AK 375,.str AL 376] 0),#[]⟩
noncomputable def xu:=g3 lR 19
noncomputable def xw:=g4 lR 365 lR 35 7 148 377
noncomputable def xy:=g5 lR 19 AM 358 153
noncomputable def g13 (x0:Str)(x1:Nat)(x2 x3 x4 x5 x6:Str)(P:Params):Obj:=⟨(.type L68),none,(.seq #[.str x0 x1,.str x2 (x1+1),.str x3 (x1+2),.str x4 (x1+3),.str x5 (x1+4),.str x6 (x1+5)] 0),#[]⟩
noncomputable def xz:=g13 iq 383 ux jD AN fX fY
noncomputable def xA:=g3 lS 20
noncomputable def xB:=g4 lS 380 lS 40 4 155 389
noncomputable def xC:=g5 lS 20 AM 358 160
noncomputable def t0:Params->BT:=(f boot_o_0 (f boot_o_1 (f HJ (f boot_o_7 (f o11 (f o31 (f o12 (f o12 z z) z) (f o35 (f xA z z) z)) (f o35 (f o79 (f o11 z z) z) (f o12 z z))) (f o23 (f o12 (f o35 (f xg z z) z) (f wL z z)) (f o55 (f o12 (f o11 z z) z) (f o11 z z)))) (f o11 (f o19 (f o35 (f o67 (f xc z z) z) (f o12 z z)) (f o12 (f o35 (f xq z z) z) (f wS z z))) (f o27 (f o43 (f o12 (f xj z z) z) (f o35 z z)) (f o35 (f o91 (f o11 z z) z) (f wX z z))))) (f boot_o_5 (f boot_o_9 (f o17 (f o33 (f o65 (f o11 z z) z) (f o97 (f xC z z) z)) (f o49 (f o81 (f xn z z) z) (f wR z z))) (f o11 (f o41 (f o73 (f xh z z) z) (f wN z z)) (f o57 (f o89 (f xw z z) z) (f wW z z)))) (f o13 (f o21 (f o37 (f o69 (f o11 z z) z) (f wK z z)) (f o53 (f o85 (f o12 z z) z) (f wU z z))) (f o11 (f o45 (f o77 (f o12 z z) z) (f wP z z)) (f o61 (f o93 (f xz z z) z) (f wZ z z)))))) (f boot_o_2 (f boot_o_4 (f boot_o_8 (f o12 (f o32 (f o64 (f xa z z) z) (f o23 (f xB z z) z)) (f o23 (f o80 (f xm z z) z) (f wQ z z))) (f o24 (f o40 (f o23 (f o11 z z) z) (f wM z z)) (f o56 (f o88 (f xu z z) z) (f o12 z z)))) (f Bk (f o20 (f o23 (f o68 (f xf z z) z) (f wJ z z)) (f o52 (f o23 (f o11 z z) z) (f wT z z))) (f o28 (f o44 (f o76 (f o11 z z) z) (f o23 z z)) (f o23 (f o92 (f o12 z z) z) (f wY z z))))) (f boot_o_6 (f boot_o_10 (f o11 (f o34 (f o11 (f xb z z) z) (f o11 z z)) (f o11 (f o82 (f xo z z) z) (f o11 z z))) (f o12 (f o11 (f o11 (f xi z z) z) (f wO z z)) (f o58 (f o11 (f xy z z) z) (f o11 z z)))) (f o14 (f o22 (f o11 (f o70 (f o12 z z) z) (f o11 z z)) (f o11 (f o11 (f xt z z) z) (f wV z z))) (f o30 (f o46 (f o11 (f xk z z) z) (f o11 z z)) (f o11 (f o94 (f o11 z z) z) (f o11 z z)))))))
noncomputable abbrev s0 (w:World) (os:OsState):SharedT:=⟨t0 w.params,162,{ },(Array.mk []),⟨0,0,0,0⟩,402,os⟩
noncomputable abbrev p0:Pos:=⟨49,0,49,17⟩
noncomputable abbrev st0:List Stmt:=(pt.main.body.drop 0).take 26
theorem q0 (w:World):(λ os=>segRunT treeTable pt w m0 an 1 2000 (sB w os) ⟨(execs st0 en).wrap doneF deadEnd id id,cE,pB,B⟩)=λ os=>some (.next,s0 w os,cE,p0):=by
 rw [PySem.W.Fast.te10110043849684766642,PySem.W.Fast.te14364793385576792824,PySem.W.Fast.te12563942051412417395]; kernel_rfl
noncomputable def Bp (P:Params):Obj:=⟨(.type L0),none,(.dict #[e P S0 165 (.str dv 763),e P S2 166 .none,e P S3 167 .none,e P S4 168 (.builtin Bj),e P S5 169 .none,e P AD 170 (.ref 6),e P AE 171 (.ref 4),e P AF 173 (.str kx 172),e P AG 174 .none,e P lM 193 (.ref 21),e P jA 213 (.ref 31),e P ot 229 (.ref 44),e P ou 245 (.ref 56),e P oz 261 (.ref 68),e P oA 277 (.ref 80),e P oB 293 (.ref 92),e P oC 309 (.ref 104),e P oE 325 (.ref 116),e P lN 335 (.ref 125),e P lO 342 (.ref 132),e P lP 349 (.ref 139),e P lQ 357 (.ref 146),e P vY 361 (.str vZ 360),e P wc 363 (.str we 362),e P wf 364 (.ref 147),e P lR 379 (.ref 154),e P lS 391 (.ref 161),e P wg 395 (.str AH 394),e P wj 397 (.str AI 396),e P wk 399 (.int 1 398),e P wm 401 (.int 5 400),e P AO 403 (.int 4 402),e P oF 412 (.ref 168),e P oG 423 (.ref 175),e P oH 436 (.ref 182),e P oI 460 (.ref 189),e P oJ 473 (.ref 196),e P oK 483 (.ref 203),e P oM 496 (.ref 210),e P AQ 500 (.int 2 499),e P AR 502 (.int 2 501),e P oN 510 (.ref 217),e P oO 519 (.ref 224),e P oP 535 (.ref 231),e P oQ 545 (.ref 238),e P oR 553 (.ref 245),e P oS 561 (.ref 252),e P oT 567 (.ref 257),e P oU 573 (.ref 262),e P oV 579 (.ref 267),e P oW 589 (.ref 274),e P oX 612 (.ref 281),e P oY 618 (.ref 286),e P oZ 624 (.ref 291),e P pb 645 (.ref 298),e P AS 649 (.int 8 648),e P AT 651 (.int 5 650),e P pd 663 (.ref 305),e P pf 670 (.ref 312),e P kz 744 (.ref 367),e P pi 762 (.ref 378),e P pj 772 (.ref 385),e P pk 780 (.ref 392),e P pq 789 (.ref 399),e P pC 797 (.ref 406),e P pE 806 (.ref 413),e P pF 814 (.ref 420),e P pG 827 (.ref 427),e P pH 838 (.ref 434),e P pI 848 (.ref 441),e P pJ 859 (.ref 448),e P pK 873 (.ref 455),e P pL 891 (.ref 462),e P pM 903 (.ref 469),e P pN 921 (.ref 476),e P pO 932 (.ref 483),e P pP 951 (.ref 490),e P sj 970 (.ref 497)] 78),#[]⟩
noncomputable def uW (P:Params):Obj:=⟨.none,none,(.fields #[.int 1 0,.int 0 0,.ref 20,.int 5 0,.int 0 0,.ref 27,.int 7 0,.int 0 0,.ref 40,.int 9 0,.int 0 0,.ref 52,.int 11 0,.int 0 0,.ref 64,.int 13 0,.int 0 0,.ref 76,.int 15 0,.int 0 0,.ref 88,.int 17 0,.int 0 0,.ref 100,.int 19 0,.int 0 0,.ref 112,.int 22 0,.int 0 0,.ref 124,.int 24 0,.int 0 0,.ref 131,.int 26 0,.int 0 0,.ref 138,.int 28 0,.int 0 0,.ref 145,.int 35 0,.int 0 0,.ref 153,.int 40 0,.int 0 0,.ref 160,.int 51 0,.int 0 0,.ref 167,.int 55 0,.int 0 0,.ref 174,.int 62 0,.int 0 0,.ref 181,.int 67 0,.int 0 0,.ref 188,.int 74 0,.int 0 0,.ref 195,.int 85 0,.int 0 0,.ref 202,.int 88 0,.int 0 0,.ref 209,.int 101 0,.int 0 0,.ref 216,.int 103 0,.int 0 0,.ref 223,.int 105 0,.int 0 0,.ref 230,.int 119 0,.int 0 0,.ref 237,.int 122 0,.int 0 0,.ref 244,.int 127 0,.int 0 0,.ref 251,.int 129 0,.int 0 0,.ref 256,.int 133 0,.int 0 0,.ref 261,.int 145 0,.int 0 0,.ref 266,.int 154 0,.int 0 0,.ref 273,.int 158 0,.int 0 0,.ref 280,.int 166 0,.int 0 0,.ref 285,.int 172 0,.int 0 0,.ref 290,.int 175 0,.int 0 0,.ref 297,.int 190 0,.int 0 0,.ref 304,.int 197 0,.int 0 0,.ref 311,.int 199 0,.int 0 0,.ref 318,.int 237 0,.int 0 0,.ref 377,.int 251 0,.int 0 0,.ref 384,.int 255 0,.int 0 0,.ref 391,.int 257 0,.int 0 0,.ref 398,.int 264 0,.int 0 0,.ref 405,.int 267 0,.int 0 0,.ref 412,.int 271 0,.int 0 0,.ref 419,.int 274 0,.int 0 0,.ref 426,.int 282 0,.int 0 0,.ref 433,.int 285 0,.int 0 0,.ref 440,.int 292 0,.int 0 0,.ref 447,.int 296 0,.int 0 0,.ref 454,.int 307 0,.int 0 0,.ref 461,.int 318 0,.int 0 0,.ref 468,.int 325 0,.int 0 0,.ref 475,.int 337 0,.int 0 0,.ref 482,.int 340 0,.int 0 0,.ref 489,.int 354 0,.int 0 0,.ref 496]),#[]⟩
noncomputable def g14 (x0:Str)(x1:Nat)(x2 x3:Str)(P:Params):Obj:=⟨(.type L68),none,(.seq #[.str x0 x1,.str x2 (x1+1),.str x3 (x1+2)] 0),#[]⟩
noncomputable def Bq:=g14 jB 407 AU GE
noncomputable def Br:=g3 oF 27
noncomputable def Bs:=g4 oF 404 oF 51 3 162 410
noncomputable def Bt:=g5 oF 27 ky 392 167
noncomputable def g15 (x0:Str)(x1:Nat)(x2 x3 x4 x5:Str)(P:Params):Obj:=⟨(.type L68),none,(.seq #[.str x0 x1,.str x2 (x1+1),.str x3 (x1+2),.str x4 (x1+3),.str x5 (x1+4)] 0),#[]⟩
noncomputable def Bu:=g15 iq 416 sk kA jD GF
noncomputable def Bv:=g3 oG 28
noncomputable def Bw:=g4 oG 413 oG 55 2 169 421
noncomputable def By:=g5 oG 28 ky 392 174
noncomputable def g16 (x0:Str)(x1:Nat)(x2 x3 x4 x5 x6 x7:Str)(P:Params):Obj:=⟨(.type L68),none,(.seq #[.str x0 x1,.str x2 (x1+1),.str x3 (x1+2),.str x4 (x1+3),.str x5 (x1+4),.str x6 (x1+5),.str x7 (x1+6)] 0),#[]⟩
noncomputable def Bz:=g16 jC 427 sk rZ si fX fY kA
noncomputable def BA:=g3 oH 29
noncomputable def BB:=g4 oH 424 oH 62 2 176 434
noncomputable def BC:=g5 oH 29 ky 392 181
noncomputable def BD (P:Params):Obj:=⟨(.type L68),none,(.seq #[.str iq 440,.str sk 441,.str rZ 442,.str si 443,.str fX 444,.str fY 445,.str kA 446,.str jD 447,.str AN 448,.str AV 449,.str AW 450,.str GG 451,.str GH 452,.str GI 453,.str GJ 454,.str GK 455,.str GL 456,.str GM 457] 0),#[]⟩
noncomputable def BE:=g3 oI 30
noncomputable def BF:=g4 oI 437 oI 67 2 183 458
noncomputable def BG:=g5 oI 30 ky 392 188
noncomputable def BH:=g16 jC 464 fX fY jB iq wr sk
noncomputable def BI:=g3 oJ 31
noncomputable def BJ:=g4 oJ 461 oJ 74 4 190 471
noncomputable def BK:=g5 oJ 31 ky 392 195
noncomputable def g17 (x0:Str)(x1:Nat)(x2 x3 x4:Str)(P:Params):Obj:=⟨(.type L68),none,(.seq #[.str x0 x1,.str x2 (x1+1),.str x3 (x1+2),.str x4 (x1+3)] 0),#[]⟩
noncomputable def BL:=g17 jC 477 fX fY jB
noncomputable def BM:=g3 oK 32
noncomputable def BN:=g4 oK 474 oK 85 4 197 481
noncomputable def BO:=g5 oK 32 ky 392 202
noncomputable def BP:=g16 jC 487 fX fY kA GN wr sk
noncomputable def BQ:=g3 oM 33
noncomputable def BR:=g4 oM 484 oM 88 4 204 494
noncomputable def BS:=g5 oM 33 ky 392 209
noncomputable def BU:=g12 ux 506 jD 507
noncomputable def BV:=g3 oN 37
noncomputable def BW:=g4 oN 503 oN 101 2 211 508
noncomputable def BX:=g5 oN 37 ir 497 216
noncomputable def BY:=g14 ux 514 jD GO
noncomputable def BZ:=g3 oO 38
noncomputable def Ca:=g4 oO 511 oO 103 3 218 517
noncomputable def Cb:=g5 oO 38 ir 497 223
noncomputable def g18 (x0:Str)(x1:Nat)(x2 x3 x4 x5 x6 x7 x8 x9:Str)(P:Params):Obj:=⟨(.type L68),none,(.seq #[.str x0 x1,.str x2 (x1+1),.str x3 (x1+2),.str x4 (x1+3),.str x5 (x1+4),.str wr (x1+5),.str x6 (x1+6),.str x7 (x1+7),.str x8 (x1+8),.str x9 (x1+9)] 0),#[]⟩
noncomputable def Cc:=g18 iq 523 ux kA jD AX GP GQ AV AW
noncomputable def Cd:=g3 oP 39
noncomputable def Ce:=g4 oP 520 oP 105 3 225 533
noncomputable def Cf:=g5 oP 39 ir 497 230
noncomputable def Cg:=g17 jC 539 fX fY kA
noncomputable def Ch:=g3 oQ 40
noncomputable def Ci:=g4 oQ 536 oQ 119 4 232 543
noncomputable def Cj:=g5 oQ 40 ir 497 237
noncomputable def Ck:=g12 jB 549 jD 550
noncomputable def Cl:=g3 oR 41
noncomputable def Cm:=g4 oR 546 oR 122 1 239 551
noncomputable def Cn:=g5 oR 41 ir 497 244
noncomputable def Co:=g12 jD 557 jB 558
noncomputable def Cp:=g3 oS 42
noncomputable def Cq:=g4 oS 554 oS 127 2 246 559
noncomputable def Cr:=g5 oS 42 ir 497 251
noncomputable def Cs:=g3 oT 43
noncomputable def g19 (x0:Str)(x1:Nat)(x2:Str)(x3 x4 x5:Nat)(P:Params):Obj:=⟨(.type wI),none,(.fields #[.str x0 x1,.str x2 (x1+1),.str kx (x1+2),.int x3 0,.int x4 0,.int 0 0,.int 0 0,.int 3 0,.ref x5,.bool true,.int 181 0,.ref (x5+1),.none,.none,.none,.ref (x5+2),.int (x1+3) 0,.int x3 0,.str kx (x1+4)]),#[]⟩
noncomputable def Ct:=g19 oT 562 oT 129 4 253
noncomputable def Cu:=g5 oT 43 ir 497 256
noncomputable def Cv:=g3 oU 44
noncomputable def Cw:=g19 oU 568 oU 133 3 258
noncomputable def Cy:=g5 oU 44 ir 497 261
noncomputable def Cz:=g3 oV 45
noncomputable def CA:=g19 oV 574 oV 145 1 263
noncomputable def CB:=g5 oV 45 ir 497 266
noncomputable def CC:=g17 jC 583 fX fY GR
noncomputable def CD:=g3 oW 46
noncomputable def CF:=g4 oW 580 oW 154 4 268 587
noncomputable def CG:=g5 oW 46 ir 497 273
noncomputable def g20 (x0:Nat)(x1 x2 x3 x4 x5 x6 x7 x8 x9 x10:Str)(P:Params):Obj:=⟨(.type L68),none,(.seq #[.str jC x0,.str fX (x0+1),.str fY (x0+2),.str kA (x0+3),.str GS (x0+4),.str x1 (x0+5),.str x2 (x0+6),.str x3 (x0+7),.str x4 (x0+8),.str x5 (x0+9),.str x6 (x0+10),.str x7 (x0+11),.str x8 (x0+12),.str x9 (x0+13),.str x10 (x0+14)] 0),#[]⟩
noncomputable def CI:=g20 595 rZ si AY AZ Ba AU rY uw GT GU
noncomputable def CJ:=g3 oX 48
noncomputable def CK:=g4 oX 592 oX 158 4 275 610
noncomputable def CL:=g5 oX 48 uy 590 280
noncomputable def CM:=g3 oY 49
noncomputable def CN:=g19 oY 613 oY 166 4 282
noncomputable def CO:=g5 oY 49 uy 590 285
noncomputable def CP:=g3 oZ 50
noncomputable def CQ:=g19 oZ 619 oZ 172 4 287
noncomputable def CS:=g5 oZ 50 uy 590 290
noncomputable def CT:=g20 628 GV GW rZ si AY AZ Ba GX AK AL
noncomputable def CU:=g3 pb 51
noncomputable def CV:=g4 pb 625 pb 175 4 292 643
noncomputable def CW:=g5 pb 51 uy 590 297
noncomputable def CY:=g13 jB 655 fX fY GY pQ Bb
noncomputable def CZ:=g3 pd 55
noncomputable def Da:=g4 pd 652 pd 190 1 299 661
noncomputable def Db:=g5 pd 55 pR 646 304
noncomputable def Dc:=g2 rY 667
noncomputable def De:=g3 pf 56
noncomputable def Df:=g4 pf 664 pf 197 1 306 668
noncomputable def Dg:=g5 pf 56 pR 646 311
noncomputable def Dh (P:Params):Obj:=⟨(.type L0),none,(.dict #[e P rV 678 (.str pR 646),e P AJ 680 (.str kz 679),e P rW 682 (.int 199 681),e P sn 688 (.ref 324),e P iq 695 (.ref 331),e P sr 702 (.ref 338),e P pQ 708 (.ref 343),e P ss 715 (.ref 350),e P su 724 (.ref 357),e P sv 734 (.ref 364),e P rX 737 (.ref 365)] 11),#[]⟩
noncomputable def Di (P:Params):Obj:=⟨.none,none,(.fields #[.int 201 0,.int 4 0,.ref 323,.int 212 0,.int 4 0,.ref 330,.int 215 0,.int 4 0,.ref 337,.int 218 0,.int 4 0,.ref 342,.int 221 0,.int 4 0,.ref 349,.int 224 0,.int 4 0,.ref 356,.int 229 0,.int 4 0,.ref 363]),#[]⟩
noncomputable def Dj:=g0 kz 673 199 316
noncomputable def Dk:=g1 318 315 pR 646
noncomputable def g21 (x0 x1:Str)(x2:Nat)(P:Params):Obj:=⟨.none,none,(.func ⟨x0,x1,L2.defArgs (L2.inClass (tp 57) x2),(.stmts (L2.defBody (L2.inClass (tp 57) x2))),L2.defScope (L2.inClass (tp 57) x2),0,[],.none,.none,.none,.none,none,.none,.none,0⟩),#[]⟩
noncomputable def Dl:=g21 sn wu 0
noncomputable def Dm:=g19 sn 683 wu 201 3 320
noncomputable def g22 (x0 x1:Str)(x2 x3:Nat)(P:Params):Obj:=⟨(.type Bl),none,(.func ⟨x0,x1,L2.defArgs (L2.inClass (tp 57) x2),(.stmts (L2.defBody (L2.inClass (tp 57) x2))),L2.defScope (L2.inClass (tp 57) x2),3,[],.none,.none,.none,.str pR 646,none,.ref x3,.none,0⟩),#[]⟩
noncomputable def Do:=g22 sn wu 0 323
noncomputable def Dp:=g2 sC 692
noncomputable def Dq:=g21 iq ww 1
noncomputable def Dr:=g4 iq 689 ww 212 1 325 693
noncomputable def Ds:=g22 iq ww 1 330
noncomputable def Du:=g2 sC 699
noncomputable def Dv:=g21 sr wx 2
noncomputable def Dw:=g4 sr 696 wx 215 1 332 700
noncomputable def Dx:=g22 sr wx 2 337
noncomputable def Dy:=g21 pQ wz 3
noncomputable def Dz:=g19 pQ 703 wz 218 1 339
noncomputable def DG:=g22 pQ wz 3 342
noncomputable def DH:=g2 sC 712
noncomputable def DJ:=g21 ss wA 4
noncomputable def DM:=g4 ss 709 wA 221 1 344 713
noncomputable def DN:=g22 ss wA 4 349
noncomputable def DO:=g14 sC 719 rY uw
noncomputable def DQ:=g21 su wB 5
noncomputable def DV:=g4 su 716 wB 224 3 351 722
noncomputable def DX:=g22 su wB 5 356
noncomputable def DY:=g17 sC 728 rY uw AX
noncomputable def DZ:=g21 sv wC 6
noncomputable def Ea:=g4 sv 725 wC 229 3 358 732
noncomputable def Eb:=g22 sv wC 6 363
noncomputable def Ec:=g12 GZ 735 Hh 736
noncomputable def Ed (P:Params):Obj:=⟨(.type L0),none,(.dict #[e P rV 678 (.str pR 646),e P rW 682 (.int 199 681),e P sn 688 (.ref 324),e P iq 695 (.ref 331),e P sr 702 (.ref 338),e P pQ 708 (.ref 343),e P ss 715 (.ref 350),e P su 724 (.ref 357),e P sv 734 (.ref 364),e P rX 737 (.ref 365),e P Bc 739 (.ref 368),e P wn 741 (.ref 369),e P S2 742 .none] 4),#[]⟩
noncomputable abbrev HP:=SL.s11443829558043349243x14
noncomputable def Ee (P:Params):Obj:=⟨(.type L69),none,(.cls ⟨kz,[.type L60],[.ref 367,.type L60],366,kz,true,[],[],false,none,false⟩),#[none,none,some (.str kz 671),some (.str kz 679),some (.builtin HP),some (.bool true)]⟩
noncomputable abbrev HQ:=SL.s6511155373996960695x17
noncomputable abbrev HR:=SL.s12411053484034534018x21
noncomputable def Ef (P:Params):Obj:=⟨(.type Bo),none,(.fields #[.str Bc 738,.ref 367,.builtin HQ,.builtin HR]),#[]⟩
noncomputable def Eg:=g7 740 367
noncomputable def Eh:=g8 367
noncomputable def Ei:=g9 367
noncomputable def Ej:=g18 jC 750 fX fY kA Hi Hj Hk Bb jD
noncomputable def Ek:=g3 pi 59
noncomputable def El:=g4 pi 747 pi 237 4 372 760
noncomputable def Em:=g5 pi 59 Hl 745 377
noncomputable def En:=g12 Bd 768 pS 769
noncomputable def Eo:=g3 pj 61
noncomputable def Ep:=g4 pj 765 pj 251 2 379 770
noncomputable def Er:=g5 pj 61 dv 763 384
noncomputable def Es:=g12 Hm 776 pS 777
noncomputable def Et:=g3 pk 62
noncomputable def Eu:=g4 pk 773 pk 255 2 386 778
noncomputable def Ev:=g5 pk 62 dv 763 391
noncomputable def Ew:=g14 jE 784 Hn Ho
noncomputable def Ex:=g3 pq 63
noncomputable def Ey:=g4 pq 781 pq 257 2 393 787
noncomputable def Ez:=g5 pq 63 dv 763 398
noncomputable def EA:=g12 jE 793 wD 794
noncomputable def EB:=g3 pC 64
noncomputable def EC:=g4 pC 790 pC 264 1 400 795
noncomputable def ED:=g5 pC 64 dv 763 405
noncomputable def EE:=g14 jE 801 uz Hq
noncomputable def EF:=g3 pE 65
noncomputable def EG:=g4 pE 798 pE 267 3 407 804
noncomputable def EH:=g5 pE 65 dv 763 412
noncomputable def EI:=g12 jE 810 wD 811
noncomputable def EJ:=g3 pF 66
noncomputable def EK:=g4 pF 807 pF 271 1 414 812
noncomputable def EL:=g5 pF 66 dv 763 419
noncomputable def EM:=g16 jE 818 uz Hr Hs pS kB kC
noncomputable def EN:=g3 pG 67
noncomputable def EO:=g4 pG 815 pG 274 2 421 825
noncomputable def EQ:=g5 pG 67 dv 763 426
noncomputable def ER:=g15 kD 831 wE Be kB kC
noncomputable def ES:=g3 pH 68
noncomputable def ET:=g4 pH 828 pH 282 3 428 836
noncomputable def EU:=g5 pH 68 dv 763 433
noncomputable def EV:=g17 kD 842 Bf pS wE
noncomputable def EW:=g3 pI 69
noncomputable def EX:=g4 pI 839 pI 285 1 435 846
noncomputable def EY:=g5 pI 69 dv 763 440
noncomputable def EZ:=g15 kD 852 kB kC uA uB
noncomputable def Fa:=g3 pJ 70
noncomputable def Fb:=g4 pJ 849 pJ 292 5 442 857
noncomputable def Fc:=g5 pJ 70 dv 763 447
noncomputable def Fd (P:Params):Obj:=⟨(.type L68),none,(.seq #[.str jE 863,.str kD 864,.str kB 865,.str kC 866,.str wD 867,.str wE 868,.str Be 869,.str Ht 870] 0),#[]⟩
noncomputable def Fe:=g3 pK 71
noncomputable def Ff:=g4 pK 860 pK 296 4 449 871
noncomputable def Fg:=g5 pK 71 dv 763 454
noncomputable def g23 (x0:Nat)(x1 x2 x3 x4 x5 x6 x7:Str)(P:Params):Obj:=⟨(.type L68),none,(.seq #[.str jE x0,.str kD (x0+1),.str kB (x0+2),.str kC (x0+3),.str x1 (x0+4),.str x2 (x0+5),.str uA (x0+6),.str x3 (x0+7),.str x4 (x0+8),.str x5 (x0+9),.str x6 (x0+10),.str x7 (x0+11)] 0),#[]⟩
noncomputable def Fh:=g23 877 Hu Hv Bg uB wF wG wH
noncomputable def Fi:=g3 pL 72
noncomputable def Fj:=g4 pL 874 pL 307 6 456 889
noncomputable def Fk:=g5 pL 72 dv 763 461
noncomputable def Fl:=g13 kD 895 sD uA uB wH Bh
noncomputable def Fm:=g3 pM 73
noncomputable def Fn:=g4 pM 892 pM 318 2 463 901
noncomputable def Fo:=g5 pM 73 dv 763 468
noncomputable def Fp:=g23 907 sD Bg uB wH Bh wF wG
noncomputable def Fq:=g3 pN 74
noncomputable def Fs:=g4 pN 904 pN 325 5 470 919
noncomputable def Ft:=g5 pN 74 dv 763 475
noncomputable def Fu:=g15 Bi 925 kB kC sD Bf
noncomputable def Fv:=g3 pO 75
noncomputable def Fw:=g4 pO 922 pO 337 4 477 930
noncomputable def Fx:=g5 pO 75 dv 763 482
noncomputable def g24 (x0:Str)(x1:Nat)(x2 x3 x4 x5 x6 x7 x8 x9 x10 x11 x12 x13:Str)(P:Params):Obj:=⟨(.type L68),none,(.seq #[.str x0 x1,.str x2 (x1+1),.str x3 (x1+2),.str x4 (x1+3),.str x5 (x1+4),.str x6 (x1+5),.str x7 (x1+6),.str x8 (x1+7),.str x9 (x1+8),.str x10 (x1+9),.str x11 (x1+10),.str x12 (x1+11),.str x13 (x1+12)] 0),#[]⟩
noncomputable def Fy:=g24 jE 936 kD uz HA kB kC sD pS uA HB HC HD HE
noncomputable def Fz:=g3 pP 76
noncomputable def FA:=g4 pP 933 pP 340 4 484 949
noncomputable def FB:=g5 pP 76 dv 763 489
noncomputable def FC:=g24 Bd 955 pS jE uz kD Bi kB kC sD HF HG wG wF
noncomputable def FD:=g3 sj 77
noncomputable def FE:=g4 sj 952 sj 354 1 491 968
noncomputable def FF:=g5 sj 77 dv 763 496
noncomputable def t1:Params->BT:=(f boot_o_0 (f boot_o_1 (f Bp (f boot_o_7 (f o11 (f o31 (f o12 (f o12 (f Cs z z) (f Eo z z)) (f o12 (f Dk z z) (f Fb z z))) (f o35 (f xA (f o11 z z) (f o12 z z)) (f Ca (f o11 z z) (f Fu z z)))) (f o35 (f o79 (f o11 (f o11 z z) (f Ez z z)) (f o11 (f o11 z z) (f o11 z z))) (f o12 (f By (f CZ z z) (f o11 z z)) (f o11 (f Ee z z) (f FD z z))))) (f o23 (f o12 (f o35 (f xg (f o11 z z) (f Eu z z)) (f BL (f Dp z z) (f Fg z z))) (f wL (f Bs (f o11 z z) (f EM z z)) (f Cf (f o12 z z) (f o11 z z)))) (f o55 (f o12 (f o11 (f CJ z z) (f o11 z z)) (f BV (f DG z z) (f o12 z z))) (f o11 (f o11 (f Df z z) (f EW z z)) (f o12 (f o11 z z) z))))) (f o11 (f o19 (f o35 (f o67 (f xc (f o12 z z) (f o12 z z)) (f BJ (f Dm z z) (f Fd z z))) (f o12 (f o12 (f CS z z) (f EK z z)) (f Cc (f DQ z z) (f Fx z z)))) (f o12 (f o35 (f xq (f o11 z z) (f o11 z z)) (f o11 (f o11 z z) (f Fm z z))) (f wS (f o11 (f o12 z z) (f o11 z z)) (f Cl (f Ei z z) z)))) (f o27 (f o43 (f o12 (f xj (f CB z z) (f Ew z z)) (f BO (f Ds z z) (f o11 z z))) (f o35 (f Bu (f o11 z z) (f EQ z z)) (f o11 (f Ea z z) (f o11 z z)))) (f o35 (f o91 (f o11 (f o12 z z) (f EF z z)) (f o12 (f o11 z z) (f Fs z z))) (f wX (f BE (f Dh z z) (f o12 z z)) (f Cq (f o11 z z) z)))))) (f boot_o_5 (f boot_o_9 (f o17 (f o33 (f o65 (f o11 (f Cu z z) (f Er z z)) (f o11 (f o12 z z) (f o11 z z))) (f o97 (f xC (f CP z z) (f o11 z z)) (f o11 (f DO z z) (f Fv z z)))) (f o49 (f o81 (f xn (f CF z z) (f o12 z z)) (f BR (f Dw z z) (f Fl z z))) (f wR (f o12 (f Db z z) (f ET z z)) (f Ck (f Eg z z) (f FF z z))))) (f o11 (f o41 (f o73 (f xh (f Cz z z) (f o11 z z)) (f BM (f Dq z z) (f o12 z z))) (f wN (f o11 (f CV z z) (f EN z z)) (f o12 (f o11 z z) (f FA z z)))) (f o57 (f o89 (f xw (f CL z z) (f EE z z)) (f BX (f o12 z z) (f o11 z z))) (f wW (f BD (f o11 z z) (f EY z z)) (f o11 (f El z z) z))))) (f o13 (f o21 (f o37 (f o69 (f o11 (f Cw z z) (f o11 z z)) (f o11 (f o11 z z) (f Fe z z))) (f wK (f o11 (f o12 z z) (f o11 z z)) (f Cd (f DX z z) (f o12 z z)))) (f o53 (f o85 (f o12 (f CI z z) (f EC z z)) (f BU (f Dy z z) (f Fo z z))) (f wU (f BB (f o11 z z) (f EV z z)) (f Cn (f o12 z z) z)))) (f o11 (f o45 (f o77 (f o12 (f o12 z z) (f Ex z z)) (f o12 (f o12 z z) (f Fj z z))) (f wP (f Bv (f CY z z) (f o12 z z)) (f Ci (f Ec z z) (f FC z z)))) (f o61 (f o93 (f xz (f CN z z) (f EH z z)) (f o11 (f DM z z) (f o11 z z))) (f wZ (f BG (f Di z z) (f o11 z z)) (f o11 (f En z z) z))))))) (f boot_o_2 (f boot_o_4 (f boot_o_8 (f o12 (f o32 (f o64 (f xa (f Ct z z) (f Ep z z)) (f BH (f o11 z z) (f Fc z z))) (f o23 (f xB (f o12 z z) (f EI z z)) (f Cb (f o12 z z) (f o11 z z)))) (f o23 (f o80 (f xm (f CD z z) (f o11 z z)) (f BQ (f Dv z z) (f o12 z z))) (f wQ (f o11 (f Da z z) (f ES z z)) (f o12 (f Ef z z) (f FE z z))))) (f o24 (f o40 (f o23 (f o11 (f o12 z z) (f Ev z z)) (f o11 (f o11 z z) (f o11 z z))) (f wM (f Bt (f CU z z) (f o11 z z)) (f o11 (f DY z z) (f Fz z z)))) (f o56 (f o88 (f xu (f CK z z) (f o12 z z)) (f BW (f o11 z z) (f Fp z z))) (f o12 (f o12 (f Dg z z) (f EX z z)) (f Co (f Ek z z) z))))) (f uW (f o20 (f o23 (f o68 (f xf (f Cv z z) (f Es z z)) (f BK (f Do z z) (f o11 z z))) (f wJ (f Bq (f o11 z z) (f EL z z)) (f o11 (f DV z z) (f o11 z z)))) (f o52 (f o23 (f o11 (f o12 z z) (f EB z z)) (f o12 (f o12 z z) (f Fn z z))) (f wT (f BA (f Dc z z) (f o12 z z)) (f Cm (f o11 z z) z)))) (f o28 (f o44 (f o76 (f o11 (f o11 z z) (f o11 z z)) (f o11 (f o11 z z) (f Fi z z))) (f o23 (f o11 (f o12 z z) (f o11 z z)) (f Ch (f Eb z z) (f o12 z z)))) (f o23 (f o92 (f o12 (f CM z z) (f EG z z)) (f BY (f DJ z z) (f Ft z z))) (f wY (f BF (f o11 z z) (f EZ z z)) (f Cr (f o12 z z) z)))))) (f boot_o_6 (f boot_o_10 (f o11 (f o34 (f o11 (f xb (f o11 z z) (f o11 z z)) (f BI (f Dl z z) (f o12 z z))) (f o11 (f o11 (f CQ z z) (f EJ z z)) (f o12 (f o11 z z) (f Fw z z)))) (f o11 (f o82 (f xo (f CG z z) (f EA z z)) (f BS (f Dx z z) (f o11 z z))) (f o11 (f Bz (f o11 z z) (f EU z z)) (f o11 (f Eh z z) z)))) (f o12 (f o11 (f o11 (f xi (f CA z z) (f o12 z z)) (f BN (f Dr z z) (f Fh z z))) (f wO (f o12 (f CW z z) (f EO z z)) (f Cg (f DZ z z) (f FB z z)))) (f o58 (f o11 (f xy (f o11 z z) (f o11 z z)) (f o11 (f DH z z) (f Fq z z))) (f o11 (f o11 (f o23 z z) (f o11 z z)) (f Cp (f Em z z) z))))) (f o14 (f o22 (f o11 (f o70 (f o12 (f Cy z z) (f Et z z)) (f o12 (f o12 z z) (f Ff z z))) (f o11 (f Br (f CT z z) (f o12 z z)) (f Ce (f o11 z z) (f Fy z z)))) (f o11 (f o11 (f xt (f o11 z z) (f ED z z)) (f o11 (f Dz z z) (f o11 z z))) (f wV (f BC (f De z z) (f o11 z z)) (f o11 (f Ej z z) z)))) (f o30 (f o46 (f o11 (f xk (f CC z z) (f Ey z z)) (f BP (f Du z z) (f Fk z z))) (f o11 (f Bw (f o11 z z) (f ER z z)) (f Cj (f Ed z z) (f o11 z z)))) (f o11 (f o94 (f o11 (f CO z z) (f o11 z z)) (f BZ (f DN z z) (f o12 z z))) (f o11 (f o11 (f Dj z z) (f Fa z z)) (f o12 (f o11 z z) z))))))))
noncomputable abbrev s1 (w:World) (os:OsState):SharedT:=⟨t1 w.params,498,{ },(Array.mk []),⟨0,0,0,0⟩,971,os⟩
noncomputable abbrev p1:Pos:=⟨354,0,370,15⟩
noncomputable abbrev st1:List Stmt:=(pt.main.body.drop 26).take 52
theorem q1 (w:World):(λ os=>segRunT treeTable pt w m0 an 1 1865 (s0 w os) ⟨(execs st1 en).wrap doneF deadEnd id id,cE,p0,B⟩)=λ os=>some (.next,s1 w os,cE,p1):=by
 rw [PySem.W.Fast.te10110043849684766642,PySem.W.Fast.te14364793385576792824,PySem.W.Fast.te12563942051412417395]; kernel_rfl
noncomputable def hF (P:Params):Heap:=⟨⟨[boot_o_0 P,boot_o_1 P,boot_o_2 P,Bp P,boot_o_4 P,boot_o_5 P,boot_o_6 P,boot_o_7 P,boot_o_8 P,boot_o_9 P,boot_o_10 P,o11 P,uW P,o13 P,o14 P,o11 P,o12 P,o17 P,o11 P,o19 P,o20 P,o21 P,o22 P,o23 P,o24 P,o11 P,o12 P,o27 P,o28 P,o11 P,o30 P,o31 P,o32 P,o33 P,o34 P,o35 P,o23 P,o37 P,o11 P,o12 P,o40 P,o41 P,o11 P,o43 P,o44 P,o45 P,o46 P,o35 P,o23 P,o49 P,o11 P,o12 P,o52 P,o53 P,o11 P,o55 P,o56 P,o57 P,o58 P,o35 P,o23 P,o61 P,o11 P,o12 P,o64 P,o65 P,o11 P,o67 P,o68 P,o69 P,o70 P,o35 P,o23 P,o73 P,o11 P,o12 P,o76 P,o77 P,o11 P,o79 P,o80 P,o81 P,o82 P,o35 P,o23 P,o85 P,o11 P,o12 P,o88 P,o89 P,o11 P,o91 P,o92 P,o93 P,o94 P,o35 P,o23 P,o97 P,o11 P,o12 P,wJ P,wK P,o11 P,wL P,wM P,wN P,wO P,o35 P,o23 P,wP P,o11 P,o12 P,wQ P,wR P,o11 P,wS P,wT P,wU P,wV P,o11 P,o12 P,wW P,o11 P,wX P,wY P,wZ P,o11 P,o12 P,xa P,o11 P,xb P,xc P,xf P,o11 P,o12 P,xg P,o11 P,xh P,xi P,xj P,o11 P,o12 P,xk P,o11 P,xm P,xn P,xo P,xq P,o11 P,o12 P,xt P,o11 P,xu P,xw P,xy P,o11 P,o12 P,xz P,o11 P,xA P,xB P,xC P,o11 P,o12 P,Bq P,o11 P,Br P,Bs P,Bt P,o11 P,o12 P,Bu P,o11 P,Bv P,Bw P,By P,o11 P,o12 P,Bz P,o11 P,BA P,BB P,BC P,o11 P,o12 P,BD P,o11 P,BE P,BF P,BG P,o11 P,o12 P,BH P,o11 P,BI P,BJ P,BK P,o11 P,o12 P,BL P,o11 P,BM P,BN P,BO P,o11 P,o12 P,BP P,o11 P,BQ P,BR P,BS P,o11 P,o12 P,BU P,o11 P,BV P,BW P,BX P,o11 P,o12 P,BY P,o11 P,BZ P,Ca P,Cb P,o11 P,o12 P,Cc P,o11 P,Cd P,Ce P,Cf P,o11 P,o12 P,Cg P,o11 P,Ch P,Ci P,Cj P,o11 P,o12 P,Ck P,o11 P,Cl P,Cm P,Cn P,o11 P,o12 P,Co P,o11 P,Cp P,Cq P,Cr P,o11 P,o12 P,Cs P,Ct P,Cu P,o11 P,o12 P,Cv P,Cw P,Cy P,o11 P,o12 P,Cz P,CA P,CB P,o11 P,o12 P,CC P,o11 P,CD P,CF P,CG P,o11 P,o12 P,CI P,o11 P,CJ P,CK P,CL P,o11 P,o12 P,CM P,CN P,CO P,o11 P,o12 P,CP P,CQ P,CS P,o11 P,o12 P,CT P,o11 P,CU P,CV P,CW P,o11 P,o12 P,CY P,o11 P,CZ P,Da P,Db P,o11 P,o12 P,Dc P,o11 P,De P,Df P,Dg P,o11 P,o23 P,Dh P,o11 P,Di P,Dj P,Dk P,o11 P,o12 P,Dl P,Dm P,Do P,o11 P,o12 P,Dp P,o11 P,Dq P,Dr P,Ds P,o11 P,o12 P,Du P,o11 P,Dv P,Dw P,Dx P,o11 P,o12 P,Dy P,Dz P,DG P,o11 P,o12 P,DH P,o11 P,DJ P,DM P,DN P,o11 P,o12 P,DO P,o11 P,DQ P,DV P,DX P,o11 P,o12 P,DY P,o11 P,DZ P,Ea P,Eb P,Ec P,Ed P,Ee P,Ef P,Eg P,Eh P,Ei P,o11 P,o12 P,Ej P,o11 P,Ek P,El P,Em P,o11 P,o12 P,En P,o11 P,Eo P,Ep P,Er P,o11 P,o12 P,Es P,o11 P,Et P,Eu P,Ev P,o11 P,o12 P,Ew P,o11 P,Ex P,Ey P,Ez P,o11 P,o12 P,EA P,o11 P,EB P,EC P,ED P,o11 P,o12 P,EE P,o11 P,EF P,EG P,EH P,o11 P,o12 P,EI P,o11 P,EJ P,EK P,EL P,o11 P,o12 P,EM P,o11 P,EN P,EO P,EQ P,o11 P,o12 P,ER P,o11 P,ES P,ET P,EU P,o11 P,o12 P,EV P,o11 P,EW P,EX P,EY P,o11 P,o12 P,EZ P,o11 P,Fa P,Fb P,Fc P,o11 P,o12 P,Fd P,o11 P,Fe P,Ff P,Fg P,o11 P,o12 P,Fh P,o11 P,Fi P,Fj P,Fk P,o11 P,o12 P,Fl P,o11 P,Fm P,Fn P,Fo P,o11 P,o12 P,Fp P,o11 P,Fq P,Fs P,Ft P,o11 P,o12 P,Fu P,o11 P,Fv P,Fw P,Fx P,o11 P,o12 P,Fy P,o11 P,Fz P,FA P,FB P,o11 P,o12 P,FC P,o11 P,FD P,FE P,FF P]⟩,{ }⟩
noncomputable abbrev sF (w:World) (os:OsState):Shared:=⟨hF w.params,(Array.mk []),⟨0,0,0,0⟩,971,os⟩
theorem fin (w:World):(λ os=>topRun treeTable pt w m0 an 2 (s1 w os).abs ⟨doneF .next,cE,p1,B⟩)=λ os=>some (sF w os):=by
 rw [PySem.W.Fast.te14082659384304107361,PySem.W.Fast.te14364793385576792824]; kernel_rfl
theorem uC:behindTheImports pt=st0 ++ (st1 ++ ([])):=by kernel_rfl
noncomputable abbrev MM:Nat:=12 + (1 + (2000 + (1865 + 2)))
theorem xD (w:World) (os:OsState):topRun treeTable pt w m0 an MM (sZ w os) (topStub pt)=some (sF w os) :=
 go_top (congrFun (pre w) os) (piece_block (congrFun (blk w) os) (uC ▸ (piece_app (l:=st0) (segRun_of (congrFun (q0 w) os)) (piece_app (l:=st1) (segRun_of (congrFun (q1 w) os)) (piece_nil (congrFun (fin w) os))))))
noncomputable def loose:List Str:=[lM,jA,ot,ou,oz,oA,oB,oC,oE,lN,lO,lP,lQ,vY,wc,wf,lR,lS,wg,wj,wk,wm,AO,oF,oG,oH,oI,oJ,oK,oM,AQ,AR,oN,oO,oP,oQ,oR,oS,oT,oU,oV,oW,oX,oY,oZ,pb,AS,AT,pd,pf,kz,pi,pj,pk,pq,pC,pE,pF,pG,pH,pI,pJ,pK,pL,pM,pN,pO,pP]
noncomputable abbrev NN:Nat:=7852
noncomputable abbrev q:Program:=view pt [77]
noncomputable abbrev Xt:Shared->Bool:=λ s=>xlAt q [] s && recOk [] s
theorem size (w:World):((boot_heap w.params).isNs mainGlobals && (Array.mk []:Array GenState).size == 0,(boot_heap w.params).objs.size,(boot_heap w.params).nsMap mainGlobals "__annotations__")=(true,m0,an):=by
 rw [PySem.W.Fast.te8920871248978507458]; kernel_rfl
theorem FG (w:World):(λ os=>((staticsOk (importedModules pt.main.body) (boot_heap w.params) (hF w.params) && namesBound pt (hF w.params) && gensDone (sF w os) && laidKept (boot_heap w.params) (hF w.params)),openSeen q loose (importedModules pt.main.body) Xt true (sF w os),HK.obs (sF w os)))=λ _=>(true,openGood q loose,HK.val w):=by
 rw [PySem.W.Fast.te4187177175401517315,PySem.W.Fast.te5923862056798008813]; kernel_rfl
theorem left:LeftO pt q loose Xt HK.obs HK.val NN true:=LeftO.of_pieces (boot_open (by kernel_rfl) (by decide) (λ s=>rfl)) size xD (by decide) FG
end Hd
open PySem PySem.W PyProof.Rows
set_option maxRecDepth 100000 in
set_option maxHeartbeats 0 in
theorem PySem.Challenge.cw_platecuts_k83_whole_exchanges_keep_telli_holds : PySem.Challenge.rw_platecuts_k83_whole_exchanges_keep_telli.Holds := by
 w_on; o_law
 refine holds_open (q:=view PySem.Challenge.pw_platecuts_k83_whole_exchanges_keep_telli [77]) (loose:=Hd.loose) (Xt:=λ s=>xlAt (view PySem.Challenge.pw_platecuts_k83_whole_exchanges_keep_telli [77]) [] s && recOk [] s) (XP:=XL (view PySem.Challenge.pw_platecuts_k83_whole_exchanges_keep_telli [77]) []) (Yf:=Hook.obs Hd.HK) (Ya:=Hook.val Hd.HK) (YP:=InK Pc.kK) (N:=Hd.NN) ?hl (Hook.of Hd.HK) (Hook.keeps Hd.HK) (λ s e=>xl_of s (Bool.and_eq_true_iff.mp e).1) XL.keeps (by rfl) (by rfl) (by rfl) (λ s e=>recFacts_of (Bool.and_eq_true_iff.mp e).2) (by rfl) (by first | assumption | decide +kernel) (by decide +kernel) ⟨rfl,rfl,rfl,rfl,rfl,by decide +kernel⟩ ?hw ?hc
 case hl=>exact Hd.pt_eq ▸ Hd.left
 case hw=>w_witness2
 k_fill
 refine Pc.walk (l:=PySem.Challenge.rw_platecuts_k83_whole_exchanges_keep_telli) rfl rfl (λ w h YY0=>YY0) ?F
 case F =>
  intro w mg fa h KX G hmg
  refine' Pc.all_mk KX G hmg ?d0 ?d1 ?d2 ?d3 ?d4 ?d5 ?d6 ?d7 ?d8 ?d9 ?d10 ?d11 ?d12 ?d13 ?d14 ?d15 ?d16 ?d17 ?d18 ?d19 ?d20 ?d21 ?d22 ?d23 ?d24 ?d25 ?d26 ?d27 ?d28 ?d29 ?d30 ?d31 ?d32 ?d33 ?d34 ?d35 ?d36 ?d37 ?d38 ?d39 ?d40 ?d41 ?d42 ?d43 ?d44 ?d45 ?d46 ?aC ?dm0 ?dm1 ?dm2 ?dm3 ?dm4 ?pg ?hd ?po ?sa ?mk ?kc ?n0 ?n1 ?eWAYS ?lWAYS ?z0 ?z1 ?z2 ?z3 ?z4 ?z5 ?z6 ?z7 ?z8 ?z9 ?z10 ?z11 ?z12 ?z13 ?z14 ?z15 ?z16 ?z17 ?z18 ?uc0 ?uc1 ?uc2 ?uc3 ?uc4 ?uc5 ?uc6 ?uc7 ?uc8 ?uc9
  (case d0 | d1 | d2 | d3 | d4 | d5 | d6 | d7 | d8 | d9 | d10 | d11 | d12 | d13 | d14 | d15 | d16 | d17 | d18 | d19 | d20 | d21 | d22 | d23 | d24 | d25 | d26 | d27 | d28 | d29 | d30 | d31 | d32 | d33 | d34 | d35 | d36 | d37 | d38 | d39 | d40 | d41 | d42 | d43 | d44 | d45 | d46=>refine' Pc.diM ?a ?l ?c ?k; (case a=>k_is); (case l=>k_is); (case c=>k_is); (case k=>k_is))
  (case aC=>k_is)
  (case dm0 | dm1 | dm2 | dm3 | dm4=>refine' Pc.miM ?a ?i ?l ?c ?k; (case a=>k_is); (case i=>k_is); (case l=>k_is); (case c=>k_is); (case k=>k_is))
  (case pg | hd | po | sa | mk | kc | n0 | n1 | eWAYS=>k_is)
  (case lWAYS=>exact ⟨_,_,_,Y,Y,Y,by decide,.cons ⟨_,Y⟩ (.cons ⟨_,Y⟩ .nil)⟩)
  (case z0 | z1 | z2 | z3 | z4 | z5 | z6 | z7 | z8 | z9 | z10 | z11 | z12 | z13 | z14 | z15 | z16 | z17 | z18 | uc0 | uc1 | uc2 | uc3 | uc4 | uc5 | uc6 | uc7 | uc8 | uc9=>k_is)