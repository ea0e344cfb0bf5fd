import PyProof.Rows.All
import Wide.All
import OpenK.AllK
import Wide.FinOn
import Lean
import PyProof.EqAt
import PyProof.EqKinds
import PyProof.TupleCall
import PyProof.Draws
import PyProof.WalksMore
import PyProof.EnumMake
import PyProof.ReprRoads
import PyProof.Rows.SortWalk
import PyProof.Rows.SumAny
import PyProof.FitsBits
import KE.KSortTup
import KE.KRevIter
import PyProof.FactsAll.dict_1
import PyProof.FactsAll.subtypes_4
import PyProof.FactsAll.subtypes_1
import PyProof.FactsAll.subtypes_2
import PyProof.NeData
import PySem.Challenge.RW_platecuts_k82_whole_trees_of_tellings
theorem zS2:2<=PySem.sizeLine:=by decide
theorem zS5:5<=PySem.sizeLine:=by decide
theorem zS1:1<=PySem.sizeLine:=by decide
theorem zS4:4<=PySem.sizeLine:=by decide
theorem zS3:3<=PySem.sizeLine:=by decide
theorem zS0:0<=PySem.sizeLine:=by decide
theorem Y{α:Sort _}{a:α}:a=a:=rfl
set_option Elab.async false
set_option linter.all false
set_option maxRecDepth 100000
namespace L2
open PySem PySem.Spec PyProof.Rows
abbrev Key:=Sum Int Str
def uO:Key->Value->Bool
 | .inl k,v=>Value.isInt k v
 | .inr x,v=>Value.isStrOf x v
def FQ (w:World):Key->Int
 | .inl k=>hashInt k
 | .inr x=>hashStr w x
theorem bn:∀ {k:Key} {v:Value},uO k v=true->(∃i t,k=Sum.inl i/\v=Value.int i t)\/(∃x t,k=Sum.inr x/\v=Value.str x t)
 | .inl i,v,h=>by
  obtain ⟨t,e⟩:=Value.isInt_shape (k:=i) (v:=v) h
  exact .inl ⟨i,t,Y,e⟩
 | .inr x,v,h=>by
  obtain ⟨t,e⟩:=Value.isStrOf_shape (x:=x) (v:=v) h
  exact .inr ⟨x,t,Y,e⟩
theorem vi (a b:Int):decide ((Sum.inl a:Key)=Sum.inl b)=(a == b):=by
 by_cases e:a=b
 ·subst e; simp
 ·have h:¬ (Sum.inl a:Key)=Sum.inl b:=λ q=>e (Sum.inl.inj q)
  rw [decide_eq_false h]
  exact (beq_eq_false_iff_ne.mpr e).symm
theorem vj (a b:Str):decide ((Sum.inr a:Key)=Sum.inr b)=decide (a=b):=by
 by_cases e:a=b
 ·subst e; simp
 ·have h:¬ (Sum.inr a:Key)=Sum.inr b:=λ q=>e (Sum.inr.inj q)
  rw [decide_eq_false h,decide_eq_false e]
theorem vk (a:Int) (b:Str):decide ((Sum.inl a:Key)=Sum.inr b)=false:=decide_eq_false (λ q=>nomatch q)
theorem vm (a:Str) (b:Int):decide ((Sum.inr a:Key)=Sum.inl b)=false:=decide_eq_false (λ q=>nomatch q)
def iT (prog:Program) (w:World):PySem.KeyKind prog w Key where
 is:=uO
 hash:=FQ w
 inj:=λ v a b ha hb=>by
  rcases bn ha with ⟨i,t,rfl,rfl⟩ | ⟨x,t,rfl,rfl⟩
  ·rcases bn hb with ⟨j,u,rfl,e⟩ | ⟨y,u,rfl,e⟩
   ·injection e with e1 _; rw [e1]
   ·exact nomatch e
  ·rcases bn hb with ⟨j,u,rfl,e⟩ | ⟨y,u,rfl,e⟩
   ·exact nomatch e
   ·injection e with e1 _; rw [e1]
 byValue:=λ k v h=>by
  rcases bn h with ⟨i,t,rfl,rfl⟩ | ⟨x,t,rfl,rfl⟩ <;> rfl
 pyHash:=λ hv h=>by
  rcases bn hv with ⟨i,t,rfl,rfl⟩ | ⟨x,t,rfl,rfl⟩
  ·exact wpAny_pyHash_int h
  ·exact wpAny_pyHash_str h
 eqBool:=λ hu hv h=>by
  rcases bn hu with ⟨i,t,rfl,rfl⟩ | ⟨x,t,rfl,rfl⟩
  ·rcases bn hv with ⟨j,u,rfl,rfl⟩ | ⟨y,u,rfl,rfl⟩
   ·rw [vi] at h; exact wpAny_eqBool_int h
   ·rw [vk] at h; exact SeqAt.EqAt.int_str i t y u _ _ _ _ h
  ·rcases bn hv with ⟨j,u,rfl,rfl⟩ | ⟨y,u,rfl,rfl⟩
   ·rw [vm] at h; exact SeqAt.EqAt.str_int x t j u _ _ _ _ h
   ·rw [vj] at h; exact wpAny_eqBool_str h
 «strs» := λ k x t v h=>by
  rcases bn h with ⟨i,u,rfl,e⟩ | ⟨y,u,rfl,e⟩
  ·exact nomatch e
  ·injection e with e1 _
   subst e1
   cases v <;> rfl
end L2
namespace L2
open PySem PySem.Spec PyProof.Rows
inductive V where
 | non | bl (b:Bool) | int (i:Int) | str (x:Str) | byt (b:Array UInt8) | flt (b:UInt64) | ref (a:Addr) | ty (n:String)
 deriving DecidableEq
def RelV:V->Value->Prop
 | .non,u=>u=Value.none
 | .bl b,u=>u=Value.bool b
 | .int i,u=>∃t,u=Value.int i t
 | .str x,u=>∃t,u=Value.str x t
 | .byt b,u=>∃t,u=Value.bytes b t
 | .flt b,u=>∃t,u=Value.float b t
 | .ref a,u=>u=Value.ref a
 | .ty n,u=>u=Value.type n
abbrev Vals:List V->List Value->Prop:=Paired RelV
theorem Vals.length {xs:List V} {us:List Value} (r:Vals xs us):xs.length=us.length:=Paired.length r
theorem Vals.get:∀ {xs:List V} {us:List Value} {i:Nat} {x:V},Vals xs us->xs[i]? = some x->∃u,us[i]? = some u/\RelV x u
 | _,_,_,_,.nil,e=>by simp at e
 | _,_,0,_,.cons r _,e=>by simp at e; subst e; exact ⟨_,Y,r⟩
 | _,_,i + 1,x,.cons _ t,e=>by
  obtain ⟨u,h1,h2⟩:=Vals.get (i:=i) (x:=x) t (by simpa using e)
  exact ⟨u,by simpa using h1,h2⟩
theorem Vals.set {x:V} {u:Value} (r:RelV x u):∀ {xs:List V} {us:List Value} (i:Nat),Vals xs us->Vals (xs.set i x) (us.set i u)
 | _,_,_,.nil=>.nil
 | _,_,0,.cons _ t=>.cons r t
 | _,_,i + 1,.cons q t=>.cons q (Vals.set r i t)
theorem Vals.append:∀ {xs ys:List V} {us ws:List Value},Vals xs us->Vals ys ws->Vals (xs ++ ys) (us ++ ws)
 | _,_,_,_,.nil,s=>s
 | _,_,_,_,.cons r t,s=>.cons r (Vals.append t s)
theorem Vals.take:∀ {xs:List V} {us:List Value} (n:Nat),Vals xs us->Vals (xs.take n) (us.take n)
 | _,_,0,_=>.nil
 | _,_,_ + 1,.nil=>.nil
 | _,_,n + 1,.cons r t=>.cons r (Vals.take n t)
theorem Vals.drop:∀ {xs:List V} {us:List Value} (n:Nat),Vals xs us->Vals (xs.drop n) (us.drop n)
 | _,_,0,r=>r
 | _,_,_ + 1,.nil=>.nil
 | _,_,n + 1,.cons _ t=>Vals.drop n t
def RelO:Option V->Option Value->Prop
 | some v,some u=>RelV v u
 | none,none=>True
 | _,_=>False
def KV {κ:Type}:List (κ×V)->List (κ×Value)->Prop:=Paired λ (p:κ×V) (q:κ×Value)=>p.1=q.1/\RelV p.2 q.2
def kV:Key->V
 | .inl i=>.int i
 | .inr x=>.str x
inductive HO where
 | lst (xs:List V)
 | tup (xs:List V)
 | dK (kvs:List (Key×V)) | dT (kvs:List (List Key×V))
 | set (S:Int->Bool) (n:Nat)
 | ins (C dx:Addr) (fs:List (Str×V))
 | own (x:Addr)
 | xd (fs:List (Str×V))
 | met (f x:Addr)
 | rng (lo hi:Int)
 | frz (o:Obj) (u:HO)
 | tbl (ps:Array Value)
 | ext (φ:Heap->Prop)
abbrev Hp:=Addr->Option HO
def upd (H:Hp) (a:Addr) (o:HO):Hp:=λ b=>if b=a then some o else H b
theorem af {H:Hp} {a:Addr} {o:HO}:upd H a o a=some o:=by unfold upd; rw [if_pos rfl]
theorem au {H:Hp} {a b:Addr} {o:HO} (h:b≠a):upd H a o b=H b:=by unfold upd; rw [if_neg h]
theorem ap {H:Hp} {a b:Addr} {o:HO} (h:H a=some o) (h':H b=none):a≠b:=by
 intro e; subst e; rw [h] at h'; cases h'
section
variable (P:Program) (w:World)
def ObjOk (H:Hp) (h:Heap) (a:Addr):HO->Prop
 | .lst xs=>xs.length<=sizeLine/\∃ (its:List Value) (n:Nat),Vals xs its/\h.get? a=some { cls:=.type "list",data:=.seq its.toArray n }
 | .tup xs=>xs.length<=sizeLine/\∃its:List Value,Vals xs its/\IsTup h a its.toArray
 | .dK kvs=>kvs.length<=sizeLine/\(a == sysModules)=false/\∃vs,KV kvs vs/\h.DictOf (iT P w) a vs
 | .dT kvs=>kvs.length<=sizeLine/\(a == sysModules)=false/\∃xs:List (List Key×Addr×Value),
   Paired (λ (p:List Key×V) (q:List Key×Addr×Value)=>p.1=q.1/\H q.2.1=some (.tup (p.1.map kV))/\RelV p.2 q.2.2) kvs xs /\
   ∃o es ep,h.get? a=some o/\o.ExactDict/\o.data=.dict es ep/\es.toList=xs.map (entryOfKey (tupleKind (iT P w)))/\(xs.map (·.1)).Nodup
 | .set S n=>h.SetOf (intKind P w) a S n
 | .ins C dx fs=>H dx=some (.own a)/\fs.length<=1000/\dx≠a/\h.get? a=some (PySem.W.instObj C dx) /\
   ∃mA,h.Ns1 dx mA/\(∀f,RelO (fs.lookup f) (mA f))/\PySem.Within mA (fs.map (·.1))
 | .own _=>∃o,h.get? a=some o
 | .xd fs=>∃mA,h.Ns1 a mA/\∀f,RelO (fs.lookup f) (mA f)
 | .rng lo hi=>∃t u v,h.get? a=some { cls:=.type "range",data:=.fields #[.int lo t,.int hi u,.int 1 v] }
 | .frz o u=>h.get? a=some o/\ObjOk H h a u
 | .tbl ps=>h.get? a=some { cls:=.none,data:=.fields ps }
 | .met f x=>h.get? a=some (PySem.W.methodObj (.ref f) (.ref x))
 | .ext φ=>φ h/\(∃o,h.get? a=some o)/\∀h1 h2:Heap,φ h1->(∀o,h1.get? a=some o->h2.get? a=some o)->φ h2
def HOk (H:Hp) (h:Heap):Prop:=∀a o,H a=some o->ObjOk P w H h a o
end
section
variable {P:Program} {w:World} {H H':Hp} {h h':Heap} {a:Addr} {o:HO}
theorem ObjOk.lt (x:ObjOk P w H h a o):a < h.objs.size:=by
 cases o with
 | lst xs=>obtain ⟨_,_,_,_,e⟩:=x; exact Heap.lt_size e
 | tup xs=>obtain ⟨_,_,_,p⟩:=x; exact p.lt
 | dK kvs=>obtain ⟨_,_,_,_,o,_,_,e,_⟩:=x; exact Heap.lt_size e
 | dT kvs=>obtain ⟨_,_,_,_,o,_,_,e,_⟩:=x; exact Heap.lt_size e
 | set S n=>obtain ⟨o,_,_,_,e,_⟩:=x; exact Heap.lt_size e
 | ins C dx fs=>obtain ⟨_,_,_,e,_⟩:=x; exact Heap.lt_size e
 | own y=>obtain ⟨_,e⟩:=x; exact Heap.lt_size e
 | xd fs=>obtain ⟨_,⟨_,_,_,e,_⟩,_⟩:=x; exact Heap.lt_size e
 | rng lo hi=>obtain ⟨_,_,_,e⟩:=x; exact Heap.lt_size e
 | frz ob u=>obtain ⟨e,_⟩:=x; exact Heap.lt_size e
 | tbl ps=>exact Heap.lt_size (show h.get? a=some _ from x)
 | met f y=>exact Heap.lt_size (show h.get? a=some _ from x)
 | ext φ=>obtain ⟨_,⟨_,e⟩,_⟩:=x; exact Heap.lt_size e
theorem Paired.mapP {α β:Type} {F G:α->β->Prop}:∀ {l₁:List α} {l₂:List β},Paired F l₁ l₂->(∀a b,F a b->G a b)->Paired G l₁ l₂
 | _,_,.nil,_=>.nil
 | _,_,.cons r t,f=>.cons (f _ _ r) (Paired.mapP t f)
theorem ObjOk.stay (x:ObjOk P w H h a o) (k:∀b u,(b=a\/H b=some (.own a))->h.get? b=some u->h'.get? b=some u)
  (ho:∀b,H b=some (.own a)->H' b=some (.own a)) (ht:∀b xs,H b=some (.tup xs)->H' b=some (.tup xs)):ObjOk P w H' h' a o:=by
 induction o with
 | lst xs=>obtain ⟨z,its,n,r,e⟩:=x; exact ⟨z,its,n,r,k _ _ (.inl rfl) e⟩
 | tup xs=>obtain ⟨z,its,r,ob,e,c⟩:=x; exact ⟨z,its,r,ob,k _ _ (.inl rfl) e,c⟩
 | dK kvs=>obtain ⟨z,y,vs,r,ob,es,ep,e,c⟩:=x; exact ⟨z,y,vs,r,ob,es,ep,k _ _ (.inl rfl) e,c⟩
 | dT kvs =>
  obtain ⟨z,y,xs,r,ob,es,ep,e,c⟩:=x
  exact ⟨z,y,xs,Paired.mapP r λ p q z=>⟨z.1,ht _ _ z.2.1,z.2.2⟩,ob,es,ep,k _ _ (.inl rfl) e,c⟩
 | set S n=>obtain ⟨ob,es,ep,t,e,c⟩:=x; exact ⟨ob,es,ep,t,k _ _ (.inl rfl) e,c⟩
 | ins C dx fs =>
  obtain ⟨d,z,ne,e,mA,⟨od,es,ep,e2,c⟩,r⟩:=x
  exact ⟨ho _ d,z,ne,k _ _ (.inl rfl) e,mA,⟨od,es,ep,k _ _ (.inr d) e2,c⟩,r⟩
 | own y=>obtain ⟨ob,e⟩:=x; exact ⟨ob,k _ _ (.inl rfl) e⟩
 | xd fs=>obtain ⟨mA,⟨od,es,ep,e,c⟩,r⟩:=x; exact ⟨mA,⟨od,es,ep,k _ _ (.inl rfl) e,c⟩,r⟩
 | rng lo hi=>obtain ⟨t,u,v,e⟩:=x; exact ⟨t,u,v,k _ _ (.inl rfl) e⟩
 | frz ob u ih=>obtain ⟨e,q⟩:=x; exact ⟨k _ _ (.inl rfl) e,ih q⟩
 | tbl ps =>
  have e:h.get? a=some { cls:=.none,data:=.fields ps }:=x
  show h'.get? a=some { cls:=.none,data:=.fields ps }
  exact k a _ (.inl rfl) e
 | met f y =>
  have e:h.get? a=some (PySem.W.methodObj (.ref f) (.ref y)):=x
  show h'.get? a=some (PySem.W.methodObj (.ref f) (.ref y))
  exact k a _ (.inl rfl) e
 | ext φ=>obtain ⟨p,⟨o,e⟩,st⟩:=x; exact ⟨st _ _ p λ o q=>k _ _ (.inl rfl) q,⟨o,k _ _ (.inl rfl) e⟩,st⟩
theorem HOk.lt (x:HOk P w H h) (e:H a=some o):a < h.objs.size:=(x a o e).lt
theorem HOk.fresh (x:HOk P w H h) (e:h.objs.size<=a):H a=none:=by
 cases q:H a with
 | none=>rfl
 | some u=>exact absurd (Nat.lt_of_lt_of_le (x.lt q) e) (Nat.lt_irrefl _)
theorem HOk.kept (x:HOk P w H h) (k:∀b u,h.get? b=some u->h'.get? b=some u):HOk P w H h':=λ a o e =>
 (x a o e).stay (λ b u _ q=>k b u q) (λ _ q=>q) λ _ _ q=>q
theorem HOk.laid (x:HOk P w H h) (k:∀b u,h.get? b=some u->h'.get? b=some u) (hp:h.objs.size<=a) (new:ObjOk P w (upd H a o) h' a o):HOk P w (upd H a o) h':=λ b u e=>by
 have hn:=x.fresh hp
 by_cases hb:b=a
 ·subst hb; rw [af] at e; cases e; exact new
 ·rw [au hb] at e
  exact (x b u e).stay (λ c v _ q=>k c v q) (λ c q=>by rw [au (ap q hn)]; exact q) λ c xs q=>by rw [au (ap q hn)]; exact q
end
def Rd (H:Hp) (a:Addr) (u:HO):Prop:=H a=some u\/∃o,H a=some (.frz o u)
theorem Rd.ok {P:Program} {w:World} {H:Hp} {h:Heap} {a:Addr} {u:HO} (r:Rd H a u) (x:HOk P w H h):ObjOk P w H h a u:=by
 rcases r with r | ⟨o,r⟩
 ·exact x a u r
 ·obtain ⟨_,q⟩:=x a _ r
  exact q
def Mut:Option HO->Prop
 | some (.lst _)=>True
 | some (.dK _)=>True
 | some (.dT _)=>True
 | some (.set _ _)=>True
 | some (.ins _ _ _)=>True
 | some (.ext _)=>True
 | _=>False
section
variable {P:Program} {w:World} {H:Hp} {h h':Heap} {x e:Addr} {o':HO}
theorem HOk.write (ok:HOk P w H h) (mu:Mut (H x)) (he:e=x\/H e=some (.own x)) (k:∀b u,b≠e->h.get? b=some u->h'.get? b=some u) (heo:∃u,h'.get? e=some u)
  (new:ObjOk P w (upd H x o') h' x o'):HOk P w (upd H x o') h':=λ b u q=>by
 have nown:∀c y,H c=some (.own y)->c≠x:=λ c y r z=>by subst z; rw [r] at mu; exact mu
 have ntup:∀c xs,H c=some (.tup xs)->c≠x:=λ c xs r z=>by subst z; rw [r] at mu; exact mu
 by_cases hb:b=x
 ·subst hb; rw [af] at q; cases q; exact new
 ·rw [au hb] at q
  by_cases hbe:b=e
  ·have q':H b=some (.own x):=by
    rcases he with z | z
    ·exact absurd (hbe.trans z) hb
    ·rw [hbe]; exact z
   rw [q] at q'; cases q'
   obtain ⟨v,hv⟩:=heo
   exact ⟨v,by rw [hbe]; exact hv⟩
  ·refine (ok b u q).stay (λ c v hc r=>k c v ?_ r) (λ c r=>by rw [au (nown c b r)]; exact r) λ c xs r=>by rw [au (ntup c xs r)]; exact r
   rcases hc with rfl | hc
   ·exact hbe
   ·rintro rfl
    rcases he with z | z
    ·exact nown c b hc z
    ·rw [hc] at z; cases z; exact hb rfl
end
structure Un (fs ex:List Addr) (H H':Hp) (h h':Heap):Prop where
 keep:∀b o,h.get? b=some o->H b=none->b∉fs->b∉ex->h'.get? b=some o
 slot:∀b o,h.get? b=some o->H b=none->b∈fs->b∉ex->∃sl,h'.get? b=some { o with slots:=sl }
 free:∀b o,h.get? b=some o->H b=none->b∉ex->H' b=none
 there:∀b o,h.get? b=some o->b∉ex->∃o',h'.get? b=some o'
 tups:∀b xs,H b=some (.tup xs)->H' b=some (.tup xs)
 frzs:∀b o u,H b=some (.frz o u)->H' b=some (.frz o u)
 tbls:∀b ps,H b=some (.tbl ps)->∃more,H' b=some (.tbl (ps ++ more))
section
variable {fs fs' ex ex':List Addr} {H H1 H2:Hp} {h h1 h2 h':Heap} {a x e:Addr} {o:HO}
theorem Un.any (u:Un fs ex H H1 h h1) {b:Addr} {ob:Obj} (q:h.get? b=some ob) (n:H b=none) (hx:b∉ex):∃sl,h1.get? b=some { ob with slots:=sl }:=by
 by_cases hb:b∈fs
 ·exact u.slot b ob q n hb hx
 ·exact ⟨ob.slots,u.keep b ob q n hb hx⟩
theorem Un.kept (k:∀b u,h.get? b=some u->h'.get? b=some u):Un fs ex H H h h' :=
 ⟨λ b ob q _ _ _=>k b ob q,λ b ob q _ _ _=>⟨ob.slots,k b ob q⟩,λ _ _ _ n _=>n,λ b ob q _=>⟨ob,k b ob q⟩,λ _ _ q=>q,λ _ _ _ q=>q,λ _ ps q=>⟨#[],by rw [q]; simp⟩⟩
theorem Un.refl:Un fs ex H H h h:=Un.kept λ _ _ q=>q
theorem Un.laid (k:∀b u,h.get? b=some u->h'.get? b=some u) (hp:h.objs.size<=a) (hn:H a=none):Un fs ex H (upd H a o) h h' where
 keep:=λ b u q _ _ _=>k b u q
 slot:=λ b u q _ _ _=>⟨u.slots,k b u q⟩
 free:=λ b u q n _=>by rw [au (Nat.ne_of_lt (Nat.lt_of_lt_of_le (Heap.lt_size q) hp))]; exact n
 there:=λ b u q _=>⟨u,k b u q⟩
 tups:=λ b xs q=>by rw [au (ap q hn)]; exact q
 frzs:=λ b u xs q=>by rw [au (ap q hn)]; exact q
 tbls:=λ b ps q=>⟨#[],by rw [au (ap q hn),q]; simp⟩
theorem Un.write (mu:Mut (H x)) (he:e=x\/H e=some (.own x)) (k:∀b u,b≠e->h.get? b=some u->h'.get? b=some u) (heo:∃u,h'.get? e=some u):Un fs ex H (upd H x o) h h':=by
 have hx:∀b,H b=none->b≠x:=λ b n z=>by subst z; rw [n] at mu; exact mu
 have hb:∀b,H b=none->b≠e:=λ b n z=>by
  subst z
  rcases he with r | r
  ·exact hx b n r
  ·rw [n] at r; cases r
 have hm:∀b u,H b=some u->¬ Mut (some u)->b≠x:=λ b u q nm z=>by subst z; rw [q] at mu; exact nm mu
 refine ⟨λ b u q n _ _=>k b u (hb b n) q,λ b u q n _ _=>⟨u.slots,k b u (hb b n) q⟩,λ b u q n _=>by rw [au (hx b n)]; exact n,λ b u q _=>?_,
  λ b xs q=>by rw [au (hm b _ q λ z=>z)]; exact q,λ b u xs q=>by rw [au (hm b _ q λ z=>z)]; exact q,λ b ps q=>⟨#[],by rw [au (hm b _ q λ z=>z),q]; simp⟩⟩
 by_cases hbe:b=e
 ·subst hbe; exact heo
 ·exact ⟨u,k b u hbe q⟩
end
def trk (h:Heap) (H:Hp):List Addr:=(List.range h.objs.size).filter λ a=>(H a).isSome
def iU (h:Heap) (H:Hp):Heap:=PySem.W.hideAll h (trk h H)
theorem nv (h:Heap) (H:Hp):(iU h H).objs.size=h.objs.size:=PySem.W.hideAll_size _ _
theorem qe {h:Heap} {H:Hp} {b:Addr} {o:Obj} (e:h.get? b=some o) (n:H b=none):(iU h H).get? b=some o :=
 PySem.W.hideAll_get _ e λ hm=>by
  have q:(H b).isSome=true:=(List.mem_filter.mp hm).2
  rw [n] at q; simp at q
theorem sX {h:Heap} {H:Hp} {b:Addr} {o:Obj} (e:(iU h H).get? b=some o):h.get? b=some o/\H b=none:=by
 have e':h.get? b=some o:=PySem.W.of_hideAll (trk h H) e
 refine ⟨e',?_⟩
 cases q:H b with
 | none=>rfl
 | some x =>
  have hm:b∈trk h H:=List.mem_filter.mpr ⟨List.mem_range.mpr (Heap.lt_size e'),by simp [q]⟩
  have z:(iU h H).get? b=none:=PySem.W.hideAll_none (trk h H) hm
  rw [z] at e; cases e
def sY (g h:Heap) (L:Addr):List (Addr×Obj):=(List.range h.objs.size).filterMap λ a=>if a=L\/(g.get? a).isSome=true then none else (h.get? a).map λ o=>(a,o)
def rest (g h:Heap) (L d:Addr):List (Addr×Obj):=(sY g h L).filter λ p=>decide (p.1≠d)
end L2
namespace L2
open PySem PySem.Spec PyProof.Rows
structure Mod (K:PySem.W.Frag) (mg:Str->Option Value) (base:Heap):Prop where
 kin:K.In base
 glob:base.Ns mainGlobals mg
 blt:∃mb,base.Ns builtinsNs mb/\∀x:Str,x ≠ "__name__" -> mb x=bootBuiltins x
 nolimit:base.NoLimit
/-- the context: a def's body (or a comprehension's block) running. base: fixed through the aY law; s₀,H₀: the entry; outer: the frames whose slots others may change (a def's callers); stack: all frames that run;
   ex: iterators that were made ahead of the entry and are walked here (a comprehension's); fn: the names whose cells were made at the entry (a def: all; a comprehension's block: its own); calm: not within an except suite; pn: pins that every state bears; xe: what is wanted of an exception that leaves the code -/
structure Cx where
 prog:Program
 w:World
 K:PySem.W.Frag
 mg:Str->Option Value
 base:Heap
 A:Around
 N:List Str
 s₀:Shared
 H₀:Hp
 env:Env
 outer:List Env
 stack:List Env
 ex:List Addr
 fn:Str->Bool
 calm:Bool
 pn:List (Addr×Obj)
 xe:Value->Shared->Prop
def frs (l:List Env):List Addr:=l.filterMap (·.frame)
abbrev Cx.fs (X:Cx):List Addr:=frs X.outer
def Vis (sc:Scope) (x:Str):Prop:=sc.names.lookup x=some .local\/sc.names.lookup x=some .cell\/sc.names.lookup x=some .free
def Loc (sc:Scope) (x:Str):Prop:=sc.names.lookup x=some .local\/sc.names.lookup x=some .cell
def FR (env:Env) (h:Heap) (m:Str->Option Value) (x:Str) (u:Value):Prop :=
 (env.kindOf x=some .local/\m x=some u)\/((env.kindOf x=some .cell\/env.kindOf x=some .free)/\∃c,env.cells.lookup x=some c/\h.IsCell c (some u))
structure Cx.Ok (X:Cx):Prop where
 mod:Mod X.K X.mg X.base
 kind:X.env.scope.kind=.function
 glob:X.env.globals=mainGlobals
 blt:X.env.builtins=builtinsNs
 above:X.s₀.heap.objs.size<=X.env.locals
 inj:∀x y c,X.env.cells.lookup x=some c->X.env.cells.lookup y=some c->x=y
 has:∀x,(X.env.kindOf x=some .cell\/X.env.kindOf x=some .free)->∃c,X.env.cells.lookup x=some c
 cab:∀x c,X.fn x=true->X.env.cells.lookup x=some c->X.s₀.heap.objs.size<=c
 hd:X.calm=true->X.A.handled=none
 frames:X.A.frames=some X.stack
 stk:X.stack=X.outer\/(X.stack=X.env :: X.outer/\X.env.frame=some X.env.locals)
 exf:∀b∈X.ex,b≠X.env.locals/\∀x c,X.env.cells.lookup x=some c->c≠b
 bs:∀b o,X.base.get? b=some o->X.s₀.heap.get? b=some o/\X.H₀ b=none
 bsz:X.base.objs.size<=X.s₀.heap.objs.size
 noex:∀b o,X.base.get? b=some o->b∉X.ex
 exfs:∀b∈X.ex,b∉X.fs
 funs:X.s₀.heap.FunFrames X.base X.outer
 frf:∀b∈X.fs,X.H₀ b=none
structure Inv (X:Cx) (pins:List (Addr×Obj)) (σ:List (Option V)) (H:Hp) (s:Shared):Prop where
 ok:X.Ok
 os:s.os=X.s₀.os
 bare:AllBare s.gens
 base:Un X.fs X.ex X.H₀ H X.s₀.heap s.heap
 loc:∃m,s.heap.Ns X.env.locals m/\∀ (i:Nat) (x:Str) (v:V),X.N[i]? = some x->σ[i]? = some (some v)->Vis X.env.scope x->∃u,RelV v u/\FR X.env s.heap m x u
 cell:∀x c,X.env.cells.lookup x=some c->∃v,s.heap.IsCell c v
 free:H X.env.locals=none
 freeC:∀x c,X.env.cells.lookup x=some c->H c=none
 pin:∀p∈X.pn ++ pins,s.heap.get? p.1=some p.2/\H p.1=none/\p.1≠X.env.locals/\p.1∉X.fs/\∀v,p.2.data≠.cell v
 hok:HOk X.prog X.w H s.heap
 len:σ.length=X.N.length
section
variable {X:Cx} {pins:List (Addr×Obj)} {σ:List (Option V)} {H H':Hp} {s:Shared} {h':Heap}
theorem Cx.Ok.nofr (ok:X.Ok) {b:Addr} {o:Obj} (e:X.base.get? b=some o):b∉X.fs:=λ hb=>by
 have:=(ok.funs.mem hb).1
 rw [e] at this; cases this
theorem Inv.bs (I:Inv X pins σ H s):∀b o,X.base.get? b=some o->s.heap.get? b=some o/\H b=none:=λ b o e =>
 ⟨I.base.keep b o (I.ok.bs b o e).1 (I.ok.bs b o e).2 (I.ok.nofr e) (I.ok.noex b o e),I.base.free b o (I.ok.bs b o e).1 (I.ok.bs b o e).2 (I.ok.noex b o e)⟩
theorem Inv.bk (I:Inv X pins σ H s):∀b o,X.base.get? b=some o->s.heap.get? b=some o:=λ b o e=>(I.bs b o e).1
theorem Inv.mod (I:Inv X pins σ H s):Mod X.K X.mg X.base:=I.ok.mod
theorem Inv.kIn (I:Inv X pins σ H s):X.K.In s.heap:=I.ok.mod.kin.keeps I.bk
theorem Inv.fr (I:Inv X pins σ H s):∃m,Fr X.base X.env.locals s.heap m :=
 let ⟨m,hn,_⟩:=I.loc
 ⟨m,hn,I.bk,Nat.le_trans I.ok.bsz I.ok.above⟩
theorem Inv.lt (I:Inv X pins σ H s):X.env.locals < s.heap.objs.size:=let ⟨_,hn,_⟩:=I.loc; hn.lt
theorem Inv.sz (I:Inv X pins σ H s):X.s₀.heap.objs.size<=s.heap.objs.size:=Nat.le_trans I.ok.above (Nat.le_of_lt I.lt)
theorem Inv.nofs (I:Inv X pins σ H s) {a:Addr} (h:s.heap.objs.size<=a):a∉X.fs:=λ hb=>by
 obtain ⟨_,o,ho,_⟩:=I.ok.funs.mem hb
 exact absurd (Nat.lt_of_lt_of_le (Heap.lt_size ho) (Nat.le_trans I.sz h)) (Nat.lt_irrefl _)
theorem Inv.cne (I:Inv X pins σ H s):∀x c,X.env.cells.lookup x=some c->c≠X.env.locals:=λ x c e z=>by
 obtain ⟨v,o,ho,hd⟩:=I.cell x c e
 obtain ⟨m,⟨o',es,ep,ho',hd',_⟩,_⟩:=I.loc
 rw [z,ho'] at ho; cases ho; rw [hd'] at hd; cases hd
theorem Inv.funs (I:Inv X pins σ H s):s.heap.FunFrames X.base X.outer:=by
 have all:∀ (l:List Env),(∀b∈frs l,b∈X.fs)->X.s₀.heap.FunFrames X.base l->s.heap.FunFrames X.base l:=by
  intro l
  induction l with
  | nil=>intro _ _; trivial
  | cons env r ih =>
   intro hs hl
   obtain ⟨hk,⟨L,o,hf,hn,ho,hd⟩,hr⟩:=hl
   have hL:L∈X.fs:=hs L (by unfold frs; rw [List.filterMap_cons,hf]; exact List.mem_cons_self)
   obtain ⟨sl,e⟩:=I.base.slot L o ho (I.ok.frf L hL) hL λ z=>I.ok.exfs L z hL
   exact ⟨hk,⟨L,_,hf,hn,e,hd⟩,ih (λ b hb=>hs b (by unfold frs; rw [List.filterMap_cons,hf]; exact List.mem_cons_of_mem _ hb)) hr⟩
 exact all X.outer (λ _ hb=>hb) I.ok.funs
theorem Inv.stack (I:Inv X pins σ H s):s.heap.FunFrames X.base X.stack:=by
 rcases I.ok.stk with e | ⟨e,hf⟩
 ·rw [e]; exact I.funs
 ·rw [e]
  obtain ⟨m,hn,_⟩:=I.loc
  refine .cons (by rw [I.ok.kind]; decide) hf hn ?_ I.funs
  exact Heap.get?_none_of_le (Nat.le_trans I.ok.bsz I.ok.above)
theorem Inv.stkSub (I:Inv X pins σ H s):∀b∈frs X.stack,b∈X.env.locals :: X.fs:=λ b hb=>by
 rcases I.ok.stk with e | ⟨e,hf⟩
 ·rw [e] at hb; exact List.mem_cons_of_mem _ hb
 ·rw [e] at hb
  unfold frs at hb
  rw [List.filterMap_cons,hf] at hb
  exact hb
theorem Inv.stkFree (I:Inv X pins σ H s):∀b∈frs X.stack,H b=none:=λ b hb=>by
 rcases List.mem_cons.mp (I.stkSub b hb) with e | hb
 ·rw [e]; exact I.free
 ·obtain ⟨_,o,ho,_⟩:=I.ok.funs.mem hb
  exact I.base.free b o ho (I.ok.frf b hb) λ z=>I.ok.exfs b z hb
theorem Inv.step {g':Array GenState} {t':Nat} {d':Drawn} {ch:List Addr} (I:Inv X pins σ H s)
  (hch:∀b∈ch,(b∈X.ex\/X.s₀.heap.objs.size<=b)/\b≠X.env.locals/\(∀x c,X.env.cells.lookup x=some c->c≠b)/\∀p∈X.pn ++ pins,p.1≠b)
  (keep:∀b o,b≠X.env.locals->b∉X.fs->b∉ch->s.heap.get? b=some o->H b=none->h'.get? b=some o)
  (slot:∀b o,b≠X.env.locals->b∈X.fs->b∉ch->s.heap.get? b=some o->H b=none->∃sl,h'.get? b=some { o with slots:=sl }) (free:∀b o,b∉ch->s.heap.get? b=some o->H b=none->H' b=none)
  (there:∀b o,b∉ch->s.heap.get? b=some o->∃o',h'.get? b=some o')
  (tups:∀b xs,H b=some (.tup xs)->H' b=some (.tup xs)) (frzs:∀b o u,H b=some (.frz o u)->H' b=some (.frz o u)) (tbls:∀b ps,H b=some (.tbl ps)->∃more,H' b=some (.tbl (ps ++ more)))
  (ns:∀m,s.heap.Ns X.env.locals m->h'.Ns X.env.locals m) (hok:HOk X.prog X.w H' h') (hg:AllBare g') :
  Inv X pins σ H' { s with heap:=h',gens:=g',drawn:=d',toks:=t' }:=by
 have neL:∀b o,X.s₀.heap.get? b=some o->b≠X.env.locals:=λ b o e=>Nat.ne_of_lt (Nat.lt_of_lt_of_le (Heap.lt_size e) I.ok.above)
 have neC:∀b o,X.s₀.heap.get? b=some o->b∉X.ex->b∉ch:=λ b o e hx hb=>by
  rcases (hch b hb).1 with z | z
  ·exact hx z
  ·exact absurd (Nat.lt_of_lt_of_le (Heap.lt_size e) z) (Nat.lt_irrefl _)
 have cellK:∀x c,X.env.cells.lookup x=some c->∀v,s.heap.IsCell c v->h'.IsCell c v:=λ x c e v ⟨o,ho,hd⟩=>by
  have nch:c∉ch:=λ z=>(hch c z).2.2.1 x c e rfl
  by_cases hc:c∈X.fs
  ·obtain ⟨sl,q⟩:=slot c o (I.cne x c e) hc nch ho (I.freeC x c e)
   exact ⟨_,q,hd⟩
  ·exact ⟨o,keep c o (I.cne x c e) hc nch ho (I.freeC x c e),hd⟩
 refine ⟨I.ok,I.os,hg,⟨λ b o e n hb hx=>?_,λ b o e n hb hx=>?_,λ b o e n hx=>?_,λ b o e hx=>?_,λ b xs e=>tups b xs (I.base.tups b xs e),λ b o xs e=>frzs b o xs (I.base.frzs b o xs e),λ b ps e=>?_⟩,?_,λ x c e=>?_,?_,λ x c e=>?_,λ p hp=>?_,hok,I.len⟩
 ·exact keep b o (neL b o e) hb (neC b o e hx) (I.base.keep b o e n hb hx) (I.base.free b o e n hx)
 ·obtain ⟨sl,e1⟩:=I.base.slot b o e n hb hx
  obtain ⟨sl',e2⟩:=slot b _ (neL b o e) hb (neC b o e hx) e1 (I.base.free b o e n hx)
  exact ⟨sl',e2⟩
 ·obtain ⟨o',e1⟩:=I.base.there b o e hx
  exact free b o' (neC b o e hx) e1 (I.base.free b o e n hx)
 ·obtain ⟨o',e1⟩:=I.base.there b o e hx
  exact there b o' (neC b o e hx) e1
 ·obtain ⟨m1,e1⟩:=I.base.tbls b ps e
  obtain ⟨m2,e2⟩:=tbls b _ e1
  exact ⟨m1 ++ m2,by rw [e2,Array.append_assoc]⟩
 ·obtain ⟨m,hn,hl⟩:=I.loc
  refine ⟨m,ns m hn,λ i x v e1 e2 e3=>?_⟩
  obtain ⟨u,r,l⟩:=hl i x v e1 e2 e3
  refine ⟨u,r,?_⟩
  rcases l with l | ⟨k,c,e,z⟩
  ·exact .inl l
  ·exact .inr ⟨k,c,e,cellK x c e _ z⟩
 ·obtain ⟨v,z⟩:=I.cell x c e
  exact ⟨v,cellK x c e v z⟩
 ·obtain ⟨m,⟨o,_,_,ho,_⟩,_⟩:=I.loc
  exact free _ o (λ z=>(hch _ z).2.1 rfl) ho I.free
 ·obtain ⟨v,o,ho,hd⟩:=I.cell x c e
  exact free c o (λ z=>(hch c z).2.2.1 x c e rfl) ho (I.freeC x c e)
 ·obtain ⟨e,n,ne,nf,d⟩:=I.pin p hp
  have nch:p.1∉ch:=λ z=>(hch p.1 z).2.2.2 p hp rfl
  exact ⟨keep p.1 p.2 ne nf nch e n,free p.1 p.2 nch e n,ne,nf,d⟩
theorem Inv.un {t':Nat} (I:Inv X pins σ H s) (u:Un X.fs [] H H' s.heap h') (hok:HOk X.prog X.w H' h'):Inv X pins σ H' { s with heap:=h',toks:=t' }:=by
 obtain ⟨m,⟨o,es,ep,ho,r⟩,_⟩:=id I.loc
 obtain ⟨sl,hL⟩:=u.any ho I.free (by simp)
 exact I.step (g':=s.gens) (d':=s.drawn) (ch:=[]) (λ _ z=>nomatch z) (λ b o _ hb _ e n=>u.keep b o e n hb (by simp)) (λ b o _ hb _ e n=>u.slot b o e n hb (by simp)) (λ b o _ e n=>u.free b o e n (by simp)) (λ b o _ e=>u.there b o e (by simp)) u.tups u.frzs u.tbls (λ m' hm=>by
  obtain ⟨o',es',ep',ho',r'⟩:=hm
  rw [ho] at ho'; cases ho'
  exact ⟨_,es',ep',hL,r'⟩) hok I.bare
theorem Inv.call {g':Array GenState} {t':Nat} {d':Drawn} {ch:List Addr} (I:Inv X pins σ H s) (u:Un (frs X.stack) ch H H' s.heap h') (hok:HOk X.prog X.w H' h') (hg:AllBare g')
  (hch:∀b∈ch,(b∈X.ex\/X.s₀.heap.objs.size<=b)/\b≠X.env.locals/\(∀x c,X.env.cells.lookup x=some c->c≠b)/\∀p∈X.pn ++ pins,p.1≠b) :
  Inv X pins σ H' { s with heap:=h',gens:=g',drawn:=d',toks:=t' }:=by
 obtain ⟨m,⟨o,es,ep,ho,r⟩,_⟩:=id I.loc
 obtain ⟨sl,hL⟩:=u.any ho I.free λ z=>(hch _ z).2.1 rfl
 exact I.step (ch:=ch) hch (λ b o hL hb hc e n=>u.keep b o e n (λ z=>(List.mem_cons.mp (I.stkSub b z)).elim hL hb) hc) (λ b o _ _ hc e n=>u.any e n hc) (λ b o hc e n=>u.free b o e n hc) (λ b o hc e=>u.there b o e hc) u.tups u.frzs u.tbls (λ m' hm=>by
  obtain ⟨o',es',ep',ho',r'⟩:=hm
  rw [ho] at ho'; cases ho'
  exact ⟨_,es',ep',hL,r'⟩) hok hg
theorem Inv.turned {t':Nat} {it:Addr} (I:Inv X pins σ H s) (k:∀b o,b≠it->s.heap.get? b=some o->h'.get? b=some o) (hn:H it=none) (hL:it≠X.env.locals)
  (h1:it∈X.ex\/X.s₀.heap.objs.size<=it) (h2:∀x c,X.env.cells.lookup x=some c->c≠it) (h3:∀p∈X.pn ++ pins,p.1≠it):Inv X pins σ H { s with heap:=h',toks:=t' }:=by
 have nit:∀b u,H b=some u->b≠it:=λ b u e z=>by rw [z,hn] at e; cases e
 refine I.step (g':=s.gens) (d':=s.drawn) (ch:=[it]) (λ b hb=>?_) (λ b o _ _ hc e _=>k b o (λ z=>hc (by simp [z])) e) (λ b o _ _ hc e _=>⟨o.slots,k b o (λ z=>hc (by simp [z])) e⟩) (λ _ _ _ _ n=>n)
  (λ b o hc e=>⟨o,k b o (λ z=>hc (by simp [z])) e⟩) (λ _ _ e=>e) (λ _ _ _ e=>e) (λ b ps e=>⟨#[],by rw [e]; simp⟩) (λ m hm=>?_) (λ b u e=>?_) I.bare
 ·have e:b=it:=by simpa using hb
  subst e
  exact ⟨h1,hL,h2,h3⟩
 ·obtain ⟨o,es,ep,ho,r⟩:=hm
  exact ⟨o,es,ep,k _ o (Ne.symm hL) ho,r⟩
 ·refine (I.hok b u e).stay (λ c v hc q=>k c v ?_ q) (λ _ q=>q) λ _ _ q=>q
  rcases hc with z | z
  ·rw [z]; exact nit b u e
  ·exact nit c _ z
theorem Inv.tok (I:Inv X pins σ H s) (t:Nat):Inv X pins σ H { s with toks:=t }:=I.un (h':=s.heap) (t':=t) Un.refl I.hok
theorem Inv.kept {t':Nat} (I:Inv X pins σ H s) (k:∀b u,s.heap.get? b=some u->h'.get? b=some u):Inv X pins σ H { s with heap:=h',toks:=t' }:=I.un (Un.kept k) (I.hok.kept k)
theorem Inv.laid {a:Addr} {o:HO} {t':Nat} (I:Inv X pins σ H s) (k:∀b u,s.heap.get? b=some u->h'.get? b=some u) (hp:s.heap.objs.size<=a) (new:ObjOk X.prog X.w (upd H a o) h' a o) :
  Inv X pins σ (upd H a o) { s with heap:=h',toks:=t' }:=I.un (Un.laid k hp (I.hok.fresh hp)) (I.hok.laid k hp new)
theorem Inv.write {x e:Addr} {o:HO} {t':Nat} (I:Inv X pins σ H s) (mu:Mut (H x)) (he:e=x\/H e=some (.own x)) (k:∀b u,b≠e->s.heap.get? b=some u->h'.get? b=some u) (heo:∃u,h'.get? e=some u)
  (new:ObjOk X.prog X.w (upd H x o) h' x o):Inv X pins σ (upd H x o) { s with heap:=h',toks:=t' }:=I.un (Un.write mu he k heo) (I.hok.write mu he k heo new)
theorem Inv.weak {σ':List (Option V)} (I:Inv X pins σ H s) (hl:σ'.length=σ.length) (w:∀ (i:Nat) v,σ'[i]? = some (some v)->σ[i]? = some (some v)):Inv X pins σ' H s :=
 ⟨I.ok,I.os,I.bare,I.base,let ⟨m,hn,hl'⟩:=I.loc; ⟨m,hn,λ i x v e1 e2 e3=>hl' i x v e1 (w i v e2) e3⟩,I.cell,I.free,I.freeC,I.pin,I.hok,hl.trans I.len⟩
theorem Inv.pins_of {pins':List (Addr×Obj)} (I:Inv X pins σ H s) (h:∀p∈pins',s.heap.get? p.1=some p.2/\H p.1=none/\p.1≠X.env.locals/\p.1∉X.fs/\∀v,p.2.data≠.cell v):Inv X pins' σ H s :=
 ⟨I.ok,I.os,I.bare,I.base,I.loc,I.cell,I.free,I.freeC,λ p hp=>(List.mem_append.mp hp).elim (λ z=>I.pin p (List.mem_append_left _ z)) (h p),I.hok,I.len⟩
theorem jP {N:List Str} (hN:N.Nodup) {i j:Nat} {x:Str} (a:N[i]? = some x) (b:N[j]? = some x):i=j:=by
 obtain ⟨h1,e1⟩:=List.getElem?_eq_some_iff.mp a
 obtain ⟨h2,e2⟩:=List.getElem?_eq_some_iff.mp b
 exact (List.getElem_inj hN).mp (e1.trans e2.symm)
theorem ip {M:Model} {A:Around} {E:Value->Shared->Prop} {i:Nat} {x:Str} {v:V} {u:Value} {Q:Unit->Shared->Prop} (I:Inv X pins σ H s) (hN:X.N.Nodup) (hi:X.N[i]? = some x) (hx:Loc X.env.scope x) (r:RelV v u)
  (h:∀s',Inv X pins (σ.set i (some v)) H s'->(∃a,Heap.SameBut a s.heap s'.heap/\(a=X.env.locals\/X.env.cells.lookup x=some a))->Q () s') (hf:X.fn x=true\/X.env.scope.names.lookup x=some .local:=by first | exact .inl rfl | exact .inr rfl | assumption):wpAny M A (storeName X.env x u) Q E s:=by
 obtain ⟨m,hn,hl⟩:=id I.loc
 have hcls:(X.env.scope.kind == .class || (X.env.scope.kind == .module && X.env.locals != X.env.globals))=false:=by rw [I.ok.kind]; rfl
 have hiσ:i < σ.length:=by rw [I.len]; exact (List.getElem?_eq_some_iff.mp hi).1
 have cne:=I.cne
 have tracked:∀ {a:Addr} {h':Heap},(∃o,s.heap.get? a=some o/\H a=none)->Heap.SameBut a s.heap h'->HOk X.prog X.w H h':=λ {a h'} ha hs b ob e=>by
  obtain ⟨_,_,hfree⟩:=ha
  refine (I.hok b ob e).stay (λ c w' hc q=>(hs.2 c ?_).trans q) (λ _ q=>q) λ _ _ q=>q
  rintro rfl
  rcases hc with rfl | hc
  ·rw [hfree] at e; cases e
  ·rw [hfree] at hc; cases hc
 rcases hx with hk | hk
 ·refine wpAny_storeName_local hk hn (λ h' hn' hs=>?_) hcls
  obtain ⟨oL,_,_,hoL,_⟩:=id hn
  refine h _ ⟨I.ok,I.os,I.bare,⟨λ b o e n hb hx=>?_,λ b o e n hb hx=>?_,I.base.free,λ b o e hx=>?_,I.base.tups,I.base.frzs,I.base.tbls⟩,⟨_,hn',λ j y v' e1 e2 e3=>?_⟩,λ y c e=>?_,I.free,I.freeC,λ p hp=>?_,tracked ⟨oL,hoL,I.free⟩ hs,by simpa using I.len⟩ ⟨_,hs,.inl rfl⟩
  ·exact (hs.2 b (Nat.ne_of_lt (Nat.lt_of_lt_of_le (Heap.lt_size e) I.ok.above))).trans (I.base.keep b o e n hb hx)
  ·obtain ⟨sl,e1⟩:=I.base.slot b o e n hb hx
   exact ⟨sl,(hs.2 b (Nat.ne_of_lt (Nat.lt_of_lt_of_le (Heap.lt_size e) I.ok.above))).trans e1⟩
  ·obtain ⟨o',e1⟩:=I.base.there b o e hx
   exact ⟨o',(hs.2 b (Nat.ne_of_lt (Nat.lt_of_lt_of_le (Heap.lt_size e) I.ok.above))).trans e1⟩
  ·by_cases hj:j=i
   ·subst hj
    rw [hi] at e1; cases e1
    rw [List.getElem?_set_self hiσ] at e2
    cases e2
    exact ⟨u,r,.inl ⟨hk,by simp⟩⟩
   ·rw [List.getElem?_set_ne (Ne.symm hj)] at e2
    obtain ⟨u',r',q⟩:=hl j y v' e1 e2 e3
    refine ⟨u',r',?_⟩
    rcases q with ⟨k,e⟩ | ⟨k,c,e,z⟩
    ·refine .inl ⟨k,?_⟩
     have:y≠x:=λ e=>hj (jP hN e1 (e ▸ hi))
     simp [this,e]
    ·exact .inr ⟨k,c,e,z.sameBut hs (cne y c e)⟩
  ·obtain ⟨w',z⟩:=I.cell y c e
   exact ⟨w',z.sameBut hs (cne y c e)⟩
  ·obtain ⟨e,n,ne,nf,d⟩:=I.pin p hp
   exact ⟨(hs.2 p.1 ne).trans e,n,ne,nf,d⟩
 ·have hfn:X.fn x=true:=by
   rcases hf with z | z
   ·exact z
   ·rw [z] at hk; cases hk
  obtain ⟨c,hc⟩:=I.ok.has x (.inl hk)
  obtain ⟨w',z⟩:=I.cell x c hc
  refine wpAny_storeName_cell I.ok.kind hk hc z (λ h' hc' hs=>?_)
  obtain ⟨oc,hoc,hocd⟩:=id z
  refine h { s with heap:=h' } ⟨I.ok,I.os,I.bare,⟨λ b o e n hb hx=>?_,λ b o e n hb hx=>?_,I.base.free,λ b o e hx=>?_,I.base.tups,I.base.frzs,I.base.tbls⟩,⟨m,hn.sameBut hs (Ne.symm (cne x c hc)),λ j y v' e1 e2 e3=>?_⟩,λ y c' e=>?_,I.free,I.freeC,λ p hp=>?_,tracked ⟨oc,hoc,I.freeC x c hc⟩ hs,by simpa using I.len⟩ ⟨c,hs,.inr hc⟩
  ·exact (hs.2 b (Nat.ne_of_lt (Nat.lt_of_lt_of_le (Heap.lt_size e) (I.ok.cab x c hfn hc)))).trans (I.base.keep b o e n hb hx)
  ·obtain ⟨sl,e1⟩:=I.base.slot b o e n hb hx
   exact ⟨sl,(hs.2 b (Nat.ne_of_lt (Nat.lt_of_lt_of_le (Heap.lt_size e) (I.ok.cab x c hfn hc)))).trans e1⟩
  ·obtain ⟨o',e1⟩:=I.base.there b o e hx
   exact ⟨o',(hs.2 b (Nat.ne_of_lt (Nat.lt_of_lt_of_le (Heap.lt_size e) (I.ok.cab x c hfn hc)))).trans e1⟩
  ·by_cases hj:j=i
   ·subst hj
    rw [hi] at e1; cases e1
    rw [List.getElem?_set_self hiσ] at e2
    cases e2
    exact ⟨u,r,.inr ⟨.inl hk,c,hc,hc'⟩⟩
   ·rw [List.getElem?_set_ne (Ne.symm hj)] at e2
    obtain ⟨u',r',q⟩:=hl j y v' e1 e2 e3
    refine ⟨u',r',?_⟩
    rcases q with q | ⟨k,c',e,z'⟩
    ·exact .inl q
    ·refine .inr ⟨k,c',e,z'.sameBut hs ?_⟩
     rintro rfl
     exact hj (jP hN e1 (I.ok.inj _ _ _ e hc ▸ hi))
  ·by_cases hcc:c'=c
   ·subst hcc; exact ⟨_,hc'⟩
   ·obtain ⟨w2,z2⟩:=I.cell y c' e
    exact ⟨w2,z2.sameBut hs hcc⟩
  ·obtain ⟨e,n,ne,nf,d⟩:=I.pin p hp
   refine ⟨(hs.2 p.1 ?_).trans e,n,ne,nf,d⟩
   intro q
   rw [q,hoc] at e
   have q':oc=p.2:=Option.some.inj e
   exact d w' (by rw [<- q']; exact hocd)
theorem eK {M:Model} {A:Around} {E:Value->Shared->Prop} {i:Nat} {x:Str} {v:V} {u:Value} {Q:Unit->Shared->Prop} (I:Inv X pins σ H s) (hN:X.N.Nodup) (hi:X.N[i]? = some x) (hx:Loc X.env.scope x) (r:RelV v u)
  (h:∀s',Inv X pins (σ.set i (some v)) H s'->Q () s') (hf:X.fn x=true\/X.env.scope.names.lookup x=some .local:=by first | exact .inl rfl | exact .inr rfl | assumption):wpAny M A (storeName X.env x u) Q E s :=
 ip I hN hi hx r (λ s' I' _=>h s' I') hf
theorem Inv.call' {s':Shared} {ch:List Addr} (I:Inv X pins σ H s) (ho:s'.os=s.os) (u:Un (frs X.stack) ch H H' s.heap s'.heap) (hok:HOk X.prog X.w H' s'.heap) (hg:AllBare s'.gens)
  (hch:∀b∈ch,(b∈X.ex\/X.s₀.heap.objs.size<=b)/\b≠X.env.locals/\(∀x c,X.env.cells.lookup x=some c->c≠b)/\∀p∈X.pn ++ pins,p.1≠b):Inv X pins σ H' s':=by
 obtain ⟨h',g',d',t',o'⟩:=s'
 have e:o'=s.os:=ho
 subst e
 exact I.call (g':=g') (t':=t') (d':=d') u hok hg hch
end
abbrev XK:=Value->Option Addr->Hp->Prop
abbrev St:=List (Option V)
abbrev VK:=V->Hp->Prop
abbrev TE:=St->Hp->VK->Prop
abbrev TT:=St->Hp->(Bool->Hp->Prop)->Prop
abbrev TA:=St->Hp->(List V->Hp->Prop)->Prop
structure Ends where
 nx:St->Hp->Prop
 rt:VK
 bk:St->Hp->Prop:=λ _ _=>False
 ct:St->Hp->Prop:=λ _ _=>False
abbrev TS:=Ends->St->Hp->Prop
def EP (X:Cx) (pins:List (Addr×Obj)) (σ:St) (Q:VK) (u:Value) (s':Shared):Prop:=∃v H',Inv X pins σ H' s'/\RelV v u/\Q v H'
def TP (X:Cx) (pins:List (Addr×Obj)) (σ:St) (Q:Bool->Hp->Prop) (b:Bool) (s':Shared):Prop:=∃H',Inv X pins σ H' s'/\Q b H'
def AP (X:Cx) (pins:List (Addr×Obj)) (σ:St) (Q:List V->Hp->Prop) (us:List Value) (s':Shared):Prop:=∃vs H',Inv X pins σ H' s'/\Vals vs us/\Q vs H'
def SP (X:Cx) (pins:List (Addr×Obj)) (D:Ends) (f:Flow) (s':Shared):Prop :=
 match f with
 | .next=>∃σ' H',Inv X pins σ' H' s'/\D.nx σ' H'
 | .brk=>∃σ' H',Inv X pins σ' H' s'/\D.bk σ' H'
 | .cont=>∃σ' H',Inv X pins σ' H' s'/\D.ct σ' H'
 | .ret u=>∃v σ' H',Inv X pins σ' H' s'/\RelV v u/\D.rt v H'
def PE (X:Cx) (e:Expr) (t:TE):Prop :=
 ∀ (pins:List (Addr×Obj)) (s:Shared) (σ:St) (H:Hp) (Q:VK),Inv X pins σ H s->t σ H Q->wpAny (model X.prog X.w) X.A (eval e X.env) (EP X pins σ Q) X.xe s
def PT (X:Cx) (e:Expr) (t:TT):Prop :=
 ∀ (pins:List (Addr×Obj)) (s:Shared) (σ:St) (H:Hp) (Q:Bool->Hp->Prop),Inv X pins σ H s->t σ H Q->wpAny (model X.prog X.w) X.A (isTrue e X.env (eval e X.env)) (TP X pins σ Q) X.xe s
def PW (X:Cx) (e:Expr) (t:TT):Prop :=
 ∀ (aY:Sem Value) (pins:List (Addr×Obj)) (s:Shared) (σ:St) (H:Hp) (Q:Bool->Hp->Prop),Inv X pins σ H s->t σ H Q->wpAny (model X.prog X.w) X.A (isTrue e X.env aY) (TP X pins σ Q) X.xe s
theorem PW.pt {X:Cx} {e:Expr} {t:TT} (h:PW X e t):PT X e t:=h _
def PA (X:Cx) (es:List Expr) (t:TA):Prop :=
 ∀ (pos:Pos) (pins:List (Addr×Obj)) (s:Shared) (σ:St) (H:Hp) (Q:List V->Hp->Prop),Inv X pins σ H s->t σ H Q->wpAny (model X.prog X.w) X.A (spliced (backTo pos (starEach es X.env))) (AP X pins σ Q) X.xe s
def PS (X:Cx) (st:Stmt) (t:TS):Prop :=
 ∀ (pins:List (Addr×Obj)) (s:Shared) (σ:St) (H:Hp) (D:Ends),Inv X pins σ H s->t D σ H->wpAny (model X.prog X.w) X.A (exec st X.env) (SP X pins D) X.xe s
def PSs (X:Cx) (st:List Stmt) (t:TS):Prop :=
 ∀ (pins:List (Addr×Obj)) (s:Shared) (σ:St) (H:Hp) (D:Ends),Inv X pins σ H s->t D σ H->wpAny (model X.prog X.w) X.A (execs st X.env) (SP X pins D) X.xe s
theorem thn {α:Type} {t:Sem α} {Q Q':α->Shared->Prop} {M:Model} {A:Around} {E:Value->Shared->Prop} {s:Shared} (h:wpAny M A t Q E s) (hQ:∀a s,Q a s->Q' a s):wpAny M A t Q' E s:=wpAny_mono h hQ λ _ _ x=>x
end L2
namespace L2
open PySem PySem.Spec PyProof.Rows
section
variable {X:Cx}
theorem bin {a b:Expr} {ta tb:TE} (ha:PE X a ta) (hb:PE X b tb) {pins:List (Addr×Obj)} {s:Shared} {σ:St} {H:Hp} {R:V->V->Hp->Prop} (I:Inv X pins σ H s) (h:ta σ H λ x H1=>tb σ H1 λ y H2=>R x y H2)
  {α:Type} {Q:α->Shared->Prop} {f:Value->Value->Sem α}
  (hf:∀v u s2 x y H2,Inv X pins σ H2 s2->RelV x v->RelV y u->R x y H2->wpAny (model X.prog X.w) X.A (f v u) Q X.xe s2) :
  wpAny (model X.prog X.w) X.A (eval a X.env) (λ v s₁=>wpAny (model X.prog X.w) X.A (eval b X.env) (λ u s₂=>wpAny (model X.prog X.w) X.A (f v u) Q X.xe s₂) X.xe s₁) X.xe s:=by
 refine thn (ha pins s σ H _ I h) λ v s1 ⟨x,H1,I1,r1,q1⟩=>?_
 refine thn (hb pins s1 σ H1 _ I1 q1) λ u s2 ⟨y,H2,I2,r2,q2⟩=>?_
 exact hf v u s2 x y H2 I2 r1 r2 q2
inductive tVar (i:Nat) (σ:St) (H:Hp) (Q:VK):Prop
 | mk (v:V) (e_0:σ[i]? = some (some v)) (e_1:Q v H):tVar i σ H Q
def tC (v:V):TE:=λ _ H Q=>Q v H
theorem vn {i:Nat} {x:Str} {pos:Pos} (hN:X.N[i]? = some x) (hv:Vis X.env.scope x) (hd:(x == ("__debug__" : Str))=false:=by decide) (hcd:(x == ("__classdict__" : Str))=false:=by decide):PE X (.Name x pos) (tVar i):=by
 intro pins s σ H Q I h
 obtain ⟨v,e,h⟩:=h
 obtain ⟨m,hn,hl⟩:=I.loc
 obtain ⟨u,r,l⟩:=hl i x v hN e hv
 have fin:EP X pins σ Q u s:=⟨v,H,I,r,h⟩
 rcases l with ⟨hk,hm⟩ | ⟨hk,c,hc,hcell⟩
 ·exact wpAny_Name (wpAny_loadName_local I.ok.kind hk hn hm fin) hd
 ·rcases hk with hk | hk
  ·exact wpAny_Name (wpAny_loadName_cell I.ok.kind hk hc hcell fin) hd
  ·exact wpAny_Name (wpAny_loadName_free I.ok.kind hk hc hcell fin hcd) hd
theorem ad {i j pos}:PE X (.Constant (.int i) j pos) (tC (.int i)):=λ _ _ _ H _ I h=>wpAny_Constant_int ⟨.int i,H,I.tok _,⟨_,rfl⟩,h⟩
theorem bI {b j pos}:PE X (.Constant (.bool b) j pos) (tC (.bl b)):=λ _ _ _ H _ I h=>Constant_bool ⟨.bl b,H,I,rfl,h⟩
theorem cL {j pos}:PE X (.Constant .none j pos) (tC .non):=λ _ _ _ H _ I h=>Constant_none ⟨.non,H,I,rfl,h⟩
theorem be {x j pos}:PE X (.Constant (.str x) j pos) (tC (.str x)):=λ _ _ _ H _ I h=>Calls.Constant_str ⟨.str x,H,I.tok _,⟨_,Y⟩,h⟩
def Gl (X:Cx) (x:Str):Prop:=X.env.kindOf x=some .globalImplicit
theorem iV {E:Value->Shared->Prop} {pins:List (Addr×Obj)} {s:Shared} {σ:St} {H:Hp} {x:Str} {u:Value} {pos:Pos} {Q:Value->Shared->Prop} (I:Inv X pins σ H s) (hg:Gl X x) (hm:X.mg x=some u) (h:Q u s)
  (hd:(x == ("__debug__" : Str))=false:=by decide):wpAny (model X.prog X.w) X.A (eval (.Name x pos) X.env) Q E s :=
 Calls.Name_function_global I.ok.kind hg (Calls.loadGlobal_global (by rw [I.ok.glob]; exact I.mod.glob.keeps I.bk) hm h) hd
theorem fk {E:Value->Shared->Prop} {pins:List (Addr×Obj)} {s:Shared} {σ:St} {H:Hp} {x:Str} {u:Value} {pos:Pos} {Q:Value->Shared->Prop} (I:Inv X pins σ H s) (hg:Gl X x) (hm:X.mg x=none) (hv:bootBuiltins x=some u) (h:Q u s)
  (hn:x ≠ "__name__" := by decide) (hd:(x == ("__debug__" : Str))=false:=by decide):wpAny (model X.prog X.w) X.A (eval (.Name x pos) X.env) Q E s:=by
 obtain ⟨mb,h1,h2⟩:=I.mod.blt
 exact Calls.Name_function_global I.ok.kind hg (Calls.loadGlobal_builtin (by rw [I.ok.glob]; exact I.mod.glob.keeps I.bk) hm (by rw [I.ok.blt]; exact h1.keeps I.bk) ((h2 x hn).trans hv) h) hd
theorem bj {x:Str} {v:V} {u:Value} {pos:Pos} (hg:Gl X x) (hm:X.mg x=some u) (r:RelV v u) (hd:(x == ("__debug__" : Str))=false:=by decide):PE X (.Name x pos) (tC v) :=
 λ _ _ _ H _ I h=>iV I hg hm ⟨v,H,I,r,h⟩ hd
theorem bE {x:Str} {v:V} {u:Value} {pos:Pos} (hg:Gl X x) (hm:X.mg x=none) (hv:bootBuiltins x=some u) (r:RelV v u) (hn:x ≠ "__name__" := by decide) (hd:(x == ("__debug__" : Str))=false:=by decide):PE X (.Name x pos) (tC v) :=
 λ _ _ _ H _ I h=>fk I hg hm hv ⟨v,H,I,r,h⟩ hn hd
variable {a b:Expr} {ta tb:TE} {pos:Pos}
def PC (X:Cx) (op:CmpOp) (a b:Expr) (t:TE):Prop :=
 ∀ (pins:List (Addr×Obj)) (s:Shared) (σ:St) (H:Hp) (Q:VK),Inv X pins σ H s->t σ H Q ->
  wpAny (model X.prog X.w) X.A (eval a X.env) (λ v s₁=>wpAny (model X.prog X.w) X.A (eval b X.env) (λ u s₂=>wpAny (model X.prog X.w) X.A (compareOp op v u) (EP X pins σ Q) X.xe s₂) X.xe s₁) X.xe s
inductive IsB (x:V) (Q:Bool->Prop):Prop
 | mk (c:Bool) (e:x=.bl c) (q:Q c):IsB x Q
def tB (t:TE):TT:=λ σ H Q=>t σ H λ x H1=>IsB x λ c=>Q c H1
theorem FS {op:CmpOp} {t:TE} (h:PC X op a b t) (h1:behindInMarks op b=false:=by first | exact nobehind _ (by decide) (by decide) | rfl):PT X (.Compare a [op] [b] pos) (tB t):=by
 intro pins s σ H Q I hw
 refine wpAny_isTrue_Compare1 (thn (h pins s σ H _ I hw) λ v s1 h1=>thn h1 λ u s2 h2=>thn h2 λ c s3 ⟨x,H1,I1,r1,q1⟩=>?_) h1
 obtain ⟨d,rfl,q⟩:=q1
 cases r1
 exact wpAny_truthy_bool ⟨H1,I1,q⟩
theorem aH {e:Expr} {t:TE} (h:PE X e t) (he:∀aY,isTrue e X.env aY=(do let v<-aY; standAt e.pos; holding [v] (truthy v)):=by intro _; rfl):PT X e (tB t):=by
 intro pins s σ H Q I hw
 refine isTrue_plain (thn (h pins s σ H _ I hw) λ v s1 ⟨x,H1,I1,r1,q1⟩=>?_) (he _)
 obtain ⟨d,rfl,q⟩:=q1
 cases r1
 exact wpAny_truthy_bool ⟨H1,I1,q⟩
variable {tA tB':TT} {rest:List Expr}
def FT (t u:TT):TT:=λ σ H Q=>t σ H λ c H1=>if c=true then u σ H1 Q else Q false H1
def tOr (t u:TT):TT:=λ σ H Q=>t σ H λ c H1=>if c=true then Q true H1 else u σ H1 Q
def FU (t:TT):TT:=λ σ H Q=>t σ H λ c H1=>Q (!c) H1
theorem iW (ha:PT X a tA):PW X (.BoolOp .And [a] pos) tA:=by
 intro wh pins s σ H Q I h
 refine isTrue_and (thn (ha pins s σ H Q I h) λ c s1 e=>?_)
 cases c with
 | true=>exact isTrue_and_nil e
 | false=>exact e
theorem bz (ha:PT X a tA):PW X (.BoolOp .Or [a] pos) tA:=by
 intro wh pins s σ H Q I h
 refine isTrue_or (thn (ha pins s σ H Q I h) λ c s1 e=>?_)
 cases c with
 | false=>exact isTrue_or_nil e
 | true=>exact e
theorem kM (ha:PT X a tA) (hb:PW X (.BoolOp .And (b :: rest) pos) tB'):PW X (.BoolOp .And (a :: b :: rest) pos) (FT tA tB'):=by
 intro wh pins s σ H Q I h
 refine isTrue_and (thn (ha pins s σ H _ I h) λ c s1 ⟨H1,I1,q1⟩=>?_)
 cases c with
 | true=>exact hb wh pins s1 σ H1 Q I1 q1
 | false=>exact ⟨H1,I1,q1⟩
theorem bq (ha:PT X a tA) (hb:PW X (.BoolOp .Or (b :: rest) pos) tB'):PW X (.BoolOp .Or (a :: b :: rest) pos) (tOr tA tB'):=by
 intro wh pins s σ H Q I h
 refine isTrue_or (thn (ha pins s σ H _ I h) λ c s1 ⟨H1,I1,q1⟩=>?_)
 cases c with
 | true=>exact ⟨H1,I1,q1⟩
 | false=>exact hb wh pins s1 σ H1 Q I1 q1
theorem aM (ha:PT X a tA):PT X (.UnaryOp .Not a pos) (FU tA):=by
 intro pins s σ H Q I h
 exact isTrue_not (ha pins s σ H (λ c H1=>Q (!c) H1) I h)
def xM (ta tb:TE):TE:=λ σ H Q=>ta σ H λ x H1=>IsB x λ c=>if c=true then tb σ H1 Q else Q (.bl false) H1
def FV (ta tb:TE):TE:=λ σ H Q=>ta σ H λ x H1=>IsB x λ c=>if c=true then Q (.bl true) H1 else tb σ H1 Q
def xN (ta:TE):TE:=λ σ H Q=>ta σ H λ x H1=>IsB x λ c=>Q (.bl (!c)) H1
theorem cM {op} {t:TE} (h:PE X a t):PE X (.BoolOp op [a] pos) t:=λ pins s σ H Q I hw=>BoolOp_one (h pins s σ H Q I hw)
theorem bN (ha:PE X a ta) (hb:PE X (.BoolOp .And (b :: rest) pos) tb):PE X (.BoolOp .And (a :: b :: rest) pos) (xM ta tb):=by
 intro pins s σ H Q I h
 refine BoolOp_and (thn (ha pins s σ H _ I h) λ v s1 ⟨x,H1,I1,r1,q1⟩=>?_)
 obtain ⟨c,rfl,q1⟩:=q1
 cases r1
 refine wpAny_truthy_bool ?_
 cases c with
 | true=>exact hb pins s1 σ H1 Q I1 q1
 | false=>exact ⟨.bl false,H1,I1,Y,q1⟩
theorem xO (ha:PE X a ta) (hb:PE X (.BoolOp .Or (b :: rest) pos) tb):PE X (.BoolOp .Or (a :: b :: rest) pos) (FV ta tb):=by
 intro pins s σ H Q I h
 refine BoolOp_or (thn (ha pins s σ H _ I h) λ v s1 ⟨x,H1,I1,r1,q1⟩=>?_)
 obtain ⟨c,rfl,q1⟩:=q1
 cases r1
 refine wpAny_truthy_bool ?_
 cases c with
 | false=>exact hb pins s1 σ H1 Q I1 q1
 | true=>exact ⟨.bl true,H1,I1,Y,q1⟩
theorem kN (ha:PE X a ta):PE X (.UnaryOp .Not a pos) (xN ta):=by
 intro pins s σ H Q I h
 refine UnaryOp_ (thn (ha pins s σ H _ I h) λ v s1 ⟨x,H1,I1,r1,q1⟩=>?_)
 obtain ⟨c,rfl,q1⟩:=q1
 cases r1
 exact not_of (wpAny_truthy_bool ⟨.bl (!c),H1,I1,rfl,q1⟩)
def tIf (t:TT) (ta tb:TE):TE:=λ σ H Q=>t σ H λ c H1=>if c=true then ta σ H1 Q else tb σ H1 Q
theorem eL {c:Expr} (hc:PT X c tA) (ha:PE X a ta) (hb:PE X b tb):PE X (.IfExp c a b pos) (tIf tA ta tb):=by
 intro pins s σ H Q I h
 refine wpAny_IfExp (thn (hc pins s σ H _ I h) λ d s1 ⟨H1,I1,q1⟩=>?_)
 cases d with
 | true=>exact ha pins s1 σ H1 Q I1 q1
 | false=>exact hb pins s1 σ H1 Q I1 q1
end
end L2
namespace L2
open PySem PySem.Spec PyProof.Rows
def SqL (K:PySem.W.Frag) (H:Hp) (a:Addr) (xs:List V):Prop :=
 Rd H a (.lst xs) \/
  ∃ (o:Obj) (its:Array Value) (n:Nat),K.lookup a=some o/\o.cls=.type "list" /\ o.dict=none/\o.data=.seq its n/\its.size<=sizeLine/\Vals xs its.toList
def SqT (K:PySem.W.Frag) (H:Hp) (a:Addr) (xs:List V):Prop :=
 Rd H a (.tup xs) \/
  ∃ (o:Obj) (its:Array Value) (n:Nat),K.lookup a=some o/\o.cls=.type "tuple" /\ o.data=.seq its n/\its.size<=sizeLine/\Vals xs its.toList
def FW:Value->Option V
 | .none=>some .non
 | .bool b=>some (.bl b)
 | .int i _=>some (.int i)
 | .str x _=>some (.str x)
 | .bytes b _=>some (.byt b)
 | .float b _=>some (.flt b)
 | .ref a=>some (.ref a)
 | .type n=>some (.ty n)
 | _=>none
theorem RelV.abs {x:V} {u:Value} (r:RelV x u):FW u=some x:=by
 cases x with
 | non=>cases r; rfl
 | bl _=>cases r; rfl
 | int _=>obtain ⟨t,rfl⟩:=r; rfl
 | str _=>obtain ⟨t,rfl⟩:=r; rfl
 | byt _=>obtain ⟨t,rfl⟩:=r; rfl
 | flt _=>obtain ⟨t,rfl⟩:=r; rfl
 | ref _=>cases r; rfl
 | ty _=>cases r; rfl
theorem RelV.inj {x y:V} {u:Value} (r:RelV x u) (q:RelV y u):x=y:=Option.some.inj (r.abs.symm.trans q.abs)
theorem Vals.inj:∀ {xs ys:List V} {us:List Value},Vals xs us->Vals ys us->xs=ys
 | _,_,_,.nil,.nil=>rfl
 | _,_,_,.cons r t,.cons r' t'=>by rw [r.inj r',Vals.inj t t']
section
variable {X:Cx} {pins:List (Addr×Obj)} {σ:St} {H:Hp} {s:Shared} {a:Addr} {xs ys:List V}
theorem SqL.of {K:PySem.W.Frag} (h:H a=some (.lst xs)):SqL K H a xs:=.inl (.inl h)
theorem SqT.of {K:PySem.W.Frag} (h:H a=some (.tup xs)):SqT K H a xs:=.inl (.inl h)
theorem Inv.list (I:Inv X pins σ H s) (h:SqL X.K H a xs):∃its:List Value,Vals xs its/\PlainL s.heap a its.toArray/\xs.length<=sizeLine:=by
 rcases h with h | ⟨o,its,n,hk,hc,hd,hs,hz,r⟩
 ·obtain ⟨z,its,n,r,e⟩:=h.ok I.hok
  exact ⟨its,r,⟨_,n,e,Y,Y,Y⟩,z⟩
 ·refine ⟨its.toList,r,⟨o,n,I.kIn a o hk,hc,hd,by simpa using hs⟩,?_⟩
  have e:=r.length
  simp only [Array.length_toList] at e
  omega
theorem Inv.tuple (I:Inv X pins σ H s) (h:SqT X.K H a xs):∃its:List Value,Vals xs its/\IsTup s.heap a its.toArray/\xs.length<=sizeLine:=by
 rcases h with h | ⟨o,its,n,hk,hc,hs,hz,r⟩
 ·obtain ⟨z,its,r,p⟩:=h.ok I.hok
  exact ⟨its,r,p,z⟩
 ·refine ⟨its.toList,r,⟨o,I.kIn a o hk,hc,n,by simpa using hs⟩,?_⟩
  have e:=r.length
  simp only [Array.length_toList] at e
  omega
theorem Inv.list_inj (I:Inv X pins σ H s) (h:SqL X.K H a xs) (h':SqL X.K H a ys):xs=ys:=by
 obtain ⟨its,r,⟨o,n,e,_,_,d⟩,_⟩:=I.list h
 obtain ⟨its',r',⟨o',n',e',_,_,d'⟩,_⟩:=I.list h'
 rw [e] at e'; cases e'
 rw [d] at d'
 injection d' with d1 _
 have:its=its':=by simpa using congrArg Array.toList d1
 subst this
 exact r.inj r'
theorem Inv.tuple_inj (I:Inv X pins σ H s) (h:SqT X.K H a xs) (h':SqT X.K H a ys):xs=ys:=by
 obtain ⟨its,r,⟨o,e,_,n,d⟩,_⟩:=I.tuple h
 obtain ⟨its',r',⟨o',e',_,n',d'⟩,_⟩:=I.tuple h'
 rw [e] at e'; cases e'
 rw [d] at d'
 injection d' with d1 _
 have:its=its':=by simpa using congrArg Array.toList d1
 subst this
 exact r.inj r'
end
abbrev Cx.wish (X:Cx) (E:Value->Shared->Prop):Cx:={ X with xe:=E }
abbrev Cx.nox (X:Cx):Cx:=X.wish λ _ _=>False
theorem Cx.Ok.wish {X:Cx} (ok:X.Ok) (E:Value->Shared->Prop):(X.wish E).Ok :=
 ⟨ok.mod,ok.kind,ok.glob,ok.blt,ok.above,ok.inj,ok.has,ok.cab,ok.hd,ok.frames,ok.stk,ok.exf,ok.bs,ok.bsz,ok.noex,ok.exfs,ok.funs,ok.frf⟩
theorem Cx.Ok.unwish {X:Cx} {E:Value->Shared->Prop} (ok:(X.wish E).Ok):X.Ok :=
 ⟨ok.mod,ok.kind,ok.glob,ok.blt,ok.above,ok.inj,ok.has,ok.cab,ok.hd,ok.frames,ok.stk,ok.exf,ok.bs,ok.bsz,ok.noex,ok.exfs,ok.funs,ok.frf⟩
section
variable {X:Cx} {pins:List (Addr×Obj)} {σ:St} {H:Hp} {s:Shared} {E:Value->Shared->Prop}
theorem Inv.wish (I:Inv X pins σ H s) (E:Value->Shared->Prop):Inv (X.wish E) pins σ H s:=⟨I.ok.wish E,I.os,I.bare,I.base,I.loc,I.cell,I.free,I.freeC,I.pin,I.hok,I.len⟩
theorem Inv.unwish (I:Inv (X.wish E) pins σ H s):Inv X pins σ H s:=⟨I.ok.unwish,I.os,I.bare,I.base,I.loc,I.cell,I.free,I.freeC,I.pin,I.hok,I.len⟩
theorem SP.unwish {D:Ends} {f:Flow} {s':Shared} (h:SP (X.wish E) pins D f s'):SP X pins D f s':=by
 cases f with
 | next=>obtain ⟨σ',H',I,q⟩:=h; exact ⟨σ',H',I.unwish,q⟩
 | brk=>obtain ⟨σ',H',I,q⟩:=h; exact ⟨σ',H',I.unwish,q⟩
 | cont=>obtain ⟨σ',H',I,q⟩:=h; exact ⟨σ',H',I.unwish,q⟩
 | ret u=>obtain ⟨v,σ',H',I,r,q⟩:=h; exact ⟨v,σ',H',I.unwish,r,q⟩
theorem PSs.nox {st:List Stmt} {t:TS} (h:PSs X.nox st t):PSs X st t:=λ pins s σ H D I hw =>
 wpAny_mono (h pins s σ H D (I.wish _) hw) (λ _ _ q=>q.unwish) λ _ _ z=>False.elim z
end
section
variable {X:Cx} {st:Stmt} {rest:List Stmt} {t u:TS} {e:Expr} {te:TE} {pos:Pos}
def xP:TS:=λ D σ H=>D.nx σ H
def tj (t u:TS):TS:=λ D σ H=>t { D with nx:=u D } σ H
theorem aB:PSs X [] xP:=λ _ _ σ H _ I h=>wpAny_execs_nil ⟨σ,H,I,h⟩
theorem ae (h1:PS X st t) (h2:PSs X rest u):PSs X (st :: rest) (tj t u):=by
 intro pins s σ H D I h
 refine wpAny_execs_cons (thn (h1 pins s σ H { D with nx:=u D } I h) λ f s1 q=>?_)
 cases f with
 | next =>
  obtain ⟨σ',H',I',q⟩:=q
  exact h2 pins s1 σ' H' D I' q
 | ret v=>exact q
 | brk=>exact q
 | cont=>exact q
theorem ag (h1:PS X st t):PSs X [st] t:=by
 intro pins s σ H D I h
 refine wpAny_execs_cons (thn (h1 pins s σ H D I h) λ f s1 q=>?_)
 cases f with
 | next=>exact wpAny_execs_nil q
 | ret v=>exact q
 | brk=>exact q
 | cont=>exact q
theorem Inv.quiet {pins:List (Addr×Obj)} {σ:St} {H:Hp} {s:Shared} (I:Inv X pins σ H s):interactive X.env=false:=by simp [interactive,I.ok.kind]
def xQ (te:TE):TS:=λ D σ H=>te σ H λ _ H1=>D.nx σ H1
theorem bC (he:PE X e te) (hs:swapsWith e none pos.line X.env=pure false:=by rfl):PS X (.Expr e pos) (xQ te):=by
 intro pins s σ H D I h
 exact wpAny_Expr_any (thn (he pins s σ H _ I h) λ v s1 ⟨x,H1,I1,r1,q1⟩=>⟨σ,H1,I1,q1⟩) I.quiet hs
def FX (te:TE):TS:=λ D σ H=>te σ H D.rt
theorem ar (he:PE X e te):PS X (.Return (some e) pos) (FX te):=by
 intro pins s σ H D I h
 exact wpAny_Return_some (thn (he pins s σ H _ I h) λ v s1 ⟨x,H1,I1,r1,q1⟩=>⟨x,σ,H1,I1,r1,q1⟩)
def FY (c:TT) (t u:TS):TS:=λ D σ H=>c σ H λ b H1=>if b=true then t D σ H1 else u D σ H1
theorem aG {c:Expr} {a b:List Stmt} {tc:TT} (hc:PT X c tc) (ha:PSs X a t) (hb:PSs X b u):PS X (.If c a b pos) (FY tc t u):=by
 intro pins s σ H D I h
 refine wpAny_If (thn (hc pins s σ H _ I h) λ d s1 ⟨H1,I1,q1⟩=>?_)
 cases d with
 | true=>exact ha pins s1 σ H1 D I1 q1
 | false=>exact hb pins s1 σ H1 D I1 q1
def qg:TS:=λ _ _ _=>False
theorem cP:PS X st qg:=λ _ _ _ _ _ _ h=>h.elim
theorem fm {sts:List Stmt}:PSs X sts qg:=λ _ _ _ _ _ _ h=>h.elim
end
abbrev TG:=V->St->Hp->(St->Hp->Prop)->Prop
abbrev TGs:=List V->St->Hp->(St->Hp->Prop)->Prop
def PG (X:Cx) (target:Expr) (t:TG):Prop :=
 ∀ (pins:List (Addr×Obj)) (s:Shared) (σ:St) (H:Hp) (v:V) (u:Value) (Q:St->Hp->Prop),Inv X pins σ H s->RelV v u->t v σ H Q ->
  wpAny (model X.prog X.w) X.A (assign target X.env u) (λ _ s'=>∃σ' H',Inv X pins σ' H' s'/\Q σ' H') X.xe s
def PGs (X:Cx) (ts:List Expr) (t:TGs):Prop :=
 ∀ (pins:List (Addr×Obj)) (s:Shared) (σ:St) (H:Hp) (vs:List V) (us:List Value) (Q:St->Hp->Prop),Inv X pins σ H s->Vals vs us->t vs σ H Q ->
  wpAny (model X.prog X.w) X.A (assignInOrder ((assignEach ts X.env).map (·.2)) us) (λ _ s'=>∃σ' H',Inv X pins σ' H' s'/\Q σ' H') X.xe s
abbrev vo:=V->V->V->Hp->(Hp->Prop)->Prop
def xR (X:Cx) (t:vo):Prop :=
 ∀ (pins:List (Addr×Obj)) (s:Shared) (σ:St) (H:Hp) (o i v:V) (ov iv u:Value) (Q:Hp->Prop),Inv X pins σ H s->RelV o ov->RelV i iv->RelV v u->t o i v H Q ->
  wpAny (model X.prog X.w) X.A (setItem ov iv u) (λ _ s'=>∃H',Inv X pins σ H' s'/\Q H') X.xe s
section
variable {X:Cx} {pos:Pos}
def gG (i:Nat):TG:=λ v σ H Q=>Q (σ.set i (some v)) H
theorem ai {i:Nat} {x:Str} (hN:X.N.Nodup) (hi:X.N[i]? = some x) (hx:Loc X.env.scope x) (hf:X.fn x=true\/X.env.scope.names.lookup x=some .local:=by first | exact .inl rfl | exact .inr rfl | assumption):PG X (.Name x pos) (gG i):=by
 intro pins s σ H v u Q I r h
 exact wpAny_assign_Name (eK I hN hi hx r (λ s' I'=>⟨_,H,I',h⟩) hf)
def vp:TGs:=λ vs σ H Q=>vs=[]/\Q σ H
inductive gCons (t:TG) (u:TGs) (vs:List V) (σ:St) (H:Hp) (Q:St->Hp->Prop):Prop
 | mk (v:V) (r:List V) (e_0:vs=v :: r) (e_1:t v σ H λ σ' H'=>u r σ' H' Q):gCons t u vs σ H Q
theorem aK:PGs X [] vp:=by
 intro pins s σ H vs us Q I r h
 obtain ⟨e,h⟩:=h
 subst e
 cases r
 exact assignInOrder_nil ⟨σ,H,I,h⟩
theorem ah {e:Expr} {es:List Expr} {t:TG} {u:TGs} (h1:PG X e t) (h2:PGs X es u)
  (hs:(assignEach (e :: es) X.env).map (·.2)=assign e X.env :: (assignEach es X.env).map (·.2):=by rfl):PGs X (e :: es) (gCons t u):=by
 intro pins s σ H vs us Q I r h
 obtain ⟨v,vr,e1,h⟩:=h
 subst e1
 cases r with
 | cons r rr =>
  rw [hs]
  refine assignInOrder_cons (thn (h1 pins s σ H _ _ _ I r h) λ _ s1 ⟨σ1,H1,I1,q1⟩=>?_)
  exact h2 pins s1 σ1 H1 _ _ Q I1 rr q1
inductive gTup (K:PySem.W.Frag) (n:Nat) (t:TGs) (v:V) (σ:St) (H:Hp) (Q:St->Hp->Prop):Prop
 | mk (a:Addr) (xs:List V) (e_0:v=.ref a) (e_1:SqT K H a xs) (e_2:xs.length=n) (e_3:t xs σ H Q):gTup K n t v σ H Q
theorem aX {es:List Expr} {k:Nat} {t:TGs} {n:Nat} (hc:X.calm=true) (h:PGs X es t)
  (hn:(assignEach es X.env).length=n:=by rfl) (hst:(assignEach es X.env).findIdx? (·.1)=none:=by rfl):PG X (.Tuple es k pos) (gTup X.K n t):=by
 intro pins s σ H v u Q I r hw
 obtain ⟨a,xs,e1,hq,hl,hw⟩:=hw
 subst e1
 cases r
 obtain ⟨its,rv,ht,hz⟩:=I.tuple hq
 refine assign_Tuple_tuple (I.ok.hd hc) ht (by simp [hn,<- hl,rv.length]) hst λ h' hx=>?_
 have I1:Inv X pins σ H { s with heap:=h' }:=I.kept (t':=s.toks) λ b o e=>hx b o (Nat.ne_of_lt (Heap.lt_size e)) e
 exact h pins _ σ H xs _ Q I1 (by simpa using rv) hw
def FZ (to ti:TE) (t:vo):TG:=λ v σ H Q=>to σ H λ o H1=>ti σ H1 λ i H2=>t o i v H2 λ H3=>Q σ H3
theorem kO {o i:Expr} {to ti:TE} {t:vo} (ho:PE X o to) (hi:PE X i ti) (hs:xR X t)
  (ha:∀v,assign (.Subscript o i pos) X.env v=(do
   let ov<-holding [v] (eval o X.env)
   let iv<-holding [v,ov] (eval i X.env)
   standAt pos
   holding [v,ov,iv] (setItem ov iv v)
   release [v,ov,iv] []):=by intro _; rfl):PG X (.Subscript o i pos) (FZ to ti t):=by
 intro pins s σ H v u Q I r h
 rw [ha]
 refine wpAny_bind (wpAny_holding (thn (ho pins s σ H _ I h) λ ov s1 ⟨x,H1,I1,r1,q1⟩=>?_))
 refine wpAny_bind (wpAny_holding (thn (hi pins s1 σ H1 _ I1 q1) λ iv s2 ⟨y,H2,I2,r2,q2⟩=>?_))
 refine wpAny_bind (wpAny_standAt (wpAny_bind (wpAny_holding (thn (hs pins s2 σ H2 x y v ov iv u _ I2 r1 r2 r q2) λ _ s3 ⟨H3,I3,q3⟩=>?_))))
 exact wpAny_release ⟨σ,H3,I3,q3⟩
def vq (te:TE) (g:TG):TS:=λ D σ H=>te σ H λ x H1=>g x σ H1 D.nx
theorem bh {tg e:Expr} {te:TE} {g:TG} (he:PE X e te) (hg:PG X tg g) (hs:swapsWithSole [tg] e pos.line X.env=pure false:=by rfl) (hw:swappedStores [tg] e X.env=pure none:=by rfl)
  (h1:(assignEach [tg] X.env).map (·.2)=[assign tg X.env]:=by rfl):PS X (.Assign [tg] e pos) (vq te g):=by
 intro pins s σ H D I h
 refine wpAny_Assign_stores (thn (he pins s σ H _ I h) λ v s1 ⟨x,H1,I1,r1,q1⟩=>?_) hs hw
 rw [h1]
 exact thn (hg pins s1 σ H1 x v _ I1 r1 q1) λ _ s2 q=>q
theorem aD {i:Nat} {x:Str} {e:Expr} {te:TE} {pos':Pos} (hN:X.N.Nodup) (hi:X.N[i]? = some x) (hx:Loc X.env.scope x) (he:PE X e te) (hs:swapsWith e (some (.Name x pos')) pos.line X.env=pure false:=by rfl) (hf:X.fn x=true\/X.env.scope.names.lookup x=some .local:=by first | exact .inl rfl | exact .inr rfl | assumption) :
  PS X (.Assign [.Name x pos'] e pos) (vq te (gG i)):=by
 intro pins s σ H D I h
 refine wpAny_Assign_Name (thn (he pins s σ H _ I h) λ v s1 ⟨y,H1,I1,r1,q1⟩=>?_) hs
 exact eK I1 hN hi hx r1 (λ s2 I2=>⟨_,H1,I2,q1⟩) hf
def Ga (i j:Nat) (ta:TA):TS:=λ D σ H=>ta σ H λ vs H1=>∃v w,vs=[v,w]/\D.nx ((σ.set i (some v)).set j (some w)) H1
theorem kP {i j:Nat} {x y:Str} {a b:Expr} {ta:TA} {px py pt:Pos} {kt k2 pt2} (hc:X.calm=true) (hN:X.N.Nodup) (hi:X.N[i]? = some x) (hj:X.N[j]? = some y) (hij:i≠j)
  (hx:X.env.scope.names.lookup x=some .local) (hy:X.env.scope.names.lookup y=some .local) (ha:PA X [a,b] ta)
  (hw:swappedStores [.Tuple [.Name x px,.Name y py] kt pt] (.Tuple [a,b] k2 pt2) X.env=pure (some [x,y]))
  (hs:swapsWithSole [.Tuple [.Name x px,.Name y py] kt pt] (.Tuple [a,b] k2 pt2) pos.line X.env=pure false:=by rfl) :
  PS X (.Assign [.Tuple [.Name x px,.Name y py] kt pt] (.Tuple [a,b] k2 pt2) pos) (Ga i j ta):=by
 intro pins s σ H D I h
 rw [exec_Assign_arm]
 refine wpAny_bind (wpAny_standAt ?_)
 rw [hs]
 refine wpAny_bind (wpAny_pure ?_)
 rw [if_neg (by decide)]
 refine wpAny_bind (Tuple_ (thn (ha _ pins s σ H _ I h) λ us s1 ⟨vs,H1,I1,r1,q1⟩=>?_))
 obtain ⟨v,w,e1,q1⟩:=q1
 subst e1
 obtain ⟨u1,u2,rfl,rv,rw'⟩:∃u1 u2,us=[u1,u2]/\RelV v u1/\RelV w u2:=by
  cases r1 with
  | cons p q =>
   cases q with
   | cons p' q' =>
    cases q'
    exact ⟨_,_,Y,p,p'⟩
 refine wpAny_newObj_type ?_ zS2
 have I2:Inv X pins σ H1 { s1 with heap:=s1.heap.push { cls:=.type "tuple", data:=.seq [u1, u2].toArray } }:=I1.kept (t':=s1.toks) λ b o e=>Heap.get?_push_of_some _ e
 rw [hw]
 refine wpAny_bind (wpAny_pure ?_)
 show wpAny (model X.prog X.w) X.A (do rule "assign.swapped-stores"; let items<-unpackItems (.ref s1.heap.objs.size) 2 none; assignInOrder [λ v=>bindName X.env y v,λ v=>bindName X.env x v] items.reverse; pure Flow.next) _ _ _
 refine wpAny_bind (wpAny_rule (wpAny_bind (unpackItems_tuple (items:=#[u1,u2]) (I.ok.hd hc) (IsTup.new s1.heap _) λ h' hx'=>?_)))
 have I3:=I2.kept (h':=h') (t':=s1.toks) λ b o e=>hx' b o (Nat.ne_of_lt (Heap.lt_size e)) e
 show wpAny _ _ (assignInOrder [λ v=>bindName X.env y v,λ v=>bindName X.env x v] [u2,u1] >>= λ _=>pure Flow.next) _ _ _
 refine wpAny_bind (assignInOrder_cons (wpAny_bindName (eK I3 hN hj (.inl hy) rw' (λ s2 I4=>?_) (.inr hy))))
 refine assignInOrder_cons (wpAny_bindName (eK I4 hN hi (.inl hx) rv (λ s3 I5=>assignInOrder_nil (wpAny_pure ?_)) (.inr hx)))
 rw [List.set_comm _ _ (Ne.symm hij)] at I5
 exact ⟨_,H1,I5,q1⟩
end
section
variable {X:Cx} {pos:Pos}
def vt (c:TT) (tb:TS):TS:=λ D σ H=>∃W:Nat->St->Hp->Prop,(∃m,W m σ H)/\∀m σ H,W m σ H ->
 c σ H λ b H1=>if b=true then ∃N:St->Hp->Prop,(∀σ' H',N σ' H'->∃m',m' < m/\W m' σ' H')/\tb { D with nx:=N,ct:=N,bk:=D.nx } σ H1 else D.nx σ H1
theorem gH {c:Expr} {body:List Stmt} {tc:TT} {tb:TS} (hp:PassesOwn (model X.prog X.w) X.A X.env X.xe) (hc:PT X c tc) (hb:PSs X body tb):PS X (.While c body [] pos) (vt tc tb):=by
 intro pins s σ H D I h
 obtain ⟨W,⟨m0,w0⟩,turn⟩:=h
 refine wpAny_While (codeAny_whileLoop (λ n s'=>∃σ' H',Inv X pins σ' H' s'/\W n σ' H') ?_ m0 ⟨σ,H,I,w0⟩)
 rintro n s1 ⟨σ1,H1,I1,w1⟩
 refine wpAny_passesOwn hp (thn (hc pins s1 σ1 H1 _ I1 (turn n σ1 H1 w1)) λ b s2 ⟨H2,I2,q2⟩=>?_)
 cases b with
 | true =>
  obtain ⟨N,hN,q2⟩:=q2
  rw [if_pos rfl]
  refine wpAny_passesOwn hp (thn (hb pins s2 σ1 H2 _ I2 q2) λ f s3 q3=>?_)
  cases f with
  | next =>
   obtain ⟨σ3,H3,I3,n3⟩:=q3
   obtain ⟨m',hm,w3⟩:=hN σ3 H3 n3
   exact ⟨m',hm,σ3,H3,I3,w3⟩
  | cont =>
   obtain ⟨σ3,H3,I3,n3⟩:=q3
   obtain ⟨m',hm,w3⟩:=hN σ3 H3 n3
   exact ⟨m',hm,σ3,H3,I3,w3⟩
  | brk=>exact q3
  | ret v=>exact q3
 | false =>
  rw [if_neg Bool.false_ne_true]
  exact wpAny_execs_nil ⟨σ1,H2,I2,q2⟩
end
structure It where
 go:Nat->Hp->Prop
 yld:Nat->Hp->V->Hp->Prop
 stop:Nat->Hp->Prop
def eM (X:Cx) (pins:List (Addr×Obj)) (H:Hp) (b:Addr):Prop :=
 H b=none/\b≠X.env.locals/\b∉X.fs/\(b∈X.ex\/X.s₀.heap.objs.size<=b)/\(∀x c,X.env.cells.lookup x=some c->c≠b)/\∀p∈X.pn ++ pins,p.1≠b
theorem Inv.fpOk {X:Cx} {pins:List (Addr×Obj)} {σ:St} {H H':Hp} {s:Shared} {b:Addr} (I:Inv X pins σ H s) (hb:s.heap.objs.size<=b) (hn:H' b=none):eM X pins H' b:=by
 refine ⟨hn,Nat.ne_of_gt (Nat.lt_of_lt_of_le I.lt hb),I.nofs hb,.inr (Nat.le_trans I.sz hb),λ x c e z=>?_,λ p hp z=>?_⟩
 ·obtain ⟨v,q⟩:=I.cell x c e
  exact absurd (Nat.lt_of_lt_of_le q.lt (by rw [z]; exact hb)) (Nat.lt_irrefl _)
 ·exact absurd (Nat.lt_of_lt_of_le (Heap.lt_size (I.pin p hp).1) (by rw [z]; exact hb)) (Nat.lt_irrefl _)
structure Turn (P:Program) (w:World) (K:PySem.W.Frag) (tg:Expr) (J:It) (fp:List Addr) (it:Addr) (tn:Nat->Heap->Prop):Prop where
 mem:it∈fp
 obj:∀i h,tn i h->∀b∈fp,∃o,h.get? b=some o/\∀v,o.data≠.cell v
 keep:∀i h h',tn i h->(∀b∈fp,∀o,h.get? b=some o->h'.get? b=some o)->tn i h'
 item:∀ (X:Cx),X.prog=P->X.w=w->X.K=K->X.calm=true->∀ (i:Nat) (pins:List (Addr×Obj)) (s:Shared) (σ:St) (H:Hp) (E:Value->Shared->Prop),Inv X pins σ H s->(∀b∈fp,eM X pins H b)->tn i s.heap->J.go i H ->
  wpAny (model P w) X.A (pyNext (.ref it)) (λ r s1=>∃u,r=some u /\
   wpAny (model P w) X.A (letOwnedTupleGo tg (.ref it) u) (λ _ s2=>∃x H',Inv X pins σ H' s2/\RelV x u/\J.yld i H x H'/\tn (i + 1) s2.heap/\∀b∈fp,H' b=none) E s1) E s
 done:∀ (X:Cx),X.prog=P->X.w=w->X.K=K->X.calm=true->∀ (i:Nat) (pins:List (Addr×Obj)) (s:Shared) (σ:St) (H:Hp) (E:Value->Shared->Prop),Inv X pins σ H s->(∀b∈fp,eM X pins H b)->tn i s.heap->J.stop i H ->
  wpAny (model P w) X.A (pyNext (.ref it)) (λ r s1=>r=none/\Inv X pins σ H s1) E s
 self:∀ (A:Around) (i:Nat) (s:Shared) (Q:Value->Shared->Prop) (E:Value->Shared->Prop),tn i s.heap->Q (.ref it) s->wpAny (model P w) A (pyIter (.ref it)) Q E s
abbrev TI:=St->Hp->(It->Hp->Prop)->Prop
def PIE (X:Cx) (pins:List (Addr×Obj)) (σ:St) (tg:Expr) (R:It->Hp->Prop) (itv:Value) (s2:Shared):Prop :=
 ∃ (it:Addr) (fp:List Addr) (tn:Nat->Heap->Prop) (J:It) (H':Hp),itv=.ref it/\Inv X pins σ H' s2/\Turn X.prog X.w X.K tg J fp it tn/\tn 0 s2.heap/\(∀b∈fp,eM X pins H' b)/\R J H'
def PI (X:Cx) (tg iter:Expr) (wi:TI):Prop :=
 ∀ (pins:List (Addr×Obj)) (s:Shared) (σ:St) (H:Hp) (R:It->Hp->Prop),Inv X pins σ H s->wi σ H R ->
  wpAny (model X.prog X.w) X.A (eval iter X.env) (λ v s1=>wpAny (model X.prog X.w) X.A (pyIter v) (PIE X pins σ tg R) X.xe s1) X.xe s
theorem me {M:Model} {A:Around} {E:Value->Shared->Prop} {s:Shared} {tg:Expr} {it:Addr} {u:Value} {o:Obj} {n:String} {vs:Array Value} {Q:Unit->Shared->Prop} (ho:s.heap.get? it=some o) (hc:o.cls=.type n) (hd:o.data=.fields vs)
    (hn:["enumerate","zip","dict_itemiterator","dict_reverseitemiterator","odict_iterator","itertools.zip_longest","itertools.pairwise"].contains n=false) (hQ:Q () s):wpAny M A (letOwnedTupleGo tg (.ref it) u) Q E s:=by
  unfold letOwnedTupleGo
  cases tg <;> first
    | exact wpAny_pure hQ
    | (cases u <;> first
        | exact wpAny_pure hQ
        | (refine wpAny_bind (wpAny_load ho ?_)
           rw [hc,hd]
           show wpAny M A (if (["enumerate","zip","dict_itemiterator","dict_reverseitemiterator","odict_iterator","itertools.zip_longest","itertools.pairwise"].contains n && vs[0]? == some (rawInt _))=true then _ else _) Q E s
           rw [if_neg (by intro h; rw [hn,Bool.false_and] at h; cases h)]
           exact wpAny_pure hQ))
def Itl (K:PySem.W.Frag) (a:Addr):It :=
 ⟨λ i H=>∃xs x,SqL K H a xs/\xs[i]? = some x,λ i H x H'=>H'=H/\∀xs,SqL K H a xs->xs[i]? = some x,λ i H=>∃xs,SqL K H a xs/\xs.length<=i⟩
def Itt (K:PySem.W.Frag) (a:Addr):It :=
 ⟨λ i H=>∃xs x,SqT K H a xs/\xs[i]? = some x,λ i H x H'=>H'=H/\∀xs,SqT K H a xs->xs[i]? = some x,λ i H=>∃xs,SqT K H a xs/\xs.length<=i⟩
def Itr (lo:Int) (n:Nat):It:=⟨λ i _=>i < n,λ i H x H'=>H'=H/\x=.int (lo + i),λ i _=>n<=i⟩
theorem iq {P:Program} {w:World} {K:PySem.W.Frag} {tg:Expr} (a it:Addr):Turn P w K tg (Itl K a) [it] it (λ i h=>h.IsListIter it a i) where
 mem:=by simp
 obj:=λ i h st b hb=>by
  have e:b=it:=by simpa using hb
  subst e
  obtain ⟨o,e,c,d⟩:=st
  exact ⟨o,e,λ v z=>by rw [d] at z; cases z⟩
 keep:=λ i h h' st k=>st.at λ o e=>k it (by simp) o e
 item:=by
  intro X hP hw hK hc i pins s σ H E I hf st hg
  subst hP hw hK
  obtain ⟨xs,x,hq,hx⟩:=hg
  obtain ⟨its,rv,p,hz⟩:=I.list hq
  obtain ⟨u,hu,ru⟩:=rv.get hx
  obtain ⟨f0,f1,f2,f3,f4,f5⟩:=hf it (by simp)
  refine wpAny_pyNext_list_item st p.isList (x:=u) (by simpa using hu) λ h' st' sb=>?_
  have I1:Inv X pins σ H { s with heap:=h' }:=I.turned (t':=s.toks) (λ b o hb e=>(sb.2 b hb).trans e) f0 f1 f3 f4 f5
  obtain ⟨o,e,c,d⟩:=id st'
  exact ⟨u,Y,me (s:={ s with heap:=h' }) e c d (by decide) ⟨x,H,I1,ru,⟨Y,λ ys hy=>by rw [I.list_inj hy hq]; exact hx⟩,st',λ b hb=>(hf b hb).1⟩⟩
 done:=by
  intro X hP hw hK hc i pins s σ H E I hf st hg
  subst hP hw hK
  obtain ⟨xs,hq,hx⟩:=hg
  obtain ⟨its,rv,p,hz⟩:=I.list hq
  obtain ⟨f0,f1,f2,f3,f4,f5⟩:=hf it (by simp)
  have hl:=rv.length
  exact wpAny_pyNext_list_end (I.ok.hd hc) st p.isList (by simp; omega) λ h' eb=>⟨Y,I.turned (t':=s.toks) (λ b o hb e=>eb b o hb e) f0 f1 f3 f4 f5⟩
 self:=λ _ _ _ _ _ st h=>wpAny_pyIter_listiter st h
theorem gI {P:Program} {w:World} {K:PySem.W.Frag} {tg:Expr} (a it:Addr):Turn P w K tg (Itt K a) [it] it (λ i h=>h.IsTupleIter it a i) where
 mem:=by simp
 obj:=λ i h st b hb=>by
  have e:b=it:=by simpa using hb
  subst e
  obtain ⟨o,e,c,d⟩:=st
  exact ⟨o,e,λ v z=>by rw [d] at z; cases z⟩
 keep:=λ i h h' st k=>st.at λ o e=>k it (by simp) o e
 item:=by
  intro X hP hw hK hc i pins s σ H E I hf st hg
  subst hP hw hK
  obtain ⟨xs,x,hq,hx⟩:=hg
  obtain ⟨its,rv,p,hz⟩:=I.tuple hq
  obtain ⟨u,hu,ru⟩:=rv.get hx
  obtain ⟨f0,f1,f2,f3,f4,f5⟩:=hf it (by simp)
  refine wpAny_pyNext_tuple_item st (show s.heap.IsTuple a its.toArray from p) (x:=u) (by simpa using hu) λ h' st' sb=>?_
  have I1:Inv X pins σ H { s with heap:=h' }:=I.turned (t':=s.toks) (λ b o hb e=>(sb.2 b hb).trans e) f0 f1 f3 f4 f5
  obtain ⟨o,e,c,d⟩:=id st'
  exact ⟨u,Y,me (s:={ s with heap:=h' }) e c d (by decide) ⟨x,H,I1,ru,⟨Y,λ ys hy=>by rw [I.tuple_inj hy hq]; exact hx⟩,st',λ b hb=>(hf b hb).1⟩⟩
 done:=by
  intro X hP hw hK hc i pins s σ H E I hf st hg
  subst hP hw hK
  obtain ⟨xs,hq,hx⟩:=hg
  obtain ⟨its,rv,p,hz⟩:=I.tuple hq
  obtain ⟨f0,f1,f2,f3,f4,f5⟩:=hf it (by simp)
  have hl:=rv.length
  exact wpAny_pyNext_tuple_end (I.ok.hd hc) st (show s.heap.IsTuple a its.toArray from p) (by simp; omega) λ h' eb=>⟨Y,I.turned (t':=s.toks) (λ b o hb e=>eb b o hb e) f0 f1 f3 f4 f5⟩
 self:=λ _ _ _ _ _ st h=>wpAny_pyIter_tupleiter st h
theorem kQ {P:Program} {w:World} {K:PySem.W.Frag} {tg:Expr} (it:Addr) (lo:Int) (n:Nat):Turn P w K tg (Itr lo n) [it] it (λ i h=>IsRangeIter h it (lo + (i:Nat) * 1) ((n:Int) - (i:Nat)) 1) where
 mem:=by simp
 obj:=λ i h st b hb=>by
  have e:b=it:=by simpa using hb
  subst e
  exact ⟨_,st,λ v z=>by
   have z':Data.fields _=Data.cell v:=z
   cases z'⟩
 keep:=λ i h h' st k=>k it (by simp) _ st
 item:=by
  intro X hP hw hK hc i pins s σ H E I hf st hg
  subst hP hw hK
  obtain ⟨f0,f1,f2,f3,f4,f5⟩:=hf it (by simp)
  have W:=Walks.range (prog:=X.prog) (w:=X.w) (I.ok.hd hc) it lo 1 n
  refine W.item i s _ _ hg st λ v h' tk hv st' kk=>?_
  obtain ⟨t,rfl⟩:=hv
  have I1:Inv X pins σ H { s with heap:=h',toks:=tk }:=I.turned (λ b o hb e=>kk b o (by simpa using hb) e) f0 f1 f3 f4 f5
  refine ⟨_, Y, me (s:={ s with heap:=h', toks:=tk }) (n := "range_iterator") st' rfl rfl (by decide) ⟨.int (lo + i), H, I1, ⟨t, ?_⟩, ⟨Y, Y⟩, st', λ b hb=>(hf b hb).1⟩⟩
  rw [Int.mul_one]
 done:=by
  intro X hP hw hK hc i pins s σ H E I hf st hg
  subst hP hw hK
  obtain ⟨f0,f1,f2,f3,f4,f5⟩:=hf it (by simp)
  exact wpAny_pyNext_range_end (I.ok.hd hc) st (by have:n<=i:=hg; omega) λ h' eb=>⟨Y,I.turned (t':=s.toks) (λ b o hb e=>eb b o hb e) f0 f1 f3 f4 f5⟩
 self:=λ _ _ _ _ _ st h=>wpAny_pyIter_rangeiter st h
end L2
namespace L2
open PySem PySem.Spec PyProof.Rows
section
variable {X:Cx} {tg:Expr}
inductive iListA (K:PySem.W.Frag) (R:It->Hp->Prop) (x:V) (H1:Hp):Prop
 | mk (a:Addr) (e_0:x=.ref a) (e_1:(∃xs,SqL K H1 a xs)) (e_2:R (Itl K a) H1):iListA K R x H1
def uP (K:PySem.W.Frag) (tl:TE):TI:=λ σ H R=>tl σ H λ x H1=>iListA K R x H1
inductive iTupA (K:PySem.W.Frag) (R:It->Hp->Prop) (x:V) (H1:Hp):Prop
 | mk (a:Addr) (e_0:x=.ref a) (e_1:(∃xs,SqT K H1 a xs)) (e_2:R (Itt K a) H1):iTupA K R x H1
def xS (K:PySem.W.Frag) (tl:TE):TI:=λ σ H R=>tl σ H λ x H1=>iTupA K R x H1
theorem gj {l:Expr} {tl:TE} (hl:PE X l tl):PI X tg l (uP X.K tl):=by
 intro pins s σ H R I h
 refine thn (hl pins s σ H _ I h) λ v s1 ⟨x,H1,I1,r1,q1⟩=>?_
 obtain ⟨a,e,⟨xs,hq⟩,q⟩:=q1
 subst e
 cases r1
 obtain ⟨its,rv,p,hz⟩:=I1.list hq
 refine wpAny_pyIter_list p.isList ?_
 refine ⟨s1.heap.objs.size,[s1.heap.objs.size],_,_,H1,Y,I1.kept (t':=s1.toks) λ b o e=>Heap.get?_push_of_some _ e,iq a _,⟨_,Heap.get?_push_size _ rfl,Y,Y⟩,λ b hb=>?_,q⟩
 have e:b=s1.heap.objs.size:=by simpa using hb
 subst e
 exact I1.fpOk (Nat.le_refl _) (I1.hok.fresh (Nat.le_refl _))
theorem fu {l:Expr} {tl:TE} (hl:PE X l tl):PI X tg l (xS X.K tl):=by
 intro pins s σ H R I h
 refine thn (hl pins s σ H _ I h) λ v s1 ⟨x,H1,I1,r1,q1⟩=>?_
 obtain ⟨a,e,⟨xs,hq⟩,q⟩:=q1
 subst e
 cases r1
 obtain ⟨its,rv,p,hz⟩:=I1.tuple hq
 refine wpAny_pyIter_tuple (show s1.heap.IsTuple a its.toArray from p) ?_
 refine ⟨s1.heap.objs.size,[s1.heap.objs.size],_,_,H1,Y,I1.kept (t':=s1.toks) λ b o e=>Heap.get?_push_of_some _ e,gI a _,⟨_,Heap.get?_push_size _ rfl,Y,Y⟩,λ b hb=>?_,q⟩
 have e:b=s1.heap.objs.size:=by simpa using hb
 subst e
 exact I1.fpOk (Nat.le_refl _) (I1.hok.fresh (Nat.le_refl _))
theorem qh {pins:List (Addr×Obj)} {σ:St} {H:Hp} {s:Shared} {R:It->Hp->Prop} {E:Value->Shared->Prop} {lo hi:Int} {t u v:Tok} {tk:Nat} (I:Inv X pins σ H s) (h1:-(2 ^ 62)<=lo) (h2:lo < 2 ^ 62) (h3:-(2 ^ 62)<=hi) (h4:hi < 2 ^ 62)
  (q:R (Itr lo (hi - lo).toNat) H):wpAny (model X.prog X.w) X.A (pyIter (.ref s.heap.objs.size)) (PIE X pins σ tg R) E { s with heap:=s.heap.push { cls:=.type "range",data:=.fields #[.int lo t,.int hi u,.int 1 v] },toks:=tk }:=by
 refine wpAny_pyIter_range (IsRange.new ..) (small_one h1 h2 h3 h4) ?_
 have I1:Inv X pins σ H { s with heap:=s.heap.push { cls:=.type "range",data:=.fields #[.int lo t,.int hi u,.int 1 v] },toks:=tk }:=I.kept λ b o e=>Heap.get?_push_of_some _ e
 refine ⟨(s.heap.push { cls:=.type "range",data:=.fields #[.int lo t,.int hi u,.int 1 v] }).objs.size,[(s.heap.push { cls:=.type "range",data:=.fields #[.int lo t,.int hi u,.int 1 v] }).objs.size],_,_,H,Y,
  I1.kept (t':=tk) λ b o e=>Heap.get?_push_of_some _ e,kQ _ lo (hi - lo).toNat,?_,λ b hb=>?_,q⟩
 ·have e1:lo + ((0:Nat):Int) * 1=lo:=by simp
  have e2:(((hi - lo).toNat:Nat):Int) - ((0:Nat):Int)=Builtin.Range.rangeSize lo hi 1:=by rw [rangeSize_one]; split <;> omega
  show IsRangeIter _ _ (lo + ((0:Nat):Int) * 1) ((((hi - lo).toNat:Nat):Int) - ((0:Nat):Int)) 1
  rw [e1,e2]
  exact Heap.get?_push_size _ rfl
 ·have e:b=(s.heap.push { cls:=.type "range",data:=.fields #[.int lo t,.int hi u,.int 1 v] }).objs.size:=by simpa using hb
  subst e
  exact I1.fpOk (Nat.le_refl _) (I1.hok.fresh (Nat.le_refl _))
def xT (ta:TA):TI:=λ σ H R=>ta σ H λ vs H1=>∃j:Int,vs=[.int j]/\-(2 ^ 62)<=j/\j < 2 ^ 62/\R (Itr 0 j.toNat) H1
theorem dN {a:Expr} {ta:TA} {p pos:Pos} (hg:Gl X "range") (hm:X.mg "range" = none) (ha:PA X [a] ta) (hs:starEach [a] X.env=[(false,eval a X.env)]:=by rfl):PI X tg (.Call (.Name "range" p) [a] [] pos) (xT ta):=by
 intro pins s σ H R I h
 refine Call_ (fk I hg hm boot_range (PyProof.Rows.callWith_type1 (thn (ha pos pins s σ H _ I h) λ us s1 ⟨vs,H1,I1,r1,q1⟩=>?_) hs rfl))
 obtain ⟨j,e,q1,q2,q⟩:=q1
 subst e
 cases r1 with
 | cons r rr =>
  cases rr
  obtain ⟨t,rfl⟩:=r
  exact call_range_1 (qh I1 (by omega) (by omega) q1 q2 (by simpa using q))
def xU (wi:TI) (g:TG) (tb:TS):TS:=λ D σ H=>wi σ H λ J H1=>∃W:Nat->Nat->St->Hp->Prop,(∃m,W 0 m σ H1)/\∀i m σ H,W i m σ H ->
 (J.stop i H/\D.nx σ H)\/(J.go i H/\∃N:St->Hp->Prop,(∀σ' H',N σ' H'->∃m',m' < m/\W (i + 1) m' σ' H')/\∀x H',J.yld i H x H'->g x σ H' λ σ2 H2=>tb { D with nx:=N,ct:=N,bk:=D.nx } σ2 H2)
def iX (fp:List Addr) (h:Heap):List (Addr×Obj):=fp.filterMap λ b=>(h.get? b).map λ o=>(b,o)
theorem bR {fp:List Addr} {h:Heap} {b:Addr} {o:Obj} (hb:b∈fp) (e:h.get? b=some o):(b,o)∈iX fp h:=List.mem_filterMap.mpr ⟨b,hb,by rw [e]; rfl⟩
theorem nz {fp:List Addr} {h:Heap} {p:Addr×Obj} (hp:p∈iX fp h):p.1∈fp/\h.get? p.1=some p.2:=by
 obtain ⟨b,hb,e⟩:=List.mem_filterMap.mp hp
 cases q:h.get? b with
 | none=>rw [q] at e; cases e
 | some o =>
  rw [q] at e
  have e':(b,o)=p:=Option.some.inj e
  subst e'
  exact ⟨hb,q⟩
theorem Inv.pinned {pins:List (Addr×Obj)} {σ:St} {H:Hp} {s:Shared} {fp:List Addr} (I:Inv X pins σ H s) (hf:∀b∈fp,eM X pins H b) (ho:∀b∈fp,∃o,s.heap.get? b=some o/\∀v,o.data≠.cell v):Inv X (pins ++ iX fp s.heap) σ H s :=
 I.pins_of λ p hp=>(List.mem_append.mp hp).elim (λ z=>I.pin p (List.mem_append_right _ z)) λ z=>by
  obtain ⟨hb,e⟩:=nz z
  obtain ⟨f0,f1,f2,_⟩:=hf p.1 hb
  obtain ⟨o,e',d⟩:=ho p.1 hb
  rw [e] at e'; cases e'
  exact ⟨e,f0,f1,f2,d⟩
theorem Inv.unpinned {pins pl:List (Addr×Obj)} {σ:St} {H:Hp} {s:Shared} (I:Inv X (pins ++ pl) σ H s):Inv X pins σ H s:=I.pins_of λ p hp=>I.pin p (List.mem_append_right _ (List.mem_append_left _ hp))
theorem ce {iter:Expr} {body:List Stmt} {wi:TI} {g:TG} {tb:TS} {pos:Pos} (hp:PassesOwn (model X.prog X.w) X.A X.env X.xe) (hc:X.calm=true) (hi:PI X tg iter wi) (hg:PG X tg g) (hb:PSs X body tb)
  (hs:∀x,foldedSetIterable iter X.env x=pure x:=by intro _; rfl):PS X (.For tg iter body [] pos) (xU wi g tb):=by
 intro pins s σ H D I h
 refine wpAny_For (thn (hi pins s σ H _ I h) λ v s1 h1=>thn h1 λ itv s2 h2=>?_) hs
 obtain ⟨it,fp,tn,J,H2,e,I2,T,st2,f2,W,⟨m0,w0⟩,turn⟩:=h2
 subst e
 have stat:∀ {H':Hp},(∀b∈fp,H' b=none)->∀b∈fp,eM X pins H' b:=λ hn b hb=>⟨hn b hb,(f2 b hb).2⟩
 refine codeAny_forLoop_any (λ n s'=>∃i σ' H',Inv X pins σ' H' s'/\tn i s'.heap/\(∀b∈fp,H' b=none)/\W i n σ' H') ?_ m0 ⟨0,σ,H2,I2,st2,λ b hb=>(f2 b hb).1,w0⟩
 rintro n s3 ⟨i,σ3,H3,I3,st3,fr3,w3⟩
 rcases turn i n σ3 H3 w3 with ⟨stop,qn⟩ | ⟨go,N,hN,step⟩
 ·refine wpAny_passesOwn hp (thn (T.done X rfl rfl rfl hc i pins s3 σ3 H3 X.xe I3 (stat fr3) st3 stop) λ r s4 ⟨hr,I4⟩=>?_)
  subst hr
  exact wpAny_execs_nil ⟨σ3,H3,I4,qn⟩
 ·refine wpAny_passesOwn hp (thn (T.item X rfl rfl rfl hc i pins s3 σ3 H3 X.xe I3 (stat fr3) st3 go) λ r s4 ⟨u,hr,h4⟩=>?_)
  subst hr
  refine wpAny_passesOwn hp (thn h4 λ _ s5 ⟨x,H5,I5,r5,y5,st5,fr5⟩=>?_)
  have I5':=I5.pinned (stat fr5) (T.obj _ _ st5)
  refine wpAny_passesOwn hp (thn (hg _ s5 σ3 H5 x u _ I5' r5 (step x H5 y5)) λ _ s6 ⟨σ6,H6,I6,q6⟩=>?_)
  refine wpAny_passesOwn hp (thn (hb _ s6 σ6 H6 _ I6 q6) λ f s7 q7=>?_)
  have again:∀ {σ7:St} {H7:Hp},Inv X (pins ++ iX fp s5.heap) σ7 H7 s7->N σ7 H7->∃m,m < n/\∃i σ' H',Inv X pins σ' H' s7/\tn i s7.heap/\(∀b∈fp,H' b=none)/\W i m σ' H':=λ {σ7 H7} I7 n7=>by
   obtain ⟨m',hm,w7⟩:=hN σ7 H7 n7
   refine ⟨m',hm,i + 1,σ7,H7,I7.unpinned,T.keep _ _ _ st5 λ b hb o e=>(I7.pin (b,o) (List.mem_append_right _ (List.mem_append_right _ (bR hb e)))).1,λ b hb=>?_,w7⟩
   obtain ⟨o,e,d⟩:=T.obj _ _ st5 b hb
   exact (I7.pin (b,o) (List.mem_append_right _ (List.mem_append_right _ (bR hb e)))).2.1
  cases f with
  | next=>obtain ⟨σ7,H7,I7,n7⟩:=q7; exact again I7 n7
  | cont=>obtain ⟨σ7,H7,I7,n7⟩:=q7; exact again I7 n7
  | brk=>obtain ⟨σ7,H7,I7,q7⟩:=q7; exact ⟨σ7,H7,I7.unpinned,q7⟩
  | ret v=>obtain ⟨x7,σ7,H7,I7,r7,q7⟩:=q7; exact ⟨x7,σ7,H7,I7.unpinned,r7,q7⟩
end
theorem gJ {K:PySem.W.Frag} {a:Addr} {xs:List V} {g:TG} {tb:TS} {D:Ends} {σ:St} {H:Hp} (Pv:Nat->St->Hp->Prop) (h0:Pv 0 σ H) (hl:∀i σ H,i<=xs.length->Pv i σ H->SqL K H a xs)
  (hs:∀i x σ H,xs[i]? = some x->Pv i σ H->g x σ H λ σ2 H2=>tb { D with nx:=Pv (i + 1),ct:=Pv (i + 1),bk:=D.nx } σ2 H2) (hd:∀σ H,Pv xs.length σ H->D.nx σ H) :
  ∃W:Nat->Nat->St->Hp->Prop,(∃m,W 0 m σ H)/\∀i m σ H,W i m σ H ->
   ((Itl K a).stop i H/\D.nx σ H)\/((Itl K a).go i H/\∃N:St->Hp->Prop,(∀σ' H',N σ' H'->∃m',m' < m/\W (i + 1) m' σ' H')/\∀x H',(Itl K a).yld i H x H'->g x σ H' λ σ2 H2=>tb { D with nx:=N,ct:=N,bk:=D.nx } σ2 H2):=by
 refine ⟨λ i m σ H=>m=xs.length - i/\i<=xs.length/\Pv i σ H,⟨xs.length,by simp,Nat.zero_le _,h0⟩,?_⟩
 rintro i m σ H ⟨rfl,hi,p⟩
 have q:=hl i σ H hi p
 by_cases hlt:i < xs.length
 ·refine .inr ⟨⟨xs,xs[i],q,by simp [hlt]⟩,Pv (i + 1),λ σ' H' p'=>⟨xs.length - (i + 1),by omega,Y,hlt,p'⟩,λ x H' y=>?_⟩
  obtain ⟨e,y⟩:=y
  subst e
  exact hs i x σ _ (y xs q) p
 ·have e:i=xs.length:=by omega
  subst e
  exact .inl ⟨⟨xs,q,Nat.le_refl _⟩,hd σ H p⟩
theorem gm {K:PySem.W.Frag} {a:Addr} {xs:List V} {g:TG} {tb:TS} {D:Ends} {σ:St} {H:Hp} (Pv:Nat->St->Hp->Prop) (h0:Pv 0 σ H) (hl:∀i σ H,i<=xs.length->Pv i σ H->SqT K H a xs)
  (hs:∀i x σ H,xs[i]? = some x->Pv i σ H->g x σ H λ σ2 H2=>tb { D with nx:=Pv (i + 1),ct:=Pv (i + 1),bk:=D.nx } σ2 H2) (hd:∀σ H,Pv xs.length σ H->D.nx σ H) :
  ∃W:Nat->Nat->St->Hp->Prop,(∃m,W 0 m σ H)/\∀i m σ H,W i m σ H ->
   ((Itt K a).stop i H/\D.nx σ H)\/((Itt K a).go i H/\∃N:St->Hp->Prop,(∀σ' H',N σ' H'->∃m',m' < m/\W (i + 1) m' σ' H')/\∀x H',(Itt K a).yld i H x H'->g x σ H' λ σ2 H2=>tb { D with nx:=N,ct:=N,bk:=D.nx } σ2 H2):=by
 refine ⟨λ i m σ H=>m=xs.length - i/\i<=xs.length/\Pv i σ H,⟨xs.length,by simp,Nat.zero_le _,h0⟩,?_⟩
 rintro i m σ H ⟨rfl,hi,p⟩
 have q:=hl i σ H hi p
 by_cases hlt:i < xs.length
 ·refine .inr ⟨⟨xs,xs[i],q,by simp [hlt]⟩,Pv (i + 1),λ σ' H' p'=>⟨xs.length - (i + 1),by omega,Y,hlt,p'⟩,λ x H' y=>?_⟩
  obtain ⟨e,y⟩:=y
  subst e
  exact hs i x σ _ (y xs q) p
 ·have e:i=xs.length:=by omega
  subst e
  exact .inl ⟨⟨xs,q,Nat.le_refl _⟩,hd σ H p⟩
theorem dO {lo:Int} {n:Nat} {g:TG} {tb:TS} {D:Ends} {σ:St} {H:Hp} (Pv:Nat->St->Hp->Prop) (h0:Pv 0 σ H)
  (hs:∀i σ H,i < n->Pv i σ H->g (.int (lo + i)) σ H λ σ2 H2=>tb { D with nx:=Pv (i + 1),ct:=Pv (i + 1),bk:=D.nx } σ2 H2) (hd:∀σ H,Pv n σ H->D.nx σ H) :
  ∃W:Nat->Nat->St->Hp->Prop,(∃m,W 0 m σ H)/\∀i m σ H,W i m σ H ->
   ((Itr lo n).stop i H/\D.nx σ H)\/((Itr lo n).go i H/\∃N:St->Hp->Prop,(∀σ' H',N σ' H'->∃m',m' < m/\W (i + 1) m' σ' H')/\∀x H',(Itr lo n).yld i H x H'->g x σ H' λ σ2 H2=>tb { D with nx:=N,ct:=N,bk:=D.nx } σ2 H2):=by
 refine ⟨λ i m σ H=>m=n - i/\i<=n/\Pv i σ H,⟨n,by simp,Nat.zero_le _,h0⟩,?_⟩
 rintro i m σ H ⟨rfl,hi,p⟩
 by_cases hlt:i < n
 ·refine .inr ⟨hlt,Pv (i + 1),λ σ' H' p'=>⟨n - (i + 1),by omega,Y,hlt,p'⟩,λ x H' y=>?_⟩
  obtain ⟨e,y⟩:=y
  subst e y
  exact hs i σ _ hlt p
 ·have e:i=n:=by omega
  subst e
  exact .inl ⟨Nat.le_refl _,hd σ H p⟩
end L2
namespace L2
open PySem PySem.Spec PyProof.Rows
abbrev R2:=V->V->Hp->VK->Prop
def OpR (X:Cx) (f:Value->Value->Sem Value) (r:R2):Prop :=
 ∀ (pins:List (Addr×Obj)) (s:Shared) (σ:St) (H:Hp) (x y:V) (v u:Value) (Q:VK),Inv X pins σ H s->RelV x v->RelV y u->r x y H Q ->
  wpAny (model X.prog X.w) X.A (f v u) (EP X pins σ Q) X.xe s
def UnR (X:Cx) (f:Value->Sem Value) (r:V->Hp->VK->Prop):Prop :=
 ∀ (pins:List (Addr×Obj)) (s:Shared) (σ:St) (H:Hp) (x:V) (v:Value) (Q:VK),Inv X pins σ H s->RelV x v->r x H Q ->
  wpAny (model X.prog X.w) X.A (f v) (EP X pins σ Q) X.xe s
def cj (X:Cx) (f:Value) (r:List V->Hp->VK->Prop):Prop :=
 ∀ (pins:List (Addr×Obj)) (s:Shared) (σ:St) (H:Hp) (xs:List V) (us:List Value) (Q:VK),Inv X pins σ H s->Vals xs us->r xs H Q ->
  wpAny (model X.prog X.w) X.A (call f us) (EP X pins σ Q) X.xe s
def Gb (X:Cx) (r:V->Hp->(Bool->Hp->Prop)->Prop):Prop :=
 ∀ (pins:List (Addr×Obj)) (s:Shared) (σ:St) (H:Hp) (x:V) (v:Value) (Q:Bool->Hp->Prop),Inv X pins σ H s->RelV x v->r x H Q ->
  wpAny (model X.prog X.w) X.A (truthy v) (TP X pins σ Q) X.xe s
def tOp (r:R2) (ta tb:TE):TE:=λ σ H Q=>ta σ H λ x H1=>tb σ H1 λ y H2=>r x y H2 Q
def tUn (r:V->Hp->VK->Prop) (ta:TE):TE:=λ σ H Q=>ta σ H λ x H1=>r x H1 Q
inductive rI (C:Int->Int->Prop) (g:Int->Int->V) (x:V) (y:V) (H:Hp) (Q:VK):Prop
 | mk (i:Int) (j:Int) (e_0:x=.int i) (e_1:y=.int j) (e_2:C i j) (e_3:Q (g i j) H):rI C g x y H Q
inductive rI0 (g:Int->Int->V) (x:V) (y:V) (H:Hp) (Q:VK):Prop
 | mk (i:Int) (j:Int) (e_0:x=.int i) (e_1:y=.int j) (e_2:Q (g i j) H):rI0 g x y H Q
def rU (g:Int->V):V->Hp->VK->Prop:=λ x H Q=>∃i,x=.int i/\Q (g i) H
section
variable {X:Cx} {a b c:Expr} {ta tb tc:TE} {pos:Pos}
theorem vw (ha:PE X a ta) (hb:PE X b tb) {pins:List (Addr×Obj)} {s:Shared} {σ:St} {H:Hp} {R:V->V->Hp->Prop} (I:Inv X pins σ H s)
  (h:ta σ H λ x H1=>tb σ H1 λ y H2=>R x y H2) {Q:Value->Shared->Prop} {f:Value->Value->Sem Value}
  (hf:∀v u s2 x y H2,Inv X pins σ H2 s2->RelV x v->RelV y u->R x y H2->wpAny (model X.prog X.w) X.A (f v u) Q X.xe s2) :
  wpAny (model X.prog X.w) X.A (eval a X.env) (λ v s₁=>wpAny (model X.prog X.w) X.A (eval b X.env) (λ u s₂=>wpAny (model X.prog X.w) X.A (f v u) Q X.xe s₂) X.xe s₁) X.xe s:=by
 refine thn (ha pins s σ H _ I h) λ v s1 ⟨x,H1,I1,r1,q1⟩=>?_
 refine thn (hb pins s1 σ H1 _ I1 q1) λ u s2 ⟨y,H2,I2,r2,q2⟩=>?_
 exact hf v u s2 x y H2 I2 r1 r2 q2
theorem aA {op:Operator} {r:R2} (ho:OpR X (binaryOp op) r) (ha:PE X a ta) (hb:PE X b tb):PE X (.BinOp a op b pos) (tOp r ta tb):=by
 intro pins s σ H Q I h
 exact wpAny_BinOp (vw ha hb I h λ v u s2 x y H2 I2 rx ry q=>ho pins s2 σ H2 x y v u Q I2 rx ry q)
theorem uQ {op:UnaryOp} {r:V->Hp->VK->Prop} (ho:UnR X (unaryOp op) r) (ha:PE X a ta):PE X (.UnaryOp op a pos) (tUn r ta):=by
 intro pins s σ H Q I h
 exact UnaryOp_ (thn (ha pins s σ H _ I h) λ v s1 ⟨x,H1,I1,r1,q1⟩=>ho pins s1 σ H1 x v Q I1 r1 q1)
theorem opI {f:Value->Value->Sem Value} {C:Int->Int->Prop} {g:Int->Int->Int}
  (rule:∀ (i j:Int) (t u:Tok) (s:Shared) (Q:Value->Shared->Prop) (E:Value->Shared->Prop),C i j->Q (.int (g i j) s.toks) { s with toks:=s.toks + 1 }->wpAny (model X.prog X.w) X.A (f (.int i t) (.int j u)) Q E s) :
  OpR X f (rI C λ i j=>.int (g i j)):=by
 intro pins s σ H x y v u Q I rx ry h
 obtain ⟨i,j,rfl,rfl,hc,q⟩:=h
 obtain ⟨t,rfl⟩:=rx
 obtain ⟨t',rfl⟩:=ry
 exact rule i j t t' s _ _ hc ⟨.int (g i j),H,I.tok _,⟨_,rfl⟩,q⟩
theorem xV {f:Value->Value->Sem Value} {g:Int->Int->Int}
  (rule:∀ (i j:Int) (t u:Tok) (s:Shared) (Q:Value->Shared->Prop) (E:Value->Shared->Prop),Q (.int (g i j) s.toks) { s with toks:=s.toks + 1 }->wpAny (model X.prog X.w) X.A (f (.int i t) (.int j u)) Q E s) :
  OpR X f (rI0 λ i j=>.int (g i j)):=by
 intro pins s σ H x y v u Q I rx ry h
 obtain ⟨i,j,rfl,rfl,q⟩:=h
 obtain ⟨t,rfl⟩:=rx
 obtain ⟨t',rfl⟩:=ry
 exact rule i j t t' s _ _ ⟨.int (g i j),H,I.tok _,⟨_,rfl⟩,q⟩
theorem tm {f:Value->Value->Sem Value} {g:Int->Int->Bool}
  (rule:∀ (i j:Int) (t u:Tok) (s:Shared) (Q:Value->Shared->Prop) (E:Value->Shared->Prop),Q (.bool (g i j)) s->wpAny (model X.prog X.w) X.A (f (.int i t) (.int j u)) Q E s) :
  OpR X f (rI0 λ i j=>.bl (g i j)):=by
 intro pins s σ H x y v u Q I rx ry h
 obtain ⟨i,j,rfl,rfl,q⟩:=h
 obtain ⟨t,rfl⟩:=rx
 obtain ⟨t',rfl⟩:=ry
 exact rule i j t t' s _ _ ⟨.bl (g i j),H,I,rfl,q⟩
def Gc (i j:Int):Prop:=0<=j/\j<=1000000/\i.natAbs < 2 ^ 64
def CMul (i j:Int):Prop:=(-(2 ^ 64) < i/\i < 2 ^ 64)\/(-(2 ^ 64) < j/\j < 2 ^ 64)
theorem CMul.ok {i j:Int} (h:CMul i j):IntMulOk i j:=by
 rcases h with ⟨h1,h2⟩ | ⟨h1,h2⟩
 ·exact .of_left (intBits_le_64 h1 h2)
 ·exact .of_right (intBits_le_64 h1 h2)
theorem aI:OpR X (binaryOp .Add) (rI0 λ i j=>.int (i + j)):=xV λ _ _ _ _ _ _ _ q=>add_int q
theorem br:OpR X (binaryOp .Sub) (rI0 λ i j=>.int (i - j)):=xV λ _ _ _ _ _ _ _ q=>sub_int q
theorem cU:OpR X (binaryOp .Mult) (rI CMul λ i j=>.int (i * j)):=opI λ _ _ _ _ _ _ _ hc q=>mul_int q hc.ok
theorem fz:OpR X (binaryOp .Mod) (rI (λ _ j=>0 < j) λ i j=>.int (i % j)):=opI λ i j _ _ _ _ _ hc q=>by
 have h1:(0:Int) < j:=hc
 exact mod_int' (by omega) (by rw [Int.fmod_eq_emod_of_nonneg i (by omega)]; exact q)
theorem fA:OpR X (binaryOp .Pow) (rI Gc λ i j=>.int (i ^ j.toNat)):=opI λ _ _ _ _ _ _ _ hc q=>pow_int_small hc.1 hc.2.1 hc.2.2 q
theorem unI {f:Value->Sem Value} {g:Int->Int}
  (rule:∀ (i:Int) (t:Tok) (s:Shared) (Q:Value->Shared->Prop) (E:Value->Shared->Prop),Q (.int (g i) s.toks) { s with toks:=s.toks + 1 }->wpAny (model X.prog X.w) X.A (f (.int i t)) Q E s) :
  UnR X f (rU λ i=>.int (g i)):=by
 intro pins s σ H x v Q I rx h
 obtain ⟨i,rfl,q⟩:=h
 obtain ⟨t,rfl⟩:=rx
 exact rule i t s _ _ ⟨.int (g i),H,I.tok _,⟨_,rfl⟩,q⟩
theorem qi:UnR X (unaryOp .USub) (rU λ i=>.int (-i)):=unI λ _ _ _ _ _ q=>neg_int q
end
def xW:V->V->Bool
 | .non,.non=>true | .non,.int _=>true | .int _,.non=>true | .non,.bl _=>true | .bl _,.non=>true | .non,.str _=>true | .str _,.non=>true
 | .int _,.int _=>true | .bl _,.bl _=>true | .str _,.str _=>true | .byt _,.byt _=>true
 | .int _,.str _=>true | .str _,.int _=>true | .bl _,.str _=>true | .str _,.bl _=>true
 | _,_=>false
def rEq:R2:=λ x y H Q=>xW x y=true/\Q (.bl (decide (x=y))) H
def rNe:R2:=λ x y H Q=>xW x y=true/\Q (.bl (!decide (x=y))) H
theorem iY {i j:Int}:decide (V.int i=V.int j)=(i == j):=by
 rw [Bool.eq_iff_iff]
 simp
theorem qj {i j:Bool}:decide (V.bl i=V.bl j)=(i == j):=by
 rw [Bool.eq_iff_iff]
 simp
theorem mf {i j:Str}:decide (V.str i=V.str j)=(i == j):=by
 rw [Bool.eq_iff_iff]
 simp
theorem mh {i j:Array UInt8}:decide (V.byt i=V.byt j)=(i.toList == j.toList):=by
 rw [Bool.eq_iff_iff]
 cases i
 cases j
 simp
section
variable {X:Cx} {a b c:Expr} {ta tb tc:TE} {pos:Pos}
theorem aS {pins:List (Addr×Obj)} {σ:St} {H:Hp} {s:Shared} {Q:VK} {k k':Bool} (I:Inv X pins σ H s) (q:Q (.bl k) H) (e:k=k'):EP X pins σ Q (.bool k') s:=by
 subst e
 exact ⟨.bl k,H,I,Y,q⟩
theorem aZ:OpR X (compareOp .Eq) rEq:=by
 intro pins s σ H x y v u Q I rx ry h
 obtain ⟨hs,q⟩:=h
 cases x with
 | non =>
  cases rx
  cases y with
  | non=>cases ry; exact PySem.EqNone.eq_none_none (aS I q (by simp))
  | bl j=>cases ry; exact PySem.EqNone.eq_none_bool (aS I q (by simp))
  | int j=>obtain ⟨t',rfl⟩:=ry; exact PySem.EqNone.eq_none_int (aS I q (by simp))
  | str j=>obtain ⟨t',rfl⟩:=ry; exact PySem.EqNone.eq_none_str (aS I q (by simp))
  | _=>exact absurd (show false=true from hs) Bool.false_ne_true
 | bl i =>
  cases rx
  cases y with
  | non=>cases ry; exact PySem.EqNone.eq_bool_none (aS I q (by simp))
  | bl j=>cases ry; exact eq_bool (aS I q qj)
  | str j=>obtain ⟨t',rfl⟩:=ry; exact PySem.EqMixed.eq_bool_str (aS I q (by simp))
  | _=>exact absurd (show false=true from hs) Bool.false_ne_true
 | int i =>
  obtain ⟨t,rfl⟩:=rx
  cases y with
  | non=>cases ry; exact PySem.EqNone.eq_int_none (aS I q (by simp))
  | int j=>obtain ⟨t',rfl⟩:=ry; exact eq_int (aS I q iY)
  | str j=>obtain ⟨t',rfl⟩:=ry; exact PySem.EqMixed.eq_int_str (aS I q (by simp))
  | _=>exact absurd (show false=true from hs) Bool.false_ne_true
 | str i =>
  obtain ⟨t,rfl⟩:=rx
  cases y with
  | non=>cases ry; exact PySem.EqNone.eq_str_none (aS I q (by simp))
  | bl j=>cases ry; exact PySem.EqMixed.eq_str_bool (aS I q (by simp))
  | int j=>obtain ⟨t',rfl⟩:=ry; exact PySem.EqMixed.eq_str_int (aS I q (by simp))
  | str j=>obtain ⟨t',rfl⟩:=ry; exact eq_str (aS I q mf)
  | _=>exact absurd (show false=true from hs) Bool.false_ne_true
 | byt i =>
  obtain ⟨t,rfl⟩:=rx
  cases y with
  | byt j=>obtain ⟨t',rfl⟩:=ry; exact PySem.W.eq_bytes (aS I q mh)
  | _=>exact absurd (show false=true from hs) Bool.false_ne_true
 | _=>cases y <;> exact absurd (show false=true from hs) Bool.false_ne_true
theorem ej:OpR X (compareOp .NotEq) rNe:=by
 intro pins s σ H x y v u Q I rx ry h
 obtain ⟨hs,q⟩:=h
 cases x with
 | non =>
  cases rx
  cases y with
  | non=>cases ry; exact PySem.EqNone.ne_none_none (aS I q (by simp))
  | bl j=>cases ry; exact PySem.EqNone.ne_none_bool (aS I q (by simp))
  | int j=>obtain ⟨t',rfl⟩:=ry; exact PySem.EqNone.ne_none_int (aS I q (by simp))
  | str j=>obtain ⟨t',rfl⟩:=ry; exact PySem.EqNone.ne_none_str (aS I q (by simp))
  | _=>exact absurd (show false=true from hs) Bool.false_ne_true
 | bl i =>
  cases rx
  cases y with
  | non=>cases ry; exact PySem.EqNone.ne_bool_none (aS I q (by simp))
  | bl j=>cases ry; exact ne_bool (aS I q (congrArg not qj))
  | str j=>obtain ⟨t',rfl⟩:=ry; exact PySem.EqMixed.ne_bool_str (aS I q (by simp))
  | _=>exact absurd (show false=true from hs) Bool.false_ne_true
 | int i =>
  obtain ⟨t,rfl⟩:=rx
  cases y with
  | non=>cases ry; exact PySem.EqNone.ne_int_none (aS I q (by simp))
  | int j=>obtain ⟨t',rfl⟩:=ry; exact ne_int (aS I q (congrArg not iY))
  | str j=>obtain ⟨t',rfl⟩:=ry; exact PySem.EqMixed.ne_int_str (aS I q (by simp))
  | _=>exact absurd (show false=true from hs) Bool.false_ne_true
 | str i =>
  obtain ⟨t,rfl⟩:=rx
  cases y with
  | non=>cases ry; exact PySem.EqNone.ne_str_none (aS I q (by simp))
  | bl j=>cases ry; exact PySem.EqMixed.ne_str_bool (aS I q (by simp))
  | int j=>obtain ⟨t',rfl⟩:=ry; exact PySem.EqMixed.ne_str_int (aS I q (by simp))
  | str j=>obtain ⟨t',rfl⟩:=ry; exact ne_str (aS I q (congrArg not mf))
  | _=>exact absurd (show false=true from hs) Bool.false_ne_true
 | byt i =>
  obtain ⟨t,rfl⟩:=rx
  cases y with
  | byt j=>obtain ⟨t',rfl⟩:=ry; exact PySem.W.ne_bytes (aS I q (congrArg not mh))
  | _=>exact absurd (show false=true from hs) Bool.false_ne_true
 | _=>cases y <;> exact absurd (show false=true from hs) Bool.false_ne_true
theorem mi:OpR X (compareOp .Lt) (rI0 λ i j=>.bl (decide (i < j))):=tm λ _ _ _ _ _ _ _ q=>lt_int q
theorem fX:OpR X (compareOp .LtE) (rI0 λ i j=>.bl (decide (i<=j))):=tm λ _ _ _ _ _ _ _ q=>le_int q
theorem uR:OpR X (compareOp .Gt) (rI0 λ i j=>.bl (decide (j < i))):=tm λ _ _ _ _ _ _ _ q=>gt_int q
theorem mj:OpR X (compareOp .GtE) (rI0 λ i j=>.bl (decide (j<=i))):=tm λ _ _ _ _ _ _ _ q=>ge_int q
theorem iZ:OpR X (compareOp .Is) (λ x y H Q=>y=.non/\Q (.bl (decide (x=.non))) H):=by
 intro pins s σ H x y v u Q I rx ry h
 obtain ⟨rfl,q⟩:=h
 cases ry
 refine is_none_gen (aS I q ?_)
 cases x <;> first
  | (cases rx; rfl)
  | (obtain ⟨t,rfl⟩:=rx; rfl)
theorem ay (b:Expr) {op:CmpOp} (h:op≠.In:=by decide) (h2:op≠.NotIn:=by decide):behindInMarks op b=false:=by
 have e1:(op == CmpOp.In)=false:=by cases op <;> first | rfl | exact absurd rfl h
 have e2:(op == CmpOp.NotIn)=false:=by cases op <;> first | rfl | exact absurd rfl h2
 cases b <;> simp [behindInMarks,e1,e2]
theorem aW {op:CmpOp} {r:R2} (ho:OpR X (compareOp op) r) (ha:PE X a ta) (hb:PE X b tb) (hm:behindInMarks op b=false):PE X (.Compare a [op] [b] pos) (tOp r ta tb):=by
 intro pins s σ H Q I h
 exact wpAny_Compare1 (vw ha hb I h λ v u s2 x y H2 I2 rx ry q=>ho pins s2 σ H2 x y v u Q I2 rx ry q) hm
def uS (t:TE):TT:=λ σ H Q=>t σ H λ x H'=>IsB x λ k=>Q k H'
theorem aE {op:CmpOp} {r:R2} (ho:OpR X (compareOp op) r) (ha:PE X a ta) (hb:PE X b tb) (hm:behindInMarks op b=false):PT X (.Compare a [op] [b] pos) (uS (tOp r ta tb)):=by
 intro pins s σ H Q I h
 refine wpAny_isTrue_Compare1 (thn (ha pins s σ H _ I h) λ v s1 ⟨x,H1,I1,r1,q1⟩=>thn (hb pins s1 σ H1 _ I1 q1) λ u s2 ⟨y,H2,I2,r2,q2⟩ =>
  thn (ho pins s2 σ H2 x y v u _ I2 r1 r2 q2) λ c s3 ⟨z,H3,I3,r3,k,e,q3⟩=>?_) hm
 subst e
 cases r3
 exact wpAny_truthy_bool ⟨H3,I3,q3⟩
def vx (r r':R2) (ta tb tc:TE):TE:=λ σ H Q=>ta σ H λ x H1=>tb σ H1 λ y H2=>r x y H2 λ z H3=>∃k,z=.bl k /\
 (if k=true then tc σ H3 λ w' H4=>r' y w' H4 Q else Q (.bl false) H3)
theorem qk {op op':CmpOp} {r r':R2} (ho:OpR X (compareOp op) r) (ho':OpR X (compareOp op') r') (ha:PE X a ta) (hb:PE X b tb) (hc:PE X c tc)
  (hm:lastMarks [op,op'] [b,c]=false:=by with_unfolding_all rfl):PT X (.Compare a [op,op'] [b,c] pos) (uS (vx r r' ta tb tc)):=by
 intro pins s σ H Q I h
 refine isTrue_chain (thn (ha pins s σ H _ I h) λ v s1 ⟨x,H1,I1,r1,q1⟩=>test_link (thn (hb pins s1 σ H1 _ I1 q1) λ u s2 ⟨y,H2,I2,r2,q2⟩ =>
  thn (ho pins s2 σ H2 x y v u _ I2 r1 r2 q2) λ d s3 ⟨z,H3,I3,r3,k,e,q3⟩=>?_)) hm
 subst e
 cases r3
 refine wpAny_truthy_bool ?_
 cases k with
 | false =>
  obtain ⟨k',e',q'⟩:=q3
  cases e'
  exact ite_ff ⟨H3,I3,q'⟩
 | true =>
  refine ite_tt (test_last (thn (hc pins s3 σ H3 _ I3 q3) λ w' s4 ⟨z',H4,I4,r4,q4⟩=>thn (ho' pins s4 σ H4 y z' u w' _ I4 r2 r4 q4) λ d' s5 ⟨z2,H5,I5,r5,k2,e2,q5⟩=>?_))
  subst e2
  cases r5
  exact wpAny_truthy_bool ⟨H5,I5,q5⟩
def xX (K:PySem.W.Frag) (x:V) (H:Hp) (k:Bool):Prop :=
 match x with
 | .non=>k=false
 | .bl b=>k=b
 | .int i=>k=(i != 0)
 | .str y=>y.length<=sizeLine/\k=((y.length:Int) != 0)
 | .byt y=>y.size<=sizeLine/\k=((y.size:Int) != 0)
 | .ref p=>(∃xs,SqL K H p xs/\k=!xs.isEmpty)\/(∃xs,SqT K H p xs/\k=!xs.isEmpty)\/∃kvs,H p=some (.dK kvs)/\k=!kvs.isEmpty
 | _=>False
theorem kR {κ:Type} {kvs:List (κ×V)} {vs:List (κ×Value)} (r:KV kvs vs):(!vs.isEmpty)=!kvs.isEmpty:=by
 cases r <;> rfl
theorem gK {xs:List V} {its:List Value} (r:Vals xs its):(!its.toArray.isEmpty)=!xs.isEmpty:=by
 cases r <;> simp
theorem fB:(sizeLine:Nat) < 2 ^ 63:=by rw [sizeLine_eq]; decide
theorem vy:Gb X (λ x H Q=>∃k,xX X.K x H k/\Q k H):=by
 intro pins s σ H x v Q I rx h
 obtain ⟨k,e,q⟩:=h
 have hl:=fB
 have hs:sizeLine=16777216:=sizeLine_eq
 cases x with
 | non =>
  cases rx
  have e':k=false:=e
  subst e'
  exact truthy_none ⟨H,I,q⟩
 | bl b =>
  cases rx
  have e':k=b:=e
  subst e'
  exact wpAny_truthy_bool ⟨H,I,q⟩
 | int i =>
  obtain ⟨t,rfl⟩:=rx
  have e':k=(i != 0):=e
  subst e'
  exact PySem.P.truthy_int ⟨H,I,q⟩
 | str y =>
  obtain ⟨t,rfl⟩:=rx
  obtain ⟨hy,e'⟩:y.length<=sizeLine/\k=((y.length:Int) != 0):=e
  subst e'
  exact PySem.P.truthy_str (by omega) ⟨H,I.tok _,q⟩
 | byt y =>
  obtain ⟨t,rfl⟩:=rx
  obtain ⟨hy,e'⟩:y.size<=sizeLine/\k=((y.size:Int) != 0):=e
  subst e'
  exact PySem.W.truthy_bytes (by omega) ⟨H,I.tok _,q⟩
 | ref p =>
  cases rx
  have e':(∃xs,SqL X.K H p xs/\k=!xs.isEmpty)\/(∃xs,SqT X.K H p xs/\k=!xs.isEmpty)\/∃kvs,H p=some (.dK kvs)/\k=!kvs.isEmpty:=e
  rcases e' with ⟨xs,hx,e'⟩ | ⟨xs,hx,e'⟩ | ⟨kvs,hx,e'⟩
  ·subst e'
   obtain ⟨its,r,pl,hz⟩:=I.list hx
   have hlen:=r.length
   exact wpAny_truthy_list pl.isList (by simp only [List.size_toArray]; omega) ⟨H,I.tok _,by rw [gK r]; exact q⟩
  ·subst e'
   obtain ⟨its,r,pl,hz⟩:=I.tuple hx
   have hlen:=r.length
   exact truthy_tuple pl (by simp only [List.size_toArray]; omega) ⟨H,I.tok _,by rw [gK r]; exact q⟩
  ·subst e'
   obtain ⟨hz,hS,vs,r,m⟩:kvs.length<=sizeLine/\(p == sysModules)=false/\∃vs,KV kvs vs/\s.heap.DictOf (iT X.prog X.w) p vs:=I.hok p _ hx
   have hlen:kvs.length=vs.length:=Paired.length r
   exact wpAny_truthy_dict hS m (by omega) ⟨H,I.tok _,by rw [kR r]; exact q⟩
 | _=>exact (show False from e).elim
theorem jQ (ha:PE X a ta) (he:∀aY,isTrue a X.env aY=(do let v<-aY; standAt a.pos; holding [v] (truthy v))) :
  PT X a (λ σ H Q=>ta σ H λ x H'=>∃k,xX X.K x H' k/\Q k H'):=by
 intro pins s σ H Q I h
 exact isTrue_plain (thn (ha pins s σ H _ I h) λ v s1 ⟨x,H1,I1,r1,q1⟩=>vy pins s1 σ H1 x v Q I1 r1 q1) (he _)
theorem ek {x:V} {us:List Value} (r:Vals [x] us):∃u,us=[u]/\RelV x u:=by
 cases r with
 | cons r1 r2=>cases r2; exact ⟨_,Y,r1⟩
theorem uT {x y:V} {us:List Value} (r:Vals [x,y] us):∃u w',us=[u,w']/\RelV x u/\RelV y w':=by
 cases r with
 | cons r1 r2 =>
  cases r2 with
  | cons r3 r4=>cases r4; exact ⟨_,_,Y,r1,r3⟩
theorem jR:cj X (.builtin "abs") (λ xs H Q=>∃i,xs=[.int i]/\Q (.int (if i < 0 then -i else i)) H):=by
 intro pins s σ H xs us Q I r h
 obtain ⟨i,rfl,q⟩:=h
 obtain ⟨u,rfl,t,rfl⟩:=ek r
 exact call_abs_int λ u tk=>⟨.int (if i < 0 then -i else i),H,I.tok _,⟨_,Y⟩,q⟩
theorem ir (hc:X.calm=true):cj X (.builtin "max") (λ xs H Q=>∃i j,xs=[.int i,.int j]/\Q (.int (if j > i then j else i)) H):=by
 intro pins s σ H xs us Q I r h
 obtain ⟨i,j,rfl,q⟩:=h
 obtain ⟨u,w',rfl,⟨t,rfl⟩,⟨t',rfl⟩⟩:=uT r
 refine max_two_ints (I.ok.hd hc) λ h' tk k=>⟨_,H,I.kept k,?_,q⟩
 by_cases hj:j > i
 ·rw [if_pos hj,if_pos hj]; exact ⟨_,Y⟩
 ·rw [if_neg hj,if_neg hj]; exact ⟨_,Y⟩
theorem fC (hc:X.calm=true):cj X (.builtin "min") (λ xs H Q=>∃i j,xs=[.int i,.int j]/\Q (.int (if j < i then j else i)) H):=by
 intro pins s σ H xs us Q I r h
 obtain ⟨i,j,rfl,q⟩:=h
 obtain ⟨u,w',rfl,⟨t,rfl⟩,⟨t',rfl⟩⟩:=uT r
 refine min_two_ints (I.ok.hd hc) λ h' tk k=>⟨_,H,I.kept k,?_,q⟩
 by_cases hj:j < i
 ·rw [if_pos hj,if_pos hj]; exact ⟨_,Y⟩
 ·rw [if_neg hj,if_neg hj]; exact ⟨_,Y⟩
theorem bF:cj X (.type "int") (λ xs H Q=>(∃i,xs=[.int i]/\Q (.int i) H)\/∃k,xs=[.bl k]/\Q (.int (if k then 1 else 0)) H):=by
 intro pins s σ H xs us Q I r h
 rcases h with ⟨i,rfl,q⟩ | ⟨k,rfl,q⟩
 ·obtain ⟨u,rfl,t,rfl⟩:=ek r
  exact call_int_int ⟨.int i,H,I,⟨_,rfl⟩,q⟩
 ·obtain ⟨u,rfl,r1⟩:=ek r
  cases r1
  exact call_int_bool ⟨.int (if k then 1 else 0),H,I.tok _,⟨_,rfl⟩,q⟩
end
end L2
namespace L2
open PySem PySem.Spec PyProof.Rows
structure ObjM (h:Heap) (x dx C:Addr) (mA:Str->Option Value):Prop where
 obj:h.get? x=some (PySem.W.instObj C dx)
 ns:h.Ns1 dx mA
 ne:dx≠x
theorem nA {h:Heap} {dx:Addr} {mA:Str->Option Value} (n:h.Ns1 dx mA):∃od,h.get? dx=some od/\∀name,PySem.W.lookIn name od=some (mA name):=by
 obtain ⟨o,es,ep,ho,hd,hk,_,hm⟩:=n
 refine ⟨o,ho,λ name=>?_⟩
 have e:=hm name
 unfold nsFind findBy at e
 rw [<- Array.find?_toList] at e
 unfold PySem.W.lookIn
 rw [hd]
 dsimp only
 split
 ·rename_i y q
  rw [q] at e
  exact congrArg some e
 ·rename_i q
  rw [q] at e
  have a:es.toList.any (·.refKey)=false:=by
   rw [List.any_eq_false]
   intro y hy
   obtain ⟨z,t,hkey⟩:=hk y (Array.mem_toList_iff.mp hy)
   simp [DictEntry.refKey,hkey]
  have a':¬ es.toList.any (·.refKey)=true:=by rw [a]; exact Bool.false_ne_true
  rw [if_neg a']
  exact congrArg some e
theorem ObjM.look {h:Heap} {x dx C:Addr} {mA:Str->Option Value} (I:ObjM h x dx C mA):∃od,PySem.W.InstAt h x (PySem.W.instObj C dx) C (some od)/\∀name,PySem.W.lookIn name od=some (mA name) :=
 let ⟨od,ho,hl⟩:=nA I.ns
 ⟨od,⟨I.obj,rfl,rfl,ho⟩,hl⟩
section
variable {prog:Program} {w:World} {A:Around} {E:Value->Shared->Prop} {s:Shared} {K:PySem.W.Frag} {x dx C f:Addr} {mA:Str->Option Value} {name:Str} {v:Value}
theorem tw {expr:Bool} {Q:Value->Shared->Prop} (X:K.In s.heap) (I:ObjM s.heap x dx C mA) (hg:PySem.W.plainGet K C name=true) (hh:PySem.W.hasDictIn K C=true)
  (ha:PySem.W.findIn K (.ref C) name=some none) (hv:mA name=some v) (hv':PySem.W.handedIn v=true) (h:Q v { s with toks:=s.toks + 1 }) :
  wpAny (model prog w) A (getAttr (.ref x) name expr) Q E s:=by
 obtain ⟨od,J,hl⟩:=I.look
 exact PySem.W.get_value X J (PySem.W.plainGet_of hg).1 (PySem.W.findObj_own hh ha rfl (by rw [hl,hv])) hv' h
theorem qo {pl:Sem Bool} {Q:Value×List Value->Shared->Prop} (X:K.In s.heap) (I:ObjM s.heap x dx C mA) (hg:PySem.W.plainGet K C name=true)
  (hf:PySem.W.findIn K (.ref C) name=some (some (.ref f))) (ht:PySem.W.isFn K (.ref f)=true) (hv:mA name=none) (h:Q (.ref f,[.ref x]) s) :
  wpAny (model prog w) A (getMethod (.ref x) name pl) Q E s:=by
 obtain ⟨od,J,hl⟩:=I.look
 exact PySem.W.method_fn X J (PySem.W.plainGet_of hg).1 (PySem.W.plainGet_of hg).2 hf (beq_iff_eq.mp ht) (by show (PySem.W.lookIn name od).map (·.isSome)=some false; rw [hl,hv]; rfl) h
theorem tz {ns:List Str} {Q:Unit->Shared->Prop} (X:K.In s.heap) (I:ObjM s.heap x dx C mA)
  (hs:PySem.W.findIn K (.ref C) "__setattr__" = some (some (.builtin "object.__setattr__"))) (hp:PySem.W.plainOver K C=true) (ht:PySem.W.takerIn K C name=some none) (hh:PySem.W.hasDictIn K C=true)
  (hw:PySem.Within mA ns) (hsz:ns.length<=sizeLine)
  (h:∀h',ObjM h' x dx C (λ y=>if y=name then some v else mA y)->Heap.SameBut dx s.heap h'->Q () { s with heap:=h',toks:=s.toks + 2 }) :
  wpAny (model prog w) A (setAttr (.ref x) name v) Q E s:=by
 obtain ⟨od,J,hl⟩:=I.look
 refine PySem.W.set_plain X J hs (PySem.W.osa_open (s:={ s with toks:=s.toks + 1 }) (r:=none) X J hp ht λ b=>?_)
 obtain ⟨cd,hc,hd'⟩:=PySem.W.any_some hh
 have hx:s.heap.get? x=some ⟨.ref C,some dx,.plain,#[]⟩:=I.obj
 refine wpAny_bind (wpAny_pure (wpAny_bind (wpAny_bind (wpAny_loadPart hx (wpAny_bind (PySem.W.Looks.here (s:={ s with toks:=s.toks + 1 }) (PySem.W.looks_clsIn X hc) ?_))))))
 rw [hd']
 refine wpAny_pure (a:=some dx) (wpAny_bind (wpAny_pure (wpAny_bind ?_)))
 refine wpAny_nsSet1 (s:={ s with toks:=s.toks + 1 }) I.ns λ h' hn2 hs2=>?_
 obtain ⟨oD,esD,epD,hoD,hdD,hcD⟩:=hn2.count (PySem.Within.cons name v hw)
 refine wpAny_bind (wpAny_lookBehind hoD (by rw [hdD]; exact pastItsLine_dict (Nat.le_trans hcD (by rw [List.length_cons]; omega))) ?_)
 exact wpAny_pure (h _ ⟨(hs2.2 _ (Ne.symm I.ne)).trans I.obj,hn2,I.ne⟩ hs2)
theorem qp {R:Result->Shared->Prop} {vs:List Value} {kw:List (Str×Value)} (X:K.In s.heap) (hm:PySem.W.makesIn K C=true)
  (hi:PySem.W.findIn K (.ref C) "__init__" = some (some (.ref f))) (hf:PySem.W.typeIn K (.ref f)=some (.type "function"))
  (h:codeAny (model prog w) (A.under (.builtin "type.__call__" ⟨.ref C :: vs,kw⟩)) (.call (.ref f) ⟨.ref (s.heap.objs.size + 1) :: vs,kw⟩) (PySem.W.InitBack (s.heap.objs.size + 1) R)
   { s with heap:=(s.heap.push PySem.W.emptyDict).push (PySem.W.instObj C s.heap.objs.size) }) :
  codeAny (model prog w) A (.call (.ref C) ⟨vs,kw⟩) R s:=by
 obtain ⟨hh,g,d,t,os⟩:=s
 exact PySem.W.make_core (PySem.W.makes_of X hm) (PySem.W.looks_findIn X hi) (λ self=>PySem.W.bind_fn X self hf) (.inl rfl) h
end
def cF (f:Str) (v:V):List (Str×V)->List (Str×V)
 | []=>[(f,v)]
 | (g,x) :: r=>if g=f then (g,v) :: r else (g,x) :: cF f v r
theorem bD (f g:Str) (v:V):∀fs:List (Str×V),(cF f v fs).lookup g=if g=f then some v else fs.lookup g
 | []=>by
  show List.lookup g [(f,v)]=_
  by_cases h:g=f
  ·have hb:(g == f)=true:=beq_iff_eq.mpr h
   simp only [List.lookup,hb,if_pos h]
  ·have hb:(g == f)=false:=beq_eq_false_iff_ne.mpr h
   simp only [List.lookup,hb,if_neg h]
 | (k,x) :: r=>by
  have ih:=bD f g v r
  rw [show cF f v ((k,x) :: r)=(if k=f then (k,v) :: r else (k,x) :: cF f v r) from rfl]
  by_cases hk:k=f
  ·rw [if_pos hk]
   by_cases h:g=k
   ·have hb:(g == k)=true:=beq_iff_eq.mpr h
    simp only [List.lookup,hb,if_pos (h.trans hk)]
   ·have hb:(g == k)=false:=beq_eq_false_iff_ne.mpr h
    simp only [List.lookup,hb,if_neg (λ e:g=f=>h (e.trans hk.symm))]
  ·rw [if_neg hk]
   by_cases h:g=k
   ·have hb:(g == k)=true:=beq_iff_eq.mpr h
    simp only [List.lookup,hb,if_neg (λ e:g=f=>hk (h.symm.trans e))]
   ·have hb:(g == k)=false:=beq_eq_false_iff_ne.mpr h
    simp only [List.lookup,hb]
    exact ih
theorem fD (f:Str) (v:V):∀fs:List (Str×V),f∈(cF f v fs).map (·.1)/\∀g,g∈fs.map (·.1)->g∈(cF f v fs).map (·.1)
 | []=>⟨by simp [cF],λ g h=>by simp at h⟩
 | (k,x) :: r=>by
  obtain ⟨i1,i2⟩:=fD f v r
  rw [show cF f v ((k,x) :: r)=(if k=f then (k,v) :: r else (k,x) :: cF f v r) from rfl]
  by_cases hk:k=f
  ·rw [if_pos hk]
   subst hk
   exact ⟨by simp,λ g h=>by simpa using h⟩
  ·rw [if_neg hk]
   refine ⟨?_,λ g h=>?_⟩
   ·rw [List.map_cons]
    exact List.mem_cons_of_mem _ i1
   ·rw [List.map_cons] at h ⊢
    rcases List.mem_cons.mp h with e | e
    ·exact List.mem_cons.mpr (.inl e)
    ·exact List.mem_cons_of_mem _ (i2 g e)
theorem dB (f:Str) (v:V):∀fs:List (Str×V),(cF f v fs).length<=fs.length + 1
 | []=>by simp [cF]
 | (k,x) :: r=>by
  have ih:=dB f v r
  rw [show cF f v ((k,x) :: r)=(if k=f then (k,v) :: r else (k,x) :: cF f v r) from rfl]
  by_cases hk:k=f
  ·rw [if_pos hk,List.length_cons,List.length_cons]; omega
  ·rw [if_neg hk,List.length_cons,List.length_cons]; omega
theorem RelO.some_of {v:V} {o:Option Value} (r:RelO (some v) o):∃u,o=some u/\RelV v u:=by
 cases o with
 | none=>exact (show False from r).elim
 | some u=>exact ⟨u,Y,r⟩
theorem RelO.none_of {o:Option Value} (r:RelO none o):o=none:=by
 cases o with
 | none=>rfl
 | some u=>exact (show False from r).elim
theorem nC {v:V} {u:Value} (r:RelV v u):PySem.W.handedIn u=true:=by
 cases v with
 | non=>cases (show u=Value.none from r); rfl
 | bl b=>cases (show u=Value.bool b from r); rfl
 | int i=>obtain ⟨t,e⟩:=(show ∃t,u=Value.int i t from r); cases e; rfl
 | str x=>obtain ⟨t,e⟩:=(show ∃t,u=Value.str x t from r); cases e; rfl
 | byt b=>obtain ⟨t,e⟩:=(show ∃t,u=Value.bytes b t from r); cases e; rfl
 | flt b=>obtain ⟨t,e⟩:=(show ∃t,u=Value.float b t from r); cases e; rfl
 | ref a=>cases (show u=Value.ref a from r); rfl
 | ty n=>cases (show u=Value.type n from r); rfl
section
variable {P:Program} {w:World} {H H':Hp} {h h':Heap} {a C dx:Addr} {fs fs':List (Str×V)}
theorem eN (hok:HOk P w H h) (e:H a=some (.ins C dx fs)):∃mA,ObjM h a dx C mA/\(∀f,RelO (fs.lookup f) (mA f))/\PySem.Within mA (fs.map (·.1))/\fs.length<=1000/\H dx=some (.own a):=by
 obtain ⟨d,z,ne,ob,mA,n,r,q⟩:=(show ObjOk P w H h a (.ins C dx fs) from hok a _ e)
 exact ⟨mA,⟨ob,n,ne⟩,r,q,z,d⟩
end
structure Cls (K:PySem.W.Frag) (C:Addr):Prop where
 pg:PySem.W.plainGet K C Str.empty=true
 hd:PySem.W.hasDictIn K C=true
 po:PySem.W.plainOver K C=true
 sa:PySem.W.findIn K (.ref C) "__setattr__" = some (some (.builtin "object.__setattr__"))
theorem Cls.get {K:PySem.W.Frag} {C:Addr} (c:Cls K C) (f:Str):PySem.W.plainGet K C f=true:=c.pg
def NoAttr (K:PySem.W.Frag) (C:Addr) (f:Str):Prop:=PySem.W.findIn K (.ref C) f=some none
theorem NoAttr.taker {K:PySem.W.Frag} {C:Addr} {f:Str} (n:NoAttr K C f):PySem.W.takerIn K C f=some none:=by
 unfold PySem.W.takerIn
 rw [show PySem.W.findIn K (.ref C) f=some none from n]
 rfl
structure Con (K:PySem.W.Frag) (C:Addr) (f:Str) (v:V) (u:Value):Prop where
 at_:PySem.W.findIn K (.ref C) f=some (some u)
 rel:RelV v u
 get:PySem.W.specialIn K u "__get__" = some none
 cp:PySem.W.copiedNames.contains f=false
structure Meth (K:PySem.W.Frag) (C:Addr) (m:Str) (f:Addr):Prop where
 at_:PySem.W.findIn K (.ref C) m=some (some (.ref f))
 fn:PySem.W.isFn K (.ref f)=true
 kp:PySem.W.keepIn K (.ref f)=true
section
variable {X:Cx} {pins:List (Addr×Obj)} {σ:St} {H:Hp} {s:Shared} {a C dx:Addr} {fs:List (Str×V)} {f:Str} {v:V} {A:Around} {E:Value->Shared->Prop}
theorem kS {b:Bool} {Q:Value->Shared->Prop} (I:Inv X pins σ H s) (e:H a=some (.ins C dx fs)) (c:Cls X.K C) (n:NoAttr X.K C f) (l:fs.lookup f=some v)
  (h:∀u s',Inv X pins σ H s'->RelV v u->Q u s'):wpAny (model X.prog X.w) A (getAttr (.ref a) f b) Q E s:=by
 obtain ⟨mA,O,r,_,_,_⟩:=eN I.hok e
 obtain ⟨u,hu,ru⟩:=RelO.some_of (v:=v) (o:=mA f) (by rw [<- l]; exact r f)
 exact tw I.kIn O (c.get f) c.hd n hu (nC ru) (h u _ (I.tok _) ru)
theorem eD {m:Str} {g:Addr} {pl:Sem Bool} {Q:Value×List Value->Shared->Prop} (I:Inv X pins σ H s) (e:H a=some (.ins C dx fs)) (c:Cls X.K C) (k:Meth X.K C m g) (l:fs.lookup m=none)
  (h:Q (.ref g,[.ref a]) s):wpAny (model X.prog X.w) A (getMethod (.ref a) m pl) Q E s:=by
 obtain ⟨mA,O,r,_,_,_⟩:=eN I.hok e
 have hn:mA m=none:=RelO.none_of (by rw [<- l]; exact r m)
 exact qo I.kIn O (c.get m) k.at_ k.fn hn h
theorem kT {y:V} {u:Value} {Q:Unit->Shared->Prop} (I:Inv X pins σ H s) (e:H a=some (.ins C dx fs)) (c:Cls X.K C) (n:NoAttr X.K C f) (hl:fs.length < 1000) (ry:RelV y u)
  (h:∀s',Inv X pins σ (upd H a (.ins C dx (cF f y fs))) s'->Q () s'):wpAny (model X.prog X.w) A (setAttr (.ref a) f u) Q E s:=by
 obtain ⟨mA,O,r,wi,_,ho⟩:=eN I.hok e
 have hz:(fs.map (·.1)).length<=sizeLine:=by rw [List.length_map,sizeLine_eq]; omega
 refine tz I.kIn O c.sa c.po n.taker c.hd wi hz λ h' O' sb=>h _ ?_
 have hd:∃o,h'.get? dx=some o:=let ⟨o,_,_,e',_⟩:=O'.ns; ⟨o,e'⟩
 refine I.write (x:=a) (e:=dx) (by rw [e]; exact True.intro) (.inr ho) (λ b q hb z=>(sb.2 b hb).trans z) hd ?_
 refine ⟨by rw [au O.ne]; exact ho,?_,O.ne,O'.obj,_,O'.ns,λ g=>?_,λ g hg=>?_⟩
 ·have:=dB f y fs; omega
 ·show RelO ((cF f y fs).lookup g) (if g=f then some u else mA g)
  rw [bD]
  by_cases q:g=f
  ·rw [if_pos q,if_pos q]; exact ry
  ·rw [if_neg q,if_neg q]; exact r g
 ·by_cases q:g=f
  ·rw [q]; exact (fD f y fs).1
  ·refine (fD f y fs).2 g (wi g λ z=>hg ?_)
   show (if g=f then some u else mA g)=none
   rw [if_neg q]; exact z
theorem Inv.made (I:Inv X pins σ H s):Inv X pins σ (upd (upd H s.heap.objs.size (.own (s.heap.objs.size + 1))) (s.heap.objs.size + 1) (.ins C s.heap.objs.size []))
  { s with heap:=(s.heap.push PySem.W.emptyDict).push (PySem.W.instObj C s.heap.objs.size) }:=by
 have e1:(s.heap.push PySem.W.emptyDict).get? s.heap.objs.size=some PySem.W.emptyDict:=Heap.get?_push_size s.heap rfl
 have e2:((s.heap.push PySem.W.emptyDict).push (PySem.W.instObj C s.heap.objs.size)).get? (s.heap.objs.size + 1)=some (PySem.W.instObj C s.heap.objs.size):=by
  have:=Heap.get?_push_size (s.heap.push PySem.W.emptyDict) (o:=PySem.W.instObj C s.heap.objs.size) rfl
  rwa [Heap.size_push] at this
 have e3:(s.heap.push PySem.W.emptyDict).Ns s.heap.objs.size (λ _=>none):=⟨PySem.W.emptyDict,#[],_,e1,Y,(λ e he=>absurd he (by simp)),λ _=>rfl⟩
 have I1:=I.laid (a:=s.heap.objs.size) (o:=.own (s.heap.objs.size + 1)) (h':=s.heap.push PySem.W.emptyDict) (t':=s.toks) (λ b u q=>Heap.get?_push_of_some _ q) (Nat.le_refl _) ⟨_,e1⟩
 refine I1.laid (a:=s.heap.objs.size + 1) (o:=.ins C s.heap.objs.size []) (t':=s.toks) (λ b u q=>Heap.get?_push_of_some _ q) (Nat.le_of_eq (Heap.size_push _ _)) ?_
 have ne:s.heap.objs.size≠s.heap.objs.size + 1:=Nat.ne_of_lt (Nat.lt_succ_self _)
 refine ⟨by rw [au ne,af],Nat.zero_le _,ne,e2,λ _=>none,(Heap.Ns1.of_empty e3).at λ o q=>Heap.get?_push_of_some _ q,λ _=>True.intro,λ y hy=>absurd rfl hy⟩
theorem tD {prog:Program} {w:World} {env:Env} {e:Expr} {f:Str} {pos:Pos} {s:Shared} {Q:Value->Shared->Prop} (hb:attributeBase e f env (eval e env)=eval e env)
  (h:wpAny (model prog w) A (eval e env) (λ o s₁=>wpAny (model prog w) A (getAttr o f true) Q E s₁) E s):wpAny (model prog w) A (eval (.Attribute e f pos) env) Q E s :=
 Attribute_any_ h (by rw [arm_eval_Attribute,hb])
end
def Gd (K:PySem.W.Frag) (ta:TE) (f:Str):TE:=λ σ H Q=>ta σ H λ x H1=>∃a C dx fs v,x=.ref a/\H1 a=some (.ins C dx fs)/\Cls K C/\NoAttr K C f/\fs.lookup f=some v/\Q v H1
def xY (K:PySem.W.Frag) (ta tv:TE) (f:Str):TS:=λ D σ H=>tv σ H λ y H1=>ta σ H1 λ x H2=>∃a C dx fs,x=.ref a/\H2 a=some (.ins C dx fs)/\Cls K C/\NoAttr K C f/\fs.length < 1000 /\
 D.nx σ (upd H2 a (.ins C dx (cF f y fs)))
section
variable {X:Cx} {o e value:Expr} {f:Str} {pos pos' tpos:Pos} {ta tv:TE}
theorem ja (he:PE X e ta) (hb:attributeBase e f X.env (eval e X.env)=eval e X.env):PE X (.Attribute e f pos) (Gd X.K ta f):=by
 intro pins s σ H Q I h
 refine tD hb (thn (he pins s σ H _ I h) λ u s1 ⟨x,H1,I1,rx,a,C,dx,fs,v,ex,ea,c,n,l,q⟩=>?_)
 subst ex
 obtain rfl:u=Value.ref a:=rx
 exact kS I1 ea c n l λ u' s2 I2 ru=>⟨v,H1,I2,ru,q⟩
theorem qq (ha:PE X o ta) (hv:PE X value tv) (hs:swapsWith value (some (.Attribute o f pos')) pos.line X.env=pure false):PS X (.Assign [.Attribute o f pos'] value pos) (xY X.K ta tv f):=by
 intro pins s σ H D I h
 refine plainObj_wpAny_Assign_Attribute (thn (hv pins s σ H _ I h) λ u s1 ⟨y,H1,I1,ry,q⟩=>thn (ha pins s1 σ H1 _ I1 q) λ ov s2 ⟨x,H2,I2,rx,a,C,dx,fs,ex,ea,c,n,l,q2⟩=>?_) hs
 subst ex
 obtain rfl:ov=Value.ref a:=rx
 exact kT I2 ea c n l ry λ s3 I3=>⟨σ,_,I3,q2⟩
theorem uU {pl:Sem Bool} {m:Str} {apos:Pos} {args:List Expr} {pins:List (Addr×Obj)} {s:Shared} {σ:St} {H:Hp} {Q:Value->Shared->Prop} {te:TE} (he:PE X e te) (I:Inv X pins σ H s)
  (h:te σ H λ x H1=>∃a C dx fs g,x=.ref a/\H1 a=some (.ins C dx fs)/\Cls X.K C/\Meth X.K C m g/\fs.lookup m=none /\
   ∀s1,Inv X pins σ H1 s1->wpAny (model X.prog X.w) X.A (callWith pos (.ref g) [.ref a] (backTo pos (starEach args X.env)) (backToKw pos (keywordEach [] X.env))) Q X.xe s1)
  (ht:eval (.Call (.Attribute e m apos) args [] pos) X.env=(do
   let ov<-eval e X.env
   standAt apos.atName
   let (f,first)<-holding [ov] (getMethod ov m pl)
   callWith pos f first (backTo pos (starEach args X.env)) (backToKw pos (keywordEach [] X.env)))) :
  wpAny (model X.prog X.w) X.A (eval (.Call (.Attribute e m apos) args [] pos) X.env) Q X.xe s:=by
 refine PySem.W.methodCall_KW (pl:=pl) (thn (he pins s σ H _ I h) λ u s1 ⟨x,H1,I1,rx,a,C,dx,fs,g,ex,ea,c,k,l,q⟩=>?_) ht
 subst ex
 obtain rfl:u=Value.ref a:=rx
 exact eD I1 ea c k l (q s1 I1)
end
section
variable {X:Cx} {pins:List (Addr×Obj)} {σ:St} {H:Hp} {s:Shared} {A:Around} {E:Value->Shared->Prop} {Q:Value->Shared->Prop} {c:Value} {b:Bool}
inductive TyOf (K:PySem.W.Frag) (H:Hp):V->Value->Prop where
 | non:TyOf K H .non (.type "NoneType")
 | bl (x:Bool):TyOf K H (.bl x) (.type "bool")
 | int (i:Int):TyOf K H (.int i) (.type "int")
 | str (x:Str):TyOf K H (.str x) (.type "str")
 | flt (x:UInt64):TyOf K H (.flt x) (.type "float")
 | lst {a:Addr} {xs:List V} (e:H a=some (.lst xs)):TyOf K H (.ref a) (.type "list")
 | frz {a:Addr} {o:Obj} {xs:List V} (e:H a=some (.frz o (.lst xs))):TyOf K H (.ref a) (.type "list")
 | tup {a:Addr} {xs:List V} (e:H a=some (.tup xs)):TyOf K H (.ref a) (.type "tuple")
 | dK {a:Addr} {kvs:List (Key×V)} (e:H a=some (.dK kvs)):TyOf K H (.ref a) (.type "dict")
 | dT {a:Addr} {kvs:List (List Key×V)} (e:H a=some (.dT kvs)):TyOf K H (.ref a) (.type "dict")
 | ins {a C dx:Addr} {fs:List (Str×V)} (e:H a=some (.ins C dx fs)) (cl:Cls K C) (ha:PySem.W.findIn K (.ref C) "__class__" = some (some (.builtin "object.__class__")))
   (hn:PySem.W.specialIn K (.builtin "object.__class__") "__get__" = some (some (.builtin "getset_descriptor.__get__"))) (htk:PySem.W.takesIn K (.builtin "object.__class__")=some true)
   (hm:PySem.W.mroIn K C (.type "object")=some true):TyOf K H (.ref a) (.ref C)
theorem nD {x:V} {u t:Value} (I:Inv X pins σ H s) (rx:RelV x u) (ty:TyOf X.K H x t) (e:PySem.W.kitOne X.K t c=some b) (h:∀tk,Q (.bool b) { s with toks:=tk }) :
  wpAny (model X.prog X.w) A (call (.builtin "isinstance") [u,c]) Q E s:=by
 cases ty with
 | non=>cases (show u=Value.none from rx); exact PySem.W.kia_one PySem.W.kitx_none I.kIn True.intro e (λ z=>nomatch z) h
 | bl y=>cases (show u=Value.bool y from rx); exact PySem.W.kia_one PySem.W.kitx_bool I.kIn True.intro e (λ z=>nomatch z) h
 | int i=>obtain ⟨t,q⟩:=(show ∃t,u=Value.int i t from rx); cases q; exact PySem.W.kia_one PySem.W.kitx_int I.kIn True.intro e (λ z=>nomatch z) h
 | str y=>obtain ⟨t,q⟩:=(show ∃t,u=Value.str y t from rx); cases q; exact PySem.W.kia_one PySem.W.kitx_str I.kIn True.intro e (λ z=>nomatch z) h
 | flt y=>obtain ⟨t,q⟩:=(show ∃t,u=Value.float y t from rx); cases q; exact PySem.W.kia_one PySem.W.kitx_float I.kIn True.intro e (λ z=>nomatch z) h
 | @lst a xs ea =>
  cases (show u=Value.ref a from rx)
  obtain ⟨_,_,n,_,h1⟩:=(show ObjOk X.prog X.w H s.heap a (.lst xs) from I.hok a _ ea)
  exact PySem.W.kia_one PySem.W.kitx_list I.kIn ⟨_,h1,Y⟩ e (λ z=>nomatch z) h
 | @frz a ob xs ea =>
  cases (show u=Value.ref a from rx)
  obtain ⟨_,_,_,n,_,h1⟩:=(show ObjOk X.prog X.w H s.heap a (.frz ob (.lst xs)) from I.hok a _ ea)
  exact PySem.W.kia_one PySem.W.kitx_list I.kIn ⟨_,h1,Y⟩ e (λ z=>nomatch z) h
 | @tup a xs ea =>
  cases (show u=Value.ref a from rx)
  obtain ⟨_,_,_,p⟩:=(show ObjOk X.prog X.w H s.heap a (.tup xs) from I.hok a _ ea)
  obtain ⟨o,h1,h2,_⟩:=p
  exact PySem.W.kia_one PySem.W.kitx_tuple I.kIn ⟨o,h1,h2⟩ e (λ z=>nomatch z) h
 | @dK a kvs ea =>
  cases (show u=Value.ref a from rx)
  obtain ⟨_,_,vs,_,p⟩:=(show ObjOk X.prog X.w H s.heap a (.dK kvs) from I.hok a _ ea)
  obtain ⟨o,es,ep,h1,h2,_⟩:=p
  exact PySem.W.kia_one PySem.W.kitx_dict I.kIn ⟨o,h1,h2.1⟩ e (λ z=>nomatch z) h
 | @dT a kvs ea =>
  cases (show u=Value.ref a from rx)
  obtain ⟨_,_,xs,_,o,es,ep,h1,h2,_⟩:=(show ObjOk X.prog X.w H s.heap a (.dT kvs) from I.hok a _ ea)
  exact PySem.W.kia_one PySem.W.kitx_dict I.kIn ⟨o,h1,h2.1⟩ e (λ z=>nomatch z) h
 | @ins a C dx fs ea cl ha hn htk hm =>
  cases (show u=Value.ref a from rx)
  obtain ⟨mA,O,_⟩:=eN I.hok ea
  obtain ⟨od,J,_⟩:=O.look
  exact PySem.W.kia_one (PySem.W.kitx_own (cl.get _) cl.hd ha hn htk hm) I.kIn J e (λ z=>nomatch z) h
end
end L2
namespace L2
open PySem PySem.Spec PyProof.Rows
structure Room (k:Nat) (A:Around):Prop where
 hd:A.handled=none
 dp:A.depth + 3 * k + 5 < recursionLimit
 un:A.units + 16 * k + 200 < cLine
 gd:A.guards=some []
theorem Room.mono {j k:Nat} {A:Around} (r:Room k A) (h:j<=k):Room j A:=⟨r.hd,by have:=r.dp; omega,by have:=r.un; omega,r.gd⟩
theorem Room.deeper {k:Nat} {A:Around} (r:Room (k + 1) A) (env:Env):Room k (A.deeper env) :=
 ⟨r.hd,by have:=r.dp; show A.depth + 1 + 3 * k + 5 < _; omega,by have:=r.un; show A.units + 3 + 16 * k + 200 < _; omega,r.gd⟩
theorem kU {A:Around} {C:Addr} {us:List Value} {kw:List (Str×Value)}:(A.under (.builtin "type.__call__" ⟨.ref C :: us,kw⟩)).depth=A.depth + 1:=by
 first | rfl | simp [Around.under,Code.weight,Code.isCreation,Code.isGuard,Code.isCaller,Code.frames,Code.isFrame,guardIds]
theorem kW {A:Around} {C:Addr} {us:List Value} {kw:List (Str×Value)}:(A.under (.builtin "type.__call__" ⟨.ref C :: us,kw⟩)).units=A.units + 1:=by
 first | rfl | simp [Around.under,Code.cUnits,Code.frames,Code.isFrame]
theorem jS {A:Around} {C:Addr} {us:List Value} {kw:List (Str×Value)}:(A.under (.builtin "type.__call__" ⟨.ref C :: us,kw⟩)).guards=A.guards:=by
 have e:Code.guards (.builtin "type.__call__" ⟨.ref C :: us,kw⟩)=[]:=by
  have:(Code.builtin "type.__call__" ⟨.ref C :: us,kw⟩).isGuard=false:=by show guardIds.contains "type.__call__" = false; decide +kernel
  simp [Code.guards,this]
 unfold Around.under
 dsimp only
 rw [e]
 rfl
theorem Room.make {k:Nat} {A:Around} (r:Room (k + 1) A) (C:Addr) (us:List Value) (kw:List (Str×Value)):Room k (A.under (.builtin "type.__call__" ⟨.ref C :: us,kw⟩)) :=
 ⟨r.hd,by have:=r.dp; rw [kU]; omega,by have:=r.un; rw [kW]; omega,by rw [jS]; exact r.gd⟩
theorem Room.depth {k:Nat} {A:Around} (r:Room k A):A.depth < recursionLimit:=by have:=r.dp; omega
theorem Room.units {k:Nat} {A:Around} (r:Room k A):A.units + 64 < cLine:=by have:=r.un; omega
def tE:TA:=λ _ H Q=>Q [] H
def uV (ta:TE) (tr:TA):TA:=λ σ H Q=>ta σ H λ x H1=>tr σ H1 λ xs H2=>Q (x :: xs) H2
section
variable {X:Cx} {e:Expr} {es:List Expr} {te:TE} {t:TA} {pos:Pos}
theorem ab:PA X [] tE:=λ _ _ _ _ H Q I h=>Calls.spliced_nil ⟨[],H,I,.nil,h⟩
theorem aa (ha:PE X e te) (hr:PA X es t) (hs:starEach (e :: es) X.env=(false,eval e X.env) :: starEach es X.env:=by rfl):PA X (e :: es) (uV te t):=by
 intro pos pins s σ H Q I h
 rw [hs]
 show wpAny _ _ (spliced ((false,eval e X.env) :: backTo pos (starEach es X.env))) _ _ s
 refine Calls.spliced_cons (thn (ha pins s σ H _ I h) λ u s1 ⟨x,H1,I1,r1,q1⟩=>?_)
 exact thn (hr pos pins s1 σ H1 _ I1 q1) λ us s2 ⟨xs,H2,I2,r2,q2⟩=>⟨x :: xs,H2,I2,.cons r1 r2,q2⟩
def Ge (t:TA):TE:=λ σ H Q=>t σ H λ xs H1=>xs.length<=sizeLine/\∀p,H1 p=none->Q (.ref p) (upd H1 p (.tup xs))
def Gf (t:TA):TE:=λ σ H Q=>t σ H λ xs H1=>xs.length<=sizeLine/\∀p,H1 p=none->Q (.ref p) (upd H1 p (.lst xs))
theorem az {x1} (h:PA X es t):PE X (.Tuple es x1 pos) (Ge t):=by
 intro pins s σ H Q I hq
 refine wpAny_Tuple_spliced (thn (h pos pins s σ H _ I hq) λ us s1 ⟨xs,H1,I1,r,z,q⟩=>⟨by rw [<- r.length]; exact z,?_⟩)
 have hf:H1 s1.heap.objs.size=none:=I1.hok.fresh (Nat.le_refl _)
 refine ⟨.ref s1.heap.objs.size,upd H1 s1.heap.objs.size (.tup xs),I1.laid (t':=s1.toks) (λ b u e=>Heap.get?_push_of_some _ e) (Nat.le_refl _) ?_,Y,q _ hf⟩
 exact ⟨z,us,r,⟨_,Heap.get?_push_size _ rfl,Y,_,Y⟩⟩
theorem aJ (h:PA X es t):PE X (.List es pos) (Gf t):=by
 intro pins s σ H Q I hq
 refine wpAny_List_spliced (thn (h pos pins s σ H _ I hq) λ us s1 ⟨xs,H1,I1,r,z,q⟩=>⟨by rw [<- r.length]; exact z,?_⟩)
 have hf:H1 s1.heap.objs.size=none:=I1.hok.fresh (Nat.le_refl _)
 refine ⟨.ref s1.heap.objs.size,upd H1 s1.heap.objs.size (.lst xs),I1.laid (t':=s1.toks) (λ b u e=>Heap.get?_push_of_some _ e) (Nat.le_refl _) ?_,Y,q _ hf⟩
 exact ⟨z,us,0,r,Heap.get?_push_size _ rfl⟩
end
abbrev Sp:=List V->Hp->VK->XK->Prop
abbrev CXT:=List Env->Hp->Shared->XK->Value->Shared->Prop
structure Env0 (P:Program) (w:World) (K:PySem.W.Frag) (mg:Str->Option Value) (base:Heap) (A:Around) (outer:List Env) (s:Shared) (H:Hp):Prop where
 frames:A.frames=some outer
 mod:Mod K mg base
 bs:∀b o,base.get? b=some o->s.heap.get? b=some o/\H b=none
 bsz:base.objs.size<=s.heap.objs.size
 funs:s.heap.FunFrames base outer
 frf:∀b∈frs outer,H b=none
 hok:HOk P w H s.heap
 bare:AllBare s.gens
def CE (outer:List Env) (P:Program) (w:World) (H:Hp) (s:Shared) (Q:VK) (u:Value) (s':Shared):Prop :=
 ∃v H',s'.os=s.os/\AllBare s'.gens/\Un (frs outer) [] H H' s.heap s'.heap/\HOk P w H' s'.heap/\RelV v u/\Q v H'
def CR (CX:CXT) (outer:List Env) (P:Program) (w:World) (H:Hp) (s:Shared) (Q:VK) (E:XK) (r:Result) (s':Shared):Prop :=
 match r with
 | .ok (.ret u)=>CE outer P w H s Q u s'
 | .ok _=>False
 | .error e=>CX outer H s E e s'
structure FnOk (P:Program) (w:World) (K:PySem.W.Frag) (mg:Str->Option Value) (base:Heap) (CX:CXT) (k:Nat) (f:Addr) (fd:FuncData) (ps:List Str) (sp:Sp):Prop where
 len:∀vs H Q E,sp vs H Q E->vs.length=ps.length
 run:∀ (A:Around) (outer:List Env) (s:Shared) (H:Hp) (args:Args) (us:List Value) (vs:List V) (Q:VK) (E:XK),Room k A->Env0 P w K mg base A outer s H->BindsTo s fd args (ps.zip us)->Vals vs us->sp vs H Q E ->
  codeAny (model P w) A (.call (.ref f) args) (CR CX outer P w H s Q E) s
theorem Env0.make {P:Program} {w:World} {K:PySem.W.Frag} {mg:Str->Option Value} {base:Heap} {A:Around} {outer:List Env} {s:Shared} {H:Hp} (e:Env0 P w K mg base A outer s H) (C:Addr) (us:List Value) (kw:List (Str×Value)) :
  Env0 P w K mg base (A.under (.builtin "type.__call__" ⟨.ref C :: us,kw⟩)) outer s H:=⟨by first | exact e.frames | (simpa [Around.under,Code.envs,Code.isFrame,pushEnvs] using e.frames),e.mod,e.bs,e.bsz,e.funs,e.frf,e.hok,e.bare⟩
section
variable {X:Cx} {pins:List (Addr×Obj)} {σ:St} {H:Hp} {s s':Shared}
theorem Inv.env0 (I:Inv X pins σ H s):Env0 X.prog X.w X.K X.mg X.base X.A X.stack s H :=
 ⟨I.ok.frames,I.ok.mod,I.bs,Nat.le_trans I.ok.bsz I.sz,I.stack,I.stkFree,I.hok,I.bare⟩
theorem Inv.after {Q:VK} {u:Value} (I:Inv X pins σ H s) (h:CE X.stack X.prog X.w H s Q u s'):EP X pins σ Q u s':=by
 obtain ⟨v,H',os,bare,un,hok,r,q⟩:=h
 obtain ⟨hh,g,d,t,os'⟩:=s'
 obtain rfl:os'=s.os:=os
 exact ⟨v,H',I.call (h':=hh) (g':=g) (d':=d) (t':=t) (ch:=[]) un hok bare (λ b z=>absurd z (by simp)),r,q⟩
end
def uW (sp:Sp) (dvs:List V) (E:XK) (t:TA):TE:=λ σ H Q=>t σ H λ vs H1=>sp (vs ++ dvs) H1 Q E
def mn (C:Addr) (m:Str) (sp:Sp) (dvs:List V) (E:XK) (ta:TE) (t:TA):TE:=λ σ H Q=>ta σ H λ x H1=>∃a dx fs,x=.ref a/\H1 a=some (.ins C dx fs)/\fs.lookup m=none /\
 t σ H1 λ vs H2=>sp (x :: (vs ++ dvs)) H2 Q E
def uX (C:Addr) (sp:Sp) (dvs:List V) (E:XK) (t:TA):TE:=λ σ H Q=>t σ H λ vs H1=>∀x dx,H1 x=none->H1 dx=none->dx≠x ->
 sp (.ref x :: (vs ++ dvs)) (upd (upd H1 dx (.own x)) x (.ins C dx [])) (λ v H2=>v=.non/\Q (.ref x) H2) E
def Binds (K:PySem.W.Frag) (fd:FuncData) (ps:List Str) (ds:List Value):Prop :=
 ∀ (s:Shared) (us:List Value),K.In s.heap->(us ++ ds).length=ps.length->BindsTo s fd ⟨us,[]⟩ (ps.zip (us ++ ds))
theorem Binds.all {K:PySem.W.Frag} {fd:FuncData} {ps:List Str} (h:∀us:List Value,us.length=ps.length->bindArgs fd ⟨us,[]⟩=pure (ps.zip us)):Binds K fd ps []:=λ s us _ hl=>by
 rw [List.append_nil] at hl ⊢
 exact .of_eq (h us hl)
def eE (CX:CXT) (X:Cx) (E:XK):Prop:=∀ (pins:List (Addr×Obj)) (σ:St) (H:Hp) (s:Shared) (e:Value) (s':Shared),Inv X pins σ H s->CX X.stack H s E e s'->X.xe e s'
section
variable {X:Cx} {CX:CXT} {k:Nat} {f C:Addr} {fd:FuncData} {ps:List Str} {sp:Sp} {dvs:List V} {ds:List Value} {E:XK} {x m:Str} {p pos apos:Pos} {e o:Expr} {es:List Expr} {ta:TE} {t:TA}
theorem kX {pins:List (Addr×Obj)} {σ:St} {H:Hp} {s:Shared} {Q:VK} {us:List Value} {vs:List V} (F:FnOk X.prog X.w X.K X.mg X.base CX k f fd ps sp) (hr:Room k X.A) (hb:Binds X.K fd ps ds) (hd:Vals dvs ds) (hx:eE CX X E)
  (I:Inv X pins σ H s) (r:Vals vs us) (h:sp (vs ++ dvs) H Q E):wpAny (model X.prog X.w) X.A (call (.ref f) us) (EP X pins σ Q) X.xe s:=by
 have r2:Vals (vs ++ dvs) (us ++ ds):=r.append hd
 have hl:(us ++ ds).length=ps.length:=by rw [<- r2.length]; exact F.len _ _ _ _ h
 refine wpAny_call (codeAny_mono (F.run X.A X.stack s H ⟨us,[]⟩ (us ++ ds) (vs ++ dvs) Q E hr I.env0 (hb s us I.kIn hl) r2 h) λ r s' hq=>?_)
 cases r with
 | error e=>exact hx pins σ H s e s' I hq
 | ok fl =>
  cases fl with
  | ret u=>exact I.after hq
  | next=>exact False.elim hq
  | brk=>exact False.elim hq
  | cont=>exact False.elim hq
theorem tF (F:FnOk X.prog X.w X.K X.mg X.base CX k f fd ps sp) (hr:Room k X.A) (hg:Gl X x) (hm:X.mg x=some (.ref f)) (hk:PySem.W.keepIn X.K (.ref f)=true) (hb:Binds X.K fd ps ds) (hd:Vals dvs ds) (hx:eE CX X E)
  (ha:PA X (e :: es) t) (hdb:(x == ("__debug__" : Str))=false:=by decide) (he:starEach (e :: es) X.env=(false,eval e X.env) :: starEach es X.env:=by rfl) (hpl:(backTo pos (starEach es X.env)).any (·.1)=false:=by rfl) :
  PE X (.Call (.Name x p) (e :: es) [] pos) (uW sp dvs E t):=by
 intro pins s σ H Q I h
 refine wpAny_Call_Name_kw (iV I hg hm ?_ hdb)
 refine PySem.W.callWith_K (h₀:=X.base) I.ok.mod.kin hk (thn (ha pos pins s σ H _ I h) λ us s1 ⟨vs,H1,I1,r,q⟩=>⟨I1.kIn,?_⟩) he hpl
 exact kX F hr hb hd hx I1 r q
theorem tG {pl:Sem Bool} (he:PE X o ta) (c:Cls X.K C) (hm:Meth X.K C m f) (F:FnOk X.prog X.w X.K X.mg X.base CX k f fd ps sp) (hr:Room k X.A) (hb:Binds X.K fd ps ds) (hd:Vals dvs ds) (hx:eE CX X E) (ha:PA X (e :: es) t)
  (hst:starEach (e :: es) X.env=(false,eval e X.env) :: starEach es X.env:=by rfl) (hpl:(backTo pos (starEach es X.env)).any (·.1)=false:=by rfl)
  (ht:eval (.Call (.Attribute o m apos) (e :: es) [] pos) X.env=(do
   let ov<-eval o X.env
   standAt apos.atName
   let (f,first)<-holding [ov] (getMethod ov m pl)
   callWith pos f first (backTo pos (starEach (e :: es) X.env)) (backToKw pos (keywordEach [] X.env))):=by rfl) :
  PE X (.Call (.Attribute o m apos) (e :: es) [] pos) (mn C m sp dvs E ta t):=by
 intro pins s σ H Q I h
 refine PySem.W.methodCall_KW (pl:=pl) (thn (he pins s σ H _ I h) λ u s1 ⟨x,H1,I1,rx,a,dx,fs,ex,ea,l,q⟩=>?_) ht
 subst ex
 obtain rfl:u=Value.ref a:=rx
 refine eD I1 ea c hm l ?_
 refine PySem.W.callWith_K (first:=[.ref a]) (h₀:=X.base) I.ok.mod.kin hm.kp (thn (ha pos pins s1 σ H1 _ I1 q) λ us s2 ⟨vs,H2,I2,r,q2⟩=>⟨I2.kIn,?_⟩) hst hpl
 exact kX (us:=.ref a :: us) (vs:=.ref a :: vs) F hr hb hd hx I2 (.cons rfl r) q2
theorem qr {pl:Sem Bool} (he:PE X o ta) (c:Cls X.K C) (hm:Meth X.K C m f) (F:FnOk X.prog X.w X.K X.mg X.base CX k f fd ps sp) (hr:Room k X.A) (hb:Binds X.K fd ps ds) (hd:Vals dvs ds) (hx:eE CX X E)
  (ht:eval (.Call (.Attribute o m apos) [] [] pos) X.env=(do
   let ov<-eval o X.env
   standAt apos.atName
   let (f,first)<-holding [ov] (getMethod ov m pl)
   callWith pos f first (backTo pos (starEach [] X.env)) (backToKw pos (keywordEach [] X.env))):=by rfl) :
  PE X (.Call (.Attribute o m apos) [] [] pos) (mn C m sp dvs E ta tE):=by
 intro pins s σ H Q I h
 refine PySem.W.methodCall_KW (pl:=pl) (thn (he pins s σ H _ I h) λ u s1 ⟨x,H1,I1,rx,a,dx,fs,ex,ea,l,q⟩=>?_) ht
 subst ex
 obtain rfl:u=Value.ref a:=rx
 refine eD I1 ea c hm l ?_
 exact PySem.W.callWith_K0 (first:=[.ref a]) I1.kIn hm.kp (kX (us:=[.ref a]) (vs:=[.ref a]) F hr hb hd hx I1 (.cons rfl .nil) q)
structure Mk (K:PySem.W.Frag) (C f:Addr):Prop where
 makes:PySem.W.makesIn K C=true
 init:PySem.W.findIn K (.ref C) "__init__" = some (some (.ref f))
 fn:PySem.W.isFn K (.ref f)=true
 kp:PySem.W.keepIn K (.ref C)=true
theorem qt {pins:List (Addr×Obj)} {σ:St} {H:Hp} {s:Shared} {Q:VK} {us:List Value} {vs:List V} (M:Mk X.K C f) (F:FnOk X.prog X.w X.K X.mg X.base CX k f fd ps sp) (hr:Room (k + 1) X.A) (hb:Binds X.K fd ps ds) (hd:Vals dvs ds)
  (hx:eE CX X E) (I:Inv X pins σ H s) (r:Vals vs us)
  (h:∀x dx,H x=none->H dx=none->dx≠x->sp (.ref x :: (vs ++ dvs)) (upd (upd H dx (.own x)) x (.ins C dx [])) (λ v H2=>v=.non/\Q (.ref x) H2) E) :
  wpAny (model X.prog X.w) X.A (call (.ref C) us) (EP X pins σ Q) X.xe s:=by
 have hq:=h (s.heap.objs.size + 1) s.heap.objs.size (I.hok.fresh (Nat.le_succ _)) (I.hok.fresh (Nat.le_refl _)) (Nat.ne_of_lt (Nat.lt_succ_self _))
 have I2:=Inv.made (C:=C) I
 have r2:Vals (V.ref (s.heap.objs.size + 1) :: (vs ++ dvs)) (Value.ref (s.heap.objs.size + 1) :: (us ++ ds)):=.cons rfl (r.append hd)
 have hl:(Value.ref (s.heap.objs.size + 1) :: us ++ ds).length=ps.length:=by
  have e:=r2.length
  rw [F.len _ _ _ _ hq] at e
  exact e.symm
 refine wpAny_call (qp (f:=f) I.kIn M.makes M.init (beq_iff_eq.mp M.fn) (codeAny_mono (F.run _ X.stack _ _ ⟨Value.ref (s.heap.objs.size + 1) :: us,[]⟩ (Value.ref (s.heap.objs.size + 1) :: (us ++ ds)) _ _ E (hr.make C us [])
  (I2.env0.make C us []) (hb _ (Value.ref (s.heap.objs.size + 1) :: us) I2.kIn hl) r2 hq) λ r s' hq'=>?_))
 cases r with
 | error e=>exact hx pins σ _ _ e s' I2 hq'
 | ok fl =>
  cases fl with
  | ret u =>
   obtain ⟨v,H',I3,rv,ev,q3⟩:=I2.after hq'
   subst ev
   exact ⟨rv,⟨V.ref (s.heap.objs.size + 1),H',I3,Y,q3⟩⟩
  | next=>exact False.elim hq'
  | brk=>exact False.elim hq'
  | cont=>exact False.elim hq'
theorem tH (M:Mk X.K C f) (F:FnOk X.prog X.w X.K X.mg X.base CX k f fd ps sp) (hr:Room (k + 1) X.A) (hg:Gl X x) (hm:X.mg x=some (.ref C)) (hb:Binds X.K fd ps ds) (hd:Vals dvs ds) (hx:eE CX X E)
  (ha:PA X (e :: es) t) (hdb:(x == ("__debug__" : Str))=false:=by decide) (he:starEach (e :: es) X.env=(false,eval e X.env) :: starEach es X.env:=by rfl) (hpl:(backTo pos (starEach es X.env)).any (·.1)=false:=by rfl) :
  PE X (.Call (.Name x p) (e :: es) [] pos) (uX C sp dvs E t):=by
 intro pins s σ H Q I h
 refine wpAny_Call_Name_kw (iV I hg hm ?_ hdb)
 refine PySem.W.callWith_K (h₀:=X.base) I.ok.mod.kin M.kp (thn (ha pos pins s σ H _ I h) λ us s1 ⟨vs,H1,I1,r,q⟩=>⟨I1.kIn,?_⟩) he hpl
 exact qt M F hr hb hd hx I1 r q
end
section
variable {X:Cx} {CX:CXT} {k:Nat} {f C:Addr} {fd:FuncData} {ps ks:List Str} {sp:Sp} {E:XK} {x m:Str} {p pos apos kpos:Pos} {e o:Expr} {es:List Expr} {kws:List Keyword} {te ta:TE} {t tk:TA} {nm:Option Str}
structure KBinds (K:PySem.W.Frag) (fd:FuncData) (ps ks:List Str) (g:List Value->List Value->List Value) (gV:List V->List V->List V):Prop where
 to:∀ (s:Shared) (us ws:List Value),K.In s.heap->(g us ws).length=ps.length->BindsTo s fd ⟨us,ks.zip ws⟩ (ps.zip (g us ws))
 rel:∀ {vs:List V} {us:List Value} {zs:List V} {ws:List Value},Vals vs us->Vals zs ws->Vals (gV vs zs) (g us ws)
variable {g:List Value->List Value->List Value} {gV:List V->List V->List V}
end
structure FnScope (N P:List Str) (sc:Scope):Prop where
 kind:sc.kind=.function
 co:sc.isCoroutine=false
 gen:sc.isGenerator=false
 nd:N.Nodup
 pre:N.take P.length=P
 par:∀x∈P,sc.names.lookup x=some .local\/sc.names.lookup x=some .cell
 nofree:∀y∈sc.names,y.2≠.free
theorem iu {kindOf:Str->Option NameKind} {x:Str}:∀ {binds:List (Str×Value)} {m:Str->Option Value},(∀v,(x,v)∉binds)->bindL kindOf binds m x=m x
 | [],_,_=>rfl
 | (n,v) :: r,m,h=>by
  unfold bindL
  rw [iu λ w hw=>h w (List.mem_cons_of_mem _ hw)]
  split
  ·have:x≠n:=by rintro rfl; exact h v List.mem_cons_self
   simp [this]
  ·rfl
theorem iw {kindOf:Str->Option NameKind} {x:Str}:∀ {binds:List (Str×Value)} {m:Str->Option Value},(∀v,(x,v)∉binds)->bindC kindOf binds m x=m x
 | [],_,_=>rfl
 | (n,v) :: r,m,h=>by
  unfold bindC
  rw [iw λ w hw=>h w (List.mem_cons_of_mem _ hw)]
  split
  ·rfl
  ·have:x≠n:=by rintro rfl; exact h v List.mem_cons_self
   simp [this]
theorem ix {kindOf:Str->Option NameKind} {x:Str} {v:Value}:∀ {P:List Str} {vs:List Value} {i:Nat} {m:Str->Option Value},P.Nodup->P[i]? = some x->vs[i]? = some v->kindOf x=some .local ->
  bindL kindOf (P.zip vs) m x=some v
 | [],_,_,_,_,h,_,_=>by simp at h
 | _ :: _,[],_,_,_,_,h,_=>by simp at h
 | p :: P,w :: vs,0,m,nd,h1,h2,hk=>by
  simp at h1 h2; subst h1; subst h2
  show bindL kindOf ((p,w) :: P.zip vs) m p=_
  unfold bindL
  rw [iu λ v hv=>(List.nodup_cons.mp nd).1 (List.of_mem_zip hv).1,if_pos hk]
  simp
 | p :: P,w :: vs,i + 1,m,nd,h1,h2,hk=>by
  show bindL kindOf ((p,w) :: P.zip vs) m x=_
  unfold bindL
  exact ix (i:=i) (List.nodup_cons.mp nd).2 (by simpa using h1) (by simpa using h2) hk
theorem iy {kindOf:Str->Option NameKind} {x:Str} {v:Value}:∀ {P:List Str} {vs:List Value} {i:Nat} {m:Str->Option Value},P.Nodup->P[i]? = some x->vs[i]? = some v->kindOf x≠some .local ->
  bindC kindOf (P.zip vs) m x=some v
 | [],_,_,_,_,h,_,_=>by simp at h
 | _ :: _,[],_,_,_,_,h,_=>by simp at h
 | p :: P,w :: vs,0,m,nd,h1,h2,hk=>by
  simp at h1 h2; subst h1; subst h2
  show bindC kindOf ((p,w) :: P.zip vs) m p=_
  unfold bindC
  rw [iw λ v hv=>(List.nodup_cons.mp nd).1 (List.of_mem_zip hv).1,if_neg hk]
  simp
 | p :: P,w :: vs,i + 1,m,nd,h1,h2,hk=>by
  show bindC kindOf ((p,w) :: P.zip vs) m x=_
  unfold bindC
  exact iy (i:=i) (List.nodup_cons.mp nd).2 (by simpa using h1) (by simpa using h2) hk
def fY (N:List Str) (vs:List V):St:=vs.map some ++ List.replicate (N.length - vs.length) none
def nE (CX:CXT) (P:Program) (w:World) (K:PySem.W.Frag) (mg:Str->Option Value) (base:Heap) (N:List Str) (qual:Str) (scope:Scope) (f:Addr) (cd:Value) (A:Around) (outer:List Env) (s:Shared) (H:Hp) (E:XK):Cx where
 prog:=P
 w:=w
 K:=K
 mg:=mg
 base:=base
 A:=A.deeper (envOfC qual scope s.heap.objs.size f cd)
 N:=N
 s₀:=s
 H₀:=H
 env:=envOfC qual scope s.heap.objs.size f cd
 outer:=outer
 stack:=envOfC qual scope s.heap.objs.size f cd :: outer
 ex:=[]
 calm:=true
 fn:=λ _=>true
 pn:=[]
 xe:=λ e s'=>wpAny (model P w) (A.deeper (envOfC qual scope s.heap.objs.size f cd)) (leaving (envOfC qual scope s.heap.objs.size f cd) e) (λ _ s''=>CX outer H s E e s'') (λ e' s''=>CX outer H s E e' s'') s'
theorem jT {sc:Scope} {n:Nat} {x:Str} (h:sc.names.lookup x=some .cell):∃c,(cellsFrom n sc.names []).lookup x=some c:=by
 have q:=PySem.W.cellsFrom_some sc.names n [] (.inl h)
 exact Option.isSome_iff_exists.mp q
theorem nF {CX:CXT} {P:Program} {w:World} {K:PySem.W.Frag} {mg:Str->Option Value} {base:Heap} {N ps:List Str} {qual:Str} {scope:Scope} {f:Addr} {cd:Value} {A:Around} {outer:List Env} {s s1:Shared} {H:Hp} {E:XK} {us:List Value} {vs:List V}
  (S:FnScope N ps scope) (hd:A.handled=none) (e0:Env0 P w K mg base A outer s H) (hl:vs.length=ps.length) (r:Vals vs us)
  (x:InCallC s s.heap.objs.size (bindL (envOfC qual scope s.heap.objs.size f cd).kindOf (ps.zip us) λ _=>none) (cellsFrom (s.heap.objs.size + 1) scope.names []) (bindC (envOfC qual scope s.heap.objs.size f cd).kindOf (ps.zip us) λ _=>none) s1) :
  Inv (nE CX P w K mg base N qual scope f cd A outer s H E) [] (fY N vs) H s1:=by
 have hpl:ps.length<=N.length:=by have:=congrArg List.length S.pre; rw [List.length_take] at this; omega
 obtain ⟨h1,tk,rfl,hk⟩:=x.done
 have noA:∀b:Addr,b∉(nE CX P w K mg base N qual scope f cd A outer s H E).ex:=λ b z=>absurd (show b∈([]:List Addr) from z) (by simp)
 refine ⟨⟨e0.mod,S.kind,Y,Y,Nat.le_refl _,λ y z c h1 h2=>?_,λ y hy=>?_,λ y c _ h=>?_,λ _=>hd,Around.frames_deeper e0.frames,.inr ⟨Y,Y⟩,λ b z=>absurd z (noA b),e0.bs,e0.bsz,λ b _ _=>noA b,λ b z=>absurd z (noA b),e0.funs,e0.frf⟩,
  rfl,e0.bare,Un.kept hk,⟨_,x.toInCall.ns,λ i y v h1 h2 h3=>?_⟩,λ y c h=>⟨_,x.cell y c h⟩,e0.hok.fresh (Nat.le_refl _),λ y c h=>?_,λ p hp=>absurd (show p∈([]:List (Addr×Obj)) from hp) (by simp),e0.hok.kept hk,?_⟩
 ·exact name_of_addr x.apart (PySem.mem_of_lookup h1) (PySem.mem_of_lookup h2)
 ·have hy:scope.names.lookup y=some .cell\/scope.names.lookup y=some .free:=hy
  rcases hy with hy | hy
  ·exact jT hy
  ·exact absurd rfl (S.nofree _ (PySem.mem_of_lookup hy))
 ·exact Nat.le_of_lt (x.above y c (PySem.mem_of_lookup h))
 ·have hi:i < vs.length:=by
   unfold fY at h2
   by_cases hi:i < vs.length
   ·exact hi
   ·rw [List.getElem?_append_right (by simpa using hi)] at h2
    rw [List.getElem?_replicate] at h2
    split at h2 <;> cases h2
  have ha:vs[i]? = some v:=by
   unfold fY at h2
   rw [List.getElem?_append_left (by simpa using hi),List.getElem?_map] at h2
   cases e:vs[i]? with
   | none=>rw [e] at h2; cases h2
   | some a=>rw [e] at h2; cases h2; rfl
  obtain ⟨u,hu,rv⟩:=r.get ha
  have hp:ps[i]? = some y:=by
   rw [<- S.pre,List.getElem?_take_of_lt (by omega)]; exact h1
  have ndP:ps.Nodup:=by rw [<- S.pre]; exact S.nd.sublist (List.take_sublist _ _)
  refine ⟨u,rv,?_⟩
  rcases S.par y (List.mem_of_getElem? hp) with k | k
  ·exact .inl ⟨k,ix ndP hp hu k⟩
  ·obtain ⟨c,e⟩:=jT (n:=s.heap.objs.size + 1) k
   refine .inr ⟨.inl k,c,e,?_⟩
   have q:=x.cell y c e
   rw [iy ndP hp hu (by show scope.names.lookup y≠_; rw [k]; decide)] at q
   exact q
 ·exact e0.hok.fresh (Nat.le_of_lt (x.above y c (PySem.mem_of_lookup h)))
 ·unfold fY
  show _=N.length
  rw [List.length_append,List.length_map,List.length_replicate]
  omega
theorem xZ {CX:CXT} {P:Program} {w:World} {K:PySem.W.Frag} {mg:Str->Option Value} {base:Heap} {k:Nat} {f:Addr} {name qual:Str} {params:Arguments} {body:List Stmt} {scope:Scope} {dV kV doc pm cdv ct oc:Value} {an od:Option Addr}
  {osl:Array (Option Value)} {N ps:List Str} {sp:Sp} (lk:K.lookup f=some ⟨oc,od,.func (PySem.W.fnOf name qual params body scope dV kV doc pm an cdv ct),osl⟩) (hcd:PySem.W.codeIn K cdv qual=true) (S:FnScope N ps scope)
  (len:∀vs H Q E,sp vs H Q E->vs.length=ps.length)
  (hbody:∀ (A:Around) (outer:List Env) (s:Shared) (H:Hp) (vs:List V) (Q:VK) (E:XK),Room k (A.deeper (envOfC qual scope s.heap.objs.size f cdv))->sp vs H Q E ->
   ∃t,PSs (nE CX P w K mg base N qual scope f cdv A outer s H E) body t/\t { nx:=λ _ H'=>Q .non H',rt:=Q } (fY N vs) H) :
  FnOk P w K mg base CX (k + 1) f (PySem.W.fnOf name qual params body scope dV kV doc pm an cdv ct) ps sp:=by
 refine ⟨len,λ A outer s H args us vs Q E hr e0 hb r hsp=>?_⟩
 have hl:=len _ _ _ _ hsp
 have KX:K.In s.heap:=e0.mod.kin.keeps λ b o e=>(e0.bs b o e).1
 have lim:s.heap.NoLimit:=e0.mod.nolimit.keeps λ b o e=>(e0.bs b o e).1
 have hkind:∀y∈ps.zip us,scope.names.lookup y.1=some .local\/(scope.names.lookup y.1=some .cell/\((cellsFrom (s.heap.objs.size + 1) scope.names []).lookup y.1).isSome=true):=λ ⟨n,v⟩ hy=>by
  rcases S.par n (List.of_mem_zip hy).1 with q | q
  ·exact .inl q
  ·exact .inr ⟨q,PySem.W.cellsFrom_some _ _ _ (.inl q)⟩
 refine codeAny_call_function hr.depth (KX _ _ lk) rfl S.co S.gen rfl (PySem.W.codeRec_of KX hcd) (hb _ _ _ _ ?_)
 refine wpAny_newFunctionEnv_cells S.kind hkind λ env he s1 x=>?_
 subst he
 refine ⟨lim.keeps x.toInCall.keep,codeAny_func ?_⟩
 obtain ⟨t,ht,hq⟩:=hbody A outer s H vs Q E (hr.deeper _) hsp
 have I:Inv (nE CX P w K mg base N qual scope f cdv A outer s H E) [] (fY N vs) H s1:=nF S hr.hd e0 hl r x
 refine wpAny_mono (ht [] s1 (fY N vs) H _ I hq) (λ fl s' hs=>?_) λ e s' hs=>hs
 have fin:∀ {σ':St} {H':Hp} {v:V} {u:Value},Inv (nE CX P w K mg base N qual scope f cdv A outer s H E) [] σ' H' s'->RelV v u->Q v H'->CE outer P w H s Q u s' :=
  λ {σ' H' v u} J rv q=>⟨v,H',J.os,J.bare,J.base,J.hok,rv,q⟩
 cases fl with
 | ret u =>
  obtain ⟨v,σ',H',J,rv,q⟩:=hs
  exact fin J rv q
 | next =>
  obtain ⟨σ',H',J,q⟩:=hs
  exact fin (v:=V.non) (u:=Value.none) J rfl q
 | brk =>
  obtain ⟨_,_,_,q⟩:=hs
  exact False.elim q
 | cont =>
  obtain ⟨_,_,_,q⟩:=hs
  exact False.elim q
end L2
namespace L2
open PySem PySem.Spec PyProof.Rows
section
variable {X:Cx} {x:Str} {p pos:Pos} {e:Expr} {es:List Expr} {t:TA} {id T:String} {r:List V->Hp->VK->Prop}
def tCB (r:List V->Hp->VK->Prop) (t:TA):TE:=λ σ H Q=>t σ H λ vs H1=>r vs H1 Q
theorem aw (hc:cj X (.builtin id) r) (hg:Gl X x) (hm:X.mg x=none) (hv:bootBuiltins x=some (.builtin id)) (ha:PA X (e :: es) t) (hn:x ≠ "__name__" := by decide) (hdb:(x == ("__debug__" : Str))=false:=by decide)
  (he:starEach (e :: es) X.env=(false,eval e X.env) :: starEach es X.env:=by rfl) (hpl:(backTo pos (starEach es X.env)).any (·.1)=false:=by rfl):PE X (.Call (.Name x p) (e :: es) [] pos) (tCB r t):=by
 intro pins s σ H Q I h
 refine wpAny_Call_Name_kw (fk I hg hm hv ?_ hn hdb)
 exact PyProof.Rows.callWith_builtin1 (thn (ha pos pins s σ H _ I h) λ us s1 ⟨vs,H1,I1,r1,q1⟩=>hc pins s1 σ H1 vs us Q I1 r1 q1) he hpl
theorem aT (hc:cj X (.type T) r) (hg:Gl X x) (hm:X.mg x=none) (hv:bootBuiltins x=some (.type T)) (ha:PA X (e :: es) t) (hn:x ≠ "__name__" := by decide) (hdb:(x == ("__debug__" : Str))=false:=by decide)
  (he:starEach (e :: es) X.env=(false,eval e X.env) :: starEach es X.env:=by rfl) (hpl:(backTo pos (starEach es X.env)).any (·.1)=false:=by rfl):PE X (.Call (.Name x p) (e :: es) [] pos) (tCB r t):=by
 intro pins s σ H Q I h
 refine wpAny_Call_Name_kw (fk I hg hm hv ?_ hn hdb)
 exact PyProof.Rows.callWith_type1 (thn (ha pos pins s σ H _ I h) λ us s1 ⟨vs,H1,I1,r1,q1⟩=>hc pins s1 σ H1 vs us Q I1 r1 q1) he hpl
end
end L2
namespace HT
open PySem PyProof.Rows
section
variable {prog:Program} {w:World} {A:Around} {E:Value->Shared->Prop} {s:Shared}
theorem cat_tup {t b:Addr} {vs ws:List Value} {Q:Value->Shared->Prop} (ht:IsTup s.heap t vs.toArray) (hb:IsTup s.heap b ws.toArray) (hv:vs≠[])
  (h1:ws=[]->Q (.ref t) s) (h2:ws≠[]->Q (.ref s.heap.objs.size) { s with heap:=s.heap.push { cls:=.type "tuple",data:=.seq (vs ++ ws).toArray } })
  (hsz:vs.length + ws.length<=sizeLine):wpAny (model prog w) A (binaryOp .Add (.ref t) (.ref b)) Q E s:=by
 obtain ⟨⟨cls,dd,data,sl⟩,ho,hc,n,hd⟩:=id ht
 obtain ⟨⟨cls2,dd2,data2,sl2⟩,ho2,hc2,n2,hd2⟩:=id hb
 simp only at hc hd hc2 hd2
 subst hc hd hc2 hd2
 have e:vs.toArray ++ ws.toArray=(vs ++ ws).toArray:=by simp
 by_cases hw:ws=[]
 ·exact concat_meets ⟨_,ho,rfl⟩ ⟨_,ho2,rfl⟩ noFill_tuple_add seq_tuple_add PySem.F.slot_tuple_add PySem.F.entry_tuple_add (PySem.F.args_tuple_add_2 _ _)
   (tuple_addW1 t b vs.toArray ws.toArray n n2 dd dd2 sl sl2 (by simpa using hv) (by simp [hw])) ⟨ho,ho2,h1 hw⟩
 ·refine concat_meets ⟨_,ho,rfl⟩ ⟨_,ho2,rfl⟩ noFill_tuple_add seq_tuple_add PySem.F.slot_tuple_add PySem.F.entry_tuple_add (PySem.F.args_tuple_add_2 _ _)
   (tuple_addW2 t b vs.toArray ws.toArray n n2 dd dd2 sl sl2 (by simpa using hv) (by simpa using hw) (by rw [List.size_toArray,List.size_toArray]; exact hsz)) ⟨ho,ho2,?_⟩
  rw [e]
  exact h2 hw
def sIx (n d:Nat):Option Int->Nat
 | none=>d
 | some v=>if v < 0 then (v + (n:Int)).toNat else min v.toNat n
theorem vz (n d:Nat) (hd:d<=n) (o:Option Int):sIx n d o<=n:=by
 cases o with
 | none=>exact hd
 | some v =>
  show (if v < 0 then (v + (n:Int)).toNat else min v.toNat n)<=n
  by_cases hv:v < 0
  ·rw [if_pos hv]; omega
  ·rw [if_neg hv]; exact Nat.min_le_right _ _
theorem mq (v:Int) (n d:Nat):(if v < 0 then max (v + (n:Int)) 0 else min v (n:Int))=((sIx n d (some v):Nat):Int):=by
 show (if v < 0 then max (v + (n:Int)) 0 else min v (n:Int))=(((if v < 0 then (v + (n:Int)).toNat else min v.toNat n):Nat):Int)
 by_cases hv:v < 0
 ·simp only [if_pos hv]; omega
 ·simp only [if_neg hv]; omega
theorem kY (lo hi:Option Int) (n:Nat):Builtin.Slice.sliceAdjust lo hi 1 (n:Int)=(((sIx n 0 lo:Nat):Int),((sIx n n hi:Nat):Int)):=by
 have h1:¬ ((1:Int) < 0):=by omega
 unfold Builtin.Slice.sliceAdjust
 simp only [h1,if_false]
 refine Prod.ext ?_ ?_
 ·cases lo with
  | none=>rfl
  | some v=>exact mq v n 0
 ·cases hi with
  | none=>rfl
  | some v=>exact mq v n n
theorem kZ (i j:Nat):Builtin.Slice.slicePlaces (i:Int) (j:Int) 1=j - i:=by
 unfold Builtin.Slice.slicePlaces
 have h1:(1:Int) > 0:=by omega
 simp only [h1,if_true,Int.ediv_one]
 split <;> omega
theorem gL {v:Value} {o:Option Int} {Q:Option Int->Shared->Prop} (p:IsPart v o) (h:Q o s):wpAny (model prog w) A (Builtin.Slice.slicePartIndex v) Q E s:=by
 cases p with
 | none=>exact slicePart_none h
 | int i t=>exact slicePart_int h
theorem fE {sl:Addr} {vl vu:Value} {lo hi:Option Int} {n:Nat} {Q:Int×Int×Nat->Shared->Prop} (hs:s.heap.IsSliceOf sl vl vu .none) (pl:IsPart vl lo) (pu:IsPart vu hi)
  (h:Q (((sIx n 0 lo:Nat):Int),1,sIx n n hi - sIx n 0 lo) s):wpAny (model prog w) A (Builtin.Slice.sliceApplied (.ref sl) (pure (n:Int))) Q E s:=by
 obtain ⟨os,hos,hcs,hds⟩:=id hs
 unfold Builtin.Slice.sliceApplied Builtin.Slice.sliceFields
 refine wpAny_bind (wpAny_bind (wpAny_field hos hds (x:=vl) rfl (wpAny_bind (wpAny_field hos hds (x:=vu) rfl (wpAny_bind (wpAny_field hos hds (x:=.none) rfl (wpAny_pure ?_)))))))
 refine wpAny_bind (slicePart_none ?_)
 show wpAny _ _ (if ((1:Int) == 0)=true then _ else _) _ _ s
 rw [if_neg (by decide)]
 refine wpAny_bind (gL pl (wpAny_bind (gL pu (wpAny_bind (wpAny_pure ?_)))))
 show wpAny _ _ (match Builtin.Slice.sliceAdjust lo hi 1 (n:Int) with | (lo,hi)=>pure (lo,(1:Int),Builtin.Slice.slicePlaces lo hi 1)) _ _ s
 rw [kY lo hi n]
 show wpAny _ _ (pure (((sIx n 0 lo:Nat):Int),(1:Int),Builtin.Slice.slicePlaces ((sIx n 0 lo:Nat):Int) ((sIx n n hi:Nat):Int) 1)) _ _ s
 rw [kZ]
 exact wpAny_pure h
theorem qu (xs:Array Value) (i k:Nat):((List.range k).filterMap λ (m:Nat)=>xs[((i:Int) + (m:Int) * 1).toNat]?).toArray=((xs.toList.drop i).take k).toArray:=by
 have e:(λ (m:Nat)=>xs[((i:Int) + (m:Int) * 1).toNat]?)=λ m=>xs[i + m]? := by
  funext m
  have:((i:Int) + (m:Int) * 1).toNat=i + m:=by omega
  rw [this]
 rw [e]
 have:=pick_run xs i k
 rw [List.filterMap_map] at this
 have e2:((λ x=>xs[x]?)∘λ x=>i + x)=λ m=>xs[i + m]? := rfl
 rw [e2] at this
 rw [this]
theorem getItem_tuple_cut {t sl:Addr} {items:Array Value} {vl vu:Value} {lo hi:Option Int} {Q:Value->Shared->Prop} (ht:IsTup s.heap t items) (hs:s.heap.IsSliceOf sl vl vu .none) (pl:IsPart vl lo) (pu:IsPart vu hi)
  (hw:¬ (sIx items.size 0 lo=0/\sIx items.size items.size hi=items.size))
  (h:Q (.ref s.heap.objs.size) { s with heap:=s.heap.push { cls:=.type "tuple",data:=.seq ((items.toList.drop (sIx items.size 0 lo)).take (sIx items.size items.size hi - sIx items.size 0 lo)).toArray } })
  (hsz:items.size<=sizeLine):wpAny (model prog w) A (getItem (.ref t) (.ref sl)) Q E s:=by
 have htake:sizeOk (.seq ((items.toList.drop (sIx items.size 0 lo)).take (sIx items.size items.size hi - sIx items.size 0 lo)).toArray):=by
  show ((items.toList.drop (sIx items.size 0 lo)).take (sIx items.size items.size hi - sIx items.size 0 lo)).toArray.size<=sizeLine
  rw [List.size_toArray,List.length_take,List.length_drop,Array.length_toList]
  omega
 have hj:sIx items.size items.size hi<=items.size:=vz _ _ (Nat.le_refl _) hi
 obtain ⟨os,hos,hcs,hds⟩:=id hs
 have hTs:s.TypeIs (.ref sl) "slice" := ⟨os,hos,hcs⟩
 unfold getItem
 try with_reducible refine wpAny_holding ?_
 first | refine wpAny_bind (wpAny_pure ?_) | skip
 refine wpAny_bind (wpAny_sequenceKey ht.typeIs (by decide) ?_)
 refine wpAny_bind (wpAny_callSpecial?_slot (name:=Str.ofString "__getitem__") ht.typeIs PyProof.Rows.slot_tuple_getitem
  (wpAny_call_entry PyProof.Rows.slot_tuple_getitem ht.typeIs entry_tuple_getitem ?_ (args_tuple_getitem _ _)))
 show wpAny _ _ (Builtin.Tuple.tupleItemsOf (.ref t) >>= _) _ _ s
 refine wpAny_bind (tupleItemsOf_ ht ?_)
 refine wpAny_bind (wpAny_typeOf hTs ?_)
 rw [if_pos (by decide)]
 refine wpAny_bind (fE hs pl pu ?_)
 have hno:¬ ((((sIx items.size 0 lo:Nat):Int) == 0 && (1:Int) == 1 && (sIx items.size items.size hi - sIx items.size 0 lo) == items.size)=true):=by
  intro q
  rw [Bool.and_eq_true,Bool.and_eq_true] at q
  have q1:((sIx items.size 0 lo:Nat):Int)=0:=eq_of_beq q.1.1
  have q2:sIx items.size items.size hi - sIx items.size 0 lo=items.size:=eq_of_beq q.2
  exact hw ⟨by omega,by omega⟩
 show wpAny _ _ (if (((sIx items.size 0 lo:Nat):Int) == 0 && (1:Int) == 1 && (sIx items.size items.size hi - sIx items.size 0 lo) == items.size)=true then _ else _) _ _ s
 rw [if_neg hno,qu]
 first
  | exact wpAny_bind (m:=Builtin.Tuple.tupleExact _) (wpAny_newObj_type (wpAny_pure ⟨_,rfl,wpAny_pure h⟩) htake)
  | exact wpAny_bind (m:=Builtin.Tuple.tupleExact _) (wpAny_newObj_type (wpAny_bind (wpAny_pure (wpAny_pure ⟨_,rfl,wpAny_pure h⟩))) htake)
  | exact wpAny_bind (wpAny_bind (m:=Builtin.Tuple.tupleExact _) (wpAny_newObj_type (wpAny_pure (wpAny_pure ⟨_,rfl,wpAny_pure h⟩)) htake))
  | exact wpAny_bind (wpAny_bind (m:=Builtin.Tuple.tupleExact _) (wpAny_newObj_type (wpAny_pure ⟨_,rfl,wpAny_pure h⟩) htake))
end
end HT
namespace L2
open PySem PySem.Spec PyProof.Rows
abbrev TO:=St->Hp->(Option Int->Hp->Prop)->Prop
def PO (X:Cx) (e:Option Expr) (t:TO):Prop :=
 ∀ (pins:List (Addr×Obj)) (s:Shared) (σ:St) (H:Hp) (Q:Option Int->Hp->Prop),Inv X pins σ H s->t σ H Q ->
  wpAny (model X.prog X.w) X.A (evalPart e X.env) (λ u s'=>∃o H',Inv X pins σ H' s'/\IsPart u o/\Q o H') X.xe s
def tI:TO:=λ _ H Q=>Q none H
def ya (t:TE):TO:=λ σ H Q=>t σ H λ x H1=>∃i,x=.int i/\Q (some i) H1
section
variable {X:Cx} {e:Expr} {te:TE} {lo hi:Option Expr} {tl th:TO} {pos p2:Pos}
theorem mr:PO X none tI:=by
 intro pins s σ H Q I h
 rw [evalPart_none]
 exact wpAny_pure ⟨none,H,I,.none,h⟩
theorem gn (h:PE X e te):PO X (some e) (ya te):=by
 intro pins s σ H Q I hw
 rw [evalPart_some]
 refine thn (h pins s σ H _ I hw) λ u s1 ⟨x,H1,I1,r1,q1⟩=>?_
 obtain ⟨i,rfl,q⟩:=q1
 obtain ⟨t,rfl⟩:=r1
 exact ⟨some i,H1,I1,.int i t,q⟩
def SlR (X:Cx) (r:V->Option Int->Option Int->Hp->VK->Prop):Prop :=
 ∀ (pins:List (Addr×Obj)) (s:Shared) (σ:St) (H:Hp) (x:V) (v vl vu:Value) (lo hi:Option Int) (sl:Addr) (Q:VK),Inv X pins σ H s->RelV x v->s.heap.IsSliceOf sl vl vu .none->IsPart vl lo->IsPart vu hi->r x lo hi H Q ->
  ∃T id,typeLookup (.type T) "__getitem__" = pure (some (.builtin id))/\s.TypeIs v T/\wpAny (model X.prog X.w) X.A (getItem v (.ref sl)) (EP X pins σ Q) X.xe s
def tSl (r:V->Option Int->Option Int->Hp->VK->Prop) (te:TE) (tl th:TO):TE:=λ σ H Q=>te σ H λ x H1=>tl σ H1 λ l H2=>th σ H2 λ u H3=>r x l u H3 Q
theorem gM {r:V->Option Int->Option Int->Hp->VK->Prop} (hr:SlR X r) (he:PE X e te) (hl:PO X lo tl) (hu:PO X hi th):PE X (.Subscript e (.Slice lo hi none p2) pos) (tSl r te tl th):=by
 intro pins s σ H Q I h
 refine Subscript_ (thn (he pins s σ H _ I h) λ v s1 ⟨x,H1,I1,r1,q1⟩=>?_)
 refine wpAny_Slice (thn (hl pins s1 σ H1 _ I1 q1) λ vl s2 ⟨l,H2,I2,pl,q2⟩=>thn (hu pins s2 σ H2 _ I2 q2) λ vu s3 ⟨u,H3,I3,pu,q3⟩=>?_)
 rw [evalPart_none]
 refine wpAny_pure ?_
 have I4:Inv X pins σ H3 { s3 with heap:=s3.heap.push { cls:=.type "slice", data:=.fields #[vl, vu, .none] } }:=I3.kept (t':=s3.toks) λ b ob q=>Heap.get?_push_of_some _ q
 obtain ⟨T,id,hT,ht,hg⟩:=hr pins { s3 with heap:=s3.heap.push { cls:=.type "slice",data:=.fields #[vl,vu,.none] } } σ H3 x v vl vu l u s3.heap.objs.size Q I4 r1 (Heap.IsSliceOf.new ..) pl pu q3
 show wpAny (model X.prog X.w) X.A (subscriptTail e (.Slice lo hi none p2) v (.ref s3.heap.objs.size)) (EP X pins σ Q) X.xe { s3 with heap:=s3.heap.push { cls:=.type "slice",data:=.fields #[vl,vu,.none] } }
 exact tail_any (ops:=[.ref s3.heap.objs.size,v]) ht hT hg (by with_unfolding_all rfl)
def gf (xs:List V) (lo hi:Option Int):List V:=(xs.drop (HT.sIx xs.length 0 lo)).take (HT.sIx xs.length xs.length hi - HT.sIx xs.length 0 lo)
theorem fZ (xs:List V) (lo hi:Option Int):(gf xs lo hi).length<=xs.length:=by
 unfold gf
 rw [List.length_take,List.length_drop]
 omega
def Gg (K:PySem.W.Frag):V->Option Int->Option Int->Hp->VK->Prop:=λ x lo hi H Q=>∃a xs,x=.ref a/\SqT K H a xs /\
 ¬ (HT.sIx xs.length 0 lo=0/\HT.sIx xs.length xs.length hi=xs.length)/\∀p,H p=none->Q (.ref p) (upd H p (.tup (gf xs lo hi)))
theorem qv:SlR X (Gg X.K):=by
 intro pins s σ H x v vl vu lo hi sl Q I rx hs pl pu h
 obtain ⟨a,xs,rfl,hx,hw,q⟩:=h
 cases rx
 obtain ⟨its,r,ht,hz⟩:=I.tuple hx
 have hlen:its.toArray.size=xs.length:=by rw [List.size_toArray]; exact r.length.symm
 refine ⟨"tuple",_,PyProof.Rows.slot_tuple_getitem.lookup,ht.typeIs,?_⟩
 refine HT.getItem_tuple_cut ht hs pl pu (by rw [hlen]; exact hw) ?_ (by rw [hlen]; exact hz)
 rw [hlen]
 refine ⟨.ref s.heap.objs.size,_,I.laid (t':=s.toks) (o:=.tup (gf xs lo hi)) (λ b ob q=>Heap.get?_push_of_some _ q) (Nat.le_refl _) ?_,Y,q _ (I.hok.fresh (Nat.le_refl _))⟩
 exact ⟨Nat.le_trans (fZ xs lo hi) hz,_,(r.drop (HT.sIx xs.length 0 lo)).take (HT.sIx xs.length xs.length hi - HT.sIx xs.length 0 lo),IsTup.new _ _⟩
def yb (K:PySem.W.Frag):R2:=λ x y H Q=>∃a b xs ys,x=.ref a/\y=.ref b/\SqT K H a xs/\SqT K H b ys/\xs≠[]/\xs.length + ys.length<=sizeLine /\
 (ys=[]->Q (.ref a) H)/\(ys≠[]->∀p,H p=none->Q (.ref p) (upd H p (.tup (xs ++ ys))))
theorem Vals.nil_iff {xs:List V} {us:List Value} (r:Vals xs us):us=[]↔xs=[]:=by
 cases r with
 | nil=>simp
 | cons _ _=>simp
theorem jb:OpR X (binaryOp .Add) (yb X.K):=by
 intro pins s σ H x y v u Q I rx ry h
 obtain ⟨a,b,xs,ys,rfl,rfl,ha,hb,hx,hz,q1,q2⟩:=h
 cases rx
 cases ry
 obtain ⟨its,r1,p1,_⟩:=I.tuple ha
 obtain ⟨its2,r2,p2,_⟩:=I.tuple hb
 refine HT.cat_tup p1 p2 (λ z=>hx (r1.nil_iff.mp z)) (λ z=>⟨.ref a,H,I,Y,q1 (r2.nil_iff.mp z)⟩) (λ z=>?_) (by rw [<- r1.length,<- r2.length]; exact hz)
 refine ⟨.ref s.heap.objs.size,_,I.laid (t':=s.toks) (o:=.tup (xs ++ ys)) (λ b ob q=>Heap.get?_push_of_some _ q) (Nat.le_refl _) ?_,Y,q2 (λ w=>z (r2.nil_iff.mpr w)) _ (I.hok.fresh (Nat.le_refl _))⟩
 exact ⟨by rw [List.length_append]; exact hz,_,r1.append r2,IsTup.new _ _⟩
end
end L2
namespace L2
open PySem PySem.Spec PyProof.Rows
def ixN (n:Nat) (i:Int):Option Nat:=if 0<=i then (if i < n then some i.toNat else none) else if -(n:Int)<=i then some (i + n).toNat else none
def atI {α:Type} (xs:List α) (i:Int):Option α:=(ixN xs.length i).bind λ j=>xs[j]?
theorem ms {n:Nat} {i:Int} {j:Nat} (h:ixN n i=some j):seqIndex? i n=some j/\j < n/\-(n:Int)<=i/\i < n:=by
 unfold ixN at h
 by_cases h0:0<=i
 ·rw [if_pos h0] at h
  by_cases h1:i < n
  ·rw [if_pos h1] at h
   have e:i.toNat=j:=Option.some.inj h
   exact ⟨by rw [seqIndex_of h0 h1,e],by omega,by omega,h1⟩
  ·rw [if_neg h1] at h; cases h
 ·rw [if_neg h0] at h
  by_cases h1:-(n:Int)<=i
  ·rw [if_pos h1] at h
   have e:(i + n).toNat=j:=Option.some.inj h
   exact ⟨by rw [seqIndex_neg (by omega) h1,e],by omega,h1,by omega⟩
  ·rw [if_neg h1] at h; cases h
theorem jc {α:Type} {xs:List α} {i:Int} {v:α} (h:atI xs i=some v):∃j,seqIndex? i xs.length=some j/\xs[j]? = some v/\j < xs.length/\-(xs.length:Int)<=i/\i < xs.length:=by
 unfold atI at h
 cases e:ixN xs.length i with
 | none=>rw [e] at h; cases h
 | some j =>
  rw [e] at h
  obtain ⟨h1,h2,h3,h4⟩:=ms e
  exact ⟨j,h1,h,h2,h3,h4⟩
theorem tJ {α:Type} {xs:List α} {j:Nat} {v:α} (h:xs[j]? = some v):atI xs (j:Int)=some v:=by
 have hj:j < xs.length:=(List.getElem?_eq_some_iff.mp h).1
 have e:ixN xs.length (j:Int)=some j:=by
  unfold ixN
  rw [if_pos (by omega),if_pos (by omega)]; simp
 unfold atI; rw [e]; exact h
theorem qw {α:Type} (xs:List α) (v:α):atI (xs ++ [v]) (-1)=some v:=by
 have hl:(xs ++ [v]).length=xs.length + 1:=by simp
 have e:ixN (xs ++ [v]).length (-1)=some xs.length:=by
  unfold ixN
  rw [hl,if_neg (by decide),if_pos (by omega)]
  congr 1
  omega
 unfold atI
 rw [e]
 show (xs ++ [v])[xs.length]? = some v
 simp
def tK (b:Expr):Prop:=∀o i,subscripted b false o i=operate [o,i] (getItem o i)
def IxR (X:Cx) (r:R2):Prop :=
 ∀ (value slice:Expr) (pins:List (Addr×Obj)) (s:Shared) (σ:St) (H:Hp) (x y:V) (v u:Value) (Q:VK),Inv X pins σ H s->RelV x v->RelV y u->r x y H Q ->
  subscripted slice false v u=operate [v,u] (getItem v u)->wpAny (model X.prog X.w) X.A (subscriptTail value slice v u) (EP X pins σ Q) X.xe s
def MtR (X:Cx) (id:String) (r:V->List V->Hp->VK->Prop):Prop :=
 ∀ (pins:List (Addr×Obj)) (s:Shared) (σ:St) (H:Hp) (x:V) (xs:List V) (v:Value) (us:List Value) (Q:VK),Inv X pins σ H s->RelV x v->Vals xs us->r x xs H Q ->
  wpAny (model X.prog X.w) X.A (call (.builtin id) (v :: us)) (EP X pins σ Q) X.xe s
section
variable {X:Cx} {a b:Expr} {ta tb:TE} {pos:Pos}
theorem IxR.or {r r':R2} (h:IxR X r) (h':IxR X r'):IxR X (λ x y H Q=>r x y H Q\/r' x y H Q):=by
 intro value slice pins s σ H x y v u Q I rx ry q hs
 rcases q with q | q
 ·exact h value slice pins s σ H x y v u Q I rx ry q hs
 ·exact h' value slice pins s σ H x y v u Q I rx ry q hs
theorem ao {r:R2} (hr:IxR X r) (ha:PE X a ta) (hb:PE X b tb) (hs:tK b):PE X (.Subscript a b pos) (tOp r ta tb):=by
 intro pins s σ H Q I h
 exact Subscript_ (vw ha hb I h λ v u s2 x y H2 I2 rx ry q=>hr a b pins s2 σ H2 x y v u Q I2 rx ry q (hs _ _))
inductive rIxL (K:PySem.W.Frag) (x:V) (y:V) (H:Hp) (Q:VK):Prop
 | mk (p:Addr) (xs:List V) (i:Int) (v:V) (e_0:x=.ref p) (e_1:y=.int i) (e_2:SqL K H p xs) (e_3:atI xs i=some v) (e_4:Q v H):rIxL K x y H Q
inductive rIxT (K:PySem.W.Frag) (x:V) (y:V) (H:Hp) (Q:VK):Prop
 | mk (p:Addr) (xs:List V) (i:Int) (v:V) (e_0:x=.ref p) (e_1:y=.int i) (e_2:SqT K H p xs) (e_3:atI xs i=some v) (e_4:Q v H):rIxT K x y H Q
def yc:R2:=λ x y H Q=>∃z i c,x=.str z/\y=.int i/\z.length<=sizeLine/\atI z.cps.toList i=some c/\Q (.str ⟨#[c]⟩) H
theorem ix_list:IxR X (rIxL X.K):=by
 intro value slice pins s σ H x y v u Q I rx ry h hs
 obtain ⟨p,xs,i,z,rfl,rfl,hq,he,q⟩:=h
 cases rx
 obtain ⟨t,rfl⟩:=ry
 obtain ⟨its,r,pl,hz⟩:=I.list hq
 obtain ⟨j,h1,h2,h3,h4,h5⟩:=jc he
 obtain ⟨w,ew,rw'⟩:=r.get h2
 have hl:=r.length
 have hn:=fB
 have fin:EP X pins σ Q w s:=⟨z,H,I,rw',q⟩
 by_cases h0:0<=i
 ·have hj:i.toNat=j:=by
   rw [seqIndex_of h0 h5] at h1
   exact Option.some.inj h1
  exact item_listR pl.isList h0 (by omega) (by rw [hj]; simpa using ew) fin hs
 ·have hj:(i + (its.toArray.size:Int)).toNat=j:=by
   rw [seqIndex_neg (by omega) h4] at h1
   rw [List.size_toArray,<- hl]
   exact Option.some.inj h1
  exact subscriptTail_builtinR (x:=w) pl.isList.typeIs slot_list_getitem.lookup
   (wpAny_getItem_list_neg (Q:=λ r s'=>r=w/\EP X pins σ Q r s') pl.isList (by omega) (by rw [List.size_toArray] <;> omega) (by omega) (by rw [hj]; simpa using ew) ⟨rfl,fin⟩) hs
theorem ix_tup:IxR X (rIxT X.K):=by
 intro value slice pins s σ H x y v u Q I rx ry h hs
 obtain ⟨p,xs,i,z,rfl,rfl,hq,he,q⟩:=h
 cases rx
 obtain ⟨t,rfl⟩:=ry
 obtain ⟨its,r,pl,hz⟩:=I.tuple hq
 obtain ⟨j,h1,h2,h3,h4,h5⟩:=jc he
 obtain ⟨w,ew,rw'⟩:=r.get h2
 have hl:=r.length
 have hn:=fB
 have fin:EP X pins σ Q w s:=⟨z,H,I,rw',q⟩
 exact subscriptTail_builtinR (x:=w) pl.typeIs slot_tuple_getitem.lookup
  (getItem_tuple (j:=j) (Q:=λ r s'=>r=w/\EP X pins σ Q r s') pl (by omega) (by omega) (by rw [List.size_toArray,<- hl]; exact h1) (by simpa using ew) ⟨rfl,fin⟩) hs
theorem vA:IxR X yc:=by
 intro value slice pins s σ H x y v u Q I rx ry h hs
 obtain ⟨z,i,c,rfl,rfl,hz,he,q⟩:=h
 obtain ⟨t,rfl⟩:=rx
 obtain ⟨t',rfl⟩:=ry
 obtain ⟨j,h1,h2,h3,h4,h5⟩:=jc he
 have hl:z.cps.toList.length=z.length:=by simp [Str.length]
 rw [hl] at h1 h4 h5
 have hn:=fB
 exact tail_any (typeIs_str s z t) slot_str_getitem.lookup (getItem_str (c:=c) (by
  have e1:decide (i < -(2 ^ 63:Int))=false:=decide_eq_false (by omega)
  have e2:decide (i≥2 ^ 63)=false:=decide_eq_false (by omega)
  rw [e1,e2,Bool.or_false]) (by rw [h1]; simpa using h2) ⟨.str ⟨#[c]⟩,H,I.tok _,⟨_,rfl⟩,q⟩) hs
def rIx (K:PySem.W.Frag):R2:=λ x y H Q=>rIxL K x y H Q\/rIxT K x y H Q\/yc x y H Q
theorem bA:IxR X (rIx X.K):=ix_list.or (ix_tup.or vA)
theorem lg (its:List Value) (n j:Nat) (u:Value):Obj.mapSeq (·.setIfInBounds j u) { cls:=.type "list",data:=.seq its.toArray n }={ cls:=.type "list",data:=.seq (its.set j u).toArray n }:=by
 simp [Obj.mapSeq]
theorem Inv.lst {pins:List (Addr×Obj)} {σ:St} {H:Hp} {s:Shared} {p:Addr} {xs:List V} (I:Inv X pins σ H s) (h:H p=some (.lst xs)) :
  ∃ (its:List Value) (n:Nat),Vals xs its/\s.heap.get? p=some { cls:=.type "list",data:=.seq its.toArray n }/\xs.length<=sizeLine:=by
 obtain ⟨z,its,n,r,e⟩:=I.hok p _ h
 exact ⟨its,n,r,e,z⟩
theorem Inv.lstUpd {pins:List (Addr×Obj)} {σ:St} {H:Hp} {s:Shared} {p:Addr} {xs ys:List V} {its its':List Value} {n n':Nat} {f:Obj->Obj} (I:Inv X pins σ H s) (h:H p=some (.lst xs))
  (ho:s.heap.get? p=some { cls:=.type "list", data:=.seq its.toArray n }) (hf:f { cls:=.type "list", data:=.seq its.toArray n }={ cls:=.type "list", data:=.seq its'.toArray n' }) (r:Vals ys its') (hz:ys.length<=sizeLine) (t:Nat) :
  Inv X pins σ (upd H p (.lst ys)) { s with heap:=s.heap.update p f,toks:=t }:=by
 have e:(s.heap.update p f).get? p=some { cls:=.type "list", data:=.seq its'.toArray n' }:=by
  rw [Heap.get?_update_self f ho (by rw [hf] <;> rfl),hf]
 refine I.write (x:=p) (e:=p) (by rw [h]; trivial) (.inl rfl) (λ b u hb q=>(Heap.get?_update_other _ _ (Ne.symm hb)).trans q) ⟨_,e⟩ ?_
 exact ⟨hz,its',n',r,e⟩
inductive rSetL (o:V) (i:V) (v:V) (H:Hp) (Q:Hp->Prop):Prop
 | mk (p:Addr) (xs:List V) (k:Int) (j:Nat) (e_0:o=.ref p) (e_1:i=.int k) (e_2:H p=some (.lst xs)) (e_3:ixN xs.length k=some j) (e_4:Q (upd H p (.lst (xs.set j v)))):rSetL o i v H Q
theorem gN:xR X rSetL:=by
 intro pins s σ H o i v ov iv u Q I ro ri rv h
 obtain ⟨p,xs,k,j,rfl,rfl,hp,hj,q⟩:=h
 cases ro
 obtain ⟨t,rfl⟩:=ri
 obtain ⟨its,n,r,ho,hz⟩:=I.lst hp
 obtain ⟨h1,h2,h3,h4⟩:=ms hj
 have hl:=r.length
 have hn:=fB
 have I':Inv X pins σ (upd H p (.lst (xs.set j v))) { s with heap:=s.heap.update p (Obj.mapSeq (·.setIfInBounds j u)) } :=
  I.lstUpd hp ho (lg its n j u) (r.set rv j) (by rw [List.length_set]; exact hz) s.toks
 by_cases h0:0<=k
 ·have hk:k.toNat=j:=by
   rw [seqIndex_of h0 h4] at h1
   exact Option.some.inj h1
  exact PySem.W.ki_setAt ho h0 (by omega) (by rw [List.size_toArray,<- hl]; exact h4) (by rw [hk]; exact ⟨_,I',q⟩)
 ·have hk:(k + (its.toArray.size:Int)).toNat=j:=by
   rw [seqIndex_neg (by omega) h3] at h1
   rw [List.size_toArray,<- hl]
   exact Option.some.inj h1
  exact PySem.W.ki_setBack ho (by omega) (by rw [List.size_toArray,<- hl]; exact h3) (by omega) (by rw [hk]; exact ⟨_,I',q⟩)
theorem jd (lo hi:Option Int) (n:Nat):(sliceBounds lo hi none n).1=((HT.sIx n 0 lo:Nat):Int)/\(sliceBounds lo hi none n).2.1=((HT.sIx n n hi:Nat):Int)/\(sliceBounds lo hi none n).2.2=1:=by
 refine ⟨?_,?_,Y⟩
 ·cases lo with
  | none=>simp [sliceBounds,HT.sIx]
  | some i =>
   simp only [sliceBounds,HT.sIx,Option.getD_none,show (1:Int) > 0 by decide,if_true]
   by_cases h:i < 0
   ·simp only [h,if_true] <;> omega
   ·simp only [h,if_false] <;> omega
 ·cases hi with
  | none=>simp [sliceBounds,HT.sIx]
  | some i =>
   simp only [sliceBounds,HT.sIx,Option.getD_none,show (1:Int) > 0 by decide,if_true]
   by_cases h:i < 0
   ·simp only [h,if_true] <;> omega
   ·simp only [h,if_false] <;> omega
theorem ig (its:List Value) (lo hi:Option Int):slicePick its.toArray lo hi none=((its.drop (HT.sIx its.length 0 lo)).take (HT.sIx its.length its.length hi - HT.sIx its.length 0 lo)).toArray:=by
 obtain ⟨h1,h2,h3⟩:=jd lo hi its.toArray.size
 unfold slicePick
 rw [h1,h2,h3]
 simp only [sliceRange_one,pick_run,List.size_toArray] <;> rfl
inductive rSlL (K:PySem.W.Frag) (x:V) (lo:Option Int) (hi:Option Int) (H:Hp) (Q:VK):Prop
 | mk (a:Addr) (xs:List V) (e_0:x=.ref a) (e_1:SqL K H a xs) (e_2:∀p,H p=none->Q (.ref p) (upd H p (.lst (gf xs lo hi)))):rSlL K x lo hi H Q
theorem tL:SlR X (rSlL X.K):=by
 intro pins s σ H x v vl vu lo hi sl Q I rx hs pl pu h
 obtain ⟨a,xs,rfl,hx,q⟩:=h
 cases rx
 obtain ⟨its,r,ht,hz⟩:=I.list hx
 have hlen:=r.length
 refine ⟨"list",_,slot_list_getitem.lookup,ht.isList.typeIs,?_⟩
 refine wpAny_getItem_list_slice ht.isList hs pl pu .none (by simp) ?_ (by rw [List.size_toArray] <;> omega)
 rw [ig,<- hlen]
 refine ⟨.ref s.heap.objs.size,_,I.laid (t':=s.toks) (o:=.lst (gf xs lo hi)) (λ b ob q=>Heap.get?_push_of_some _ q) (Nat.le_refl _) ?_,Y,q _ (I.hok.fresh (Nat.le_refl _))⟩
 exact ⟨Nat.le_trans (fZ xs lo hi) hz,_,0,(r.drop (HT.sIx xs.length 0 lo)).take (HT.sIx xs.length xs.length hi - HT.sIx xs.length 0 lo),Heap.get?_push_size _ rfl⟩
def gb:V->Bool
 | .non=>true
 | .bl _=>true
 | .int _=>true
 | .str _=>true
 | _=>false
def eqV:V->V->Bool
 | .non,.non=>true
 | .bl a,.bl b=>a == b
 | .bl a,.int b=>(if a then 1 else 0) == b
 | .int a,.bl b=>a == (if b then 1 else 0)
 | .int a,.int b=>a == b
 | .str a,.str b=>a == b
 | _,_=>false
theorem vB {A:Around} {s:Shared} {y x:V} {u v:Value} (ry:RelV y u) (rx:RelV x v) (fy:gb y=true) (fx:gb x=true):SeqAt.EqAt A s u v (eqV y x):=by
 cases y with
 | non =>
  cases ry
  cases x with
  | non=>cases rx; exact SeqAt.EqAt.same _
  | bl b=>cases rx; exact SeqAt.EqAt.none_bool b
  | int b=>obtain ⟨t,rfl⟩:=rx; exact SeqAt.EqAt.none_int b t
  | str b=>obtain ⟨t,rfl⟩:=rx; exact SeqAt.EqAt.none_str b t
  | _=>exact absurd (show false=true from fx) Bool.false_ne_true
 | bl a =>
  cases ry
  cases x with
  | non=>cases rx; exact SeqAt.EqAt.bool_none a
  | bl b=>cases rx; exact SeqAt.EqAt.bool_bool a b
  | int b=>obtain ⟨t,rfl⟩:=rx; exact SeqAt.EqAt.bool_int a b t
  | str b=>obtain ⟨t,rfl⟩:=rx; exact SeqAt.EqAt.bool_str a b t
  | _=>exact absurd (show false=true from fx) Bool.false_ne_true
 | int a =>
  obtain ⟨t',rfl⟩:=ry
  cases x with
  | non=>cases rx; exact SeqAt.EqAt.int_none a t'
  | bl b=>cases rx; exact SeqAt.EqAt.int_bool a t' b
  | int b=>obtain ⟨t,rfl⟩:=rx; exact SeqAt.EqAt.int_int a t' b t
  | str b=>obtain ⟨t,rfl⟩:=rx; exact SeqAt.EqAt.int_str a t' b t
  | _=>exact absurd (show false=true from fx) Bool.false_ne_true
 | str a =>
  obtain ⟨t',rfl⟩:=ry
  cases x with
  | non=>cases rx; exact SeqAt.EqAt.str_none a t'
  | bl b=>cases rx; exact SeqAt.EqAt.str_bool a t' b
  | int b=>obtain ⟨t,rfl⟩:=rx; exact SeqAt.EqAt.str_int a t' b t
  | str b=>obtain ⟨t,rfl⟩:=rx; exact SeqAt.EqAt.str_str a t' b t
  | _=>exact absurd (show false=true from fx) Bool.false_ne_true
 | _=>exact absurd (show false=true from fy) Bool.false_ne_true
def eqU (x:V) (u:Value):Bool:=match u with
 | .none=>eqV .non x
 | .bool b=>eqV (.bl b) x
 | .int i _=>eqV (.int i) x
 | .str z _=>eqV (.str z) x
 | _=>false
theorem qx {x y:V} {u:Value} (r:RelV y u) (f:gb y=true):eqU x u=eqV y x:=by
 cases y with
 | non=>cases r; rfl
 | bl b=>cases r; rfl
 | int i=>obtain ⟨t,rfl⟩:=r; rfl
 | str z=>obtain ⟨t,rfl⟩:=r; rfl
 | _=>exact absurd (show false=true from f) Bool.false_ne_true
theorem eO {x:V}:∀ {xs:List V} {us:List Value},Vals xs us->xs.all gb=true->us.any (eqU x)=xs.any λ y=>eqV y x
 | _,_,.nil,_=>rfl
 | y :: xs,u :: us,.cons r t,f=>by
  rw [List.all_cons,Bool.and_eq_true] at f
  rw [List.any_cons,List.any_cons,qx r f.1,eO t f.2]
theorem dC {A:Around} {s:Shared} {x:V} {v:Value} (rx:RelV x v) (fx:gb x=true):∀ {xs:List V} {us:List Value},Vals xs us->xs.all gb=true->∀u∈us,SeqAt.EqAt A s u v (eqU x u)
 | _,_,.nil,_=>λ u hu=>by cases hu
 | y :: xs,u :: us,.cons r t,f=>λ u' hu=>by
  rw [List.all_cons,Bool.and_eq_true] at f
  rcases List.mem_cons.mp hu with rfl | hu
  ·rw [qx r f.1]; exact vB r rx f.1 fx
  ·exact dC rx fx t f.2 u' hu
def inV (x:V) (xs:List V):Bool:=xs.any λ y=>eqV y x
def rIn (K:PySem.W.Frag) (neg:Bool):R2:=λ x y H Q=>∃p xs,y=.ref p/\(SqL K H p xs\/SqT K H p xs)/\gb x=true/\xs.all gb=true/\Q (.bl (if neg then !inV x xs else inV x xs)) H
theorem nG:OpR X (compareOp .In) (rIn X.K false):=by
 intro pins s σ H x y v u Q I rx ry h
 obtain ⟨p,xs,rfl,hq,fx,fs,q⟩:=h
 cases ry
 rcases hq with hq | hq
 ·obtain ⟨its,r,pl,hz⟩:=I.list hq
  refine SeqAt.in_listAt (eqU x) pl.isList (λ w hw=>dC rx fx r fs w (by simpa using hw)) ⟨.bl _,H,I,rfl,?_⟩
  rw [show its.toArray.any (eqU x)=its.any (eqU x) by simp,eO r fs]
  exact q
 ·obtain ⟨its,r,pl,hz⟩:=I.tuple hq
  refine SeqAt.in_tupleAt (eqU x) pl (λ w hw=>dC rx fx r fs w (by simpa using hw)) ⟨.bl _,H,I,rfl,?_⟩
  rw [show its.toArray.any (eqU x)=its.any (eqU x) by simp,eO r fs]
  exact q
theorem cV:OpR X (compareOp .NotIn) (rIn X.K true):=by
 intro pins s σ H x y v u Q I rx ry h
 obtain ⟨p,xs,rfl,hq,fx,fs,q⟩:=h
 cases ry
 rcases hq with hq | hq
 ·obtain ⟨its,r,pl,hz⟩:=I.list hq
  refine SeqAt.notIn_listAt (eqU x) pl.isList (λ w hw=>dC rx fx r fs w (by simpa using hw)) ⟨.bl _,H,I,rfl,?_⟩
  rw [show its.toArray.any (eqU x)=its.any (eqU x) by simp,eO r fs]
  exact q
 ·obtain ⟨its,r,pl,hz⟩:=I.tuple hq
  refine SeqAt.notIn_tupleAt (eqU x) pl (λ w hw=>dC rx fx r fs w (by simpa using hw)) ⟨.bl _,H,I,rfl,?_⟩
  rw [show its.toArray.any (eqU x)=its.any (eqU x) by simp,eO r fs]
  exact q
theorem aN:cj X (.builtin "len") (λ xs H Q=>∃p ys,xs=[.ref p]/\(SqL X.K H p ys\/SqT X.K H p ys)/\Q (.int ys.length) H):=by
 intro pins s σ H xs us Q I r h
 obtain ⟨p,ys,rfl,hq,q⟩:=h
 obtain ⟨u,rfl,rx⟩:=ek r
 cases rx
 have hn:=fB
 rcases hq with hq | hq
 ·obtain ⟨its,r',pl,hz⟩:=I.list hq
  have hlen:=r'.length
  exact Calls.call_len_list pl.isList (by simp only [List.size_toArray] <;> omega) ⟨.int ys.length,H,I.tok _,⟨s.toks + 1,by rw [List.size_toArray,hlen]⟩,q⟩
 ·obtain ⟨its,r',pl,hz⟩:=I.tuple hq
  have hlen:=r'.length
  exact len_tuple pl (by simp only [List.size_toArray] <;> omega) ⟨.int ys.length,H,I.tok _,⟨s.toks + 1,by rw [List.size_toArray,hlen]⟩,q⟩
theorem bg:cj X (.type "tuple") (λ xs H Q=>∃p ys,xs=[.ref p]/\((SqL X.K H p ys/\∀l,H l=none->Q (.ref l) (upd H l (.tup ys)))\/(SqT X.K H p ys/\Q (.ref p) H))):=by
 intro pins s σ H xs us Q I r h
 obtain ⟨p,ys,rfl,h⟩:=h
 obtain ⟨u,rfl,rx⟩:=ek r
 cases rx
 rcases h with ⟨hq,q⟩ | ⟨hq,q⟩
 ·obtain ⟨its,r',pl,hz⟩:=I.list hq
  have hlen:=r'.length
  refine call_tuple_list pl.isList (λ h' kp=>?_) (by simp only [List.size_toArray] <;> omega)
  have I1:Inv X pins σ H { s with heap:=h' }:=I.kept (t':=s.toks) kp
  have I2:Inv X pins σ (upd H h'.objs.size (.tup ys)) { s with heap:=h'.push { cls:=.type "tuple", data:=.seq its.toArray } } :=
   I1.laid (t':=s.toks) (λ b o e=>Heap.get?_push_of_some _ e) (Nat.le_refl _) (show ObjOk X.prog X.w _ _ _ (.tup ys) from ⟨hz,its,r',IsTup.new _ _⟩)
  exact ⟨.ref h'.objs.size,_,I2,Y,q _ (I1.hok.fresh (Nat.le_refl _))⟩
 ·obtain ⟨its,r',pl,hz⟩:=I.tuple hq
  exact call_tuple_same pl ⟨.ref p,H,I,rfl,q⟩
def tyV (K:PySem.W.Frag) (T:String) (x:V) (H:Hp):Prop:=match x with
 | .str _=>T = "str"
 | .int _=>T = "int"
 | .ref p=>(T = "list" /\ ∃xs,SqL K H p xs)\/(T = "tuple" /\ ∃o,K.lookup p=some o/\o.cls=.type "tuple" /\ o.dict=none) \/
   (T = "dict" /\ ((∃kvs,H p=some (.dK kvs))\/∃kvs,H p=some (.dT kvs)))\/(T = "set" /\ ∃S n,H p=some (.set S n))
 | _=>False
theorem qy {pins:List (Addr×Obj)} {σ:St} {H:Hp} {s:Shared} {T:String} {x:V} {v:Value} (I:Inv X pins σ H s) (r:RelV x v) (ty:tyV X.K T x H) :
  s.TypeIs v T/\∀a,v=.ref a->∃ob,s.heap.get? a=some ob/\ob.dict=none:=by
 cases x with
 | str z =>
  obtain ⟨t,rfl⟩:=r
  cases (show T = "str" from ty)
  exact ⟨typeIs_str s z t,λ _ e=>nomatch e⟩
 | int i =>
  obtain ⟨t,rfl⟩:=r
  cases (show T = "int" from ty)
  exact ⟨typeIs_int s i t,λ _ e=>nomatch e⟩
 | ref p =>
  cases r
  rcases ty with ⟨rfl,xs,hq⟩ | ⟨rfl,o,hk,hc,hd⟩ | ⟨rfl,hk⟩ | ⟨rfl,S,n,hk⟩
  ·obtain ⟨its,_,pl,_⟩:=I.list hq
   refine ⟨pl.isList.typeIs,λ a e=>?_⟩
   cases e
   obtain ⟨o,n,e,c,hd,_⟩:=pl
   exact ⟨o,e,hd⟩
  ·refine ⟨⟨o,I.kIn p o hk,hc⟩,λ a e=>?_⟩
   cases e
   exact ⟨o,I.kIn _ o hk,hd⟩
  ·have z:∃o,s.heap.get? p=some o/\o.ExactDict:=by
    rcases hk with ⟨kvs,hk⟩ | ⟨kvs,hk⟩
    ·obtain ⟨_,_,_,_,o,_,_,e,ex,_⟩:=I.hok p _ hk
     exact ⟨o,e,ex⟩
    ·obtain ⟨_,_,_,_,o,_,_,e,ex,_⟩:=I.hok p _ hk
     exact ⟨o,e,ex⟩
   obtain ⟨o,e,ex⟩:=z
   refine ⟨⟨o,e,ex.1⟩,λ a e2=>?_⟩
   cases e2
   exact ⟨o,e,ex.2.1⟩
  ·obtain ⟨o,_,_,_,e,ex,_⟩:=I.hok p _ hk
   refine ⟨⟨o,e,ex.1⟩,λ a e2=>?_⟩
   cases e2
   exact ⟨o,e,ex.2.1⟩
 | _=>exact False.elim ty
def Gh (K:PySem.W.Frag) (T:String) (r:V->List V->Hp->VK->Prop) (to:TE):TE:=λ σ H Q=>to σ H λ x H1=>tyV K T x H1/\r x [] H1 Q
def tBM (K:PySem.W.Frag) (T:String) (r:V->List V->Hp->VK->Prop) (to:TE) (t:TA):TE:=λ σ H Q=>to σ H λ x H1=>tyV K T x H1/\t σ H1 λ xs H2=>r x xs H2 Q
variable {o e:Expr} {es:List Expr} {to:TE} {t:TA} {name:Str} {apos cpos:Pos} {T id:String} {r:V->List V->Hp->VK->Prop}
theorem je (pa:PlainAttrs T) (slot:Slot T name id) (hty:typeOf (.builtin id)=pure (.type "method_descriptor")) (hm:MtR X id r) (ho:PE X o to)
  (hbase:attributeBase o name X.env (eval o X.env)=eval o X.env:=by rfl) (hline:(apos.endLine == cpos.line)=true:=by rfl):PE X (.Call (.Attribute o name apos) [] [] cpos) (Gh X.K T r to):=by
 intro pins s σ H Q I h
 refine wpAny_Call_method0_late hbase hline (thn (ho pins s σ H _ I h) λ v s1 ⟨x,H1,I1,r1,ty,q1⟩=>?_)
 obtain ⟨h1,h2⟩:=qy I1 r1 ty
 exact ⟨T,id,pa,slot,hty,h1,h2,Calls.callWith_builtin rfl (PySem.evalArgs_none (hm pins s1 σ H1 x [] v [] Q I1 r1 .nil q1))⟩
theorem em (pa:PlainAttrs T) (slot:Slot T name id) (hty:typeOf (.builtin id)=pure (.type "method_descriptor")) (hm:MtR X id r) (ho:PE X o to) (ha:PA X (e :: es) t)
  (hbase:attributeBase o name X.env (eval o X.env)=eval o X.env:=by rfl)
  (hfew:((backTo cpos (starEach (e :: es) X.env)).all (λ x=>!x.1) && (backToKw cpos (keywordEach [] X.env)).all (λ x=>x.1.isSome)
   && decide ((e :: es).length + ([]:List Keyword).length + (if ([]:List Keyword).isEmpty then 0 else 1) < 30))=true:=by rfl)
  (hline:(apos.endLine == cpos.line)=true:=by rfl) (hs:starEach (e :: es) X.env=(false,eval e X.env) :: starEach es X.env:=by rfl) (hplain:(backTo cpos (starEach es X.env)).any (·.1)=false:=by rfl) :
  PE X (.Call (.Attribute o name apos) (e :: es) [] cpos) (tBM X.K T r to t):=by
 intro pins s σ H Q I h
 refine wpAny_Call_method_late hbase hfew hline rfl (thn (ho pins s σ H _ I h) λ v s1 ⟨x,H1,I1,r1,ty,q1⟩=>?_)
 obtain ⟨h1,h2⟩:=qy I1 r1 ty
 refine ⟨T,id,pa,slot,hty,h1,h2,?_⟩
 have hA:=ha cpos pins s1 σ H1 _ I1 q1
 rw [hs] at hA ⊢
 refine Calls.callWith_builtin (by show (false || (backTo cpos (starEach es X.env)).any (·.1))=false; rw [hplain] <;> rfl) (Calls.evalArgs_plain ?_)
 exact thn hA λ us s2 ⟨vs,H2,I2,r2,q2⟩=>hm pins s2 σ H2 x vs v us Q I2 r1 r2 q2
/- xs.append(e),list.index on a module's tuple .. are MtR facts of 06m -/
end
end L2
namespace L2
open PySem PySem.Spec PyProof.Rows
def MtM (X:Cx) (id:String) (r:V->List V->Hp->VK->Prop):Prop :=
 ∀ (pins:List (Addr×Obj)) (s:Shared) (σ:St) (H:Hp) (x:V) (xs:List V) (v:Value) (us:List Value) (Q:VK),Inv X pins σ H s->RelV x v->Vals xs us->r x xs H Q ->
  wpAny (model X.prog X.w) X.A (call (.builtin id) (v :: us)) (EP X pins σ Q) X.xe s
theorem Vals.one:∀ {x:V} {us:List Value},Vals [x] us->∃u,us=[u]/\RelV x u
 | _,_,.cons r .nil=>⟨_,Y,r⟩
theorem Vals.zero:∀ {us:List Value},Vals [] us->us=[]
 | _,.nil=>rfl
theorem Vals.dropLast {xs:List V} {us:List Value} (h:Vals xs us):Vals xs.dropLast us.dropLast:=by
 induction h with
 | nil=>exact .nil
 | cons r t ih =>
  cases t with
  | nil=>exact .nil
  | cons q t'=>exact .cons r ih
theorem lh {α:Type} (l:List α):l.eraseIdx (l.length - 1)=l.dropLast:=by
 induction l with
 | nil=>rfl
 | cons a r ih =>
  cases r with
  | nil=>rfl
  | cons b r =>
   have e:(a :: b :: r).length - 1=((b :: r).length - 1) + 1:=by
    have h1:(a :: b :: r).length=r.length + 2:=rfl
    have h2:(b :: r).length=r.length + 1:=rfl
    omega
   rw [e,List.eraseIdx_cons_succ,ih]
   all_goals rfl
section
variable {X:Cx} {pins:List (Addr×Obj)} {σ:St} {H:Hp} {s:Shared} {l b:Addr} {xs ys zs:List V}
theorem Inv.lset {its its':List Value} {n:Nat} {f:Array Value->Array Value} {t':Nat} (I:Inv X pins σ H s) (hH:H l=some (.lst xs))
  (e:s.heap.get? l=some { cls:=.type "list", data:=.seq its.toArray n }) (hf:f its.toArray=its'.toArray) (hv:Vals ys its') (hz:ys.length<=sizeLine) :
  Inv X pins σ (upd H l (.lst ys)) { s with heap:=s.heap.update l (Obj.mapSeq f),toks:=t' }:=by
 have q:=PySem.IsL.update e f
 rw [hf] at q
 refine I.write (x:=l) (e:=l) (by rw [hH]; exact trivial) (.inl rfl) (λ b' u hb hu=>(Heap.get?_update_other s.heap (Obj.mapSeq f) (Ne.symm hb)).trans hu) ⟨_,q⟩ ?_
 exact ⟨hz,its',_,hv,q⟩
theorem Inv.lnew {its:List Value} {t':Nat} (I:Inv X pins σ H s) (hv:Vals ys its) (hz:ys.length<=sizeLine) :
  Inv X pins σ (upd H s.heap.objs.size (.lst ys)) { s with heap:=s.heap.push { cls:=.type "list", data:=.seq its.toArray }, toks:=t' } :=
 I.laid (λ _ _ q=>Heap.get?_push_of_some _ q) (Nat.le_refl _) ⟨hz,its,0,hv,Heap.get?_push_size _ rfl⟩
theorem Inv.fresh (I:Inv X pins σ H s):H s.heap.objs.size=none:=I.hok.fresh (Nat.le_refl _)
theorem Inv.lstM (I:Inv X pins σ H s) (hH:H l=some (.lst xs)):xs.length<=sizeLine/\∃ (its:List Value) (n:Nat),Vals xs its/\xs.length=its.length/\s.heap.get? l=some { cls:=.type "list",data:=.seq its.toArray n }:=by
 obtain ⟨z,its,n,r,e⟩:=I.hok l _ hH
 exact ⟨z,its,n,r,r.length,e⟩
theorem qz {n:Nat} (h:n<=sizeLine):Builtin.List.listTooLong n=false:=by
 unfold Builtin.List.listTooLong
 exact decide_eq_false (by omega)
end
section
variable {X:Cx}
inductive rAppend (x:V) (vs:List V) (H:Hp) (Q:VK):Prop
 | mk (l:Addr) (xs:List V) (y:V) (e_0:x=.ref l) (e_1:vs=[y]) (e_2:H l=some (.lst xs)) (e_3:xs.length < sizeLine) (e_4:Q .non (upd H l (.lst (xs ++ [y])))):rAppend x vs H Q
theorem bL:MtM X "list.append" rAppend:=by
 intro pins s σ H x vs v us Q I rx rv h
 obtain ⟨l,xs,y,rfl,rfl,hH,hz,q⟩:=h
 cases rx
 obtain ⟨u,rfl,ru⟩:=rv.one
 obtain ⟨z,its,n,r,hl,e⟩:=I.lstM hH
 refine call_meets F.slot_list_append ⟨_,e,Y⟩ F.entry_list_append (F.args_list_append_2 _ _) (PySem.list_append l its.toArray n u (by rw [List.size_toArray]; omega)) ⟨e,?_⟩
 refine ⟨.non,_,I.lset (its':=its ++ [u]) hH e (by simp) (r.append (.cons ru .nil)) ?_,Y,q⟩
 rw [List.length_append,List.length_singleton]
 omega
def tM:V->List V->Hp->VK->Prop:=λ x vs H Q=>∃l b xs zs,x=.ref l/\vs=[.ref b]/\H l=some (.lst xs)/\H b=some (.lst zs)/\xs.length + zs.length<=sizeLine/\Q .non (upd H l (.lst (xs ++ zs)))
theorem iz:MtM X "list.extend" tM:=by
 intro pins s σ H x vs v us Q I rx rv h
 obtain ⟨l,b,xs,zs,rfl,rfl,hH,hB,hz,q⟩:=h
 cases rx
 obtain ⟨u,rfl,ru⟩:=rv.one
 cases ru
 obtain ⟨z,its,n,r,hl,e⟩:=I.lstM hH
 obtain ⟨z2,its2,n2,r2,hl2,e2⟩:=I.lstM hB
 have hsz:its.toArray.size + its2.toArray.size<=sizeLine:=by rw [List.size_toArray,List.size_toArray]; omega
 have hlong:¬ (!its.toArray.isEmpty && Builtin.List.listTooLong (its.toArray.size + its2.toArray.size))=true:=by
  rw [qz hsz,Bool.and_false]
  exact Bool.false_ne_true
 refine call_meets F.slot_list_extend ⟨_,e,Y⟩ F.entry_list_extend (F.args_list_extend_2 _ _)
  (AutoSeq1.list_extend_list_list_0 l its.toArray n b its2.toArray n2 hlong (by rw [List.size_toArray]; omega) (by omega)) ⟨e,e2,?_⟩
 refine ⟨.non,_,I.lset (its':=its ++ its2) hH e (by simp) (r.append r2) ?_,Y,q⟩
 rw [List.length_append]
 omega
def Gi:V->List V->Hp->VK->Prop:=λ x vs H Q=>∃l xs y,x=.ref l/\vs=[]/\H l=some (.lst xs)/\xs[xs.length - 1]? = some y/\Q y (upd H l (.lst xs.dropLast))
theorem li:MtM X "list.pop" Gi:=by
 intro pins s σ H x vs v us Q I rx rv h
 obtain ⟨l,xs,y,rfl,rfl,hH,hy,q⟩:=h
 cases rx
 have hus:=rv.zero
 subst hus
 obtain ⟨z,its,n,r,hl,e⟩:=I.lstM hH
 obtain ⟨u,hu,ru⟩:=r.get hy
 have hy':its.toArray[its.toArray.size - 1]? = some u:=by
  show its.toArray[its.length - 1]? = some u
  rw [<- Array.getElem?_toList,<- hl]
  exact hu
 refine call_meets F.slot_list_pop ⟨_,e,Y⟩ F.entry_list_pop (F.args_list_pop_1 _) (MeetsSeq.list_pop_last l its.toArray n u hy' (by rw [List.size_toArray]; omega)) ⟨e,?_⟩
 refine ⟨y,_,I.lset (its':=its.dropLast) hH e ?_ r.dropLast ?_,ru,q⟩
 ·show its.toArray.eraseIdxIfInBounds (its.toArray.size - 1)=its.dropLast.toArray
  rw [List.size_toArray,List.eraseIdxIfInBounds_toArray,lh]
 ·rw [List.length_dropLast]
  omega
def vC:V->List V->Hp->VK->Prop:=λ x vs H Q=>∃l xs,x=.ref l/\vs=[]/\H l=some (.lst xs)/\Q .non (upd H l (.lst []))
theorem qB:MtM X "list.clear" vC:=by
 intro pins s σ H x vs v us Q I rx rv h
 obtain ⟨l,xs,rfl,rfl,hH,q⟩:=h
 cases rx
 have hus:=rv.zero
 subst hus
 obtain ⟨z,its,n,r,hl,e⟩:=I.lstM hH
 refine call_meets F.slot_list_clear ⟨_,e,Y⟩ F.entry_list_clear (F.args_list_clear_1 _) (AutoSeq1.list_clear_list_0 l its.toArray n (by rw [List.size_toArray]; omega)) ⟨e,?_⟩
 exact ⟨.non,_,I.lset (its':=[]) (ys:=[]) hH e rfl .nil (Nat.zero_le _),Y,q⟩
inductive rCat (x:V) (y:V) (H:Hp) (Q:VK):Prop
 | mk (l:Addr) (b:Addr) (xs:List V) (zs:List V) (e_0:x=.ref l) (e_1:y=.ref b) (e_2:H l=some (.lst xs)) (e_3:H b=some (.lst zs)) (e_4:xs.length + zs.length<=sizeLine) (e_5:∀p,H p=none->Q (.ref p) (upd H p (.lst (xs ++ zs)))):rCat x y H Q
theorem jf:OpR X (binaryOp .Add) rCat:=by
 intro pins s σ H x y v u Q I rx ry h
 obtain ⟨l,b,xs,zs,rfl,rfl,hH,hB,hz,q⟩:=h
 cases rx
 cases ry
 obtain ⟨z,its,n,r,hl,e⟩:=I.lstM hH
 obtain ⟨z2,its2,n2,r2,hl2,e2⟩:=I.lstM hB
 refine PySem.P.add_list e e2 ?_ (by rw [List.size_toArray,List.size_toArray]; omega)
 have ea:its.toArray ++ its2.toArray=(its ++ its2).toArray:=by simp
 rw [ea]
 exact ⟨.ref _,_,I.lnew (t':=s.toks) (r.append r2) (by rw [List.length_append]; omega),Y,q _ I.fresh⟩
end
end L2
namespace Att
open PySem PySem.W PySem.Calls PyProof.Rows
theorem gg {P:Params} {h:Heap}:∀ (ns:List Int) (vs:List Value),WellAll P h vs (ns.map WData.int)->IntsAre vs ns:=by
 intro ns
 induction ns with
 | nil =>
  intro vs w
  rw [List.map_nil] at w
  cases w
  exact .nil
 | cons n ns ih =>
  intro vs w
  rw [List.map_cons] at w
  cases w with
  | cons a b =>
   cases a
   exact .cons _ _ (ih _ b)
theorem nH {l:OpenLaw} {n:Nat} (hn:l.most=some n) {P:Params} {h:Heap} {args:List WData} {vals:List Value}
  (hpre:l.row.toRowW.claim.pre args=true) (hwl:WellAll P h vals args) :
  ∃a vs ns,vals=[Value.ref a]/\args=[WData.list (ns.map WData.int)]/\h.get? a=some { cls:=.type "list",data:=.seq vs.toArray }/\IntsAre vs ns/\ns.length<=n:=by
 have hsh:WShape.hasAll [] args [.list .int]=true:=(pre_splitW hpre).1
 have hc:l.pre.holds [] { args:=args }=true:=(pre_splitW hpre).2
 obtain ⟨d,r,rfl,h1,h2⟩:=hasAllW_cons hsh
 obtain rfl:=hasAllW_nil h2
 obtain ⟨xs,rfl,h3⟩:=hasW_list h1
 obtain ⟨ns,rfl⟩:=items_int h3
 have hlen:ns.length<=n:=by
  unfold OpenLaw.pre at hc
  have h4:(WTm.not (.lt (.lit (.int (n:Int))) (.len (.arg 0)))).holds [] { args:=[.list (ns.map .int)] }=true:=by
   have h4:=(holds_andW hc).1
   rw [hn] at h4
   exact h4
  have h5:=condW_of h4 (w_not (w_lt w_lit (w_len_list (w_arg rfl))))
  rw [List.length_map] at h5
  refine Nat.le_of_not_lt λ q=>?_
  have q':(n:Int) < ((ns.length:Nat):Int):=by omega
  first
   | (rw [decide_eq_true q'] at h5; exact absurd h5 (by decide))
   | (simp at h5; omega)
 cases hwl with
 | cons w1 w2 =>
  cases w2
  cases w1 with
  | list ho hall=>exact ⟨_,_,ns,Y,Y,ho,gg ns _ hall,hlen⟩
theorem nI (l:OpenLaw) (args:List WData):l.row.toRowW.claim.post args (.bool true) args=true :=
 postW_of (r:=l.row.toRowW) (X:=(true == true))
  (show WShape.has [] (.bool true) .bool=true by first | rfl | decide | simp [WShape.has,WShape.arms,WShape.armsAll])
  (show (WTm.eq .res (.lit (.bool true))).value [] { args:=args,res:=some (.bool true),after:=args }=some (.bool (true == true)) from w_eq_bool (w_res rfl) w_lit) rfl
theorem attach_call {l:OpenLaw} {n:Nat} {q:Program} {loose:List Str} {XP:(Str->Option Value)->Heap->Prop} {YP:World->Heap->Prop} {d:DefRec}
  (hn:l.most=some n) (hdf:d.params.defaults=[])
  (call:∀ (w:World) (s₀ s₁:Shared) (mg mb:Str->Option Value) (fa:Addr) (o:Obj) (pm cd doc:Value) (a:Addr) (vs:List Value) (ns:List Int),
   Ground q loose [] XP w s₀ mg mb s₁.heap->YP w s₁.heap ->
   s₁.heap.get? fa=some o->o.data=.func (docDef d.name d.params d.body d.scope pm cd doc)->s₁.heap.CodeRec cd d.name->mg d.name=some (.ref fa) ->
   s₁.heap.get? a=some { cls:=.type "list",data:=.seq vs.toArray }->IntsAre vs ns->ns.length<=n->s₁.gens=#[] ->
   codeAny (model l.prog w) callerA (.call (.ref fa) ⟨[.ref a],[]⟩) (λ r s'=>r=.ok (.ret (.bool true))/\OldK s₁.heap s'.heap/\s'.os=s₁.os/\AllBare s'.gens) s₁) :
  WalkO q loose XP YP l.row.toRowW d [] (λ f vs=>PySem.call f vs):=by
 intro w s₀ s₁ mg mb G YY0 fa o pm cd doc dV kV ho hd hcd hD hmg hg args vals as hpre hlay hrd hwl hlo
 obtain rfl:dV=.none:=Dflts.none hD hdf
 obtain rfl:kV=.none:=Dflts.noKw hD
 obtain ⟨a,vs,ns,rfl,rfl,hobj,hints,hlen⟩:=nH hn hpre hwl
 refine enter_call (codeAny_mono (call w s₀ s₁ mg mb fa o pm cd doc a vs ns G YY0 ho (fd_plain hd) hcd hmg hobj hints hlen hg) λ r s' hq=>?_)
 obtain ⟨rfl,h2,h3,h4⟩:=hq
 exact ⟨.inl ⟨.bool true,.bool true,[],Y,λ _=>rfl,.bool true,nI l _,λ _=>⟨List.Pairwise.nil,λ _ hm=>(nomatch hm)⟩⟩,h2,h3,h4⟩
section
variable {prog:Program} {w:World} {A:Around} {E:Value->Shared->Prop} {s:Shared} {K:Frag}
def Gj (h:Heap) (L d:Addr):List (Addr×Obj):=(List.range h.objs.size).filterMap λ a=>if a=L\/a=d then none else (h.get? a).map λ o=>(a,o)
end
end Att
namespace L2
open PySem PySem.Spec PyProof.Rows
theorem iA:∀ {vs:List Value} {ns:List Int},IntsAre vs ns->Vals (ns.map V.int) vs
 | _,_,.nil=>.nil
 | _,_,.cons n t h=>.cons ⟨t,Y⟩ (iA h)
def vD (H:Hp):Prop:=∀b,H b=none\/∃o xs,H b=some (.frz o (.lst xs))
theorem qD {P:Program} {w:World} {K:PySem.W.Frag} {mg mb:Str->Option Value} {CX:CXT} {k:Nat} {fa a:Addr} {fd:FuncData} {x:Str} {sp:Sp} {s₁:Shared} {vs:List Value} {ns:List Int}
  (KX:K.In s₁.heap) (hns:s₁.heap.Ns mainGlobals mg) (hb:s₁.heap.Ns builtinsNs mb) (hbb:∀x:Str,x ≠ "__name__" -> mb x=bootBuiltins x) (hlim:s₁.heap.NoLimit) (hg:s₁.gens=#[])
  (ha:s₁.heap.get? a=some { cls:=.type "list",data:=.seq vs.toArray }) (hi:IntsAre vs ns) (hl:ns.length<=sizeLine) (hr:Room k callerA)
  (F:∀base:Heap,K.In base->base.Ns mainGlobals mg->FnOk P w K mg base CX k fa fd [x] sp) (hbind:∀ (s:Shared) (u:Value),BindsTo s fd ⟨[u],[]⟩ [(x,u)])
  (hsp:∀H:Hp,vD H->SqL K H a (ns.map V.int)->sp [.ref a] H (λ v _=>v=.bl true) λ _ _ _=>False)
  (hCX:∀H e s',CX [] H s₁ (λ _ _ _=>False) e s'->False) :
  codeAny (model P w) callerA (.call (.ref fa) ⟨[.ref a],[]⟩) (λ r s'=>r=.ok (.ret (.bool true))/\OldK s₁.heap s'.heap/\s'.os=s₁.os/\AllBare s'.gens) s₁:=by
 have rv:=iA hi
 have lenV:=hi.length
 have core:∀H:Hp,vD H->SqL K H a (ns.map V.int)->HOk P w H s₁.heap->(∀b,H b≠none->b=a)->(H a≠none->K.lookup a=none) ->
   codeAny (model P w) callerA (.call (.ref fa) ⟨[.ref a],[]⟩) (λ r s'=>r=.ok (.ret (.bool true))/\OldK s₁.heap s'.heap/\s'.os=s₁.os/\AllBare s'.gens) s₁:=by
  intro H hO hS hok hA hK
  have base_of:∀ {b:Addr} {o:Obj},s₁.heap.get? b=some o->H b=none->(iU s₁.heap H).get? b=some o:=λ e n=>qe e n
  have noA:∀ {b:Addr} {o:Obj} {es:Array DictEntry} {ep:Nat},s₁.heap.get? b=some o->o.data=.dict es ep->H b=none:=λ {b o es ep} e d=>by
   cases q:H b with
   | none=>rfl
   | some u =>
    have e':b=a:=hA b (by rw [q]; simp)
    subst e'
    rw [ha] at e; cases e
    have d':Data.seq vs.toArray _=Data.dict es ep:=d
    cases d'
  have nsK:∀ {b:Addr} {m:Str->Option Value},s₁.heap.Ns b m->(iU s₁.heap H).Ns b m:=λ {b m} ⟨o,es,ep,e,d,r⟩=>⟨o,es,ep,base_of e (noA e d),d,r⟩
  have hKb:K.In (iU s₁.heap H):=λ b o e=>base_of (KX b o e) (by
   cases q:H b with
   | none=>rfl
   | some u =>
    have e':b=a:=hA b (by rw [q]; simp)
    subst e'
    rw [hK (by rw [q]; simp)] at e; cases e)
  have hM:Mod K mg (iU s₁.heap H):=⟨hKb,nsK hns,⟨mb,nsK hb,hbb⟩,let ⟨mc,h1,h2⟩:=hlim; ⟨mc,nsK h1,h2⟩⟩
  have e0:Env0 P w K mg (iU s₁.heap H) callerA [] s₁ H:=⟨Y,hM,λ b o e=>sX e,Nat.le_of_eq (nv _ _),trivial,λ b hb=>absurd (show b∈([]:List Addr) from hb) (by simp),hok,.of_eq hg⟩
  refine codeAny_mono ((F _ hKb (nsK hns)).run callerA [] s₁ H ⟨[.ref a],[]⟩ [.ref a] [.ref a] _ _ hr e0 (hbind s₁ (.ref a)) (.cons rfl .nil) (hsp H hO hS)) λ r s' h=>?_
  cases r with
  | error e=>exact (hCX H e s' h).elim
  | ok fl =>
   cases fl with
   | next=>exact False.elim h
   | brk=>exact False.elim h
   | cont=>exact False.elim h
   | ret u =>
    obtain ⟨v,H',os,bare,un,hok',r',q⟩:=h
    have q':v=.bl true:=q
    subst q'
    obtain rfl:u=Value.bool true:=r'
    refine ⟨Y,OldK.of_keep λ b o e=>?_,os,bare⟩
    cases q:H b with
    | none=>exact un.keep b o e q (by intro z; exact absurd (show b∈([]:List Addr) from z) (by simp)) (by simp)
    | some u =>
     rcases hO b with z | ⟨ob,xs,z⟩
     ·rw [q] at z; cases z
     ·have z2:=un.frzs b ob _ z
      obtain ⟨e1,_⟩:=hok b _ z
      obtain ⟨e2,_⟩:=hok' b _ z2
      rw [e] at e1; cases e1
      exact e2
 cases hk:K.lookup a with
 | some o =>
  have e:=KX a o hk
  rw [ha] at e
  cases e
  refine core (λ _=>none) (λ _=>.inl rfl) (.inr ⟨_,vs.toArray,_,hk,Y,Y,Y,by rw [List.size_toArray,lenV]; exact hl,by simpa using rv⟩) (λ b u z=>by have z':(none:Option HO)=some u:=z; cases z') (λ b z=>absurd rfl z) λ z=>absurd rfl z
 | none =>
  refine core (λ b=>if b=a then some (.frz { cls:=.type "list",data:=.seq vs.toArray } (.lst (ns.map V.int))) else none) (λ b=>?_) (.inl (.inr ⟨{ cls:=.type "list",data:=.seq vs.toArray },if_pos rfl⟩)) (λ b u z=>?_) (λ b z=>?_) λ _=>hk
  ·by_cases hb:b=a
   ·exact .inr ⟨_,_,if_pos hb⟩
   ·exact .inl (if_neg hb)
  ·by_cases hb:b=a
   ·have z':=(if_pos hb).symm.trans z
    cases z'
    subst hb
    exact ⟨ha,by rw [List.length_map]; exact hl,vs,_,rv,ha⟩
   ·have z':=(if_neg hb).symm.trans z
    cases z'
  ·by_cases hb:b=a
   ·exact hb
   ·exact absurd (if_neg hb) z
end L2
namespace L2
open PySem PySem.Spec PyProof.Rows
theorem walk_of {l:PySem.W.OpenLaw} {n k:Nat} {q:Program} {loose:List Str} {XP:(Str->Option Value)->Heap->Prop} {YP:World->Heap->Prop} {d:DefRec} {K:Params->PySem.W.Frag} {CX:World->CXT} {sp:World->Sp} {x:Str}
  (hn:l.most=some n) (hn2:n<=sizeLine) (hdf:d.params.defaults=[]) (hr:Room k callerA)
  (hY:∀ (w:World) (h:Heap),YP w h->(K w.params).In h)
  (F:∀ (w:World) (mg:Str->Option Value) (fa:Addr) (h:Heap),(K w.params).In h->h.Ns mainGlobals mg->mg d.name=some (.ref fa) ->
   ∃fd:FuncData,(∀ (s:Shared) (u:Value),BindsTo s fd ⟨[u],[]⟩ [(x,u)]) /\
    ∀base:Heap,(K w.params).In base->base.Ns mainGlobals mg->FnOk l.prog w (K w.params) mg base (CX w) k fa fd [x] (sp w))
  (hsp:∀ (w:World) (H:Hp) (a:Addr) (ns:List Int),ns.length<=n->vD H->SqL (K w.params) H a (ns.map V.int)->sp w [.ref a] H (λ v _=>v=.bl true) λ _ _ _=>False)
  (hCX:∀ (w:World) (H:Hp) (s:Shared) (e:Value) (s':Shared),CX w [] H s (λ _ _ _=>False) e s'->False) :
  PySem.W.WalkO q loose XP YP l.row.toRowW d [] (λ f vs=>PySem.call f vs):=by
 refine Att.attach_call hn hdf λ w s₀ s₁ mg mb fa o pm cd doc a vs ns G YY0 ho hd hcd hmg hobj hints hlen hg=>?_
 have KX:=hY w _ YY0
 obtain ⟨fd,hb,hF⟩:=F w mg fa _ KX G.T.g hmg
 exact qD KX G.T.g G.T.b G.T.builtins G.T.nolimit hg hobj hints (Nat.le_trans hlen hn2) hr hF hb (λ H hO hS=>hsp w H a ns hlen hO hS) λ H e s'=>hCX w H s₁ e s'
end L2
namespace L2
open PySem PySem.Spec PyProof.Rows
def inClass (s:Stmt) (j:Nat):Stmt:=match s with
 | .ClassDef _ _ _ body _ _ _ _ _ _ _=>body.getD j (.Pass ⟨0,0,0,0⟩)
 | _=>.Pass ⟨0,0,0,0⟩
def defArgs (s:Stmt):Arguments:=match s with
 | .FunctionDef _ a _ _ _ _ _ _ _ _=>a
 | _=>{ posonlyargs:=[],args:=[],vararg:=none,kwonlyargs:=[],kw_defaults:=[],kwarg:=none,defaults:=[] }
def defBody (s:Stmt):List Stmt:=match s with
 | .FunctionDef _ _ b _ _ _ _ _ _ _=>b
 | _=>[]
def defScope (s:Stmt):Scope:=match s with
 | .FunctionDef _ _ _ _ _ _ sc _ _ _=>sc
 | _=>{ kind:=.function,names:=[],isGenerator:=false,isCoroutine:=false }
abbrev CX0:CXT:=λ _ _ _ _ _ _=>False
abbrev E0:XK:=λ _ _ _=>False
theorem mt {X:Cx}:eE CX0 X E0:=λ _ _ _ _ _ _ _ h=>h.elim
structure Fun (K:PySem.W.Frag) (x qual:Str) (st:Stmt) (f:Addr) (fd:FuncData):Prop where
 ex:∃ (oc:Value) (od:Option Addr) (kV doc pm:Value) (an:Option Addr) (cdv ct:Value) (osl:Array (Option Value)),
  fd=PySem.W.fnOf x qual (defArgs st) (defBody st) (defScope st) .none kV doc pm an cdv ct/\K.lookup f=some ⟨oc,od,.func fd,osl⟩/\PySem.W.codeIn K cdv qual=true
 kp:PySem.W.keepIn K (.ref f)=true
section
variable {P:Program} {w:World} {K:PySem.W.Frag} {mg:Str->Option Value} {base:Heap}
theorem Fun.ok {x qual:Str} {st:Stmt} {f:Addr} {fd:FuncData} {N ps:List Str} {k:Nat} {sp:Sp} (F:Fun K x qual st f fd) (S:FnScope N ps (defScope st)) (len:∀vs H Q E,sp vs H Q E->vs.length=ps.length)
  (hbody:∀ (cdv:Value) (A:Around) (outer:List Env) (s:Shared) (H:Hp) (vs:List V) (Q:VK) (E:XK),Room k (A.deeper (envOfC qual (defScope st) s.heap.objs.size f cdv))->sp vs H Q E ->
   ∃t,PSs (nE CX0 P w K mg base N qual (defScope st) f cdv A outer s H E).nox (defBody st) t/\t { nx:=λ _ H'=>Q .non H',rt:=Q } (fY N vs) H):FnOk P w K mg base CX0 (k + 1) f fd ps sp:=by
 obtain ⟨oc,od,kV,doc,pm,an,cdv,ct,osl,rfl,lk,hcd⟩:=F.ex
 refine xZ lk hcd S len λ A outer s H vs Q E hr hsp=>?_
 obtain ⟨t,h,q⟩:=hbody cdv A outer s H vs Q E hr hsp
 exact ⟨t,h.nox,q⟩
theorem Fun.binds {x qual:Str} {st:Stmt} {f:Addr} {fd:FuncData} {ps:List Str} (F:Fun K x qual st f fd)
  (h:∀ (kV doc pm:Value) (an:Option Addr) (cdv ct:Value) (us:List Value),us.length=ps.length->bindArgs (PySem.W.fnOf x qual (defArgs st) (defBody st) (defScope st) .none kV doc pm an cdv ct) ⟨us,[]⟩=pure (ps.zip us)):Binds K fd ps []:=by
 obtain ⟨oc,od,kV,doc,pm,an,cdv,ct,osl,rfl,lk,hcd⟩:=F.ex
 exact .all (h kV doc pm an cdv ct)
theorem lj {x qual:Str} {st:Stmt} {f:Addr} {oc:Value} {od an:Option Addr} {osl:Array (Option Value)} {kV doc pm cdv ct:Value} (l:K.lookup f=some ⟨oc,od,.func (PySem.W.fnOf x qual (defArgs st) (defBody st) (defScope st) .none kV doc pm an cdv ct),osl⟩)
  (c:PySem.W.codeIn K cdv qual=true) (k:PySem.W.keepIn K (.ref f)=true):Fun K x qual st f (PySem.W.fnOf x qual (defArgs st) (defBody st) (defScope st) .none kV doc pm an cdv ct):=⟨⟨oc,od,kV,doc,pm,an,cdv,ct,osl,Y,l,c⟩,k⟩
end
section
variable {X:Cx}
theorem pv (i:Nat) {x:Str} {pos:Pos} (hN:X.N[i]? = some x:=by rfl) (hv:Vis X.env.scope x:=by first | exact Or.inl rfl | exact Or.inr (Or.inl rfl) | exact Or.inr (Or.inr rfl)) (hd:(x == ("__debug__" : Str))=false:=by decide)
  (hcd:(x == ("__classdict__" : Str))=false:=by decide):PE X (.Name x pos) (tVar i):=vn hN hv hd hcd
end
theorem aL {A B:Prop} (h:B):if false=true then A else B:=by
 rw [if_neg Bool.false_ne_true]
 exact h
theorem aU {A B:Prop} (h:A):if true=true then A else B:=by
 rw [if_pos rfl]
 exact h
theorem cf {c A B:Prop} [Decidable c] (h1:c->A) (h2:¬ c->B):if c then A else B:=by
 by_cases h:c
 ·rw [if_pos h]
  exact h1 h
 ·rw [if_neg h]
  exact h2 h
def Same (H H':Hp):Prop:=∀b o,H b=some o->H' b=some o
theorem Same.refl (H:Hp):Same H H:=λ _ _ h=>h
theorem Same.trans {H H1 H2:Hp} (a:Same H H1) (b:Same H1 H2):Same H H2:=λ c o h=>b c o (a c o h)
theorem Same.free {H H':Hp} (e:Same H H') {l:Addr} (h:H' l=Option.none):H l=Option.none:=by
 cases q:H l with
 | none=>rfl
 | some o =>
  rw [e l o q] at h
  cases h
theorem Same.seq {K:PySem.W.Frag} {H H':Hp} {a:Addr} {xs:List V} (e:Same H H') (h:SqL K H a xs):SqL K H' a xs:=by
 rcases h with (h | ⟨o,h⟩) | h
 ·exact .inl (.inl (e _ _ h))
 ·exact .inl (.inr ⟨o,e _ _ h⟩)
 ·exact .inr h
end L2
set_option Elab.async false
set_option linter.all false
set_option maxRecDepth 100000
namespace L2
open PySem PySem.Spec PyProof.Rows
def bM (env:Env):List (Str×NameKind)->List (Str×Addr)->List (Str×Addr)
 | [],acc=>acc
 | (n,k) :: r,acc=>bM env r (if (k == NameKind.free)=true then (n,(env.cells.lookup n).getD 0) :: acc else acc)
theorem cW (env:Env):∀ (names:List (Str×NameKind)) (acc:List (Str×Addr)) (x:Str) (c:Addr),(∀y∈names,y.2=.free->∃c,env.cells.lookup y.1=some c) ->
  (∀x c,acc.lookup x=some c->env.cells.lookup x=some c)->(bM env names acc).lookup x=some c->env.cells.lookup x=some c
 | [],acc,x,c,_,h,e=>h x c e
 | (n,k) :: r,acc,x,c,hf,h,e=>by
  refine cW env r _ x c (λ y hy=>hf y (List.mem_cons_of_mem _ hy)) (λ x c e'=>?_) e
  by_cases hk:(k == NameKind.free)=true
  ·rw [if_pos hk] at e'
   obtain ⟨c0,hc0⟩:=hf (n,k) List.mem_cons_self (by simpa using hk)
   have hc0':env.cells.lookup n=some c0:=hc0
   rw [List.lookup_cons] at e'
   cases hx:x == n with
   | true =>
    rw [hx] at e'
    have:x=n:=by simpa using hx
    subst this
    rw [hc0'] at e' ⊢
    simpa using e'
   | false=>rw [hx] at e'; exact h x c e'
  ·rw [if_neg hk] at e'; exact h x c e'
theorem gO (env:Env):∀ (names:List (Str×NameKind)) (acc:List (Str×Addr)) (x:Str),(∃c,acc.lookup x=some c)->∃c,(bM env names acc).lookup x=some c
 | [],acc,x,h=>h
 | (n,k) :: r,acc,x,h=>by
  refine gO env r _ x ?_
  by_cases hk:(k == NameKind.free)=true
  ·rw [if_pos hk,List.lookup_cons]
   cases hx:x == n with
   | true=>exact ⟨_,Y⟩
   | false=>exact h
  ·rw [if_neg hk]; exact h
theorem fF (env:Env):∀ (names:List (Str×NameKind)) (acc:List (Str×Addr)) (x:Str),(x,NameKind.free)∈names->∃c,(bM env names acc).lookup x=some c
 | [],acc,x,h=>by simp at h
 | (n,k) :: r,acc,x,h=>by
  rcases List.mem_cons.mp h with e | e
  ·have e1:x=n:=congrArg Prod.fst e
   have e2:NameKind.free=k:=congrArg Prod.snd e
   subst e1
   subst e2
   refine gO env r _ x ?_
   rw [if_pos (by simp),List.lookup_cons]
   simp
  ·exact fF env r _ x e
theorem gP {env:Env} {scope:Scope} (hf:∀y∈scope.names,y.2=.free->∃c,env.cells.lookup y.1=some c):closureFor scope env=pure (bM env scope.names []):=by
 have key:∀ (names:List (Str×NameKind)) (acc:List (Str×Addr)),(∀y∈names,y.2=.free->∃c,env.cells.lookup y.1=some c) ->
   (forIn names acc (λ (x:Str×NameKind) (r:List (Str×Addr))=>(if (x.2 == NameKind.free)=true then do
    let a<-cellOf env x.1
    pure (ForInStep.yield ((x.1,a) :: r)) else pure (ForInStep.yield r)) ):Sem (List (Str×Addr)))=pure (bM env names acc):=by
  intro names
  induction names with
  | nil=>intro acc _; rfl
  | cons y r ih =>
   intro acc h
   obtain ⟨n,k⟩:=y
   have ih':=λ acc=>ih acc λ z hz=>h z (List.mem_cons_of_mem _ hz)
   rw [List.forIn_cons]
   by_cases hk:(k == NameKind.free)=true
   ·obtain ⟨c,hc⟩:=h (n,k) List.mem_cons_self (by simpa using hk)
    have hc':env.cells.lookup n=some c:=hc
    have e1:cellOf env n=pure c:=by unfold cellOf; rw [hc']
    have e2:bM env ((n,k) :: r) acc=bM env r ((n,c) :: acc):=by
     show bM env r _=_
     rw [if_pos hk,hc']; rfl
    rw [if_pos hk,e2,<- ih']
    show ((cellOf env n >>= λ a=>pure (ForInStep.yield ((n,a) :: acc))) >>= _)=_
    rw [e1]
    rfl
   ·have e2:bM env ((n,k) :: r) acc=bM env r acc:=by
     show bM env r _=_
     rw [if_neg hk]
    rw [if_neg hk,e2,<- ih']
    rfl
 have:=key scope.names [] hf
 simp only [closureFor]
 exact (congrArg (λ m=>m >>= λ r=>(pure r:Sem _)) this).trans rfl
theorem jg {env:Env} {scope:Scope} (hcell:∀y∈scope.names,y.2≠.cell) {x:Str}:((relabel scope env).names.lookup x=some .cell\/(relabel scope env).names.lookup x=some .free)->(x,NameKind.free)∈scope.names:=by
  have key:∀names:List (Str×NameKind),(∀y∈names,y.2≠.cell)->∀k,(names.map λ (n,k)=>if (k == NameKind.free && env.scope.kind == .function && env.kindOf n == some .cell) then (n,NameKind.cell) else (n,k)).lookup x=some k ->
      (k=.cell\/k=.free)->(x,NameKind.free)∈names:=by
    intro names
    induction names with
    | nil=>intro _ k h _; simp at h
    | cons y r ih =>
      obtain ⟨n,k'⟩:=y
      intro hc k h hk
      have nc:k'≠.cell:=hc (n,k') List.mem_cons_self
      rw [List.map_cons] at h
      by_cases hb:(k' == NameKind.free && env.scope.kind == .function && env.kindOf n == some .cell)=true
      . have hb':k'=.free:=by simp at hb; exact hb.1.1
        dsimp only at h
        rw [if_pos hb,List.lookup_cons] at h
        cases hx:x == n with
        | true => have : x = n := by simpa using hx
                  subst this; subst hb'; exact List.mem_cons_self
        | false=>rw [hx] at h; exact List.mem_cons_of_mem _ (ih (λ y hy=>hc y (List.mem_cons_of_mem _ hy)) k h hk)
      . dsimp only at h
        rw [if_neg hb,List.lookup_cons] at h
        cases hx:x == n with
        | true =>
          rw [hx] at h
          have:x=n:=by simpa using hx
          subst this
          have e:k'=k:=by simpa using h
          rcases hk with q | q
          . exact absurd (e.trans q) nc
          . rw [e,q]; exact List.mem_cons_self
        | false=>rw [hx] at h; exact List.mem_cons_of_mem _ (ih (λ y hy=>hc y (List.mem_cons_of_mem _ hy)) k h hk)
  rintro (h | h)
  . exact key _ hcell _ h (.inl rfl)
  . exact key _ hcell _ h (.inr rfl)
def bQ (X:Cx) (pins:List (Addr×Obj)) (s2:Shared) (H2:Hp) (scope:Scope) (C:Addr) (N':List Str) (fp:List Addr):Cx where
 prog:=X.prog
 w:=X.w
 K:=X.K
 mg:=X.mg
 base:=X.base
 A:=X.A
 N:=N'
 s₀:=s2
 H₀:=H2
 env:=compEnvC scope (bM X.env scope.names []) C X.env
 outer:=X.stack
 stack:=X.stack
 ex:=fp
 fn:=λ _=>false
 calm:=X.calm
 pn:=X.pn ++ pins
 xe:=λ _ _=>False
def bX (σ:St) (cap:List Nat) (k:Nat):St:=List.replicate k none ++ cap.map λ j=>(σ[j]?).join
def leS (σ σ':St):Prop:=σ'.length=σ.length/\∀ (i:Nat) v,σ[i]? = some (some v)->σ'[i]? = some (some v)
theorem leS.set {σ:St} {i:Nat} {v:V} (h:σ[i]? = some none):leS σ (σ.set i (some v)):=by
 refine ⟨by simp,λ j w e=>?_⟩
 by_cases hj:j=i
 ·subst hj; rw [h] at e; cases e
 ·rw [List.getElem?_set_ne (Ne.symm hj)]; exact e
structure CompOk (X:Cx) (scope:Scope) (own:List Str) (cs:List Str) (cap:List Nat):Prop where
 kind:scope.kind=.function
 cell:∀y∈scope.names,y.2≠.cell
 names:∀y∈scope.names,y.2=.local->scope.names.lookup y.1=some .local
 free:∀y∈scope.names,y.2=.free->X.env.kindOf y.1=some .cell\/X.env.kindOf y.1=some .free
 caps:∀ (i:Nat) y,cs[i]? = some y->∃j,cap[i]? = some j/\X.N[j]? = some y/\(y,NameKind.free)∈scope.names
 ownl:∀y∈own,scope.names.lookup y=some .local
 len:cs.length=cap.length
 free2:∀y,(y,NameKind.free)∈scope.names->scope.names.lookup y=some .local->False
def tN (X:Cx) (ifs:List Expr) (tt:TT):Prop :=
 ∀ (pins:List (Addr×Obj)) (s:Shared) (σ:St) (H:Hp) (Q:Bool->Hp->Prop),Inv X pins σ H s->tt σ H Q ->
  wpAny (model X.prog X.w) X.A (forIn ifs true λ c r=>if r=true then do let ok<-isTrue c X.env (eval c X.env); pure (ForInStep.yield ok) else pure (ForInStep.yield r)) (TP X pins σ Q) X.xe s
def yd:TT:=λ _ H Q=>Q true H
theorem cz {X:Cx}:tN X [] yd:=λ _ _ _ H _ I h=>wpAny_tests_nil ⟨H,I,h⟩
def iB (σ:St) (cap:List Nat) (k:Nat) (J:It) (g:TG) (tt:TT) (te:TE) (Q:List V->Hp->Prop) (W:Nat->Nat->List V->Hp->Prop):Prop :=
 ∀i m ys H,W i m ys H->(J.stop i H/\ys.length<=sizeLine/\Q ys H) \/
  (J.go i H/\ys.length < sizeLine/\∀x H',J.yld i H x H'->g x (bX σ cap k) H' λ σ2 H2=>leS (bX σ cap k) σ2/\tt σ2 H2 λ ok H3 =>
   if ok=true then te σ2 H3 (λ v H4=>∃m',m' < m/\W (i + 1) m' (ys ++ [v]) H4) else ∃m',m' < m/\W (i + 1) m' ys H3)
theorem HOk.add {P:Program} {w:World} {H:Hp} {h:Heap} {a:Addr} {o:HO} (x:HOk P w H h) (n:H a=none) (new:ObjOk P w (upd H a o) h a o):HOk P w (upd H a o) h:=λ b u e=>by
 by_cases hb:b=a
 ·subst hb; rw [af] at e; cases e; exact new
 ·rw [au hb] at e
  exact (x b u e).stay (λ c v _ q=>q) (λ c q=>by rw [au (ap q n)]; exact q) λ c xs q=>by rw [au (ap q n)]; exact q
section
variable {X:Cx} {pins:List (Addr×Obj)} {σ:St} {H2:Hp} {s2:Shared} {scope:Scope} {own cs:List Str} {cap:List Nat} {fp:List Addr}
theorem nJ {h1:Heap} {C:Addr} {tk:Nat} (I:Inv X pins σ H2 s2) (ok:CompOk X scope own cs cap) (hf:∀b∈fp,eM X pins H2 b) (hfl:∀b∈fp,b < s2.heap.objs.size)
  (hC:s2.heap.objs.size<=C) (hns:h1.Ns C (λ _=>none)) (old:∀b o,s2.heap.get? b=some o->h1.get? b=some o) :
  Inv (bQ X pins s2 H2 scope C (own ++ cs) fp) [] (bX σ cap own.length) H2 { s2 with heap:=h1,toks:=tk }:=by
 have hfr:∀y∈scope.names,y.2=.free->∃c,X.env.cells.lookup y.1=some c:=λ y hy e=>I.ok.has y.1 (ok.free y hy e)
 have sub:∀x c,(bM X.env scope.names []).lookup x=some c->X.env.cells.lookup x=some c:=λ x c e=>cW X.env scope.names [] x c hfr (λ _ _ z=>by simp at z) e
 have clt:∀x c,(bM X.env scope.names []).lookup x=some c->c < s2.heap.objs.size:=λ x c e=>by
  obtain ⟨v,o,ho,_⟩:=I.cell x c (sub x c e)
  exact Heap.lt_size ho
 refine ⟨⟨I.ok.mod,ok.kind,I.ok.glob,I.ok.blt,hC,λ y z c h1 h2=>I.ok.inj y z c (sub y c h1) (sub z c h2),λ y hy=>?_,λ y c z=>?_,I.ok.hd,I.ok.frames,.inl rfl,λ b hb=>?_,I.bs,Nat.le_trans I.ok.bsz I.sz,λ b o e hb=>?_,λ b hb z=>?_,I.stack,I.stkFree⟩,
  rfl,I.bare,Un.kept old,⟨_,hns,λ i y v e1 e2 e3=>?_⟩,λ y c e=>?_,I.hok.fresh hC,λ y c e=>I.freeC y c (sub y c e),λ p hp=>?_,I.hok.kept old,?_⟩
 ·have hm:=jg ok.cell hy
  exact fF X.env scope.names [] y hm
 ·exact absurd (show false=true from z) Bool.false_ne_true
 ·exact ⟨Nat.ne_of_lt (Nat.lt_of_lt_of_le (hfl b hb) hC),λ x c e=>(hf b hb).2.2.2.2.1 x c (sub x c e)⟩
 ·rcases (hf b hb).2.2.2.1 with z | z
  ·exact I.ok.noex b o e z
  ·exact absurd (Nat.lt_of_lt_of_le (Heap.lt_size (I.ok.bs b o e).1) z) (Nat.lt_irrefl _)
 ·rcases List.mem_cons.mp (I.stkSub b z) with q | q
  ·exact (hf b hb).2.1 q
  ·exact (hf b hb).2.2.1 q
 ·have hi:own.length<=i:=by
   refine Nat.le_of_not_lt λ q=>?_
   unfold bX at e2
   rw [List.getElem?_append_left (by simpa using q),List.getElem?_replicate] at e2
   split at e2 <;> cases e2
  have e1':cs[i - own.length]? = some y:=by
   have e1:(own ++ cs)[i]? = some y:=e1
   rwa [List.getElem?_append_right hi] at e1
  obtain ⟨j,hj,hN,hm⟩:=ok.caps _ y e1'
  have hk:=ok.free _ hm rfl
  have e2':σ[j]? = some (some v):=by
   unfold bX at e2
   rw [List.getElem?_append_right (by simpa using hi),List.length_replicate,List.getElem?_map,hj] at e2
   have e2:(σ[j]?).join=some v:=by simpa using e2
   cases q:σ[j]? with
   | none=>rw [q] at e2; cases e2
   | some w=>rw [q] at e2; have:w=some v:=e2; rw [this]
  obtain ⟨m,hn,hl⟩:=I.loc
  obtain ⟨u,ru,l⟩:=hl j y v hN e2' (by rcases hk with q | q; exact .inr (.inl q); exact .inr (.inr q))
  refine ⟨u,ru,.inr ?_⟩
  obtain ⟨c,hc⟩:=fF X.env scope.names [] y hm
  have hc':=sub y c hc
  have cellu:h1.IsCell c (some u):=by
   rcases l with ⟨k,_⟩ | ⟨k,c',e,o,ho,hd⟩
   ·rcases hk with q | q <;> (have z:X.env.kindOf y=_:=q; rw [k] at z; cases z)
   ·rw [hc'] at e; cases e
    exact ⟨o,old _ _ ho,hd⟩
  refine ⟨?_,c,hc,cellu⟩
  rcases e3 with z | z | z
  ·exfalso
   have key:∀names:List (Str×NameKind),True:=λ _=>trivial
   have z:(relabel scope X.env).names.lookup y=some .local:=z
   have zz:scope.names.lookup y=some .local:=by
    unfold relabel at z
    dsimp only at z
    revert z
    generalize scope.names=names
    induction names with
    | nil=>intro z; simp at z
    | cons q r ih =>
     obtain ⟨n,k⟩:=q
     intro z
     rw [List.map_cons] at z
     by_cases hb:(k == NameKind.free && X.env.scope.kind == .function && X.env.kindOf n == some .cell)=true
     ·dsimp only at z
      rw [if_pos hb,List.lookup_cons] at z
      rw [List.lookup_cons]
      cases hx:y == n with
      | true=>rw [hx] at z; cases z
      | false=>rw [hx] at z; exact ih z
     ·dsimp only at z
      rw [if_neg hb,List.lookup_cons] at z
      rw [List.lookup_cons]
      cases hx:y == n with
      | true=>rw [hx] at z; exact z
      | false=>rw [hx] at z; exact ih z
   have:=ok.free2 y hm zz
   exact this
  ·exact .inl z
  ·exact .inr z
 ·obtain ⟨v,o,ho,hd⟩:=I.cell y c (sub y c e)
  exact ⟨v,o,old _ _ ho,hd⟩
 ·have hp':p∈X.pn ++ pins:=by
   have:p∈(X.pn ++ pins) ++ []:=hp
   simpa using this
  obtain ⟨e,n,ne,nf,d⟩:=I.pin p hp'
  refine ⟨old _ _ e,n,Nat.ne_of_lt (Nat.lt_of_lt_of_le (Heap.lt_size e) hC),λ z=>?_,d⟩
  rcases List.mem_cons.mp (I.stkSub p.1 z) with q | q
  ·exact ne q
  ·exact nf q
 ·show (bX σ cap own.length).length=(own ++ cs).length
  unfold bX
  rw [List.length_append,List.length_replicate,List.length_map,List.length_append,ok.len]
end
end L2
set_option Elab.async false
set_option linter.all false
set_option maxRecDepth 100000
namespace L2
open PySem PySem.Spec PyProof.Rows
section
variable {X:Cx} {pins:List (Addr×Obj)} {σ:St} {H2:Hp} {s2:Shared} {scope:Scope} {own cs:List Str} {cap:List Nat} {fp:List Addr} {it:Addr} {tn:Nat->Heap->Prop}
 {elt tg iter:Expr} {ifs:List Expr} {pos:Pos} {J:It} {g:TG} {tt:TT} {te:TE} {E:Value->Shared->Prop} {W:Nat->Nat->List V->Hp->Prop} {Qf:List V->Hp->Prop}
structure BlkEnd (X:Cx) (pins:List (Addr×Obj)) (σ:St) (Qf:List V->Hp->Prop) (D C:Addr) (s':Shared):Prop where
 ex:∃ (ys:List V) (H':Hp),H' D=none/\Qf ys H'/\Inv X pins σ (upd H' D (.lst ys)) s'/\eM X pins (upd H' D (.lst ys)) C
 ns:∃m,s'.heap.Ns C m
theorem Inv.bareP {pins':List (Addr×Obj)} {H:Hp} {s:Shared} (I:Inv X pins' σ H s):Inv X [] σ H s:=I.pins_of λ p hp=>absurd hp (by simp)
theorem jU {RR:Value->Addr->Result->Shared->Prop} (I:Inv X pins σ H2 s2) (ok:CompOk X scope own cs cap) (hc:X.calm=true) (T:Turn X.prog X.w X.K tg J fp it tn) (st:tn 0 s2.heap) (hf:∀b∈fp,eM X pins H2 b)
  (hg:∀C,PG (bQ X pins s2 H2 scope C (own ++ cs) fp) tg g) (hi:∀C,tN (bQ X pins s2 H2 scope C (own ++ cs) fp) ifs tt) (he:∀C,PE (bQ X pins s2 H2 scope C (own ++ cs) fp) elt te)
  (w0:∃m,W 0 m [] H2) (turn:iB σ cap own.length J g tt te Qf W)
  (hRR:∀D C s',BlkEnd X pins σ Qf D C s'->RR (.ref D) C (.ok .next) s') :
  wpAny (model X.prog X.w) X.A (newList []) (λ acc s₃=>wpAny (model X.prog X.w) X.A (newFunctionEnv scope X.env.globals (bM X.env scope.names []) [] X.env.qual none .none (some X.env)) (λ cenv s₄ =>
   codeAny (model X.prog X.w) X.A (.compStart (.ListComp elt [⟨tg,iter,ifs,0⟩] scope pos) 0 (.ref it) acc { cenv with scope:=relabel scope X.env }) (RR acc cenv.locals) s₄) E s₃) E s2:=by
 refine wpAny_newObj_type (wpAny_newFunctionEnv ok.cell (by intro y hy; simp at hy) (λ h₁ hns₁ hsb₁=>?_) ok.kind)
 dsimp only at hns₁ hsb₁ ⊢
 generalize hHH:s2.heap.push { cls:=.type "list",dict:=none,data:=.seq ([]:List Value).toArray }=HH at hns₁ hsb₁ ⊢
 have hCs:HH.objs.size=s2.heap.objs.size + 1:=by rw [<- hHH,Heap.size_push]
 have hDC:s2.heap.objs.size≠HH.objs.size:=by rw [hCs]; exact Nat.ne_of_lt (Nat.lt_succ_self _)
 have hCle:s2.heap.objs.size<=HH.objs.size:=by rw [hCs]; exact Nat.le_succ _
 have hfl:∀b∈fp,b < s2.heap.objs.size:=λ b hb=>by
  obtain ⟨o,e,_⟩:=T.obj 0 _ st b hb
  exact Heap.lt_size e
 have old:∀b o,s2.heap.get? b=some o->h₁.get? b=some o:=λ b o e=>hsb₁.extBut b o (by rw [hCs]; exact Nat.ne_of_lt (Nat.lt_succ_of_lt (Heap.lt_size e))) (Heap.get?_push_of_some _ (hHH ▸ Heap.get?_push_of_some _ e))
 have hacc:h₁.PlainList s2.heap.objs.size #[]:=⟨_,hsb₁.extBut _ _ hDC (Heap.get?_push_of_some _ (hHH ▸ Heap.get?_push_size _ rfl))⟩
 generalize hD:s2.heap.objs.size=D at *
 generalize hCC:HH.objs.size=C at *
 have hns₁':h₁.Ns C (λ _=>none):=hns₁
 have I0:Inv (bQ X pins s2 H2 scope C (own ++ cs) fp) [] (bX σ cap own.length) H2 { s2 with heap:=h₁,toks:=s2.toks + ([]:List (Str×Value)).length } :=
  nJ I ok hf (λ b hb=>by rw [hD]; exact hfl b hb) (by rw [hD]; exact hCle) hns₁' old
 have Dfs:D∉frs X.stack:=λ hb=>by
  obtain ⟨_,o,ho,_⟩:=I.stack.mem hb
  exact absurd (Heap.lt_size ho) (by rw [hD]; exact Nat.lt_irrefl _)
 have Dfp:∀b∈fp,D≠b:=λ b hb z=>absurd (hfl b hb) (by rw [<- z]; exact Nat.lt_irrefl _)
 have clt:∀x c,(bM X.env scope.names []).lookup x=some c->c < D:=λ x c e=>by
  have e':=cW X.env scope.names [] x c (λ y hy e=>I.ok.has y.1 (ok.free y hy e)) (λ _ _ z=>by simp at z) e
  obtain ⟨v,o,ho,_⟩:=I.cell x c e'
  have:=Heap.lt_size ho
  rw [hD] at this; exact this
 have plt:∀p∈X.pn ++ pins,p.1 < D:=λ p hp=>by
  have:=Heap.lt_size (I.pin p hp).1
  rw [hD] at this; exact this
 have stat:∀ {H':Hp} {ob:Obj},(∀b∈fp,H' b=none)->∀b∈fp,eM (bQ X pins s2 H2 scope C (own ++ cs) fp) [(D,ob)] H' b:=λ {H' ob} hn b hb=>by
  have q:=I0.ok.exf b hb
  refine ⟨hn b hb,q.1,I0.ok.exfs b hb,.inl hb,q.2,λ p hp=>?_⟩
  rcases List.mem_append.mp hp with z | z
  ·exact (hf b hb).2.2.2.2.2 p z
  ·have:p=(D,ob):=by simpa using z
   subst this
   exact Dfp b hb
 have loop:codeAny (model X.prog X.w) X.A (.compLoop (.ListComp elt [⟨tg,iter,ifs,0⟩] scope pos) 0 (.ref it) (.ref D) (compEnvC scope (bM X.env scope.names []) C X.env)) (RR (.ref D) C)
   { s2 with heap:=h₁,toks:=s2.toks + ([]:List (Str×Value)).length }:=by
  obtain ⟨m0,w0⟩:=w0
  refine codeAny_loop rfl (λ n s'=>∃i H' its ys,Inv (bQ X pins s2 H2 scope C (own ++ cs) fp) [] (bX σ cap own.length) H' s'/\tn i s'.heap/\(∀b∈fp,H' b=none)/\s'.heap.PlainList D its.toArray/\Vals ys its/\H' D=none/\W i n ys H') ?_ m0
   ⟨0,H2,[],[],I0,T.keep 0 _ _ st λ b _ o e=>old b o e,λ b hb=>(hf b hb).1,hacc,.nil,I.hok.fresh (by rw [hD]; exact Nat.le_refl _),w0⟩
  rintro n s3 ⟨i,H3,its,ys,I3,st3,fr3,⟨nn,pl3⟩,rv3,hD3,w3⟩
  show wpAny _ X.A ((compTurn (.ListComp elt [⟨tg,iter,ifs,0⟩] scope pos) 0 (.ref it) (.ref D) (compEnvC scope (bM X.env scope.names []) C X.env)).onRaise (λ x=>do noteFrame x (compEnvC scope (bM X.env scope.names []) C X.env); theTreesLotGoes x)) _ _ s3
  refine wpAny_noted ?_
  rw [compTurn_list]
  refine wpAny_bind (wpAny_standAt (wpAny_bind ?_))
  have I3':Inv (bQ X pins s2 H2 scope C (own ++ cs) fp) [(D, { cls:=.type "list", data:=.seq its.toArray nn })] (bX σ cap own.length) H3 s3 :=
   I3.pins_of λ p hp=>by
    have:p=(D,{ cls:=.type "list",data:=.seq its.toArray nn }):=by simpa using hp
    subst this
    exact ⟨pl3,hD3,hDC,Dfs,λ v z=>by cases z⟩
  rcases turn i n ys H3 w3 with ⟨stop,hz,qf⟩ | ⟨go,hz,step⟩
  ·refine thn (T.done (bQ X pins s2 H2 scope C (own ++ cs) fp) rfl rfl rfl hc i _ s3 _ H3 _ I3' (stat fr3) st3 stop) λ r s4 ⟨hr,I4⟩=>?_
   subst hr
   refine wpAny_pure (hRR D C s4 ⟨⟨ys,H3,hD3,qf,?_,?_⟩,?_⟩)
   ·have pl4:=(I4.pin (D,_) (List.mem_append_right _ (List.mem_singleton.mpr rfl))).1
    have u4:=I4.base
    have Ds2:s2.heap.get? D=none:=Heap.get?_none_of_le (by rw [hD]; exact Nat.le_refl _)
    refine I.call' (s':=s4) (ch:=fp) I4.os ⟨u4.keep,u4.slot,λ b o e n hx=>?_,u4.there,λ b xs e=>?_,λ b o u e=>?_,λ b ps e=>?_⟩ ?_ I4.bare λ b hb=>⟨(hf b hb).2.2.2.1,(hf b hb).2.1,(hf b hb).2.2.2.2.1,(hf b hb).2.2.2.2.2⟩
    ·rw [au (λ z=>by rw [z,Ds2] at e; cases e)]
     exact u4.free b o e n hx
    ·have:=u4.tups b xs e
     rw [au (ap this hD3)]; exact this
    ·have:=u4.frzs b o u e
     rw [au (ap this hD3)]; exact this
    ·obtain ⟨more,e'⟩:=u4.tbls b ps e
     exact ⟨more,by rw [au (ap e' hD3)]; exact e'⟩
    ·exact I4.hok.add hD3 ⟨hz,its,nn,rv3,pl4⟩
   ·have CH:(upd H3 D (.lst ys)) C=none:=by rw [au (Ne.symm hDC)]; exact I4.free
    exact I.fpOk (H':=upd H3 D (.lst ys)) (by rw [hD]; exact hCle) CH
   ·obtain ⟨m,hn,_⟩:=I4.loc
    exact ⟨m,hn⟩
  ·refine thn (T.item (bQ X pins s2 H2 scope C (own ++ cs) fp) rfl rfl rfl hc i _ s3 _ H3 _ I3' (stat fr3) st3 go) λ r s4 ⟨u,hr,h4⟩=>?_
   subst hr
   refine wpAny_bind (thn h4 λ _ s5 ⟨x,H5,I5,r5,y5,st5,fr5⟩=>?_)
   have I5':=I5.pinned (stat fr5) (T.obj _ _ st5)
   refine wpAny_bind (wpAny_mono (hg C _ s5 _ H5 x u _ I5' r5 (step x H5 y5)) (λ _ s6 ⟨σ6,H6,I6,le6,q6⟩=>?_) λ _ _ z=>False.elim z)
   refine wpAny_bind (wpAny_mono (hi C _ s6 σ6 H6 _ I6 q6) (λ b s7 ⟨H7,I7,q7⟩=>?_) λ _ _ z=>False.elim z)
   have back:∀ {pins':List (Addr×Obj)} {H8:Hp} {s8:Shared},Inv (bQ X pins s2 H2 scope C (own ++ cs) fp) pins' σ6 H8 s8->Inv (bQ X pins s2 H2 scope C (own ++ cs) fp) [] (bX σ cap own.length) H8 s8:=λ I8 =>
    I8.bareP.weak le6.1.symm λ i v e=>le6.2 i v e
   cases b with
   | false =>
    rw [if_neg Bool.false_ne_true] at q7
    obtain ⟨m',hm,w7⟩:=q7
    refine wpAny_pure ⟨rfl,m',hm,i + 1,H7,its,ys,back I7,T.keep _ _ _ st5 λ b hb o e=>?_,λ b hb=>?_,⟨nn,?_⟩,rv3,?_,w7⟩
    ·exact (I7.pin (b,o) (List.mem_append_right _ (List.mem_append_right _ (bR hb e)))).1
    ·obtain ⟨o,e,d⟩:=T.obj _ _ st5 b hb
     exact (I7.pin (b,o) (List.mem_append_right _ (List.mem_append_right _ (bR hb e)))).2.1
    ·exact (I7.pin (D,_) (List.mem_append_right _ (List.mem_append_left _ (List.mem_singleton.mpr rfl)))).1
    ·exact (I7.pin (D,_) (List.mem_append_right _ (List.mem_append_left _ (List.mem_singleton.mpr rfl)))).2.1
   | true =>
    rw [if_pos rfl] at q7
    refine wpAny_bind (wpAny_bind (wpAny_mono (he C _ s7 σ6 H7 _ I7 q7) (λ y s8 ⟨v,H8,I8,r8,m',hm,w8⟩=>?_) λ _ _ z=>False.elim z))
    have pD:=I8.pin (D,{ cls:=.type "list",data:=.seq its.toArray nn }) (List.mem_append_right _ (List.mem_append_left _ (List.mem_singleton.mpr rfl)))
    have hlen:=rv3.length
    refine wpAny_bind (wpAny_list_append_plain (hsz:=by rw [List.size_toArray]; omega) ⟨nn,pD.1⟩ λ h9 pl9 sb9=>wpAny_pure (wpAny_pure ?_))
    have I8':=back I8
    refine ⟨Y,m',hm,i + 1,H8,its ++ [y],ys ++ [v],?_,T.keep _ _ _ st5 λ b hb o e=>?_,λ b hb=>?_,?_,rv3.append (.cons r8 .nil),pD.2.1,w8⟩
    ·exact I8'.turned (t':=s8.toks) (λ b o hb e=>sb9.extBut b o hb e) pD.2.1 hDC (.inr (by show s2.heap.objs.size<=D; rw [hD]; exact Nat.le_refl _)) (λ x c e=>Nat.ne_of_lt (clt x c e)) λ p hp=>by
      have hp':p∈X.pn ++ pins:=by
       have:p∈(X.pn ++ pins) ++ []:=hp
       simpa using this
      exact Nat.ne_of_lt (plt p hp')
    ·exact sb9.extBut b o (Ne.symm (Dfp b hb)) (I8.pin (b,o) (List.mem_append_right _ (List.mem_append_right _ (bR hb e)))).1
    ·obtain ⟨o,e,d⟩:=T.obj _ _ st5 b hb
     exact (I8.pin (b,o) (List.mem_append_right _ (List.mem_append_right _ (bR hb e)))).2.1
    ·have e:its.toArray.push y=(its ++ [y]).toArray:=by simp
     rw [<- e]; exact pl9
 exact codeAny_compStart_list loop (T.self _ 0 _ _ _ (T.keep 0 _ _ st λ b _ o e=>old b o e) loop)
def qE (wi:TI) (cap:List Nat) (k:Nat) (g:TG) (tt:TT) (te:TE):TE:=λ σ H Q=>wi σ H λ J H1 =>
 ∃W:Nat->Nat->List V->Hp->Prop,(∃m,W 0 m [] H1)/\iB σ cap k J g tt te (λ ys H'=>∀p,H' p=none->Q (.ref p) (upd H' p (.lst ys))) W
theorem eQ {wi:TI} (hc:X.calm=true) (hit:PI X tg iter wi) (ok:CompOk X scope own cs cap)
  (hg:∀pins s2 H2 C fp,PG (bQ X pins s2 H2 scope C (own ++ cs) fp) tg g) (hi:∀pins s2 H2 C fp,tN (bQ X pins s2 H2 scope C (own ++ cs) fp) ifs tt) (he:∀pins s2 H2 C fp,PE (bQ X pins s2 H2 scope C (own ++ cs) fp) elt te)
  (hs:∀x,foldedSetIterable iter X.env x=pure x:=by intro _; rfl):PE X (.ListComp elt [⟨tg,iter,ifs,0⟩] scope pos) (qE wi cap own.length g tt te):=by
 intro pins s σ H Q I h
 rw [eval_ListComp]
 refine wpAny_comprehension_free (use:=none) rfl hs (gP λ y hy e=>I.ok.has y.1 (ok.free y hy e)) ok.kind ok.names (thn (hit pins s σ H _ I h) λ v s1 h1=>thn h1 λ itv s2 h2=>?_)
 obtain ⟨it,fp,tn,J,H2,e,I2,T,st2,f2,W,w0,turn⟩:=h2
 subst e
 refine jU (RR:=λ acc C=>compPost (model X.prog X.w) X.A X.xe none (EP X pins σ Q) acc C) I2 ok hc T st2 f2 (λ C=>hg _ _ _ _ _) (λ C=>hi _ _ _ _ _) (λ C=>he _ _ _ _ _) w0 turn λ D C s' B=>?_
 obtain ⟨⟨ys,H',hD,q,I',fp'⟩,m,hn⟩:=B
 obtain ⟨f0,f1,f2',f3,f4,f5⟩:=fp'
 exact ⟨m,hn,λ h' sb=>⟨.ref D,_,I'.turned (t':=s'.toks) (λ b o hb e=>sb.extBut b o hb e) f0 f1 f3 f4 f5,Y,q D hD⟩⟩
theorem mv {wi:TI} {i:Nat} {y:Str} {py spos:Pos} (hc:X.calm=true) (hN:X.N.Nodup) (hiy:X.N[i]? = some y) (hy:X.env.scope.names.lookup y=some .local)
  (hsw:swapsWith (.ListComp elt [⟨tg,iter,ifs,0⟩] scope pos) (some (.Name y py)) spos.line X.env=pure true) (hit:PI X tg iter wi) (ok:CompOk X scope own cs cap)
  (hg:∀pins s2 H2 C fp,PG (bQ X pins s2 H2 scope C (own ++ cs) fp) tg g) (hi:∀pins s2 H2 C fp,tN (bQ X pins s2 H2 scope C (own ++ cs) fp) ifs tt) (he:∀pins s2 H2 C fp,PE (bQ X pins s2 H2 scope C (own ++ cs) fp) elt te)
  (hs:∀x,foldedSetIterable iter X.env x=pure x:=by intro _; rfl):PS X (.Assign [.Name y py] (.ListComp elt [⟨tg,iter,ifs,0⟩] scope pos) spos) (vq (qE wi cap own.length g tt te) (gG i)):=by
 intro pins s σ H D0 I h
 rw [exec_Assign_Name_used _ _ _ _ hsw]
 refine wpAny_bind (wpAny_standAt (wpAny_bind ?_))
 show wpAny _ X.A (do let _<-comprehension (.ListComp elt [⟨tg,iter,ifs,0⟩] scope pos) scope X.env _ (newList []) false (eval iter X.env) (some (assign (.Name y py) X.env))) _ _ s
 refine wpAny_bind (wpAny_mono (wpAny_comprehension_free (use:=some (assign (.Name y py) X.env)) (Q:=λ _ s'=>SP X pins D0 .next s') rfl hs (gP λ y hy e=>I.ok.has y.1 (ok.free y hy e)) ok.kind ok.names
  (thn (hit pins s σ H _ I h) λ v s1 h1=>thn h1 λ itv s2 h2=>?_)) (λ _ s' hq=>wpAny_pure (wpAny_pure hq)) λ _ _ e=>e)
 obtain ⟨it,fp,tn,J,H2,e,I2,T,st2,f2,W,w0,turn⟩:=h2
 subst e
 refine jU (RR:=λ acc C=>compPost (model X.prog X.w) X.A X.xe (some (assign (.Name y py) X.env)) (λ _ s'=>SP X pins D0 .next s') acc C) I2 ok hc T st2 f2 (λ C=>hg _ _ _ _ _) (λ C=>hi _ _ _ _ _) (λ C=>he _ _ _ _ _) w0 turn λ D C s' B=>?_
 obtain ⟨⟨ys,H',hD,q,I',fp'⟩,m,hn⟩:=B
 obtain ⟨f0,f1,f2',f3,f4,f5⟩:=fp'
 show wpAny _ X.A (assign (.Name y py) X.env (.ref D)) _ _ _
 refine wpAny_assign_Name (ip I' hN hiy (.inl hy) (v:=.ref D) rfl (λ s3 I3 ⟨a,sb,ha⟩=>?_) (.inr hy))
 have hCa:C≠a:=by
  rcases ha with z | z
  ·rw [z]; exact f1
  ·exact λ q=>f4 y a z q.symm
 refine ⟨m,hn.sameBut sb hCa,λ h' sb'=>⟨_,_,I3.turned (t':=s3.toks) (λ b o hb e=>sb'.extBut b o hb e) f0 f1 f3 f4 f5,q D hD⟩⟩
end
end L2
set_option Elab.async false
set_option linter.all false
set_option maxRecDepth 100000
namespace L2
open PySem PySem.Spec PyProof.Rows
def CDivB (i j:Int):Prop:=0 < j/\j<=10 ^ 60
theorem CDivB.np {i j:Int} (h:CDivB i j):Builtin.divisionGoesByPylong i j=false:=by
 refine PyProof.noPylong_of_log2 ?_
 have h1:j.natAbs < 2 ^ 200:=by
  obtain ⟨a,b⟩:=h
  omega
 have h2:j.natAbs.log2 < 200:=(Nat.log2_lt (by have:=h.1; omega)).mpr h1
 omega
section
variable {X:Cx}
theorem eR:OpR X (binaryOp .FloorDiv) (rI CDivB λ i j=>.int (i / j)):=opI λ i j _ _ _ _ _ hc q=>by
 refine floordiv_int (by have:=hc.1; omega) ?_ (.inl hc.np)
 rw [Int.fdiv_eq_ediv_of_nonneg _ (by have:=hc.1; omega)]
 exact q
theorem Inv.kitx {pins:List (Addr×Obj)} {σ:St} {H:Hp} {s:Shared} {x:V} {u t:Value} (I:Inv X pins σ H s) (rx:RelV x u) (ty:TyOf X.K H x t) :
  ∃P:Heap->Prop,PySem.W.KitX X.K u t P/\P s.heap/\u≠.builtin "__main__.__loader__#opaque" := by
 cases ty with
 | non=>cases (show u=Value.none from rx); exact ⟨_,PySem.W.kitx_none,True.intro,λ z=>nomatch z⟩
 | bl y=>cases (show u=Value.bool y from rx); exact ⟨_,PySem.W.kitx_bool,True.intro,λ z=>nomatch z⟩
 | int i=>obtain ⟨t,q⟩:=(show ∃t,u=Value.int i t from rx); cases q; exact ⟨_,PySem.W.kitx_int,True.intro,λ z=>nomatch z⟩
 | str y=>obtain ⟨t,q⟩:=(show ∃t,u=Value.str y t from rx); cases q; exact ⟨_,PySem.W.kitx_str,True.intro,λ z=>nomatch z⟩
 | flt y=>obtain ⟨t,q⟩:=(show ∃t,u=Value.float y t from rx); cases q; exact ⟨_,PySem.W.kitx_float,True.intro,λ z=>nomatch z⟩
 | @lst a xs ea =>
  cases (show u=Value.ref a from rx)
  obtain ⟨_,_,n,_,h1⟩:=(show ObjOk X.prog X.w H s.heap a (.lst xs) from I.hok a _ ea)
  exact ⟨_,PySem.W.kitx_list,⟨_,h1,Y⟩,λ z=>nomatch z⟩
 | @frz a ob xs ea =>
  cases (show u=Value.ref a from rx)
  obtain ⟨_,_,_,n,_,h1⟩:=(show ObjOk X.prog X.w H s.heap a (.frz ob (.lst xs)) from I.hok a _ ea)
  exact ⟨_,PySem.W.kitx_list,⟨_,h1,Y⟩,λ z=>nomatch z⟩
 | @tup a xs ea =>
  cases (show u=Value.ref a from rx)
  obtain ⟨_,_,_,p⟩:=(show ObjOk X.prog X.w H s.heap a (.tup xs) from I.hok a _ ea)
  obtain ⟨o,h1,h2,_⟩:=p
  exact ⟨_,PySem.W.kitx_tuple,⟨o,h1,h2⟩,λ z=>nomatch z⟩
 | @dK a kvs ea =>
  cases (show u=Value.ref a from rx)
  obtain ⟨_,_,vs,_,p⟩:=(show ObjOk X.prog X.w H s.heap a (.dK kvs) from I.hok a _ ea)
  obtain ⟨o,es,ep,h1,h2,_⟩:=p
  exact ⟨_,PySem.W.kitx_dict,⟨o,h1,h2.1⟩,λ z=>nomatch z⟩
 | @dT a kvs ea =>
  cases (show u=Value.ref a from rx)
  obtain ⟨_,_,xs,_,o,es,ep,h1,h2,_⟩:=(show ObjOk X.prog X.w H s.heap a (.dT kvs) from I.hok a _ ea)
  exact ⟨_,PySem.W.kitx_dict,⟨o,h1,h2.1⟩,λ z=>nomatch z⟩
 | @ins a C dx fs ea cl ha hn htk hm =>
  cases (show u=Value.ref a from rx)
  obtain ⟨mA,O,_⟩:=eN I.hok ea
  obtain ⟨od,J,_⟩:=O.look
  exact ⟨_,PySem.W.kitx_own (cl.get _) cl.hd ha hn htk hm,J,λ z=>nomatch z⟩
def clV:V->Option Value
 | .ty T=>some (.type T)
 | .ref C=>some (.ref C)
 | _=>none
theorem clV.rel {v:V} {u c:Value} (e:clV v=some c) (r:RelV v u):u=c:=by
 cases v with
 | ty T=>have e':Value.type T=c:=Option.some.inj e; rw [<- e']; exact r
 | ref C=>have e':Value.ref C=c:=Option.some.inj e; rw [<- e']; exact r
 | _=>cases e
def clVs:List V->Option (List Value)
 | []=>some []
 | v :: r=>match clV v,clVs r with
  | some c,some cs=>some (c :: cs)
  | _,_=>none
theorem clVs.rel:∀ {vs:List V} {us cs:List Value},clVs vs=some cs->Vals vs us->us=cs
 | [],_,_,e,.nil=>Option.some.inj e
 | v :: r,_,_,e,.cons r1 r2=>by
  unfold clVs at e
  split at e
  ·rename_i c cs' e1 e2
   cases e
   rw [clV.rel e1 r1,clVs.rel e2 r2]
  ·cases e
theorem bc:cj X (.builtin "isinstance") (λ xs H Q=>∃x cv t c b,xs=[x,cv]/\TyOf X.K H x t/\clV cv=some c/\PySem.W.kitOne X.K t c=some b/\Q (.bl b) H):=by
 intro pins s σ H xs us Q I rv h
 obtain ⟨x,cv,t,c,b,rfl,ty,e1,e2,q⟩:=h
 cases rv with
 | cons r1 rr =>
  cases rr with
  | cons r2 rr =>
   cases rr
   rw [clV.rel e1 r2]
   exact nD I r1 ty e2 λ tk=>⟨.bl b,H,I.tok tk,Y,q⟩
theorem jh:cj X (.builtin "isinstance") (λ xs H Q=>∃x p t cvs cs b,xs=[x,.ref p]/\TyOf X.K H x t/\H p=some (.tup cvs)/\clVs cvs=some cs/\PySem.W.kitAny X.K t cs=some b/\Q (.bl b) H):=by
 intro pins s σ H xs us Q I rv h
 obtain ⟨x,p,t,cvs,cs,b,rfl,ty,hp,e1,e2,q⟩:=h
 cases rv with
 | cons r1 rr =>
  cases rr with
  | cons r2 rr =>
   cases rr
   cases r2
   obtain ⟨_,its,rits,o,ho,hc,n,hd⟩:=I.hok p _ hp
   obtain ⟨P,Z,p1,p2⟩:=I.kitx r1 ty
   obtain ⟨oc,od,dt,osl⟩:=o
   replace hc:oc=.type "tuple" := hc
   replace hd:dt=.seq its.toArray n:=hd
   subst hc hd
   have e3:=clVs.rel e1 rits
   subst e3
   exact PySem.W.kia_tup Z I.kIn p1 ho e2 p2 λ tk=>⟨.bl b,H,I.tok tk,Y,q⟩
end
mutual
inductive DatV (K:PySem.W.Frag) (H:Hp):V->PyData->Prop
 | non:DatV K H .non .none
 | bl (b:Bool):DatV K H (.bl b) (.bool b)
 | int (i:Int):DatV K H (.int i) (.int i)
 | str (x:Str):DatV K H (.str x) (.str x)
 | lst {a:Addr} {xs:List V} {ds:List PyData}:SqL K H a xs->DatVs K H xs ds->DatV K H (.ref a) (.list ds)
 | tup {a:Addr} {xs:List V} {ds:List PyData}:SqT K H a xs->DatVs K H xs ds->DatV K H (.ref a) (.tuple ds)
inductive DatVs (K:PySem.W.Frag) (H:Hp):List V->List PyData->Prop
 | nil:DatVs K H [] []
 | cons {x:V} {d:PyData} {xs:List V} {ds:List PyData}:DatV K H x d->DatVs K H xs ds->DatVs K H (x :: xs) (d :: ds)
end
section
variable {X:Cx} {pins:List (Addr×Obj)} {σ:St} {H:Hp} {s:Shared}
mutual
theorem Inv.reads (I:Inv X pins σ H s):∀ {v:V} {d:PyData},DatV X.K H v d->∀ {u:Value},RelV v u->∃as,Reads s.heap u d as
 | _,_,.non,u,r=>by cases (show u=Value.none from r); exact ⟨_,.none⟩
 | _,_,.bl b,u,r=>by cases (show u=Value.bool b from r); exact ⟨_,.bool b⟩
 | _,_,.int i,u,r=>by obtain ⟨t,e⟩:=(show ∃t,u=Value.int i t from r); subst e; exact ⟨_,.int i t⟩
 | _,_,.str x,u,r=>by obtain ⟨t,e⟩:=(show ∃t,u=Value.str x t from r); subst e; exact ⟨_,.str x t⟩
 | _,_,.lst (a:=a) h hs,u,r=>by
  cases (show u=Value.ref a from r)
  obtain ⟨its,rv,⟨o,n,e,c,_,d⟩,_⟩:=I.list h
  obtain ⟨as,ra⟩:=I.readsAll hs rv
  exact ⟨_,.list e c d (by simpa using ra)⟩
 | _,_,.tup (a:=a) h hs,u,r=>by
  cases (show u=Value.ref a from r)
  obtain ⟨its,rv,⟨o,e,c,n,d⟩,_⟩:=I.tuple h
  obtain ⟨as,ra⟩:=I.readsAll hs rv
  exact ⟨_,.tuple e c d (by simpa using ra)⟩
theorem Inv.readsAll (I:Inv X pins σ H s):∀ {vs:List V} {ds:List PyData},DatVs X.K H vs ds->∀ {us:List Value},Vals vs us->∃as,ReadsAll s.heap us ds as
 | _,_,.nil,_,.nil=>⟨_,.nil⟩
 | _,_,.cons h hs,_,.cons r rs=>by
  obtain ⟨as,ra⟩:=I.reads h r
  obtain ⟨bs,rb⟩:=I.readsAll hs rs
  exact ⟨_,.cons ra rb⟩
end
end
section
variable {X:Cx}
theorem vE (hu:X.A.units + 64 < cLine):OpR X (compareOp .NotEq) (λ x y H Q=>∃da db,DatV X.K H x da/\DatV X.K H y db/\SeqAt.shaped da=true/\SeqAt.shaped db=true/\Q (.bl (!PyData.eqv da db)) H):=by
 intro pins s σ H x y v u Q I rx ry h
 obtain ⟨da,db,hx,hy,s1,s2,q⟩:=h
 obtain ⟨as,ra⟩:=I.reads hx rx
 obtain ⟨bs,rb⟩:=I.reads hy ry
 exact ne_dataH ra rb s1 s2 hu ⟨.bl _,H,I,rfl,q⟩
theorem lm (hu:X.A.units + 64 < cLine):OpR X (compareOp .Eq) (λ x y H Q=>∃da db,DatV X.K H x da/\DatV X.K H y db/\SeqAt.shaped da=true/\SeqAt.shaped db=true/\Q (.bl (PyData.eqv da db)) H):=by
 intro pins s σ H x y v u Q I rx ry h
 obtain ⟨da,db,hx,hy,s1,s2,q⟩:=h
 obtain ⟨as,ra⟩:=I.reads hx rx
 obtain ⟨bs,rb⟩:=I.reads hy ry
 exact eq_dataH ra rb s1 s2 hu ⟨.bl _,H,I,rfl,q⟩
end
section
variable {prog:Program} {w:World} {A:Around} {E:Value->Shared->Prop}
theorem gQ {it l:Addr} {items:Array Value} (hne:l≠it):∀ (n i:Nat) (s:Shared) (Q:List Value->Shared->Prop),s.heap.IsListIter it l i->s.heap.IsList l items->i + n<=items.size ->
  (∀h',h'.IsListIter it l (i + n)->Heap.SameBut it s.heap h'->Q ((items.toList.drop i).take n) { s with heap:=h' })->wpAny (model prog w) A (draw (.ref it) n) Q E s
 | 0,i,s,Q,hit,_,_,hQ=>by
  show wpAny _ _ (pure []) Q E s
  exact wpAny_pure (by simpa using hQ s.heap hit (Heap.SameBut.refl ..))
 | n + 1,i,s,Q,hit,ht,hle,hQ=>by
  have hlt:i < items.size:=by omega
  show wpAny _ _ (pyNext (.ref it) >>= _) Q E s
  refine wpAny_bind (wpAny_pyNext_list_item hit ht (x:=items[i]) (by simp [hlt]) λ h₁ hit₁ hs₁=>?_)
  refine wpAny_bind (wpAny_holding (gQ hne n (i + 1) _ _ hit₁ (ht.extBut hs₁.extBut hne) (by omega) λ h₂ hit₂ hs₂=>wpAny_pure ?_))
  have hd:items.toList.drop i=items[i] :: items.toList.drop (i + 1):=by simp [List.drop_eq_getElem_cons,hlt]
  have q:=hQ h₂ (by rw [show i + (n + 1)=i + 1 + n by omega]; exact hit₂) (hs₁.trans hs₂)
  rw [hd,List.take_succ_cons] at q
  exact q
theorem eS {s:Shared} {l:Addr} {items:Array Value} {Q:List Value->Shared->Prop} (hh:A.handled=none) (ht:s.heap.IsList l items)
  (hQ:∀h',Heap.ExtBut s.heap.objs.size s.heap h'->Q items.toList { s with heap:=h' }):wpAny (model prog w) A (unpackItems (.ref l) items.size none) Q E s:=by
 have hlt:l≠s.heap.objs.size:=by obtain ⟨o,ho,_⟩:=ht; exact Nat.ne_of_lt (Heap.lt_size ho)
 have hp:(s.heap.push { cls:=.type "list_iterator",data:=.fields #[.ref l,.int 0 0] }).IsList l items:=by
  obtain ⟨o,ho,r⟩:=ht; exact ⟨o,Heap.get?_push_of_some _ ho,r⟩
 unfold unpackItems
 refine wpAny_bind ?_
 ·unfold notIterableAtAll
  refine wpAny_bind (wpAny_specialOf ht.typeIs PySem.slot_list_iter.lookup ?_)
  refine wpAny_pure ?_
  simp only [Bool.false_eq_true,if_false]
  refine wpAny_bind (wpAny_holding (wpAny_pyIter_list ht ?_))
  refine wpAny_bind (wpAny_holding (gQ hlt items.size 0 _ _ ⟨_,Heap.get?_push_size _ rfl,rfl,rfl⟩ hp (by omega) λ h₁ hit₁ hs₁=>?_))
  have hall:List.take items.size (List.drop 0 items.toList)=items.toList:=by
   rw [List.drop_zero]; exact List.take_of_length_le (by simp)
  rw [hall]
  rw [if_neg (by simp)]
  have ht₁:h₁.IsList l items:=hp.extBut hs₁.extBut hlt
  refine wpAny_bind (wpAny_holding (wpAny_pyNext_list_end hh hit₁ ht₁ (by simp) λ h₂ he₂=>?_))
  simp only [Option.isSome_none,Bool.false_eq_true,if_false]
  refine wpAny_pure (hQ h₂ λ b o hb e=>he₂ b o hb (hs₁.extBut b o hb (Heap.get?_push_of_some _ e)))
theorem eF {s:Shared} {env:Env} {elts:List Expr} {x1} {pos:Pos} {l:Addr} {items:Array Value} {Q:Unit->Shared->Prop} (hh:A.handled=none) (ht:s.heap.IsList l items)
  (hn:(assignEach elts env).length=items.size) (hstar:(assignEach elts env).findIdx? (·.1)=none)
  (h:∀h',Heap.ExtBut s.heap.objs.size s.heap h'->wpAny (model prog w) A (assignInOrder ((assignEach elts env).map (·.2)) items.toList) Q E { s with heap:=h' }) :
  wpAny (model prog w) A (assign (.Tuple elts x1 pos) env (.ref l)) Q E s:=by
 rw [assign_Tuple]
 refine wpAny_bind (wpAny_standAt ?_)
 unfold unpack
 rw [hn,hstar]
 exact wpAny_bind (wpAny_holding (eS hh ht h))
end
section
variable {X:Cx} {pos:Pos}
def ye (K:PySem.W.Frag) (n:Nat) (t:TGs):TG:=λ v σ H Q=>∃a xs,v=.ref a/\(SqL K H a xs\/SqT K H a xs)/\xs.length=n/\t xs σ H Q
theorem lp {es:List Expr} {k:Nat} {t:TGs} {n:Nat} (hc:X.calm=true) (h:PGs X es t)
  (hn:(assignEach es X.env).length=n:=by rfl) (hst:(assignEach es X.env).findIdx? (·.1)=none:=by rfl):PG X (.Tuple es k pos) (ye X.K n t):=by
 intro pins s σ H v u Q I r hw
 obtain ⟨a,xs,e1,hq,hl,hw⟩:=hw
 rcases hq with hq | hq
 ·subst e1
  cases r
  obtain ⟨its,rv,ht,hz⟩:=I.list hq
  refine eF (I.ok.hd hc) ht.isList (by simp [hn,<- hl,rv.length]) hst λ h' hx=>?_
  have I1:Inv X pins σ H { s with heap:=h' }:=I.kept (t':=s.toks) λ b o e=>hx b o (Nat.ne_of_lt (Heap.lt_size e)) e
  exact h pins _ σ H xs _ Q I1 (by simpa using rv) hw
 ·exact aX hc h hn hst pins s σ H v u Q I r ⟨a,xs,e1,hq,hl,hw⟩
end
section
variable {X:Cx}
theorem Inv.turnedN {pins:List (Addr×Obj)} {σ:St} {H:Hp} {s:Shared} {h':Heap} {t':Nat} {ch:List Addr} (I:Inv X pins σ H s) (hf:∀b∈ch,eM X pins H b) (k:∀b o,b∉ch->s.heap.get? b=some o->h'.get? b=some o):Inv X pins σ H { s with heap:=h',toks:=t' }:=by
 have hLc:X.env.locals∉ch:=λ z=>(hf _ z).2.1 rfl
 have nt:∀b u,H b=some u->b∉ch:=λ b u e z=>by rw [(hf b z).1] at e; cases e
 refine I.step (g':=s.gens) (d':=s.drawn) (ch:=ch) (λ b hb=>⟨(hf b hb).2.2.2.1,(hf b hb).2.1,(hf b hb).2.2.2.2.1,(hf b hb).2.2.2.2.2⟩) (λ b o _ _ hc e _=>k b o hc e) (λ b o _ _ hc e _=>⟨o.slots,k b o hc e⟩) (λ _ _ _ _ n=>n)
  (λ b o hc e=>⟨o,k b o hc e⟩) (λ _ _ e=>e) (λ _ _ _ e=>e) (λ b ps e=>⟨#[],by rw [e]; simp⟩) (λ m hm=>?_) (λ b u e=>?_) I.bare
 ·obtain ⟨o,es,ep,ho,r⟩:=hm
  exact ⟨o,es,ep,k _ o hLc ho,r⟩
 ·refine (I.hok b u e).stay (λ c v hc q=>k c v ?_ q) (λ _ q=>q) λ _ _ q=>q
  rcases hc with z | z
  ·rw [z]; exact nt b u e
  ·exact nt c _ z
theorem Inv.track {pins:List (Addr×Obj)} {σ:St} {H:Hp} {s:Shared} {a:Addr} {o:HO} (I:Inv X pins σ H s) (hf:eM X pins H a) (fa:X.s₀.heap.objs.size<=a) (new:ObjOk X.prog X.w (upd H a o) s.heap a o):Inv X pins σ (upd H a o) s:=by
 obtain ⟨f0,f1,f2,f3,f4,f5⟩:=hf
 have s0:∀b o,X.s₀.heap.get? b=some o->b≠a:=λ b o e=>Nat.ne_of_lt (Nat.lt_of_lt_of_le (Heap.lt_size e) fa)
 refine ⟨I.ok,I.os,I.bare,⟨I.base.keep,I.base.slot,λ b o e n hx=>?_,I.base.there,λ b xs e=>?_,λ b o u e=>?_,λ b ps e=>?_⟩,I.loc,I.cell,?_,λ x c e=>?_,λ p hp=>?_,I.hok.add f0 new,I.len⟩
 ·rw [au (s0 b o e)]; exact I.base.free b o e n hx
 ·have q:=I.base.tups b xs e
  rw [au (ap q f0)]; exact q
 ·have q:=I.base.frzs b o u e
  rw [au (ap q f0)]; exact q
 ·obtain ⟨more,q⟩:=I.base.tbls b ps e
  exact ⟨more,by rw [au (ap q f0)]; exact q⟩
 ·rw [au (Ne.symm f1)]; exact I.free
 ·rw [au (f4 x c e)]; exact I.freeC x c e
 ·obtain ⟨e,n,r⟩:=I.pin p hp
  exact ⟨e,by rw [au (f5 p hp)]; exact n,r⟩
end
structure ZipAp (z TI TO i1 i2:Addr):Prop where
 nd:[z,TI,TO,i1,i2].Nodup
end L2
set_option Elab.async false
set_option linter.all false
set_option maxRecDepth 100000
namespace L2
open PySem PySem.Spec PyProof.Rows
def Dn (P:Program) (w:World) (K:PySem.W.Frag) (mg:Str->Option Value) (base:Heap) (x:Str) (ps:List Str) (k:Nat) (sp:Sp):Prop :=
 ∃ (f:Addr) (fd:FuncData),FnOk P w K mg base CX0 k f fd ps sp/\Binds K fd ps []/\PySem.W.keepIn K (.ref f)=true/\mg x=some (.ref f)
theorem am {X:Cx} {k:Nat} {ps:List Str} {sp:Sp} {x:Str} {p pos:Pos} {e:Expr} {es:List Expr} {t:TA} (D:Dn X.prog X.w X.K X.mg X.base x ps k sp) (hr:Room k X.A) (hg:Gl X x) (ha:PA X (e :: es) t)
  (hdb:(x == ("__debug__" : Str))=false:=by decide) (he:starEach (e :: es) X.env=(false,eval e X.env) :: starEach es X.env:=by rfl) (hpl:(backTo pos (starEach es X.env)).any (·.1)=false:=by rfl) :
  PE X (.Call (.Name x p) (e :: es) [] pos) (uW sp [] E0 t):=by
 obtain ⟨f,fd,F,hb,hk,hm⟩:=D
 exact tF F hr hg hm hk hb .nil mt ha hdb he hpl
def mw (sc:Scope) (N:List Str) (scope:Scope) (own cs:List Str) (cap:List Nat):Bool :=
 decide (scope.kind=.function) && scope.names.all (λ y=>decide (y.2≠.cell)) && scope.names.all (λ y=>decide (y.2=.local->scope.names.lookup y.1=some .local)) &&
 scope.names.all (λ y=>decide (y.2=.free->sc.names.lookup y.1=some .cell\/sc.names.lookup y.1=some .free)) && own.all (λ y=>decide (scope.names.lookup y=some .local)) &&
 decide (cs.length=cap.length) && (cs.zip cap).all (λ y=>decide (N[y.2]? = some y.1) && decide ((y.1,NameKind.free)∈scope.names)) && scope.names.all (λ y=>decide (y.2=.free->scope.names.lookup y.1≠some .local))
theorem bS {X:Cx} {sc:Scope} {N:List Str} {scope:Scope} {own cs:List Str} {cap:List Nat} (h1:X.env.scope=sc) (h2:X.N=N) (h:mw sc N scope own cs cap=true):CompOk X scope own cs cap:=by
 subst h1 h2
 unfold mw at h
 simp only [Bool.and_eq_true,List.all_eq_true,decide_eq_true_eq] at h
 obtain ⟨⟨⟨⟨⟨⟨⟨a1,a2⟩,a3⟩,a4⟩,a5⟩,a6⟩,a7⟩,a8⟩:=h
 refine ⟨a1,a2,a3,a4,λ i y e=>?_,a5,a6,λ y hy e=>a8 _ hy rfl e⟩
 have hi:i < cs.length:=(List.getElem?_eq_some_iff.mp e).1
 have hj:i < cap.length:=by rw [<- a6]; exact hi
 refine ⟨cap[i],List.getElem?_eq_getElem hj,?_⟩
 have hm:(y,cap[i])∈cs.zip cap:=by
  have:(cs.zip cap)[i]? = some (y,cap[i]):=by
   rw [List.getElem?_zip_eq_some]
   exact ⟨e,List.getElem?_eq_getElem hj⟩
  exact List.mem_of_getElem? this
 exact a7 _ hm
theorem cA {σ:St} {H:Hp} {A B:Hp->Prop} (h:A H):yd σ H (λ ok H3=>if ok=true then A H3 else B H3):=by
 show (if (true:Bool)=true then A H else B H)
 rw [if_pos rfl]
 exact h
section
variable {X:Cx} {tg:Expr}
def vF (K:PySem.W.Frag) (tl:TE):TI:=λ σ H R=>uP K tl σ H R\/xS K tl σ H R
theorem qF {l:Expr} {tl:TE} (hl:PE X l tl):PI X tg l (vF X.K tl):=by
 intro pins s σ H R I h
 rcases h with h | h
 ·exact gj hl pins s σ H R I h
 ·exact fu hl pins s σ H R I h
end
def aF:List String:=["NoneType","bool","int","str","list","tuple","dict"]
theorem mx {K:PySem.W.Frag}:∀T∈aF,PySem.W.kitOne K (.type T) (.type "int")=some (T == "int" || T == "bool"):=by
 intro T h
 simp only [aF,List.mem_cons,List.not_mem_nil,or_false] at h
 rcases h with rfl | rfl | rfl | rfl | rfl | rfl | rfl <;> kernel_rfl
theorem eU {K:PySem.W.Frag}:∀T∈aF,PySem.W.kitOne K (.type T) (.type "bool")=some (T == "bool"):=by
 intro T h
 simp only [aF,List.mem_cons,List.not_mem_nil,or_false] at h
 rcases h with rfl | rfl | rfl | rfl | rfl | rfl | rfl <;> kernel_rfl
theorem gR {K:PySem.W.Frag}:∀T∈aF,PySem.W.kitOne K (.type T) (.type "list")=some (T == "list"):=by
 intro T h
 simp only [aF,List.mem_cons,List.not_mem_nil,or_false] at h
 rcases h with rfl | rfl | rfl | rfl | rfl | rfl | rfl <;> kernel_rfl
theorem bG {K:PySem.W.Frag}:∀T∈aF,PySem.W.kitOne K (.type T) (.type "tuple")=some (T == "tuple"):=by
 intro T h
 simp only [aF,List.mem_cons,List.not_mem_nil,or_false] at h
 rcases h with rfl | rfl | rfl | rfl | rfl | rfl | rfl <;> kernel_rfl
theorem cH {K:PySem.W.Frag}:∀T∈aF,PySem.W.kitOne K (.type T) (.type "str")=some (T == "str"):=by
 intro T h
 simp only [aF,List.mem_cons,List.not_mem_nil,or_false] at h
 rcases h with rfl | rfl | rfl | rfl | rfl | rfl | rfl <;> kernel_rfl
theorem tO {K:PySem.W.Frag}:∀T∈aF,PySem.W.kitAny K (.type T) [.type "list",.type "tuple"]=some (T == "list" || T == "tuple"):=by
 intro T h
 have h1:=gR (K:=K) T h
 have h2:=bG (K:=K) T h
 unfold PySem.W.kitAny
 rw [h1]
 cases e:(T == "list") with
 | true=>rfl
 | false =>
  show PySem.W.kitAny K (.type T) [.type "tuple"]=_
  unfold PySem.W.kitAny
  rw [h2]
  cases e2:(T == "tuple") <;> rfl
def Ty (K:PySem.W.Frag) (H:Hp) (x:V) (T:String):Prop:=T∈aF/\TyOf K H x (.type T)
theorem Ty.int {K:PySem.W.Frag} {H:Hp} {i:Int}:Ty K H (.int i) "int" := ⟨by simp [aF],.int i⟩
theorem Ty.bl {K:PySem.W.Frag} {H:Hp} {b:Bool}:Ty K H (.bl b) "bool" := ⟨by simp [aF],.bl b⟩
theorem Ty.non {K:PySem.W.Frag} {H:Hp}:Ty K H .non "NoneType" := ⟨by simp [aF],.non⟩
theorem Ty.str {K:PySem.W.Frag} {H:Hp} {x:Str}:Ty K H (.str x) "str" := ⟨by simp [aF],.str x⟩
theorem Ty.lst {K:PySem.W.Frag} {H:Hp} {a:Addr} {xs:List V} (e:H a=some (.lst xs)):Ty K H (.ref a) "list" := ⟨by simp [aF],.lst e⟩
theorem Ty.tup {K:PySem.W.Frag} {H:Hp} {a:Addr} {xs:List V} (e:H a=some (.tup xs)):Ty K H (.ref a) "tuple" := ⟨by simp [aF],.tup e⟩
theorem Ty.dK {K:PySem.W.Frag} {H:Hp} {a:Addr} {xs:List (Key×V)} (e:H a=some (.dK xs)):Ty K H (.ref a) "dict" := ⟨by simp [aF],.dK e⟩
def aY:V->Int->Bool
 | .int i,l=>decide (l<=i)
 | _,_=>false
def nL:V->Bool
 | .bl _=>true
 | _=>false
theorem vG {K:PySem.W.Frag} {H:Hp} {x:V} {T:String} (t:TyOf K H x (.type T)) (h:T∈aF):(T == "int")=true->∃i,x=.int i:=by
 intro e
 have e':T = "int" := by simpa using e
 subst e'
 generalize hv:Value.type "int" = tv at t
 cases t with
 | int i=>exact ⟨i,Y⟩
 | _=>exact absurd hv (by simp)
theorem my {K:PySem.W.Frag} {H:Hp} {x:V} {T:String} (t:TyOf K H x (.type T)):(T == "bool")=nL x:=by
 generalize hv:Value.type T=tv at t
 cases t with
 | bl b=>cases hv; rfl
 | non=>cases hv; rfl
 | int i=>cases hv; rfl
 | str i=>cases hv; rfl
 | flt i=>cases hv; rfl
 | lst i=>cases hv; rfl
 | frz i=>cases hv; rfl
 | tup i=>cases hv; rfl
 | dK i=>cases hv; rfl
 | dT i=>cases hv; rfl
 | ins=>cases hv
end L2
local macro_rules|`($a ^^^ $b)=>`(@L2.aa _ _ _ _ _ $a $b rfl)
namespace Pc
open PySem L2
structure Pot (a b:Int):Prop where
 a0:0<=a
 b0:0<=b
 b1:b < 2147483629
def But (p:Addr) (H H':Hp):Prop:=∀b o,b≠p->H b=some o->H' b=some o
theorem But.trans {p:Addr} {H H1 H2:Hp} (a:But p H H1) (b:But p H1 H2):But p H H2:=λ c o n e=>b c o n (a c o n e)
theorem But.upd {p:Addr} {H:Hp} {o:HO}:But p H (upd H p o):=λ b u n e=>by rw [au n]; exact e
theorem But.new {p q:Addr} {H:Hp} {o:HO} (h:H q=none):But p H (L2.upd H q o):=λ b u n e=>by rw [au (ap e h)]; exact e
structure Kd where
 w:Int
 h:Int
 wo:Int
 wa:Int
 tu:Bool
def kdV (k:Kd):List V:=[.int k.w,.int k.h,.int k.wo,.int k.wa,.bl k.tu]
structure Good (k:Kd):Prop where
 w:1<=k.w
 h:1<=k.h
 wo:0<=k.wo
 wa:0<=k.wa
 w':k.w < 10 ^ 60
 h':k.h < 10 ^ 60
 wo':k.wo < 10 ^ 60
 wa':k.wa < 10 ^ 60
def uY (H:Hp) (v:V) (k:Kd):Prop:=∃a,v=.ref a/\H a=some (.tup (kdV k))
def yf (H:Hp) (v:V) (k:Kd):Prop:=∃a,v=.ref a/\H a=some (.lst (kdV k))
def RowAt (H:Hp) (v:V) (k:Kd):Prop:=uY H v k\/yf H v k
abbrev Tups (H:Hp):List V->List Kd->Prop:=Paired (uY H)
theorem Tups.keep {H H':Hp} (k:∀b xs,H b=some (.tup xs)->H' b=some (.tup xs)):∀ {xs:List V} {ks:List Kd},Tups H xs ks->Tups H' xs ks:=λ r =>
 Paired.mapP r λ v kd ⟨a,e,h⟩=>⟨a,e,k a _ h⟩
structure ToldAt (H:Hp) (t l:Addr) (bl:Int) (xs:List V) (ks:List Kd):Prop where
 t:H t=some (.tup [.int bl,.ref l])
 l:H l=some (.lst xs)
 r:Tups H xs ks
 b0:0<=bl
 b1:bl < 10 ^ 60
 g:∀k∈ks,Good k
 n0:1<=xs.length
 n1:xs.length<=8
def ck (K:PySem.W.Frag):Sp:=λ vs H Q _=>∃ (x:V) (T:String) (l:Int),vs=[x,.int l]/\Ty K H x T/\Q (.bl (aY x l)) H
def gp (K:PySem.W.Frag):Sp:=λ vs H Q _=>∃ (x:V) (T:String),vs=[x]/\Ty K H x T/\Q (.bl (nL x)) H
def gS (K:PySem.W.Frag):Sp:=λ vs H Q _=>∃ (x:V) (T:String), vs=[x]/\Ty K H x T/\∀H', Same H H'->Q (.bl (T == "list" || T == "tuple")) H'
def iC:List V->Bool
 | [w,h,wo,wa,tu]=>aY w 1 && aY h 1 && aY wo 0 && aY wa 0 && nL tu
 | _=>false
def eV (K:PySem.W.Frag):Sp:=λ vs H Q _=>∃ (x:V) (T:String),vs=[x]/\Ty K H x T /\ 
 ((T ≠ "list" /\ T ≠ "tuple" /\ ∀H', Same H H'->Q (.bl false) H')\/∃ (a:Addr) (xs:List V), x=.ref a/\(H a=some (.lst xs)\/H a=some (.tup xs))/\(∀y∈xs, ∃U, Ty K H y U)/\∀H', Same H H'->Q (.bl (iC xs)) H')
theorem gT {k:Kd} (g:Good k):iC (kdV k)=true:=by
 show (decide (1<=k.w) && decide (1<=k.h) && decide (0<=k.wo) && decide (0<=k.wa) && true)=true
 rw [decide_eq_true g.w,decide_eq_true g.h,decide_eq_true g.wo,decide_eq_true g.wa]
 rfl
theorem Ty.same {K:PySem.W.Frag} {H H':Hp} {x:V} {T:String} (s:Same H H') (t:Ty K H x T):Ty K H' x T:=by
 refine ⟨t.1,?_⟩
 have t2:=t.2
 generalize hv:Value.type T=tv at t2 ⊢
 cases t2 with
 | non=>exact .non
 | bl b=>exact .bl b
 | int b=>exact .int b
 | str b=>exact .str b
 | flt b=>exact .flt b
 | lst e=>exact .lst (s _ _ e)
 | frz e=>exact .frz (s _ _ e)
 | tup e=>exact .tup (s _ _ e)
 | dK e=>exact .dK (s _ _ e)
 | dT e=>exact .dT (s _ _ e)
 | ins=>cases hv
end Pc
set_option Elab.async false
set_option linter.all false
set_option maxRecDepth 100000
namespace L2
open PySem PySem.Spec PyProof.Rows
def qG (K:PySem.W.Frag):List V->Hp->VK->Prop:=λ xs H Q=>∃p ys,xs=[V.ref p]/\((SqL K H p ys/\∀l,H l=none->Q (.ref l) (upd H l (.tup ys)))\/(SqT K H p ys/\Q (.ref p) H))
theorem qH {K:PySem.W.Frag} {j:Nat} {a:Addr} {xs:List V} {g:TG} {tb:TS} {D:Ends} {σ:St} {H:Hp} (hσ:σ[j]? = some (some (.ref a))) (hs:H a=some (.lst xs)\/H a=some (.tup xs)) (Pv:Nat->St->Hp->Prop) (h0:Pv 0 σ H)
  (hk:∀i σ H',i<=xs.length->Pv i σ H'->∀o,H a=some o->H' a=some o)
  (ht:∀i x σ H,xs[i]? = some x->Pv i σ H->g x σ H λ σ2 H2=>tb { D with nx:=Pv (i + 1),ct:=Pv (i + 1),bk:=D.nx } σ2 H2) (hd:∀σ H,Pv xs.length σ H->D.nx σ H):xU (vF K (tVar j)) g tb D σ H:=by
 rcases hs with z | z
 ·exact .inl ⟨_,hσ,a,Y,⟨xs,SqL.of z⟩,gJ (xs:=xs) Pv h0 (λ i σ H' hi p=>SqL.of (hk i σ H' hi p _ z)) ht hd⟩
 ·exact .inr ⟨_,hσ,a,Y,⟨xs,SqT.of z⟩,gm (xs:=xs) Pv h0 (λ i σ H' hi p=>SqT.of (hk i σ H' hi p _ z)) ht hd⟩
def Nx (n:Nat) (Pv:Nat->List V->Hp->Prop) (i:Nat) (ys:List V) (H:Hp):Prop:=∃m',m' < n - i/\m'=n - (i + 1)/\i + 1<=n/\Pv (i + 1) ys H
theorem Nx.of {n:Nat} {Pv:Nat->List V->Hp->Prop} {i:Nat} {ys:List V} {H:Hp} (h:i < n) (p:Pv (i + 1) ys H):Nx n Pv i ys H:=⟨n - (i + 1),by omega,Y,h,p⟩
theorem cQ {K:PySem.W.Frag} {a:Addr} {xs:List V} {σ:St} {cap:List Nat} {k:Nat} {g:TG} {tt:TT} {te:TE} {Q:List V->Hp->Prop} {H:Hp} (hs:H a=some (.lst xs)\/H a=some (.tup xs)) (Pv:Nat->List V->Hp->Prop)
  (hk:∀i ys H',i<=xs.length->Pv i ys H'->∀o,H a=some o->H' a=some o) (h0:Pv 0 [] H)
  (ht:∀i x ys H',xs[i]? = some x->Pv i ys H'->ys.length < sizeLine/\g x (bX σ cap k) H' λ σ2 H2=>leS (bX σ cap k) σ2/\tt σ2 H2 λ ok H3=>if ok=true then te σ2 H3 (λ v H4=>Nx xs.length Pv i (ys ++ [v]) H4) else Nx xs.length Pv i ys H3)
  (hd:∀ys H',Pv xs.length ys H'->ys.length<=sizeLine/\Q ys H') :
  (H a=some (.lst xs)->∃W,(∃m,W 0 m [] H)/\iB σ cap k (Itl K a) g tt te Q W)/\(H a=some (.tup xs)->∃W,(∃m,W 0 m [] H)/\iB σ cap k (Itt K a) g tt te Q W):=by
 refine ⟨λ z=>⟨λ i m ys H'=>m=xs.length - i/\i<=xs.length/\Pv i ys H',⟨_,Y,Nat.zero_le _,h0⟩,?_⟩,λ z=>⟨λ i m ys H'=>m=xs.length - i/\i<=xs.length/\Pv i ys H',⟨_,Y,Nat.zero_le _,h0⟩,?_⟩⟩
 ·rintro i m ys H' ⟨rfl,hi,p⟩
  have z':=hk i ys H' hi p _ z
  by_cases hin:i < xs.length
  ·obtain ⟨e,hg⟩:=ht i xs[i] ys H' (by simp [hin]) p
   refine .inr ⟨⟨xs,xs[i],SqL.of z',by simp [hin]⟩,e,λ x H2 yl=>?_⟩
   obtain ⟨e1,e2⟩:=yl
   have e3:=e2 xs (SqL.of z')
   have e4:x=xs[i]:=by simpa [hin] using e3.symm
   subst e1 e4
   exact hg
  ·have e:i=xs.length:=by omega
   subst e
   obtain ⟨a1,a2⟩:=hd ys H' p
   exact .inl ⟨⟨xs,SqL.of z',Nat.le_refl _⟩,a1,a2⟩
 ·rintro i m ys H' ⟨rfl,hi,p⟩
  have z':=hk i ys H' hi p _ z
  by_cases hin:i < xs.length
  ·obtain ⟨e,hg⟩:=ht i xs[i] ys H' (by simp [hin]) p
   refine .inr ⟨⟨xs,xs[i],SqT.of z',by simp [hin]⟩,e,λ x H2 yl=>?_⟩
   obtain ⟨e1,e2⟩:=yl
   have e3:=e2 xs (SqT.of z')
   have e4:x=xs[i]:=by simpa [hin] using e3.symm
   subst e1 e4
   exact hg
  ·have e:i=xs.length:=by omega
   subst e
   obtain ⟨a1,a2⟩:=hd ys H' p
   exact .inl ⟨⟨xs,SqT.of z',Nat.le_refl _⟩,a1,a2⟩
theorem nM {K:PySem.W.Frag} {j:Nat} {a:Addr} {xs:List V} {σ:St} {cap:List Nat} {k:Nat} {g:TG} {tt:TT} {te:TE} {Q:VK} {H:Hp} (hσ:σ[j]? = some (some (.ref a))) (hs:H a=some (.lst xs)\/H a=some (.tup xs)) (Pv:Nat->List V->Hp->Prop)
  (hk:∀i ys H',i<=xs.length->Pv i ys H'->∀o,H a=some o->H' a=some o) (h0:Pv 0 [] H)
  (ht:∀i x ys H',xs[i]? = some x->Pv i ys H'->ys.length < sizeLine/\g x (bX σ cap k) H' λ σ2 H2=>leS (bX σ cap k) σ2/\tt σ2 H2 λ ok H3=>if ok=true then te σ2 H3 (λ v H4=>Nx xs.length Pv i (ys ++ [v]) H4) else Nx xs.length Pv i ys H3)
  (hd:∀ys H',Pv xs.length ys H'->ys.length<=sizeLine/\∀p,H' p=none->Q (.ref p) (upd H' p (.lst ys))):qE (vF K (tVar j)) cap k g tt te σ H Q:=by
 obtain ⟨c1,c2⟩:=cQ (K:=K) (σ:=σ) (cap:=cap) (k:=k) (g:=g) (tt:=tt) (te:=te) hs Pv hk h0 ht hd
 rcases hs with z | z
 ·exact .inl ⟨_,hσ,a,Y,⟨xs,SqL.of z⟩,c1 z⟩
 ·exact .inr ⟨_,hσ,a,Y,⟨xs,SqT.of z⟩,c2 z⟩
end L2
namespace Pc
open PySem L2
def lq (b:Int) (r:Addr):List (Str×V):=cF "kind_rows" (.ref r) (cF "blade_width" (.int b) [])
theorem kbw:¬ (("blade_width" : Str) = "kind_rows"):=by decide +kernel
theorem lr (b:Int) (r:Addr):(lq b r).lookup ("blade_width" : Str)=some (.int b):=by
 unfold lq
 rw [bD,if_neg kbw,bD,if_pos rfl]
theorem fG (b:Int) (r:Addr):(lq b r).lookup ("kind_rows" : Str)=some (.ref r):=by
 unfold lq
 rw [bD,if_pos rfl]
theorem dP (b:Int) (r:Addr) {m:Str} (h1:¬ m = "kind_rows") (h2:¬ m = "blade_width"):(lq b r).lookup m=none:=by
 unfold lq
 rw [bD,if_neg h1,bD,if_neg h2]
 all_goals rfl
def ShopAt (C:Addr) (H:Hp) (x:Addr) (b:Int) (ks:List Kd):Prop:=∃dx r rs,H x=some (.ins C dx (lq b r))/\H r=some (.tup rs)/\Tups H rs ks
theorem ShopAt.keep {C:Addr} {H H':Hp} {x:Addr} {b:Int} {ks:List Kd} (s:ShopAt C H x b ks) (k1:∀b xs,H b=some (.tup xs)->H' b=some (.tup xs)) (k2:∀b C dx fs,H b=some (.ins C dx fs)->H' b=some (.ins C dx fs)):ShopAt C H' x b ks:=by
 obtain ⟨dx,r,rs,h1,h2,h3⟩:=s
 exact ⟨dx,r,rs,k2 _ _ _ _ h1,k1 _ _ h2,Tups.keep k1 h3⟩
def lx (C:Addr):Sp:=λ vs H Q _=>∃ (x dx ks:Addr) (b:Int) (rs:List V) (kds:List Kd),vs=[.ref x,.int b,.ref ks]/\H x=some (.ins C dx [])/\0<=b/\(H ks=some (.lst rs)\/H ks=some (.tup rs))/\Paired (RowAt H) rs kds/\(∀k∈kds,Good k)/\1<=rs.length/\rs.length<=8 /\
 ∀H':Hp,ShopAt C H' x b kds->(∀c o,c≠x->H c=some o->H' c=some o)->Q .non H'
def dQ (C:Addr):Sp:=λ vs H Q _=>∃ (x:Addr) (b:Int) (ks:List Kd),vs=[.ref x]/\ShopAt C H x b ks/\Q (.int b) H
theorem mz {K:PySem.W.Frag} {H:Hp} {k:Kd}:∀y∈kdV k,∃U,Ty K H y U:=by
 intro y hy
 simp only [kdV,List.mem_cons,List.not_mem_nil,or_false] at hy
 rcases hy with rfl | rfl | rfl | rfl | rfl
 ·exact ⟨_,.int⟩
 ·exact ⟨_,.int⟩
 ·exact ⟨_,.int⟩
 ·exact ⟨_,.int⟩
 ·exact ⟨_,.bl⟩
theorem Paired.getR {α β:Type} {F:α->β->Prop}:∀ {l₁:List α} {l₂:List β} {i:Nat} {x:α},Paired F l₁ l₂->l₁[i]? = some x->∃y,l₂[i]? = some y/\F x y
 | _,_,_,_,.nil,e=>by simp at e
 | _,_,0,_,.cons h _,e=>by simp at e; subst e; exact ⟨_,Y,h⟩
 | _,_,i + 1,x,.cons _ t,e=>by
  obtain ⟨y,h1,h2⟩:=Paired.getR (i:=i) (x:=x) t (by simpa using e)
  exact ⟨y,by simpa using h1,h2⟩
theorem RowAt.same {H H':Hp} {v:V} {k:Kd} (s:Same H H') (r:RowAt H v k):RowAt H' v k:=by
 rcases r with ⟨a,e,h⟩ | ⟨a,e,h⟩
 ·exact .inl ⟨a,e,s _ _ h⟩
 ·exact .inr ⟨a,e,s _ _ h⟩
theorem nN {K:PySem.W.Frag} {H:Hp} {v:V} {k:Kd} {Q:VK} {E:XK} (r:RowAt H v k) (g:Good k) (q:∀H',Same H H'->Q (.bl true) H'):eV K [v] H Q E:=by
 rcases r with ⟨a,rfl,h⟩ | ⟨a,rfl,h⟩
 ·exact ⟨_,_,Y,.tup h,.inr ⟨a,_,Y,.inr h,mz,λ H' s=>by rw [gT g]; exact q H' s⟩⟩
 ·exact ⟨_,_,Y,.lst h,.inr ⟨a,_,Y,.inl h,mz,λ H' s=>by rw [gT g]; exact q H' s⟩⟩
structure ShopTxt (K:PySem.W.Frag) (C:Addr):Prop where
 cl:Cls K C
 nB:NoAttr K C "blade_width"
 nK:NoAttr K C "kind_rows"
end Pc
set_option Elab.async false
set_option linter.all false
set_option maxRecDepth 100000
namespace L2
open PySem PySem.Spec PyProof.Rows
def Mn (P:Program) (w:World) (K:PySem.W.Frag) (mg:Str->Option Value) (base:Heap) (C:Addr) (m:Str) (ps:List Str) (k:Nat) (sp:Sp):Prop :=
 ∃ (f:Addr) (fd:FuncData),FnOk P w K mg base CX0 k f fd ps sp/\Binds K fd ps []/\Meth K C m f
theorem lA {X:Cx} {k:Nat} {C:Addr} {ps:List Str} {sp:Sp} {m:Str} {o:Expr} {ta:TE} {apos pos:Pos} {pl:Sem Bool} (he:PE X o ta) (c:Cls X.K C) (D:Mn X.prog X.w X.K X.mg X.base C m ps k sp) (hr:Room k X.A)
  (ht:eval (.Call (.Attribute o m apos) [] [] pos) X.env=(do
   let ov<-eval o X.env
   standAt apos.atName
   let (f,first)<-holding [ov] (getMethod ov m pl)
   callWith pos f first (backTo pos (starEach [] X.env)) (backToKw pos (keywordEach [] X.env))):=by rfl):PE X (.Call (.Attribute o m apos) [] [] pos) (mn C m sp [] E0 ta tE):=by
 obtain ⟨f,fd,F,hb,hm⟩:=D
 exact qr he c hm F hr hb .nil mt ht
def Kn (P:Program) (w:World) (K:PySem.W.Frag) (mg:Str->Option Value) (base:Heap) (x:Str) (C:Addr) (ps:List Str) (k:Nat) (sp:Sp):Prop :=
 ∃ (f:Addr) (fd:FuncData),Mk K C f/\FnOk P w K mg base CX0 k f fd ps sp/\Binds K fd ps []/\mg x=some (.ref C)
theorem yg {X:Cx} {k:Nat} {C:Addr} {ps:List Str} {sp:Sp} {x:Str} {p pos:Pos} {e:Expr} {es:List Expr} {t:TA} (D:Kn X.prog X.w X.K X.mg X.base x C ps k sp) (hr:Room (k + 1) X.A) (hg:Gl X x) (ha:PA X (e :: es) t)
  (hdb:(x == ("__debug__" : Str))=false:=by decide) (he:starEach (e :: es) X.env=(false,eval e X.env) :: starEach es X.env:=by rfl) (hpl:(backTo pos (starEach es X.env)).any (·.1)=false:=by rfl) :
  PE X (.Call (.Name x p) (e :: es) [] pos) (uX C sp [] E0 t):=by
 obtain ⟨f,fd,M,F,hb,hm⟩:=D
 exact tH M F hr hg hm hb .nil mt ha hdb he hpl
end L2
namespace Pc
open PySem L2
theorem Same.but {p:Addr} {H H':Hp} (s:Same H H'):But p H H':=λ b o _ e=>s b o e
theorem Same.new {q:Addr} {H:Hp} {o:HO} (h:H q=none):Same H (upd H q o):=λ b u e=>by rw [au (ap e h)]; exact e
end Pc
set_option Elab.async false
set_option linter.all false
set_option maxRecDepth 100000
namespace PySem
open Sem (wp)
open AutoSeq1 (wpAny_loadPart')
section
variable {prog:Program} {w:World} {A:Around} {E:Value->Shared->Prop} {s:Shared}
theorem gh {it t:Addr} {i:Nat} {items} {x:Value} {Q:Value->Shared->Prop} (hit:s.heap.IsTupleIter it t i)
  (ht:s.heap.IsTuple t items) (hx:items[i]? = some x)
  (hQ:∀h',h'.IsTupleIter it t (i + 1)->Heap.SameBut it s.heap h'->Q x { s with heap:=h' }) :
  wpAny (model prog w) A (Builtin.SmallTypes.nextOf (.ref it)) Q E s:=by
 obtain ⟨o,ho,hc,hd⟩:=id hit
 obtain ⟨ol,hol,_,nl,hdl⟩:=ht
 unfold Builtin.SmallTypes.nextOf
 refine wpAny_bind (wpAny_callSpecial?_slot (name:=Str.ofString "__next__") hit.typeIs F.slot_tuple_iterator_next
  (wpAny_call_entry F.slot_tuple_iterator_next hit.typeIs F.entry_tuple_iterator_next ?_ (F.args_tuple_iterator_next_1 _)))
 show wpAny _ _ (field (.ref it) 0 >>= _) _ _ s
 refine wpAny_bind (wpAny_field ho hd (x:=.ref t) rfl ?_)
 show wpAny _ _ (if (Value.ref t == Value.none)=true then _ else _) _ _ s
 rw [if_neg (show ¬ ((Value.ref t == Value.none)=true) from Bool.false_ne_true)]
 show wpAny _ _ (field (.ref it) 1 >>= _) _ _ s
 refine wpAny_bind (wpAny_field ho hd (x:=.int i 0) rfl ?_)
 show wpAny _ _ (seqItems? (.ref t) >>= _) _ _ s
 refine wpAny_bind (wpAny_seqItems hol hdl ?_)
 simp only [Int.toNat_natCast,hx]
 refine wpAny_bind (wpAny_setField ho hd (by simp) (wpAny_pure ⟨x,rfl,wpAny_pure (hQ _ ?_ (Heap.SameBut.update ..))⟩))
 exact ⟨_,Heap.get?_update_self _ ho (Obj.isFreed_of_fields (Obj.data_mapFields hd _)),(Obj.cls_mapFields ..).trans hc,by
  rw [Obj.data_mapFields hd]; simp [rawInt]⟩
theorem dD {it t:Addr} {i:Nat} {items} {Q:Value->Shared->Prop} (hh:A.handled=none)
  (hit:s.heap.IsTupleIter it t i) (ht:s.heap.IsTuple t items) (hx:items[i]? = none)
  (hE:∀h' e, Heap.ExtBut it s.heap h'->(∃o, h'.get? e=some o/\o.cls=.type "StopIteration")->E (.ref e) { s with heap:=h' }) :
  wpAny (model prog w) A (Builtin.SmallTypes.nextOf (.ref it)) Q E s:=by
 obtain ⟨o,ho,hc,hd⟩:=id hit
 obtain ⟨ol,hol,_,nl,hdl⟩:=ht
 unfold Builtin.SmallTypes.nextOf
 refine wpAny_bind (wpAny_callSpecial?_slot (name:=Str.ofString "__next__") hit.typeIs F.slot_tuple_iterator_next
  (wpAny_call_entry F.slot_tuple_iterator_next hit.typeIs F.entry_tuple_iterator_next ?_ (F.args_tuple_iterator_next_1 _)))
 show wpAny _ _ (field (.ref it) 0 >>= _) _ _ s
 refine wpAny_bind (wpAny_field ho hd (x:=.ref t) rfl ?_)
 show wpAny _ _ (if (Value.ref t == Value.none)=true then _ else _) _ _ s
 rw [if_neg (show ¬ ((Value.ref t == Value.none)=true) from Bool.false_ne_true)]
 show wpAny _ _ (field (.ref it) 1 >>= _) _ _ s
 refine wpAny_bind (wpAny_field ho hd (x:=.int i 0) rfl ?_)
 show wpAny _ _ (seqItems? (.ref t) >>= _) _ _ s
 refine wpAny_bind (wpAny_seqItems hol hdl ?_)
 simp only [Int.toNat_natCast,hx]
 refine wpAny_bind (wpAny_rule (wpAny_bind (wpAny_setField ho hd (by simp) ?_)))
 show wpAny _ _ (newExc (.type "StopIteration") [] >>= _) _ _ _
 refine wpAny_bind ?_
 simp only [newExc,newTuple]
 refine wpAny_bind (wpAny_newObj_type ?_ (by size_fits))
 refine wpAny_bind (m:=firstArgMember _ _) (wpAny_of_eq (a:=Value.none) (by first | rfl | (simp only [firstArgMember]; rfl)) ?_)
 refine wpAny_newObj_type ?_ (by size_fits)
 simp only [raiseNew]
 refine wpAny_bind (wpAny_handled ?_)
 first | rw [show A.in1.handled=none from hh] | rw [hh]
 refine wpAny_bind (wpAny_pure (wpAny_throw ?_))
 exact hE _ _ (((Heap.SameBut.update ..).extBut.push _).push _) ⟨_,Heap.get?_push_size _ rfl,rfl⟩
end
theorem qI {prog:Program} {w:World} {A:Around} (hh:A.handled=none) (it l:Addr) (hne:l≠it) (items:Array Value) :
  Draws prog w A it [it,l] items.size (λ i v=>items[i]? = some v) (λ i h=>h.IsTupleIter it l i/\h.IsTuple l items) where
 live:=λ _ _ st=>let ⟨o,ho,_⟩:=st.1; ⟨o,ho⟩
 frame:=λ _ _ _ st hk=>⟨st.1.at λ o e=>hk it (by simp) o e,let ⟨o,ho,r⟩:=st.2; ⟨o,hk l (by simp) o ho,r⟩⟩
 item:=λ i s Q E hi st hQ=>by
  refine gh st.1 st.2 (x:=items[i]) (by simp [hi]) λ h' hit' hs'=>?_
  exact hQ _ h' s.toks (by simp [hi]) ⟨hit',st.2.extBut hs'.extBut hne⟩ hs'
 done:=λ s Q E st hE=>dD hh st.1 st.2 (by simp) hE
theorem gU (l:Addr) (items:Array Value) (n:Nat) (dct:Option Addr) (sl:Array (Option Value)) :
  Meets (Builtin.«enumerate.__new__» ⟨[.type "enumerate",.ref l],[]⟩) (λ _ R s=>s.heap.get? l=some { cls:=.type "tuple",dict:=dct,data:=.seq items n,slots:=sl } /\
   R (.ok (.ret (.ref (s.heap.push { cls:=.type "tuple_iterator",data:=.fields #[.ref l,.int 0 0] }).objs.size)))
    { s with heap:=(s.heap.push { cls:=.type "tuple_iterator",data:=.fields #[.ref l,.int 0 0] }).push { cls:=.type "enumerate",data:=.fields #[.none,.bool false,.ref s.heap.objs.size,rawInt 0,.none,.none] } }) :=
 .of_wp λ prog w A R s h=>by
  obtain ⟨hp,g,d,tk,os⟩:=s; obtain ⟨hl,h⟩:=h
  have hsub:=sub_enumerate
  have hL:Heap.IsTuple (Shared.heap ⟨hp,g,d,tk,os⟩) l items:=⟨_,hl,Y,n,Y⟩
  wp_walk using wpAny_loadPart' hl
  refine wpAny_stack_any λ st=>wpAny_pure ?_
  split
  ·rename_i c _ _ _ _ _
   cases (c == Value.type "enumerate")
   ·wp_walk using wpAny_loadPart' hl,wpAny_pyIter_tuple hL
    exact ⟨_,Y,h⟩
   ·wp_walk using wpAny_loadPart' hl,wpAny_pyIter_tuple hL
    exact ⟨_,Y,h⟩
  ·wp_walk using wpAny_loadPart' hl,wpAny_pyIter_tuple hL
   exact ⟨_,Y,h⟩
section
variable {prog:Program} {w:World} {A:Around} {E:Value->Shared->Prop} {s:Shared}
theorem eG {l:Addr} {items:Array Value} {Q:Value->Shared->Prop} (hL:s.heap.IsTuple l items)
  (h:∀h',IsEnum h' (s.heap.objs.size + 1) s.heap.objs.size 0 .none->h'.IsTupleIter s.heap.objs.size l 0->h'.objs.size=s.heap.objs.size + 2 ->
   (∀b o,s.heap.get? b=some o->h'.get? b=some o)->Q (.ref (s.heap.objs.size + 1)) { s with heap:=h' }) :
  wpAny (model prog w) A (call (.type "enumerate") [.ref l]) Q E s:=by
 obtain ⟨⟨c,dct,dt,sl⟩,hl,hc,n,hd⟩:=hL
 replace hc:c=.type "tuple" := hc
 replace hd:dt=.seq items n:=hd
 subst hc hd
 refine callType_new F.called_enumerate (by decide) (F.typeCall_enumerate_1 _) (F.newCall_enumerate_1 _) (λ obj=>F.args_object_init_2 obj _) F.entry_enumerate_new
  (gU l items n dct sl) ⟨hl,?_⟩
 have hz:(s.heap.push { cls:=.type "tuple_iterator",data:=.fields #[.ref l,.int 0 0] }).objs.size=s.heap.objs.size + 1:=Heap.size_push ..
 show _/\_
 rw [hz]
 have he:IsEnum ((s.heap.push { cls:=.type "tuple_iterator",data:=.fields #[.ref l,.int 0 0] }).push
   { cls:=.type "enumerate",data:=.fields #[.none,.bool false,.ref s.heap.objs.size,rawInt 0,.none,.none] }) (s.heap.objs.size + 1) s.heap.objs.size 0 .none:=by
  have:=Heap.get?_push_size (s.heap.push { cls:=.type "tuple_iterator",data:=.fields #[.ref l,.int 0 0] })
   (o:={ cls:=.type "enumerate",data:=.fields #[.none,.bool false,.ref s.heap.objs.size,rawInt 0,.none,.none] }) rfl
  rw [hz] at this; exact this
 refine ⟨⟨_,he,Y⟩,h _ he ⟨_,Heap.get?_push_of_some _ (Heap.get?_push_size _ rfl),Y,Y⟩ (by rw [Heap.size_push,hz]) λ b o x=>Heap.get?_push_of_some _ (Heap.get?_push_of_some _ x)⟩
end
end PySem
set_option Elab.async false
set_option linter.all false
set_option maxRecDepth 100000
namespace L2
open PySem PySem.Spec PyProof.Rows
def Ite (f:List V->HO) (l:Addr):It :=
  ⟨λ i H=>∃xs x,H l=some (f xs)/\xs[i]? = some x,
   λ i H v H'=>∃p xs x,H p=none/\v=.ref p/\H'=upd H p (.tup [.int i,x])/\H l=some (f xs)/\xs[i]? = some x,
   λ i H=>∃xs,H l=some (f xs)/\xs.length<=i⟩
section
variable {X:Cx} {pins:List (Addr×Obj)} {σ:St} {H:Hp} {s:Shared}
theorem iD {f:List V->HO} {tn:Nat->Heap->Prop} {es:List Expr} {kk:Nat} {tp:Pos} {e it l:Addr} {i:Nat} {xs:List V} {x:V} {u:Value} {tk:Nat} {h':Heap} {E:Value->Shared->Prop} (hne:e≠it) (I:Inv X pins σ H s) (hf:∀b∈[e,it],eM X pins H b) (hl:H l=some (f xs)) (hx:xs[i]? = some x)
  (ho:∀b∈[e, it], b < s.heap.objs.size) (r:RelV x u) (b1:IsEnumOut h' e it ((i:Int) + 1) u s.heap.objs.size) (b3:h'.get? s.heap.objs.size=some { cls:=.type "tuple", data:=.seq #[.int i tk, u] })
  (bk:∀b o,b≠e->b≠it->s.heap.get? b=some o->h'.get? b=some o) (hn:∀h'',IsEnum h'' e it ((i + 1:Nat):Int) u->Heap.SameBut e h' h''->tn (i + 1) h'') :
  wpAny (model X.prog X.w) X.A (letOwnedTupleGo (.Tuple es kk tp) (.ref e) (.ref s.heap.objs.size)) (λ _ s2=>∃x H',Inv X pins σ H' s2/\RelV x (.ref s.heap.objs.size)/\(Ite f l).yld i H x H'/\tn (i + 1) s2.heap/\∀b∈[e,it],H' b=none) E { s with heap:=h',toks:=tk + 1 }:=by
 refine wpAny_letOwnedTupleGo_enum b1 λ h'' c1 cs=>?_
 have es':e < s.heap.objs.size:=ho e (by simp)
 have k2:∀b o,b∉[e,it]->s.heap.get? b=some o->h''.get? b=some o:=λ b o hb q=>by
  simp only [List.mem_cons,List.not_mem_nil,or_false,not_or] at hb
  exact cs.extBut b o hb.1 (bk b o hb.1 hb.2 q)
 have I1:Inv X pins σ H { s with heap:=h'',toks:=tk + 1 }:=I.turnedN (t':=tk + 1) hf k2
 have hp:h''.get? s.heap.objs.size=some { cls:=.type "tuple", data:=.seq #[.int i tk, u] }:=cs.extBut _ _ (Nat.ne_of_gt es') b3
 have hn0:H s.heap.objs.size=none:=I.hok.fresh (Nat.le_refl _)
 have fpk:=I.fpOk (H':=H) (Nat.le_refl _) hn0
 have I2:Inv X pins σ (upd H s.heap.objs.size (.tup [.int i,x])) { s with heap:=h'',toks:=tk + 1 }:=I1.track fpk I.sz ⟨by show 2<=sizeLine; decide,[.int i tk,u],.cons ⟨tk,Y⟩ (.cons r .nil),_,hp,Y,_,Y⟩
 refine ⟨.ref s.heap.objs.size,_,I2,Y,⟨_,xs,x,hn0,Y,Y,hl,hx⟩,hn h'' c1 cs,λ b hb=>?_⟩
 rw [au (Nat.ne_of_lt (ho b hb))]
 exact (hf b hb).1
end
theorem lB {P:Program} {w:World} {K:PySem.W.Frag} {es:List Expr} {kk:Nat} {tp:Pos} (l e it:Addr) (hne:e≠it) :
  Turn P w K (.Tuple es kk tp) (Ite .lst l) [e,it] e (λ i h=>(∃old,IsEnum h e it i old)/\h.IsListIter it l i) where
 mem:=by simp
 obj:=λ i h st b hb=>by
  obtain ⟨⟨old,a1⟩,⟨o2,a2,_,d2⟩⟩:=st
  simp only [List.mem_cons,List.not_mem_nil,or_false] at hb
  rcases hb with rfl | rfl
  ·exact ⟨_,a1,λ v q=>by cases q⟩
  ·exact ⟨_,a2,λ v q=>by rw [d2] at q; cases q⟩
 keep:=λ i h h' st k=>by
  obtain ⟨⟨old,a1⟩,a2⟩:=st
  exact ⟨⟨old,k e (by simp) _ a1⟩,a2.at λ o q=>k it (by simp) o q⟩
 item:=by
  intro X hP hw hK hc i pins s σ H E I hf st hg
  subst hP hw hK
  obtain ⟨⟨old,a1⟩,a2⟩:=st
  obtain ⟨xs,x,e1,ex⟩:=hg
  obtain ⟨its,rv,p1,_⟩:=I.list (SqL.of e1)
  obtain ⟨u,hu,r⟩:=rv.get ex
  have ho:∀b∈[e,it],b < s.heap.objs.size:=λ b hb=>by
   obtain ⟨o2,a2',_⟩:=a2
   simp only [List.mem_cons,List.not_mem_nil,or_false] at hb
   rcases hb with rfl | rfl
   ·exact Heap.lt_size a1
   ·exact Heap.lt_size a2'
  refine wpAny_pyNext_enum_item a1 a2 p1.isList (x:=u) (by simpa using hu) hne λ h' b1 b2 b3 b4 bk=>⟨_,Y,?_⟩
  exact iD (tn:=λ i h=>(∃old,IsEnum h e it i old)/\h.IsListIter it l i) hne I hf e1 ex ho r b1 b3 bk λ h'' c1 cs=>⟨⟨u,c1⟩,b2.extBut cs.extBut (Ne.symm hne)⟩
 done:=by
  intro X hP hw hK hc i pins s σ H E I hf st hg
  subst hP hw hK
  obtain ⟨⟨old,a1⟩,a2⟩:=st
  obtain ⟨xs,e1,ex⟩:=hg
  obtain ⟨its,rv,p1,_⟩:=I.list (SqL.of e1)
  have lv:=rv.length
  refine wpAny_pyNext_enum_end (I.ok.hd hc) a1 a2 p1.isList (by simp; omega) λ h' bk=>⟨Y,?_⟩
  exact I.turnedN (t':=s.toks) hf λ b o hb q=>by
   simp only [List.mem_cons,List.not_mem_nil,or_false,not_or] at hb
   exact bk b o hb.2 q
 self:=λ _ _ _ _ _ st h=>by obtain ⟨⟨old,a1⟩,_⟩:=st; exact wpAny_pyIter_enum a1 h
theorem lC {P:Program} {w:World} {K:PySem.W.Frag} {es:List Expr} {kk:Nat} {tp:Pos} (l e it:Addr) (hne:e≠it) :
  Turn P w K (.Tuple es kk tp) (Ite .tup l) [e,it] e (λ i h=>(∃old,IsEnum h e it i old)/\h.IsTupleIter it l i) where
 mem:=by simp
 obj:=λ i h st b hb=>by
  obtain ⟨⟨old,a1⟩,⟨o2,a2,_,d2⟩⟩:=st
  simp only [List.mem_cons,List.not_mem_nil,or_false] at hb
  rcases hb with rfl | rfl
  ·exact ⟨_,a1,λ v q=>by cases q⟩
  ·exact ⟨_,a2,λ v q=>by rw [d2] at q; cases q⟩
 keep:=λ i h h' st k=>by
  obtain ⟨⟨old,a1⟩,a2⟩:=st
  exact ⟨⟨old,k e (by simp) _ a1⟩,a2.at λ o q=>k it (by simp) o q⟩
 item:=by
  intro X hP hw hK hc i pins s σ H E I hf st hg
  subst hP hw hK
  obtain ⟨⟨old,a1⟩,a2⟩:=st
  obtain ⟨xs,x,e1,ex⟩:=hg
  obtain ⟨its,rv,p1,_⟩:=I.tuple (SqT.of e1)
  obtain ⟨u,hu,r⟩:=rv.get ex
  have lt:i < its.toArray.size:=by simp; exact (List.getElem?_eq_some_iff.mp hu).1
  have ho:∀b∈[e,it],b < s.heap.objs.size:=λ b hb=>by
   obtain ⟨o2,a2',_⟩:=a2
   simp only [List.mem_cons,List.not_mem_nil,or_false] at hb
   rcases hb with rfl | rfl
   ·exact Heap.lt_size a1
   ·exact Heap.lt_size a2'
  have nl:∀b∈[e,it],l≠b:=λ b hb q=>by rw [q,(hf b hb).1] at e1; cases e1
  have p1':s.heap.IsTuple l its.toArray:=p1
  have DD:Draws X.prog X.w X.A.in1 it [it,l] its.toArray.size (λ i v=>its.toArray[i]? = some v) (λ i h=>h.IsTupleIter it l i/\h.IsTuple l its.toArray):=qI (show X.A.in1.handled=none from I.ok.hd hc) it l (nl it (by simp)) its.toArray
  refine wpAny_pyNext_enum_itemD DD a1 ⟨a2,p1'⟩ lt hne (by simp only [List.mem_cons,List.not_mem_nil,or_false,not_or]; exact ⟨hne,Ne.symm (nl e (by simp))⟩) λ x' h' tk px b1 b2 b3 b4 bk=>⟨_,Y,?_⟩
  have hu':its.toArray[i]? = some u:=by simpa using hu
  have eu:u=x':=Option.some.inj (hu'.symm.trans px)
  subst eu
  exact iD (tn:=λ i h=>(∃old,IsEnum h e it i old)/\h.IsTupleIter it l i) hne I hf e1 ex ho r b1 b3 bk λ h'' c1 cs=>⟨⟨u,c1⟩,b2.1.extBut cs.extBut (Ne.symm hne)⟩
 done:=by
  intro X hP hw hK hc i pins s σ H E I hf st hg
  subst hP hw hK
  obtain ⟨⟨old,a1⟩,a2⟩:=st
  obtain ⟨xs,e1,ex⟩:=hg
  obtain ⟨its,rv,p1,_⟩:=I.tuple (SqT.of e1)
  have lv:=rv.length
  have p1':s.heap.IsTuple l its.toArray:=p1
  have hT:s.TypeIs (.ref e) "enumerate" := ⟨_,a1,Y⟩
  unfold pyNext
  refine wpAny_bind (wpAny_attempt (wpAny_callSpecial?_slot (name:=Str.ofString "__next__") hT F.slot_enumerate_next
   (wpAny_call_entry F.slot_enumerate_next hT F.entry_enumerate_next ?_ (F.args_enumerate_next_1 _))))
  show wpAny _ _ (field (.ref e) 2 >>= _) _ _ _
  refine wpAny_bind (wpAny_field a1 rfl (x:=.ref it) rfl ?_)
  refine wpAny_bind (dD (I.ok.hd hc) a2 p1' (by simp; omega) λ h' x he' hx'=>?_)
  obtain ⟨o,ho,hc⟩:=hx'
  refine wpAny_bind (wpAny_isInstance (T := "StopIteration") (b:=true) ⟨o,ho,hc⟩ isSubtype_stop ?_)
  refine wpAny_pure ⟨rfl,?_⟩
  exact I.turnedN (t':=s.toks) hf λ b o hb q=>by
   simp only [List.mem_cons,List.not_mem_nil,or_false,not_or] at hb
   exact he' b o hb.2 q
 self:=λ _ _ _ _ _ st h=>by obtain ⟨⟨old,a1⟩,_⟩:=st; exact wpAny_pyIter_enum a1 h
def yh (ta:TA):TI:=λ σ H R=>ta σ H λ vs H1=>∃l xs,vs=[.ref l]/\((H1 l=some (.lst xs)/\R (Ite .lst l) H1)\/(H1 l=some (.tup xs)/\R (Ite .tup l) H1))
theorem tP {X:Cx} {a:Expr} {ta:TA} {p pos tp:Pos} {es:List Expr} {kk:Nat} (hg:Gl X "enumerate") (hm:X.mg "enumerate" = none) (ha:PA X [a] ta)
  (hs:starEach [a] X.env=[(false,eval a X.env)]:=by rfl) :
  PI X (.Tuple es kk tp) (.Call (.Name "enumerate" p) [a] [] pos) (yh ta):=by
 intro pins s σ H R I h
 refine Call_ (fk I hg hm PyProof.Rows.boot_enumerate (PyProof.Rows.callWith_type1 (thn (ha pos pins s σ H _ I h) λ us s1 ⟨vs,H1,I1,r1,q1⟩=>?_) (by rw [hs]; rfl) (by rfl)))
 obtain ⟨l,xs,rfl,q⟩:=q1
 cases r1 with
 | cons r rr =>
  cases rr
  cases r
  rcases q with ⟨e1,q⟩ | ⟨e1,q⟩
  ·obtain ⟨its1,rv1,p1,_⟩:=I1.list (SqL.of e1)
   refine call_enumerate_list p1.isList λ h' z1 z2 sz keep=>?_
   have I2:Inv X pins σ H1 { s1 with heap:=h' }:=I1.kept (t':=s1.toks) keep
   refine wpAny_pyIter_enum z1 ⟨s1.heap.objs.size + 1,[s1.heap.objs.size + 1,s1.heap.objs.size],_,_,H1,rfl,I2,lB l _ _ (Nat.succ_ne_self _),⟨⟨_,z1⟩,z2⟩,λ b hb=>?_,q⟩
   have hb':s1.heap.objs.size<=b:=by
    simp only [List.mem_cons,List.not_mem_nil,or_false] at hb
    rcases hb with rfl | rfl <;> omega
   exact I1.fpOk hb' (I1.hok.fresh hb')
  ·obtain ⟨its1,rv1,p1,_⟩:=I1.tuple (SqT.of e1)
   have p1':s1.heap.IsTuple l its1.toArray:=p1
   refine eG p1' λ h' z1 z2 sz keep=>?_
   have I2:Inv X pins σ H1 { s1 with heap:=h' }:=I1.kept (t':=s1.toks) keep
   refine wpAny_pyIter_enum z1 ⟨s1.heap.objs.size + 1,[s1.heap.objs.size + 1,s1.heap.objs.size],_,_,H1,rfl,I2,lC l _ _ (Nat.succ_ne_self _),⟨⟨_,z1⟩,z2⟩,λ b hb=>?_,q⟩
   have hb':s1.heap.objs.size<=b:=by
    simp only [List.mem_cons,List.not_mem_nil,or_false] at hb
    rcases hb with rfl | rfl <;> omega
   exact I1.fpOk hb' (I1.hok.fresh hb')
theorem qJ {f:List V->HO} (hf:∀xs ys,f xs=f ys->xs=ys) {l:Addr} {xs:List V} {g:TG} {tb:TS} {D:Ends} {σ:St} {H:Hp} (Pv:Nat->St->Hp->Prop) (h0:Pv 0 σ H) (hk:∀i σ H',Pv i σ H'->H' l=some (f xs))
  (ht:∀i x p σ H,xs[i]? = some x->H p=none->Pv i σ H->g (.ref p) σ (upd H p (.tup [.int i,x])) λ σ2 H2=>tb { D with nx:=Pv (i + 1),ct:=Pv (i + 1),bk:=D.nx } σ2 H2) (hd:∀σ H,Pv xs.length σ H->D.nx σ H) :
  ∃W:Nat->Nat->St->Hp->Prop,(∃m,W 0 m σ H)/\∀i m σ H,W i m σ H ->
   ((Ite f l).stop i H/\D.nx σ H)\/((Ite f l).go i H/\∃N:St->Hp->Prop,(∀σ' H',N σ' H'->∃m',m' < m/\W (i + 1) m' σ' H')/\∀x H',(Ite f l).yld i H x H'->g x σ H' λ σ2 H2=>tb { D with nx:=N,ct:=N,bk:=D.nx } σ2 H2):=by
 refine ⟨λ i m σ H=>m=xs.length - i/\i<=xs.length/\Pv i σ H,⟨xs.length,by simp,Nat.zero_le _,h0⟩,?_⟩
 rintro i m σ H ⟨rfl,hi,p⟩
 have e1:=hk i σ H p
 by_cases hlt:i < xs.length
 ·refine .inr ⟨⟨xs,xs[i],e1,by simp [hlt]⟩,Pv (i + 1),λ σ' H' p'=>⟨xs.length - (i + 1),by omega,Y,hlt,p'⟩,λ v H' y=>?_⟩
  obtain ⟨q,xs',x,hq,rfl,rfl,e1',ex⟩:=y
  rw [e1] at e1'
  cases hf _ _ (Option.some.inj e1')
  exact ht i x q σ H ex hq p
 ·have e:i=xs.length:=by omega
  subst e
  exact .inl ⟨⟨xs,e1,Nat.le_refl _⟩,hd σ H p⟩
end L2
set_option Elab.async false
set_option linter.all false
set_option maxRecDepth 100000
namespace Pc
open PySem L2
def bo (k:Kd):Bool:=k.tu && !decide (k.w=k.h)
def lyT (i:Nat) (k:Kd):List (Nat×Bool):=(i,false) :: if bo k=true then [(i,true)] else []
def lyK:List Kd->Nat->List (Nat×Bool)
 | [],_=>[]
 | k :: r,i=>lyT i k ++ lyK r (i + 1)
theorem jV (k:Kd):∀ (ks:List Kd) (i:Nat),lyK (ks ++ [k]) i=lyK ks i ++ lyT (i + ks.length) k
 | [],i=>by simp [lyK]
 | c :: r,i=>by
  show lyT i c ++ lyK (r ++ [k]) (i + 1)=(lyT i c ++ lyK r (i + 1)) ++ _
  rw [jV k r (i + 1),List.append_assoc]
  congr 2
  simp only [List.length_cons]
  congr 1
  omega
theorem tQ (i:Nat) (k:Kd):(lyT i k).length<=2:=by unfold lyT; split <;> simp
theorem ji:∀ (ks:List Kd) (i:Nat),(lyK ks i).length<=2 * ks.length
 | [],i=>by simp [lyK]
 | c :: r,i=>by
  have:=ji r (i + 1)
  have:=tQ i c
  simp only [lyK,List.length_append,List.length_cons]
  omega
def gW (K:PySem.W.Frag):Sp:=λ vs H Q _=>∃ (a:Addr) (k:Kd),vs=[.ref a]/\H a=some (.tup (kdV k))/\Q (.bl (bo k)) H
def dZ (ks:List Kd) (x t:V):Bool:=match x,t with
 | .int i,.bl b=>decide (0<=i) && match ks[i.toNat]? with
  | some k=>!b || bo k
  | none=>false
 | _,_=>false
def dR (K:PySem.W.Frag) (C:Addr):Sp:=λ vs H Q _=>∃ (s:Addr) (b:Int) (ks:List Kd) (x t:V) (T U:String),vs=[.ref s,x,t]/\ShopAt C H s b ks/\Ty K H x T/\Ty K H t U/\Q (.bl (dZ ks x t)) H
end Pc
set_option Elab.async false
set_option linter.all false
set_option maxRecDepth 100000
namespace L2
open PySem PySem.Spec PyProof.Rows
section
variable {X:Cx}
theorem qK {k:Nat} {C:Addr} {ps:List Str} {sp:Sp} {m:Str} {o:Expr} {e:Expr} {es:List Expr} {ta:TE} {t:TA} {apos pos:Pos} {pl:Sem Bool} (he:PE X o ta) (c:Cls X.K C) (D:Mn X.prog X.w X.K X.mg X.base C m ps k sp) (hr:Room k X.A) (ha:PA X (e :: es) t)
  (hst:starEach (e :: es) X.env=(false,eval e X.env) :: starEach es X.env:=by rfl) (hpl:(backTo pos (starEach es X.env)).any (·.1)=false:=by rfl)
  (ht:eval (.Call (.Attribute o m apos) (e :: es) [] pos) X.env=(do
   let ov<-eval o X.env
   standAt apos.atName
   let (f,first)<-holding [ov] (getMethod ov m pl)
   callWith pos f first (backTo pos (starEach (e :: es) X.env)) (backToKw pos (keywordEach [] X.env))):=by rfl):PE X (.Call (.Attribute o m apos) (e :: es) [] pos) (mn C m sp [] E0 ta t):=by
 obtain ⟨f,fd,F,hb,hm⟩:=D
 exact tG he c hm F hr hb .nil mt ha hst hpl ht
end
end L2
set_option Elab.async false
set_option linter.all false
set_option maxRecDepth 100000
namespace L2
open PySem PySem.Spec PyProof.Rows
section
variable {X:Cx}
theorem qL:OpR X (binaryOp .Add) (λ x y H Q=>∃a b ys,x=.ref a/\y=.ref b/\SqT X.K H a []/\SqT X.K H b ys/\Q (.ref b) H):=by
 intro pins s σ H x y v u Q I rx ry h
 obtain ⟨a,b,ys,rfl,rfl,ha,hb,q⟩:=h
 cases rx
 cases ry
 obtain ⟨its,r1,p1,_⟩:=I.tuple ha
 obtain ⟨its2,r2,p2,_⟩:=I.tuple hb
 cases r1
 obtain ⟨⟨cls,dd,data,sl⟩,ho,hc,n,hd⟩:=p1
 obtain ⟨⟨cls2,dd2,data2,sl2⟩,ho2,hc2,n2,hd2⟩:=p2
 simp only at hc hd hc2 hd2
 subst hc hd hc2 hd2
 exact concat_meets ⟨_,ho,rfl⟩ ⟨_,ho2,rfl⟩ noFill_tuple_add seq_tuple_add PySem.F.slot_tuple_add PySem.F.entry_tuple_add (PySem.F.args_tuple_add_2 _ _)
   (tuple_addW0 a b _ _ n n2 dd dd2 sl sl2 rfl) ⟨ho,ho2,⟨.ref b,H,I,rfl,q⟩⟩
end
end L2
set_option Elab.async false
set_option linter.all false
set_option maxRecDepth 100000
namespace L2
open PySem PySem.Spec PyProof.Rows
section
variable {X:Cx}
def yi:R2:=λ x y H Q=>∃a b xs ys,x=.ref a/\y=.ref b/\H a=some (.tup xs)/\H b=some (.tup ys)/\xs.length + ys.length<=sizeLine /\
 ∀m H',(H'=H/\(m=a\/m=b))\/(H m=none/\H'=upd H m (.tup (xs ++ ys)))->H' m=some (.tup (xs ++ ys))->Q (.ref m) H'
theorem mB:OpR X (binaryOp .Add) yi:=by
 intro pins s σ H x y v u Q I rx ry h
 obtain ⟨a,b,xs,ys,rfl,rfl,ha,hb,hz,q⟩:=h
 by_cases hx:xs=[]
 ·subst hx
  exact qL pins s σ H _ _ v u Q I rx ry ⟨a,b,ys,rfl,rfl,SqT.of ha,SqT.of hb,q b H (.inl ⟨rfl,.inr rfl⟩) hb⟩
 ·refine jb pins s σ H _ _ v u Q I rx ry ⟨a,b,xs,ys,rfl,rfl,SqT.of ha,SqT.of hb,hx,hz,λ e=>?_,λ e p hp=>q p _ (.inr ⟨hp,rfl⟩) af⟩
  subst e
  exact q a H (.inl ⟨Y,.inl rfl⟩) (by rw [List.append_nil]; exact ha)
end
end L2
set_option Elab.async false
set_option linter.all false
set_option maxRecDepth 100000
namespace L2
open PySem PySem.Spec PyProof.Rows
theorem mC:∀ {ns:List Int} {its:List Value},Vals (ns.map V.int) its->IntsAre its ns
 | [],_,r=>by cases r; exact .nil
 | n :: ns,_,r=>by
  cases r with
  | cons r1 r2 =>
   obtain ⟨t,e⟩:=r1
   subst e
   exact .cons n t (mC r2)
section
variable {X:Cx}
theorem iE (hc:X.calm=true):cj X (.builtin "sum") (λ xs H Q=>∃ (p:Addr) (ns:List Int),xs=[.ref p]/\SqL X.K H p (ns.map V.int)/\Q (.int ns.sum) H):=by
 intro pins s σ H xs us Q I r h
 obtain ⟨p,ns,rfl,hs,q⟩:=h
 obtain ⟨u,rfl,rfl⟩:=ek r
 obtain ⟨its,rv,pl,_⟩:=I.list hs
 have hi:=mC rv
 obtain ⟨xs,e⟩:=hi.allInts.items
 have pl':=pl.isList
 rw [e] at pl'
 refine sum_intListG (I.ok.hd hc) pl' λ h' tk t' hk=>?_
 have e2:preSum (numAt xs) xs.size=ns.sum:=by
  rw [preSum_eq,List.take_of_length_le (by simp),<- nums_intItems,<- e,show its.toArray.toList=its from rfl,hi.numsOf]
 rw [e2]
 exact ⟨.int ns.sum,H,I.kept hk,⟨_,Y⟩,q⟩
theorem jW:∀ {bs:List Bool} {its:List Value},Vals (bs.map V.bl) its->its=bs.map Value.bool
 | [],_,r=>by cases r; rfl
 | b :: bs,_,r=>by
  cases r with
  | cons r1 r2 =>
   have e:_=Value.bool b:=r1
   subst e
   rw [List.map_cons,jW r2]
theorem nO (bs:List Bool):(List.range bs.length).all (λ i=>bs.getD i false)=bs.all id:=by
 rw [Bool.eq_iff_iff,List.all_eq_true,List.all_eq_true]
 constructor
 ·intro h b hb
  obtain ⟨i,hi,e⟩:=List.getElem_of_mem hb
  have:=h i (List.mem_range.mpr hi)
  rw [List.getD_eq_getElem?_getD,List.getElem?_eq_getElem hi] at this
  simpa [e] using this
 ·intro h i hi
  have hi':=List.mem_range.mp hi
  rw [List.getD_eq_getElem?_getD,List.getElem?_eq_getElem hi']
  exact h _ (List.getElem_mem hi')
theorem nP (hc:X.calm=true):cj X (.builtin "all") (λ xs H Q=>∃ (p:Addr) (bs:List Bool),xs=[.ref p]/\SqL X.K H p (bs.map V.bl)/\Q (.bl (bs.all id)) H):=by
 intro pins s σ H xs us Q I r h
 obtain ⟨p,bs,rfl,hs,q⟩:=h
 obtain ⟨u,rfl,rfl⟩:=ek r
 obtain ⟨its,rv,pl,_⟩:=I.list hs
 have e:=jW rv
 subst e
 have hlt:p < s.heap.objs.size:=by obtain ⟨_,_,e,_⟩:=pl; exact Heap.lt_size e
 refine call_all_walk (wpAny_pyIter_list pl.isList ?_)
 refine ⟨_,_,_,_,_,_,λ i=>bs.getD i false,Y,Walks.list (A:=X.A.in1) (I.ok.hd hc) _ p (Nat.ne_of_lt hlt) _,⟨⟨_,Heap.get?_push_size _ rfl,Y,Y⟩,pl.isList.push _⟩,λ i v s' Q' E' hP hQ'=>?_,λ h' tk hk=>?_⟩
 ·have hP':(bs.map Value.bool)[i]? = some v:=by simpa using hP
  rw [List.getElem?_map] at hP'
  cases hb:bs[i]? with
  | none=>rw [hb] at hP'; cases hP'
  | some b =>
   rw [hb] at hP'
   cases hP'
   have hQ2:Q' (bs.getD i false) s':=hQ'
   rw [List.getD_eq_getElem?_getD,hb] at hQ2
   exact wpAny_truthy_bool hQ2
 ·have e2:((bs.map Value.bool).toArray.size)=bs.length:=by simp
  rw [e2,nO]
  refine ⟨.bl (bs.all id),H,I.kept (h':=h') (t':=tk) (λ b o e=>hk b o ?_ (Heap.get?_push_of_some _ e)),Y,q⟩
  intro z
  rw [List.mem_singleton.mp z] at e
  exact absurd (Heap.lt_size e) (Nat.lt_irrefl _)
end
end L2
set_option Elab.async false
set_option linter.all false
set_option maxRecDepth 100000
namespace L2
open PySem PySem.Spec PyProof.Rows
theorem aR {α:Type} {xs:List α} {i:Int} {v:α} (h0:0<=i) (h:xs[i.toNat]? = some v):atI xs i=some v:=by
 have e:i=((i.toNat:Nat):Int):=by omega
 have z:atI xs ((i.toNat:Nat):Int)=some v:=tJ h
 rw [<- e] at z; exact z
end L2
namespace Pc
open PySem L2
def lD (K:PySem.W.Frag):Sp:=λ vs H Q _=>∃ (a:Addr) (ns:List Int) (n:Int),vs=[.ref a,.int n]/\SqL K H a (ns.map V.int)/\0<=n/\∀c:Int,Q (.int c) H
end Pc
set_option Elab.async false
set_option linter.all false
set_option maxRecDepth 100000
namespace L2
open PySem
theorem Room.units66 {k:Nat} {A:Around} (r:Room k A):A.units + 66 < cLine:=by have:=r.un; omega
end L2
namespace Pc
open PySem L2
def Short (i:Int):Prop:=i.natAbs < 10 ^ 62
theorem Short.log {i:Int} (h:Short i):i.natAbs.log2 < 1920:=by
 unfold Short at h
 rcases Nat.eq_zero_or_pos i.natAbs with h0 | hp
 ·rw [h0]; decide
 ·refine (Nat.log2_lt (Nat.ne_of_gt hp)).mpr (Nat.lt_trans h ?_)
  decide +kernel
theorem Short.len {i:Int} (h:Short i):(PyData.shown (.int i)).length<=63:=by
 show (Str.ofString (toString i)).length<=63
 rw [ofString_length]
 exact int_text_length_le10 (by decide) h
end Pc
set_option Elab.async false
set_option linter.all false
set_option maxRecDepth 100000
namespace L2
open PySem PySem.Spec PyProof.Rows
theorem qM {X:Cx} (K:PySem.W.Frag) {x y:Str} {px py pos:Pos} {k:Nat} (hK:X.K=K) (hc:X.calm=true) (hN:X.N.Nodup) (h0:X.N[0]? = some x) (h1:X.N[1]? = some y) (l0:X.env.scope.names.lookup x=some .local) (l1:X.env.scope.names.lookup y=some .local) :
  PG X (.Tuple [.Name x px,.Name y py] k pos) (gTup K 2 (gCons (gG 0) (gCons (gG 1) vp))) :=
 hK ▸ aX hc (ah (ai hN h0 (.inl l0) (.inr l0)) (ah (ai hN h1 (.inl l1) (.inr l1)) aK))
end L2
set_option Elab.async false
set_option linter.all false
set_option maxRecDepth 100000
namespace PyProof.Rows
set_option autoImplicit false
open PySem
structure SBaseT (κ0:SortKind) (a₀:Array Keyed) (st:SortSt):Prop where
 perm:(arrOf st).Perm a₀
 kind:kindOf st=κ0
 failed:failedOf st=none
 pend:pendingOf st=#[]
theorem SBaseT.size {κ0:SortKind} {a₀:Array Keyed} {st:SortSt} (h:SBaseT κ0 a₀ st):(arrOf st).size=a₀.size:=h.perm.size_eq
theorem SBaseT.setArr {κ0:SortKind} {a₀:Array Keyed} {st:SortSt} (h:SBaseT κ0 a₀ st) {xs:Array Keyed} (hp:xs.Perm (arrOf st)):SBaseT κ0 a₀ (setArr st xs) :=
 ⟨hp.trans h.perm,h.kind,h.failed,h.pend⟩
theorem SBaseT.atK {κ:KeyKind} {κ0:SortKind} {a₀:Array Keyed} {st:SortSt} (h:SBaseT κ0 a₀ st) (h0:KeysOf κ a₀) {i:Nat} (hi:i < a₀.size) :
  ∃x p a,(arrOf st)[i]? = some (x,p)/\κ.keyOf x=some a/\KK κ (arrOf st) i=a:=by
 have hi':i < (arrOf st).size:=by rw [h.size]; exact hi
 have hm:(arrOf st)[i]∈a₀.toList:=(Array.perm_iff_toList_perm.mp h.perm).mem_iff.mp (by simp)
 obtain ⟨a,ha⟩:=h0 _ hm
 have e:(arrOf st)[i]? = some (arrOf st)[i]:=getElem?_pos _ i hi'
 refine ⟨(arrOf st)[i].1,(arrOf st)[i].2,a,by rw [e],ha,?_⟩
 unfold KK; rw [e]; simp [ha]
def bO (prog:Program) (w:World) (A:Around) (s:Shared) (κ0:SortKind) (κ:KeyKind):Prop :=
 ∀ (E:Value->Shared->Prop) (x y:Value) (a b:κ.α) (Q:Bool->Shared->Prop),κ.keyOf x=some a->κ.keyOf y=some b->Q (κ.blt a b) s->wpAny (model prog w) A (keyLt' κ0 x y) Q E s
section
variable {prog:Program} {w:World} {A:Around} {E:Value->Shared->Prop} {s:Shared} {a₀:Array Keyed} {κ:KeyKind} {κ0:SortKind}
theorem lE (hO:bO prog w A s κ0 κ) {st:SortSt} {i j:Nat} {x y:Value} {a b:κ.α} {p q:Value} {Q:Option Bool->SortSt->Prop} (hk:kindOf st=κ0)
  (hi:(arrOf st)[i]? = some (x,p)) (hj:(arrOf st)[j]? = some (y,q)) (ha:κ.keyOf x=some a) (hb:κ.keyOf y=some b) (h:Q (some (κ.blt a b)) st) :
  wpS (model prog w) A E s (ltAt' i j) Q st:=by
 rw [ltAt'_eq]
 refine wpS_bind (wpS_get ?_)
 show wpS _ _ _ _ (do let x<-elem' (arrOf st) i; let y<-elem' (arrOf st) j; lt' x y) Q st
 rw [elem'_eq,elem'_eq,hi,hj]
 refine wpS_bind (wpS_pure (wpS_bind (wpS_pure ?_)))
 rw [lt'_eq]
 refine wpS_bind (wpS_get ?_)
 rw [hk]
 refine wpS_bind (wpS_lift (wpAny_attempt (hO _ x y a b _ ha hb ⟨rfl,?_⟩)))
 exact wpS_pure h
theorem cR {st:SortSt} {i j:Nat} {Q:Option Bool->SortSt->Prop} (hO:bO prog w A s κ0 κ) (hB:SBaseT κ0 a₀ st) (h0:KeysOf κ a₀) (hi:i < a₀.size) (hj:j < a₀.size)
  (h:Q (some (κ.blt (KK κ (arrOf st) i) (KK κ (arrOf st) j))) st):wpS (model prog w) A E s (ltAt' i j) Q st:=by
 obtain ⟨x,p,a,e1,ha,ka⟩:=hB.atK h0 hi
 obtain ⟨y,q,b,e2,hb,kb⟩:=hB.atK h0 hj
 rw [ka,kb] at h
 exact lE hO hB.kind e1 e2 ha hb h
theorem fH {st:SortSt} {n ok:Nat} {Q:Bool->SortSt->Prop} (hO:bO prog w A s κ0 κ) (h0:KeysOf κ a₀) (hn:n<=a₀.size) (hok:ok<=n) (hB:SBaseT κ0 a₀ st) (hs:SortedToK κ (arrOf st) ok)
  (h:∀st',SBaseT κ0 a₀ st'->SortedToK κ (arrOf st') n->Q true st'):wpS (model prog w) A E s (binarySort' 0 n ok) Q st:=by
 rw [binarySort'_eq]
 simp only [Nat.zero_add]
 refine wpS_bind (wpS_mono (wpS_forRange (I:=λ k c st'=>c=(none,())/\SBaseT κ0 a₀ st'/\SortedToK κ (arrOf st') (min k n))
  (Q:=λ c st'=>c=(none,())/\SBaseT κ0 a₀ st'/\SortedToK κ (arrOf st') n) ?step ?fin ?init) ?post)
 case post =>
  rintro c st' ⟨rfl,hB',hs'⟩
  exact wpS_pure (h st' hB' hs')
 case init =>
  refine ⟨Y,hB,λ i j hij hj=>?_⟩
  by_cases h1:ok=0
  ·have:i=j:=by omega
   subst this; exact KeyOrd.kle_refl _
  ·exact hs i j hij (by omega)
 case fin =>
  rintro c st' ⟨hc,hB',hs'⟩
  refine ⟨hc,hB',?_⟩
  rwa [show min (max (max ok 1) n) n=n by omega] at hs'
 case step =>
  rintro k c st' hak hkn ⟨rfl,hB',hs'⟩
  rw [show min k n=k by omega] at hs'
  have hk:k < a₀.size:=by omega
  refine wpS_bind (wpS_mono (wpS_forRange (I:=λ x c st''=>st''=st'/\∃l r,c=(none,l,r)/\l<=r/\r<=k/\r - l<=k - x /\
    (∀i,i < l->κ.kle (KK κ (arrOf st') i) (KK κ (arrOf st') k))/\(∀i,r<=i->i < k->κ.klt (KK κ (arrOf st') k) (KK κ (arrOf st') i)))
   (Q:=λ c st''=>st''=st'/\∃l r,c=(none,l,r)/\l<=k /\
    (∀i,i < l->κ.kle (KK κ (arrOf st') i) (KK κ (arrOf st') k))/\(∀i,l<=i->i < k->κ.klt (KK κ (arrOf st') k) (KK κ (arrOf st') i))) ?istep ?ifin ?iinit) ?ipost)
  case iinit=>exact ⟨Y,0,k,Y,by omega,by omega,by omega,λ i hi=>by omega,λ i h1 h2=>by omega⟩
  case ifin =>
   rintro c st'' ⟨rfl,l,r,rfl,hlr,hrk,hm,hlo,hhi⟩
   have:l=r:=by omega
   subst this
   exact ⟨Y,l,l,Y,hrk,hlo,hhi⟩
  case istep =>
   rintro x c st'' _ hxk ⟨rfl,l,r,rfl,hlr,hrk,hm,hlo,hhi⟩
   dsimp only
   by_cases hge:l≥r
   ·rw [if_pos hge]
    have:l=r:=by omega
    subst this
    exact wpS_pure ⟨rfl,l,l,rfl,hrk,hlo,hhi⟩
   ·rw [if_neg hge]
    refine wpS_bind (cR hO hB' h0 hk (by omega) ?_)
    cases hless:κ.blt (KK κ (arrOf st'') k) (KK κ (arrOf st'') ((l + r) / 2))
    case true =>
     simp only [if_true]
     refine wpS_pure ⟨rfl,l,(l + r) / 2,rfl,by omega,by omega,by omega,hlo,λ i h1 h2=>?_⟩
     exact KeyOrd.klt_of_klt_of_kle hless (hs' _ _ h1 h2)
    case false =>
     simp only [Bool.false_eq_true,if_false]
     refine wpS_pure ⟨rfl,(l + r) / 2 + 1,r,rfl,by omega,by omega,by omega,λ i h1=>?_,hhi⟩
     exact KeyOrd.kle_trans (hs' i ((l + r) / 2) (by omega) (by omega)) (show κ.kle _ _ from hless)
  case ipost =>
   rintro c st'' ⟨rfl,l,r,rfl,hlk,hlo,hhi⟩
   show wpS _ _ _ _ (do moveDown' k l; pure (ForInStep.yield (none,()))) _ _
   rw [moveDown'_eq]
   refine wpS_bind (wpS_modify (wpS_pure ⟨rfl,hB'.setArr (bubble_perm _ _ _),?_⟩))
   rw [show min (k + 1) n=k + 1 by omega]
   have hks:k < (arrOf st'').size:=by rw [hB'.size]; exact hk
   intro i j hij hj
   show κ.kle (KK κ (bubble (arrOf st'') k (k - l)) i) (KK κ (bubble (arrOf st'') k (k - l)) j)
   rw [KK_bubble hks (by omega),KK_bubble hks (by omega),show k - (k - l)=l by omega]
   repeat' split
   all_goals first
    | (exfalso; omega)
    | exact KeyOrd.kle_refl _
    | exact hlo _ (by omega)
    | exact KeyOrd.kle_of_klt (hhi _ (by omega) (by omega))
    | exact hs' _ _ (by omega) (by omega)
theorem ez {st:SortSt} {a nrem:Nat} {Q:AscSt->SortSt->Prop} (hO:bO prog w A s κ0 κ) (h0:KeysOf κ a₀) (hn:nrem<=a₀.size) (ha:1<=a) (han:a<=nrem) (hB:SBaseT κ0 a₀ st)
  (hs:SortedToK κ (arrOf st) a)
  (h:∀n,a<=n->n<=nrem->SortedToK κ (arrOf st) n->(n=nrem\/κ.klt (KK κ (arrOf st) n) (KK κ (arrOf st) (n - 1)))->Q (none,n) st) :
  wpS (model prog w) A E s (ascLoop a nrem) Q st:=by
 unfold ascLoop
 refine wpS_forRange (I:=λ x c st'=>st'=st/\c=(none,x)/\SortedToK κ (arrOf st) x) ?step ?fin ⟨rfl,rfl,hs⟩
 case fin =>
  rintro c st' ⟨rfl,rfl,hs'⟩
  rw [show max a nrem=nrem by omega] at hs' ⊢
  exact h nrem han (Nat.le_refl _) hs' (.inl rfl)
 case step =>
  rintro x c st' hax hxn ⟨rfl,rfl,hs'⟩
  dsimp only
  refine wpS_bind (cR hO hB h0 (by omega) (by omega) ?_)
  cases hless:κ.blt (KK κ (arrOf st') x) (KK κ (arrOf st') (x - 1))
  case true =>
   simp only [if_true]
   exact wpS_pure (h x hax (by omega) hs' (.inr hless))
  case false =>
   simp only [Bool.false_eq_true,if_false]
   refine wpS_pure ⟨rfl,rfl,λ i j hij hj=>?_⟩
   by_cases hjx:j < x
   ·exact hs' i j hij hjx
   ·have hj':j=x:=by omega
    subst hj'
    by_cases hi':i=j
    ·subst hi'; exact KeyOrd.kle_refl _
    ·exact KeyOrd.kle_trans (hs' i (j - 1) (by omega) (by omega)) hless
theorem gc {st:SortSt} {n nrem:Nat} {Q:Option Nat->SortSt->Prop} (hO:bO prog w A s κ0 κ) (h0:KeysOf κ a₀) (hn:nrem<=a₀.size) (h1:1<=n) (hnn:n<=nrem) (hB:SBaseT κ0 a₀ st)
  (hs:NonIncK κ (arrOf st) n) (h:∀m st',SBaseT κ0 a₀ st'->1<=m->m<=nrem->SortedToK κ (arrOf st') m->Q (some m) st') :
  wpS (model prog w) A E s (tail3 n nrem) Q st:=by
 unfold tail3
 have hsz:n<=(arrOf st).size:=by rw [hB.size]; omega
 refine wpS_bind (wpS_reverse ?_)
 have hB':SBaseT κ0 a₀ (setArr st (mirror (arrOf st) 0 n ((n - 0) / 2))):=hB.setArr (mirror_perm _ _ _ _)
 refine wpS_bind (ez hO h0 hn h1 hnn hB' ?_ λ m hm1 hm2 hsm _=>wpS_pure (h m _ hB' (by omega) hm2 hsm))
 intro i j hij hj
 show κ.kle (KK κ (mirror (arrOf st) 0 n ((n - 0) / 2)) i) (KK κ (mirror (arrOf st) 0 n ((n - 0) / 2)) j)
 rw [KK_mirror hsz,KK_mirror hsz,if_pos (by omega),if_pos (by omega)]
 exact hs _ _ (by omega) (by omega)
theorem gX {st:SortSt} {n nrem:Nat} {Q:DescSt->SortSt->Prop} (hO:bO prog w A s κ0 κ) (h0:KeysOf κ a₀) (hn:nrem<=a₀.size) (h1:1<=n) (hnn:n<=nrem) (hB:SBaseT κ0 a₀ st)
  (hs:NonIncK κ (arrOf st) n)
  (h:∀m neq st',SBaseT κ0 a₀ st'->n<=m->m<=nrem->NonIncK κ (arrOf st') m->neq + 1<=m->(∀i,m - (neq + 1)<=i->i < m->KK κ (arrOf st') i=KK κ (arrOf st') (m - 1))->Q (none,m,neq) st') :
  wpS (model prog w) A E s (descLoop n nrem) Q st:=by
 unfold descLoop
 refine wpS_forRange (I:=λ x c st'=>∃neq,c=(none,x,neq)/\SBaseT κ0 a₀ st'/\NonIncK κ (arrOf st') x/\neq + 1<=x /\
   (∀i,x - (neq + 1)<=i->i < x->KK κ (arrOf st') i=KK κ (arrOf st') (x - 1))) ?step ?fin ⟨0,rfl,hB,hs,by omega,λ i h1 h2=>by congr 1; omega⟩
 case fin =>
  rintro c st' ⟨neq,rfl,hB',hs',hq,he⟩
  rw [show max n nrem=nrem by omega] at hs' hq he ⊢
  exact h nrem neq st' hB' hnn (Nat.le_refl _) hs' hq he
 case step =>
  rintro x c st' hax hxn ⟨neq,rfl,hB',hs',hq,he⟩
  dsimp only
  have hsz:x<=(arrOf st').size:=by rw [hB'.size]; omega
  refine wpS_bind (cR hO hB' h0 (by omega) (by omega) ?_)
  cases hless:κ.blt (KK κ (arrOf st') x) (KK κ (arrOf st') (x - 1))
  case true =>
   simp only [if_true]
   have step1:∀xs:Array Keyed,(∀k,KK κ xs k=KK κ (arrOf st') k)->NonIncK κ xs (x + 1):=by
    intro xs hk i j hij hj
    rw [hk,hk]
    by_cases hjx:j < x
    ·exact hs' i j hij hjx
    ·have hj':j=x:=by omega
     subst hj'
     by_cases hi':i=j
     ·subst hi'; exact KeyOrd.kle_refl _
     ·exact KeyOrd.kle_trans (KeyOrd.kle_of_klt hless) (hs' i (j - 1) (by omega) (by omega))
   by_cases hneq:neq > 0
   ·rw [if_pos hneq]
    refine wpS_bind (wpS_reverse (wpS_pure ⟨0,rfl,hB'.setArr (mirror_perm _ _ _ _),step1 _ (KK_mirror_equal hsz he),by omega,λ i h1 h2=>by congr 1; omega⟩))
   ·rw [if_neg hneq]
    exact wpS_pure ⟨0,rfl,hB',step1 _ (λ _=>rfl),by omega,λ i h1 h2=>by congr 1; omega⟩
  case false =>
   simp only [Bool.false_eq_true,if_false]
   refine wpS_bind (cR hO hB' h0 (by omega) (by omega) ?_)
   cases hlarger:κ.blt (KK κ (arrOf st') (x - 1)) (KK κ (arrOf st') x)
   case true =>
    simp only [if_true]
    exact wpS_pure (h x neq st' hB' hax (by omega) hs' hq he)
   case false =>
    simp only [Bool.false_eq_true,if_false]
    have heqx:KK κ (arrOf st') x=KK κ (arrOf st') (x - 1):=KeyOrd.kle_antisymm hlarger hless
    refine wpS_pure ⟨neq + 1,rfl,hB',λ i j hij hj=>?_,by omega,λ i h1 h2=>?_⟩
    ·by_cases hjx:j < x
     ·exact hs' i j hij hjx
     ·have hj':j=x:=by omega
      subst hj'
      by_cases hi':i=j
      ·subst hi'; exact KeyOrd.kle_refl _
      ·rw [heqx]; exact hs' i (j - 1) (by omega) (by omega)
    ·rw [show x + 1 - 1=x by omega]
     by_cases hix:i=x
     ·subst hix; rfl
     ·rw [heqx]; exact he i (by omega) (by omega)
theorem dE {st:SortSt} {n nrem:Nat} {Q:Option Nat->SortSt->Prop} (hO:bO prog w A s κ0 κ) (h0:KeysOf κ a₀) (hn:nrem<=a₀.size) (hnn:n + 1<=nrem) (hB:SBaseT κ0 a₀ st)
  (hs:NonIncK κ (arrOf st) (n + 1)) (h:∀m st',SBaseT κ0 a₀ st'->1<=m->m<=nrem->SortedToK κ (arrOf st') m->Q (some m) st') :
  wpS (model prog w) A E s (descPart n nrem) Q st:=by
 unfold descPart
 refine wpS_bind (wpS_lift (wpAny_rule ⟨rfl,?_⟩))
 refine wpS_bind (gX hO h0 hn (by omega) hnn hB hs λ m neq st' hB' hm1 hm2 hs' hq he=>?_)
 dsimp only
 have hsz:m<=(arrOf st').size:=by rw [hB'.size]; omega
 by_cases hneq:neq > 0
 ·rw [if_pos hneq]
  refine wpS_bind (wpS_reverse (gc hO h0 hn (by omega) hm2 (hB'.setArr (mirror_perm _ _ _ _)) ?_ h))
  intro i j hij hj
  show κ.kle (KK κ (mirror (arrOf st') _ _ _) j) (KK κ (mirror (arrOf st') _ _ _) i)
  rw [KK_mirror_equal hsz he,KK_mirror_equal hsz he]
  exact hs' i j hij hj
 ·rw [if_neg hneq]
  exact gc hO h0 hn (by omega) hm2 hB' hs' h
theorem gY {st:SortSt} {nrem:Nat} {Q:Option Nat->SortSt->Prop} (hO:bO prog w A s κ0 κ) (h0:KeysOf κ a₀) (hn:nrem<=a₀.size) (h1:1<=nrem) (hB:SBaseT κ0 a₀ st)
  (h:∀m st',SBaseT κ0 a₀ st'->1<=m->m<=nrem->SortedToK κ (arrOf st') m->Q (some m) st') :
  wpS (model prog w) A E s (countRun' 0 nrem) Q st:=by
 rw [countRun0_eq]
 refine wpS_bind (ez hO h0 hn (Nat.le_refl 1) h1 hB (λ i j hij hj=>by have:i=j:=(by omega); subst this; exact KeyOrd.kle_refl _) λ n hn1 hn2 hsn hor=>?_)
 dsimp only
 by_cases hnn:n=nrem
 ·rw [if_pos (by simpa using hnn)]
  exact wpS_pure (h n st hB hn1 hn2 hsn)
 ·rw [if_neg (by simpa using hnn)]
  have hlt:κ.klt (KK κ (arrOf st) n) (KK κ (arrOf st) (n - 1)):=hor.resolve_left hnn
  by_cases hgt:n > 1
  ·rw [if_pos hgt]
   refine wpS_bind (cR hO hB h0 (by omega) (by omega) ?_)
   cases hrose:κ.blt (KK κ (arrOf st) 0) (KK κ (arrOf st) (n - 1))
   case true =>
    simp only [if_true]
    exact wpS_pure (h n st hB hn1 hn2 hsn)
   case false =>
    simp only [Bool.false_eq_true,if_false]
    have hsz:n<=(arrOf st).size:=by rw [hB.size]; omega
    have hall:∀k,0<=k->k < n->KK κ (arrOf st) k=KK κ (arrOf st) (n - 1):=by
     intro k _ hk
     have a1:=hsn 0 k (by omega) hk
     have a2:=hsn k (n - 1) (by omega) (by omega)
     exact KeyOrd.kle_antisymm a2 (KeyOrd.kle_trans hrose a1)
    refine wpS_bind (wpS_reverse (dE hO h0 hn (by omega) (hB.setArr (mirror_perm _ _ _ _)) ?_ h))
    intro i j hij hj
    show κ.kle (KK κ (mirror (arrOf st) _ _ _) j) (KK κ (mirror (arrOf st) _ _ _) i)
    rw [KK_mirror_equal hsz hall,KK_mirror_equal hsz hall]
    by_cases hjn:j < n
    ·rw [hall i (by omega) (by omega),hall j (by omega) hjn]; exact KeyOrd.kle_refl _
    ·have hj':j=n:=by omega
     subst hj'
     by_cases hi':i=j
     ·subst hi'; exact KeyOrd.kle_refl _
     ·rw [hall i (by omega) (by omega)]; exact KeyOrd.kle_of_klt hlt
  ·rw [if_neg hgt]
   have hn1':n=1:=by omega
   subst hn1'
   refine dE hO h0 hn (by omega) hB ?_ h
   intro i j hij hj
   by_cases hi':i=j
   ·subst hi'; exact KeyOrd.kle_refl _
   ·have hi0:i=0:=by omega
    have hj1:j=1:=by omega
    subst hi0; subst hj1
    exact KeyOrd.kle_of_klt hlt
theorem SBaseT.doneK {st:SortSt} (hB:SBaseT κ0 a₀ st) (hs:SortedToK κ (arrOf st) a₀.size):SDoneK κ a₀ (setPending st ((pendingOf st).push (0,a₀.size,0))) :=
 ⟨hB.perm,hB.failed,by show (pendingOf st).push _=_; rw [hB.pend]; rfl,hs⟩
theorem gZ {st:SortSt} {Q:Unit->SortSt->Prop} (hO:bO prog w A s κ0 κ) (h0:KeysOf κ a₀) (hB:SBaseT κ0 a₀ st) (h2:2<=a₀.size) (h64:a₀.size < 64)
  (h:∀st',(arrOf st').Perm a₀->failedOf st'=none->SortedToK κ (arrOf st') a₀.size->Q () st'):wpS (model prog w) A E s sortRuns' Q st:=by
 rw [sortRuns'_eq]
 refine wpS_bind (wpS_get ?_)
 dsimp only
 have hmr:minRun' a₀.size a₀.size 0=a₀.size:=by
  obtain ⟨f,hf⟩:∃f,a₀.size=f + 1:=⟨a₀.size - 1,by omega⟩
  have:minRun' (f + 1) a₀.size 0=a₀.size:=by rw [minRun'_succ,if_pos h64]; rfl
  rwa [<- hf] at this
 simp only [hB.size,hmr]
 refine wpS_bind (wpS_mono (wpS_forRange
  (I:=λ x c st'=>(x=0/\c=(none,0)/\SBaseT κ0 a₀ st')\/(1<=x/\c=(none,a₀.size)/\SDoneK κ a₀ st'))
  (Q:=λ c st'=>c=(none,a₀.size)/\SDoneK κ a₀ st') ?step ?fin (.inl ⟨Y,Y,hB⟩)) ?post)
 case fin =>
  rintro c st' (⟨hx,_,_⟩ | ⟨_,hc,hD⟩)
  ·omega
  ·exact ⟨hc,hD⟩
 case step =>
  rintro x c st' _ hx (⟨rfl,rfl,hB'⟩ | ⟨hx1,rfl,hD⟩)
  ·dsimp only
   rw [if_neg (by omega)]
   simp only [Nat.sub_zero,Nat.min_self,Nat.zero_add]
   refine wpS_bind (gY hO h0 (Nat.le_refl _) (by omega) hB' λ m st2 hB2 hm1 hm2 hs2=>?_)
   dsimp only
   by_cases hlt:m < a₀.size
   ·rw [if_pos hlt]
    refine wpS_bind (wpS_lift (wpAny_rule ⟨rfl,?_⟩))
    refine wpS_bind (fH hO h0 (Nat.le_refl _) hm2 hB2 hs2 λ st3 hB3 hs3=>?_)
    simp only [Bool.not_true,Bool.false_eq_true,if_false]
    refine wpS_bind (wpS_get ?_)
    have hb:(pendingOf st3).back? = none:=by rw [hB3.pend]; rfl
    rw [hb]
    dsimp only
    exact wpS_bind (wpS_modify (wpS_pure (.inr ⟨by omega,Y,hB3.doneK hs3⟩)))
   ·rw [if_neg hlt]
    have hm:m=a₀.size:=by omega
    subst hm
    refine wpS_bind (wpS_get ?_)
    have hb:(pendingOf st2).back? = none:=by rw [hB2.pend]; rfl
    rw [hb]
    dsimp only
    exact wpS_bind (wpS_modify (wpS_pure (.inr ⟨by omega,Y,hB2.doneK hs2⟩)))
  ·dsimp only
   rw [if_pos (Nat.le_refl _)]
   exact wpS_pure ⟨rfl,hD⟩
 case post =>
  rintro c st' ⟨rfl,hD⟩
  dsimp only
  refine wpS_bind (wpS_mono (wpS_forRange (I:=λ _ c st''=>st''=st'/\c=(none,())) (Q:=λ c st''=>st''=st'/\c=(none,())) ?_ (λ _ _ hh=>hh) ⟨rfl,rfl⟩) ?_)
  ·rintro x c st'' _ _ ⟨rfl,rfl⟩
   refine wpS_bind (wpS_get ?_)
   rw [if_pos (by rw [hD.2.2.1]; exact Nat.le_refl 1)]
   exact wpS_pure ⟨rfl,rfl⟩
  ·rintro c st'' ⟨rfl,rfl⟩
   exact wpS_pure (h _ hD.1 hD.2.1 hD.2.2.2)
end
section
variable {prog:Program} {w:World} {A:Around} {E:Value->Shared->Prop} {s:Shared}
theorem dw {κ:KeyKind} {κ0:SortKind} {a:Addr} {vs:List Value} {n:Nat} {P:Fin->Shared->Prop} (ho:s.heap.get? a=some (seqObj "list" vs.toArray n))
  (h0:KeysOf κ (pairsOf vs)) (hkk:∀s':Shared,(∀b o,b≠a->s.heap.get? b=some o->s'.heap.get? b=some o)->bO prog w A s' κ0 κ/\∀v₁ v₂ rest,vs=v₁ :: v₂ :: rest->∀ (Q:SortKind->Shared->Prop),Q κ0 s'->wpAny (model prog w) A (keyKind' (v₁ :: v₂ :: rest).toArray) Q E s') (h64:vs.length < 64)
  (h:∀st':SortSt,(arrOf st').Perm (pairsOf vs)->SortedToK κ (arrOf st') (pairsOf vs).size->P (.done (.ret .none)) { s with heap:=sortedHeap s.heap a vs ((arrOf st').map (·.2)) }) :
  wpAny (model prog w) A (Builtin.«list.sort» ⟨[.ref a],[]⟩) P E s:=by
 rw [list_sort_plain]
 have ha:a < s.heap.objs.size:=Heap.lt_size ho
 refine wpAny_bind (listItems_at ho rfl ?_)
 refine wpAny_bind (listUpdate_at ho rfl ?_)
 obtain ⟨e1,ho1⟩:∃e1,(s.heap.update a (Obj.mapSeq λ _=>#[])).get? a=some (seqObj "list" #[] e1):=⟨_,get?_update_seq ho (λ _=>#[])⟩
 refine wpAny_bind (seqEpoch_at ho1 rfl ?_)
 refine wpAny_bind (wpAny_newTuple ?_)
 refine wpAny_bind (wpAny_newList ?_)
 refine wpAny_holding ?_
 have ho6:(((s.heap.update a (Obj.mapSeq λ _=>#[])).push (seqObj "tuple" vs.toArray 0)).push (seqObj "list" #[] 0)).get? a=some (seqObj "list" #[] e1):=by
  rw [Heap.get?_push_ne _ _ _ (by rw [size_push',Heap.size_update]; exact Nat.ne_of_lt (Nat.lt_succ_of_lt ha)),Heap.get?_push_ne _ _ _ (by rw [Heap.size_update]; exact Nat.ne_of_lt ha)]
  exact ho1
 show wpAny (model prog w) A _ P E { s with heap:=((s.heap.update a (Obj.mapSeq λ _=>#[])).push (seqObj "tuple" vs.toArray 0)).push (seqObj "list" #[] 0) }
 dsimp only
 have hsz:vs.toArray.size=vs.length:=by simp
 have fin:=h
 by_cases h2:vs.toArray.size < 2
 ·rw [if_pos h2,if_pos h2]
  refine wpAny_bind (wpAny_pure ?_)
  rw [StateT.run_pure]
  refine wpAny_bind (wpAny_pure ?_)
  dsimp only
  refine wpAny_bind (seqEpoch_at ho6 rfl ?_)
  refine wpAny_bind (listUpdate_at ho6 rfl ?_ (hsz2:=by rw [Array.size_map]; show (pairsOf vs).size<=_; rw [pairsOf_size,sizeLine_eq]; omega))
  simp only [bne_self_eq_false,Bool.false_eq_true,if_false]
  refine wpAny_pure (fin (SortSt.mk' general' (vs.toArray.zip vs.toArray) #[] 7 none) (Array.Perm.refl _) ?_)
  intro i j hij hj
  have:i=j:=by rw [pairsOf_size] at hj; omega
  subst this; exact KeyOrd.kle_refl _
 ·rw [if_neg h2,if_neg h2]
  obtain ⟨v₁,v₂,rest,rfl⟩:∃v₁ v₂ rest,vs=v₁ :: v₂ :: rest:=by
   match vs,hsz,h2 with
   | [],_,h2=>simp at h2
   | [_],_,h2=>simp at h2
   | v₁ :: v₂ :: rest,_,_=>exact ⟨v₁,v₂,rest,Y⟩
  have kp:∀b o,b≠a->s.heap.get? b=some o->(((s.heap.update a (Obj.mapSeq λ _=>#[])).push (seqObj "tuple" (v₁ :: v₂ :: rest).toArray 0)).push (seqObj "list" #[] 0)).get? b=some o:=λ b o nb e =>
   Heap.get?_push_of_some _ (Heap.get?_push_of_some _ (by rw [Heap.get?_update_ne _ _ _ _ nb]; exact e))
  obtain ⟨hO,hK⟩:=hkk { s with heap:=((s.heap.update a (Obj.mapSeq λ _=>#[])).push (seqObj "tuple" (v₁ :: v₂ :: rest).toArray 0)).push (seqObj "list" #[] 0) } kp
  refine wpAny_bind (hK _ _ _ rfl _ ?_)
  refine wpAny_bind (wpAny_mono (gZ (κ:=κ) (κ0:=κ0) hO (a₀:=pairsOf (v₁ :: v₂ :: rest)) (st:=SortSt.mk' κ0 ((v₁ :: v₂ :: rest).toArray.zip (v₁ :: v₂ :: rest).toArray) #[] 7 none)
   (Q:=λ _ st'=>(arrOf st').Perm (pairsOf (v₁ :: v₂ :: rest))/\failedOf st'=none/\SortedToK κ (arrOf st') (pairsOf (v₁ :: v₂ :: rest)).size)
   h0 ⟨Array.Perm.refl _,rfl,rfl,rfl⟩ (by rw [pairsOf_size]; simp) (by rw [pairsOf_size]; exact h64) λ st' a1 a2 a3=>⟨a1,a2,a3⟩) ?_ λ _ _ e=>e)
  rintro ⟨⟨⟩,st'⟩ s' ⟨rfl,hp,hf,hs⟩
  dsimp only
  refine wpAny_bind (seqEpoch_at ho6 rfl ?_)
  refine wpAny_bind (listUpdate_at ho6 rfl ?_ (hsz2:=by refine Nat.le_trans (Nat.le_of_eq ((Array.size_map ..).trans (hp.size_eq.trans (pairsOf_size _)))) ?_; rw [sizeLine_eq]; omega))
  rw [hf]
  simp only [bne_self_eq_false,Bool.false_eq_true,if_false]
  exact wpAny_pure (fin st' hp hs)
theorem tR {κ:KeyKind} {κ0:SortKind} {l:Addr} {vs:List Value} {Q:Value->Shared->Prop} (hl:s.heap.IsList l vs.toArray) (h0:KeysOf κ (pairsOf vs)) (hkk:∀ (A':Around) (s':Shared),(∀b o,s.heap.get? b=some o->s'.heap.get? b=some o)->bO prog w A' s' κ0 κ/\∀v₁ v₂ rest,vs=v₁ :: v₂ :: rest->∀ (Q:SortKind->Shared->Prop) (E':Value->Shared->Prop),Q κ0 s'->wpAny (model prog w) A' (keyKind' (v₁ :: v₂ :: rest).toArray) Q E' s') (h64:vs.length < 64)
  (h:∀st':SortSt,(arrOf st').Perm (pairsOf vs)->SortedToK κ (arrOf st') (pairsOf vs).size->Q (.ref (s.heap.objs.size + 1)) { s with heap:=sortedAll s.heap vs ((arrOf st').map (·.2)) }) :
  wpAny (model prog w) A (call (.builtin "sorted") [.ref l]) Q E s:=by
 refine Calls.call_function_entry kind_sorted plain_sorted entry_sorted (args_sorted1 _) ?_
 unfold Builtin.«sorted»
 refine wpAny_bind (m:=checkCount "sorted" 1 1 _) (wpAny_pure ?_)
 refine wpAny_bind (collect_list hl ?_)
 refine wpAny_bind (wpAny_newList ?_)
 have hsz:((s.heap.push (seqObj "list" #[] 0)).update s.heap.objs.size (Obj.mapSeq (· ++ vs.toArray))).objs.size=s.heap.objs.size + 1:=by
  rw [Heap.size_update,size_push']
 have hoL:(((s.heap.push (seqObj "list" #[] 0)).update s.heap.objs.size (Obj.mapSeq (· ++ vs.toArray))).push (seqObj "list" vs.toArray 0)).get? (s.heap.objs.size + 1)=some (seqObj "list" vs.toArray 0):=by
  rw [<- hsz]; exact Heap.get?_push_size _ rfl
 show wpAny _ _ _ _ _ { s with heap:=((s.heap.push (seqObj "list" #[] 0)).update s.heap.objs.size (Obj.mapSeq (· ++ vs.toArray))).push (seqObj "list" vs.toArray 0) }
 rw [hsz]
 refine wpAny_bind (wpAny_holding (wpAny_call_entry slot_list_sort ⟨_,hoL,rfl⟩ entry_list_sort (dw hoL h0 (λ s' k=>by obtain ⟨a1,a2⟩:=hkk _ s' (λ b o e=>k b o (Nat.ne_of_lt (Nat.lt_succ_of_lt (Heap.lt_size e))) (Heap.get?_push_of_some _ (by rw [Heap.get?_update_ne _ _ _ _ (Nat.ne_of_lt (Heap.lt_size e))]; exact Heap.get?_push_of_some _ e))); exact ⟨a1,λ v1 v2 r e Q q=>a2 v1 v2 r e Q _ q⟩) h64 λ st' a1 a2=>⟨_,Y,?_⟩) (args_list_sort _)))
 exact wpAny_pure ⟨_,rfl,h st' a1 a2⟩
end
end PyProof.Rows
set_option Elab.async false
set_option linter.all false
set_option maxRecDepth 100000
namespace L2
open PySem PySem.Spec PyProof.Rows
def bP:List Bool->List Value->Option (List Int)
 | [],[]=>some []
 | false :: r,.int i _ :: vs=>(bP r vs).map (i :: ·)
 | true :: r,.bool b :: vs=>(bP r vs).map ((if b=true then 1 else 0) :: ·)
 | _,_=>none
def jX:List Bool->List V->Option (List Int)
 | [],[]=>some []
 | false :: r,.int i :: vs=>(jX r vs).map (i :: ·)
 | true :: r,.bl b :: vs=>(jX r vs).map ((if b=true then 1 else 0) :: ·)
 | _,_=>none
theorem lF:∀ {sh:List Bool} {vs:List V} {us:List Value} {k:List Int},Vals vs us->jX sh vs=some k->bP sh us=some k
 | [],[],_,_,r,h=>by cases r; exact h
 | [],_ :: _,_,_,_,h=>by cases h
 | false :: r,v :: vs,us,k,rv,h=>by
  cases rv with
  | cons r1 r2 =>
   cases v with
   | int i =>
    obtain ⟨t,rfl⟩:=r1
    have h:(jX r vs).map (i :: ·)=some k:=h
    show (bP r _).map (i :: ·)=some k
    cases e:jX r vs with
    | none=>rw [e] at h; cases h
    | some k'=>rw [e] at h; rw [lF r2 e]; exact h
   | _=>cases h
 | true :: r,v :: vs,us,k,rv,h=>by
  cases rv with
  | cons r1 r2 =>
   cases v with
   | bl b =>
    cases (show _=Value.bool b from r1)
    have h:(jX r vs).map ((if b=true then 1 else 0) :: ·)=some k:=h
    show (bP r _).map ((if b=true then 1 else 0) :: ·)=some k
    cases e:jX r vs with
    | none=>rw [e] at h; cases h
    | some k'=>rw [e] at h; rw [lF r2 e]; exact h
   | _=>cases h
 | false :: _,[],_,_,_,h=>by cases h
 | true :: _,[],_,_,_,h=>by cases h
def aP:List Int->List Int->Bool
 | [],[]=>false
 | [],_ :: _=>true
 | _ :: _,[]=>false
 | a :: r,b :: t=>if a=b then aP r t else decide (a < b)
theorem bT:∀a,aP a a=false
 | []=>rfl
 | a :: r=>by rw [aP,if_pos rfl]; exact bT r
theorem dS:∀a b c,aP a b=true->aP b c=true->aP a c=true
 | [],[],_,h,_=>by cases h
 | [],_ :: _,[],_,h=>by cases h
 | [],_ :: _,_ :: _,_,_=>rfl
 | _ :: _,[],_,h,_=>by cases h
 | _ :: _,_ :: _,[],_,h=>by cases h
 | a :: r,b :: t,c :: u,h1,h2=>by
  rw [aP] at h1 h2 ⊢
  by_cases e1:a=b
  ·rw [if_pos e1] at h1
   by_cases e2:b=c
   ·rw [if_pos e2] at h2
    rw [if_pos (e1.trans e2)]
    exact dS r t u h1 h2
   ·rw [if_neg e2] at h2
    rw [if_neg (by rw [e1]; exact e2),e1]; exact h2
  ·rw [if_neg e1] at h1
   have h1:=of_decide_eq_true h1
   by_cases e2:b=c
   ·rw [if_neg (by omega)]; exact decide_eq_true (by omega)
   ·rw [if_neg e2] at h2
    have h2:=of_decide_eq_true h2
    rw [if_neg (by omega)]; exact decide_eq_true (by omega)
theorem gq:∀a b c,aP a c=true->aP a b=true\/aP b c=true
 | [],[],_,h=>.inr h
 | [],_ :: _,_,_=>.inl rfl
 | _ :: _,_,[],h=>by cases h
 | _ :: _,[],_ :: _,_=>.inr rfl
 | a :: r,b :: t,c :: u,h=>by
  rw [aP] at h
  rw [aP,aP]
  by_cases e1:a=b
  ·rw [if_pos e1]
   by_cases e2:b=c
   ·rw [if_pos (e1.trans e2)] at h
    rw [if_pos e2]
    exact gq r t u h
   ·rw [if_neg (by rw [e1]; exact e2)] at h
    rw [if_neg e2]
    exact .inr (by rw [<- e1]; exact h)
  ·rw [if_neg e1]
   by_cases e3:a=c
   ·rw [if_neg (by omega)]
    by_cases z:a < b
    ·exact .inl (decide_eq_true z)
    ·exact .inr (decide_eq_true (by omega))
   ·rw [if_neg e3] at h
    have h:=of_decide_eq_true h
    by_cases z:a < b
    ·exact .inl (decide_eq_true z)
    ·rw [if_neg (by omega)]; exact .inr (decide_eq_true (by omega))
theorem cS:∀a b,aP a b=false->aP b a=false->a=b
 | [],[],_,_=>rfl
 | [],_ :: _,h,_=>by cases h
 | _ :: _,[],_,h=>by cases h
 | a :: r,b :: t,h1,h2=>by
  rw [aP] at h1 h2
  by_cases e:a=b
  ·rw [if_pos e] at h1
   rw [if_pos e.symm] at h2
   rw [e,cS r t h1 h2]
  ·rw [if_neg e] at h1
   rw [if_neg (Ne.symm e)] at h2
   have:=of_decide_eq_false h1
   have:=of_decide_eq_false h2
   exact absurd (show a=b by omega) e
def nQ (h:Heap) (sh:List Bool):KeyKind where
 α:=List Int
 blt:=aP
 irrefl:=bT
 trans:=dS
 negTrans:=gq
 total:=cS
 keyOf:=λ v=>match v with
  | .ref a=>match h.get? a with
   | some o=>match o.data with
    | .seq xs _=>bP sh xs.toList
    | _=>none
   | none=>none
  | _=>none
 dflt:=[]
theorem mD {h:Heap} {sh:List Bool} {v:Value} {k:List Int} (e:(nQ h sh).keyOf v=some k):∃a o xs n,v=.ref a/\h.get? a=some o/\o.data=.seq xs n/\bP sh xs.toList=some k:=by
 cases v with
 | ref a =>
  have e:(match h.get? a with
   | some o=>match o.data with
    | .seq xs _=>bP sh xs.toList
    | _=>none
   | none=>none)=some k:=e
  cases h1:h.get? a with
  | none=>rw [h1] at e; cases e
  | some o =>
   rw [h1] at e
   cases h2:o.data with
   | seq xs n =>
    have e:(match o.data with
     | .seq xs _=>bP sh xs.toList
     | _=>none)=some k:=e
    rw [h2] at e
    exact ⟨a,o,xs,n,Y,h1,h2,e⟩
   | _ =>
    have e:(match o.data with
     | .seq xs _=>bP sh xs.toList
     | _=>none)=some k:=e
    rw [h2] at e; cases e
 | _=>cases e
theorem eW:∀ {sh:List Bool} {us:List Value} {k:List Int},bP sh us=some k->us.length=sh.length
 | [],[],_,_=>rfl
 | [],_ :: _,_,h=>by cases h
 | false :: r,[],_,h=>by cases h
 | true :: r,[],_,h=>by cases h
 | false :: r,v :: vs,k,h=>by
  cases v with
  | int i t =>
   have h:(bP r vs).map (i :: ·)=some k:=h
   cases e:bP r vs with
   | none=>rw [e] at h; cases h
   | some k'=>rw [List.length_cons,List.length_cons,eW e]
  | _=>cases h
 | true :: r,v :: vs,k,h=>by
  cases v with
  | bool b =>
   have h:(bP r vs).map ((if b=true then 1 else 0) :: ·)=some k:=h
   cases e:bP r vs with
   | none=>rw [e] at h; cases h
   | some k'=>rw [List.length_cons,List.length_cons,eW e]
  | _=>cases h
section
variable {prog:Program} {w:World} {A:Around} {E:Value->Shared->Prop} {s:Shared}
theorem jY {a b:Bool} {Q:Bool->Shared->Prop} (h:Q (a == b) s):wpAny (model prog w) A (eqBool (.bool a) (.bool b)) Q E s:=by
 unfold eqBool
 show wpAny _ _ (if (Value.bool a == Value.bool b)=true then _ else _) Q E s
 by_cases hab:(Value.bool a == Value.bool b)=true
 ·rw [if_pos hab]
  have e:a=b:=by have:=eq_of_beq hab; injection this
  subst e
  exact wpAny_bind (wpAny_rule (wpAny_pure (by simpa using h)))
 ·rw [if_neg hab]
  exact wpAny_bind (eq_bool (wpAny_truthy_bool h))
theorem jj {bb:Bool} {Q:Bool->Shared->Prop}:∀ (sh:List Bool) (xs ys:List Value) (a c:List Int) (i:Nat),bP sh xs=some a->bP sh ys=some c->((bb && i == 0)=true->sh.head? = some false\/sh=[])->Q (aP a c) s->PySem.W.KatLex prog w A bb false Q (xs.zip ys) i s
 | [],[],[],a,c,i,h1,h2,_,q=>by cases h1; cases h2; exact PySem.W.kat_nil q
 | [],_ :: _,_,_,_,_,h,_,_,_=>by cases h
 | [],[],_ :: _,_,_,_,_,h,_,_=>by cases h
 | false :: r,[],_,_,_,_,h,_,_,_=>by cases h
 | true :: r,[],_,_,_,_,h,_,_,_=>by cases h
 | false :: r,_ :: _,[],_,_,_,_,h,_,_=>by cases h
 | true :: r,_ :: _,[],_,_,_,_,h,_,_=>by cases h
 | false :: r,v :: vs,u :: us,a,c,i,h1,h2,hb,q=>by
  cases v with
  | int p t=>cases u with
   | int p' t' =>
    have h1:(bP r vs).map (p :: ·)=some a:=h1
    have h2:(bP r us).map (p' :: ·)=some c:=h2
    cases e1:bP r vs with
    | none=>rw [e1] at h1; cases h1
    | some a' =>
     cases e2:bP r us with
     | none=>rw [e2] at h2; cases h2
     | some c' =>
      rw [e1] at h1; rw [e2] at h2
      cases h1; cases h2
      rw [aP] at q
      refine PySem.W.kat_cons (wpAny_eqBool_int (PySem.W.kat_go (λ e=>PySem.W.kat_yes ?_) (λ e=>PySem.W.kat_no ?_)))
      ·rw [if_pos (by simpa using e)] at q
       exact jj r vs us a' c' (i + 1) e1 e2 (λ z=>by simp at z) q
      ·rw [if_neg (by simpa using e)] at q
       cases z:(bb && i == 0) with
       | true=>exact oneLt_int q
       | false=>exact PySem.W.kat_one _ _ (PyProof.Rows.lt_int q)
   | _=>cases h2
  | _=>cases h1
 | true :: r,v :: vs,u :: us,a,c,i,h1,h2,hb,q=>by
  cases v with
  | bool p=>cases u with
   | bool p' =>
    have h1:(bP r vs).map ((if p=true then 1 else 0) :: ·)=some a:=h1
    have h2:(bP r us).map ((if p'=true then 1 else 0) :: ·)=some c:=h2
    cases e1:bP r vs with
    | none=>rw [e1] at h1; cases h1
    | some a' =>
     cases e2:bP r us with
     | none=>rw [e2] at h2; cases h2
     | some c' =>
      rw [e1] at h1; rw [e2] at h2
      cases h1; cases h2
      rw [aP] at q
      refine PySem.W.kat_cons (jY (PySem.W.kat_go (λ e=>PySem.W.kat_yes ?_) (λ e=>PySem.W.kat_no ?_)))
      ·have e:p=p':=by simpa using e
       rw [if_pos (by rw [e])] at q
       exact jj r vs us a' c' (i + 1) e1 e2 (λ z=>by simp at z) q
      ·have e:p≠p':=by simpa using e
       rw [if_neg (by cases p <;> cases p' <;> simp_all)] at q
       cases z:(bb && i == 0) with
       | true=>rcases hb z with z | z <;> cases z
       | false =>
        refine PySem.W.kat_one _ _ (PyProof.Rows.lt_bool ?_)
        show Q (decide (b2i p < b2i p')) s
        rw [show decide (b2i p < b2i p')=decide ((if p=true then (1:Int) else 0) < (if p'=true then 1 else 0)) by cases p <;> cases p' <;> rfl]
        exact q
   | _=>cases h2
  | _=>cases h1
theorem nR {h:Heap} {sh:List Bool} (h0:sh.head? = some false) (k:∀b o,h.get? b=some o->s.heap.get? b=some o):bO prog w A s (tuples' true) (nQ h sh):=by
 intro E x y a b Q ha hb q
 obtain ⟨x',ox,xs,n,rfl,hx,dx,fx⟩:=mD ha
 obtain ⟨y',oy,ys,m,rfl,hy,dy,fy⟩:=mD hb
 have l1:=eW fx
 have l2:=eW fy
 refine PySem.W.kat_lt (k _ _ hx) dx (k _ _ hy) dy ?_
 rw [show decide (xs.size < ys.size)=false from decide_eq_false (by rw [<- Array.length_toList,<- Array.length_toList]; omega)]
 exact jj sh _ _ a b 0 fx fy (λ _=>.inl h0) q
end
theorem fI:∀ {as:List Addr} {its:List Value},Vals (as.map V.ref) its->its=as.map Value.ref
 | [],_,r=>by cases r; rfl
 | a :: as,_,r=>by
  cases r with
  | cons r1 r2 =>
   have e:_=Value.ref a:=r1
   subst e
   rw [List.map_cons,fI r2]
theorem fJ:∀as:List Addr,Vals (as.map V.ref) (as.map Value.ref)
 | []=>.nil
 | a :: as=>.cons rfl (fJ as)
theorem jZ {α β:Type} {f:α->β} (g:β->Option α) (hg:∀a,g (f a)=some a) {l:List β} {as:List α} (h:l.Perm (as.map f)):∃as':List α,l=as'.map f/\as'.Perm as:=by
 refine ⟨l.filterMap g,?_,?_⟩
 ·have all:∀x∈l,∃a,f a=x:=λ x hx=>by
   obtain ⟨a,_,e⟩:=List.mem_map.mp (h.mem_iff.mp hx)
   exact ⟨a,e⟩
  clear h
  induction l with
  | nil=>rfl
  | cons x r ih =>
   obtain ⟨a,rfl⟩:=all x List.mem_cons_self
   rw [List.filterMap_cons,hg a,List.map_cons,<- ih λ y hy=>all y (List.mem_cons_of_mem _ hy)]
 ·have:=h.filterMap g
  rw [List.filterMap_map,show (g∘f)=some from funext hg,List.filterMap_some] at this
  exact this
theorem ge {h:Heap} {sh:List Bool} {key:Addr->List Int} (h0:sh.head? = some false):∀ (as:List Addr),(∀a∈as,∃o us n,h.get? a=some o/\o.cls=.type "tuple" /\ o.data=.seq (List.toArray us) n/\bP sh us=some (key a))->∃fs,PySem.W.KatTups h (as.map Value.ref) fs/\fs.length=as.length/\∀v∈fs,∃i t,v=Value.int i t
 | [],_=>⟨[],trivial,Y,λ v hv=>by cases hv⟩
 | a :: as,H=>by
  obtain ⟨fs,h1,h2,h3⟩:=ge h0 as λ b hb=>H b (List.mem_cons_of_mem _ hb)
  obtain ⟨o,us,n,e,c,d,f⟩:=H a List.mem_cons_self
  obtain ⟨r,hr⟩:∃r,sh=false :: r:=by
   cases sh with
   | nil=>cases h0
   | cons x r=>cases h0; exact ⟨r,Y⟩
  subst hr
  cases us with
  | nil=>cases f
  | cons u us =>
   cases u with
   | int i t=>exact ⟨.int i t :: fs,PySem.W.KatTups.cons e c d (by simp) h1,by rw [List.length_cons,List.length_cons,h2],λ v hv=>(List.mem_cons.mp hv).elim (λ z=>⟨i,t,z⟩) (h3 v)⟩
   | _=>cases f
section
variable {X:Cx}
def qN (K:PySem.W.Frag) (xs:List V) (H:Hp) (Q:VK):Prop:=∃ (p:Addr) (as:List Addr) (sh:List Bool) (key:Addr->List Int),xs=[.ref p]/\SqL K H p (as.map V.ref)/\as.length < 64/\sh.head? = some false/\(∀a∈as,∃vs,SqT K H a vs/\jX sh vs=some (key a)) /\
 ∀ (l:Addr) (as':List Addr),H l=none->as'.Perm as->(as'.map key).Pairwise (λ x y=>aP y x=false)->Q (.ref l) (upd H l (.lst (as'.map V.ref)))
theorem eX:cj X (.builtin "sorted") (qN X.K):=by
 intro pins s σ H xs us Q I r h
 obtain ⟨p,as,sh,key,rfl,hs,h64,h0,hk,q⟩:=h
 obtain ⟨u,rfl,rfl⟩:=ek r
 obtain ⟨its,rv,pl,_⟩:=I.list hs
 have ei:=fI rv
 subst ei
 have tu:∀a∈as,∃o us n,s.heap.get? a=some o/\o.cls=.type "tuple" /\ o.data=.seq (List.toArray us) n/\bP sh us=some (key a):=λ a ha=>by
  obtain ⟨vs,hv,hf⟩:=hk a ha
  obtain ⟨us,r,⟨o,e,c,n,d⟩,_⟩:=I.tuple hv
  exact ⟨o,us,n,e,c,d,lF r hf⟩
 have kof:∀a∈as,(nQ s.heap sh).keyOf (.ref a)=some (key a):=λ a ha=>by
  obtain ⟨o,us,n,e,c,d,f⟩:=tu a ha
  show (match s.heap.get? a with
   | some o=>match o.data with
    | .seq xs _=>bP sh xs.toList
    | _=>none
   | none=>none)=some (key a)
  rw [e]
  show (match o.data with
    | .seq xs _=>bP sh xs.toList
    | _=>none)=some (key a)
  rw [d]
  exact f
 refine tR (κ:=nQ s.heap sh) (κ0:=tuples' true) pl.isList ?keys ?kk (by rw [List.length_map]; exact h64) λ st' hp hs'=>?_
 case keys =>
  intro pr hpr
  rw [pairsOf_toList] at hpr
  obtain ⟨a,ha,e⟩:=List.mem_map.mp (List.of_mem_zip (show (pr.1,pr.2)∈_ from hpr)).1
  exact ⟨key a,by rw [<- e]; exact kof a ha⟩
 case kk =>
  intro A' s' k
  refine ⟨nR h0 k,λ v1 v2 rest e Q E' q=>?_⟩
  obtain ⟨fs,f1,f2,f3⟩:=ge (h:=s'.heap) (key:=key) h0 as λ a ha=>by
   obtain ⟨o,us,n,e,c,d,f⟩:=tu a ha
   exact ⟨o,us,n,k _ _ e,c,d,f⟩
  rw [e] at f1
  have:(as.map Value.ref).length=rest.length + 2:=by rw [e]; rfl
  rw [List.length_map] at this
  refine PySem.W.kat_kind (T:=.type "int") f1 (by omega) (λ v hv=>?_) rfl q
  obtain ⟨i,t,rfl⟩:=f3 v hv
  exact PySem.W.Looks.of_pure rfl
 have pz:∀l:List Addr,(l.map Value.ref).zip (l.map Value.ref)=l.map λ a=>(Value.ref a,Value.ref a):=λ l=>by
  induction l with
  | nil=>rfl
  | cons a l ih=>rw [List.map_cons,List.zip_cons_cons,ih,List.map_cons]
 have hp':=Array.perm_iff_toList_perm.mp hp
 rw [pairsOf_toList,pz] at hp'
 obtain ⟨as',ea,pa⟩:=jZ (f:=λ a=>(Value.ref a,Value.ref a)) (λ pr=>match pr.1 with
  | .ref a=>some a
  | _=>none) (λ a=>rfl) hp'
 have eo:((arrOf st').map (·.2)).toList=as'.map Value.ref:=by
  rw [Array.toList_map,ea,List.map_map]; rfl
 obtain ⟨e,he⟩:=sortedAll_at s.heap (as.map Value.ref) ((arrOf st').map (·.2))
 have hn:H (s.heap.objs.size + 1)=none:=I.hok.fresh (Nat.le_succ _)
 refine ⟨.ref (s.heap.objs.size + 1),upd H (s.heap.objs.size + 1) (.lst (as'.map V.ref)),I.laid (o:=.lst (as'.map V.ref)) (t':=s.toks) (λ _ _=>sortedAll_old) (Nat.le_succ _) (show ObjOk _ _ _ _ _ (.lst _) from ⟨?_,((arrOf st').map (·.2)).toList,e,?_,?_⟩),Y,q _ as' hn pa ?_⟩
 ·rw [List.length_map,pa.length_eq]
  have:(64:Nat)<=sizeLine:=by decide
  omega
 ·rw [eo]; exact fJ as'
 ·rw [he]
 ·rw [List.pairwise_iff_getElem]
  intro i j hi hj hij
  rw [List.length_map] at hi hj
  have sz:(pairsOf (as.map Value.ref)).size=as.length:=by rw [pairsOf_size,List.length_map]
  have kk:∀i (hi:i < as'.length),KK (nQ s.heap sh) (arrOf st') i=key as'[i]:=λ i hi=>by
   have e:(arrOf st')[i]? = some (Value.ref as'[i],Value.ref as'[i]):=by
    rw [<- Array.getElem?_toList,ea,List.getElem?_map,List.getElem?_eq_getElem hi]; rfl
   unfold KK
   rw [e]
   show ((nQ s.heap sh).keyOf (.ref as'[i])).getD _=_
   rw [kof _ (pa.mem_iff.mp (List.getElem_mem hi))]; rfl
  have:=hs' i j (by omega) (by rw [sz,<- pa.length_eq]; exact hj)
  rw [kk i hi,kk j hj] at this
  rw [List.getElem_map,List.getElem_map]
  exact this
end
end L2
set_option Elab.async false
set_option linter.all false
set_option maxRecDepth 100000
namespace PySem
theorem Paired.getL {α β:Type} {F:α->β->Prop}:∀ {l₁:List α} {l₂:List β} {i:Nat} {y:β},Paired F l₁ l₂->l₂[i]? = some y->∃x,l₁[i]? = some x/\F x y
 | _,_,_,_,.nil,e=>by simp at e
 | _,_,0,_,.cons h _,e=>by simp at e; subst e; exact ⟨_,Y,h⟩
 | _,_,i + 1,y,.cons _ t,e=>by
  obtain ⟨x,h1,h2⟩:=Paired.getL (i:=i) t (by simpa using e)
  exact ⟨x,by simpa using h1,h2⟩
end PySem
set_option Elab.async false
set_option linter.all false
set_option maxRecDepth 100000
namespace L2
open PySem PySem.Spec PyProof.Rows
def Itv (K:PySem.W.Frag) (a:Addr) (n:Nat):It :=
 ⟨λ i H=>i < n/\∃xs x,SqL K H a xs/\xs[n - 1 - i]? = some x,λ i H x H'=>H'=H/\∀xs,SqL K H a xs->xs[n - 1 - i]? = some x,λ i _=>n=i⟩
theorem qO {P:Program} {w:World} {K:PySem.W.Frag} {tg:Expr} (a it:Addr) (n:Nat):Turn P w K tg (Itv K a n) [it] it (λ i h=>h.IsRevIter it a ((n:Int) - 1 - (i:Int))) where
 mem:=by simp
 obj:=λ i h st b hb=>by
  have e:b=it:=by simpa using hb
  subst e
  obtain ⟨o,e,c,d⟩:=st
  exact ⟨o,e,λ v z=>by rw [d] at z; cases z⟩
 keep:=λ i h h' st k=>st.at λ o e=>k it (by simp) o e
 item:=by
  intro X hP hw hK hc i pins s σ H E I hf st hg
  subst hP hw hK
  obtain ⟨hi,xs,x,hq,hx⟩:=hg
  obtain ⟨its,rv,p,hz⟩:=I.list hq
  obtain ⟨u,hu,ru⟩:=rv.get hx
  obtain ⟨f0,f1,f2,f3,f4,f5⟩:=hf it (by simp)
  have ei:(n:Int) - 1 - (i:Int)=((n - 1 - i:Nat):Int):=by omega
  rw [ei] at st
  refine wpAny_pyNext_rev_item st p.isList (x:=u) (by simpa using hu) λ h' st' sb=>?_
  have I1:Inv X pins σ H { s with heap:=h' }:=I.turned (t':=s.toks) (λ b o hb e=>(sb.2 b hb).trans e) f0 f1 f3 f4 f5
  rw [show ((n - 1 - i:Nat):Int) - 1=(n:Int) - 1 - ((i + 1:Nat):Int) by omega] at st'
  obtain ⟨o,e,c,d⟩:=id st'
  exact ⟨u,Y,me (s:={ s with heap:=h' }) e c d (by decide) ⟨x,H,I1,ru,⟨Y,λ ys hy=>by rw [I.list_inj hy hq]; exact hx⟩,st',λ b hb=>(hf b hb).1⟩⟩
 done:=by
  intro X hP hw hK hc i pins s σ H E I hf st hg
  subst hP hw hK
  have hg:n=i:=hg
  obtain ⟨f0,f1,f2,f3,f4,f5⟩:=hf it (by simp)
  rw [show (n:Int) - 1 - (i:Int)=-1 by omega] at st
  exact wpAny_pyNext_rev_end (I.ok.hd hc) st λ h' eb=>⟨Y,I.turned (t':=s.toks) (λ b o hb e=>eb b o hb e) f0 f1 f3 f4 f5⟩
 self:=λ _ _ _ _ _ st h=>wpAny_pyIter_revIter st h
section
variable {X:Cx} {tg:Expr}
def Gk (K:PySem.W.Frag) (ta:TA):TI:=λ σ H R=>ta σ H λ vs H1=>∃a xs,vs=[V.ref a]/\SqL K H1 a xs/\R (Itv K a xs.length) H1
theorem vH {a:Expr} {ta:TA} {p pos:Pos} (hg:Gl X "reversed") (hm:X.mg "reversed" = none) (ha:PA X [a] ta) (hs:starEach [a] X.env=[(false,eval a X.env)]:=by rfl):PI X tg (.Call (.Name "reversed" p) [a] [] pos) (Gk X.K ta):=by
 intro pins s σ H R I h
 refine Call_ (fk I hg hm boot_reversed (PyProof.Rows.callWith_type1 (thn (ha pos pins s σ H _ I h) λ us s1 ⟨vs,H1,I1,r1,q1⟩=>?_) hs rfl))
 obtain ⟨l,xs,e,hq,q⟩:=q1
 subst e
 cases r1 with
 | cons r rr =>
  cases rr
  cases r
  obtain ⟨its,rv,pl,hz⟩:=I1.list hq
  have hl:=rv.length
  refine call_reversed_list pl.isList ?_
  have st:(s1.heap.push (revObj l ((its.toArray.size:Int) - 1))).IsRevIter s1.heap.objs.size l ((xs.length:Int) - 1 - ((0:Nat):Int)):=by
   refine ⟨_,Heap.get?_push_size _ rfl,Y,?_⟩
   show Data.fields #[.ref l,rawInt ((its.toArray.size:Int) - 1)]=_
   rw [List.size_toArray,hl,show (its.length:Int) - 1 - ((0:Nat):Int)=(its.length:Int) - 1 by simp]
  refine wpAny_pyIter_revIter st ⟨s1.heap.objs.size,[s1.heap.objs.size],_,_,H1,rfl,I1.kept (t':=s1.toks) λ b o e=>Heap.get?_push_of_some _ e,qO l _ _,st,λ b hb=>?_,q⟩
  have e:b=s1.heap.objs.size:=by simpa using hb
  subst e
  exact I1.fpOk (Nat.le_refl _) (I1.hok.fresh (Nat.le_refl _))
end
end L2
set_option Elab.async false
set_option linter.all false
set_option maxRecDepth 100000
namespace L2
open PySem PySem.Spec PyProof.Rows PySem.SeqAt
open PySem.AutoSeq1 (wpAny_loadPart')
theorem dF (l:Addr) (es:Array DictEntry) (n:Nat) (dd:Option Addr) (sl:Array (Option Value)) (b:Int) (u:Tok) :
  Meets (Builtin.«dict.__eq__» ⟨[.ref l,.int b u],[]⟩) (λ _ R s=>s.heap.get? l=some { cls:=.type "dict",dict:=dd,data:=.dict es n,slots:=sl }/\R (.ok (.ret .notImplemented)) s) :=
 .of_wp λ prog w A R s h=>by obtain ⟨hp,g,d,tk,os⟩:=s; obtain ⟨hl,h⟩:=h; have f1:=F.sub_int_dict; wp_walk using wpAny_loadPart' hl,wpAny_load hl; exact ⟨_,Y,h⟩
theorem dA (l:Addr) (es:Array DictEntry) (n:Nat) (dd:Option Addr) (sl:Array (Option Value)) (b:Bool) :
  Meets (Builtin.«dict.__eq__» ⟨[.ref l,.bool b],[]⟩) (λ _ R s=>s.heap.get? l=some { cls:=.type "dict",dict:=dd,data:=.dict es n,slots:=sl }/\R (.ok (.ret .notImplemented)) s) :=
 .of_wp λ prog w A R s h=>by obtain ⟨hp,g,d,tk,os⟩:=s; obtain ⟨hl,h⟩:=h; have f1:=F.sub_bool_dict; wp_walk using wpAny_loadPart' hl,wpAny_load hl; exact ⟨_,Y,h⟩
theorem cG (b:Bool) (l:Addr) (c:Value) (es:Array DictEntry) (n:Nat) (dd:Option Addr) (sl:Array (Option Value)) :
  Meets (Builtin.«int.__eq__» ⟨[.bool b,.ref l],[]⟩) (λ _ R s=>s.heap.get? l=some { cls:=c,dict:=dd,data:=.dict es n,slots:=sl }/\R (.ok (.ret .notImplemented)) s) :=
 .of_wp λ prog w A R s h=>by obtain ⟨hp,g,d,tk,os⟩:=s; obtain ⟨hl,h⟩:=h; wp_walk using wpAny_loadPart' hl,wpAny_load hl; exact ⟨_,Y,h⟩
theorem cN (b:Int) (u:Tok) (l:Addr) (c:Value) (es:Array DictEntry) (n:Nat) (dd:Option Addr) (sl:Array (Option Value)) :
  Meets (Builtin.«int.__eq__» ⟨[.int b u,.ref l],[]⟩) (λ _ R s=>s.heap.get? l=some { cls:=c,dict:=dd,data:=.dict es n,slots:=sl }/\R (.ok (.ret .notImplemented)) s) :=
 .of_wp λ prog w A R s h=>by obtain ⟨hp,g,d,tk,os⟩:=s; obtain ⟨hl,h⟩:=h; wp_walk using wpAny_loadPart' hl,wpAny_load hl; exact ⟨_,Y,h⟩
section
variable {A:Around} {s:Shared}
theorem EqAt.int_dict {l:Addr} {o:Obj} {es:Array DictEntry} {n:Nat} (b:Int) (u:Tok) (ho:s.heap.get? l=some o) (hc:o.cls=.type "dict") (hd:o.data=.dict es n) (hu:A.units < cLine):EqAt A s (.int b u) (.ref l) false:=λ prog w E Q h=>by
 obtain ⟨cls,dd,data,sl⟩:=o
 simp only at hc hd
 subst hc hd
 unfold eqBool
 refine wpAny_holding ?_
 refine wpAny_ite_split (λ hab=>absurd (eq_of_beq hab) nofun) (λ _=>?_)
 exact wpAny_bind (rc_eq_decline_or (k:=false) (typeIs_int s b u) ⟨_,ho,rfl⟩ (by decide) F.sub_dict_int F.slot_int_eq F.slot_dict_eq_refl
  (λ _ hq=>call_meets F.slot_int_eq (typeIs_int s b u) F.entry_int_eq (F.args_int_eq_2 _ _) (cN b u l (.type "dict") es n dd sl) ⟨ho,hq⟩)
  (λ _ hq=>call_meets F.slot_dict_eq_refl ⟨_,ho,Y⟩ F.entry_dict_eq (F.args_dict_eq_2 _ _) (dF l es n dd sl b u) ⟨ho,hq⟩)
  (λ _ hq=>wpAny_of_eq (rfl:isSame (.int b u) (.ref l)=pure false) hq) (.inr hu) (wpAny_truthy_bool h))
theorem EqAt.bool_dict {l:Addr} {o:Obj} {es:Array DictEntry} {n:Nat} (b:Bool) (ho:s.heap.get? l=some o) (hc:o.cls=.type "dict") (hd:o.data=.dict es n) (hu:A.units < cLine):EqAt A s (.bool b) (.ref l) false:=λ prog w E Q h=>by
 obtain ⟨cls,dd,data,sl⟩:=o
 simp only at hc hd
 subst hc hd
 unfold eqBool
 refine wpAny_holding ?_
 refine wpAny_ite_split (λ hab=>absurd (eq_of_beq hab) nofun) (λ _=>?_)
 exact wpAny_bind (rc_eq_decline_or (k:=false) rfl ⟨_,ho,rfl⟩ (by decide) F.sub_dict_bool F.slot_bool_eq F.slot_dict_eq_refl
  (λ _ hq=>call_meets F.slot_bool_eq rfl F.entry_int_eq (F.args_int_eq_2 _ _) (cG b l (.type "dict") es n dd sl) ⟨ho,hq⟩)
  (λ _ hq=>call_meets F.slot_dict_eq_refl ⟨_,ho,Y⟩ F.entry_dict_eq (F.args_dict_eq_2 _ _) (dA l es n dd sl b) ⟨ho,hq⟩)
  (λ _ hq=>wpAny_of_eq (rfl:isSame (.bool b) (.ref l)=pure false) hq) (.inr hu) (wpAny_truthy_bool h))
end
section
variable {X:Cx} {pins:List (Addr×Obj)} {σ:St} {H:Hp} {s:Shared}
def eI:V->Int->Bool
 | .int j,i=>i == j
 | .bl b,i=>i == (if b=true then 1 else 0)
 | _,_=>false
def eB:V->Bool->Bool
 | .bl b,c=>c == b
 | .int j,c=>(if c=true then 1 else 0) == j
 | _,_=>false
def OdV (K:PySem.W.Frag) (H:Hp) (v:V):Prop:=v=.non\/(∃b,v=.bl b)\/(∃i,v=.int i)\/(∃z,v=.str z)\/∃a,v=.ref a/\((∃xs,SqL K H a xs)\/(∃xs,SqT K H a xs)\/H a=some (.dK []))
theorem Inv.dct (I:Inv X pins σ H s) {a:Addr} (h:H a=some (.dK [])):∃o es n,s.heap.get? a=some o/\o.cls=.type "dict" /\ o.data=.dict es n:=by
 obtain ⟨_,ne,vs,kv',o,es,ep,h1,h2,h3,_⟩:=I.hok a _ h
 exact ⟨o,es,ep,h1,h2.1,h3⟩
theorem Inv.eqI (I:Inv X pins σ H s) {A:Around} (hu:A.units < cLine) {v:V} (h:OdV X.K H v) {u:Value} (r:RelV v u) (i:Int) (t:Tok):EqAt A s (.int i t) u (eI v i):=by
 rcases h with rfl | ⟨b,rfl⟩ | ⟨j,rfl⟩ | ⟨z,rfl⟩ | ⟨a,rfl,h⟩
 ·cases (show u=Value.none from r); exact EqAt.int_none i t
 ·cases (show u=Value.bool b from r); exact EqAt.int_bool i t b
 ·obtain ⟨t',e⟩:=(show ∃t,u=Value.int j t from r); subst e; exact EqAt.int_int i t j t'
 ·obtain ⟨t',e⟩:=(show ∃t,u=Value.str z t from r); subst e; exact EqAt.int_str i t z t'
 ·cases (show u=Value.ref a from r)
  rcases h with ⟨xs,h⟩ | ⟨xs,h⟩ | h
  ·obtain ⟨its,rv,⟨o,n,e,c,_,d⟩,_⟩:=I.list h
   exact EqAt.int_list i t ⟨o,e,c,n,d⟩ hu
  ·obtain ⟨its,rv,⟨o,e,c,n,d⟩,_⟩:=I.tuple h
   exact EqAt.int_tuple i t ⟨o,e,c,n,d⟩ hu
  ·obtain ⟨o,es,n,e,c,d⟩:=I.dct h
   exact EqAt.int_dict i t e c d hu
theorem Inv.eqB (I:Inv X pins σ H s) {A:Around} (hu:A.units < cLine) {v:V} (h:OdV X.K H v) {u:Value} (r:RelV v u) (c:Bool):EqAt A s (.bool c) u (eB v c):=by
 rcases h with rfl | ⟨b,rfl⟩ | ⟨j,rfl⟩ | ⟨z,rfl⟩ | ⟨a,rfl,h⟩
 ·cases (show u=Value.none from r); exact EqAt.bool_none c
 ·cases (show u=Value.bool b from r); exact EqAt.bool_bool c b
 ·obtain ⟨t',e⟩:=(show ∃t,u=Value.int j t from r); subst e; exact EqAt.bool_int c j t'
 ·obtain ⟨t',e⟩:=(show ∃t,u=Value.str z t from r); subst e; exact EqAt.bool_str c z t'
 ·cases (show u=Value.ref a from r)
  rcases h with ⟨xs,h⟩ | ⟨xs,h⟩ | h
  ·obtain ⟨its,rv,⟨o,n,e,c',_,d⟩,_⟩:=I.list h
   exact EqAt.bool_list c ⟨o,e,c',n,d⟩ hu
  ·obtain ⟨its,rv,⟨o,e,c',n,d⟩,_⟩:=I.tuple h
   exact EqAt.bool_tuple c ⟨o,e,c',n,d⟩ hu
  ·obtain ⟨o,es,n,e,c',d⟩:=I.dct h
   exact EqAt.bool_dict c e c' d hu
def PrB (H:Hp) (z:V) (q:Int×Bool):Prop:=∃b,z=.ref b/\H b=some (.tup [.int q.1,.bl q.2])
def eP (H:Hp) (v1 v2:V):Value->Bool
 | .ref b=>match H b with
  | some (.tup [.int i,.bl c])=>eI v1 i && eB v2 c
  | _=>false
 | _=>false
theorem uZ {b:Addr} {v1 v2:V} {i:Int} {c:Bool} (h:H b=some (.tup [.int i,.bl c])):eP H v1 v2 (.ref b)=(eI v1 i && eB v2 c):=by
 show (match H b with
  | some (.tup [.int i,.bl c])=>eI v1 i && eB v2 c
  | _=>false)=_
 rw [h]
theorem qQ {v1 v2:V}:∀ {zs:List V} {qs:List (Int×Bool)} {its:List Value},Paired (PrB H) zs qs->Vals zs its->its.any (eP H v1 v2)=qs.any λ q=>eI v1 q.1 && eB v2 q.2
 | _,_,_,.nil,.nil=>rfl
 | _,_,_,.cons ⟨b,e,h⟩ r,.cons r1 rs=>by
  subst e
  cases r1
  rw [List.any_cons,List.any_cons,uZ h,qQ r rs]
theorem mE {i:Int}:eI (.int i) i=true:=by show (i == i)=true; simp
theorem mF {c:Bool}:eB (.bl c) c=true:=by show (c == c)=true; simp
theorem nS (hu:X.A.units + 65 < cLine):OpR X (compareOp .NotIn) (λ x y H Q=>∃a l v1 v2 zs qs,x=.ref a/\y=.ref l/\H a=some (.tup [v1,v2])/\OdV X.K H v1/\OdV X.K H v2/\H l=some (.lst zs)/\Paired (PrB H) zs qs/\Q (.bl (!qs.any λ q=>eI v1 q.1 && eB v2 q.2)) H):=by
 intro pins s σ H x y v u Q I rx ry h
 obtain ⟨a,l,v1,v2,zs,qs,rfl,rfl,ha,o1,o2,hl,pq,q⟩:=h
 cases rx
 cases ry
 obtain ⟨its,rv,⟨o,n,e,c,_,d⟩,_⟩:=I.list (SqL.of hl)
 obtain ⟨ias,rva,⟨oa,ea,ca,na,da⟩,_⟩:=I.tuple (SqT.of ha)
 refine notIn_listAt (eP H v1 v2) ⟨o,e,c,n,d⟩ (λ y hy=>?_) ?_
 ·have hy:y∈its:=by simpa using hy
  obtain ⟨j,hj⟩:=List.mem_iff_getElem?.mp hy
  obtain ⟨z,hz⟩:∃z,zs[j]? = some z:=⟨_,List.getElem?_eq_getElem (by have:=rv.length; have:=(List.getElem?_eq_some_iff.mp hj).1; omega)⟩
  obtain ⟨y',hy',rz⟩:=rv.get hz
  obtain rfl:y'=y:=by rw [hj] at hy'; exact (Option.some.inj hy').symm
  obtain ⟨q',hq,b,rfl,hb⟩:=Pc.Paired.getR pq hz
  cases rz
  rw [uZ hb]
  obtain ⟨ibs,rvb,⟨ob,eb,cb,nb,db⟩,_⟩:=I.tuple (SqT.of hb)
  cases rva with
  | cons ra1 ra=>cases ra with
   | cons ra2 ra=>cases ra with
    | nil =>
     cases rvb with
     | cons rb1 rb=>cases rb with
      | cons rb2 rb=>cases rb with
       | nil =>
        obtain ⟨t,et⟩:=(show ∃t,_=Value.int q'.1 t from rb1)
        subst et
        cases rb2
        by_cases hab:b=a
        ·subst hab
         obtain ⟨k1,k2⟩:V.int q'.1=v1/\V.bl q'.2=v2:=by
          rw [ha] at hb
          cases hb
          exact ⟨Y,Y⟩
         subst k1
         subst k2
         rw [mE,mF]
         exact EqAt.same _
        ·refine EqAt.of_refs hab ?_
         have:=RcAt.tuples (A:=X.A.in1) (s:=s) (e:=λ j=>if j=0 then eI v1 q'.1 else eB v2 q'.2) ⟨ob,eb,cb,nb,db⟩ ⟨oa,ea,ca,na,da⟩ (show X.A.units + 1 < cLine by omega) (λ j h1 h2=>?_)
         ·have hh:∀p r:Bool,(((List.range (min 2 2)).all λ j=>if j=0 then p else r) && (2 == 2))=(p && r):=λ p r=>by cases p <;> cases r <;> rfl
          rw [<- hh]
          exact this
         ·have:j=0\/j=1:=by have:j < 2:=h1; omega
          rcases this with rfl | rfl
          ·exact I.eqI (show X.A.units + 1 + 1 < cLine by omega) o1 ra1 _ _
          ·exact I.eqB (show X.A.units + 1 + 1 < cLine by omega) o2 ra2 _
 ·rw [List.any_toArray,qQ pq rv]
  exact ⟨.bl _,H,I,Y,q⟩
end
end L2
set_option Elab.async false
set_option linter.all false
set_option maxRecDepth 100000
namespace L2
open PySem PySem.Spec PyProof.Rows
section
variable {X:Cx} {tg:Expr}
def yj (K:PySem.W.Frag) (tl:TE):TI:=λ σ H R=>tl σ H λ x H1=>∃a,x=.ref a/\(((∃xs,SqL K H1 a xs)/\R (Itl K a) H1)\/((∃xs,SqT K H1 a xs)/\R (Itt K a) H1))
theorem jk {l:Expr} {tl:TE} (hl:PE X l tl):PI X tg l (yj X.K tl):=by
 intro pins s σ H R I h
 refine thn (hl pins s σ H _ I h) λ v s1 ⟨x,H1,I1,r1,q1⟩=>?_
 obtain ⟨a,e,hq⟩:=q1
 subst e
 cases r1
 have fr:∀b∈[s1.heap.objs.size],eM X pins H1 b:=λ b hb=>by
  have e:b=s1.heap.objs.size:=by simpa using hb
  subst e
  exact I1.fpOk (Nat.le_refl _) (I1.hok.fresh (Nat.le_refl _))
 rcases hq with ⟨⟨xs,hq⟩,q⟩ | ⟨⟨xs,hq⟩,q⟩
 ·obtain ⟨its,rv,p,hz⟩:=I1.list hq
  refine wpAny_pyIter_list p.isList ?_
  exact ⟨s1.heap.objs.size,[s1.heap.objs.size],_,_,H1,Y,I1.kept (t':=s1.toks) λ b o e=>Heap.get?_push_of_some _ e,iq a _,⟨_,Heap.get?_push_size _ rfl,Y,Y⟩,fr,q⟩
 ·obtain ⟨its,rv,p,hz⟩:=I1.tuple hq
  refine wpAny_pyIter_tuple (show s1.heap.IsTuple a its.toArray from p) ?_
  exact ⟨s1.heap.objs.size,[s1.heap.objs.size],_,_,H1,Y,I1.kept (t':=s1.toks) λ b o e=>Heap.get?_push_of_some _ e,gI a _,⟨_,Heap.get?_push_size _ rfl,Y,Y⟩,fr,q⟩
end
end L2
set_option Elab.async false
set_option linter.all false
set_option maxRecDepth 100000
namespace L2
open PySem PySem.Spec PyProof.Rows
mutual
inductive Tl where
 | rest
 | piece (i:Nat) (c:Bool) (x y:Int)
 | row (dn:Bool) (r:Tls)
inductive Tls where
 | nil
 | cons (n:Int) (t:Tl) (r:Tls)
end
def wyL (dn:Bool):Str:=if dn=true then "down" else "across"
def b01 (c:Bool):Int:=if c=true then 1 else 0
theorem jl {a b:Bool} (h:b01 a=b01 b):a=b:=by cases a <;> cases b <;> first | rfl | exact absurd h (by decide)
mutual
def enc:Tl->List Int
 | .rest=>[3]
 | .piece i c x y=>[2,i,b01 c,x,y]
 | .row dn r=>b01 dn :: ec r
def ec:Tls->List Int
 | .nil=>[0]
 | .cons n t r=>1 :: n :: (enc t ++ ec r)
end
mutual
def tlD:Tl->PyData
 | .rest=>.tuple [.str "rest"]
 | .piece i c x y=>.tuple [.str "piece",.int i,.bool c,.int x,.int y]
 | .row dn r=>.tuple [.str (wyL dn),.tuple (bm r)]
def bm:Tls->List PyData
 | .nil=>[]
 | .cons n t r=>.tuple [.int n,tlD t] :: bm r
end
mutual
theorem gs:∀ (t u:Tl) (r r':List Int),enc t ++ r=enc u ++ r'->t=u/\r=r'
 | .rest,.rest,r,r',h=>by simpa [enc] using h
 | .rest,.piece ..,r,r',h=>by simp [enc] at h
 | .rest,.row dn _,r,r',h=>by cases dn <;> simp [enc,b01] at h
 | .piece ..,.rest,r,r',h=>by simp [enc] at h
 | .piece i c x y,.piece i' c' x' y',r,r',h=>by
  simp only [enc,List.cons_append,List.cons.injEq,List.nil_append,true_and] at h
  obtain ⟨h1,h2,h3,h4,h5⟩:=h
  rw [jl h2,h3,h4,show i=i' by omega]
  exact ⟨Y,h5⟩
 | .piece ..,.row dn _,r,r',h=>by cases dn <;> simp [enc,b01] at h
 | .row dn _,.rest,r,r',h=>by cases dn <;> simp [enc,b01] at h
 | .row dn _,.piece ..,r,r',h=>by cases dn <;> simp [enc,b01] at h
 | .row dn a,.row dn' a',r,r',h=>by
  simp only [enc,List.cons_append,List.cons.injEq] at h
  obtain ⟨h1,h2⟩:=kh a a' r r' h.2
  rw [jl h.1,h1]
  exact ⟨Y,h2⟩
theorem kh:∀ (t u:Tls) (r r':List Int),ec t ++ r=ec u ++ r'->t=u/\r=r'
 | .nil,.nil,r,r',h=>by simpa [ec] using h
 | .nil,.cons ..,r,r',h=>by simp [ec] at h
 | .cons ..,.nil,r,r',h=>by simp [ec] at h
 | .cons n t a,.cons n' t' a',r,r',h=>by
  simp only [ec,List.cons_append,List.cons.injEq,true_and,List.append_assoc] at h
  obtain ⟨h1,h2⟩:=gs t t' _ _ h.2
  obtain ⟨h3,h4⟩:=kh a a' r r' h2
  rw [h.1,h1,h3]
  exact ⟨Y,h4⟩
end
theorem tS {t u:Tl} (h:enc t=enc u):t=u:=(gs t u [] [] (by rw [h])).1
theorem mG:∀ (l r r':List Int),aP (l ++ r) (l ++ r')=aP r r'
 | [],_,_=>rfl
 | a :: l,r,r'=>by rw [List.cons_append,List.cons_append,aP,if_pos rfl]; exact mG l r r'
theorem mH:∀ (l l' r r':List Int),(∀z,l ++ z≠l')->(∀z,l≠l' ++ z)->aP (l ++ r) (l' ++ r')=aP l l'
 | [],l',_,_,h,_=>absurd rfl (h l')
 | l,[],_,_,_,h=>absurd rfl (h l)
 | a :: l,b :: l',r,r',h1,h2=>by
  rw [List.cons_append,List.cons_append,aP,aP]
  by_cases e:a=b
  ·rw [if_pos e,if_pos e]
   exact mH l l' r r' (λ z hz=>h1 z (by rw [List.cons_append,e,hz])) (λ z hz=>h2 z (by rw [List.cons_append,e,hz]))
  ·rw [if_neg e,if_neg e]
theorem tT {t u:Tl} (h:t≠u) (r r':List Int):aP (enc t ++ r) (enc u ++ r')=aP (enc t) (enc u) :=
 mH _ _ _ _ (λ z e=>h (gs t u z [] (by rw [List.append_nil]; exact e)).1) (λ z e=>h (gs t u [] z (by rw [List.append_nil]; exact e)).1)
theorem nT (n n':Int) (t t':Tl) (r r':Tls):aP (ec (.cons n t r)) (ec (.cons n' t' r'))=aP (n :: (enc t ++ ec r)) (n' :: (enc t' ++ ec r')):=by
 rw [ec,ec,aP,if_pos rfl]
theorem yk:(PyData.str "piece").canLay0=true:=by decide +kernel
theorem vI (dn:Bool):(PyData.str (wyL dn)).canLay0=true:=by cases dn <;> decide +kernel
mutual
theorem eH:∀t:Tl,(tlD t).canLay0=true
 | .rest=>by decide +kernel
 | .piece i c x y=>by
  have:=yk
  simp only [tlD,PyData.canLay0,PyData.canLayAll0,Bool.and_true] at this ⊢
  exact this
 | .row dn r=>by
  have h1:=vI dn
  have h2:=eY r
  simp only [tlD,PyData.canLay0,PyData.canLayAll0,Bool.and_true] at h1 ⊢
  rw [h1,h2]; rfl
theorem eY:∀t:Tls,PyData.canLayAll0 (bm t)=true
 | .nil=>rfl
 | .cons n t r=>by
  have h1:=eH t
  have h2:=eY r
  simp only [bm,PyData.canLayAll0,PyData.canLay0,Bool.and_true,Bool.true_and]
  rw [h1,h2]; rfl
end
mutual
theorem fK:∀t u:Tl,PyData.eqv (tlD t) (tlD u)=true↔t=u
 | .rest,.rest=>by simp [tlD,PyData.eqv,PyData.eqvAll]
 | .rest,.piece .. => by simp [tlD,PyData.eqv,PyData.eqvAll]
 | .rest,.row dn _=>by simp [tlD,PyData.eqv,PyData.eqvAll]
 | .piece ..,.rest=>by simp [tlD,PyData.eqv,PyData.eqvAll]
 | .piece i c x y,.piece i' c' x' y'=>by
  simp only [tlD,PyData.eqv,PyData.eqvAll,Bool.and_eq_true,beq_iff_eq,true_and,and_true,Tl.piece.injEq]
  constructor
  ·rintro ⟨h1,h2,h3,h4⟩; exact ⟨by omega,h2,h3,h4⟩
  ·rintro ⟨h1,h2,h3,h4⟩; exact ⟨by omega,h2,h3,h4⟩
 | .piece ..,.row dn _=>by simp [tlD,PyData.eqv,PyData.eqvAll]
 | .row dn _,.rest=>by simp [tlD,PyData.eqv,PyData.eqvAll]
 | .row dn _,.piece .. => by simp [tlD,PyData.eqv,PyData.eqvAll]
 | .row dn r,.row dn' r'=>by
  have h:=jm r r'
  simp only [tlD,PyData.eqv,PyData.eqvAll,Bool.and_eq_true,beq_iff_eq,and_true,Tl.row.injEq]
  rw [h]
  constructor
  ·rintro ⟨h1,h2⟩; exact ⟨by cases dn <;> cases dn' <;> first | rfl | exact absurd h1 (by decide +kernel),h2⟩
  ·rintro ⟨h1,h2⟩; rw [h1]; exact ⟨Y,h2⟩
theorem jm:∀t u:Tls,PyData.eqvAll (bm t) (bm u)=true↔t=u
 | .nil,.nil=>by simp [bm,PyData.eqvAll]
 | .nil,.cons .. => by simp [bm,PyData.eqvAll]
 | .cons ..,.nil=>by simp [bm,PyData.eqvAll]
 | .cons n t r,.cons n' t' r'=>by
  have h1:=fK t t'
  have h2:=jm r r'
  simp only [bm,PyData.eqv,PyData.eqvAll,Bool.and_eq_true,beq_iff_eq,and_true,Tls.cons.injEq]
  rw [h1,h2,and_assoc]
end
theorem tU {t u:Tl} (h:tlD t=tlD u):t=u:=(fK t u).mp (by rw [h]; exact (fK u u).mpr rfl)
end L2
set_option Elab.async false
set_option linter.all false
set_option maxRecDepth 100000
namespace PySem.SeqAt
open AutoSeq1 (wpAny_loadPart')
open MeetsSeq MeetsSeq2 MeetsSeq3 SeqRoads2
def LtAt (A:Around) (s:Shared) (y x:Value) (b:Bool):Prop :=
 ∀ (prog:Program) (w:World) (E:Value->Shared->Prop) (Q:Value->Shared->Prop),Q (.bool b) s->wpAny (model prog w) A (richCompare .Lt y x) Q E s
inductive LexAt (A:Around) (s:Shared) (fin:Bool):List (Value×Value)->Bool->Prop
 | nil:LexAt A s fin [] fin
 | eq {x y:Value} {r:List (Value×Value)} {c:Bool}:EqAt A s x y true->LexAt A s fin r c->LexAt A s fin ((x,y) :: r) c
 | ne {x y:Value} {r:List (Value×Value)} {c:Bool}:EqAt A s x y false->LtAt A s x y c->LexAt A s fin ((x,y) :: r) c
theorem lG (l b:Addr) (items items2:Array Value) (n n2:Nat) (dd dd2:Option Addr) (sl sl2:Array (Option Value)) (c:Bool) :
  Meets (Builtin.«tuple.__lt__» ⟨[.ref l,.ref b],[]⟩)
   (λ A R s=>s.heap.get? l=some { cls:=.type "tuple",dict:=dd,data:=.seq items n,slots:=sl }/\s.heap.get? b=some { cls:=.type "tuple",dict:=dd2,data:=.seq items2 n2,slots:=sl2 } /\
    LexAt A.in1 s (decide (items.size < items2.size)) (items.toList.zip items2.toList) c/\R (.ok (.ret (.bool c))) s) :=
 .of_wp λ prog w A R s h=>by
  obtain ⟨hp,g,d,tk,os⟩:=s; obtain ⟨hl,hb,he,h⟩:=h
  have f2:=AutoSeq1.sub_tuple_tuple
  wp_walk using wpAny_loadPart' hl,wpAny_loadPart' hb,wpAny_forIn_list _ (λ rest b s'=>b.1=none/\s'=⟨hp,g,d,tk,os⟩/\LexAt A.in1 ⟨hp,g,d,tk,os⟩ (decide (items.size < items2.size)) rest c) _
  case turn =>
   rintro ⟨y,x⟩ rest b s' ⟨hb',rfl,hL⟩
   cases hL with
   | eq h1 h2 =>
    refine wpAny_bind (h1 prog w _ _ ?_)
    wp_walk
    exact ⟨Y,Y,h2⟩
   | ne h1 h2 =>
    refine wpAny_bind (h1 prog w _ _ ?_)
    simp only [Bool.not_false,if_true]
    refine wpAny_bind (wpAny_rule ?_)
    refine wpAny_bind (h2 prog w _ _ ?_)
    wp_walk
    exact ⟨_,Y,h⟩
  case fin =>
   rintro ⟨b1,b2⟩ s' ⟨hb',rfl,hL⟩
   simp only at hb'
   subst hb'
   cases hL
   wp_walk
   exact ⟨_,Y,by simpa [Builtin.Tuple.tupleCompareSizes] using h⟩
  case h =>
   exact ⟨Y,Y,he⟩
theorem LtAt.tuples {A:Around} {s:Shared} {l b:Addr} {items items2:Array Value} {c:Bool} (hl:s.heap.IsTuple l items) (hb:s.heap.IsTuple b items2) (hu:A.units < cLine)
  (he:LexAt A.in1 s (decide (items.size < items2.size)) (items.toList.zip items2.toList) c):LtAt A s (.ref l) (.ref b) c:=λ prog w E Q h=>by
 obtain ⟨⟨cls,dd,data,sl⟩,ho,hc,n,hd⟩:=id hl
 obtain ⟨⟨cls2,dd2,data2,sl2⟩,ho2,hc2,n2,hd2⟩:=id hb
 simp only at hc hd hc2 hd2
 subst hc hd hc2 hd2
 exact richCompare_meets_room (op:=.Lt) ⟨_,ho,rfl⟩ ⟨_,ho2,rfl⟩ F.slot_tuple_lt F.entry_tuple_lt (F.args_tuple_lt_2 _ _) (lG l b items items2 n n2 dd dd2 sl sl2 c)
  ⟨ho,ho2,he,show Value.bool c≠Value.notImplemented/\Q (.bool c) s from ⟨(λ x=>nomatch x),h⟩⟩ hu
end PySem.SeqAt
namespace L2
open PySem PySem.Spec PyProof.Rows PySem.SeqAt
theorem aO {h:Heap} {a:Value} {ds:List PyData} {as:List Addr} (r:Reads h a (.tuple ds) as):∃l vs bs,a=.ref l/\h.IsTuple l (List.toArray vs)/\ReadsAll h vs ds bs:=by
 cases r with
 | @tuple l o vs n xs as h1 h2 h3 h4=>exact ⟨l,vs.toList,_,Y,⟨o,h1,h2,n,by simpa using h3⟩,h4⟩
theorem ax {h:Heap} {vs:List Value} {d:PyData} {ds:List PyData} {as:List Addr} (r:ReadsAll h vs (d :: ds) as):∃v vs' bs cs,vs=v :: vs'/\Reads h v d bs/\ReadsAll h vs' ds cs:=by
 cases r with
 | cons h1 h2=>exact ⟨_,_,_,_,Y,h1,h2⟩
theorem bd {h:Heap} {vs:List Value} {as:List Addr} (r:ReadsAll h vs [] as):vs=[]:=by
 cases r; rfl
theorem cB {A:Around} {s:Shared} {x y:Value} {z z':Str} {as bs:List Addr} (hx:Reads s.heap x (.str z) as) (hy:Reads s.heap y (.str z') bs) {c:Bool} (hne:(z == z')=false) (hc:decide (z.cps.toList < z'.cps.toList)=c) {fin:Bool} {r:List (Value×Value)}:LexAt A s fin ((x,y) :: r) c:=by
 cases hx
 cases hy
 rename_i t u
 refine .ne ?_ λ prog w E Q h=>PyProof.Rows.lt_str (by rw [hc]; exact h)
 have:=EqAt.str_str (A:=A) (s:=s) z t z' u
 rw [hne] at this
 exact this
theorem hG {A:Around} {s:Shared} {x y:Value} {z:Str} {as bs:List Addr} (hx:Reads s.heap x (.str z) as) (hy:Reads s.heap y (.str z) bs):EqAt A s x y true:=by
 cases hx
 cases hy
 rename_i t u
 have:=EqAt.str_str (A:=A) (s:=s) z t z u
 rw [beq_self_eq_true] at this
 exact this
theorem mI {A:Around} {s:Shared} {x y:Value} {n m:Int} {as bs:List Addr} (hx:Reads s.heap x (.int n) as) (hy:Reads s.heap y (.int m) bs):EqAt A s x y (n == m):=by
 cases hx
 cases hy
 exact EqAt.int_int n _ m _
theorem tV {A:Around} {s:Shared} {x y:Value} {n m:Int} {as bs:List Addr} (hx:Reads s.heap x (.int n) as) (hy:Reads s.heap y (.int m) bs):LtAt A s x y (decide (n < m)):=by
 cases hx
 cases hy
 exact λ prog w E Q h=>PyProof.Rows.lt_int h
theorem gt {A:Around} {s:Shared} {x y:Value} {n m:Int} {as bs:List Addr} {fin:Bool} {r:List (Value×Value)} {u v:List Int} (hx:Reads s.heap x (.int n) as) (hy:Reads s.heap y (.int m) bs) (h:n=m->LexAt A s fin r (aP u v)):LexAt A s fin ((x,y) :: r) (aP (n :: u) (m :: v)):=by
 have e:=mI (A:=A) hx hy
 rw [aP]
 by_cases c:n=m
 ·rw [if_pos c]
  rw [show (n == m)=true by simpa using c] at e
  exact .eq e (h c)
 ·rw [if_neg c]
  rw [show (n == m)=false by simpa using c] at e
  exact .ne e (tV hx hy)
theorem qR {A:Around} {s:Shared} {x y:Value} {n m:Bool} {as bs:List Addr} {fin:Bool} {r:List (Value×Value)} {u v:List Int} (hx:Reads s.heap x (.bool n) as) (hy:Reads s.heap y (.bool m) bs) (h:n=m->LexAt A s fin r (aP u v)):LexAt A s fin ((x,y) :: r) (aP (b01 n :: u) (b01 m :: v)):=by
 cases hx
 cases hy
 have e:=EqAt.bool_bool (A:=A) (s:=s) n m
 rw [aP]
 by_cases c:n=m
 ·rw [if_pos (by rw [c])]
  rw [show (n == m)=true by simpa using c] at e
  exact .eq e (h c)
 ·rw [if_neg (λ z=>c (jl z))]
  rw [show (n == m)=false by simpa using c] at e
  refine .ne e λ prog w E Q h=>PyProof.Rows.lt_bool ?_
  have:decide (b2i n < b2i m)=decide (b01 n < b01 m):=by cases n <;> cases m <;> rfl
  show Q (.bool (decide (b2i n < b2i m))) s
  rw [this]
  exact h
theorem mJ {A:Around} {s:Shared} {x y:Value} {fin c:Bool} {p:Prop} {k:Bool} (hp:k=true↔p) (h1:EqAt A s x y k) (h2:¬p->LtAt A s x y c) (h3:p->fin=c):LexAt A s fin [(x,y)] c:=by
 cases k with
 | true =>
  rw [<- h3 (hp.mp rfl)]
  exact .eq h1 .nil
 | false=>exact .ne h1 (h2 λ z=>absurd (hp.mpr z) (by decide))
theorem lH (d:PyData) (ds:List PyData):d.depth<=PyData.depthAll (d :: ds)/\PyData.depthAll ds<=PyData.depthAll (d :: ds):=by
 rw [PyData.depthAll]; omega
mutual
theorem vd:∀ (t u:Tl) (A:Around) (s:Shared) (a b:Value) (as bs:List Addr),Reads s.heap a (tlD t) as->Reads s.heap b (tlD u) bs->A.units + (tlD t).depth < cLine->LtAt A s a b (aP (enc t) (enc u))
 | .rest,u,A,s,a,b,as,bs,ra,rb,hu=>by
  rw [tlD] at ra
  obtain ⟨l,vs,_,rfl,ta,ra⟩:=aO ra
  obtain ⟨v,vs,_,_,rfl,r1,ra⟩:=ax ra
  cases bd ra
  cases u with
  | rest =>
   rw [tlD] at rb
   obtain ⟨l',ws,_,rfl,tb,rb⟩:=aO rb
   obtain ⟨w,ws,_,_,rfl,r2,rb⟩:=ax rb
   cases bd rb
   exact .tuples ta tb (by omega) (.eq (hG r1 r2) .nil)
  | piece i c x y =>
   rw [tlD] at rb
   obtain ⟨l',ws,_,rfl,tb,rb⟩:=aO rb
   obtain ⟨w,ws,_,_,rfl,r2,rb⟩:=ax rb
   exact .tuples ta tb (by omega) (cB r1 r2 (by decide +kernel) (by rw [enc,enc,aP,if_neg (by decide)]; decide +kernel))
  | row dn r =>
   rw [tlD] at rb
   obtain ⟨l',ws,_,rfl,tb,rb⟩:=aO rb
   obtain ⟨w,ws,_,_,rfl,r2,rb⟩:=ax rb
   exact .tuples ta tb (by omega) (by cases dn <;> exact cB r1 r2 (by decide +kernel) (by rw [enc,enc,aP,if_neg (by decide)]; decide +kernel))
 | .piece i c x y,u,A,s,a,b,as,bs,ra,rb,hu=>by
  rw [tlD] at ra
  obtain ⟨l,vs,_,rfl,ta,ra⟩:=aO ra
  obtain ⟨v,vs,_,_,rfl,r1,ra⟩:=ax ra
  cases u with
  | rest =>
   rw [tlD] at rb
   obtain ⟨l',ws,_,rfl,tb,rb⟩:=aO rb
   obtain ⟨w,ws,_,_,rfl,r2,rb⟩:=ax rb
   exact .tuples ta tb (by omega) (cB r1 r2 (by decide +kernel) (by rw [enc,enc,aP,if_neg (by decide)]; decide +kernel))
  | piece i' c' x' y' =>
   rw [tlD] at rb
   obtain ⟨l',ws,_,rfl,tb,rb⟩:=aO rb
   obtain ⟨w,ws,_,_,rfl,r2,rb⟩:=ax rb
   obtain ⟨v1,vs,_,_,rfl,a1,ra⟩:=ax ra
   obtain ⟨v2,vs,_,_,rfl,a2,ra⟩:=ax ra
   obtain ⟨v3,vs,_,_,rfl,a3,ra⟩:=ax ra
   obtain ⟨v4,vs,_,_,rfl,a4,ra⟩:=ax ra
   cases bd ra
   obtain ⟨w1,ws,_,_,rfl,c1,rb⟩:=ax rb
   obtain ⟨w2,ws,_,_,rfl,c2,rb⟩:=ax rb
   obtain ⟨w3,ws,_,_,rfl,c3,rb⟩:=ax rb
   obtain ⟨w4,ws,_,_,rfl,c4,rb⟩:=ax rb
   cases bd rb
   refine .tuples ta tb (by omega) (.eq (hG r1 r2) ?_)
   rw [enc,enc,aP,if_pos rfl]
   exact gt a1 c1 λ _=>qR a2 c2 λ _=>gt a3 c3 λ _=>gt a4 c4 λ _=>.nil
  | row dn r =>
   rw [tlD] at rb
   obtain ⟨l',ws,_,rfl,tb,rb⟩:=aO rb
   obtain ⟨w,ws,_,_,rfl,r2,rb⟩:=ax rb
   exact .tuples ta tb (by omega) (by cases dn <;> exact cB r1 r2 (by decide +kernel) (by rw [enc,enc,aP,if_neg (by decide)]; decide +kernel))
 | .row dn r,u,A,s,a,b,as,bs,ra,rb,hu=>by
  rw [tlD] at ra hu
  obtain ⟨l,vs,_,rfl,ta,ra⟩:=aO ra
  obtain ⟨v,vs,_,_,rfl,r1,ra⟩:=ax ra
  cases u with
  | rest =>
   rw [tlD] at rb
   obtain ⟨l',ws,_,rfl,tb,rb⟩:=aO rb
   obtain ⟨w,ws,_,_,rfl,r2,rb⟩:=ax rb
   exact .tuples ta tb (by omega) (by cases dn <;> exact cB r1 r2 (by decide +kernel) (by rw [enc,enc,aP,if_neg (by decide)]; decide +kernel))
  | piece i c x y =>
   rw [tlD] at rb
   obtain ⟨l',ws,_,rfl,tb,rb⟩:=aO rb
   obtain ⟨w,ws,_,_,rfl,r2,rb⟩:=ax rb
   exact .tuples ta tb (by omega) (by cases dn <;> exact cB r1 r2 (by decide +kernel) (by rw [enc,enc,aP,if_neg (by decide)]; decide +kernel))
  | row dn' r' =>
   rw [tlD] at rb
   obtain ⟨l',ws,_,rfl,tb,rb⟩:=aO rb
   obtain ⟨w,ws,_,_,rfl,r2,rb9⟩:=ax rb
   by_cases e:dn=dn'
   ·subst e
    obtain ⟨v1,vs,_,_,rfl,a1,ra⟩:=ax ra
    cases bd ra
    obtain ⟨w1,ws,_,_,rfl,c1,rb8⟩:=ax rb9
    cases bd rb8
    have hu:A.units + (max 0 (max (PyData.depthAll (bm r) + 1) 0) + 1) < cLine:=hu
    refine .tuples ta tb (by omega) (.eq (hG r1 r2) ?_)
    rw [enc,enc,aP,if_pos rfl]
    have k:PyData.eqv (.tuple (bm r)) (.tuple (bm r'))=true↔r=r':=jm r r'
    refine mJ k (eqAt_reads _ _ _ s _ _ _ _ a1 c1 (eY r) (eY r') (by rw [PyData.depth]; show A.units + 1 + _ < _; omega)) (λ _=>?_) (λ z=>by rw [z,bT]; rfl)
    obtain ⟨p,ps,_,rfl,tp,rp⟩:=aO a1
    obtain ⟨q,qs,_,rfl,tq,rq⟩:=aO c1
    refine .tuples tp tq (by show A.units + 1 < _; omega) ?_
    exact mK r r' _ s ps qs _ _ rp rq (by show A.units + 1 + 1 + _ < _; omega)
   ·exact .tuples ta tb (by omega) (by cases dn <;> cases dn' <;> first | exact absurd rfl e | exact cB r1 r2 (by decide +kernel) (by rw [enc,enc,aP,if_neg (by decide)]; decide +kernel))
theorem mK:∀ (r r':Tls) (A:Around) (s:Shared) (vs ws:List Value) (as bs:List Addr),ReadsAll s.heap vs (bm r) as->ReadsAll s.heap ws (bm r') bs->A.units + PyData.depthAll (bm r) < cLine->LexAt A s (decide (vs.length < ws.length)) (vs.zip ws) (aP (ec r) (ec r'))
 | .nil,.nil,A,s,vs,ws,as,bs,ra,rb,hu=>by
  cases bd ra
  cases bd rb
  exact .nil
 | .nil,.cons ..,A,s,vs,ws,as,bs,ra,rb,hu=>by
  cases bd ra
  rw [bm] at rb
  obtain ⟨w,ws,_,_,rfl,r2,rb⟩:=ax rb
  exact .nil
 | .cons ..,.nil,A,s,vs,ws,as,bs,ra,rb,hu=>by
  cases bd rb
  rw [bm] at ra
  obtain ⟨w,ws,_,_,rfl,r2,ra⟩:=ax ra
  exact .nil
 | .cons n t r,.cons m u r',A,s,vs,ws,as,bs,ra,rb,hu=>by
  rw [bm] at ra rb hu
  obtain ⟨v,vs,_,_,rfl,r1,ra9⟩:=ax ra
  obtain ⟨w,ws,_,_,rfl,r2,rb9⟩:=ax rb
  have hd:=lH (.tuple [.int n,tlD t]) (bm r)
  have h0:(PyData.tuple [.int n,tlD t]).depth=max 0 (max (tlD t).depth 0) + 1:=rfl
  have k:PyData.eqv (.tuple [.int n,tlD t]) (.tuple [.int m,tlD u])=true↔n=m/\t=u:=by
   have:=fK t u
   simp only [PyData.eqv,PyData.eqvAll,Bool.and_eq_true,beq_iff_eq,and_true]
   rw [this]
  have lay:∀ (n:Int) (t:Tl),(PyData.tuple [.int n,tlD t]).canLay0=true:=λ n t=>by
   simp only [PyData.canLay0,PyData.canLayAll0,Bool.and_true,Bool.true_and]
   exact eH t
  have e:=eqAt_reads _ _ A s _ _ _ _ r1 r2 (lay n t) (lay m u) (by omega)
  rw [nT,List.zip_cons_cons,show decide ((v :: vs).length < (w :: ws).length)=decide (vs.length < ws.length) by simp]
  cases z:PyData.eqv (.tuple [.int n,tlD t]) (.tuple [.int m,tlD u]) with
  | true =>
   rw [z] at e
   obtain ⟨rfl,rfl⟩:=k.mp z
   rw [aP,if_pos rfl,mG]
   exact .eq e (mK r r' A s vs ws _ _ ra9 rb9 (by omega))
  | false =>
   rw [z] at e
   refine .ne e ?_
   have nk:¬(n=m/\t=u):=λ y=>by rw [k.mpr y] at z; cases z
   obtain ⟨p,ps,_,rfl,tp,rp⟩:=aO r1
   obtain ⟨q,qs,_,rfl,tq,rq⟩:=aO r2
   obtain ⟨v1,ps,_,_,rfl,a1,rp⟩:=ax rp
   obtain ⟨v2,ps,_,_,rfl,a2,rp⟩:=ax rp
   cases bd rp
   obtain ⟨w1,qs,_,_,rfl,c1,rq⟩:=ax rq
   obtain ⟨w2,qs,_,_,rfl,c2,rq⟩:=ax rq
   cases bd rq
   refine .tuples tp tq (by omega) (gt a1 c1 λ hn=>?_)
   rw [tT (λ z=>nk ⟨hn,z⟩)]
   exact mJ (fK t u) (eqAt_reads _ _ _ s _ _ _ _ a2 c2 (eH t) (eH u) (by show A.units + 1 + _ < _; omega)) (λ _=>vd t u _ s _ _ _ _ a2 c2 (by show A.units + 1 + _ < _; omega)) (λ z=>absurd ⟨hn,z⟩ nk)
end
end L2
set_option Elab.async false
set_option linter.all false
set_option maxRecDepth 100000
namespace PyProof.Rows
open PySem
section
variable {prog:Program} {w:World} {A:Around} {E:Value->Shared->Prop} {s:Shared}
theorem qS {κ:KeyKind} {κ0:SortKind} {l:Addr} {vs:List Value} {Q:Value->Shared->Prop} (hl:s.heap.IsList l vs.toArray) (h0:KeysOf κ (pairsOf vs)) (hkk:∀ (A':Around) (s':Shared),A'.units<=A.units + 4->(∀b o,s.heap.get? b=some o->s'.heap.get? b=some o)->bO prog w A' s' κ0 κ/\∀v₁ v₂ rest,vs=v₁ :: v₂ :: rest->∀ (Q:SortKind->Shared->Prop) (E':Value->Shared->Prop),Q κ0 s'->wpAny (model prog w) A' (keyKind' (v₁ :: v₂ :: rest).toArray) Q E' s') (h64:vs.length < 64)
  (h:∀st':SortSt,(arrOf st').Perm (pairsOf vs)->SortedToK κ (arrOf st') (pairsOf vs).size->Q (.ref (s.heap.objs.size + 1)) { s with heap:=sortedAll s.heap vs ((arrOf st').map (·.2)) }) :
  wpAny (model prog w) A (call (.builtin "sorted") [.ref l]) Q E s:=by
 refine Calls.call_function_entry kind_sorted plain_sorted entry_sorted (args_sorted1 _) ?_
 unfold Builtin.«sorted»
 refine wpAny_bind (m:=checkCount "sorted" 1 1 _) (wpAny_pure ?_)
 refine wpAny_bind (collect_list hl ?_)
 refine wpAny_bind (wpAny_newList ?_)
 have hsz:((s.heap.push (seqObj "list" #[] 0)).update s.heap.objs.size (Obj.mapSeq (· ++ vs.toArray))).objs.size=s.heap.objs.size + 1:=by
  rw [Heap.size_update,size_push']
 have hoL:(((s.heap.push (seqObj "list" #[] 0)).update s.heap.objs.size (Obj.mapSeq (· ++ vs.toArray))).push (seqObj "list" vs.toArray 0)).get? (s.heap.objs.size + 1)=some (seqObj "list" vs.toArray 0):=by
  rw [<- hsz]; exact Heap.get?_push_size _ rfl
 show wpAny _ _ _ _ _ { s with heap:=((s.heap.push (seqObj "list" #[] 0)).update s.heap.objs.size (Obj.mapSeq (· ++ vs.toArray))).push (seqObj "list" vs.toArray 0) }
 rw [hsz]
 refine wpAny_bind (wpAny_holding (wpAny_call_entry slot_list_sort ⟨_,hoL,rfl⟩ entry_list_sort (dw hoL h0 (λ s' k=>by refine And.imp id (λ a2 v1 v2 r e Q q=>a2 v1 v2 r e Q _ q) (hkk _ s' ?_ (λ b o e=>k b o (Nat.ne_of_lt (Nat.lt_succ_of_lt (Heap.lt_size e))) (Heap.get?_push_of_some _ (by rw [Heap.get?_update_ne _ _ _ _ (Nat.ne_of_lt (Heap.lt_size e))]; exact Heap.get?_push_of_some _ e)))); show A.units + 1 + 1<=A.units + 4; omega) h64 λ st' a1 a2=>⟨_,Y,?_⟩) (args_list_sort _)))
 exact wpAny_pure ⟨_,rfl,h st' a1 a2⟩
end
end PyProof.Rows
namespace L2
open PySem PySem.Spec PyProof.Rows PySem.SeqAt
mutual
theorem gu {h h':Heap} (k:∀b o,h.get? b=some o->h'.get? b=some o):∀ {v:Value} {d:PyData} {as:List Addr},Reads h v d as->Reads h' v d as
 | _,_,_,.none=>.none
 | _,_,_,.bool b=>.bool b
 | _,_,_,.int i t=>.int i t
 | _,_,_,.str x t=>.str x t
 | _,_,_,.list h1 h2 h3 h4=>.list (k _ _ h1) h2 h3 (dG k h4)
 | _,_,_,.tuple h1 h2 h3 h4=>.tuple (k _ _ h1) h2 h3 (dG k h4)
 | _,_,_,.dict h1 h2 h3 h4 h5=>.dict (k _ _ h1) h2 h3 (dG k h4) (dG k h5)
theorem dG {h h':Heap} (k:∀b o,h.get? b=some o->h'.get? b=some o):∀ {v:List Value} {d:List PyData} {as:List Addr},ReadsAll h v d as->ReadsAll h' v d as
 | _,_,_,.nil=>.nil
 | _,_,_,.cons a r=>.cons (gu k a) (dG k r)
end
def ItR (h:Heap) (m:Nat) (v:Value) (z:Int×Tl):Prop:=(∃as,Reads h v (.tuple [.int z.1,tlD z.2]) as)/\(tlD z.2).depth<=m
def bU (z:Int×Tl):List Int:=z.1 :: enc z.2
theorem qT {a b:Int×Tl} (h:bU a=bU b):a=b:=by
 obtain ⟨n,t⟩:=a
 obtain ⟨m,u⟩:=b
 have h:n :: enc t=m :: enc u:=h
 injection h with h1 h2
 rw [h1,tS h2]
theorem vJ (n:Int) (t:Tl):(PyData.tuple [.int n,tlD t]).canLay0=true:=by
 simp only [PyData.canLay0,PyData.canLayAll0,Bool.and_true,Bool.true_and]
 exact eH t
theorem ItR.uniq {h:Heap} {m:Nat} {v:Value} {a b:Int×Tl} (ha:ItR h m v a) (hb:ItR h m v b):a=b:=by
 obtain ⟨⟨as,ra⟩,_⟩:=ha
 obtain ⟨⟨bs,rb⟩,_⟩:=hb
 have:=Reads.unique _ _ v as bs (vJ _ _) ra rb
 obtain ⟨n,t⟩:=a
 obtain ⟨n',t'⟩:=b
 simp only [PyData.tuple.injEq,List.cons.injEq,PyData.int.injEq,and_true] at this
 rw [this.1,tU this.2]
open Classical in
noncomputable def ki (h:Heap) (m:Nat) (v:Value):Option (List Int):=if e:∃z,ItR h m v z then some (bU e.choose) else none
theorem kj {h:Heap} {m:Nat} {v:Value} {k:List Int} (e:ki h m v=some k):∃z,ItR h m v z/\k=bU z:=by
 unfold ki at e
 split at e
 ·rename_i x
  exact ⟨_,x.choose_spec,(Option.some.inj e).symm⟩
 ·cases e
theorem qU {h:Heap} {m:Nat} {v:Value} {z:Int×Tl} (hz:ItR h m v z):ki h m v=some (bU z):=by
 unfold ki
 rw [dif_pos ⟨z,hz⟩,(Exists.choose_spec (⟨z,hz⟩:∃z,ItR h m v z)).uniq hz]
noncomputable def tlK (h:Heap) (m:Nat):KeyKind where
 α:=List Int
 blt:=aP
 irrefl:=bT
 trans:=dS
 negTrans:=gq
 total:=cS
 keyOf:=ki h m
 dflt:=[]
section
variable {prog:Program} {w:World} {A:Around} {E:Value->Shared->Prop} {s:Shared}
theorem qV {h:Heap} {m:Nat} (hu:A.units + m < cLine) (k:∀b o,h.get? b=some o->s.heap.get? b=some o):bO prog w A s (tuples' true) (tlK h m):=by
 intro E x y a b Q ha hb q
 obtain ⟨⟨n,t⟩,⟨⟨as,ra⟩,da⟩,rfl⟩:=kj ha
 obtain ⟨⟨n',t'⟩,⟨⟨bs,rb⟩,db⟩,rfl⟩:=kj hb
 obtain ⟨l,vs,_,rfl,⟨ox,hx,cx,nx,dx⟩,ra⟩:=aO (gu k ra)
 obtain ⟨l',ws,_,rfl,⟨oy,hy,cy,ny,dy⟩,rb⟩:=aO (gu k rb)
 obtain ⟨v1,vs,_,_,rfl,a1,ra⟩:=ax ra
 obtain ⟨v2,vs,_,_,rfl,a2,ra⟩:=ax ra
 cases bd ra
 obtain ⟨w1,ws,_,_,rfl,c1,rb⟩:=ax rb
 obtain ⟨w2,ws,_,_,rfl,c2,rb⟩:=ax rb
 cases bd rb
 have q:Q (aP (n :: enc t) (n' :: enc t')) s:=q
 rw [aP] at q
 refine PySem.W.kat_lt hx dx hy dy (PySem.W.kat_cons (mI a1 c1 prog w _ _ (PySem.W.kat_go (λ e=>PySem.W.kat_yes (PySem.W.kat_cons ?_)) (λ e=>PySem.W.kat_no ?_))))
 ·have e:n=n':=by simpa using e
  rw [if_pos e] at q
  have hd:A.units + min (tlD t).depth (tlD t').depth < cLine:=by
   have:(tlD t).depth<=m:=da
   omega
  refine eqAt_reads _ _ A s _ _ _ _ a2 c2 (eH t) (eH t') hd prog w _ _ (PySem.W.kat_go (λ e=>PySem.W.kat_yes (PySem.W.kat_nil ?_)) (λ e=>PySem.W.kat_no (PySem.W.kat_one _ _ ?_)))
  ·rw [(fK t t').mp e,bT] at q
   exact q
  ·have:(tlD t).depth<=m:=da
   exact vd t t' A s _ _ _ _ a2 c2 (by omega) prog w _ _ q
 ·have e:¬n=n':=by simpa using e
  rw [if_neg e] at q
  cases a1
  cases c1
  exact oneLt_int q
end
section
variable {X:Cx}
inductive rSortL (K:PySem.W.Frag) (xs:List V) (H:Hp) (Q:VK):Prop
 | mk (p:Addr) (as:List Addr) (key:Addr->Int×Tl) (h0:xs=[.ref p]) (h1:SqL K H p (as.map V.ref)) (h2:as.length < 64) (h3:∀a∈as,DatV K H (.ref a) (.tuple [.int (key a).1,tlD (key a).2])/\(tlD (key a).2).depth<=200)
  (h4:∀ (l:Addr) (as':List Addr),H l=none->as'.Perm as->(as'.map key).Pairwise (λ x y=>aP (bU y) (bU x)=false)->Q (.ref l) (upd H l (.lst (as'.map V.ref)))):rSortL K xs H Q
theorem jn (hu:X.A.units + 220 < cLine):cj X (.builtin "sorted") (rSortL X.K):=by
 intro pins s σ H xs us Q I r h
 obtain ⟨p,as,key,rfl,hs,h64,hk,q⟩:=h
 obtain ⟨u,rfl,rfl⟩:=ek r
 obtain ⟨its,rv,pl,_⟩:=I.list hs
 have ei:=fI rv
 subst ei
 have tu:∀a∈as,ItR s.heap 200 (.ref a) (key a):=λ a ha=>by
  obtain ⟨hd,d2⟩:=hk a ha
  obtain ⟨bs,rd⟩:=I.reads hd (u:=.ref a) rfl
  exact ⟨⟨bs,rd⟩,d2⟩
 have kof:∀a∈as,(tlK s.heap 200).keyOf (.ref a)=some (bU (key a)):=λ a ha=>qU (tu a ha)
 refine qS (κ:=tlK s.heap 200) (κ0:=tuples' true) pl.isList ?keys ?kk (by rw [List.length_map]; exact h64) λ st' hp hs'=>?_
 case keys =>
  intro pr hpr
  rw [pairsOf_toList] at hpr
  obtain ⟨a,ha,e⟩:=List.mem_map.mp (List.of_mem_zip (show (pr.1,pr.2)∈_ from hpr)).1
  exact ⟨bU (key a),by rw [<- e]; exact kof a ha⟩
 case kk =>
  intro A' s' ua k
  refine ⟨qV (by omega) k,λ v1 v2 rest e Q E' q=>?_⟩
  have firsts:∀bs:List Addr,(∀a∈bs,a∈as)->∃fs,PySem.W.KatTups s'.heap (bs.map Value.ref) fs/\fs.length=bs.length/\∀v∈fs,∃i t,v=Value.int i t:=λ bs=>by
   induction bs with
   | nil=>exact λ _=>⟨[],trivial,Y,λ v hv=>by cases hv⟩
   | cons a bs ih =>
    intro hb
    obtain ⟨fs,f1,f2,f3⟩:=ih λ b hb'=>hb b (List.mem_cons_of_mem _ hb')
    obtain ⟨⟨cs,rd⟩,_⟩:=tu a (hb a List.mem_cons_self)
    obtain ⟨l,vs,_,el,⟨o,h1,h2,n,h3⟩,ra⟩:=aO (gu k rd)
    cases el
    obtain ⟨x1,vs,_,_,rfl,a1,ra⟩:=ax ra
    cases a1 with
    | int _ t =>
     refine ⟨.int (key a).1 t :: fs,PySem.W.KatTups.cons h1 h2 h3 (by simp) f1,by rw [List.length_cons,List.length_cons,f2],λ v hv=>?_⟩
     rcases List.mem_cons.mp hv with z | z
     ·exact ⟨_,t,z⟩
     ·exact f3 v z
  obtain ⟨fs,f1,f2,f3⟩:=firsts as λ _ h=>h
  rw [e] at f1
  have:(as.map Value.ref).length=rest.length + 2:=by rw [e]; rfl
  rw [List.length_map] at this
  refine PySem.W.kat_kind (T:=.type "int") f1 (by omega) (λ v hv=>?_) rfl q
  obtain ⟨i,t,rfl⟩:=f3 v hv
  exact PySem.W.Looks.of_pure rfl
 have pz:∀l:List Addr,(l.map Value.ref).zip (l.map Value.ref)=l.map λ a=>(Value.ref a,Value.ref a):=λ l=>by
  induction l with
  | nil=>rfl
  | cons a l ih=>rw [List.map_cons,List.zip_cons_cons,ih,List.map_cons]
 have hp':=Array.perm_iff_toList_perm.mp hp
 rw [pairsOf_toList,pz] at hp'
 obtain ⟨as',ea,pa⟩:=jZ (f:=λ a=>(Value.ref a,Value.ref a)) (λ pr=>match pr.1 with
  | .ref a=>some a
  | _=>none) (λ a=>rfl) hp'
 have eo:((arrOf st').map (·.2)).toList=as'.map Value.ref:=by
  rw [Array.toList_map,ea,List.map_map]; rfl
 obtain ⟨e,he⟩:=sortedAll_at s.heap (as.map Value.ref) ((arrOf st').map (·.2))
 have hn:H (s.heap.objs.size + 1)=none:=I.hok.fresh (Nat.le_succ _)
 refine ⟨.ref (s.heap.objs.size + 1),upd H (s.heap.objs.size + 1) (.lst (as'.map V.ref)),I.laid (o:=.lst (as'.map V.ref)) (t':=s.toks) (λ _ _=>sortedAll_old) (Nat.le_succ _) (show ObjOk _ _ _ _ _ (.lst _) from ⟨?_,((arrOf st').map (·.2)).toList,e,?_,?_⟩),Y,q _ as' hn pa ?_⟩
 ·rw [List.length_map,pa.length_eq]
  have:(64:Nat)<=sizeLine:=by decide
  omega
 ·rw [eo]; exact fJ as'
 ·rw [he]
 ·rw [List.pairwise_iff_getElem]
  intro i j hi hj hij
  rw [List.length_map] at hi hj
  have sz:(pairsOf (as.map Value.ref)).size=as.length:=by rw [pairsOf_size,List.length_map]
  have kk:∀i (hi:i < as'.length),KK (tlK s.heap 200) (arrOf st') i=bU (key as'[i]):=λ i hi=>by
   have e:(arrOf st')[i]? = some (Value.ref as'[i],Value.ref as'[i]):=by
    rw [<- Array.getElem?_toList,ea,List.getElem?_map,List.getElem?_eq_getElem hi]; rfl
   unfold KK
   rw [e]
   show ((tlK s.heap 200).keyOf (.ref as'[i])).getD _=_
   rw [kof _ (pa.mem_iff.mp (List.getElem_mem hi))]; rfl
  have:=hs' i j (by omega) (by rw [sz,<- pa.length_eq]; exact hj)
  rw [kk i hi,kk j hj] at this
  rw [List.getElem_map,List.getElem_map]
  exact this
inductive rSortM (K:PySem.W.Frag) (xs:List V) (H:Hp) (Q:VK):Prop
 | mk (p:Addr) (ps:List (Addr×(Int×Tl))) (h0:xs=[.ref p]) (h1:SqL K H p (ps.map λ z=>V.ref z.1)) (h2:ps.length < 64) (h3:∀z∈ps,DatV K H (.ref z.1) (.tuple [.int z.2.1,tlD z.2.2])/\(tlD z.2.2).depth<=200)
  (h4:∀ (l:Addr) (ps':List (Addr×(Int×Tl))),H l=none->ps'.Perm ps->(ps'.map (·.2)).Pairwise (λ x y=>aP (bU y) (bU x)=false)->Q (.ref l) (upd H l (.lst (ps'.map λ z=>V.ref z.1)))):rSortM K xs H Q
open Classical in
theorem cm (hu:X.A.units + 220 < cLine):cj X (.builtin "sorted") (rSortM X.K):=by
 intro pins s σ H xs us Q I r h
 obtain ⟨p,ps,rfl,hs,h64,hk,q⟩:=h
 have tu:∀z∈ps,ItR s.heap 200 (.ref z.1) z.2:=λ z hz=>by
  obtain ⟨hd,d2⟩:=hk z hz
  obtain ⟨bs,rd⟩:=I.reads hd (u:=.ref z.1) rfl
  exact ⟨⟨bs,rd⟩,d2⟩
 have hkey:∃key:Addr->Int×Tl,∀z∈ps,key z.1=z.2:=by
  refine ⟨λ a=>if e:∃z,ItR s.heap 200 (.ref a) z then e.choose else (0,.rest),λ z hz=>?_⟩
  have e:∃y,ItR s.heap 200 (.ref z.1) y:=⟨_,tu z hz⟩
  show (if e:∃y,ItR s.heap 200 (.ref z.1) y then e.choose else (0,.rest))=z.2
  rw [dif_pos e]
  exact e.choose_spec.uniq (tu z hz)
 obtain ⟨key,hkey⟩:=hkey
 have eps:∀l:List (Addr×(Int×Tl)),(∀z∈l,key z.1=z.2)->(l.map (·.1)).map (λ a=>(a,key a))=l:=λ l=>by
  induction l with
  | nil=>exact λ _=>rfl
  | cons z l ih=>exact λ h=>by rw [List.map_cons,List.map_cons,ih λ y hy=>h y (List.mem_cons_of_mem _ hy),h z List.mem_cons_self]
 refine jn hu pins s σ H _ us Q I r ⟨p,ps.map (·.1),key,rfl,by rw [List.map_map]; exact hs,by rw [List.length_map]; exact h64,λ a ha=>?_,λ l as' hl pm pw=>?_⟩
 ·obtain ⟨z,hz,rfl⟩:=List.mem_map.mp ha
  rw [hkey z hz]
  exact hk z hz
 ·have:=q l (as'.map λ a=>(a,key a)) hl (by have:=pm.map λ a=>(a,key a); rw [eps ps hkey] at this; exact this) (by rw [List.map_map]; exact pw)
  rw [List.map_map] at this
  exact this
end
end L2
set_option Elab.async false
set_option linter.all false
set_option maxRecDepth 100000
namespace L2
open PySem PySem.Spec PyProof.Rows
section
variable {X:Cx}
theorem bp (hg:X.A.guards=some []) (hu:X.A.units + 220 < cLine):cj X (.builtin "repr") (λ xs H Q=>∃a d,xs=[.ref a]/\DatV X.K H (.ref a) d/\d.showable=true/\d.hasDict=false/\d.depth<=200/\d.shown.length<=sizeLine/\Q (.str d.shown) H):=by
 intro pins s σ H xs us Q I r h
 obtain ⟨a,d,rfl,hd,h1,h2,h3,h4,q⟩:=h
 obtain ⟨u,rfl,rfl⟩:=ek r
 obtain ⟨as,ra⟩:=I.reads hd (u:=.ref a) rfl
 exact repr_of_reads' ra h1 (λ z=>by rw [h2] at z; cases z) hg (by omega) (λ _ _ e=>e) (λ h' u tk hk=>⟨.str d.shown,H,I.kept hk,⟨_,Y⟩,q⟩) h4
end
end L2
set_option Elab.async false
set_option linter.all false
set_option maxRecDepth 100000
namespace L2
open PySem PySem.Spec PyProof.Rows PySem.SeqAt
section
variable {X:Cx}
theorem vK (hu:X.A.units + 220 < cLine):OpR X (compareOp .NotEq) (λ x y H Q=>∃da db,DatV X.K H x da/\DatV X.K H y db/\da.canLay0=true/\db.canLay0=true/\da.depth<=210/\Q (.bl (!PyData.eqv da db)) H):=by
 intro pins s σ H x y v u Q I rx ry h
 obtain ⟨da,db,hx,hy,s1,s2,dz,q⟩:=h
 obtain ⟨as,ra⟩:=I.reads hx rx
 obtain ⟨bs,rb⟩:=I.reads hy ry
 exact compareNe_reads ra rb s1 s2 (by have:min da.depth db.depth<=da.depth:=Nat.min_le_left _ _; omega) ⟨.bl _,H,I,rfl,q⟩
end
theorem tW {X:Cx} (K:PySem.W.Frag) {x y:Str} {px py pos:Pos} {k:Nat} (hK:X.K=K) (hc:X.calm=true) (hN:X.N.Nodup) (h0:X.N[0]? = some x) (h1:X.N[1]? = some y) (l0:X.env.scope.names.lookup x=some .local) (l1:X.env.scope.names.lookup y=some .local) :
  PG X (.Tuple [.Name x px,.Name y py] k pos) (ye K 2 (gCons (gG 0) (gCons (gG 1) vp))) :=
 hK ▸ lp hc (ah (ai hN h0 (.inl l0) (.inr l0)) (ah (ai hN h1 (.inl l1) (.inr l1)) aK))
theorem fL {K:PySem.W.Frag} {a:Addr} {xs:List V} {σ:St} {cap:List Nat} {k:Nat} {g:TG} {tt:TT} {te:TE} {Q:List V->Hp->Prop} {H:Hp} (hs:H a=some (.lst xs)\/H a=some (.tup xs)) (Pv:Nat->List V->Hp->Prop)
  (hk:∀i ys H',i<=xs.length->Pv i ys H'->∀o,H a=some o->H' a=some o) (h0:Pv 0 [] H)
  (ht:∀i x ys H',xs[i]? = some x->Pv i ys H'->ys.length < sizeLine/\g x (bX σ cap k) H' λ σ2 H2=>leS (bX σ cap k) σ2/\tt σ2 H2 λ ok H3=>if ok=true then te σ2 H3 (λ v H4=>Nx xs.length Pv i (ys ++ [v]) H4) else Nx xs.length Pv i ys H3)
  (hd:∀ys H',Pv xs.length ys H'->ys.length<=sizeLine/\Q ys H') :
  ((∃ys,SqL K H a ys)/\∃W,(∃m,W 0 m [] H)/\iB σ cap k (Itl K a) g tt te Q W)\/((∃ys,SqT K H a ys)/\∃W,(∃m,W 0 m [] H)/\iB σ cap k (Itt K a) g tt te Q W):=by
 rcases hs with z | z
 ·exact .inl ⟨⟨_,SqL.of z⟩,(cQ (K:=K) (.inl z) Pv hk h0 ht hd).1 z⟩
 ·exact .inr ⟨⟨_,SqT.of z⟩,(cQ (K:=K) (.inr z) Pv hk h0 ht hd).2 z⟩
theorem tX {K:PySem.W.Frag} {a:Addr} {xs:List V} {g:TG} {tb:TS} {D:Ends} {σ:St} {H:Hp} (Pv:Nat->St->Hp->Prop) (h0:Pv 0 σ H) (hl:∀i σ H,i<=xs.length->Pv i σ H->SqL K H a xs)
  (hs:∀i x σ H,i < xs.length->xs[xs.length - 1 - i]? = some x->Pv i σ H->g x σ H λ σ2 H2=>tb { D with nx:=Pv (i + 1),ct:=Pv (i + 1),bk:=D.nx } σ2 H2) (hd:∀σ H,Pv xs.length σ H->D.nx σ H) :
  ∃W:Nat->Nat->St->Hp->Prop,(∃m,W 0 m σ H)/\∀i m σ H,W i m σ H ->
   ((Itv K a xs.length).stop i H/\D.nx σ H)\/((Itv K a xs.length).go i H/\∃N:St->Hp->Prop,(∀σ' H',N σ' H'->∃m',m' < m/\W (i + 1) m' σ' H')/\∀x H',(Itv K a xs.length).yld i H x H'->g x σ H' λ σ2 H2=>tb { D with nx:=N,ct:=N,bk:=D.nx } σ2 H2):=by
 refine ⟨λ i m σ H=>m=xs.length - i/\i<=xs.length/\Pv i σ H,⟨xs.length,by simp,Nat.zero_le _,h0⟩,?_⟩
 rintro i m σ H ⟨rfl,hi,p⟩
 have q:=hl i σ H hi p
 by_cases hlt:i < xs.length
 ·have hj:xs.length - 1 - i < xs.length:=by omega
  refine .inr ⟨⟨hlt,xs,xs[xs.length - 1 - i],q,List.getElem?_eq_getElem hj⟩,Pv (i + 1),λ σ' H' p'=>⟨xs.length - (i + 1),by omega,Y,hlt,p'⟩,λ x H' y=>?_⟩
  obtain ⟨e,y⟩:=y
  subst e
  exact hs i x σ _ hlt (y xs q) p
 ·have e:i=xs.length:=by omega
  subst e
  exact .inl ⟨Y,hd σ H p⟩
end L2
set_option Elab.async false
set_option linter.all false
set_option maxRecDepth 100000
namespace Pc
open PySem L2
def top (i:Nat):Stmt:=PySem.Challenge.pw_platecuts_k82_whole_trees_of_tellings.main.body.getD i (.Pass ⟨0,0,0,0⟩)
abbrev ym:Stmt:=top 0
abbrev jo:Stmt:=top 11
abbrev jp:Stmt:=top 12
abbrev tY:Stmt:=top 13
abbrev cI:Stmt:=top 14
abbrev gw:Stmt:=top 19
abbrev dU:Stmt:=top 20
abbrev cJ:Stmt:=top 27
abbrev jq:Stmt:=top 28
abbrev gx:Stmt:=top 29
abbrev cn:Stmt:=top 30
abbrev gy:Stmt:=top 31
abbrev cX:Stmt:=top 32
abbrev cY:Stmt:=top 36
abbrev cZ:Stmt:=top 37
abbrev bv:Stmt:=top 38
abbrev de:Stmt:=top 39
abbrev jr:Stmt:=top 40
abbrev eZ:Stmt:=top 41
abbrev bV:Stmt:=top 42
abbrev bK:Stmt:=top 43
abbrev bi:Stmt:=top 44
abbrev dW:Stmt:=top 45
abbrev gz:Stmt:=top 49
abbrev gA:Stmt:=top 50
abbrev cT:Stmt:=inClass (top 51) 0
abbrev df:Stmt:=inClass (top 51) 1
abbrev lI:Stmt:=inClass (top 51) 2
abbrev km:Stmt:=inClass (top 51) 3
abbrev ko:Stmt:=inClass (top 51) 4
abbrev cq:Stmt:=inClass (top 51) 5
abbrev dg:Stmt:=inClass (top 51) 6
abbrev mL:Stmt:=top 53
abbrev tZ:Stmt:=top 54
abbrev mM:Stmt:=top 55
abbrev mN:Stmt:=top 56
abbrev mO:Stmt:=top 57
abbrev js:Stmt:=top 58
abbrev mP:Stmt:=top 59
abbrev jt:Stmt:=top 60
abbrev gB:Stmt:=top 61
abbrev gC:Stmt:=top 62
abbrev mQ:Stmt:=top 63
abbrev iF:Stmt:=top 64
abbrev ju:Stmt:=top 65
abbrev fb:Stmt:=top 66
abbrev iG:Stmt:=top 67
abbrev gD:Stmt:=top 68
abbrev iH:Stmt:=top 69
abbrev eJ:Stmt:=top 70
abbrev iI:Stmt:=top 71
abbrev jv:Stmt:=top 72
abbrev jw:Stmt:=top 73
abbrev kq:Stmt:=top 74
abbrev mR:Stmt:=top 75
abbrev kx:Stmt:=top 76
section
variable {P:Program} {w:World} {K:PySem.W.Frag} {mg:Str->Option Value} {base:Heap}
structure Blt (mg:Str->Option Value):Prop where
 isi:mg "isinstance" = none
 int:mg "int" = none
 bool:mg "bool" = none
 list:mg "list" = none
 tuple:mg "tuple" = none
 len:mg "len" = none
 range:mg "range" = none
 max:mg "max" = none
 min:mg "min" = none
 abs:mg "abs" = none
 divmod:mg "divmod" = none
 sum:mg "sum" = none
 sorted:mg "sorted" = none
 all:mg "all" = none
 repr:mg "repr" = none
 zip:mg "zip" = none
 enumerate:mg "enumerate" = none
 mostk:∃t,mg "MOST_KINDS" = some (.int 8 t)
 fivek:∃t,mg "THINGS_OF_A_KIND" = some (.int 5 t)
end
theorem Gm {H H':Hp} {p:Addr} (s:Same H H'):But p H H':=λ c o _ e=>s c o e
theorem dh {t u:TS} {D:Ends} {σ:St} {H:Hp} (C:(St->Hp->Prop)->Prop) (h1:∀R:St->Hp->Prop,C R->t { D with nx:=R } σ H) (h2:C (u D)):tj t u D σ H:=h1 _ h2
theorem aj {t u:TS} {D:Ends} {σ:St} {H:Hp} (C:(St->Hp->Prop)->Prop) (h1:∀D':Ends,C D'.nx->t D' σ H) (h2:C (u D)):tj t u D σ H:=h1 _ h2
theorem bH {P:Prop} (h:∀G:Prop,(P->G)->G):P:=h P id
theorem cC {t u:TS} {D:Ends} {σ:St} {H:Hp} (J:St->Hp->Prop) (h1:∀R:St->Hp->Prop,(∀σ' H',J σ' H'->R σ' H')->t { D with nx:=R } σ H) (h2:∀σ' H',J σ' H'->u D σ' H'):tj t u D σ H:=h1 _ h2
section
variable {P:Program} {w:World} {K:PySem.W.Frag} {mg:Str->Option Value} {base:Heap}
theorem uh:FnScope ["thing","least"] ["thing","least"] (defScope jo):=⟨Y,Y,Y,by decide +kernel,Y,by decide +kernel,by decide +kernel⟩
theorem qW {f:Addr} {fd:FuncData} (F:Fun K "is_whole" "is_whole" jo f fd) (B:Blt mg):FnOk P w K mg base CX0 1 f fd ["thing","least"] (ck K):=by
 refine F.ok uh (λ vs H Q E h=>?_) (λ cdv A outer s H vs Q E hr h=>?_)
 ·obtain ⟨x,T,l,rfl,_⟩:=h
  rfl
 obtain ⟨x,T,l,rfl,⟨tn,ty⟩,q⟩:=h
 refine ⟨_,ag (ar (bN (aw bc rfl B.isi PyProof.Rows.boot_isinstance (aa (pv 0) (aa (bE (v:=.ty "int") rfl B.int PyProof.Rows.boot_int rfl) ab)))
  (bN (kN (aw bc rfl B.isi PyProof.Rows.boot_isinstance (aa (pv 0) (aa (bE (v:=.ty "bool") rfl B.bool PyProof.Rows.boot_bool rfl) ab))))
  (cM (aW mj (pv 0) (pv 1) (ay _)))))),?_⟩
 refine ⟨_,Y,x,_,_,_,_,Y,ty,Y,mx T tn,_,Y,?_⟩
 have tb:=my ty
 refine cf (λ c=>?_) (λ c=>?_)
 ·refine ⟨_,Y,x,_,_,_,_,Y,ty,Y,eU T tn,_,Y,_,Y,?_⟩
  refine cf (λ c2=>?_) (λ c2=>?_)
  ·have hT:(T == "int")=true:=by
    have:(T == "bool")=false:=by simpa using c2
    rw [this,Bool.or_false] at c; exact c
   obtain ⟨i,rfl⟩:=vG ty tn hT
   exact ⟨_,Y,_,Y,_,_,Y,Y,q⟩
  ·have hT:nL x=true:=by
    rw [<- tb]
    cases e:(T == "bool") with
    | true=>rfl
    | false=>rw [e] at c2; exact absurd rfl c2
   cases x <;> first | exact q | (exact absurd hT Bool.false_ne_true)
 ·have hx:aY x l=false:=by
   cases x with
   | int i =>
    exfalso
    have ty':=ty
    generalize hv:Value.type T=tv at ty'
    cases ty' with
    | int=>cases hv; exact c rfl
   | _=>rfl
  rw [hx] at q
  exact q
theorem ui:FnScope ["thing"] ["thing"] (defScope jp):=⟨Y,Y,Y,by decide +kernel,Y,by decide +kernel,by decide +kernel⟩
theorem qX {f:Addr} {fd:FuncData} (F:Fun K "is_truth" "is_truth" jp f fd) (B:Blt mg):FnOk P w K mg base CX0 1 f fd ["thing"] (gp K):=by
 refine F.ok ui (λ vs H Q E h=>?_) (λ cdv A outer s H vs Q E hr h=>?_)
 ·obtain ⟨x,T,rfl,_⟩:=h
  rfl
 obtain ⟨x,T,rfl,⟨tn,ty⟩,q⟩:=h
 refine ⟨_,ag (ar (aw bc rfl B.isi PyProof.Rows.boot_isinstance (aa (pv 0) (aa (bE (v:=.ty "bool") rfl B.bool PyProof.Rows.boot_bool rfl) ab)))),?_⟩
 refine ⟨_,Y,x,_,_,_,_,Y,ty,Y,eU T tn,?_⟩
 rw [my ty]
 exact q
theorem yn:FnScope ["thing"] ["thing"] (defScope tY):=⟨Y,Y,Y,by decide +kernel,Y,by decide +kernel,by decide +kernel⟩
theorem vL {f:Addr} {fd:FuncData} (F:Fun K "is_row" "is_row" tY f fd) (B:Blt mg):FnOk P w K mg base CX0 1 f fd ["thing"] (gS K):=by
 refine F.ok yn (λ vs H Q E h=>?_) (λ cdv A outer s H vs Q E hr h=>?_)
 ·obtain ⟨x,T,rfl,_⟩:=h
  rfl
 obtain ⟨x,T,rfl,ty,q⟩:=h
 refine ⟨_,ag (ar (aw jh rfl B.isi PyProof.Rows.boot_isinstance (aa (pv 0) (aa (az (aa (bE (v:=.ty "list") rfl B.list PyProof.Rows.boot_list rfl) (aa (bE (v:=.ty "tuple") rfl B.tuple PyProof.Rows.boot_tuple rfl) ab))) ab)))),?_⟩
 refine ⟨_,Y,zS2,λ p hp=>?_⟩
 have s1:Same H (upd H p (.tup [.ty "list",.ty "tuple"])):=λ b o e=>by rw [au (ap e hp)]; exact e
 have t2:=Ty.same s1 ty
 exact ⟨x,p,_,_,_,_,Y,t2.2,af,Y,tO T ty.1,q _ s1⟩
theorem scIsKind:FnScope ["thing","wide","high","worth","wanted","turns"] ["thing"] (defScope gz):=⟨Y,Y,Y,by decide +kernel,Y,by decide +kernel,by decide +kernel⟩
theorem nU {f:Addr} {fd:FuncData} (F:Fun K "is_kind" "is_kind" gz f fd) (B:Blt mg) (DW:Dn P w K mg base "is_whole" ["thing","least"] 1 (ck K)) (DT:Dn P w K mg base "is_truth" ["thing"] 1 (gp K)) (DR:Dn P w K mg base "is_row" ["thing"] 1 (gS K)) :
  FnOk P w K mg base CX0 2 f fd ["thing"] (eV K):=by
 refine F.ok scIsKind (λ vs H Q E h=>?_) (λ cdv A outer s H vs Q E hr h=>?_)
 ·obtain ⟨x,T,rfl,_⟩:=h
  rfl
 obtain ⟨x,T,rfl,ty,q⟩:=h
 obtain ⟨tk,htk⟩:=B.fivek
 have nd:=scIsKind.nd
 refine ⟨_,ae (aG (PW.pt (bq (aM (aH (am DR hr rfl (aa (pv 0) ab)))) (bz (aE ej (aw aN rfl B.len PySem.boot_len (aa (pv 0) ab)) (bj (v:=.int 5) rfl htk ⟨tk,Y⟩) (ay _))))) (ag (ar bI)) aB)
  (ae (bh (pv 0) (lp rfl (ah (ai (i:=1) nd rfl (Or.inl rfl)) (ah (ai (i:=2) nd rfl (Or.inl rfl)) (ah (ai (i:=3) nd rfl (Or.inl rfl)) (ah (ai (i:=4) nd rfl (Or.inl rfl)) (ah (ai (i:=5) nd rfl (Or.inl rfl)) aK)))))))
  (ae (aG (PW.pt (bq (aM (aH (am DW hr rfl (aa (pv 1) (aa ad ab))))) (bz (aM (aH (am DW hr rfl (aa (pv 2) (aa ad ab)))))))) (ag (ar bI)) aB)
  (ag (ar (bN (am DW hr rfl (aa (pv 3) (aa ad ab))) (bN (am DW hr rfl (aa (pv 4) (aa ad ab))) (cM (am DT hr rfl (aa (pv 5) ab))))))))),?_⟩
 refine ⟨_,Y,x,T,Y,ty,λ H1 s1=>⟨_,Y,?_⟩⟩
 rcases q with ⟨n1,n2,q⟩ | ⟨a,xs,rfl,hx,its,q⟩
 ·have e:(T == "list" || T == "tuple")=false:=by simp [n1,n2]
  rw [e]
  refine aU (aU ?_)
  exact q H1 s1
 ·have e:(T == "list" || T == "tuple")=true:=by
   have t2:=ty.2
   generalize hv:Value.type T=tv at t2
   generalize hr:V.ref a=rv at t2
   cases t2 with
   | lst _=>cases hv; rfl
   | frz _=>cases hv; rfl
   | tup _=>cases hv; rfl
   | dK e=>cases hr; rcases hx with z | z <;> (rw [z] at e; cases e)
   | dT e=>cases hr; rcases hx with z | z <;> (rw [z] at e; cases e)
   | ins=>cases hv
   | _=>cases hr
  rw [e]
  have sq:SqL K H1 a xs\/SqT K H1 a xs:=by
   rcases hx with z | z
   ·exact .inl (SqL.of (s1 _ _ z))
   ·exact .inr (SqT.of (s1 _ _ z))
  refine aL ⟨_,rfl,a,xs,rfl,sq,rfl,_,rfl,?_⟩
  refine cf (λ c=>?_) (λ c=>?_)
  ·have hl:xs.length≠5:=λ z=>by rw [z] at c; exact absurd c (by decide)
   have:iC xs=false:=by
    unfold iC
    split
    ·exact absurd rfl hl
    ·rfl
   rw [this] at q
   exact q H1 s1
  ·have hl:xs.length=5:=by
    by_cases z:xs.length=5
    ·exact z
    ·exfalso
     apply c
     have:¬ (V.int (xs.length:Int)=V.int 5):=λ h=>z (by have:=V.int.inj h; omega)
     rw [decide_eq_false this]; rfl
   obtain ⟨x1,x2,x3,x4,x5,rfl⟩:∃x1 x2 x3 x4 x5,xs=[x1,x2,x3,x4,x5]:=by
    match xs,hl with
    | [a,b,c,d,e],_=>exact ⟨a,b,c,d,e,Y⟩
   obtain ⟨T1,t1⟩:=its x1 (by simp)
   obtain ⟨T2,t2⟩:=its x2 (by simp)
   obtain ⟨T3,t3⟩:=its x3 (by simp)
   obtain ⟨T4,t4⟩:=its x4 (by simp)
   obtain ⟨T5,t5⟩:=its x5 (by simp)
   refine ⟨_,Y,a,_,Y,sq,Y,x1,_,Y,x2,_,Y,x3,_,Y,x4,_,Y,x5,_,Y,Y,?_⟩
   refine ⟨_,Y,x1,T1,1,Y,Ty.same s1 t1,_,Y,?_⟩
   have q':∀b,iC [x1,x2,x3,x4,x5]=b->Q (.bl b) H1:=λ b e=>by rw [<- e]; exact q H1 s1
   have k5:iC [x1,x2,x3,x4,x5]=(aY x1 1 && aY x2 1 && aY x3 0 && aY x4 0 && nL x5):=rfl
   cases w1:aY x1 1 with
   | false =>
    refine aU (aU ?_)
    exact q' false (by rw [k5,w1]; rfl)
   | true =>
    refine aL ⟨_,rfl,x2,T2,1,rfl,Ty.same s1 t2,_,rfl,?_⟩
    cases w2:aY x2 1 with
    | false =>
     refine aU ?_
     exact q' false (by rw [k5,w1,w2]; rfl)
    | true =>
     refine aL ⟨_,rfl,x3,T3,0,rfl,Ty.same s1 t3,_,rfl,?_⟩
     cases w3:aY x3 0 with
     | false =>
      refine aL ?_
      exact q' false (by rw [k5,w1,w2,w3]; rfl)
     | true =>
      refine aU ⟨_,rfl,x4,T4,0,rfl,Ty.same s1 t4,_,rfl,?_⟩
      cases w4:aY x4 0 with
      | false =>
       refine aL ?_
       exact q' false (by rw [k5,w1,w2,w3,w4]; rfl)
      | true =>
       refine aU ⟨_,rfl,x5,T5,rfl,Ty.same s1 t5,?_⟩
       exact q' _ (by rw [k5,w1,w2,w3,w4]; rfl)
end
section
variable {P:Program} {w:World} {K:PySem.W.Frag} {mg:Str->Option Value} {base:Heap}
theorem scInit:FnScope ["self","blade","kinds","kind"] ["self","blade","kinds"] (defScope cT):=⟨Y,Y,Y,by decide +kernel,Y,by decide +kernel,by decide +kernel⟩
theorem uj {f C:Addr} {fd:FuncData} (F:Fun K "__init__" "Shop.__init__" cT f fd) (B:Blt mg) (T:ShopTxt K C) (DW:Dn P w K mg base "is_whole" ["thing","least"] 1 (ck K)) (DR:Dn P w K mg base "is_row" ["thing"] 1 (gS K))
  (DK:Dn P w K mg base "is_kind" ["thing"] 2 (eV K)):FnOk P w K mg base CX0 3 f fd ["self","blade","kinds"] (lx C):=by
 refine F.ok scInit (λ vs H Q E h=>?_) (λ cdv A outer s H vs Q E hr h=>?_)
 ·obtain ⟨x,dx,ks,b,rs,kds,rfl,_⟩:=h
  rfl
 obtain ⟨x,dx,ks,b,rs,kds,rfl,hx,b0,hks,hrs,hgd,n1,n8,q⟩:=h
 have hr1:=hr.mono (show 1<=2 by decide)
 obtain ⟨tk,htk⟩:=B.mostk
 have nd:=scInit.nd
 have n8':(8:Nat) < sizeLine:=by decide
 refine ⟨_,ae (aG (aM (aH (am DW hr1 rfl (aa (pv 1) (aa ad ab))))) fm aB)
  (ae (aG (PW.pt (bq (aM (aH (am DR hr1 rfl (aa (pv 2) ab)))) (bz (aM (qk fX fX ad (aw aN rfl B.len PySem.boot_len (aa (pv 2) ab)) (bj (v:=.int 8) rfl htk ⟨tk,rfl⟩)))))) fm aB)
  (ae (ce PassesOwn.never rfl (qF (pv 2)) (ai (i:=3) nd rfl (Or.inl rfl)) (ag (aG (aM (aH (am DK hr rfl (aa (pv 3) ab)))) fm aB)))
  (ae (qq (pv 0) (pv 1) rfl)
  (ag (qq (pv 0) (aT bg rfl B.tuple PyProof.Rows.boot_tuple (aa (eQ (own:=["kind"]) (cs:=[]) (cap:=[]) rfl (qF (pv 2))
   (bS (sc:=defScope cT) (N:=["self","blade","kinds","kind"]) rfl rfl (by decide +kernel))
   (λ _ _ _ _ _=>ai (i:=0) (by show List.Nodup (["kind"]:List Str); decide +kernel) rfl (Or.inl rfl) (Or.inr rfl)) (λ _ _ _ _ _=>cz)
   (λ _ _ _ _ _=>aT (r:=qG K) bg rfl B.tuple PyProof.Rows.boot_tuple (aa (pv 0) ab))) ab)) rfl))))),?_⟩
 refine ⟨_,Y,.int b,_,0,Y,.int,_,Y,?_⟩
 have wb:aY (.int b) 0=true:=decide_eq_true b0
 rw [wb]
 refine aL ?_
 have tyk:∃T,Ty K H (.ref ks) T/\(T == "list" || T == "tuple")=true:=by
  rcases hks with e | e
  ·exact ⟨_,.lst e,Y⟩
  ·exact ⟨_,.tup e,Y⟩
 obtain ⟨T0,ty0,te0⟩:=tyk
 refine ⟨_,Y,.ref ks,T0,Y,ty0,λ H1 s1=>⟨_,Y,?_⟩⟩
 rw [te0]
 have sq:∀ {H2:Hp},Same H H2->SqL K H2 ks rs\/SqT K H2 ks rs:=λ s2=>by
  rcases hks with z | z
  ·exact .inl (SqL.of (s2 _ _ z))
  ·exact .inr (SqT.of (s2 _ _ z))
 refine aL ⟨_,rfl,ks,rs,rfl,sq s1,_,_,rfl,rfl,_,rfl,?_⟩
 rw [decide_eq_true (show (1:Int)<=(rs.length:Int) by omega)]
 refine aU ⟨_,_,rfl,rfl,_,rfl,?_⟩
 rw [decide_eq_true (show (rs.length:Int)<=8 by omega)]
 refine aL ?_
 have vZ:=Paired.length hrs
 refine qH (j:=2) (a:=ks) (xs:=rs) rfl (hks.imp (λ z=>s1 _ _ z) λ z=>s1 _ _ z) (λ i σ H2=>∃v,σ=[some (.ref x),some (.int b),some (.ref ks),v]/\Same H1 H2) ⟨none,rfl,Same.refl _⟩ (λ i σ H2 _ ⟨_,_,s2⟩ o e=>s2 _ _ e) ?_ ?_
 ·rintro i y σ H2 hi ⟨v,rfl,s2⟩
  obtain ⟨k,hk,rk⟩:=Paired.getR hrs hi
  refine ⟨_,Y,?_⟩
  simp only [tE,List.append_nil]
  refine nN ((rk.same s1).same s2) (hgd k (List.mem_of_getElem? hk)) λ H3 s3=>⟨_,Y,aL ?_⟩
  exact ⟨_,Y,s2.trans s3⟩
 rintro σ H2 ⟨v,rfl,s12⟩
 have s2:Same H H2:=s1.trans s12
 refine ⟨_,Y,_,Y,x,C,dx,[],Y,s2 _ _ hx,T.cl,T.nB,(by show 0 < 1000; decide),?_⟩
 have k3:∀c o,c≠x->H c=some o->(upd H2 x (.ins C dx (cF "blade_width" (.int b) []))) c=some o:=λ c o n e=>by rw [au n]; exact s2 c o e
 have x3:(upd H2 x (.ins C dx (cF "blade_width" (.int b) []))) x=some (.ins C dx (cF "blade_width" (.int b) [])):=af
 generalize upd H2 x (.ins C dx (cF "blade_width" (.int b) []))=H3 at k3 x3 ⊢
 have rx:∀c xs,H c=some (.lst xs)\/H c=some (.tup xs)->c≠x:=λ c xs e z=>by
  subst z
  rcases e with e | e <;> (rw [hx] at e; cases e)
 dsimp only [xY,tCB,uV]
 refine nM (j:=2) (a:=ks) (xs:=rs) rfl (hks.imp (λ z=>k3 _ _ (rx _ _ (.inl z)) z) λ z=>k3 _ _ (rx _ _ (.inr z)) z) (λ i ys H4=>ys.length=i/\Same H3 H4/\Tups H4 ys (kds.take i)) (λ i ys H4 _ ⟨_,s4,_⟩ o e=>s4 _ _ e) ⟨rfl,Same.refl _,.nil⟩ ?_ ?_
 ·rintro i y ys H4 hi ⟨hy,s4,ty4⟩
  have hin:i < rs.length:=(List.getElem?_eq_some_iff.mp hi).1
  obtain ⟨k,hk,rk⟩:=Paired.getR hrs hi
  have tk1:kds.take (i + 1)=kds.take i ++ [k]:=by rw [List.take_add_one,hk]; rfl
  refine ⟨by omega,leS.set rfl,cA ?_⟩
  rcases rk with ⟨a,rfl,h⟩ | ⟨a,rfl,h⟩
  ·have h4:=s4 _ _ (k3 _ _ (rx _ _ (.inr h)) h)
   exact ⟨_,Y,a,_,Y,.inr ⟨SqT.of h4,Nx.of hin ⟨by rw [List.length_append,hy]; rfl,s4,by rw [tk1]; exact Paired.snoc ty4 ⟨a,Y,h4⟩⟩⟩⟩
  ·have h4:=s4 _ _ (k3 _ _ (rx _ _ (.inl h)) h)
   refine ⟨_,Y,a,_,Y,.inl ⟨SqL.of h4,λ l hl=>Nx.of hin ⟨by rw [List.length_append,hy]; rfl,λ c o e=>?_,?_⟩⟩⟩
   ·have e4:=s4 c o e
    rw [au (ap e4 hl)]; exact e4
   ·rw [tk1]
    exact Paired.snoc (Tups.keep (λ c xs e=>by rw [au (ap e hl)]; exact e) ty4) ⟨l,rfl,af⟩
 rintro ys H4 ⟨hy,s4,ty4⟩
 refine ⟨by omega,λ p hp=>?_⟩
 refine ⟨p,ys,Y,.inl ⟨SqL.of af,λ r hr'=>?_⟩⟩
 have hpr:r≠p:=λ z=>by rw [z,af] at hr'; cases hr'
 have hr4:H4 r=none:=by rw [au hpr] at hr'; exact hr'
 have x4:=s4 _ _ x3
 have xp:x≠p:=ap x4 hp
 have xr:x≠r:=ap x4 hr4
 refine ⟨_,Y,x,C,dx,_,Y,(by rw [au xr,au xp]; exact x4),T.cl,T.nK,(Nat.lt_of_le_of_lt (dB _ _ _) (by decide)),?_⟩
 rw [vZ,List.take_length] at ty4
 refine q _ ⟨dx,r,ys,af,by rw [au (Ne.symm xr),af],?_⟩ λ c o n e=>?_
 ·refine Tups.keep (λ c xs e=>?_) ty4
  rw [au (λ z=>by rw [z,x4] at e; cases e),au (ap e hr4),au (ap e hp)]
  exact e
 ·have e4:=s4 _ _ (k3 c o n e)
  rw [au n,au (ap e4 hr4),au (ap e4 hp)]
  exact e4
theorem uk:FnScope ["self"] ["self"] (defScope df):=⟨Y,Y,Y,by decide +kernel,Y,by decide +kernel,by decide +kernel⟩
theorem qY {f C:Addr} {fd:FuncData} (F:Fun K "blade" "Shop.blade" df f fd) (T:ShopTxt K C):FnOk P w K mg base CX0 1 f fd ["self"] (dQ C):=by
 refine F.ok uk (λ vs H Q E h=>?_) (λ cdv A outer s H vs Q E hr h=>?_)
 ·obtain ⟨x,b,ks,rfl,_⟩:=h
  rfl
 obtain ⟨x,b,ks,rfl,⟨dx,r,rs,h1,h2,h3⟩,q⟩:=h
 exact ⟨_,ag (ar (ja (pv 0) rfl)),_,Y,x,C,dx,_,_,Y,h1,T.cl,T.nB,lr _ _,q⟩
end
section
variable {P:Program} {w:World} {K:PySem.W.Frag} {mg:Str->Option Value} {base:Heap}
theorem qZ:FnScope ["kind"] ["kind"] (defScope gA):=⟨Y,Y,Y,by decide +kernel,Y,by decide +kernel,by decide +kernel⟩
theorem nV {f:Addr} {fd:FuncData} (F:Fun K "can_lie_turned" "can_lie_turned" gA f fd):FnOk P w K mg base CX0 1 f fd ["kind"] (gW K):=by
 refine F.ok qZ (λ vs H Q E h=>?_) (λ cdv A outer s H vs Q E hr h=>?_)
 ·obtain ⟨a,k,rfl,_⟩:=h
  rfl
 obtain ⟨a,k,rfl,ha,q⟩:=h
 refine ⟨_,ag (ar (bN (ao ix_tup (pv 0) ad (λ _ _=>rfl)) (cM (aW ej (ao ix_tup (pv 0) ad (λ _ _=>rfl)) (ao ix_tup (pv 0) ad (λ _ _=>rfl)) (ay _))))),?_⟩
 refine ⟨_,Y,a,_,4,_,Y,Y,SqT.of ha,Y,_,Y,?_⟩
 unfold bo at q
 refine cf (λ c=>?_) (λ c=>?_)
 ·rw [c,Bool.true_and] at q
  refine ⟨_,Y,a,_,0,_,Y,Y,SqT.of ha,Y,_,Y,a,_,1,_,Y,Y,SqT.of ha,Y,Y,?_⟩
  rw [iY]
  rw [show (decide (k.w=k.h))=(k.w == k.h) from rfl] at q
  exact q
 ·have c':k.tu=false:=by simpa using c
  rw [c',Bool.false_and] at q
  exact q
theorem nW:FnScope ["self","kind","turned"] ["self","kind","turned"] (defScope cq):=⟨Y,Y,Y,by decide +kernel,Y,by decide +kernel,by decide +kernel⟩
theorem lJ {f C:Addr} {fd:FuncData} (F:Fun K "is_lying" "Shop.is_lying" cq f fd) (B:Blt mg) (T:ShopTxt K C) (DW:Dn P w K mg base "is_whole" ["thing","least"] 1 (ck K)) (DU:Dn P w K mg base "is_truth" ["thing"] 1 (gp K)) (DT:Dn P w K mg base "can_lie_turned" ["kind"] 1 (gW K)) :
  FnOk P w K mg base CX0 2 f fd ["self","kind","turned"] (dR K C):=by
 refine F.ok nW (λ vs H Q E h=>?_) (λ cdv A outer s H vs Q E hr h=>?_)
 ·obtain ⟨s,b,ks,x,t,T0,U,rfl,_⟩:=h
  rfl
 obtain ⟨s,b,ks,x,t,T0,U,rfl,⟨dx,r,rs,h1,h2,h3⟩,tx,tt,q⟩:=h
 have wc:=Paired.length h3
 refine ⟨_,ae (aG (PW.pt (bq (aM (aH (am DW hr rfl (aa (pv 1) (aa ad ab))))) (bq (aE mj (pv 1) (aw aN rfl B.len PySem.boot_len (aa (ja (pv 0) rfl) ab)) (ay _))
   (bz (aM (aH (am DU hr rfl (aa (pv 2) ab)))))))) (ag (ar bI)) aB)
  (ag (ar (xO (kN (pv 2)) (cM (am DT hr rfl (aa (ao ix_tup (ja (pv 0) rfl) (pv 1) (λ _ _=>rfl)) ab)))))),?_⟩
 refine ⟨_,Y,x,_,0,Y,tx,_,Y,?_⟩
 cases hw:aY x 0 with
 | false =>
  have e:dZ ks x t=false:=by
   cases x with
   | int i =>
    have h0:decide (0<=i)=false:=hw
    cases t <;> first | rfl | (show (decide (0<=i) && _)=false; rw [h0,Bool.false_and])
   | _=>rfl
  rw [e] at q
  exact aU (aU q)
 | true =>
  have ex:∃i,x=.int i/\0<=i:=by
   cases x with
   | int i=>exact ⟨i,Y,of_decide_eq_true hw⟩
   | _=>cases hw
  obtain ⟨i,rfl,i0⟩:=ex
  refine aL ⟨_,rfl,_,rfl,s,C,dx,_,_,rfl,h1,T.cl,T.nK,fG _ _,r,rs,rfl,.inr (SqT.of h2),i,_,rfl,rfl,_,rfl,?_⟩
  by_cases hi:(rs.length:Int)<=i
  ·rw [decide_eq_true hi]
   have e:dZ ks (.int i) t=false:=by
    have hn:ks[i.toNat]? = none:=List.getElem?_eq_none (by omega)
    cases t <;> first | rfl | (show (decide (0<=i) && match ks[i.toNat]? with | some k=>_ | none=>false)=false; rw [hn,Bool.and_false])
   rw [e] at q
   exact aU (aU q)
  ·rw [decide_eq_false hi]
   refine aL ⟨_,rfl,t,_,rfl,tt,_,rfl,?_⟩
   have hlt:i.toNat < ks.length:=by omega
   cases hb:nL t with
   | false =>
    have e:dZ ks (.int i) t=false:=by cases t <;> first | rfl | cases hb
    rw [e] at q
    exact aU q
   | true =>
    have ex:∃c,t=.bl c:=by cases t <;> first | exact ⟨_,Y⟩ | cases hb
    obtain ⟨c,rfl⟩:=ex
    obtain ⟨y,hy⟩:∃y,rs[i.toNat]? = some y:=⟨rs[i.toNat]'(by omega),by simp [show i.toNat < rs.length by omega]⟩
    obtain ⟨k,hk,a,rfl,ha⟩:=Paired.getR h3 hy
    have e:dZ ks (.int i) (.bl c)=(!c || bo k):=by
     show (decide (0<=i) && match ks[i.toNat]? with | some k=>(!c || bo k) | none=>false)=_
     rw [hk,decide_eq_true i0,Bool.true_and]
    rw [e] at q
    refine aL ⟨_,rfl,c,rfl,_,rfl,?_⟩
    refine cf (λ d=>?_) (λ d=>?_)
    ·rw [d,Bool.true_or] at q
     exact q
    ·have d':(!c)=false:=by simpa using d
     rw [d',Bool.false_or] at q
     have at':atI rs i=some (.ref a):=by
      have en:ixN rs.length i=some i.toNat:=by
       unfold ixN
       rw [if_pos i0,if_pos (by omega)]
      unfold atI
      rw [en]
      exact hy
     exact ⟨_,Y,s,C,dx,_,_,Y,h1,T.cl,T.nK,fG _ _,_,Y,r,rs,i,_,Y,Y,SqT.of h2,at',a,k,Y,ha,q⟩
end
def rc (k:Kd) (c:Bool):List V:=if c=true then [.int k.h,.int k.w] else [.int k.w,.int k.h]
inductive spSides (K:PySem.W.Frag) (C:Addr) (vs:List V) (H:Hp) (Q:VK) (E_:XK):Prop
 | mk (s:Addr) (b:Int) (ks:List Kd) (x t:V) (T U:String) (e_1:vs=[.ref s,x,t]) (e_2:ShopAt C H s b ks) (e_3:Ty K H x T) (e_4:Ty K H t U) (e_5:dZ ks x t=true) (e_6:∀ (i:Int) (c:Bool) (k:Kd) (p:Addr),x=.int i->t=.bl c->ks[i.toNat]? = some k->dZ ks x t=true->H p=none->Q (.ref p) (upd H p (.tup (rc k c)))):spSides K C vs H Q E_
theorem iJ {ks:List Kd} {x t:V} (h:dZ ks x t=true):∃ (i:Int) (c:Bool) (k:Kd),x=.int i/\t=.bl c/\0<=i/\ks[i.toNat]? = some k:=by
 unfold dZ at h
 split at h
 ·rename_i i c
  rw [Bool.and_eq_true] at h
  obtain ⟨h1,h2⟩:=h
  split at h2
  ·rename_i k hk
   exact ⟨i,c,k,Y,Y,of_decide_eq_true h1,hk⟩
  ·cases h2
 ·cases h
theorem vM {rs:List V} {i:Int} {v:V} (i0:0<=i) (h:rs[i.toNat]? = some v):atI rs i=some v:=by
 have en:ixN rs.length i=some i.toNat:=by
  unfold ixN
  have:=(List.getElem?_eq_some_iff.mp h).1
  rw [if_pos i0,if_pos (by omega)]
 unfold atI
 rw [en]
 exact h
section
variable {P:Program} {w:World} {K:PySem.W.Frag} {mg:Str->Option Value} {base:Heap}
theorem scSides:FnScope ["self","kind","turned","row"] ["self","kind","turned"] (defScope dg):=⟨Y,Y,Y,by decide +kernel,Y,by decide +kernel,by decide +kernel⟩
theorem re {f C:Addr} {fd:FuncData} (F:Fun K "sides" "Shop.sides" dg f fd) (T:ShopTxt K C) (ML:Mn P w K mg base C "is_lying" ["self","kind","turned"] 2 (dR K C)) :
  FnOk P w K mg base CX0 3 f fd ["self","kind","turned"] (spSides K C):=by
 refine F.ok scSides (λ vs H Q E h=>?_) (λ cdv A outer s H vs Q E hr h=>?_)
 ·obtain ⟨s,b,ks,x,t,T0,U,rfl,_⟩:=h
  rfl
 obtain ⟨s,b,ks,x,t,T0,U,rfl,S,tx,tt,he,hq⟩:=h
 have nd:=scSides.nd
 refine ⟨_,ae (aG (aM (aH (qK (pv 0) T.cl ML hr (aa (pv 1) (aa (pv 2) ab))))) (ag cP) aB)
  (ae (aD (i:=3) nd rfl (Or.inl rfl) (ao ix_tup (ja (pv 0) rfl) (pv 1) (λ _ _=>rfl)))
  (ae (aG (aH (pv 2)) (ag (ar (az (aa (ao ix_tup (pv 3) ad (λ _ _=>rfl)) (aa (ao ix_tup (pv 3) ad (λ _ _=>rfl)) ab))))) aB)
  (ag (ar (az (aa (ao ix_tup (pv 3) ad (λ _ _=>rfl)) (aa (ao ix_tup (pv 3) ad (λ _ _=>rfl)) ab))))))),?_⟩
 obtain ⟨dx,r,rs,h1,h2,h3⟩:=id S
 refine ⟨_,Y,s,dx,_,Y,h1,dP _ _ (by decide +kernel) (by decide +kernel),_,Y,_,Y,s,b,ks,x,t,T0,U,Y,S,tx,tt,_,Y,?_⟩
 cases hl:dZ ks x t with
 | false=>rw [hl] at he; cases he
 | true =>
  obtain ⟨i,c,k,rfl,rfl,i0,hk⟩:=iJ hl
  have wc:=Paired.length h3
  have hik:=(List.getElem?_eq_some_iff.mp hk).1
  obtain ⟨y,hy⟩:∃y,rs[i.toNat]? = some y:=⟨rs[i.toNat]'(by omega),by simp [show i.toNat < rs.length by omega]⟩
  obtain ⟨k',hk',a,rfl,ha⟩:=Paired.getR h3 hy
  rw [hk] at hk'
  obtain rfl:=Option.some.inj hk'
  refine aL ?_
  refine ⟨_,Y,s,C,dx,_,_,Y,h1,T.cl,T.nK,fG _ _,_,Y,r,rs,i,_,Y,Y,SqT.of h2,vM i0 hy,?_⟩
  refine ⟨_,Y,_,Y,?_⟩
  cases c with
  | true =>
   refine aU ?_
   refine ⟨_,Y,a,_,1,_,Y,Y,SqT.of ha,Y,_,Y,a,_,0,_,Y,Y,SqT.of ha,Y,zS2,λ p hp=>?_⟩
   exact hq i true k p rfl rfl hk hl hp
  | false =>
   refine aL ?_
   refine ⟨_,Y,a,_,0,_,Y,Y,SqT.of ha,Y,_,Y,a,_,1,_,Y,Y,SqT.of ha,Y,zS2,λ p hp=>?_⟩
   exact hq i false k p rfl rfl hk hl hp
end
mutual
inductive Dt (p:Addr) (H:Hp):V->PyData->Prop
 | non:Dt p H .non .none
 | bl (b:Bool):Dt p H (.bl b) (.bool b)
 | int (i:Int):Dt p H (.int i) (.int i)
 | str (z:Str):Dt p H (.str z) (.str z)
 | lst {a:Addr} {xs:List V} {ds:List PyData}:a≠p->H a=some (.lst xs)->Dts p H xs ds->Dt p H (.ref a) (.list ds)
 | tup {a:Addr} {xs:List V} {ds:List PyData}:H a=some (.tup xs)->Dts p H xs ds->Dt p H (.ref a) (.tuple ds)
 | emp {a:Addr}:H a=some (.dK [])->Dt p H (.ref a) (.dict [])
inductive Dts (p:Addr) (H:Hp):List V->List PyData->Prop
 | nil:Dts p H [] []
 | cons {x:V} {d:PyData} {xs:List V} {ds:List PyData}:Dt p H x d->Dts p H xs ds->Dts p H (x :: xs) (d :: ds)
end
mutual
theorem Dt.same {p:Addr} {H H':Hp} (s:Same H H'):∀ {v:V} {d:PyData},Dt p H v d->Dt p H' v d
 | _,_,.non=>.non
 | _,_,.bl b=>.bl b
 | _,_,.int i=>.int i
 | _,_,.str z=>.str z
 | _,_,.lst n h r=>.lst n (s _ _ h) (r.same s)
 | _,_,.tup h r=>.tup (s _ _ h) (r.same s)
 | _,_,.emp h=>.emp (s _ _ h)
theorem Dts.same {p:Addr} {H H':Hp} (s:Same H H'):∀ {vs:List V} {ds:List PyData},Dts p H vs ds->Dts p H' vs ds
 | _,_,.nil=>.nil
 | _,_,.cons a r=>.cons (a.same s) (r.same s)
end
theorem Dts.length {p:Addr} {H:Hp}:∀ {vs:List V} {ds:List PyData},Dts p H vs ds->vs.length=ds.length
 | _,_,.nil=>rfl
 | _,_,.cons _ r=>by rw [List.length_cons,List.length_cons,r.length]
theorem Dt.ty {K:PySem.W.Frag} {p:Addr} {H:Hp} {v:V} {d:PyData} (h:Dt p H v d):∃T,Ty K H v T:=by
 cases h with
 | non=>exact ⟨_,Ty.non⟩
 | bl b=>exact ⟨_,Ty.bl⟩
 | int i=>exact ⟨_,Ty.int⟩
 | str z=>exact ⟨_,Ty.str⟩
 | lst _ h _=>exact ⟨_,Ty.lst h⟩
 | tup h _=>exact ⟨_,Ty.tup h⟩
 | emp h=>exact ⟨_,Ty.dK h⟩
mutual
theorem Dt.but {p:Addr} {H H':Hp} (hp:∃xs,H p=some (.lst xs)) (b:But p H H'):∀ {v:V} {d:PyData},Dt p H v d->Dt p H' v d
 | _,_,.non=>.non
 | _,_,.bl b=>.bl b
 | _,_,.int i=>.int i
 | _,_,.str z=>.str z
 | _,_,.lst n h r=>.lst n (b _ _ n h) (r.but hp b)
 | _,_,.tup h r=>.tup (b _ _ (λ z=>by obtain ⟨_,e⟩:=hp; rw [z,e] at h; cases h) h) (r.but hp b)
 | _,_,.emp h=>.emp (b _ _ (λ z=>by obtain ⟨_,e⟩:=hp; rw [z,e] at h; cases h) h)
theorem Dts.but {p:Addr} {H H':Hp} (hp:∃xs,H p=some (.lst xs)) (b:But p H H'):∀ {vs:List V} {ds:List PyData},Dts p H vs ds->Dts p H' vs ds
 | _,_,.nil=>.nil
 | _,_,.cons a r=>.cons (a.but hp b) (r.but hp b)
end
mutual
def wt:PyData->Nat
 | .str z=>z.length + 1
 | .list ds=>wts ds + 1
 | .tuple ds=>wts ds + 1
 | _=>1
def wts:List PyData->Nat
 | []=>0
 | d :: r=>wt d + wts r
end
theorem rf (d:PyData):1<=wt d:=by cases d <;> simp only [wt] <;> omega
def aV:PyData->Option (List PyData)
 | .list ds=>some ds
 | .tuple ds=>some ds
 | _=>none
theorem rg {d x:PyData} {ds:List PyData} (h:aV d=some ds) (hx:x∈ds):sizeOf x < sizeOf d:=by
 have:=List.sizeOf_lt_of_mem hx
 cases d <;> simp only [aV,Option.some.injEq,reduceCtorEq] at h
 ·subst h; simp; omega
 ·subst h; simp; omega
theorem Dt.row {K:PySem.W.Frag} {p:Addr} {H:Hp} {v:V} {d:PyData} (h:Dt p H v d):(aV d=none/\∃T,Ty K H v T/\(T == "list" || T == "tuple")=false)\/∃a xs ds T,aV d=some ds/\v=.ref a/\(H a=some (.lst xs)\/H a=some (.tup xs))/\Dts p H xs ds/\Ty K H v T/\(T == "list" || T == "tuple")=true:=by
 cases h with
 | non=>exact .inl ⟨Y,_,Ty.non,Y⟩
 | bl b=>exact .inl ⟨Y,_,Ty.bl,Y⟩
 | int i=>exact .inl ⟨Y,_,Ty.int,Y⟩
 | str z=>exact .inl ⟨Y,_,Ty.str,Y⟩
 | lst _ h r=>exact .inr ⟨_,_,_,_,Y,Y,.inl h,r,Ty.lst h,Y⟩
 | tup h r=>exact .inr ⟨_,_,_,_,Y,Y,.inr h,r,Ty.tup h,Y⟩
 | emp h=>exact .inl ⟨Y,_,Ty.dK h,Y⟩
def bw (d:PyData) (z:Str) (n:Nat):Bool:=match aV d with
 | some (.str y :: r)=>decide (r.length + 1=n) && decide (y=z)
 | _=>false
section
variable {P:Program} {w:World} {K:PySem.W.Frag} {mg:Str->Option Value} {base:Heap}
inductive spBegins (vs:List V) (H:Hp) (Q:VK) (E_:XK):Prop
 | mk (pp:Addr) (v:V) (d:PyData) (z:Str) (n:Nat) (e_1:vs=[v,.str z,.int n]) (e_2:1<=n) (e_3:Dt pp H v d) (e_4:∀H',Same H H'->Q (.bl (bw d z n)) H'):spBegins vs H Q E_
theorem scbegins:FnScope ["thing","word","many"] ["thing","word","many"] (defScope cJ):=⟨Y,Y,Y,by decide +kernel,Y,by decide +kernel,by decide +kernel⟩
theorem nX {f:Addr} {fd:FuncData} (F:Fun K "begins_with" "begins_with" cJ f fd) (B:Blt mg) (bs:mg "str" = none) (DR:Dn P w K mg base "is_row" ["thing"] 1 (gS K)):FnOk P w K mg base CX0 2 f fd ["thing","word","many"] (spBegins):=by
 refine F.ok scbegins (λ vs H Q E h=>?_) (λ cdv A outer s H vs Q E hr h=>?_)
 ·obtain ⟨pp,v,d,z,n,rfl,_⟩:=h
  rfl
 obtain ⟨pp,v,d,z,n,rfl,n1,hd,q⟩:=h
 have nd:=scbegins.nd
 refine ⟨_,(@ae _ _ _ _ _ (@aG _ _ _ _ _ _ _ _ (PW.pt (bq (@aM _ _ _ _ (@aH _ _ _ (@am _ _ _ _ _ _ _ _ _ _ DR hr Y ((pv 0)^^^ab) (by decide) Y Y) (by intro _; rfl))) (bz (@aE _ _ _ _ _ _ _ _ ej (@aw _ _ _ _ _ _ _ _ _ aN Y B.len PySem.boot_len ((pv 0)^^^ab) (by decide) (by decide) Y Y) (pv 2) (ay _))))) (@ag _ _ _ (@ar _ _ _ _ bI)) aB) (@ag _ _ _ (@ar _ _ _ _ (bN (@aw _ _ _ _ _ _ _ _ _ bc Y B.isi PyProof.Rows.boot_isinstance ((@ao _ _ _ _ _ _ _ bA (pv 0) ad (λ _ _=>Y))^^^((bE (v:=.ty "str") Y bs PyProof.Rows.boot_str Y)^^^ab)) (by decide) (by decide) Y Y) (cM (@aW _ _ _ _ _ _ _ _ aZ (@ao _ _ _ _ _ _ _ bA (pv 0) ad (λ _ _=>Y)) (pv 1) (ay _))))))),?_⟩
 rcases hd.row (K:=K) with ⟨e,T,ty,hT⟩ | ⟨a,xs,ds,T,e,rfl,hx,dx,ty,hT⟩
 ·refine ⟨_,Y,v,T,Y,ty,λ H1 s1=>⟨_,Y,?_⟩⟩
  rw [hT]
  have q1:=q H1 s1
  unfold bw at q1
  rw [e] at q1
  exact aU (aU q1)
 refine ⟨_,Y,_,T,Y,ty,λ H1 s1=>⟨_,Y,?_⟩⟩
 rw [hT]
 have sq:SqL K H1 a xs\/SqT K H1 a xs:=hx.imp (λ z=>SqL.of (s1 _ _ z)) λ z=>SqT.of (s1 _ _ z)
 refine aL ⟨_,rfl,a,_,rfl,sq,_,rfl,rfl,_,rfl,?_⟩
 have q1:=q H1 s1
 have len:=dx.length
 cases dx with
 | nil =>
  rw [show decide (V.int (([]:List V).length:Int)=V.int (n:Int))=false from decide_eq_false (λ z=>by have:=V.int.inj z; simp at this; omega)]
  unfold bw at q1
  rw [e] at q1
  exact aU q1
 | @cons x d1 xs ds hd1 dr =>
  have a0:atI (x :: xs) 0=some x:=aR (Int.le_refl _) rfl
  have ixs:∀Q':VK,Q' x H1->rIx K (.ref a) (.int 0) H1 Q':=λ Q' h=>sq.elim (λ z=>.inl ⟨a,_,0,x,Y,Y,z,a0,h⟩) (λ z=>.inr (.inl ⟨a,_,0,x,Y,Y,z,a0,h⟩))
  rw [List.length_cons,List.length_cons] at len
  by_cases hn:ds.length + 1=n
  ·rw [show decide (V.int ((x :: xs).length:Int)=V.int (n:Int))=true from decide_eq_true (by rw [List.length_cons,len,hn])]
   refine aL ⟨_,rfl,ixs _ ?_⟩
   cases hd1 with
   | str y =>
    refine ⟨_,_,_,_,_,Y,(Ty.str (K:=K)).2,Y,cH "str" (by simp [aF]),_,Y,aU ?_⟩
    refine ⟨_,Y,ixs _ ⟨_,Y,Y,?_⟩⟩
    unfold bw at q1
    rw [e] at q1
    simp only [hn,decide_true,Bool.true_and] at q1
    rw [show decide (V.str y=V.str z)=decide (y=z) from decide_eq_decide.mpr ⟨V.str.inj,congrArg _⟩]
    exact q1
   | non=>exact ⟨_,_,_,_,_,Y,(Ty.non (K:=K)).2,Y,cH "NoneType" (by simp [aF]),_,Y,aL (by unfold bw at q1; rw [e] at q1; exact q1)⟩
   | bl b=>exact ⟨_,_,_,_,_,Y,(Ty.bl (K:=K)).2,Y,cH "bool" (by simp [aF]),_,Y,aL (by unfold bw at q1; rw [e] at q1; exact q1)⟩
   | int i=>exact ⟨_,_,_,_,_,Y,(Ty.int (K:=K)).2,Y,cH "int" (by simp [aF]),_,Y,aL (by unfold bw at q1; rw [e] at q1; exact q1)⟩
   | lst _ h r=>exact ⟨_,_,_,_,_,Y,(Ty.lst (s1 _ _ h) (K:=K)).2,Y,cH "list" (by simp [aF]),_,Y,aL (by unfold bw at q1; rw [e] at q1; exact q1)⟩
   | tup h r=>exact ⟨_,_,_,_,_,Y,(Ty.tup (s1 _ _ h) (K:=K)).2,Y,cH "tuple" (by simp [aF]),_,Y,aL (by unfold bw at q1; rw [e] at q1; exact q1)⟩
   | emp h=>exact ⟨_,_,_,_,_,Y,(Ty.dK (s1 _ _ h) (K:=K)).2,Y,cH "dict" (by simp [aF]),_,Y,aL (by unfold bw at q1; rw [e] at q1; exact q1)⟩
  ·rw [show decide (V.int ((x :: xs).length:Int)=V.int (n:Int))=false from decide_eq_false (λ z=>hn (by have:=V.int.inj z; rw [List.length_cons,len] at this; omega))]
   refine aU ?_
   have z:bw d z n=false:=by
    unfold bw
    rw [e]
    cases d1 <;> simp [hn]
   rw [z] at q1
   exact q1
def sd1 (k:Kd) (c:Bool):Int:=if c=true then k.h else k.w
def sd2 (k:Kd) (c:Bool):Int:=if c=true then k.w else k.h
theorem rh (k:Kd) (c:Bool):rc k c=[.int (sd1 k c),.int (sd2 k c)]:=by cases c <;> rfl
def fM (ks:List Kd) (w h:Int) (kv tv xv yv:V):Bool:=dZ ks kv tv && aY xv 0 && aY yv 0 && (match kv,tv,xv,yv with
 | .int i,.bl c,.int x,.int y=>(match ks[i.toNat]? with
  | some k=>decide (x + sd1 k c<=w) && decide (y + sd2 k c<=h)
  | none=>false)
 | _,_,_,_=>false)
inductive spLiesG (K:PySem.W.Frag) (C:Addr) (vs:List V) (H:Hp) (Q:VK) (E_:XK):Prop
 | mk (s:Addr) (b:Int) (ks:List Kd) (w h:Int) (kv tv xv yv:V) (T1 T2 T3 T4:String) (e_1:vs=[.ref s,.int w,.int h,kv,tv,xv,yv]) (e_2:ShopAt C H s b ks) (e_3:Ty K H kv T1) (e_4:Ty K H tv T2) (e_5:Ty K H xv T3) (e_6:Ty K H yv T4) (e_7:∀H',Same H H'->Q (.bl (fM ks w h kv tv xv yv)) H'):spLiesG K C vs H Q E_
theorem scliesG:FnScope ["shop","wide","high","kind","turned","x","y","piece_wide","piece_high"] ["shop","wide","high","kind","turned","x","y"] (defScope gw):=⟨Y,Y,Y,by decide +kernel,Y,by decide +kernel,by decide +kernel⟩
theorem rj {f C:Addr} {fd:FuncData} (F:Fun K "lies_in" "lies_in" gw f fd) (T:ShopTxt K C) (DW:Dn P w K mg base "is_whole" ["thing","least"] 1 (ck K)) (MI:Mn P w K mg base C "is_lying" ["self","kind","turned"] 2 (dR K C)) (MS:Mn P w K mg base C "sides" ["self","kind","turned"] 3 (spSides K C)):FnOk P w K mg base CX0 4 f fd ["shop","wide","high","kind","turned","x","y"] (spLiesG K C):=by
 refine F.ok scliesG (λ vs H Q E h=>?_) (λ cdv A outer s H vs Q E hr h=>?_)
 ·obtain ⟨s,b,ks,w1,h1,kv,tv,xv,yv,T1,T2,T3,T4,rfl,_⟩:=h
  rfl
 obtain ⟨s,b,ks,w1,h1',kv,tv,xv,yv,T1,T2,T3,T4,rfl,S,t1,t2,t3,t4,q⟩:=h
 have nd:=scliesG.nd
 have hr1:=hr.mono (show 1<=3 by decide)
 have hr2:=hr.mono (show 2<=3 by decide)
 refine ⟨_,(@ae _ _ _ _ _ (@aG _ _ _ _ _ _ _ _ (PW.pt (bq (@aM _ _ _ _ (@aH _ _ _ (qK (pv 0) T.cl MI hr2 ((pv 3)^^^((pv 4)^^^ab))) (by intro _; rfl))) (bq (@aM _ _ _ _ (@aH _ _ _ (@am _ _ _ _ _ _ _ _ _ _ DW hr1 Y ((pv 5)^^^(ad^^^ab)) (by decide) Y Y) (by intro _; rfl))) (bz (@aM _ _ _ _ (@aH _ _ _ (@am _ _ _ _ _ _ _ _ _ _ DW hr1 Y ((pv 6)^^^(ad^^^ab)) (by decide) Y Y) (by intro _; rfl))))))) (@ag _ _ _ (@ar _ _ _ _ bI)) aB) (@ae _ _ _ _ _ (@bh _ _ _ _ _ _ (qK (pv 0) T.cl MS hr ((pv 3)^^^((pv 4)^^^ab))) (aX Y (ah (ai (i:=7) nd Y (Or.inl Y)) (ah (ai (i:=8) nd Y (Or.inl Y)) aK))) Y Y Y) (@ag _ _ _ (@ar _ _ _ _ (bN (@aW _ _ _ _ _ _ _ _ fX (@aA _ _ _ _ _ _ _ _ aI (pv 5) (pv 7)) (pv 1) (ay _)) (cM (@aW _ _ _ _ _ _ _ _ fX (@aA _ _ _ _ _ _ _ _ aI (pv 6) (pv 8)) (pv 2) (ay _)))))))),?_⟩
 obtain ⟨dx,r,rs,h1,h2,h3⟩:=id S
 refine ⟨_,Y,s,dx,_,Y,h1,(dP _ _ (by decide +kernel) (by decide +kernel)),_,Y,_,Y,s,b,ks,kv,tv,T1,T2,Y,S,t1,t2,_,Y,?_⟩
 cases ly:dZ ks kv tv with
 | false =>
  have q1:=q H (Same.refl _)
  unfold fM at q1
  rw [ly] at q1
  exact aU (aU q1)
 | true =>
 refine aL ⟨_,rfl,xv,T3,0,rfl,t3,_,rfl,?_⟩
 cases hx:aY xv 0 with
 | false =>
  have q1:=q H (Same.refl _)
  unfold fM at q1
  rw [ly,hx] at q1
  exact aU (aU q1)
 | true =>
 refine aL ⟨_,rfl,yv,T4,0,rfl,t4,_,rfl,?_⟩
 cases hy:aY yv 0 with
 | false =>
  have q1:=q H (Same.refl _)
  unfold fM at q1
  rw [ly,hx,hy] at q1
  exact aU q1
 | true =>
 refine aL ?_
 obtain ⟨i,c,k,rfl,rfl,i0,hk⟩:=iJ ly
 obtain ⟨x1,rfl⟩:∃i,xv=.int i:=by cases xv <;> first | exact ⟨_,Y⟩ | cases hx
 obtain ⟨y1,rfl⟩:∃i,yv=.int i:=by cases yv <;> first | exact ⟨_,Y⟩ | cases hy
 refine ⟨_,Y,s,dx,_,Y,h1,(dP _ _ (by decide +kernel) (by decide +kernel)),_,Y,_,Y,s,b,ks,.int i,.bl c,T1,T2,Y,S,t1,t2,ly,λ i' c' k' p e1 e2 hk' _ hp=>?_⟩
 cases e1
 cases e2
 rw [hk] at hk'
 cases hk'
 rw [rh]
 have q1:=q _ (Same.new hp (o:=.tup [.int (sd1 k c),.int (sd2 k c)]))
 refine ⟨p,_,Y,SqT.of af,Y,_,_,Y,_,_,Y,Y,?_⟩
 refine ⟨_,Y,_,Y,_,_,Y,Y,_,Y,_,_,Y,Y,_,Y,?_⟩
 unfold fM at q1
 rw [ly,hx,hy] at q1
 simp only [hk,Bool.true_and] at q1
 refine cf (λ cc=>?_) (λ cc=>?_)
 ·refine ⟨_,Y,_,Y,_,_,Y,Y,_,Y,_,_,Y,Y,?_⟩
  rw [cc,Bool.true_and] at q1
  exact q1
 ·rw [show decide (x1 + sd1 k c<=w1)=false by simpa using cc,Bool.false_and] at q1
  exact q1
end
theorem Dts.one {p:Addr} {H:Hp} {xs:List V} {ds:List PyData} {n:Nat} (h:Dts p H xs ds) (hl:ds.length=n + 1):∃x d xs' ds',xs=x :: xs'/\ds=d :: ds'/\Dt p H x d/\Dts p H xs' ds'/\ds'.length=n:=by
 cases h with
 | nil=>cases hl
 | cons a r=>exact ⟨_,_,_,_,Y,Y,a,r,Nat.succ.inj hl⟩
theorem Dts.zero {p:Addr} {H:Hp} {xs:List V} {ds:List PyData} (h:Dts p H xs ds) (hl:ds.length=0):xs=[]/\ds=[]:=by
 cases h with
 | nil=>exact ⟨Y,Y⟩
 | cons a r=>cases hl
theorem Dts.three {p:Addr} {H:Hp} {xs:List V} {ds:List PyData} (h:Dts p H xs ds) (hl:ds.length=3):∃x1 x2 x3 d1 d2 d3,xs=[x1,x2,x3]/\ds=[d1,d2,d3]/\Dt p H x1 d1/\Dt p H x2 d2/\Dt p H x3 d3:=by
 obtain ⟨x1,d1,xs,ds,rfl,rfl,h1,h,hl⟩:=h.one hl
 obtain ⟨x2,d2,xs,ds,rfl,rfl,h2,h,hl⟩:=h.one hl
 obtain ⟨x3,d3,xs,ds,rfl,rfl,h3,h,hl⟩:=h.one hl
 obtain ⟨rfl,rfl⟩:=h.zero hl
 exact ⟨_,_,_,_,_,_,Y,Y,h1,h2,h3⟩
theorem Dts.four {p:Addr} {H:Hp} {xs:List V} {ds:List PyData} (h:Dts p H xs ds) (hl:ds.length=4):∃x1 x2 x3 x4 d1 d2 d3 d4,xs=[x1,x2,x3,x4]/\ds=[d1,d2,d3,d4]/\Dt p H x1 d1/\Dt p H x2 d2/\Dt p H x3 d3/\Dt p H x4 d4:=by
 obtain ⟨x1,d1,xs,ds,rfl,rfl,h1,h,hl⟩:=h.one hl
 obtain ⟨x2,x3,x4,d2,d3,d4,rfl,rfl,h2,h3,h4⟩:=h.three hl
 exact ⟨_,_,_,_,_,_,_,_,Y,Y,h1,h2,h3,h4⟩
section
variable {P:Program} {w:World} {K:PySem.W.Frag} {mg:Str->Option Value} {base:Heap}
structure TrC (K:PySem.W.Frag) (mg:Str->Option Value) (wa:Addr):Prop where
 dn:∃t,mg "DOWN" = some (.str "down" t)
 rs:∃t,mg "REST" = some (.str "rest" t)
 pc:∃t,mg "PIECE" = some (.str "piece" t)
 n1:∃t,mg "THINGS_OF_A_REST" = some (.int 1 t)
 n5:∃t,mg "THINGS_OF_A_PIECE" = some (.int 5 t)
 n4:∃t,mg "THINGS_OF_A_CUT" = some (.int 4 t)
 wy:mg "WAYS" = some (.ref wa)
 wq:∀H,SqT K H wa [.str "down",.str "across"]
def um (b side:Int):PyData->Bool
 | .int p=>decide (1<=p) && decide (p + b < side)
 | _=>false
def eA (b side:Int) (d:PyData):Bool:=match aV d with
 | some [_,p,_,_]=>um b side p
 | _=>false
def isC (b w h:Int) (d:PyData):Bool:=if bw d "down" 4=true then eA b w d else if bw d "across" 4=true then eA b h d else false
def ky (ks:List Kd) (w h:Int):PyData->PyData->PyData->PyData->Bool
 | .int i,.bool c,.int x,.int y=>fM ks w h (.int i) (.bl c) (.int x) (.int y)
 | _,_,_,_=>false
def isL (ks:List Kd) (w h:Int) (d:PyData):Bool:=if bw d "piece" 5=true then (match aV d with
 | some [_,k,t,x,y]=>ky ks w h k t x y
 | _=>false) else bw d "rest" 1
inductive spParts2 (vs:List V) (H:Hp) (Q:VK) (E_:XK):Prop
 | mk (b w h p:Int) (t:Addr) (dn:Bool) (e_1:vs=[.int b, .ref t, .str (if dn=true then "down" else "across"), .int p]) (e_2:H t=some (.tup [.int w, .int h])) (e_3:∀ (u t1 t2:Addr) (H':Hp), H' u=some (.tup [.ref t1, .ref t2])->H' t1=some (.tup (if dn=true then [.int p, .int h] else [.int w, .int p]))->H' t2=some (.tup (if dn=true then [.int (w - p - b), .int h] else [.int w, .int (h - p - b)]))->Same H H'->Q (.ref u) H'):spParts2 vs H Q E_
inductive spCut (vs:List V) (H:Hp) (Q:VK) (E_:XK):Prop
 | mk (pp:Addr) (b x y w h:Int) (sp:Addr) (v:V) (d:PyData) (e_1:vs=[.int b,.ref sp]) (e_2:H sp=some (.tup [.int x,.int y,.int w,.int h,v])) (e_3:Dt pp H v d) (e_4:∀H',Same H H'->Q (.bl (isC b w h d)) H'):spCut vs H Q E_
inductive spLeaf (C:Addr) (vs:List V) (H:Hp) (Q:VK) (E_:XK):Prop
 | mk (pp:Addr) (b' x y w h:Int) (s sp:Addr) (ks:List Kd) (v:V) (d:PyData) (e_1:vs=[.ref s,.ref sp]) (e_2:ShopAt C H s b' ks) (e_3:H sp=some (.tup [.int x,.int y,.int w,.int h,v])) (e_4:Dt pp H v d) (e_5:∀H',Same H H'->Q (.bl (isL ks w h d)) H'):spLeaf C vs H Q E_
inductive spBehind (vs:List V) (H:Hp) (Q:VK) (E_:XK):Prop
 | mk (b x y w h p:Int) (sp a:Addr) (dn:Bool) (l r:V) (e_1:vs=[.int b, .ref sp]) (e_2:H sp=some (.tup [.int x, .int y, .int w, .int h, .ref a])) (e_3:(H a=some (.lst [.str (if dn=true then "down" else "across"), .int p, l, r])\/H a=some (.tup [.str (if dn=true then "down" else "across"), .int p, l, r]))) (e_4:∀ (u t1 t2:Addr) (H':Hp), H u=none->H' u=some (.lst [.ref t1, .ref t2])->H' t1=some (.tup (if dn=true then [.int x, .int y, .int p, .int h, l] else [.int x, .int y, .int w, .int p, l]))->H' t2=some (.tup (if dn=true then [.int (x + (p + b)), .int y, .int (w - p - b), .int h, r] else [.int x, .int (y + (p + b)), .int w, .int (h - p - b), r]))->Same H H'->Q (.ref u) H'):spBehind vs H Q E_
theorem scparts2:FnScope ["blade","part","way","p","wide","high"] ["blade","part","way","p"] (defScope dU):=⟨Y,Y,Y,by decide +kernel,Y,by decide +kernel,by decide +kernel⟩
theorem nY {f wa:Addr} {fd:FuncData} (F:Fun K "cut_parts" "cut_parts" dU f fd) (Z:TrC K mg wa):FnOk P w K mg base CX0 1 f fd ["blade","part","way","p"] (spParts2):=by
 refine F.ok scparts2 (λ vs H Q E h=>?_) (λ cdv A outer s H vs Q E hr h=>?_)
 ·obtain ⟨b,w1,h1,p1,t,dn,rfl,_⟩:=h
  rfl
 obtain ⟨b,w1,h1,p1,t,dn,rfl,ht,q⟩:=h
 have nd:=scparts2.nd
 obtain ⟨tdn,hdn⟩:=Z.dn
 obtain ⟨trs,hrs⟩:=Z.rs
 obtain ⟨tpc,hpc⟩:=Z.pc
 obtain ⟨tn1,hn1⟩:=Z.n1
 obtain ⟨tn5,hn5⟩:=Z.n5
 obtain ⟨tn4,hn4⟩:=Z.n4
 refine ⟨_,(@ae _ _ _ _ _ (@bh _ _ _ _ _ _ (pv 1) (aX Y (ah (ai (i:=4) nd Y (Or.inl Y)) (ah (ai (i:=5) nd Y (Or.inl Y)) aK))) Y Y Y) (@ae _ _ _ _ _ (@aG _ _ _ _ _ _ _ _ (@aE _ _ _ _ _ _ _ _ aZ (pv 2) (bj (v:=.str "down") Y hdn ⟨tdn,Y⟩) (ay _)) (@ag _ _ _ (@ar _ _ _ _ (@az _ _ _ _ _ ((@az _ _ _ _ _ ((pv 3)^^^((pv 5)^^^ab)))^^^((@az _ _ _ _ _ ((@aA _ _ _ _ _ _ _ _ br (@aA _ _ _ _ _ _ _ _ br (pv 4) (pv 3)) (pv 0))^^^((pv 5)^^^ab)))^^^ab))))) aB) (@ag _ _ _ (@ar _ _ _ _ (@az _ _ _ _ _ ((@az _ _ _ _ _ ((pv 4)^^^((pv 3)^^^ab)))^^^((@az _ _ _ _ _ ((pv 4)^^^((@aA _ _ _ _ _ _ _ _ br (@aA _ _ _ _ _ _ _ _ br (pv 5) (pv 3)) (pv 0))^^^ab)))^^^ab))))))),?_⟩
 refine ⟨_,Y,t,_,Y,SqT.of ht,Y,_,_,Y,_,_,Y,Y,?_⟩
 cases dn with
 | true =>
  refine ⟨_,Y,Y,_,Y,aU ?_⟩
  refine ⟨_,Y,_,Y,zS2,λ t1 h1'=>?_⟩
  have sa:Same H (upd H t1 (.tup [.int p1,.int h1])):=Same.new h1'
  have ka:(upd H t1 (.tup [.int p1,.int h1])) t1=some (.tup [.int p1,.int h1]):=af
  generalize upd H t1 (.tup [.int p1,.int h1])=Ha at sa ka ⊢
  refine ⟨_,Y,_,Y,_,_,Y,Y,_,Y,_,_,Y,Y,_,Y,zS2,λ t2 h2'=>?_⟩
  have sb:Same Ha (upd Ha t2 (.tup [.int (w1 - p1 - b),.int h1])):=Same.new h2'
  have kb:(upd Ha t2 (.tup [.int (w1 - p1 - b),.int h1])) t2=some (.tup [.int (w1 - p1 - b),.int h1]):=af
  generalize upd Ha t2 (.tup [.int (w1 - p1 - b),.int h1])=Hb at sb kb ⊢
  refine ⟨zS2,λ u hu=>?_⟩
  have sc:Same Hb (upd Hb u (.tup [.ref t1,.ref t2])):=Same.new hu
  have kc:(upd Hb u (.tup [.ref t1,.ref t2])) u=some (.tup [.ref t1,.ref t2]):=af
  generalize upd Hb u (.tup [.ref t1,.ref t2])=Hc at sc kc ⊢
  exact q u t1 t2 Hc kc (sc _ _ (sb _ _ ka)) (sc _ _ kb) ((sa.trans sb).trans sc)
 | false =>
  refine ⟨_,Y,Y,_,Y,aL ?_⟩
  refine ⟨_,Y,_,Y,zS2,λ t1 h1'=>?_⟩
  have sa:Same H (upd H t1 (.tup [.int w1,.int p1])):=Same.new h1'
  have ka:(upd H t1 (.tup [.int w1,.int p1])) t1=some (.tup [.int w1,.int p1]):=af
  generalize upd H t1 (.tup [.int w1,.int p1])=Ha at sa ka ⊢
  refine ⟨_,Y,_,Y,_,Y,_,_,Y,Y,_,Y,_,_,Y,Y,zS2,λ t2 h2'=>?_⟩
  have sb:Same Ha (upd Ha t2 (.tup [.int w1,.int (h1 - p1 - b)])):=Same.new h2'
  have kb:(upd Ha t2 (.tup [.int w1,.int (h1 - p1 - b)])) t2=some (.tup [.int w1,.int (h1 - p1 - b)]):=af
  generalize upd Ha t2 (.tup [.int w1,.int (h1 - p1 - b)])=Hb at sb kb ⊢
  refine ⟨zS2,λ u hu=>?_⟩
  have sc:Same Hb (upd Hb u (.tup [.ref t1,.ref t2])):=Same.new hu
  have kc:(upd Hb u (.tup [.ref t1,.ref t2])) u=some (.tup [.ref t1,.ref t2]):=af
  generalize upd Hb u (.tup [.ref t1,.ref t2])=Hc at sc kc ⊢
  exact q u t1 t2 Hc kc (sc _ _ (sb _ _ ka)) (sc _ _ kb) ((sa.trans sb).trans sc)
theorem hI {d:PyData} {z:Str} {n:Nat} (h:bw d z n=true):∃r,aV d=some (.str z :: r)/\r.length + 1=n:=by
 unfold bw at h
 split at h
 ·rename_i y r e
  rw [Bool.and_eq_true] at h
  have:=of_decide_eq_true h.2
  subst this
  exact ⟨r,e,of_decide_eq_true h.1⟩
 ·cases h
theorem Dt.ref_row {p:Addr} {H:Hp} {v:V} {d:PyData} {ds:List PyData} (h:Dt p H v d) (e:aV d=some ds):∃a xs,v=.ref a/\(H a=some (.lst xs)\/H a=some (.tup xs))/\Dts p H xs ds:=by
 cases h <;> simp only [aV,Option.some.injEq,reduceCtorEq] at e
 ·subst e; exact ⟨_,_,Y,.inl ‹_›,‹_›⟩
 ·subst e; exact ⟨_,_,Y,.inr ‹_›,‹_›⟩
theorem ixR {H H1:Hp} {a:Addr} {xs:List V} (s1:Same H H1) (hx:H a=some (.lst xs)\/H a=some (.tup xs)) {i:Int} {x:V} (e:atI xs i=some x) {Q':VK} (h:Q' x H1):rIx K (.ref a) (.int i) H1 Q' :=
 hx.elim (λ z=>.inl ⟨a,_,i,x,Y,Y,SqL.of (s1 _ _ z),e,h⟩) (λ z=>.inr (.inl ⟨a,_,i,x,Y,Y,SqT.of (s1 _ _ z),e,h⟩))
theorem sccut:FnScope ["blade","spot","tree","way","side"] ["blade","spot"] (defScope jq):=⟨Y,Y,Y,by decide +kernel,Y,by decide +kernel,by decide +kernel⟩
theorem vN {f wa:Addr} {fd:FuncData} (F:Fun K "is_cut" "is_cut" jq f fd) (Z:TrC K mg wa) (DB:Dn P w K mg base "begins_with" ["thing","word","many"] 2 spBegins) (DW:Dn P w K mg base "is_whole" ["thing","least"] 1 (ck K)):FnOk P w K mg base CX0 3 f fd ["blade","spot"] (spCut):=by
 refine F.ok sccut (λ vs H Q E h=>?_) (λ cdv A outer s H vs Q E hr h=>?_)
 ·obtain ⟨pp,b,x1,y1,w1,h1,sp,v,d,rfl,_⟩:=h
  rfl
 refine bH λ G9 k9=>?_
 obtain ⟨pp,b,x0',y0',w1,h1,sp,v,d,rfl,hsp,hd,q⟩:=h
 refine k9 ?_
 have nd:=sccut.nd
 obtain ⟨tdn,hdn⟩:=Z.dn
 obtain ⟨trs,hrs⟩:=Z.rs
 obtain ⟨tpc,hpc⟩:=Z.pc
 obtain ⟨tn1,hn1⟩:=Z.n1
 obtain ⟨tn5,hn5⟩:=Z.n5
 obtain ⟨tn4,hn4⟩:=Z.n4
 have hr1:=hr.mono (show 1<=2 by decide)
 refine ⟨_,(@ae _ _ _ _ _ (@aD _ _ 2 _ _ _ _ nd Y (Or.inl Y) (@ao _ _ _ _ _ _ _ ix_tup (pv 1) ad (λ _ _=>Y)) Y (Or.inl Y)) (@ae _ _ _ _ _ (@ce _ _ _ _ _ _ _ _ PassesOwn.never Y (fu (bj (v:=.ref wa) Y Z.wy Y)) (ai (i:=3) nd Y (Or.inl Y)) (@ag _ _ _ (@aG _ _ _ _ _ _ _ _ (@aH _ _ _ (@am _ _ _ _ _ _ _ _ _ _ DB hr Y ((pv 2)^^^((pv 3)^^^((bj (v:=.int 4) Y hn4 ⟨tn4,Y⟩)^^^ab))) (by decide) Y Y) (by intro _; rfl)) (@ae _ _ _ _ _ (@aD _ _ 4 _ _ _ _ nd Y (Or.inl Y) (eL (@aE _ _ _ _ _ _ _ _ aZ (pv 3) (bj (v:=.str "down") Y hdn ⟨tdn,Y⟩) (ay _)) (@ao _ _ _ _ _ _ _ ix_tup (pv 1) ad (λ _ _=>Y)) (@ao _ _ _ _ _ _ _ ix_tup (pv 1) ad (λ _ _=>Y))) Y (Or.inl Y)) (@ag _ _ _ (@ar _ _ _ _ (bN (@am _ _ _ _ _ _ _ _ _ _ DW hr1 Y ((@ao _ _ _ _ _ _ _ bA (pv 2) ad (λ _ _=>Y))^^^(ad^^^ab)) (by decide) Y Y) (cM (@aW _ _ _ _ _ _ _ _ mi (@aA _ _ _ _ _ _ _ _ aI (@ao _ _ _ _ _ _ _ bA (pv 2) ad (λ _ _=>Y)) (pv 0)) (pv 4) (ay _))))))) aB)) (by intro _; rfl)) (@ag _ _ _ (@ar _ _ _ _ bI)))),?_⟩
 refine ⟨_,Y,sp,_,4,_,Y,Y,SqT.of hsp,Y,?_⟩
 refine ⟨wa, Y, ⟨_, Z.wq H⟩, gm (xs:=[.str "down", .str "across"]) (λ i σ H'=>(∃v3 v4, σ=[some (.int b), some (.ref sp), some v, v3, v4])/\Same H H'/\(1<=i->bw d "down" 4=false)/\(2<=i->bw d "across" 4=false)) ⟨⟨_, _, Y⟩, Same.refl _, λ z=>absurd z (by decide), λ z=>absurd z (by decide)⟩ (λ i σ H' _ _=>Z.wq H') ?_ ?_⟩
 ·rintro i y σ H1 hi ⟨⟨v3,v4,rfl⟩,s1,g1,g2⟩
  match i,hi with
  | 0,hi =>
   cases hi
   refine ⟨_,Y,_,Y,pp,v,d,"down",4,Y,by decide,hd.same s1,λ H2 s12=>⟨_,Y,?_⟩⟩
   have s2:=s1.trans s12
   refine cf (λ hb=>?_) (λ hb=>⟨⟨_,_,Y⟩,s2,λ _=>by simpa using hb,λ z=>absurd z (by decide)⟩)
   obtain ⟨r0,er,rl⟩:=hI hb
   obtain ⟨a,xs,rfl,hx,dx⟩:=hd.ref_row er
   cases dx with
   | @cons x0 _ xs0 _ hd0 dx =>
   obtain ⟨x1,x2,x3,d1,d2,d3,rfl,rfl,hd1,hd2,hd3⟩:=dx.three (by simpa using rl)
   have sp2:=s2 _ _ hsp
   have co:eA b w1 d=um b w1 d1:=by
    unfold eA
    rw [er]
   refine ⟨_,Y,Y,_,Y,aU ⟨_,Y,sp,_,2,_,Y,Y,SqT.of sp2,Y,?_⟩⟩
   have at1:atI [x0,x1,x2,x3] 1=some x1:=aR (by decide) rfl
   obtain ⟨T1,t1⟩:=(hd1.same s2).ty (K:=K)
   refine ⟨_,Y,ixR s2 hx at1 ⟨x1,T1,1,Y,t1,_,Y,?_⟩⟩
   have q1:=q H2 s2
   unfold isC at q1
   rw [if_pos hb,co] at q1
   cases hd1 with
   | int p =>
    have q1:Q (.bl (decide (1<=p) && decide (p + b < w1))) H2:=q1
    refine cf (λ cc=>?_) (λ cc=>?_)
    ·have cc:decide (1<=p)=true:=cc
     refine ⟨_,Y,ixR s2 hx at1 ⟨_,Y,_,_,Y,Y,_,Y,_,_,Y,Y,?_⟩⟩
     rw [cc,Bool.true_and] at q1
     exact q1
    ·have cc:¬ decide (1<=p)=true:=cc
     rw [show decide (1<=p)=false by simpa using cc,Bool.false_and] at q1
     exact q1
   | _=>exact aL q1
  | 1,hi =>
   cases hi
   have hb0:=g1 (by decide)
   refine ⟨_,Y,_,Y,pp,v,d,"across",4,Y,by decide,hd.same s1,λ H2 s12=>⟨_,Y,?_⟩⟩
   have s2:=s1.trans s12
   refine cf (λ hb=>?_) (λ hb=>⟨⟨_,_,Y⟩,s2,λ _=>hb0,λ _=>by simpa using hb⟩)
   obtain ⟨r0,er,rl⟩:=hI hb
   obtain ⟨a,xs,rfl,hx,dx⟩:=hd.ref_row er
   cases dx with
   | @cons x0 _ xs0 _ hd0 dx =>
   obtain ⟨x1,x2,x3,d1,d2,d3,rfl,rfl,hd1,hd2,hd3⟩:=dx.three (by simpa using rl)
   have sp2:=s2 _ _ hsp
   have co:eA b h1 d=um b h1 d1:=by
    unfold eA
    rw [er]
   refine ⟨_,Y,Y,_,Y,aL ⟨_,Y,sp,_,3,_,Y,Y,SqT.of sp2,Y,?_⟩⟩
   have at1:atI [x0,x1,x2,x3] 1=some x1:=aR (by decide) rfl
   obtain ⟨T1,t1⟩:=(hd1.same s2).ty (K:=K)
   refine ⟨_,Y,ixR s2 hx at1 ⟨x1,T1,1,Y,t1,_,Y,?_⟩⟩
   have q1:=q H2 s2
   unfold isC at q1
   rw [if_neg (by rw [hb0]; decide),if_pos hb,co] at q1
   cases hd1 with
   | int p =>
    have q1:Q (.bl (decide (1<=p) && decide (p + b < h1))) H2:=q1
    refine cf (λ cc=>?_) (λ cc=>?_)
    ·have cc:decide (1<=p)=true:=cc
     refine ⟨_,Y,ixR s2 hx at1 ⟨_,Y,_,_,Y,Y,_,Y,_,_,Y,Y,?_⟩⟩
     rw [cc,Bool.true_and] at q1
     exact q1
    ·have cc:¬ decide (1<=p)=true:=cc
     rw [show decide (1<=p)=false by simpa using cc,Bool.false_and] at q1
     exact q1
   | _=>exact aL q1
 ·rintro σ H1 ⟨⟨v3,v4,rfl⟩,s1,g1,g2⟩
  have q1:=q H1 s1
  unfold isC at q1
  rw [if_neg (by rw [g1 (by decide)]; decide),if_neg (by rw [g2 (by decide)]; decide)] at q1
  exact q1
theorem eC {C:Addr} {H H':Hp} {s:Addr} {b:Int} {ks:List Kd} (k:Same H H') (S:ShopAt C H s b ks):ShopAt C H' s b ks:=S.keep (λ c o e=>k _ _ e) (λ c C' d fs e=>k _ _ e)
theorem scleaf:FnScope ["shop","spot","x","y","wide","high","tree"] ["shop","spot"] (defScope gx):=⟨Y,Y,Y,by decide +kernel,Y,by decide +kernel,by decide +kernel⟩
theorem uo {f wa C:Addr} {fd:FuncData} (F:Fun K "is_leaf" "is_leaf" gx f fd) (Z:TrC K mg wa) (DB:Dn P w K mg base "begins_with" ["thing","word","many"] 2 spBegins) (DL:Dn P w K mg base "lies_in" ["shop","wide","high","kind","turned","x","y"] 4 (spLiesG K C)):FnOk P w K mg base CX0 5 f fd ["shop","spot"] (spLeaf C):=by
 refine F.ok scleaf (λ vs H Q E h=>?_) (λ cdv A outer s H vs Q E hr h=>?_)
 ·refine bH λ G9 k9=>?_
  obtain ⟨pp,b',x1,y1,w1,h1,s,sp,ks,v,d,rfl,_⟩:=h
  refine k9 ?_
  rfl
 refine bH λ G9 k9=>?_
 obtain ⟨pp,b',x0',y0',w1,h1,s,sp,ks,v,d,rfl,S,hsp,hd,q⟩:=h
 refine k9 ?_
 have nd:=scleaf.nd
 obtain ⟨tdn,hdn⟩:=Z.dn
 obtain ⟨trs,hrs⟩:=Z.rs
 obtain ⟨tpc,hpc⟩:=Z.pc
 obtain ⟨tn1,hn1⟩:=Z.n1
 obtain ⟨tn5,hn5⟩:=Z.n5
 obtain ⟨tn4,hn4⟩:=Z.n4
 have hr2:=hr.mono (show 2<=4 by decide)
 refine ⟨_,(@ae _ _ _ _ _ (@bh _ _ _ _ _ _ (pv 1) (aX Y (ah (ai (i:=2) nd Y (Or.inl Y)) (ah (ai (i:=3) nd Y (Or.inl Y)) (ah (ai (i:=4) nd Y (Or.inl Y)) (ah (ai (i:=5) nd Y (Or.inl Y)) (ah (ai (i:=6) nd Y (Or.inl Y)) aK)))))) Y Y Y) (@ae _ _ _ _ _ (@aG _ _ _ _ _ _ _ _ (@aH _ _ _ (@am _ _ _ _ _ _ _ _ _ _ DB hr2 Y ((pv 6)^^^((bj (v:=.str "piece") Y hpc ⟨tpc,Y⟩)^^^((bj (v:=.int 5) Y hn5 ⟨tn5,Y⟩)^^^ab))) (by decide) Y Y) (by intro _; rfl)) (@ag _ _ _ (@ar _ _ _ _ (@am _ _ _ _ _ _ _ _ _ _ DL hr Y ((pv 0)^^^((pv 4)^^^((pv 5)^^^((@ao _ _ _ _ _ _ _ bA (pv 6) ad (λ _ _=>Y))^^^((@ao _ _ _ _ _ _ _ bA (pv 6) ad (λ _ _=>Y))^^^((@ao _ _ _ _ _ _ _ bA (pv 6) ad (λ _ _=>Y))^^^((@ao _ _ _ _ _ _ _ bA (pv 6) ad (λ _ _=>Y))^^^ab))))))) (by decide) Y Y))) aB) (@ag _ _ _ (@ar _ _ _ _ (@am _ _ _ _ _ _ _ _ _ _ DB hr2 Y ((pv 6)^^^((bj (v:=.str "rest") Y hrs ⟨trs,Y⟩)^^^((bj (v:=.int 1) Y hn1 ⟨tn1,Y⟩)^^^ab))) (by decide) Y Y))))),?_⟩
 refine ⟨_,Y,sp,_,Y,SqT.of hsp,Y,_,_,Y,_,_,Y,_,_,Y,_,_,Y,_,_,Y,Y,?_⟩
 refine ⟨_,Y,pp,v,d,"piece",5,Y,by decide,hd,λ H1 s1=>⟨_,Y,?_⟩⟩
 refine cf (λ hb=>?_) (λ hb=>?_)
 ·obtain ⟨r0,er,rl⟩:=hI hb
  obtain ⟨a,xs,rfl,hx,dx⟩:=hd.ref_row er
  cases dx with
  | @cons x0 _ xs0 _ hd0 dx =>
  refine bH λ G9 k9=>?_
  obtain ⟨x1,x2,x3,x4,d1,d2,d3,d4,rfl,rfl,hd1,hd2,hd3,hd4⟩:=dx.four (by simpa using rl)
  refine k9 ?_
  have a1:atI [x0,x1,x2,x3,x4] 1=some x1:=aR (by decide) rfl
  have a2:atI [x0,x1,x2,x3,x4] 2=some x2:=aR (by decide) rfl
  have a3:atI [x0,x1,x2,x3,x4] 3=some x3:=aR (by decide) rfl
  have a4:atI [x0,x1,x2,x3,x4] 4=some x4:=aR (by decide) rfl
  obtain ⟨T1,t1⟩:=(hd1.same s1).ty (K:=K)
  obtain ⟨T2,t2⟩:=(hd2.same s1).ty (K:=K)
  obtain ⟨T3,t3⟩:=(hd3.same s1).ty (K:=K)
  obtain ⟨T4,t4⟩:=(hd4.same s1).ty (K:=K)
  refine ⟨_,Y,_,Y,_,Y,_,Y,ixR s1 hx a1 ⟨_,Y,ixR s1 hx a2 ⟨_,Y,ixR s1 hx a3 ⟨_,Y,ixR s1 hx a4 ?_⟩⟩⟩⟩
  refine ⟨s,b',ks,w1,h1,x1,x2,x3,x4,T1,T2,T3,T4,Y,eC s1 S,t1,t2,t3,t4,λ H2 s2=>?_⟩
  have q1:=q H2 (s1.trans s2)
  unfold isL at q1
  rw [if_pos hb,er] at q1
  have e:ky ks w1 h1 d1 d2 d3 d4=fM ks w1 h1 x1 x2 x3 x4:=by
   cases hd1 with
   | int i=>cases hd2 with
    | bl c=>cases hd3 with
     | int x=>cases hd4 with
      | int y=>rfl
      | _=>simp [ky,fM,aY]
     | _=>simp [ky,fM,aY]
    | _=>simp [ky,fM,dZ]
   | _=>simp [ky,fM,dZ]
  have q1:Q (.bl (ky ks w1 h1 d1 d2 d3 d4)) H2:=q1
  rw [e] at q1
  exact q1
 ·refine ⟨_,Y,pp,v,d,"rest",1,Y,by decide,hd.same s1,λ H2 s2=>?_⟩
  have q1:=q H2 (s1.trans s2)
  unfold isL at q1
  rw [if_neg hb] at q1
  exact q1
theorem scbehind:FnScope ["blade","spot","x","y","wide","high","tree","way","p","first","second","wide_ahead","high_ahead","wide_behind","high_behind","step","far_x","far_y"] ["blade","spot"] (defScope cn):=⟨Y,Y,Y,by decide +kernel,Y,by decide +kernel,by decide +kernel⟩
set_option maxHeartbeats 1000000 in
theorem nZ {f wa:Addr} {fd:FuncData} (F:Fun K "spots_behind" "spots_behind" cn f fd) (Z:TrC K mg wa) (DP:Dn P w K mg base "cut_parts" ["blade","part","way","p"] 1 spParts2):FnOk P w K mg base CX0 2 f fd ["blade","spot"] (spBehind):=by
 refine F.ok scbehind (λ vs H Q E h=>?_) (λ cdv A outer s H vs Q E hr h=>?_)
 ·refine bH λ G9 k9=>?_
  obtain ⟨b,x1,y1,w1,h1,p1,sp,a,dn,l,r,rfl,_⟩:=h
  refine k9 ?_
  rfl
 refine bH λ G9 k9=>?_
 obtain ⟨b,x1,y1,w1,h1,p1,sp,a,dn,l,r,rfl,hsp,ha,q⟩:=h
 refine k9 ?_
 have nd:=scbehind.nd
 obtain ⟨tdn,hdn⟩:=Z.dn
 obtain ⟨trs,hrs⟩:=Z.rs
 obtain ⟨tpc,hpc⟩:=Z.pc
 obtain ⟨tn1,hn1⟩:=Z.n1
 obtain ⟨tn5,hn5⟩:=Z.n5
 obtain ⟨tn4,hn4⟩:=Z.n4
 refine ⟨_,(@ae _ _ _ _ _ (@bh _ _ _ _ _ _ (pv 1) (aX Y (ah (ai (i:=2) nd Y (Or.inl Y)) (ah (ai (i:=3) nd Y (Or.inl Y)) (ah (ai (i:=4) nd Y (Or.inl Y)) (ah (ai (i:=5) nd Y (Or.inl Y)) (ah (ai (i:=6) nd Y (Or.inl Y)) aK)))))) Y Y Y) (@ae _ _ _ _ _ (@bh _ _ _ _ _ _ (pv 6) (lp Y (ah (ai (i:=7) nd Y (Or.inl Y)) (ah (ai (i:=8) nd Y (Or.inl Y)) (ah (ai (i:=9) nd Y (Or.inl Y)) (ah (ai (i:=10) nd Y (Or.inl Y)) aK))))) Y Y Y) (@ae _ _ _ _ _ (@bh _ _ _ _ _ _ (@am _ _ _ _ _ _ _ _ _ _ DP hr Y ((pv 0)^^^((@az _ _ _ _ _ ((pv 4)^^^((pv 5)^^^ab)))^^^((pv 7)^^^((pv 8)^^^ab)))) (by decide) Y Y) (aX Y (ah (aX Y (ah (ai (i:=11) nd Y (Or.inl Y)) (ah (ai (i:=12) nd Y (Or.inl Y)) aK))) (ah (aX Y (ah (ai (i:=13) nd Y (Or.inl Y)) (ah (ai (i:=14) nd Y (Or.inl Y)) aK))) aK))) Y Y Y) (@ae _ _ _ _ _ (@aD _ _ 15 _ _ _ _ nd Y (Or.inl Y) (@aA _ _ _ _ _ _ _ _ aI (pv 8) (pv 0)) Y (Or.inl Y)) (@ae _ _ _ _ _ (@bh _ _ _ _ _ _ (eL (@aE _ _ _ _ _ _ _ _ aZ (pv 7) (bj (v:=.str "down") Y hdn ⟨tdn,Y⟩) (ay _)) (@az _ _ _ _ _ ((@aA _ _ _ _ _ _ _ _ aI (pv 2) (pv 15))^^^((pv 3)^^^ab))) (@az _ _ _ _ _ ((pv 2)^^^((@aA _ _ _ _ _ _ _ _ aI (pv 3) (pv 15))^^^ab)))) (aX Y (ah (ai (i:=16) nd Y (Or.inl Y)) (ah (ai (i:=17) nd Y (Or.inl Y)) aK))) Y Y Y) (@ag _ _ _ (@ar _ _ _ _ (@aJ _ _ _ _ ((@az _ _ _ _ _ ((pv 2)^^^((pv 3)^^^((pv 11)^^^((pv 12)^^^((pv 9)^^^ab))))))^^^((@az _ _ _ _ _ ((pv 16)^^^((pv 17)^^^((pv 13)^^^((pv 14)^^^((pv 10)^^^ab))))))^^^ab)))))))))),?_⟩
 refine ⟨_,Y,sp,_,Y,SqT.of hsp,Y,_,_,Y,_,_,Y,_,_,Y,_,_,Y,_,_,Y,Y,?_⟩
 have sq:SqL K H a [.str (if dn=true then "down" else "across"),.int p1,l,r]\/SqT K H a [.str (if dn=true then "down" else "across"),.int p1,l,r]:=ha.imp (λ z=>SqL.of z) λ z=>SqT.of z
 refine ⟨_,Y,a,_,Y,sq,Y,_,_,Y,_,_,Y,_,_,Y,_,_,Y,Y,?_⟩
 clear sq
 cases dn with
 | true =>
  refine ⟨_,Y,_,Y,_,Y,zS2,λ tp htp=>?_⟩
  have sa:Same H (upd H tp (.tup [.int w1,.int h1])):=Same.new htp
  have ka:(upd H tp (.tup [.int w1,.int h1])) tp=some (.tup [.int w1,.int h1]):=af
  generalize upd H tp (.tup [.int w1,.int h1])=Ha at sa ka ⊢
  refine ⟨_,Y,_,Y,b,w1,h1,p1,tp,true,Y,ka,λ u t1 t2 Hb ku k1 k2 sb=>?_⟩
  refine ⟨u,_,Y,SqT.of ku,Y,_,_,Y,t1,_,Y,SqT.of k1,Y,_,_,Y,_,_,Y,Y,_,_,Y,t2,_,Y,SqT.of k2,Y,_,_,Y,_,_,Y,Y,Y,?_⟩
  refine cC (λ σ' H'=>σ'=[some (.int b), some (.ref sp), some (.int x1), some (.int y1), some (.int w1), some (.int h1), some (.ref a), some (.str "down"), some (.int p1), some l, some r, some (.int p1), some (.int h1), some (.int (w1 - p1 - b)), some (.int h1), none, none, none]/\Hb=H') (λ R hR=>hR _ _ ⟨rfl, rfl⟩) ?_
  rintro _ _ ⟨rfl,rfl⟩
  refine ⟨_,Y,_,Y,_,_,Y,Y,?_⟩
  refine ⟨_,Y,Y,_,Y,aU ⟨_,Y,_,Y,_,_,Y,Y,_,Y,zS2,λ tf hf=>?_⟩⟩
  have sd:Same Hb (upd Hb tf (.tup [.int (x1 + (p1 + b)),.int y1])):=Same.new hf
  have kd:(upd Hb tf (.tup [.int (x1 + (p1 + b)),.int y1])) tf=some (.tup [.int (x1 + (p1 + b)),.int y1]):=af
  generalize upd Hb tf (.tup [.int (x1 + (p1 + b)),.int y1])=Hd at sd kd ⊢
  refine ⟨tf,_,Y,SqT.of kd,Y,_,_,Y,_,_,Y,Y,?_⟩
  refine ⟨_,Y,_,Y,_,Y,_,Y,_,Y,zS5,λ g1 hg1=>?_⟩
  have se:Same Hd (upd Hd g1 (.tup [.int x1,.int y1,.int p1,.int h1,l])):=Same.new hg1
  have ke:(upd Hd g1 (.tup [.int x1,.int y1,.int p1,.int h1,l])) g1=some (.tup [.int x1,.int y1,.int p1,.int h1,l]):=af
  generalize upd Hd g1 (.tup [.int x1,.int y1,.int p1,.int h1,l])=He at se ke ⊢
  refine ⟨_,Y,_,Y,_,Y,_,Y,_,Y,zS5,λ g2 hg2=>?_⟩
  have sf:Same He (upd He g2 (.tup [.int (x1 + (p1 + b)),.int y1,.int (w1 - p1 - b),.int h1,r])):=Same.new hg2
  have kf:(upd He g2 (.tup [.int (x1 + (p1 + b)),.int y1,.int (w1 - p1 - b),.int h1,r])) g2=some (.tup [.int (x1 + (p1 + b)),.int y1,.int (w1 - p1 - b),.int h1,r]):=af
  generalize upd He g2 (.tup [.int (x1 + (p1 + b)),.int y1,.int (w1 - p1 - b),.int h1,r])=Hf at sf kf ⊢
  refine ⟨zS2,λ lu hlu=>?_⟩
  have sg:Same Hf (upd Hf lu (.lst [.ref g1,.ref g2])):=Same.new hlu
  have kg:(upd Hf lu (.lst [.ref g1,.ref g2])) lu=some (.lst [.ref g1,.ref g2]):=af
  generalize upd Hf lu (.lst [.ref g1,.ref g2])=Hg at sg kg ⊢
  have sA:=((((sa.trans sb).trans sd).trans se).trans sf)
  exact q lu g1 g2 Hg (sA.free hlu) kg (sg _ _ (sf _ _ ke)) (sg _ _ kf) (sA.trans sg)
 | false =>
  refine ⟨_,Y,_,Y,_,Y,zS2,λ tp htp=>?_⟩
  have sa:Same H (upd H tp (.tup [.int w1,.int h1])):=Same.new htp
  have ka:(upd H tp (.tup [.int w1,.int h1])) tp=some (.tup [.int w1,.int h1]):=af
  generalize upd H tp (.tup [.int w1,.int h1])=Ha at sa ka ⊢
  refine ⟨_,Y,_,Y,b,w1,h1,p1,tp,false,Y,ka,λ u t1 t2 Hb ku k1 k2 sb=>?_⟩
  refine ⟨u,_,Y,SqT.of ku,Y,_,_,Y,t1,_,Y,SqT.of k1,Y,_,_,Y,_,_,Y,Y,_,_,Y,t2,_,Y,SqT.of k2,Y,_,_,Y,_,_,Y,Y,Y,?_⟩
  refine cC (λ σ' H'=>σ'=[some (.int b), some (.ref sp), some (.int x1), some (.int y1), some (.int w1), some (.int h1), some (.ref a), some (.str "across"), some (.int p1), some l, some r, some (.int w1), some (.int p1), some (.int w1), some (.int (h1 - p1 - b)), none, none, none]/\Hb=H') (λ R hR=>hR _ _ ⟨rfl, rfl⟩) ?_
  rintro _ _ ⟨rfl,rfl⟩
  refine ⟨_,Y,_,Y,_,_,Y,Y,?_⟩
  refine ⟨_,Y,Y,_,Y,aL ⟨_,Y,_,Y,_,Y,_,_,Y,Y,zS2,λ tf hf=>?_⟩⟩
  have sd:Same Hb (upd Hb tf (.tup [.int x1,.int (y1 + (p1 + b))])):=Same.new hf
  have kd:(upd Hb tf (.tup [.int x1,.int (y1 + (p1 + b))])) tf=some (.tup [.int x1,.int (y1 + (p1 + b))]):=af
  generalize upd Hb tf (.tup [.int x1,.int (y1 + (p1 + b))])=Hd at sd kd ⊢
  refine ⟨tf,_,Y,SqT.of kd,Y,_,_,Y,_,_,Y,Y,?_⟩
  refine ⟨_,Y,_,Y,_,Y,_,Y,_,Y,zS5,λ g1 hg1=>?_⟩
  have se:Same Hd (upd Hd g1 (.tup [.int x1,.int y1,.int w1,.int p1,l])):=Same.new hg1
  have ke:(upd Hd g1 (.tup [.int x1,.int y1,.int w1,.int p1,l])) g1=some (.tup [.int x1,.int y1,.int w1,.int p1,l]):=af
  generalize upd Hd g1 (.tup [.int x1,.int y1,.int w1,.int p1,l])=He at se ke ⊢
  refine ⟨_,Y,_,Y,_,Y,_,Y,_,Y,zS5,λ g2 hg2=>?_⟩
  have sf:Same He (upd He g2 (.tup [.int x1,.int (y1 + (p1 + b)),.int w1,.int (h1 - p1 - b),r])):=Same.new hg2
  have kf:(upd He g2 (.tup [.int x1,.int (y1 + (p1 + b)),.int w1,.int (h1 - p1 - b),r])) g2=some (.tup [.int x1,.int (y1 + (p1 + b)),.int w1,.int (h1 - p1 - b),r]):=af
  generalize upd He g2 (.tup [.int x1,.int (y1 + (p1 + b)),.int w1,.int (h1 - p1 - b),r])=Hf at sf kf ⊢
  refine ⟨zS2,λ lu hlu=>?_⟩
  have sg:Same Hf (upd Hf lu (.lst [.ref g1,.ref g2])):=Same.new hlu
  have kg:(upd Hf lu (.lst [.ref g1,.ref g2])) lu=some (.lst [.ref g1,.ref g2]):=af
  generalize upd Hf lu (.lst [.ref g1,.ref g2])=Hg at sg kg ⊢
  have sA:=((((sa.trans sb).trans sd).trans se).trans sf)
  exact q lu g1 g2 Hg (sA.free hlu) kg (sg _ _ (sf _ _ ke)) (sg _ _ kf) (sA.trans sg)
end
def isT (b:Int) (ks:List Kd) (w h:Int) (d:PyData):Bool :=
 if isC b w h d=true then
  match e:aV d with
  | some [_,.int p,l,r]=>if bw d "down" 4=true then isT b ks p h l && isT b ks (w - p - b) h r else isT b ks w p l && isT b ks w (h - p - b) r
  | _=>false
 else isL ks w h d
termination_by sizeOf d
decreasing_by all_goals (apply rg e; simp)
theorem dH {b:Int} {ks:List Kd} {w h:Int} {d:PyData} (hc:isC b w h d=false):isT b ks w h d=isL ks w h d:=by
 rw [isT,if_neg (by rw [hc]; decide)]
theorem mS {b:Int} {ks:List Kd} {w h:Int} {d:PyData} (hc:isC b w h d=true):∃ (dn:Bool) (p:Int) (l r:PyData),aV d=some [.str (if dn=true then "down" else "across"),.int p,l,r]/\1<=p/\(dn=true->p + b < w)/\(dn=false->p + b < h) /\
  isT b ks w h d=(if dn=true then isT b ks p h l && isT b ks (w - p - b) h r else isT b ks w p l && isT b ks w (h - p - b) r):=by
 have key:∀side,eA b side d=true->∃x p l r,aV d=some [x,.int p,l,r]/\1<=p/\p + b < side:=λ side h=>by
  unfold eA at h
  split at h
  ·rename_i x p l r e
   unfold um at h
   split at h
   ·rename_i p'
    rw [Bool.and_eq_true] at h
    exact ⟨x,p',l,r,e,of_decide_eq_true h.1,of_decide_eq_true h.2⟩
   ·cases h
  ·cases h
 have hc':=hc
 unfold isC at hc
 by_cases hb:bw d "down" 4=true
 ·rw [if_pos hb] at hc
  obtain ⟨x,p,l,r,e,p1,p2⟩:=key _ hc
  obtain ⟨r',e',_⟩:=hI hb
  rw [e] at e'
  cases e'
  refine ⟨true,p,l,r,e,p1,λ _=>p2,λ z=>(by cases z),?_⟩
  rw [isT,if_pos hc']
  split
  ·rename_i y p' l' r' e2
   rw [e] at e2
   cases e2
   rw [if_pos hb]; rfl
  ·rename_i z
   exact absurd e (z _ _ _ _)
 ·rw [if_neg hb] at hc
  by_cases hb2:bw d "across" 4=true
  ·rw [if_pos hb2] at hc
   obtain ⟨x,p,l,r,e,p1,p2⟩:=key _ hc
   obtain ⟨r',e',_⟩:=hI hb2
   rw [e] at e'
   cases e'
   refine ⟨false,p,l,r,e,p1,λ z=>(by cases z),λ _=>p2,?_⟩
   rw [isT,if_pos hc']
   split
   ·rename_i y p' l' r' e2
    rw [e] at e2
    cases e2
    rw [if_neg hb]; rfl
   ·rename_i z
    exact absurd e (z _ _ _ _)
  ·rw [if_neg hb2] at hc
   cases hc
structure Spot where
 x:Int
 y:Int
 w:Int
 h:Int
 d:PyData
def SpAt (p:Addr) (H0 H:Hp) (v:V) (t:Spot):Prop:=∃a u,v=.ref a/\H a=some (.tup [.int t.x,.int t.y,.int t.w,.int t.h,u])/\Dt p H0 u t.d
theorem SpAt.keep {p:Addr} {H0 H H':Hp} (k:∀a xs,H a=some (.tup xs)->H' a=some (.tup xs)) {v:V} {t:Spot} (h:SpAt p H0 H v t):SpAt p H0 H' v t:=by
 obtain ⟨a,u,e,h1,h2⟩:=h
 exact ⟨a,u,e,k _ _ h1,h2⟩
def fN (ts:List Spot):Nat:=(ts.map λ t=>wt t.d).sum
theorem dI (a b:List Spot):fN (a ++ b)=fN a + fN b:=by unfold fN; rw [List.map_append,List.sum_append]
theorem kz:∀ts:List Spot,ts.length<=fN ts
 | []=>Nat.le_refl _
 | t :: r=>by
  have:=kz r
  have:=rf t.d
  show r.length + 1<=wt t.d + fN r
  omega
theorem oe {d x y l r:PyData} (h:aV d=some [x,y,l,r]):wt l + wt r < wt d:=by
 cases d <;> simp only [aV,Option.some.injEq,reduceCtorEq] at h
 ·subst h; simp only [wt,wts]; omega
 ·subst h; simp only [wt,wts]; omega
theorem kA {α β:Type} {R:α->β->Prop} {x:α}:∀ {xs:List α} {zs:List β},Paired R (xs ++ [x]) zs->∃ys y,zs=ys ++ [y]/\Paired R xs ys/\R x y
 | [],zs,h=>by
  cases h with
  | cons a t=>cases t; exact ⟨[],_,Y,.nil,a⟩
 | z :: xs,zs,h=>by
  cases h with
  | cons a t =>
   obtain ⟨ys,y,rfl,p,r⟩:=kA t
   exact ⟨_ :: ys,y,Y,.cons a p,r⟩
theorem dJ {α β:Type} {R:α->β->Prop}:∀ {xs:List α} {ys:List β} {xs':List α} {ys':List β},Paired R xs ys->Paired R xs' ys'->Paired R (xs ++ xs') (ys ++ ys')
 | _,_,_,_,.nil,h=>h
 | _,_,_,_,.cons a t,h=>.cons a (dJ t h)
section
variable {P:Program} {w:World} {K:PySem.W.Frag} {mg:Str->Option Value} {base:Heap}
inductive spCP (vs:List V) (H:Hp) (Q:VK) (E_:XK):Prop
 | mk (w h:Int) (e_1:vs=[.int w,.int h]) (e_2:1<=w) (e_3:1<=h) (e_4:Q .non H):spCP vs H Q E_
inductive spIsTree (C:Addr) (vs:List V) (H:Hp) (Q:VK) (E_:XK):Prop
 | mk (pp s:Addr) (b w h:Int) (ks:List Kd) (v:V) (d:PyData) (e_1:vs=[.ref s,.int w,.int h,v]) (e_2:ShopAt C H s b ks) (e_3:1<=w) (e_4:1<=h) (e_5:Dt pp H v d) (e_6:wt d<=30000) (e_7:∀H',Same H H'->Q (.bl (isT b ks w h d)) H'):spIsTree C vs H Q E_
theorem sccplate:FnScope ["wide","high"] ["wide","high"] (defScope cI):=⟨Y,Y,Y,by decide +kernel,Y,by decide +kernel,by decide +kernel⟩
theorem og {f:Addr} {fd:FuncData} (F:Fun K "check_plate" "check_plate" cI f fd) (DW:Dn P w K mg base "is_whole" ["thing","least"] 1 (ck K)):FnOk P w K mg base CX0 2 f fd ["wide","high"] (spCP):=by
 refine F.ok sccplate (λ vs H Q E h=>?_) (λ cdv A outer s H vs Q E hr h=>?_)
 ·obtain ⟨w1,h1,rfl,_⟩:=h
  rfl
 obtain ⟨w1,h1,rfl,w0,h0,q⟩:=h
 have nd:=sccplate.nd
 refine ⟨_,(@ag _ _ _ (@aG _ _ _ _ _ _ _ _ (PW.pt (bq (@aM _ _ _ _ (@aH _ _ _ (@am _ _ _ _ _ _ _ _ _ _ DW hr Y ((pv 0)^^^(ad^^^ab)) (by decide) Y Y) (by intro _; rfl))) (bz (@aM _ _ _ _ (@aH _ _ _ (@am _ _ _ _ _ _ _ _ _ _ DW hr Y ((pv 1)^^^(ad^^^ab)) (by decide) Y Y) (by intro _; rfl)))))) (@ag _ _ _ cP) aB)),?_⟩
 refine ⟨_,Y,.int w1,"int",1,Y,Ty.int,_,Y,?_⟩
 rw [show aY (.int w1) 1=true from decide_eq_true w0]
 refine aL ⟨_,rfl,.int h1,"int",1,rfl,Ty.int,_,rfl,?_⟩
 rw [show aY (.int h1) 1=true from decide_eq_true h0]
 exact aL q
theorem scistree:FnScope ["shop","wide","high","thing","blade","waiting","spot"] ["shop","wide","high","thing"] (defScope gy):=⟨Y,Y,Y,by decide +kernel,Y,by decide +kernel,by decide +kernel⟩
theorem oh {f C:Addr} {fd:FuncData} (F:Fun K "is_tree" "is_tree" gy f fd) (T:ShopTxt K C) (MB:Mn P w K mg base C "blade" ["self"] 1 (dQ C)) (DCP:Dn P w K mg base "check_plate" ["wide","high"] 2 (spCP)) (DC:Dn P w K mg base "is_cut" ["blade","spot"] 3 (spCut)) (DF:Dn P w K mg base "is_leaf" ["shop","spot"] 5 (spLeaf C)) (DS:Dn P w K mg base "spots_behind" ["blade","spot"] 2 (spBehind)):FnOk P w K mg base CX0 6 f fd ["shop","wide","high","thing"] (spIsTree C):=by
 refine F.ok scistree (λ vs H Q E h=>?_) (λ cdv A outer s H vs Q E hr h=>?_)
 ·obtain ⟨pp,s,b,w1,h1,ks,v,d,rfl,_⟩:=h
  rfl
 obtain ⟨pp,s,b,w1,h1,ks,v,d,rfl,S,w0,h0,hd,dz,q⟩:=h
 have nd:=scistree.nd
 have hr1:=hr.mono (show 1<=5 by decide)
 have hr2:=hr.mono (show 2<=5 by decide)
 have hr3:=hr.mono (show 3<=5 by decide)
 refine ⟨_,(@ae _ _ _ _ _ (@bC _ _ _ _ (@am _ _ _ _ _ _ _ _ _ _ DCP hr2 Y ((pv 1)^^^((pv 2)^^^ab)) (by decide) Y Y) Y) (@ae _ _ _ _ _ (@aD _ _ 4 _ _ _ _ nd Y (Or.inl Y) (lA (pv 0) T.cl MB hr1) Y (Or.inl Y)) (@ae _ _ _ _ _ (@aD _ _ 5 _ _ _ _ nd Y (Or.inl Y) (@aJ _ _ _ _ ((@az _ _ _ _ _ (ad^^^(ad^^^((pv 1)^^^((pv 2)^^^((pv 3)^^^ab))))))^^^ab)) Y (Or.inl Y)) (@ae _ _ _ _ _ (gH PassesOwn.never (jQ (pv 5) (λ _=>Y)) (@ae _ _ _ _ _ (@aD _ _ 6 _ _ _ _ nd Y (Or.inl Y) (je PySem.F.plainAttrs_list PySem.F.slot_list_pop PySem.F.type_list_pop li (pv 5)) Y (Or.inl Y)) (@ag _ _ _ (@aG _ _ _ _ _ _ _ _ (@aH _ _ _ (@am _ _ _ _ _ _ _ _ _ _ DC hr3 Y ((pv 4)^^^((pv 6)^^^ab)) (by decide) Y Y) (by intro _; rfl)) (@ag _ _ _ (@bC _ _ _ _ (@em _ _ _ _ _ _ _ _ _ _ _ _ PySem.F.plainAttrs_list PySem.F.slot_list_extend PySem.F.type_list_extend iz (pv 5) ((@am _ _ _ _ _ _ _ _ _ _ DS hr2 Y ((pv 4)^^^((pv 6)^^^ab)) (by decide) Y Y)^^^ab) Y Y Y Y Y) Y)) (@ag _ _ _ (@aG _ _ _ _ _ _ _ _ (@aM _ _ _ _ (@aH _ _ _ (@am _ _ _ _ _ _ _ _ _ _ DF hr Y ((pv 0)^^^((pv 6)^^^ab)) (by decide) Y Y) (by intro _; rfl))) (@ag _ _ _ (@ar _ _ _ _ bI)) aB)))))) (@ag _ _ _ (@ar _ _ _ _ bI)))))),?_⟩
 have sz:(40000:Nat)<=sizeLine:=by decide
 refine ⟨_,Y,_,Y,w1,h1,Y,w0,h0,?_⟩
 obtain ⟨dx,r,rs,S1,S2,S3⟩:=id S
 refine ⟨_,Y,s,dx,_,Y,S1,(dP _ _ (by decide +kernel) (by decide +kernel)),s,b,ks,Y,S,?_⟩
 refine ⟨_,Y,_,Y,_,Y,zS5,λ t ht=>?_⟩
 have sa:Same H (upd H t (.tup [.int 0,.int 0,.int w1,.int h1,v])):=Same.new ht
 have ka:(upd H t (.tup [.int 0,.int 0,.int w1,.int h1,v])) t=some (.tup [.int 0,.int 0,.int w1,.int h1,v]):=af
 generalize upd H t (.tup [.int 0,.int 0,.int w1,.int h1,v])=Ha at sa ka ⊢
 refine ⟨zS1,λ wl hwl=>?_⟩
 have sb:Same Ha (upd Ha wl (.lst [.ref t])):=Same.new hwl
 have kb:(upd Ha wl (.lst [.ref t])) wl=some (.lst [.ref t]):=af
 generalize upd Ha wl (.lst [.ref t])=Hb at sb kb ⊢
 have fw:H wl=none:=sa.free hwl
 have sab:=sa.trans sb
 refine ⟨λ m σ H'=>∃ (vs:List V) (ts:List Spot) (v6:Option V),σ=[some (.ref s),some (.int w1),some (.int h1),some v,some (.int b),some (.ref wl),v6]/\m=fN ts/\H' wl=some (.lst vs)/\Paired (SpAt pp H H') vs ts/\fN ts<=30000/\isT b ks w1 h1 d=ts.all (λ t=>isT b ks t.w t.h t.d)/\Same H H',⟨_,[.ref t],[⟨0,0,w1,h1,d⟩],none,Y,Y,kb,.cons ⟨t,v,Y,sb _ _ ka,hd⟩ .nil,by show wt d + 0<=30000; omega,by rw [List.all_cons,List.all_nil,Bool.and_true],sab⟩,?_⟩
 rintro m σ H1 ⟨vs,ts,v6,rfl,rfl,hw,pr,sz1,al,s1⟩
 refine ⟨_,Y,_,.inl ⟨vs,SqL.of hw,Y⟩,?_⟩
 rcases List.eq_nil_or_concat vs with rfl | ⟨vs',v0,rfl⟩
 ·have ets:ts=[]:=by
   have:=Paired.length pr
   cases ts with
   | nil=>rfl
   | cons _ _=>simp at this
  subst ets
  have q1:=q H1 s1
  rw [al] at q1
  exact aL q1
 rw [List.concat_eq_append] at pr hw ⊢
 obtain ⟨ts',t0,rfl,prp,⟨sp,u,rfl,hsp,hdu⟩⟩:=kA pr
 rw [show (!(vs' ++ [V.ref sp]).isEmpty)=true by cases vs' <;> rfl]
 have ssz:fN (ts' ++ [t0])=fN ts' + wt t0.d:=by rw [dI]; show _ + (wt t0.d + 0)=_; omega
 rw [ssz] at sz1 ⊢
 refine aU ⟨λ σ' H'=>∃ (vs:List V) (ts:List Spot) (v6:Option V),σ'=[some (.ref s),some (.int w1),some (.int h1),some v,some (.int b),some (.ref wl),v6]/\fN ts < fN ts' + wt t0.d/\H' wl=some (.lst vs)/\Paired (SpAt pp H H') vs ts/\fN ts<=30000/\isT b ks w1 h1 d=ts.all (λ t=>isT b ks t.w t.h t.d)/\Same H H',λ σ' H' ⟨vs,ts,v6,e,l,r⟩=>⟨_,l,vs,ts,v6,e,rfl,r⟩,?_⟩
 rw [List.all_append,List.all_cons,List.all_nil,Bool.and_true] at al
 have ml:(vs' ++ [V.ref sp]).length=vs'.length + 1:=by rw [List.length_append]; rfl
 have keep:∀ {Hx:Hp} {o:HO},Same H Hx->Same H (upd Hx wl o):=λ {Hx o} sx c oo e=>by
  rw [au (λ z=>by rw [z,fw] at e; cases e)]
  exact sx _ _ e
 refine aj (λ R=>∀ (H':Hp),H' wl=some (.lst vs')->Paired (SpAt pp H H') vs' ts'->H' sp=some (.tup [.int t0.x,.int t0.y,.int t0.w,.int t0.h,u])->Same H H'->R [some (.ref s),some (.int w1),some (.int h1),some v,some (.int b),some (.ref wl),some (.ref sp)] H') (λ Dd hR=>?_) ?_
 ·refine ⟨_,Y,.inl ⟨Y,_,SqL.of hw⟩,wl,_,.ref sp,Y,Y,hw,(by rw [ml]; simp),?_⟩
  rw [List.dropLast_concat]
  have kt:∀ {c:Addr} {xs:List V},H1 c=some (.tup xs)->(upd H1 wl (.lst vs')) c=some (.tup xs):=λ {c xs} e=>by
   rw [au (λ z=>by rw [z,hw] at e; cases e)]; exact e
  exact hR _ af (Paired.mapP prp λ v t h=>h.keep λ a xs e=>kt e) (kt hsp) (keep s1)
 rintro H2 hw2 pr2 hsp2 s2
 refine ⟨_,Y,_,Y,pp,b,t0.x,t0.y,t0.w,t0.h,sp,u,t0.d,Y,hsp2,hdu.same s2,λ H3 s3=>⟨_,Y,?_⟩⟩
 have s03:=s2.trans s3
 refine cf (λ hc=>?_) (λ hc=>?_)
 ·obtain ⟨dn,p,l,r,er,p1,pw,ph,eT⟩:=mS (ks:=ks) hc
  obtain ⟨a,xs,rfl,hx,dxs⟩:=hdu.ref_row er
  cases dxs with
  | @cons x0 _ xs0 _ hd0 dxs =>
  cases dxs with
  | @cons x1 _ xs1 _ hd1 dxs =>
  cases dxs with
  | @cons lv _ xs2 _ hdl dxs =>
  cases dxs with
  | @cons rv _ xs3 _ hdr dxs =>
  cases dxs
  cases hd0
  cases hd1
  refine ⟨_,Y,.inl ⟨Y,_,SqL.of (s3 _ _ hw2)⟩,_,Y,_,Y,?_⟩
  refine ⟨b,t0.x,t0.y,t0.w,t0.h,p,sp,a,dn,lv,rv,Y,s3 _ _ hsp2,hx.imp (s03 _ _) (s03 _ _),λ lu t1 t2 H4 hlu ku k1 k2 s4=>?_⟩
  have hw4:=s4 _ _ (s3 _ _ hw2)
  have pl:=Paired.length pr2
  have sl:=kz ts'
  have two:=oe er
  refine ⟨wl,lu,_,_,Y,Y,hw4,ku,by show _ + 2<=_; omega,?_⟩
  have kt:∀ {c:Addr} {xs:List V},H4 c=some (.tup xs)->(upd H4 wl (.lst (vs' ++ [.ref t1,.ref t2]))) c=some (.tup xs):=λ {c xs} e=>by
   rw [au (λ z=>by rw [z,hw4] at e; cases e)]; exact e
  have pr4:Paired (SpAt pp H (upd H4 wl (.lst (vs' ++ [.ref t1,.ref t2])))) vs' ts':=Paired.mapP pr2 λ v t h=>h.keep λ a xs e=>kt (s4 _ _ (s3 _ _ e))
  cases dn with
  | true =>
   have k1:H4 t1=some (.tup [.int t0.x,.int t0.y,.int p,.int t0.h,lv]):=k1
   have k2:H4 t2=some (.tup [.int (t0.x + (p + b)),.int t0.y,.int (t0.w - p - b),.int t0.h,rv]):=k2
   refine ⟨vs' ++ [.ref t1,.ref t2],ts' ++ [⟨t0.x,t0.y,p,t0.h,l⟩,⟨t0.x + (p + b),t0.y,t0.w - p - b,t0.h,r⟩],_,Y,?_,af,dJ pr4 (.cons ⟨t1,lv,Y,kt k1,hdl⟩ (.cons ⟨t2,rv,Y,kt k2,hdr⟩ .nil)),?_,?_,keep (s03.trans s4)⟩
   ·rw [dI]; show _ + (wt l + (wt r + 0)) < _; omega
   ·rw [dI]; show _ + (wt l + (wt r + 0))<=_; omega
   ·rw [al,eT,List.all_append]
    simp only [if_true,List.all_cons,List.all_nil,Bool.and_true]
  | false =>
   have k1:H4 t1=some (.tup [.int t0.x,.int t0.y,.int t0.w,.int p,lv]):=k1
   have k2:H4 t2=some (.tup [.int t0.x,.int (t0.y + (p + b)),.int t0.w,.int (t0.h - p - b),rv]):=k2
   refine ⟨vs' ++ [.ref t1,.ref t2],ts' ++ [⟨t0.x,t0.y,t0.w,p,l⟩,⟨t0.x,t0.y + (p + b),t0.w,t0.h - p - b,r⟩],_,Y,?_,af,dJ pr4 (.cons ⟨t1,lv,Y,kt k1,hdl⟩ (.cons ⟨t2,rv,Y,kt k2,hdr⟩ .nil)),?_,?_,keep (s03.trans s4)⟩
   ·rw [dI]; show _ + (wt l + (wt r + 0)) < _; omega
   ·rw [dI]; show _ + (wt l + (wt r + 0))<=_; omega
   ·rw [al,eT,List.all_append]
    simp only [Bool.false_eq_true,if_false,List.all_cons,List.all_nil,Bool.and_true]
 ·have hc:isC b t0.w t0.h t0.d=false:=by simpa using hc
  have lf:=dH (ks:=ks) hc
  refine ⟨_,Y,_,Y,pp,b,t0.x,t0.y,t0.w,t0.h,s,sp,ks,u,t0.d,Y,eC s03 S,s3 _ _ hsp2,hdu.same s03,λ H4 s4=>⟨_,Y,?_⟩⟩
  have s04:=s03.trans s4
  have sp0:=rf t0.d
  cases hl:isL ks t0.w t0.h t0.d with
  | true =>
   rw [lf,hl,Bool.and_true] at al
   exact aL ⟨vs',ts',_,rfl,by omega,s4 _ _ (s3 _ _ hw2),Paired.mapP pr2 λ v t h=>h.keep λ a xs e=>s4 _ _ (s3 _ _ e),by omega,al,s04⟩
  | false =>
   rw [lf,hl,Bool.and_false] at al
   have q1:=q H4 s04
   rw [al] at q1
   exact aU q1
end
def mT (k:Kd):List Bool:=if bo k=true then [false,true] else [false]
inductive Tr where
 | rest
 | piece (i:Nat) (c:Bool) (x y:Int)
 | cut (dn:Bool) (p:Int) (l r:Tr)
def toD:Tr->PyData
 | .rest=>.tuple [.str "rest"]
 | .piece i c x y=>.tuple [.str "piece",.int i,.bool c,.int x,.int y]
 | .cut dn p l r=>.tuple [.str (if dn=true then "down" else "across"),.int p,toD l,toD r]
def lvN:Tr->Nat
 | .cut _ _ l r=>lvN l + lvN r
 | _=>1
theorem FP:∀t:Tr,1<=(toD t).depth
 | .rest=>by decide +kernel
 | .piece .. => by show 1<=PyData.depthAll _ + 1; omega
 | .cut .. => by show 1<=PyData.depthAll _ + 1; omega
def TrV (H:Hp):Tr->V->Prop
 | .rest,v=>∃a,v=.ref a/\H a=some (.tup [.str "rest"])
 | .piece i c x y,v=>∃a,v=.ref a/\H a=some (.tup [.str "piece",.int i,.bl c,.int x,.int y])
 | .cut dn p l r,v=>∃a x y,v=.ref a/\H a=some (.tup [.str (if dn=true then "down" else "across"),.int p,x,y])/\TrV H l x/\TrV H r y
theorem TrV.keep {H H':Hp} (k:∀a xs,H a=some (.tup xs)->H' a=some (.tup xs)):∀ (t:Tr) {v:V},TrV H t v->TrV H' t v
 | .rest,_,⟨a,e,h⟩=>⟨a,e,k _ _ h⟩
 | .piece ..,_,⟨a,e,h⟩=>⟨a,e,k _ _ h⟩
 | .cut _ _ l r,_,⟨a,x,y,e,h,h1,h2⟩=>⟨a,x,y,e,k _ _ h,TrV.keep k l h1,TrV.keep k r h2⟩
theorem TrV.dt {p:Addr} {H:Hp}:∀ (t:Tr) {v:V},TrV H t v->Dt p H v (toD t)
 | .rest,_,⟨a,e,h⟩=>by subst e; exact .tup h (.cons (.str _) .nil)
 | .piece ..,_,⟨a,e,h⟩=>by subst e; exact .tup h (.cons (.str _) (.cons (.int _) (.cons (.bl _) (.cons (.int _) (.cons (.int _) .nil)))))
 | .cut _ _ l r,_,⟨a,x,y,e,h,h1,h2⟩=>by subst e; exact .tup h (.cons (.str _) (.cons (.int _) (.cons (TrV.dt l h1) (.cons (TrV.dt r h2) .nil))))
def okT (b:Int) (ks:List Kd):Int->Int->Tr->Prop
 | _,_,.rest=>True
 | w,h,.piece i c x y=>∃k,ks[i]? = some k/\c∈mT k/\0<=x/\0<=y/\x + sd1 k c<=w/\y + sd2 k c<=h
 | w,h,.cut dn p l r=>1<=p/\(if dn=true then p + b < w/\okT b ks p h l/\okT b ks (w - p - b) h r else p + b < h/\okT b ks w p l/\okT b ks w (h - p - b) r)
theorem up {ks:List Kd} {i:Nat} {c:Bool} {k:Kd} (hk:ks[i]? = some k) (hc:c∈mT k):dZ ks (.int i) (.bl c)=true:=by
 unfold dZ
 simp only [Int.toNat_natCast,hk]
 rw [decide_eq_true (show (0:Int)<=i by omega),Bool.true_and]
 cases c with
 | false=>rfl
 | true =>
  unfold mT at hc
  cases t:bo k with
  | true=>rfl
  | false=>rw [t] at hc; simp at hc
def But2 (p q:Addr) (H H':Hp):Prop:=∀c o,c≠p->c≠q->H c=some o->H' c=some o
theorem But2.trans {p q:Addr} {H H' H'':Hp} (a:But2 p q H H') (b:But2 p q H' H''):But2 p q H H'':=λ c o n1 n2 e=>b c o n1 n2 (a c o n1 n2 e)
theorem But2.but {p q:Addr} {H H':Hp} (a:But p H H'):But2 p q H H':=λ c o n1 _ e=>a c o n1 e
theorem cD {d:PyData} {y:Str} {r:List PyData} (e:aV d=some (.str y :: r)) (z:Str) (n:Nat):bw d z n=(decide (r.length + 1=n) && decide (y=z)):=by
 unfold bw
 rw [e]
def pcD (ks:List Kd) (w h:Int):List PyData->Bool
 | [k,t,x,y]=>ky ks w h k t x y
 | _=>false
theorem iK {b:Int} {ks:List Kd} {w h:Int} {d:PyData} {y:Str} {r:List PyData} (e:aV d=some (.str y :: r)) (h1:(decide (y = "down"))=false) (h2:(decide (y = "across"))=false):isT b ks w h d=(if decide (y = "rest")=true then decide (r.length + 1=1) else if decide (y = "piece")=true then pcD ks w h r else false):=by
 have hc:isC b w h d=false:=by
  unfold isC
  rw [cD e,cD e,h1,h2]
  simp only [Bool.and_false]
  rfl
 rw [dH hc]
 unfold isL
 rw [cD e,cD e,e]
 by_cases hr:y = "rest"
 ·subst hr
  rw [show decide ((Str.ofString "rest")=(Str.ofString "piece"))=false by decide +kernel,Bool.and_false,if_neg Bool.false_ne_true,decide_eq_true (rfl:(Str.ofString "rest")=Str.ofString "rest"),if_pos rfl,Bool.and_true]
 ·rw [decide_eq_false hr,if_neg Bool.false_ne_true]
  by_cases hp:y = "piece"
  ·subst hp
   rw [decide_eq_true (rfl:(Str.ofString "piece")=Str.ofString "piece"),Bool.and_true,if_pos (rfl:true=true),Bool.and_false]
   match r with
   | []=>rfl
   | [_]=>rfl
   | [_,_]=>rfl
   | [_,_,_]=>rfl
   | [_,_,_,_]=>rfl
   | _ :: _ :: _ :: _ :: _ :: r=>simp [pcD]
  ·rw [decide_eq_false hp,Bool.and_false,Bool.and_false,if_neg Bool.false_ne_true,if_neg Bool.false_ne_true]
theorem mU {b:Int} {ks:List Kd} {w h:Int} {d:PyData} {dn:Bool} {r:List PyData} (e:aV d=some (.str (if dn=true then "down" else "across") :: r)):isT b ks w h d=(match r with
  | [.int p,l,r']=>decide (1<=p) && (if dn=true then decide (p + b < w) && (isT b ks p h l && isT b ks (w - p - b) h r') else decide (p + b < h) && (isT b ks w p l && isT b ks w (h - p - b) r'))
  | _=>false):=by
 have leafF:isC b w h d=false->isT b ks w h d=false:=λ hc=>by
  rw [dH hc]
  unfold isL
  rw [cD e,cD e]
  cases dn
  ·rw [show decide ((if false=true then (Str.ofString "down") else Str.ofString "across")=Str.ofString "piece")=false by decide +kernel,show decide ((if false=true then (Str.ofString "down") else Str.ofString "across")=Str.ofString "rest")=false by decide +kernel,Bool.and_false,Bool.and_false,if_neg Bool.false_ne_true]
  ·rw [show decide ((if true=true then (Str.ofString "down") else Str.ofString "across")=Str.ofString "piece")=false by decide +kernel,show decide ((if true=true then (Str.ofString "down") else Str.ofString "across")=Str.ofString "rest")=false by decide +kernel,Bool.and_false,Bool.and_false,if_neg Bool.false_ne_true]
 cases hc:isC b w h d with
 | false =>
  rw [leafF hc]
  split
  ·rename_i p l r' e
   unfold isC at hc
   rw [cD e,cD e] at hc
   cases dn
   ·rw [show decide ((if false=true then (Str.ofString "down") else Str.ofString "across")=Str.ofString "down")=false by decide +kernel,show decide ((if false=true then (Str.ofString "down") else Str.ofString "across")=Str.ofString "across")=true by decide +kernel] at hc
    unfold eA at hc
    rw [e] at hc
    have hc:(decide (1<=p) && decide (p + b < h))=false:=hc
    rw [if_neg Bool.false_ne_true,<- Bool.and_assoc,hc,Bool.false_and]
   ·rw [show decide ((if true=true then (Str.ofString "down") else Str.ofString "across")=Str.ofString "down")=true by decide +kernel] at hc
    unfold eA at hc
    rw [e] at hc
    have hc:(decide (1<=p) && decide (p + b < w))=false:=hc
    rw [if_pos rfl,<- Bool.and_assoc,hc,Bool.false_and]
  ·rfl
 | true =>
  obtain ⟨dn',p,l,r',e',p1,pw,ph,eT⟩:=mS (ks:=ks) hc
  rw [e] at e'
  have hdn:dn=dn':=by
   have:=PyData.str.inj (List.cons.inj (Option.some.inj e')).1
   cases dn <;> cases dn' <;> first | rfl | exact absurd this (by decide +kernel)
  subst hdn
  cases e'
  rw [eT]
  cases dn
  ·simp only [Bool.false_eq_true,if_false]
   rw [decide_eq_true p1,decide_eq_true (ph rfl)]; rfl
  ·simp only [if_true]
   rw [decide_eq_true p1,decide_eq_true (pw rfl)]; rfl
def TrD:Tr->PyData->Prop
 | .rest,d=>aV d=some [.str "rest"]
 | .piece i c x y,d=>aV d=some [.str "piece",.int i,.bool c,.int x,.int y]
 | .cut dn p l r,d=>∃dl dr,aV d=some [.str (if dn=true then "down" else "across"),.int p,dl,dr]/\TrD l dl/\TrD r dr
theorem TrD.to:∀t:Tr,TrD t (toD t)
 | .rest=>rfl
 | .piece .. => rfl
 | .cut _ _ l r=>⟨toD l,toD r,Y,TrD.to l,TrD.to r⟩
theorem TrD.good {b:Int} {ks:List Kd}:∀ (t:Tr) (d:PyData) (w h:Int),TrD t d->okT b ks w h t->isT b ks w h d=true
 | .rest,d,w,h,e,_=>by
  have e:aV d=some (.str "rest" :: []):=e
  rw [iK e (by decide +kernel) (by decide +kernel),if_pos (by decide +kernel)]; rfl
 | .piece i c x y,d,w,h,e,⟨k,hk,hc,x0,y0,hx,hy⟩=>by
  have e:aV d=some (.str "piece" :: [.int i,.bool c,.int x,.int y]):=e
  rw [iK e (by decide +kernel) (by decide +kernel),if_neg (by decide +kernel),if_pos (by decide +kernel)]
  show fM ks w h (.int i) (.bl c) (.int x) (.int y)=true
  unfold fM
  rw [up hk hc]
  simp only [Int.toNat_natCast,hk]
  rw [show aY (.int x) 0=true from decide_eq_true x0,show aY (.int y) 0=true from decide_eq_true y0,decide_eq_true hx,decide_eq_true hy]
  rfl
 | .cut true p l r,d,w,h,⟨dl,dr,e,tl,tr⟩,⟨p1,hp,hl,hr⟩=>by
  have eT:isT b ks w h d=(decide (1<=p) && (decide (p + b < w) && (isT b ks p h dl && isT b ks (w - p - b) h dr))):=mU (dn:=true) (r:=[.int p,dl,dr]) e
  rw [eT,decide_eq_true p1,decide_eq_true hp,TrD.good l dl p h tl hl,TrD.good r dr _ h tr hr]; rfl
 | .cut false p l r,d,w,h,⟨dl,dr,e,tl,tr⟩,⟨p1,hp,hl,hr⟩=>by
  have eT:isT b ks w h d=(decide (1<=p) && (decide (p + b < h) && (isT b ks w p dl && isT b ks w (h - p - b) dr))):=mU (dn:=false) (r:=[.int p,dl,dr]) e
  rw [eT,decide_eq_true p1,decide_eq_true hp,TrD.good l dl w p tl hl,TrD.good r dr w _ tr hr]; rfl
def dT:Tr->Nat
 | .cut _ _ l r=>max (dT l) (dT r) + 1
 | _=>0
def szT:Tr->Nat
 | .cut _ _ l r=>szT l + szT r + 1
 | _=>1
theorem rn (t:Tr):1<=szT t:=by cases t <;> simp only [szT] <;> omega
theorem iL {x:PyData}:∀ {ds:List PyData},x∈ds->x.depth<=PyData.depthAll ds
 | d :: r,h=>by
  rw [PyData.depthAll]
  rcases List.mem_cons.mp h with h | h
  ·rw [h]; omega
  ·have:=iL h; omega
theorem oi {C x dx:Addr} {H:Hp} (hx:H x=none) (hd:H dx=none):Same H (upd (upd H dx (.own x)) x (.ins C dx [])):=λ c o e=>by
 rw [au (ap e hx),au (ap e hd)]; exact e
def dpT:Tr->Nat
 | .cut _ _ l r=>max (dpT l) (dpT r) + 1
 | _=>0
mutual
theorem Dt.fresh {p q:Addr} {H:Hp} (hq:H q=none):∀ {v:V} {d:PyData},Dt p H v d->Dt q H v d
 | _,_,.non=>.non
 | _,_,.bl b=>.bl b
 | _,_,.int i=>.int i
 | _,_,.str z=>.str z
 | _,_,.lst n h r=>.lst (ap h hq) h (r.fresh hq)
 | _,_,.tup h r=>.tup h (r.fresh hq)
 | _,_,.emp h=>.emp h
theorem Dts.fresh {p q:Addr} {H:Hp} (hq:H q=none):∀ {vs:List V} {ds:List PyData},Dts p H vs ds->Dts q H vs ds
 | _,_,.nil=>.nil
 | _,_,.cons a r=>.cons (a.fresh hq) (r.fresh hq)
end
def okU (b:Int) (ks:List Kd):Int->Int->Tr->Prop
 | _,_,.rest=>True
 | w,h,.piece i c x y=>∃k,ks[i]? = some k/\(i,c)∈lyK ks 0/\0<=x/\0<=y/\x + sd1 k c<=w/\y + sd2 k c<=h
 | w,h,.cut dn p l r=>1<=p/\(if dn=true then p + b < w/\okU b ks p h l/\okU b ks (w - p - b) h r else p + b < h/\okU b ks w p l/\okU b ks w (h - p - b) r)
theorem lK:∀ {ks:List Kd} {i:Nat} {q:Nat×Bool},q∈lyK ks i->i<=q.1/\∃k,ks[q.1 - i]? = some k/\(q.2=false\/bo k=true)
 | [],_,_,h=>by simp [lyK] at h
 | x :: ks,i,q,h=>by
  rcases List.mem_append.mp (show q∈lyT i x ++ lyK ks (i + 1) from h) with h | h
  ·unfold lyT at h
   rcases List.mem_cons.mp h with rfl | h
   ·exact ⟨Nat.le_refl _,x,by simp,.inl rfl⟩
   ·split at h
    ·rename_i ht
     rw [List.mem_singleton.mp h]
     exact ⟨Nat.le_refl _,x,by simp,.inr ht⟩
    ·simp at h
  ·obtain ⟨h1,k,h2,h3⟩:=lK h
   exact ⟨by omega,k,by rw [show q.1 - i=(q.1 - (i + 1)) + 1 by omega,List.getElem?_cons_succ]; exact h2,h3⟩
theorem vO {ds:List PyData} (d3:PyData.canLayAll0 ds=true) (d4:PyData.depthAll ds<=1):SeqAt.shaped (.list ds)=true/\(ds=[]->PyData.eqv (.list ds) (.list [])=true)/\(ds≠[]->PyData.eqv (.list ds) (.list [])=false):=by
 refine ⟨?_,λ e=>by subst e; exact PySem.SeqAt.eqv_refl _ rfl,λ e=>?_⟩
 ·unfold SeqAt.shaped
  rw [PyData.canLay0,d3,PyData.depth,decide_eq_true (show PyData.depthAll ds + 1<=64 by omega)]; rfl
 ·cases ds with
  | nil=>exact absurd rfl e
  | cons d r=>rfl
def PotC (H:Hp) (p:Addr):Prop:=∃a b:Int,0<=a/\0<=b/\b < 4294967296/\H p=some (.lst [.int a,.int b])
theorem PotC.same {H H':Hp} {p:Addr} (x:PotC H p) (s:Same H H'):PotC H' p:=by
 obtain ⟨a,b,h1,h2,h3,e⟩:=x
 exact ⟨a,b,h1,h2,h3,s _ _ e⟩
theorem PotC.new {H:Hp} {p q:Addr} {o:HO} (x:PotC H p) (h:H q=none):PotC (upd H q o) p:=x.same (Same.new h)
theorem PotC.some {H:Hp} {p:Addr} (x:PotC H p):H p≠none:=by
 obtain ⟨a,b,h1,h2,h3,e⟩:=x
 rw [e]; exact λ z=>by cases z
theorem PotC.ne {H:Hp} {p q:Addr} (x:PotC H p) (h:H q=none):p≠q:=λ z=>x.some (z ▸ h)
theorem jx {H:Hp} {p:Addr} (h:PotC H p):∃xs,H p=some (.lst xs):=by
 obtain ⟨_,_,_,_,_,e⟩:=h
 exact ⟨_,e⟩
theorem PotC.put {H:Hp} {p l:Addr} {o:HO} (x:PotC H p) (n:p≠l):PotC (upd H l o) p:=by
 obtain ⟨a,b,h1,h2,h3,e⟩:=x
 exact ⟨a,b,h1,h2,h3,by rw [au n]; exact e⟩
theorem But.freeC {p q:Addr} {H H':Hp} (b:But p H H') (x:PotC H' p) (h:H' q=none):q≠p/\H q=none:=by
 have n:q≠p:=λ z=>x.some (z ▸ h)
 refine ⟨n,?_⟩
 cases e:H q with
 | none=>rfl
 | some o=>rw [b q o n e] at h; cases h
theorem cg {p c:Addr} {H0 H:Hp} {o:HO} (b:But p H0 H) (pt:PotC H p) (h:H c=none):∃H',upd H c o=H'/\H' c=some o/\c≠p/\Same H H'/\But p H0 H'/\PotC H' p :=
 ⟨_,rfl,af,Ne.symm (pt.ne h),Same.new h,b.trans (But.new h),pt.new h⟩
theorem ef {p:Addr} {H H':Hp} (b:But p H H') (pt:PotC H p) {c:Addr} {xs:List V} (e:H c=some (.tup xs)):H' c=some (.tup xs):=by
 obtain ⟨_,hp⟩:=jx pt
 exact b _ _ (λ z=>by rw [z,hp] at e; cases e) e
theorem ve {p:Addr} {rs:List V} {ks:List Kd} {H H':Hp} (b:But p H H') (pt:PotC H p) (h:Tups H rs ks):Tups H' rs ks:=Tups.keep (λ x xs e=>ef b pt e) h
theorem But.refl' {p:Addr} {H:Hp}:But p H H:=λ _ _ _ e=>e
section
variable {P:Program} {w:World} {K:PySem.W.Frag} {mg:Str->Option Value} {base:Heap}
inductive spPotC (vs:List V) (H:Hp) (Q:VK) (E_:XK):Prop
 | mk (c k:Int) (e_1:vs=[.int c,.int k]) (e_2:0<=k) (e_3:k<=63) (e_4:∀ (p:Addr) (H':Hp),H p=none->PotC H' p->Same H H'->Q (.ref p) H'):spPotC vs H Q E_
inductive spTake (vs:List V) (H:Hp) (Q:VK) (E_:XK):Prop
 | mk (p:Addr) (m:Int) (e_1:vs=[.ref p,.int m]) (e_2:PotC H p) (e_3:0 < m) (e_4:m<=10 ^ 60) (e_5:∀ (r:Int) (H':Hp),0<=r->r < m->PotC H' p->But p H H'->Q (.int r) H'):spTake vs H Q E_
inductive spUnit (vs:List V) (H:Hp) (Q:VK) (E_:XK):Prop
 | mk (p:Addr) (e_1:vs=[.ref p]) (e_2:PotC H p) (e_3:∀ (r:Int) (H':Hp),1<=r->r < 2 * 10 ^ 56->PotC H' p->But p H H'->Q (.int r) H'):spUnit vs H Q E_
inductive spSideC (vs:List V) (H:Hp) (Q:VK) (E_:XK):Prop
 | mk (p:Addr) (u m:Int) (e_1:vs=[.ref p,.int u,.int m]) (e_2:PotC H p) (e_3:1<=u) (e_4:u < 2 * 10 ^ 56) (e_5:1<=m) (e_6:m<=40) (e_7:∀ (r:Int) (H':Hp),1<=r->r < 10 ^ 58->PotC H' p->But p H H'->Q (.int r) H'):spSideC vs H Q E_
inductive spWorthC (vs:List V) (H:Hp) (Q:VK) (E_:XK):Prop
 | mk (p:Addr) (e_1:vs=[.ref p]) (e_2:PotC H p) (e_3:∀ (r:Int) (H':Hp),0<=r->r < 10 ^ 60->PotC H' p->But p H H'->Q (.int r) H'):spWorthC vs H Q E_
theorem sccell:FnScope ["_law_script","_law_k"] ["_law_script","_law_k"] (defScope mL):=⟨Y,Y,Y,by decide +kernel,Y,by decide +kernel,by decide +kernel⟩
theorem uq {f:Addr} {fd:FuncData} (F:Fun K "_law_cell" "_law_cell" mL f fd) (B:Blt mg):FnOk P w K mg base CX0 1 f fd ["_law_script","_law_k"] (lD K):=by
 refine F.ok sccell (λ vs H Q E h=>?_) (λ cdv A outer s H vs Q E hr h=>?_)
 ·obtain ⟨a,ns,n,rfl,_⟩:=h
  rfl
 obtain ⟨a,ns,n,rfl,hS,n0,q⟩:=h
 have nd:=sccell.nd
 refine ⟨_,(@ae _ _ _ _ _ (@aG _ _ _ _ _ _ _ _ (@aE _ _ _ _ _ _ _ _ mi (pv 1) (@aw _ _ _ _ _ _ _ _ _ aN Y B.len PySem.boot_len ((pv 0)^^^ab) (by decide) (by decide) Y Y) (ay _)) (@ag _ _ _ (@ar _ _ _ _ (@ao _ _ _ _ _ _ _ ix_list (pv 0) (pv 1) (λ _ _=>Y)))) aB) (@ag _ _ _ (@ar _ _ _ _ ad))),?_⟩
 have hl:(ns.map V.int).length=ns.length:=List.length_map _
 refine ⟨_,Y,_,Y,a,_,Y,.inl hS,_,_,Y,Y,_,Y,?_⟩
 refine cf (λ c=>?_) (λ c=>?_)
 ·have c':n < ((ns.map V.int).length:Int):=of_decide_eq_true c
  rw [hl] at c'
  have hk:n.toNat < ns.length:=by omega
  have hv:atI (ns.map V.int) n=some (.int ns[n.toNat]):=aR n0 (by rw [List.getElem?_map,List.getElem?_eq_getElem hk]; rfl)
  exact ⟨_,Y,_,Y,a,_,_,_,Y,Y,hS,hv,q _⟩
 ·exact q _
theorem scpotc:FnScope ["_law_cell_here","_law_k"] ["_law_cell_here","_law_k"] (defScope tZ):=⟨Y,Y,Y,by decide +kernel,Y,by decide +kernel,by decide +kernel⟩
theorem ur {f:Addr} {fd:FuncData} (F:Fun K "_law_pot" "_law_pot" tZ f fd) (B:Blt mg):FnOk P w K mg base CX0 1 f fd ["_law_cell_here","_law_k"] (spPotC):=by
 refine F.ok scpotc (λ vs H Q E h=>?_) (λ cdv A outer s H vs Q E hr h=>?_)
 ·obtain ⟨c,k,rfl,_⟩:=h
  rfl
 obtain ⟨c,k,rfl,k0,k1,q⟩:=h
 have nd:=scpotc.nd
 refine ⟨_,(@ag _ _ _ (@ar _ _ _ _ (@aJ _ _ _ _ ((@aw _ _ _ _ _ _ _ _ _ (ir Y) Y B.max PyProof.Rows.boot_max (ad^^^((@aA _ _ _ _ _ _ _ _ br (@aw _ _ _ _ _ _ _ _ _ jR Y B.abs PyProof.Rows.boot_abs ((pv 0)^^^ab) (by decide) (by decide) Y Y) (@aA _ _ _ _ _ _ _ _ fA ad ad))^^^ab)) (by decide) (by decide) Y Y)^^^((@aA _ _ _ _ _ _ _ _ aI (@aA _ _ _ _ _ _ _ _ aI (@aA _ _ _ _ _ _ _ _ fz (@aw _ _ _ _ _ _ _ _ _ jR Y B.abs PyProof.Rows.boot_abs ((pv 0)^^^ab) (by decide) (by decide) Y Y) ad) (@aA _ _ _ _ _ _ _ _ cU ad (pv 1))) ad)^^^ab))))),?_⟩
 refine ⟨_,Y,_,Y,_,_,Y,Y,⟨by decide,by decide,by decide⟩,_,_,Y,Y,_,_,Y,_,Y,_,Y,_,_,Y,Y,(by show (0:Int) < 2147483563; decide),_,Y,_,_,Y,Y,.inl ⟨by decide,by decide⟩,_,_,Y,Y,_,_,Y,Y,zS2,λ p hp=>?_⟩
 have e1:=Int.emod_nonneg (if c < 0 then -c else c) (show (2147483563:Int)≠0 by decide)
 have e2:=Int.emod_lt_of_pos (if c < 0 then -c else c) (show (0:Int) < 2147483563 by decide)
 refine q p _ hp ⟨_,_,?_,?_,?_,af⟩ (Same.new hp)
 ·split <;> omega
 ·omega
 ·omega
theorem sctake:FnScope ["_law_pot_here","_law_many","_law_digit"] ["_law_pot_here","_law_many"] (defScope mM):=⟨Y,Y,Y,by decide +kernel,Y,by decide +kernel,by decide +kernel⟩
theorem ut {f:Addr} {fd:FuncData} (F:Fun K "_law_take" "_law_take" mM f fd) (B:Blt mg):FnOk P w K mg base CX0 1 f fd ["_law_pot_here","_law_many"] (spTake):=by
 refine F.ok sctake (λ vs H Q E h=>?_) (λ cdv A outer s H vs Q E hr h=>?_)
 ·obtain ⟨p,m,rfl,_⟩:=h
  rfl
 obtain ⟨p,m,rfl,⟨a,b,a0,b0,b1,hp⟩,m0,m1,q⟩:=h
 have nd:=sctake.nd
 refine ⟨_,(@ae _ _ _ _ _ (@aG _ _ _ _ _ _ _ _ (@aE _ _ _ _ _ _ _ _ uR (@ao _ _ _ _ _ _ _ ix_list (pv 0) ad (λ _ _=>Y)) ad (ay _)) (@ae _ _ _ _ _ (@aD _ _ 2 _ _ _ _ nd Y (Or.inl Y) (@aA _ _ _ _ _ _ _ _ fz (@ao _ _ _ _ _ _ _ ix_list (pv 0) ad (λ _ _=>Y)) (pv 1)) Y (Or.inl Y)) (@ae _ _ _ _ _ (@bh _ _ _ _ _ _ (@aA _ _ _ _ _ _ _ _ eR (@ao _ _ _ _ _ _ _ ix_list (pv 0) ad (λ _ _=>Y)) (pv 1)) (kO (pv 0) ad gN) Y Y Y) (@ag _ _ _ (@ar _ _ _ _ (pv 2))))) aB) (@ae _ _ _ _ _ (@bh _ _ _ _ _ _ (@aA _ _ _ _ _ _ _ _ fz (@aA _ _ _ _ _ _ _ _ aI (@aA _ _ _ _ _ _ _ _ cU (@ao _ _ _ _ _ _ _ ix_list (pv 0) ad (λ _ _=>Y)) ad) ad) ad) (kO (pv 0) ad gN) Y Y Y) (@ag _ _ _ (@ar _ _ _ _ (@aA _ _ _ _ _ _ _ _ fz (@aA _ _ _ _ _ _ _ _ eR (@aA _ _ _ _ _ _ _ _ fz (@aA _ _ _ _ _ _ _ _ cU (@ao _ _ _ _ _ _ _ ix_list (pv 0) ad (λ _ _=>Y)) (@ao _ _ _ _ _ _ _ ix_list (pv 0) ad (λ _ _=>Y))) ad) ad) (pv 1)))))),?_⟩
 have at0:atI [V.int a,V.int b] 0=some (.int a):=rfl
 have at1:atI [V.int a,V.int b] 1=some (.int b):=rfl
 refine ⟨_,Y,p,_,_,_,Y,Y,SqL.of hp,at0,_,_,Y,Y,_,Y,?_⟩
 refine cf (λ c=>?_) (λ c=>?_)
 ·have c':0 < a:=of_decide_eq_true c
  refine ⟨_,Y,p,_,_,_,Y,Y,SqL.of hp,at0,_,Y,_,_,Y,Y,m0,?_⟩
  refine ⟨_,Y,p,_,_,_,Y,Y,SqL.of hp,at0,_,Y,_,_,Y,Y,⟨m0,m1⟩,_,Y,p,_,_,_,Y,Y,hp,Y,?_⟩
  refine ⟨_,Y,q _ _ (Int.emod_nonneg _ (by omega)) (Int.emod_lt_of_pos _ m0) ⟨a / m,b,Int.ediv_nonneg a0 (by omega),b0,b1,af⟩ But.upd⟩
 ·refine ⟨_,Y,p,_,_,_,Y,Y,SqL.of hp,at1,_,_,Y,Y,.inr ⟨by decide,by decide⟩,_,_,Y,Y,_,_,Y,Y,(by show (0:Int) < 2147483629; decide),_,Y,p,_,_,_,Y,Y,hp,Y,?_⟩
  have n0:0<=(b * 39373 + 7919) % 2147483629:=Int.emod_nonneg _ (by decide)
  have n1:(b * 39373 + 7919) % 2147483629 < 2147483629:=Int.emod_lt_of_pos _ (by decide)
  refine ⟨_,Y,p,_,_,_,Y,Y,SqL.of af,Y,_,Y,p,_,_,_,Y,Y,SqL.of af,Y,_,_,Y,Y,.inl ⟨by omega,by omega⟩,_,_,Y,Y,(by show (0:Int) < 2147483563; decide),_,_,Y,Y,⟨by decide,by decide⟩,_,Y,_,_,Y,Y,m0,?_⟩
  exact q _ _ (Int.emod_nonneg _ (by omega)) (Int.emod_lt_of_pos _ m0) ⟨a,_,a0,n0,by omega,af⟩ But.upd
theorem scunit:FnScope ["_law_pot_here","_law_some"] ["_law_pot_here"] (defScope mN):=⟨Y,Y,Y,by decide +kernel,Y,by decide +kernel,by decide +kernel⟩
theorem uw {f:Addr} {fd:FuncData} (F:Fun K "_law_unit" "_law_unit" mN f fd) (B:Blt mg) (DD:Dn P w K mg base "_law_take" ["_law_pot_here","_law_many"] 1 (spTake)):FnOk P w K mg base CX0 2 f fd ["_law_pot_here"] (spUnit):=by
 refine F.ok scunit (λ vs H Q E h=>?_) (λ cdv A outer s H vs Q E hr h=>?_)
 ·obtain ⟨p,rfl,_⟩:=h
  rfl
 obtain ⟨p,rfl,pt,q⟩:=h
 have nd:=scunit.nd
 refine ⟨_,(@ae _ _ _ _ _ (@aD _ _ 1 _ _ _ _ nd Y (Or.inl Y) (@aJ _ _ _ _ (ad^^^(ad^^^((@aA _ _ _ _ _ _ _ _ aI ad (@am _ _ _ _ _ _ _ _ _ _ DD hr Y ((pv 0)^^^((@aA _ _ _ _ _ _ _ _ fA ad ad)^^^ab)) (by decide) Y Y))^^^((@aA _ _ _ _ _ _ _ _ aI (@aA _ _ _ _ _ _ _ _ fA ad ad) (@am _ _ _ _ _ _ _ _ _ _ DD hr Y ((pv 0)^^^((@aA _ _ _ _ _ _ _ _ fA ad ad)^^^ab)) (by decide) Y Y))^^^ab))))) Y (Or.inl Y)) (@ag _ _ _ (@ar _ _ _ _ (@ao _ _ _ _ _ _ _ ix_list (pv 1) (@am _ _ _ _ _ _ _ _ _ _ DD hr Y ((pv 0)^^^(ad^^^ab)) (by decide) Y Y) (λ _ _=>Y))))),?_⟩
 have e56:(10:Int) ^ (56:Int).toNat=10 ^ 56:=rfl
 have e66:(10:Int) ^ 6 < 10 ^ 56:=by decide
 refine aj (λ R=>∀ (l:Addr) (c d:Int) (H':Hp),l≠p->H' l=some (.lst [.int 1,.int 1,.int c,.int d])->1<=c->c < 2 * 10 ^ 56->1<=d->d < 2 * 10 ^ 56->PotC H' p->But p H H'->R [some (.ref p),some (.ref l)] H') (λ Dd hR=>?_) ?_
 ·refine ⟨_,Y,_,_,Y,Y,⟨by decide,by decide,by decide⟩,p,_,Y,pt,(by show (0:Int) < 10 ^ (6:Int).toNat; decide),(by show (10:Int) ^ (6:Int).toNat<=10 ^ 60; decide),λ r H1 r0 r1 pt1 b1=>⟨_,_,Y,Y,_,_,Y,Y,⟨by decide,by decide,by decide⟩,_,Y,_,_,Y,Y,⟨by decide,by decide,by decide⟩,p,_,Y,pt1,(by show (0:Int) < 10 ^ (56:Int).toNat; decide),(by show (10:Int) ^ (56:Int).toNat<=10 ^ 60; decide),λ r2 H2 r20 r21 pt2 b2=>⟨_,_,Y,Y,zS4,λ l hl=>?_⟩⟩⟩
  have r1:r < 10 ^ 6:=r1
  rw [e56] at r21
  obtain ⟨H3,e3,k3,n3,s3,b3,pt3⟩:=cg (o:=.lst [.int 1,.int 1,.int (1 + r),.int (10 ^ (56:Int).toNat + r2)]) (b1.trans b2) pt2 hl
  rw [show upd H2 l _=H3 from e3]
  exact hR l _ _ _ n3 k3 (by omega) (by omega) (by rw [e56]; omega) (by rw [e56]; omega) pt3 b3
 rintro l c d H1 nlp hl1 c0 c1 d0 d1 pt1 b1
 refine ⟨_,Y,_,Y,p,4,Y,pt1,by decide,by decide,λ r H2 r0 r1 pt2 b2=>?_⟩
 have hl2:=b2 _ _ nlp hl1
 have one:(1:Int) < 2 * 10 ^ 56:=by decide
 obtain ⟨x,hx,x0,x1⟩:∃x:Int,atI [V.int 1,V.int 1,V.int c,V.int d] r=some (.int x)/\1<=x/\x < 2 * 10 ^ 56:=by
  have:r=0\/r=1\/r=2\/r=3:=by omega
  rcases this with rfl | rfl | rfl | rfl
  ·exact ⟨1,Y,by decide,one⟩
  ·exact ⟨1,Y,by decide,one⟩
  ·exact ⟨c,Y,c0,c1⟩
  ·exact ⟨d,Y,d0,d1⟩
 exact ⟨l,_,_,_,Y,Y,SqL.of hl2,hx,q x H2 x0 x1 pt2 (b1.trans b2)⟩
theorem scsidecc:FnScope ["_law_pot_here","_law_unit_here","_law_most"] ["_law_pot_here","_law_unit_here","_law_most"] (defScope mO):=⟨Y,Y,Y,by decide +kernel,Y,by decide +kernel,by decide +kernel⟩
theorem oj {f:Addr} {fd:FuncData} (F:Fun K "_law_side" "_law_side" mO f fd) (B:Blt mg) (DD:Dn P w K mg base "_law_take" ["_law_pot_here","_law_many"] 1 (spTake)):FnOk P w K mg base CX0 2 f fd ["_law_pot_here","_law_unit_here","_law_most"] (spSideC):=by
 refine F.ok scsidecc (λ vs H Q E h=>?_) (λ cdv A outer s H vs Q E hr h=>?_)
 ·obtain ⟨p,u,m,rfl,_⟩:=h
  rfl
 obtain ⟨p,u,m,rfl,pt,u0,u1,m1,m40,q⟩:=h
 have nd:=scsidecc.nd
 refine ⟨_,(@ae _ _ _ _ _ (@aG _ _ _ _ _ _ _ _ (@aE _ _ _ _ _ _ _ _ aZ (@am _ _ _ _ _ _ _ _ _ _ DD hr Y ((pv 0)^^^(ad^^^ab)) (by decide) Y Y) ad (ay _)) (@ag _ _ _ (@ar _ _ _ _ (@aA _ _ _ _ _ _ _ _ cU (pv 1) (@aA _ _ _ _ _ _ _ _ aI ad (@am _ _ _ _ _ _ _ _ _ _ DD hr Y ((pv 0)^^^((pv 2)^^^ab)) (by decide) Y Y))))) aB) (@ag _ _ _ (@ar _ _ _ _ (@aA _ _ _ _ _ _ _ _ aI ad (@am _ _ _ _ _ _ _ _ _ _ DD hr Y ((pv 0)^^^((@aA _ _ _ _ _ _ _ _ cU (pv 2) (pv 1))^^^ab)) (by decide) Y Y))))),?_⟩
 have e58:40 * (2 * 10 ^ 56) < (10:Int) ^ 58:=by decide
 have e60:40 * (2 * 10 ^ 56) < (10:Int) ^ 60:=by decide
 have mu:m * u<=40 * (2 * 10 ^ 56):=Int.mul_le_mul m40 (Int.le_of_lt u1) (by omega) (by decide)
 have mu1:1<=m * u:=by have:=Int.mul_le_mul m1 u0 (by decide) (by omega); omega
 refine dh (λ R=>∀ (H':Hp),PotC H' p->But p H H'->R [some (.ref p),some (.int u),some (.int m)] H') (λ R hR=>?_) ?_
 ·refine ⟨_,Y,p,2,Y,pt,by decide,by decide,λ z H1 z0 z1 pt1 b1=>⟨Y,_,Y,?_⟩⟩
  refine cf (λ cc=>?_) (λ cc=>hR _ pt1 b1)
  refine ⟨_,Y,_,Y,_,Y,p,m,Y,pt1,by omega,by omega,λ r H2 r0 r1 pt2 b2=>⟨_,_,Y,Y,_,_,Y,Y,.inr ⟨by omega,by omega⟩,q _ H2 ?_ ?_ pt2 (b1.trans b2)⟩⟩
  ·have:=Int.mul_le_mul u0 (show (1:Int)<=1 + r by omega) (by decide) (by omega)
   omega
  ·have:u * (1 + r)<=u * m:=Int.mul_le_mul_of_nonneg_left (by omega) (by omega)
   rw [Int.mul_comm u m] at this
   omega
 rintro H1 pt1 b1
 exact ⟨_,Y,_,Y,_,Y,_,_,Y,Y,.inl ⟨by omega,by omega⟩,p,m * u,Y,pt1,by omega,by omega,λ r H2 r0 r1 pt2 b2=>⟨_,_,Y,Y,q _ H2 (by omega) (by omega) pt2 (b1.trans b2)⟩⟩
theorem scworthc:FnScope ["_law_pot_here","_law_some"] ["_law_pot_here"] (defScope js):=⟨Y,Y,Y,by decide +kernel,Y,by decide +kernel,by decide +kernel⟩
theorem om {f:Addr} {fd:FuncData} (F:Fun K "_law_worth" "_law_worth" js f fd) (B:Blt mg) (DD:Dn P w K mg base "_law_take" ["_law_pot_here","_law_many"] 1 (spTake)):FnOk P w K mg base CX0 2 f fd ["_law_pot_here"] (spWorthC):=by
 refine F.ok scworthc (λ vs H Q E h=>?_) (λ cdv A outer s H vs Q E hr h=>?_)
 ·obtain ⟨p,rfl,_⟩:=h
  rfl
 obtain ⟨p,rfl,pt,q⟩:=h
 have nd:=scworthc.nd
 refine ⟨_,(@ae _ _ _ _ _ (@aD _ _ 1 _ _ _ _ nd Y (Or.inl Y) (@aJ _ _ _ _ ((@am _ _ _ _ _ _ _ _ _ _ DD hr Y ((pv 0)^^^(ad^^^ab)) (by decide) Y Y)^^^((@am _ _ _ _ _ _ _ _ _ _ DD hr Y ((pv 0)^^^((@aA _ _ _ _ _ _ _ _ fA ad ad)^^^ab)) (by decide) Y Y)^^^((@aA _ _ _ _ _ _ _ _ br (@aA _ _ _ _ _ _ _ _ br (@aA _ _ _ _ _ _ _ _ fA ad ad) ad) (@am _ _ _ _ _ _ _ _ _ _ DD hr Y ((pv 0)^^^(ad^^^ab)) (by decide) Y Y))^^^ab)))) Y (Or.inl Y)) (@ag _ _ _ (@ar _ _ _ _ (@ao _ _ _ _ _ _ _ ix_list (pv 1) (@am _ _ _ _ _ _ _ _ _ _ DD hr Y ((pv 0)^^^(ad^^^ab)) (by decide) Y Y) (λ _ _=>Y))))),?_⟩
 have e60:(10:Int) ^ (60:Int).toNat=10 ^ 60:=rfl
 have e100:(100:Int) < 10 ^ 60:=by decide
 refine aj (λ R=>∀ (l:Addr) (c d e:Int) (H':Hp),l≠p->H' l=some (.lst [.int c,.int d,.int e])->0<=c->c < 10 ^ 60->0<=d->d < 10 ^ 60->0<=e->e < 10 ^ 60->PotC H' p->But p H H'->R [some (.ref p),some (.ref l)] H') (λ Dd hR=>?_) ?_
 ·refine ⟨_,Y,p,10,Y,pt,by decide,by decide,λ r H1 r0 r1 pt1 b1=>⟨_,Y,_,_,Y,Y,⟨by decide,by decide,by decide⟩,p,_,Y,pt1,(by show (0:Int) < 10 ^ (60:Int).toNat; decide),(by show (10:Int) ^ (60:Int).toNat<=10 ^ 60; decide),λ r2 H2 r20 r21 pt2 b2=>⟨_,_,Y,Y,⟨by decide,by decide,by decide⟩,_,_,Y,Y,_,Y,p,10,Y,pt2,by decide,by decide,λ r3 H3 r30 r31 pt3 b3=>⟨_,_,Y,Y,zS3,λ l hl=>?_⟩⟩⟩⟩
  rw [e60] at r21
  obtain ⟨H4,e4,k4,n4,s4,b4,pt4⟩:=cg (o:=.lst [.int r,.int r2,.int (10 ^ (60:Int).toNat - 1 - r3)]) (b1.trans (b2.trans b3)) pt3 hl
  rw [show upd H3 l _=H4 from e4]
  exact hR l _ _ _ _ n4 k4 r0 (by omega) r20 r21 (by rw [e60]; omega) (by rw [e60]; omega) pt4 b4
 rintro l c d e H1 nlp hl1 c0 c1 d0 d1 e0 e1 pt1 b1
 refine ⟨_,Y,_,Y,p,3,Y,pt1,by decide,by decide,λ r H2 r0 r1 pt2 b2=>?_⟩
 have hl2:=b2 _ _ nlp hl1
 obtain ⟨x,hx,x0,x1⟩:∃x:Int,atI [V.int c,V.int d,V.int e] r=some (.int x)/\0<=x/\x < 10 ^ 60:=by
  have:r=0\/r=1\/r=2:=by omega
  rcases this with rfl | rfl | rfl
  ·exact ⟨c,Y,c0,c1⟩
  ·exact ⟨d,Y,d0,d1⟩
  ·exact ⟨e,Y,e0,e1⟩
 exact ⟨l,_,_,_,Y,Y,SqL.of hl2,hx,q x H2 x0 x1 pt2 (b1.trans b2)⟩
end
def LS (H:Hp) (t:Addr) (b:Int) (ks:List Kd) (kl:Addr):Prop:=∃rs,H t=some (.tup [.int b,.ref kl])/\H kl=some (.lst rs)/\Tups H rs ks
theorem LS.same {H H':Hp} {t kl:Addr} {b:Int} {ks:List Kd} (x:LS H t b ks kl) (s:Same H H'):LS H' t b ks kl:=by
 obtain ⟨rs,h1,h2,h3⟩:=x
 exact ⟨rs,s _ _ h1,s _ _ h2,Tups.keep (λ c xs e=>s _ _ e) h3⟩
theorem LS.but {p:Addr} {H H':Hp} {t kl:Addr} {b:Int} {ks:List Kd} (x:LS H t b ks kl) (n:kl≠p) (pt:PotC H p) (bt:But p H H'):LS H' t b ks kl:=by
 obtain ⟨rs,h1,h2,h3⟩:=x
 exact ⟨rs,ef bt pt h1,bt _ _ n h2,ve bt pt h3⟩
def LyC (H:Hp) (v:V) (q:Nat×Bool):Prop:=∃a,v=.ref a/\H a=some (.tup [.int q.1,.bl q.2])
theorem LyC.keep {H H':Hp} (k:∀a xs,H a=some (.tup xs)->H' a=some (.tup xs)) {v:V} {q:Nat×Bool} (h:LyC H v q):LyC H' v q:=by
 obtain ⟨a,e,h⟩:=h
 exact ⟨a,e,k _ _ h⟩
structure Pq where
 k:Nat
 c:Bool
 x:Int
 y:Int
def pqV (p:Pq):List V:=[.int p.k,.bl p.c,.int p.x,.int p.y]
structure Bx where
 a:Int
 b:Int
 c:Int
 d:Int
def bxV (x:Bx):List V:=[.int x.a,.int x.b,.int x.c,.int x.d]
def Gn (k:Kd) (p:Pq):Bx:=⟨p.x,p.y,p.x + sd1 k p.c,p.y + sd2 k p.c⟩
def apB (o r:Bx):Bool:=decide (o.c<=r.a) || decide (r.c<=o.a) || decide (o.d<=r.b) || decide (r.d<=o.b)
def Sq (H:Hp) (a:Addr) (xs:List V):Prop:=H a=some (.lst xs)\/H a=some (.tup xs)
def rA (k:Kd):Prop:=Good k/\k.w < 10 ^ 58/\k.h < 10 ^ 58
section
variable {P:Program} {w:World} {K:PySem.W.Frag} {mg:Str->Option Value} {base:Heap}
inductive spShopC (vs:List V) (H:Hp) (Q:VK) (E_:XK):Prop
 | mk (p:Addr) (u:Int) (e_1:vs=[.ref p,.int u]) (e_2:PotC H p) (e_3:1<=u) (e_4:u < 2 * 10 ^ 56) (e_5:∀ (t kl:Addr) (b:Int) (ks:List Kd) (H':Hp),LS H' t b ks kl->kl≠p->H kl=none->(∀k∈ks,rA k)->1<=ks.length->ks.length<=8->0<=b->b < 10 ^ 58->PotC H' p->But p H H'->Q (.ref t) H'):spShopC vs H Q E_
inductive spSidesC (vs:List V) (H:Hp) (Q:VK) (E_:XK):Prop
 | mk (t kl:Addr) (b:Int) (ks:List Kd) (i:Nat) (c:Bool) (k:Kd) (e_1:vs=[.ref t,.int i,.bl c]) (e_2:LS H t b ks kl) (e_3:ks[i]? = some k) (e_4:∀ (r:Addr) (H':Hp),H' r=some (.tup [.int (sd1 k c),.int (sd2 k c)])->Same H H'->Q (.ref r) H'):spSidesC vs H Q E_
inductive spLyingsC (vs:List V) (H:Hp) (Q:VK) (E_:XK):Prop
 | mk (t kl:Addr) (b:Int) (ks:List Kd) (e_1:vs=[.ref t]) (e_2:LS H t b ks kl) (e_3:ks.length<=8) (e_4:∀ (l:Addr) (ys:List V) (H':Hp),H' l=some (.lst ys)->H l=none->Paired (LyC H') ys (lyK ks 0)->Same H H'->Q (.ref l) H'):spLyingsC vs H Q E_
inductive spBox (vs:List V) (H:Hp) (Q:VK) (E_:XK):Prop
 | mk (t kl a:Addr) (b:Int) (ks:List Kd) (p:Pq) (k:Kd) (e_1:vs=[.ref t,.ref a]) (e_2:LS H t b ks kl) (e_3:Sq H a (pqV p)) (e_4:ks[p.k]? = some k) (e_5:∀ (r:Addr) (H':Hp),H' r=some (.tup (bxV (Gn k p)))->Same H H'->Q (.ref r) H'):spBox vs H Q E_
inductive spApart (vs:List V) (H:Hp) (Q:VK) (E_:XK):Prop
 | mk (a1 a2:Addr) (o r:Bx) (e_1:vs=[.ref a1,.ref a2]) (e_2:H a1=some (.tup (bxV o))) (e_3:H a2=some (.tup (bxV r))) (e_4:Q (.bl (apB o r)) H):spApart vs H Q E_
theorem scshopc:FnScope ["_law_pot_here","_law_unit_here","_law_blade","_law_kinds","_law_k","_law_wide","_law_high"] ["_law_pot_here","_law_unit_here"] (defScope mP):=⟨Y,Y,Y,by decide +kernel,Y,by decide +kernel,by decide +kernel⟩
theorem rB {f:Addr} {fd:FuncData} (F:Fun K "_law_shop" "_law_shop" mP f fd) (B:Blt mg) (DD:Dn P w K mg base "_law_take" ["_law_pot_here","_law_many"] 1 (spTake)) (DSi:Dn P w K mg base "_law_side" ["_law_pot_here","_law_unit_here","_law_most"] 2 (spSideC)) (DWo:Dn P w K mg base "_law_worth" ["_law_pot_here"] 2 (spWorthC)):FnOk P w K mg base CX0 3 f fd ["_law_pot_here","_law_unit_here"] (spShopC):=by
 refine F.ok scshopc (λ vs H Q E h=>?_) (λ cdv A outer s H vs Q E hr h=>?_)
 ·obtain ⟨p,u,rfl,_⟩:=h
  rfl
 obtain ⟨p,u,rfl,pt,u0,u1,q⟩:=h
 have nd:=scshopc.nd
 refine ⟨_,(@ae _ _ _ _ _ (@aD _ _ 2 _ _ _ _ nd Y (Or.inl Y) (@ao _ _ _ _ _ _ _ ix_list (@aJ _ _ _ _ (ad^^^((pv 1)^^^((@am _ _ _ _ _ _ _ _ _ _ DD (hr.mono (by decide)) Y ((pv 0)^^^(ad^^^ab)) (by decide) Y Y)^^^((@am _ _ _ _ _ _ _ _ _ _ DD (hr.mono (by decide)) Y ((pv 0)^^^((@aA _ _ _ _ _ _ _ _ aI (@aA _ _ _ _ _ _ _ _ cU ad (pv 1)) ad)^^^ab)) (by decide) Y Y)^^^ab))))) (@am _ _ _ _ _ _ _ _ _ _ DD (hr.mono (by decide)) Y ((pv 0)^^^(ad^^^ab)) (by decide) Y Y) (λ _ _=>Y)) Y (Or.inl Y)) (@ae _ _ _ _ _ (@aD _ _ 3 _ _ _ _ nd Y (Or.inl Y) (@aJ _ _ _ _ ab) Y (Or.inl Y)) (@ae _ _ _ _ _ (@ce _ _ _ _ _ _ _ _ PassesOwn.never Y (dN Y B.range ((@aA _ _ _ _ _ _ _ _ aI ad (@am _ _ _ _ _ _ _ _ _ _ DD (hr.mono (by decide)) Y ((pv 0)^^^(ad^^^ab)) (by decide) Y Y))^^^ab)) (ai (i:=4) nd Y (Or.inl Y)) (@ae _ _ _ _ _ (@aD _ _ 5 _ _ _ _ nd Y (Or.inl Y) (@am _ _ _ _ _ _ _ _ _ _ DSi hr Y ((pv 0)^^^((pv 1)^^^(ad^^^ab))) (by decide) Y Y) Y (Or.inl Y)) (@ae _ _ _ _ _ (@aD _ _ 6 _ _ _ _ nd Y (Or.inl Y) (@ao _ _ _ _ _ _ _ ix_list (@aJ _ _ _ _ ((pv 5)^^^((@am _ _ _ _ _ _ _ _ _ _ DSi hr Y ((pv 0)^^^((pv 1)^^^(ad^^^ab))) (by decide) Y Y)^^^ab))) (@aT _ _ _ _ _ _ _ _ _ bF Y B.int PyProof.Rows.boot_int ((@aW _ _ _ _ _ _ _ _ uR (@am _ _ _ _ _ _ _ _ _ _ DD (hr.mono (by decide)) Y ((pv 0)^^^(ad^^^ab)) (by decide) Y Y) ad (ay _))^^^ab) (by decide) (by decide) Y Y) (λ _ _=>Y)) Y (Or.inl Y)) (@ag _ _ _ (@bC _ _ _ _ (@em _ _ _ _ _ _ _ _ _ _ _ _ PySem.F.plainAttrs_list PySem.F.slot_list_append PySem.F.type_list_append bL (pv 3) ((@az _ _ _ _ _ ((pv 5)^^^((pv 6)^^^((@am _ _ _ _ _ _ _ _ _ _ DWo hr Y ((pv 0)^^^ab) (by decide) Y Y)^^^((@am _ _ _ _ _ _ _ _ _ _ DWo hr Y ((pv 0)^^^ab) (by decide) Y Y)^^^((@aW _ _ _ _ _ _ _ _ aZ (@am _ _ _ _ _ _ _ _ _ _ DD (hr.mono (by decide)) Y ((pv 0)^^^(ad^^^ab)) (by decide) Y Y) ad (ay _))^^^ab))))))^^^ab) Y Y Y Y Y) Y)))) (by intro _; rfl)) (@ag _ _ _ (@ar _ _ _ _ (@az _ _ _ _ _ ((pv 2)^^^((pv 3)^^^ab)))))))),?_⟩
 have e60:(100:Int) < 10 ^ 60:=by decide
 have e58:(10:Int) ^ 58 < 10 ^ 60:=by decide
 have e59:2 * (2 * 10 ^ 56) + 100 < (10:Int) ^ 58:=by decide
 have e57:2 * (2 * 10 ^ 56) + 1 < (10:Int) ^ 60:=by decide
 have sz:(100:Nat) < sizeLine:=by decide
 refine aj (λ R=>∀ (b:Int) (H':Hp),0<=b->b < 10 ^ 58->PotC H' p->But p H H'->R [some (.ref p),some (.int u),some (.int b),none,none,none,none] H') (λ Dd hR=>?_) ?_
 ·refine ⟨_,Y,_,Y,p,3,Y,pt,by decide,by decide,λ r1 H1 r10 r11 pt1 b1=>⟨_,Y,_,Y,_,_,Y,Y,.inl ⟨by decide,by decide⟩,_,_,Y,Y,p,_,Y,pt1,by omega,by omega,λ r2 H2 r20 r21 pt2 b2=>⟨zS4,λ l hl=>?_⟩⟩⟩
  obtain ⟨H3,e3,k3,n3,s3,b3,pt3⟩:=cg (o:=.lst [.int 0,.int u,.int r1,.int r2]) (b1.trans b2) pt2 hl
  rw [show upd H2 l _=H3 from e3]
  refine ⟨_,Y,p,4,Y,pt3,by decide,by decide,λ r H4 r0 r1' pt4 b4=>?_⟩
  have hl4:=b4 _ _ n3 k3
  obtain ⟨x,hx,x0,x1⟩:∃x:Int,atI [V.int 0,V.int u,V.int r1,V.int r2] r=some (.int x)/\0<=x/\x < 10 ^ 58:=by
   have:r=0\/r=1\/r=2\/r=3:=by omega
   rcases this with rfl | rfl | rfl | rfl
   ·exact ⟨0,Y,by decide,by omega⟩
   ·exact ⟨u,Y,by omega,by omega⟩
   ·exact ⟨r1,Y,r10,by omega⟩
   ·exact ⟨r2,Y,r20,by omega⟩
  exact ⟨l,_,_,_,Y,Y,SqL.of hl4,hx,hR x _ x0 x1 pt4 (b3.trans b4)⟩
 rintro b H1 b0 b1' pt1 b1
 refine aj (λ R=>∀ (l:Addr) (H':Hp),l≠p->H1 l=none->H' l=some (.lst [])->PotC H' p->But p H H'->R [some (.ref p),some (.int u),some (.int b),some (.ref l),none,none,none] H') (λ Dd hR=>?_) ?_
 ·refine ⟨by decide,λ l hl=>?_⟩
  obtain ⟨H2,e2,k2,n2,s2,b2,pt2⟩:=cg (o:=.lst []) b1 pt1 hl
  rw [show upd H1 l _=H2 from e2]
  exact hR l _ n2 hl k2 pt2 b2
 rintro l H2 nlp hl1 hl2 pt2 b2
 have hl0:H l=none:=(b1.freeC pt1 hl1).2
 refine cC (λ σ' H'=>(∃ (v4 v5 v6:Option V) (rs:List V) (ks:List Kd),σ'=[some (.ref p),some (.int u),some (.int b),some (.ref l),v4,v5,v6]/\H' l=some (.lst rs)/\Tups H' rs ks/\(∀k∈ks,rA k)/\(1<=rs.length/\rs.length<=8)/\PotC H' p/\But p H H')) (λ R hR=>?_) ?_
 ·refine ⟨_,Y,p,8,Y,pt2,by decide,by decide,λ m H3 m0 m1 pt3 b3=>⟨_,_,Y,Y,_,Y,by omega,by omega,?_⟩⟩
  refine dO (n:=(1 + m).toNat) (λ i σ' H'=>(∃ (v4 v5 v6:Option V) (rs:List V) (ks:List Kd),σ'=[some (.ref p),some (.int u),some (.int b),some (.ref l),v4,v5,v6]/\H' l=some (.lst rs)/\Tups H' rs ks/\(∀k∈ks,rA k)/\rs.length=i/\PotC H' p/\But p H H')) ⟨_,_,_,[],[],rfl,b3 _ _ nlp hl2,.nil,λ k hk=>by simp at hk,rfl,pt3,b2.trans b3⟩ ?_ ?_
  ·intro i _ H4 hi hI9
   refine bH λ G9 k9=>?_
   obtain ⟨v4,v5,v6,rs,ks,rfl,hl4,tp4,gk4,rl4,pt4,bt4⟩:=hI9
   refine k9 ?_
   refine ⟨_,Y,_,Y,p,u,6,Y,pt4,u0,u1,by decide,by decide,λ w1 H5 w0 w1' pt5 b5=>?_⟩
   refine ⟨_,Y,_,Y,_,Y,p,u,6,Y,pt5,u0,u1,by decide,by decide,λ h1 H6 h0 h1' pt6 b6=>⟨zS2,λ l2 hl2'=>?_⟩⟩
   obtain ⟨H7,e7,k7,n7,s7,b7,pt7⟩:=cg (o:=.lst [.int w1,.int h1]) (b5.trans b6) pt6 hl2'
   rw [show upd H6 l2 _=H7 from e7]
   refine ⟨_,Y,p,5,Y,pt7,by decide,by decide,λ z H8 z0 z1 pt8 b8=>⟨_,_,Y,Y,.inr ⟨_,Y,?_⟩⟩⟩
   have l28:=b8 _ _ n7 k7
   obtain ⟨nn,hnn,nn0,nn1⟩:∃nn:Int,atI [V.int w1,V.int h1] (if decide (0 < z)=true then (1:Int) else 0)=some (.int nn)/\1<=nn/\nn < 10 ^ 58:=by
    by_cases c:(0:Int) < z
    ·exact ⟨h1,by rw [decide_eq_true c]; rfl,h0,h1'⟩
    ·exact ⟨w1,by rw [decide_eq_false c]; rfl,w0,w1'⟩
   refine ⟨l2,_,_,_,Y,Y,SqL.of l28,hnn,?_⟩
   have b48:=b7.trans b8
   have hl8:=b48 _ _ nlp hl4
   refine ⟨_,Y,.inl ⟨Y,_,SqL.of hl8⟩,_,Y,_,Y,_,Y,p,Y,pt8,λ wo H9 wo0 wo1 pt9 b9=>?_⟩
   refine ⟨_,Y,p,Y,pt9,λ wa Ha wa0 wa1 pta ba=>?_⟩
   refine ⟨_,Y,p,2,Y,pta,by decide,by decide,λ tu Hb tu0 tu1 ptb bb=>⟨Y,zS5,λ t ht=>?_⟩⟩
   have b4b:=b48.trans (b9.trans (ba.trans bb))
   obtain ⟨H12,e12,k12,n12,s12,b12,pt12⟩:=cg (o:=.tup [.int w1,.int nn,.int wo,.int wa,.bl (decide (V.int tu=V.int 0))]) (bt4.trans b4b) ptb ht
   rw [show upd Hb t _=H12 from e12]
   have k12:H12 t=some (.tup (kdV ⟨w1,nn,wo,wa,decide (V.int tu=V.int 0)⟩)):=k12
   have hlc:=s12 _ _ (b4b _ _ nlp hl4)
   refine ⟨l,_,_,Y,Y,hlc,(by have:i < (1 + m).toNat:=hi; omega),?_⟩
   have kt:∀ {c:Addr} {xs:List V},H12 c=some (.tup xs)->(upd H12 l (.lst (rs ++ [.ref t]))) c=some (.tup xs):=λ {c xs} e=>by
    rw [au (λ z=>by rw [z,hlc] at e; cases e)]; exact e
   refine ⟨_,_,_,rs ++ [.ref t],ks ++ [⟨w1,nn,wo,wa,decide (V.int tu=V.int 0)⟩],Y,af,?_,λ k hk=>?_,by rw [List.length_append,rl4]; rfl,pt12.put (Ne.symm nlp),λ c o n e=>?_⟩
   ·exact dJ (Tups.keep (λ c xs e=>kt (s12 _ _ e)) (ve b4b pt4 tp4)) (.cons ⟨t,Y,kt k12⟩ .nil)
   ·rcases List.mem_append.mp hk with hk | hk
    ·exact gk4 k hk
    ·rw [List.mem_singleton.mp hk]
     exact ⟨⟨by show (1:Int)<=w1; omega,by show (1:Int)<=nn; omega,wo0,wa0,by show w1 < _; omega,by show nn < _; omega,wo1,wa1⟩,w1',nn1⟩
   ·rw [au (λ z=>by rw [z,hl0] at e; cases e)]
    exact b12 _ _ n e
  ·intro _ H4 hI9
   refine bH λ G9 k9=>?_
   obtain ⟨v4,v5,v6,rs,ks,rfl,hl4,tp4,gk4,rl4,pt4,bt4⟩:=hI9
   refine k9 ?_
   exact hR _ _ ⟨_,_,_,rs,ks,rfl,hl4,tp4,gk4,⟨by omega,by omega⟩,pt4,bt4⟩
 intro _ H3 hI9
 refine bH λ G9 k9=>?_
 obtain ⟨v4,v5,v6,rs,ks,rfl,hl3,tp3,gk3,⟨r1,r8⟩,pt3,bt3⟩:=hI9
 refine k9 ?_
 refine ⟨_,Y,_,Y,zS2,λ t ht=>?_⟩
 obtain ⟨H6,e6,k6,n6,s6,b6,pt6⟩:=cg (o:=.tup [.int b,.ref l]) bt3 pt3 ht
 rw [show upd H3 t _=H6 from e6]
 have rl:=Paired.length tp3
 exact q t l b ks H6 ⟨rs,k6,s6 _ _ hl3,Tups.keep (λ c xs e=>s6 _ _ e) tp3⟩ nlp hl0 gk3 (by omega) (by omega) b0 b1' pt6 b6
theorem scsidesc:FnScope ["_law_shop_here","_law_kind","_law_turned","_law_wide","_law_high"] ["_law_shop_here","_law_kind","_law_turned"] (defScope jt):=⟨Y,Y,Y,by decide +kernel,Y,by decide +kernel,by decide +kernel⟩
theorem oq {f:Addr} {fd:FuncData} (F:Fun K "_law_sides" "_law_sides" jt f fd) (B:Blt mg):FnOk P w K mg base CX0 1 f fd ["_law_shop_here","_law_kind","_law_turned"] (spSidesC):=by
 refine F.ok scsidesc (λ vs H Q E h=>?_) (λ cdv A outer s H vs Q E hr h=>?_)
 ·obtain ⟨t,kl,b,ks,i,c,k,rfl,_⟩:=h
  rfl
 obtain ⟨t,kl,b,ks,i,c,k,rfl,sh,hi,q⟩:=h
 have nd:=scsidesc.nd
 refine ⟨_,(@ae _ _ _ _ _ (@bh _ _ _ _ _ _ (@gM _ _ _ _ _ _ _ _ _ _ qv (@ao _ _ _ _ _ _ _ ix_list (@ao _ _ _ _ _ _ _ ix_tup (pv 0) ad (λ _ _=>Y)) (pv 1) (λ _ _=>Y)) mr (gn ad)) (aX Y (ah (ai (i:=3) nd Y (Or.inl Y)) (ah (ai (i:=4) nd Y (Or.inl Y)) aK))) Y Y Y) (@ag _ _ _ (@ar _ _ _ _ (@ao _ _ _ _ _ _ _ ix_list (@aJ _ _ _ _ ((@az _ _ _ _ _ ((pv 3)^^^((pv 4)^^^ab)))^^^((@az _ _ _ _ _ ((pv 4)^^^((pv 3)^^^ab)))^^^ab))) (@aT _ _ _ _ _ _ _ _ _ bF Y B.int PyProof.Rows.boot_int ((pv 2)^^^ab) (by decide) (by decide) Y Y) (λ _ _=>Y))))),?_⟩
 have sz:(100:Nat) < sizeLine:=by decide
 obtain ⟨rs,h1,h2,h3⟩:=id sh
 obtain ⟨vv,hvv,ak,rfl,hak⟩:=Paired.getL h3 hi
 have hak:H ak=some (.tup [.int k.w,.int k.h,.int k.wo,.int k.wa,.bl k.tu]):=hak
 have hat:atI rs (i:Int)=some (.ref ak):=aR (by omega) (by rw [Int.toNat_natCast]; exact hvv)
 refine aj (λ R=>∀ (H':Hp),Same H H'->R [some (.ref t),some (.int i),some (.bl c),some (.int k.w),some (.int k.h)] H') (λ Dd hR=>?_) ?_
 ·refine ⟨_,Y,t,_,1,_,Y,Y,SqT.of h1,Y,_,Y,kl,_,_,_,Y,Y,SqL.of h2,hat,_,Y,ak,_,Y,SqT.of hak,(λ z=>absurd z.2 (show ¬ HT.sIx 5 5 (some 2)=5 by decide)),λ a ha=>?_⟩
  obtain ⟨H1,e1,k1,s1⟩:∃H',upd H a (.tup (gf [.int k.w,.int k.h,.int k.wo,.int k.wa,.bl k.tu] none (some 2)))=H'/\H' a=some (.tup (gf [.int k.w,.int k.h,.int k.wo,.int k.wa,.bl k.tu] none (some 2)))/\Same H H':=⟨_,Y,af,Same.new ha⟩
  rw [show upd H a _=H1 from e1]
  exact ⟨a,_,Y,SqT.of (show H1 a=some (.tup [.int k.w,.int k.h]) from k1),Y,_,_,Y,_,_,Y,Y,hR _ s1⟩
 rintro H1 s1
 refine ⟨_,Y,_,Y,zS2,λ a ha=>?_⟩
 obtain ⟨H2,e2,k2,s2⟩:∃H',upd H1 a (.tup [.int k.w,.int k.h])=H'/\H' a=some (.tup [.int k.w,.int k.h])/\Same H1 H':=⟨_,Y,af,Same.new ha⟩
 rw [show upd H1 a _=H2 from e2]
 refine ⟨_,Y,_,Y,zS2,λ a2 ha2=>?_⟩
 obtain ⟨H3,e3,k3,s3⟩:∃H',upd H2 a2 (.tup [.int k.h,.int k.w])=H'/\H' a2=some (.tup [.int k.h,.int k.w])/\Same H2 H':=⟨_,Y,af,Same.new ha2⟩
 rw [show upd H2 a2 _=H3 from e3]
 refine ⟨zS2,λ l hl=>?_⟩
 obtain ⟨H4,e4,k4,s4⟩:∃H',upd H3 l (.lst [.ref a,.ref a2])=H'/\H' l=some (.lst [.ref a,.ref a2])/\Same H3 H':=⟨_,Y,af,Same.new hl⟩
 rw [show upd H3 l _=H4 from e4]
 refine ⟨_,Y,.inr ⟨_,Y,?_⟩⟩
 cases c with
 | true=>exact ⟨l,_,_,_,Y,Y,SqL.of k4,Y,q a2 H4 (s4 _ _ k3) (s1.trans (s2.trans (s3.trans s4)))⟩
 | false=>exact ⟨l,_,_,_,Y,Y,SqL.of k4,Y,q a H4 (s4 _ _ (s3 _ _ k2)) (s1.trans (s2.trans (s3.trans s4)))⟩
theorem sclyingsc:FnScope ["_law_shop_here","_law_found","_law_k","_law_kind"] ["_law_shop_here"] (defScope gB):=⟨Y,Y,Y,by decide +kernel,Y,by decide +kernel,by decide +kernel⟩
theorem lL {f:Addr} {fd:FuncData} (F:Fun K "_law_lyings" "_law_lyings" gB f fd) (B:Blt mg):FnOk P w K mg base CX0 1 f fd ["_law_shop_here"] (spLyingsC):=by
 refine F.ok sclyingsc (λ vs H Q E h=>?_) (λ cdv A outer s H vs Q E hr h=>?_)
 ·obtain ⟨t,kl,b,ks,rfl,_⟩:=h
  rfl
 obtain ⟨t,kl,b,ks,rfl,sh,k8,q⟩:=h
 have nd:=sclyingsc.nd
 refine ⟨_,(@ae _ _ _ _ _ (@aD _ _ 1 _ _ _ _ nd Y (Or.inl Y) (@aJ _ _ _ _ ab) Y (Or.inl Y)) (@ae _ _ _ _ _ (@ce _ _ _ _ _ _ _ _ PassesOwn.never Y (tP Y B.enumerate ((@ao _ _ _ _ _ _ _ ix_tup (pv 0) ad (λ _ _=>Y))^^^ab)) (aX Y (ah (ai (i:=2) nd Y (Or.inl Y)) (ah (ai (i:=3) nd Y (Or.inl Y)) aK))) (@ae _ _ _ _ _ (@bC _ _ _ _ (@em _ _ _ _ _ _ _ _ _ _ _ _ PySem.F.plainAttrs_list PySem.F.slot_list_append PySem.F.type_list_append bL (pv 1) ((@az _ _ _ _ _ ((pv 2)^^^(bI^^^ab)))^^^ab) Y Y Y Y Y) Y) (@ag _ _ _ (@aG _ _ _ _ _ _ _ _ (PW.pt (kM (@aH _ _ _ (@ao _ _ _ _ _ _ _ ix_tup (pv 3) ad (λ _ _=>Y)) (by intro _; rfl)) (iW (@aE _ _ _ _ _ _ _ _ ej (@ao _ _ _ _ _ _ _ ix_tup (pv 3) ad (λ _ _=>Y)) (@ao _ _ _ _ _ _ _ ix_tup (pv 3) ad (λ _ _=>Y)) (ay _))))) (@ag _ _ _ (@bC _ _ _ _ (@em _ _ _ _ _ _ _ _ _ _ _ _ PySem.F.plainAttrs_list PySem.F.slot_list_append PySem.F.type_list_append bL (pv 1) ((@az _ _ _ _ _ ((pv 2)^^^(bI^^^ab)))^^^ab) Y Y Y Y Y) Y)) aB))) (by intro _; rfl)) (@ag _ _ _ (@ar _ _ _ _ (pv 1))))),?_⟩
 have sz:(100:Nat) < sizeLine:=by decide
 obtain ⟨rs,h1,h2,h3⟩:=id sh
 have rl:=Paired.length h3
 refine aj (λ R=>∀ (l:Addr) (H':Hp),H l=none->H' l=some (.lst [])->Same H H'->R [some (.ref t),some (.ref l),none,none] H') (λ Dd hR=>?_) ?_
 ·refine ⟨by decide,λ l hl=>?_⟩
  obtain ⟨H1,e1,k1,s1⟩:∃H',upd H l (.lst [])=H'/\H' l=some (.lst [])/\Same H H':=⟨_,Y,af,Same.new hl⟩
  rw [show upd H l _=H1 from e1]
  exact hR l _ hl k1 s1
 rintro l H1 hl hl1 s1
 have nkl:kl≠l:=ap h2 hl
 refine cC (λ σ' H'=>(∃v2 v3:Option V,σ'=[some (.ref t),some (.ref l),v2,v3])/\(∃ys,H' l=some (.lst ys)/\Paired (LyC H') ys (lyK ks 0))/\But l H1 H') (λ R hR=>?_) ?_
 ·refine ⟨_,Y,t,_,1,_,Y,Y,SqT.of (s1 _ _ h1),Y,kl,rs,Y,.inl ⟨s1 _ _ h2,qJ (f:=.lst) (λ _ _ e=>by cases e; rfl) (l:=kl) (xs:=rs) (λ i σ' H'=>(∃ (v2 v3:Option V) (ys:List V),σ'=[some (.ref t),some (.ref l),v2,v3]/\H' l=some (.lst ys)/\Paired (LyC H') ys (lyK (ks.take i) 0)/\But l H1 H')) ⟨_,_,[],Y,hl1,.nil,λ _ _ _ e=>e⟩ (λ i σ Hx ⟨v2,v3,ys,_,_,_,b⟩=>b _ _ nkl (s1 _ _ h2)) ?_ (λ σ Hx ⟨v2,v3,ys,e,hy,py,b⟩=>hR _ _ ⟨⟨v2,v3,e⟩,⟨ys,hy,by rw [rl,List.take_length] at py; exact py⟩,b⟩)⟩⟩
  intro i x pp σ H2 hx hp hI9
  refine bH λ G9 k9=>?_
  obtain ⟨v2,v3,ys,rfl,l2,py,b2⟩:=hI9
  refine k9 ?_
  obtain ⟨k,hk',ka,rfl,hka⟩:=Paired.getR h3 hx
  have hin:i < rs.length:=(List.getElem?_eq_some_iff.mp hx).1
  obtain ⟨H3,e3,k3,s3⟩:∃H',upd H2 pp (.tup [.int i,.ref ka])=H'/\H' pp=some (.tup [.int i,.ref ka])/\Same H2 H':=⟨_,Y,af,Same.new hp⟩
  rw [show upd H2 pp _=H3 from e3]
  have nka:ka≠l:=ap hka hl
  have ka3:H3 ka=some (.tup [.int k.w,.int k.h,.int k.wo,.int k.wa,.bl k.tu]):=s3 _ _ (b2 _ _ nka (s1 _ _ hka))
  have yl:=Paired.length py
  have yl2:=ji (ks.take i) 0
  rw [List.length_take] at yl2
  have lt:lyK (ks.take (i + 1)) 0=lyK (ks.take i) 0 ++ lyT i k:=by
   rw [List.take_add_one,hk']
   show lyK (ks.take i ++ [k]) 0=_
   rw [jV,List.length_take,Nat.zero_add,Nat.min_eq_left (by omega)]
  refine ⟨pp,_,Y,SqT.of k3,Y,_,_,Y,_,_,Y,Y,?_⟩
  have app:∀ (Hx:Hp) (a:Addr) (zs:List V) (q:Nat×Bool) (L:List (Nat×Bool)),Hx l=some (.lst zs)->Paired (LyC Hx) zs L->Hx a=some (.tup [.int q.1,.bl q.2])->But l H1 Hx->Paired (LyC (upd Hx l (.lst (zs ++ [.ref a])))) (zs ++ [.ref a]) (L ++ [q])/\But l H1 (upd Hx l (.lst (zs ++ [.ref a]))):=λ Hx a zs q L hx pz ha bx=>by
   have kt:∀c xs,Hx c=some (.tup xs)->(upd Hx l (.lst (zs ++ [.ref a]))) c=some (.tup xs):=λ c xs e=>by
    rw [au (λ z=>by rw [z,hx] at e; cases e)]; exact e
   exact ⟨dJ (Paired.mapP pz λ v q h=>h.keep kt) (.cons ⟨a,Y,kt _ _ ha⟩ .nil),λ c o n e=>by rw [au n]; exact bx _ _ n e⟩
  refine aj (λ R=>∀ (H':Hp),(∃ys,H' l=some (.lst ys)/\ys.length<=2 * i + 1/\Paired (LyC H') ys (lyK (ks.take i) 0 ++ [(i,false)]))->But l H1 H'->R [some (.ref t),some (.ref l),some (.int i),some (.ref ka)] H') (λ Dd hR=>?_) ?_
  ·refine ⟨_,Y,.inl ⟨Y,_,SqL.of (s3 _ _ l2)⟩,_,Y,zS2,λ a ha=>?_⟩
   obtain ⟨H4,e4,k4,s4⟩:∃H',upd H3 a (.tup [.int i,.bl false])=H'/\H' a=some (.tup [.int i,.bl false])/\Same H3 H':=⟨_,Y,af,Same.new ha⟩
   rw [show upd H3 a _=H4 from e4]
   have l4:=s4 _ _ (s3 _ _ l2)
   obtain ⟨a1,a2⟩:=app H4 a ys (i,false) _ l4 (Paired.mapP py λ v q h=>h.keep λ c xs e=>s4 _ _ (s3 _ _ e)) k4 (λ c o n e=>s4 _ _ (s3 _ _ (b2 _ _ n e)))
   exact ⟨l,_,_,Y,Y,l4,by omega,hR _ ⟨_,af,by rw [List.length_append]; show ys.length + 1<=_; omega,a1⟩ a2⟩
  rintro H4 ⟨zs,l4,zl,py4⟩ b4
  have ka4:H4 ka=some (.tup [.int k.w,.int k.h,.int k.wo,.int k.wa,.bl k.tu]):=b4 _ _ nka (s1 _ _ hka)
  have no:bo k=false->(∃ (v2 v3:Option V) (ys:List V),([some (.ref t),some (.ref l),some (.int i),some (.ref ka)]:St)=[some (.ref t),some (.ref l),v2,v3]/\H4 l=some (.lst ys)/\Paired (LyC H4) ys (lyK (ks.take (i + 1)) 0)/\But l H1 H4):=λ ht=>⟨_,_,zs,Y,l4,by rw [lt]; unfold lyT; rw [ht]; exact py4,b4⟩
  refine ⟨_,Y,ka,_,4,_,Y,Y,SqT.of ka4,Y,_,Y,?_⟩
  cases htu:k.tu with
  | false=>exact aL (no (by unfold bo; rw [htu]; rfl))
  | true =>
   refine aU ⟨_,rfl,ka,_,0,_,rfl,rfl,SqT.of ka4,rfl,_,rfl,ka,_,1,_,rfl,rfl,SqT.of ka4,rfl,rfl,_,rfl,?_⟩
   by_cases hwh:k.w=k.h
   ·rw [show (!decide (V.int k.w=V.int k.h))=false by rw [decide_eq_true (by rw [hwh])]; rfl]
    exact aL (no (by unfold bo; rw [decide_eq_true hwh]; simp))
   ·rw [show (!decide (V.int k.w=V.int k.h))=true by rw [decide_eq_false (λ z=>hwh (V.int.inj z))]; rfl]
    have ht:bo k=true:=by unfold bo; rw [htu,decide_eq_false hwh]; rfl
    refine aU ⟨_,rfl,.inl ⟨rfl,_,SqL.of l4⟩,_,rfl,zS2,λ a ha=>?_⟩
    obtain ⟨H5,e5,k5,s5⟩:∃H',upd H4 a (.tup [.int i,.bl true])=H'/\H' a=some (.tup [.int i,.bl true])/\Same H4 H':=⟨_,Y,af,Same.new ha⟩
    rw [show upd H4 a _=H5 from e5]
    have l5:=s5 _ _ l4
    obtain ⟨a1,a2⟩:=app H5 a zs (i,true) _ l5 (Paired.mapP py4 λ v q h=>h.keep λ c xs e=>s5 _ _ e) k5 (λ c o n e=>s5 _ _ (b4 _ _ n e))
    exact ⟨l,_,_,Y,Y,l5,by omega,_,_,_,Y,af,by rw [lt]; unfold lyT; rw [if_pos ht]; rw [List.append_assoc] at a1; exact a1,a2⟩
 rintro _ H2 ⟨⟨v2,v3,rfl⟩,⟨ys,hy,py⟩,b2⟩
 exact ⟨_,Y,q l ys H2 hy hl py (λ c o e=>b2 _ _ (ap e hl) (s1 _ _ e))⟩
end
def wyS (dn:Bool):Str:=if dn=true then "down" else "across"
theorem yo {K:PySem.W.Frag} {H:Hp}:∀ {ys:List V} {qs:List (Nat×Bool)},Paired (LyC H) ys qs->∃ds,DatVs K H ys ds/\ds.length=ys.length/\PyData.canLayAll0 ds=true/\PyData.depthAll ds<=1
 | _,_,.nil=>⟨[],.nil,Y,Y,Nat.zero_le _⟩
 | _,_,.cons ⟨a,e,ha⟩ r=>by
  subst e
  obtain ⟨ds,d1,d2,d3,d4⟩:=yo (K:=K) r
  refine ⟨_ :: ds,.cons (.tup (SqT.of ha) (.cons (.int _) (.cons (.bl _) .nil))) d1,by rw [List.length_cons,List.length_cons,d2],?_,?_⟩
  ·simp [PyData.canLayAll0,PyData.canLay0,d3]
  ·simp only [PyData.depthAll,PyData.depth]; omega
theorem LS.keep2 {H H':Hp} {t kl p rm:Addr} {b:Int} {ks:List Kd} {xs ys:List V} (x:LS H t b ks kl) (hp:H p=some (.lst xs)) (hr:H rm=some (.lst ys)) (n1:kl≠p) (n2:kl≠rm) (bt:But2 p rm H H'):LS H' t b ks kl:=by
 obtain ⟨rs,h1,h2,h3⟩:=x
 have k:∀a zs,H a=some (.tup zs)->H' a=some (.tup zs):=λ a zs e=>bt _ _ (λ z=>by rw [z,hp] at e; cases e) (λ z=>by rw [z,hr] at e; cases e) e
 exact ⟨rs,k _ _ h1,bt _ _ n1 n2 h2,Tups.keep k h3⟩
def FtL (ks:List Kd) (W h:Int) (q:Nat×Bool):Prop:=q∈lyK ks 0/\∃k,ks[q.1]? = some k/\sd1 k q.2<=W/\sd2 k q.2<=h
theorem bY {c:Bool} {a b:Prop} (h:c=true) (x:a):if c=true then a else b:=by rw [if_pos h]; exact x
theorem bJ {c:Bool} {a b:Prop} (h:c=false) (x:b):if c=true then a else b:=by rw [if_neg (by rw [h]; exact Bool.false_ne_true)]; exact x
section
variable {P:Program} {w:World} {K:PySem.W.Frag} {mg:Str->Option Value} {base:Heap}
inductive spBeh (vs:List V) (H:Hp) (Q:VK) (E_:XK):Prop
 | mk (t kl:Addr) (b W h p:Int) (ks:List Kd) (dn:Bool) (e_1:vs=[.ref t,.int W,.int h,.str (wyS dn),.int p]) (e_2:LS H t b ks kl) (e_3:∀ (r r1 r2:Addr) (H':Hp),H' r=some (.tup [.ref r1,.ref r2])->H' r1=some (.tup [.int (if dn=true then p else W),.int (if dn=true then h else p)])->H' r2=some (.tup [.int (if dn=true then W - p - b else W),.int (if dn=true then h else h - p - b)])->Same H H'->Q (.ref r) H'):spBeh vs H Q E_
inductive spLeafC (vs:List V) (H:Hp) (Q:VK) (E_:XK):Prop
 | mk (p t kl:Addr) (b W h:Int) (ks:List Kd) (e_1:vs=[.ref p,.ref t,.int W,.int h]) (e_2:PotC H p) (e_3:LS H t b ks kl) (e_4:kl≠p) (e_5:ks.length<=8) (e_6:(∀k∈ks,Good k)) (e_7:W < (9 * 10 ^ 59)) (e_8:h < (9 * 10 ^ 59)) (e_9:∀ (v:V) (T:Tr) (H':Hp),TrV H' T v->(∀b,okU b ks W h T)->lvN T=1->dT T=0->PotC H' p->But p H H'->Q v H'):spLeafC vs H Q E_
inductive spTreeC (n:Nat) (vs:List V) (H:Hp) (Q:VK) (E_:XK):Prop
 | mk (p t kl rm:Addr) (b W h r:Int) (ks:List Kd) (deep:Nat) (e_1:vs=[.ref p,.ref t,.int W,.int h,.int deep,.ref rm]) (e_2:PotC H p) (e_3:LS H t b ks kl) (e_4:kl≠p) (e_5:kl≠rm) (e_6:rm≠p) (e_7:ks.length<=8) (e_8:(∀k∈ks,Good k)) (e_9:0<=b) (e_10:W < (9 * 10 ^ 59)) (e_11:h < (9 * 10 ^ 59)) (e_12:H rm=some (.lst [.int r])) (e_13:0<=r) (e_14:deep < n) (e_15:∀ (v:V) (T:Tr) (r':Int) (H':Hp),TrV H' T v->okU b ks W h T->0<=r'->(lvN T:Int)<=r - r' + 1->dT T<=deep->H' rm=some (.lst [.int r'])->PotC H' p->But2 p rm H H'->Q v H'):spTreeC n vs H Q E_
theorem scbeh:FnScope ["_law_shop_here","_law_wide","_law_high","_law_way","_law_p"] ["_law_shop_here","_law_wide","_law_high","_law_way","_law_p"] (defScope gC):=⟨Y,Y,Y,by decide +kernel,Y,by decide +kernel,by decide +kernel⟩
theorem vP {f:Addr} {fd:FuncData} (F:Fun K "_law_behind" "_law_behind" gC f fd) (B:Blt mg):FnOk P w K mg base CX0 1 f fd ["_law_shop_here","_law_wide","_law_high","_law_way","_law_p"] (spBeh):=by
 refine F.ok scbeh (λ vs H Q E h=>?_) (λ cdv A outer s H vs Q E hr h=>?_)
 ·obtain ⟨t,kl,b,W,h1,p,ks,dn,rfl,_⟩:=h
  rfl
 obtain ⟨t,kl,b,W,h1,p,ks,dn,rfl,sh,q⟩:=h
 have nd:=scbeh.nd
 refine ⟨_,(@ae _ _ _ _ _ (@aG _ _ _ _ _ _ _ _ (@aE _ _ _ _ _ _ _ _ aZ (pv 3) be (ay _)) (@ag _ _ _ (@ar _ _ _ _ (@az _ _ _ _ _ ((@az _ _ _ _ _ ((pv 4)^^^((pv 2)^^^ab)))^^^((@az _ _ _ _ _ ((@aA _ _ _ _ _ _ _ _ br (@aA _ _ _ _ _ _ _ _ br (pv 1) (pv 4)) (@ao _ _ _ _ _ _ _ ix_tup (pv 0) ad (λ _ _=>Y)))^^^((pv 2)^^^ab)))^^^ab))))) aB) (@ag _ _ _ (@ar _ _ _ _ (@az _ _ _ _ _ ((@az _ _ _ _ _ ((pv 1)^^^((pv 4)^^^ab)))^^^((@az _ _ _ _ _ ((pv 1)^^^((@aA _ _ _ _ _ _ _ _ br (@aA _ _ _ _ _ _ _ _ br (pv 2) (pv 4)) (@ao _ _ _ _ _ _ _ ix_tup (pv 0) ad (λ _ _=>Y)))^^^ab)))^^^ab)))))),?_⟩
 obtain ⟨kr,ht,_⟩:=id sh
 refine dh (λ R=>dn=false->R [some (.ref t),some (.int W),some (.int h1),some (.str (wyS dn)),some (.int p)] H) (λ R hR=>?_) ?_
 ·refine ⟨_,Y,Y,_,Y,?_⟩
  cases dn with
  | false=>exact bJ (by decide +kernel) (hR rfl)
  | true =>
   refine bY (by decide +kernel) ?_
   refine ⟨_,Y,_,Y,zS2,λ r1 hr1=>?_⟩
   obtain ⟨H1,e1,k1,s1⟩:∃H',upd H r1 (.tup [.int p,.int h1])=H'/\H' r1=some (.tup [.int p,.int h1])/\Same H H':=⟨_,Y,af,Same.new hr1⟩
   rw [show upd H r1 _=H1 from e1]
   refine ⟨_,Y,_,Y,_,_,Y,Y,_,Y,t,_,0,_,Y,Y,SqT.of (s1 _ _ ht),Y,_,_,Y,Y,_,Y,zS2,λ r2 hr2=>?_⟩
   obtain ⟨H2,e2,k2,s2⟩:∃H',upd H1 r2 (.tup [.int (W - p - b),.int h1])=H'/\H' r2=some (.tup [.int (W - p - b),.int h1])/\Same H1 H':=⟨_,Y,af,Same.new hr2⟩
   rw [show upd H1 r2 _=H2 from e2]
   refine ⟨zS2,λ r hr=>?_⟩
   obtain ⟨H3,e3,k3,s3⟩:∃H',upd H2 r (.tup [.ref r1,.ref r2])=H'/\H' r=some (.tup [.ref r1,.ref r2])/\Same H2 H':=⟨_,Y,af,Same.new hr⟩
   rw [show upd H2 r _=H3 from e3]
   exact q r r1 r2 H3 k3 (s3 _ _ (s2 _ _ k1)) (s3 _ _ k2) (s1.trans (s2.trans s3))
 rintro rfl
 refine ⟨_,Y,_,Y,zS2,λ r1 hr1=>?_⟩
 obtain ⟨H1,e1,k1,s1⟩:∃H',upd H r1 (.tup [.int W,.int p])=H'/\H' r1=some (.tup [.int W,.int p])/\Same H H':=⟨_,Y,af,Same.new hr1⟩
 rw [show upd H r1 _=H1 from e1]
 refine ⟨_,Y,_,Y,_,Y,_,_,Y,Y,_,Y,t,_,0,_,Y,Y,SqT.of (s1 _ _ ht),Y,_,_,Y,Y,zS2,λ r2 hr2=>?_⟩
 obtain ⟨H2,e2,k2,s2⟩:∃H',upd H1 r2 (.tup [.int W,.int (h1 - p - b)])=H'/\H' r2=some (.tup [.int W,.int (h1 - p - b)])/\Same H1 H':=⟨_,Y,af,Same.new hr2⟩
 rw [show upd H1 r2 _=H2 from e2]
 refine ⟨zS2,λ r hr=>?_⟩
 obtain ⟨H3,e3,k3,s3⟩:∃H',upd H2 r (.tup [.ref r1,.ref r2])=H'/\H' r=some (.tup [.ref r1,.ref r2])/\Same H2 H':=⟨_,Y,af,Same.new hr⟩
 rw [show upd H2 r _=H3 from e3]
 exact q r r1 r2 H3 k3 (s3 _ _ (s2 _ _ k1)) (s3 _ _ k2) (s1.trans (s2.trans s3))
theorem scleafc:FnScope ["_law_pot_here","_law_shop_here","_law_wide","_law_high","_law_some","_law_kind","_law_turned","_law_own"] ["_law_pot_here","_law_shop_here","_law_wide","_law_high"] (defScope mQ):=⟨Y,Y,Y,by decide +kernel,Y,by decide +kernel,by decide +kernel⟩
theorem rC {f:Addr} {fd:FuncData} (F:Fun K "_law_leaf" "_law_leaf" mQ f fd) (B:Blt mg) (DD:Dn P w K mg base "_law_take" ["_law_pot_here","_law_many"] 1 (spTake)) (DSd:Dn P w K mg base "_law_sides" ["_law_shop_here","_law_kind","_law_turned"] 1 (spSidesC)) (DLy:Dn P w K mg base "_law_lyings" ["_law_shop_here"] 1 (spLyingsC)):FnOk P w K mg base CX0 2 f fd ["_law_pot_here","_law_shop_here","_law_wide","_law_high"] (spLeafC):=by
 refine F.ok scleafc (λ vs H Q E h=>?_) (λ cdv A outer s H vs Q E hr h=>?_)
 ·obtain ⟨p,t,kl,b,W,h1,ks,rfl,_⟩:=h
  rfl
 refine bH λ G9 k9=>?_
 obtain ⟨p,t,kl,b,W,h1,ks,rfl,pt,sh,nk,k8,gk,w58,h58,q⟩:=h
 refine k9 ?_
 have nd:=scleafc.nd
 have hu:=hr.units
 refine ⟨_,(@ae _ _ _ _ _ (@aD _ _ 4 _ _ _ _ nd Y (Or.inl Y) (@aJ _ _ _ _ ab) Y (Or.inl Y)) (@ae _ _ _ _ _ (@ce _ _ _ _ _ _ _ _ PassesOwn.never Y (gj (@am _ _ _ _ _ _ _ _ _ _ DLy (hr.mono (by decide)) Y ((pv 1)^^^ab) (by decide) Y Y)) (aX Y (ah (ai (i:=5) nd Y (Or.inl Y)) (ah (ai (i:=6) nd Y (Or.inl Y)) aK))) (@ae _ _ _ _ _ (@aD _ _ 7 _ _ _ _ nd Y (Or.inl Y) (@am _ _ _ _ _ _ _ _ _ _ DSd (hr.mono (by decide)) Y ((pv 1)^^^((pv 5)^^^((pv 6)^^^ab))) (by decide) Y Y) Y (Or.inl Y)) (@ag _ _ _ (@aG _ _ _ _ _ _ _ _ (PW.pt (kM (@aE _ _ _ _ _ _ _ _ fX (@ao _ _ _ _ _ _ _ ix_tup (pv 7) ad (λ _ _=>Y)) (pv 2) (ay _)) (iW (@aE _ _ _ _ _ _ _ _ fX (@ao _ _ _ _ _ _ _ ix_tup (pv 7) ad (λ _ _=>Y)) (pv 3) (ay _))))) (@ag _ _ _ (@bC _ _ _ _ (@em _ _ _ _ _ _ _ _ _ _ _ _ PySem.F.plainAttrs_list PySem.F.slot_list_append PySem.F.type_list_append bL (pv 4) ((@az _ _ _ _ _ ((pv 5)^^^((pv 6)^^^ab)))^^^ab) Y Y Y Y Y) Y)) aB))) (by intro _; rfl)) (@ae _ _ _ _ _ (@aG _ _ _ _ _ _ _ _ (PW.pt (bq (@aE _ _ _ _ _ _ _ _ (lm hu) (pv 4) (@aJ _ _ _ _ ab) (ay _)) (bz (@aE _ _ _ _ _ _ _ _ aZ (@am _ _ _ _ _ _ _ _ _ _ DD (hr.mono (by decide)) Y ((pv 0)^^^(ad^^^ab)) (by decide) Y Y) ad (ay _))))) (@ag _ _ _ (@ar _ _ _ _ (@az _ _ _ _ _ (be^^^ab)))) aB) (@ae _ _ _ _ _ (@bh _ _ _ _ _ _ (@ao _ _ _ _ _ _ _ ix_list (pv 4) (@am _ _ _ _ _ _ _ _ _ _ DD (hr.mono (by decide)) Y ((pv 0)^^^((@aw _ _ _ _ _ _ _ _ _ aN Y B.len PySem.boot_len ((pv 4)^^^ab) (by decide) (by decide) Y Y)^^^ab)) (by decide) Y Y) (λ _ _=>Y)) (aX Y (ah (ai (i:=5) nd Y (Or.inl Y)) (ah (ai (i:=6) nd Y (Or.inl Y)) aK))) Y Y Y) (@ae _ _ _ _ _ (@aD _ _ 7 _ _ _ _ nd Y (Or.inl Y) (@am _ _ _ _ _ _ _ _ _ _ DSd (hr.mono (by decide)) Y ((pv 1)^^^((pv 5)^^^((pv 6)^^^ab))) (by decide) Y Y) Y (Or.inl Y)) (@ag _ _ _ (@ar _ _ _ _ (@az _ _ _ _ _ (be^^^((pv 5)^^^((pv 6)^^^((@am _ _ _ _ _ _ _ _ _ _ DD (hr.mono (by decide)) Y ((pv 0)^^^((@aA _ _ _ _ _ _ _ _ aI (@aA _ _ _ _ _ _ _ _ br (pv 2) (@ao _ _ _ _ _ _ _ ix_tup (pv 7) ad (λ _ _=>Y))) ad)^^^ab)) (by decide) Y Y)^^^((@am _ _ _ _ _ _ _ _ _ _ DD (hr.mono (by decide)) Y ((pv 0)^^^((@aA _ _ _ _ _ _ _ _ aI (@aA _ _ _ _ _ _ _ _ br (pv 3) (@ao _ _ _ _ _ _ _ ix_tup (pv 7) ad (λ _ _=>Y))) ad)^^^ab)) (by decide) Y Y)^^^ab))))))))))))),?_⟩
 have sz:(1000:Nat) < sizeLine:=by decide
 have e58:(10:Int) ^ 58 + 10 < 10 ^ 60:=by decide
 have e60:(100:Int) < 10 ^ 60:=by decide
 have ly8:=ji ks 0
 refine aj (λ R=>∀ (so:Addr) (H':Hp),H so=none->H' so=some (.lst [])->Same H H'->R [some (.ref p),some (.ref t),some (.int W),some (.int h1),some (.ref so),none,none,none] H') (λ Dd hR=>?_) ?_
 ·refine ⟨by decide,λ so hso=>?_⟩
  obtain ⟨H1,e1,k1,s1⟩:∃H',upd H so (.lst [])=H'/\H' so=some (.lst [])/\Same H H':=⟨_,Y,af,Same.new hso⟩
  rw [show upd H so _=H1 from e1]
  exact hR so _ hso k1 s1
 rintro so H1 hso0 hso1 s1
 have sh1:=sh.same s1
 have pt1:=pt.same s1
 have nsp:so≠p:=Ne.symm (pt.ne hso0)
 obtain ⟨kr,lst1,lst2,lst3⟩:=id sh
 have nks:kl≠so:=ap lst2 hso0
 have shk:∀ {Hx:Hp},But so H1 Hx->LS Hx t b ks kl:=λ bx=>by
  have k:∀a zs,H a=some (.tup zs)->_:=λ a zs e=>bx _ _ (ap e hso0) (s1 _ _ e)
  exact ⟨kr,k _ _ lst1,bx _ _ nks (s1 _ _ lst2),Tups.keep k lst3⟩
 have tks:∀ {Hx Hy:Hp} {us:List V},Hx so=some (.lst us)->But so Hx Hy->∀a zs,Hx a=some (.tup zs)->Hy a=some (.tup zs):=λ h bx a zs e=>bx _ _ (λ z=>by rw [z,h] at e; cases e) e
 refine cC (λ σ' H'=>∃ (v5 v6 v7:Option V) (us:List V) (qs:List (Nat×Bool)),σ'=[some (.ref p),some (.ref t),some (.int W),some (.int h1),some (.ref so),v5,v6,v7]/\H' so=some (.lst us)/\Paired (LyC H') us qs/\(∀q∈qs,FtL ks W h1 q)/\us.length<=16/\But so H1 H') (λ R hR=>?_) ?_
 ·refine ⟨_,Y,t,kl,b,ks,Y,sh1,k8,λ l ys H2 hl hl0 pl s2=>?_⟩
  have yl:=Paired.length pl
  have nls:l≠so:=λ z=>by rw [z,hso1] at hl0; cases hl0
  refine ⟨l,Y,⟨_,SqL.of hl⟩,gJ (xs:=ys) (λ i σ' H'=>(∃ (v5 v6 v7:Option V) (us:List V) (qs:List (Nat×Bool)),σ'=[some (.ref p),some (.ref t),some (.int W),some (.int h1),some (.ref so),v5,v6,v7]/\H' so=some (.lst us)/\Paired (LyC H') us qs/\(∀q∈qs,FtL ks W h1 q)/\us.length<=i/\But so H1 H')/\But so H2 H') ⟨⟨_,_,_,[],[],Y,s2 _ _ hso1,.nil,(λ q hq=>by simp at hq),Nat.le_refl _,Gm s2⟩,But.refl'⟩ (λ i σ H' _ h=>SqL.of (h.2 _ _ nls hl)) ?_ (λ σ H' h=>hR _ _ (by obtain ⟨v5,v6,v7,us,qs,h1,h2,h3,h4,h5,h6⟩:=h.1; exact ⟨v5,v6,v7,us,qs,h1,h2,h3,h4,by omega,h6⟩))⟩
  rintro i x _ H3 hi ⟨⟨v5,v6,v7,us,qs,rfl,hu3,pu3,ft3,ul3,b13⟩,b23⟩
  obtain ⟨q0,hq0,aq,rfl,haq⟩:=Paired.getR pl hi
  have hin:i < ys.length:=(List.getElem?_eq_some_iff.mp hi).1
  have hly:=List.mem_of_getElem? hq0
  obtain ⟨_,kk,hkk,_⟩:=lK hly
  have hkk:ks[q0.1]? = some kk:=by simpa using hkk
  have haq3:=tks (s2 _ _ hso1) b23 _ _ haq
  refine ⟨aq,_,Y,SqT.of haq3,Y,_,_,Y,_,_,Y,Y,?_⟩
  refine aj (λ R=>∀ (ow:Addr) (H':Hp),H' ow=some (.tup [.int (sd1 kk q0.2),.int (sd2 kk q0.2)])->Same H3 H'->R [some (.ref p),some (.ref t),some (.int W),some (.int h1),some (.ref so),some (.int q0.1),some (.bl q0.2),some (.ref ow)] H') (λ Dd hR=>?_) ?_
  ·exact ⟨_,Y,_,Y,_,Y,t,kl,b,ks,q0.1,q0.2,kk,Y,shk b13,hkk,λ r H4 hr s4=>hR r _ hr s4⟩
  rintro ow H4 how s34
  have hu4:=s34 _ _ hu3
  have pu4:Paired (LyC H4) us qs:=Paired.mapP pu3 λ v q h=>h.keep λ a xs e=>s34 _ _ e
  have b14:But so H1 H4:=λ c o n e=>s34 _ _ (b13 _ _ n e)
  have b24:But so H2 H4:=λ c o n e=>s34 _ _ (b23 _ _ n e)
  have skip:(∃ (v5 v6 v7:Option V) (us':List V) (qs':List (Nat×Bool)),[some (.ref p),some (.ref t),some (.int W),some (.int h1),some (.ref so),some (.int q0.1),some (.bl q0.2),some (.ref ow)]=[some (.ref p),some (.ref t),some (.int W),some (.int h1),some (.ref so),v5,v6,v7]/\H4 so=some (.lst us')/\Paired (LyC H4) us' qs'/\(∀q∈qs',FtL ks W h1 q)/\us'.length<=i + 1/\But so H1 H4)/\But so H2 H4:=⟨⟨_,_,_,us,qs,Y,hu4,pu4,ft3,by omega,b14⟩,b24⟩
  refine ⟨_,Y,ow,_,0,_,Y,Y,SqT.of how,Y,_,Y,_,_,Y,Y,_,Y,?_⟩
  refine cf (λ c1=>?_) (λ c1=>skip)
  refine ⟨_,Y,ow,_,1,_,Y,Y,SqT.of how,Y,_,Y,_,_,Y,Y,_,Y,?_⟩
  refine cf (λ c2=>?_) (λ c2=>skip)
  refine ⟨_,Y,.inl ⟨Y,_,SqL.of hu4⟩,_,Y,_,Y,zS2,λ tp htp=>?_⟩
  obtain ⟨H5,e5,k5,s5⟩:∃H',upd H4 tp (.tup [.int q0.1,.bl q0.2])=H'/\H' tp=some (.tup [.int q0.1,.bl q0.2])/\Same H4 H':=⟨_,Y,af,Same.new htp⟩
  rw [show upd H4 tp _=H5 from e5]
  have hu5:=s5 _ _ hu4
  have bu:But so H5 (upd H5 so (.lst (us ++ [.ref tp]))):=λ c o n e=>by rw [au n]; exact e
  refine ⟨so,_,_,Y,Y,hu5,by omega,⟨_,_,_,us ++ [.ref tp],qs ++ [q0],Y,af,?_,λ q hq=>?_,by rw [List.length_append]; show us.length + 1<=_; omega,λ c o n e=>bu _ _ n (s5 _ _ (b14 _ _ n e))⟩,λ c o n e=>bu _ _ n (s5 _ _ (b24 _ _ n e))⟩
  ·exact dJ (Paired.mapP pu4 λ v q h=>h.keep λ a xs e=>tks hu5 bu _ _ (s5 _ _ e)) (.cons ⟨tp,Y,tks hu5 bu _ _ k5⟩ .nil)
  ·rcases List.mem_append.mp hq with hq | hq
   ·exact ft3 q hq
   ·rw [List.mem_singleton.mp hq]
    exact ⟨hly,kk,hkk,of_decide_eq_true c1,of_decide_eq_true c2⟩
 intro _ H2 hI9
 refine bH λ G9 k9=>?_
 obtain ⟨v5,v6,v7,us,qs,rfl,hu2,pu2,ft,ul,b12⟩:=hI9
 refine k9 ?_
 have pt2:PotC H2 p:=by
  obtain ⟨a,b,h1,h2,h3,e⟩:=pt1
  exact ⟨a,b,h1,h2,h3,b12 _ _ (Ne.symm nsp) e⟩
 have b02:But p H H2:=λ c o n e=>b12 _ _ (ap e hso0) (s1 _ _ e)
 have sh2:=shk b12
 have rest:∀Hx,But p H Hx->PotC Hx p->∀r,Hx r=none->Q (.ref r) (upd Hx r (.tup [.str "rest"])):=λ Hx bx px r hr=>by
  obtain ⟨H9,e9,k9,n9,s9,b9,pt9⟩:=cg (o:=.tup [.str "rest"]) bx px hr
  rw [show upd Hx r _=H9 from e9]
  exact q _ .rest H9 ⟨r,rfl,k9⟩ (λ _=>trivial) rfl rfl pt9 b9
 refine dh (λ R=>∀ (H':Hp),us≠[]->H' so=some (.lst us)->Paired (LyC H') us qs->LS H' t b ks kl->PotC H' p->But p H H'->R [some (.ref p),some (.ref t),some (.int W),some (.int h1),some (.ref so),v5,v6,v7] H') (λ R hR=>?_) ?_
 ·refine ⟨_,Y,by decide,λ e he=>?_⟩
  obtain ⟨H3,e3,k3,n3,s3,b3,pt3⟩:=cg (o:=.lst []) b02 pt2 he
  rw [show upd H2 e _=H3 from e3]
  obtain ⟨ds,d1,d2,d3,d4⟩:=yo (K:=K) (Paired.mapP pu2 λ v q h=>h.keep λ a xs e=>s3 _ _ e)
  obtain ⟨sh1,sh2',sh3⟩:=vO d3 d4
  refine ⟨.list ds,.list [],.lst (SqL.of (s3 _ _ hu2)) d1,.lst (SqL.of k3) .nil,sh1,by decide +kernel,_,Y,?_⟩
  by_cases hz0:us=[]
  ·rw [sh2' (by rw [hz0] at d2; exact List.eq_nil_of_length_eq_zero d2)]
   exact aU (aU ⟨zS1,λ r hr=>rest _ b3 pt3 r hr⟩)
  rw [sh3 (λ z=>hz0 (by rw [z] at d2; exact List.eq_nil_of_length_eq_zero d2.symm))]
  refine aL ⟨_,rfl,p,5,rfl,pt3,by decide,by decide,λ z H4 z0 z1 pt4 b4=>⟨rfl,_,rfl,?_⟩⟩
  refine cf (λ cc=>⟨zS1,λ r hr=>rest _ (b3.trans b4) pt4 r hr⟩) (λ cc=>?_)
  exact hR _ hz0 (b4 _ _ nsp (s3 _ _ hu2)) (Paired.mapP pu2 (λ v q h=>h.keep λ a xs e=>ef b4 pt3 (s3 _ _ e))) ((sh2.same s3).but nk pt3 b4) pt4 (b3.trans b4)
 rintro H3 une hu3 pu3 sh3 pt3 b03
 have u1:1<=us.length:=Nat.pos_of_ne_zero λ z=>une (List.eq_nil_of_length_eq_zero z)
 refine aj (λ R=>∀ (i:Nat) (c:Bool) (k:Kd) (H':Hp),(i,c)∈lyK ks 0->ks[i]? = some k->sd1 k c<=W->sd2 k c<=h1->LS H' t b ks kl->PotC H' p->But p H H'->R [some (.ref p),some (.ref t),some (.int W),some (.int h1),some (.ref so),some (.int i),some (.bl c),v7] H') (λ Dd hR=>?_) ?_
 ·refine ⟨_,Y,_,Y,_,Y,so,_,Y,.inl (SqL.of hu3),p,_,Y,pt3,by omega,by omega,λ r H4 r0 r1 pt4 b4=>?_⟩
  obtain ⟨v,hv⟩:∃v,us[r.toNat]? = some v:=⟨_,List.getElem?_eq_getElem (show r.toNat < us.length by omega)⟩
  obtain ⟨q0,hq0,aq,rfl,haq⟩:=Paired.getR pu3 hv
  obtain ⟨f1,k,hk,f2,f3⟩:=ft q0 (List.mem_of_getElem? hq0)
  exact ⟨so,_,_,_,Y,Y,SqL.of (b4 _ _ nsp hu3),aR r0 hv,aq,_,Y,SqT.of (ef b4 pt3 haq),Y,_,_,Y,_,_,Y,Y,hR q0.1 q0.2 k _ f1 hk f2 f3 (sh3.but nk pt3 b4) pt4 (b03.trans b4)⟩
 rintro i c k H4 hly hk f2 f3 sh4 pt4 b04
 refine aj (λ R=>∀ (ow:Addr) (H':Hp),H' ow=some (.tup [.int (sd1 k c),.int (sd2 k c)])->PotC H' p->But p H H'->R [some (.ref p),some (.ref t),some (.int W),some (.int h1),some (.ref so),some (.int i),some (.bl c),some (.ref ow)] H') (λ Dd hR=>?_) ?_
 ·exact ⟨_,Y,_,Y,_,Y,t,kl,b,ks,i,c,k,Y,sh4,hk,λ r H5 hr s5=>hR r _ hr (pt4.same s5) (λ c o n e=>s5 _ _ (b04 _ _ n e))⟩
 rintro ow H5 how pt5 b05
 have g:=gk k (List.mem_of_getElem? hk)
 have sp:1<=sd1 k c/\1<=sd2 k c:=by have:=g.w; have:=g.h; cases c <;> exact ⟨by assumption,by assumption⟩
 refine ⟨_,Y,_,Y,_,Y,_,Y,_,Y,ow,_,0,_,Y,Y,SqT.of how,Y,_,_,Y,Y,_,_,Y,Y,p,W - sd1 k c + 1,Y,pt5,by omega,by omega,λ x H6 x0 x1 pt6 b6=>?_⟩
 have how6:=ef b6 pt5 how
 refine ⟨_,Y,_,Y,_,Y,ow,_,1,_,Y,Y,SqT.of how6,Y,_,_,Y,Y,_,_,Y,Y,p,h1 - sd2 k c + 1,Y,pt6,by omega,by omega,λ y H7 y0 y1 pt7 b7=>?_⟩
 refine ⟨zS5,λ r hr=>?_⟩
 obtain ⟨H8,e8,k8,n8,s8,b8,pt8⟩:=cg (o:=.tup [.str "piece",.int i,.bl c,.int x,.int y]) ((b05.trans b6).trans b7) pt7 hr
 rw [show upd H7 r _=H8 from e8]
 exact q _ (.piece i c x y) H8 ⟨r,rfl,k8⟩ (λ _=>⟨k,hk,hly,x0,y0,by omega,by omega⟩) rfl rfl pt8 b8
end
section
variable {P:Program} {w:World} {K:PySem.W.Frag} {mg:Str->Option Value} {base:Heap}
theorem sctreec:FnScope ["_law_pot_here","_law_shop_here","_law_wide","_law_high","_law_deep_here","_law_room","_law_way","_law_side_here","_law_p","_law_one","_law_other","_law_first"] ["_law_pot_here","_law_shop_here","_law_wide","_law_high","_law_deep_here","_law_room"] (defScope iF):=⟨Y,Y,Y,by decide +kernel,Y,by decide +kernel,by decide +kernel⟩
set_option maxHeartbeats 1000000 in
theorem rD {f:Addr} {fd:FuncData} (F:Fun K "_law_tree" "_law_tree" iF f fd) (B:Blt mg) (n:Nat) (DD:Dn P w K mg base "_law_take" ["_law_pot_here","_law_many"] 1 (spTake)) (DBh:Dn P w K mg base "_law_behind" ["_law_shop_here","_law_wide","_law_high","_law_way","_law_p"] 1 (spBeh)) (DLf:Dn P w K mg base "_law_leaf" ["_law_pot_here","_law_shop_here","_law_wide","_law_high"] 2 (spLeafC)) (DT:Dn P w K mg base "_law_tree" ["_law_pot_here","_law_shop_here","_law_wide","_law_high","_law_deep_here","_law_room"] (3 + n) (spTreeC n)):FnOk P w K mg base CX0 (3 + (n + 1)) f fd ["_law_pot_here","_law_shop_here","_law_wide","_law_high","_law_deep_here","_law_room"] (spTreeC (n + 1)):=by
 refine F.ok sctreec (λ vs H Q E h=>?_) (λ cdv A outer s H vs Q E hr h=>?_)
 ·obtain ⟨p,t,kl,rm,b,W,h1,r,ks,deep,rfl,_⟩:=h
  rfl
 obtain ⟨p,t,kl,rm,b,W,h1,r,ks,deep,rfl,pt,sh,nk,nkr,nrp,k8,gk,b0,w58,h58,hrm,r0,dn0,q⟩:=h
 have nd:=sctreec.nd
 refine ⟨_,(@ae _ _ _ _ _ (@aD _ _ 6 _ _ _ _ nd Y (Or.inl Y) (@ao _ _ _ _ _ _ _ ix_list (@aJ _ _ _ _ (be^^^(be^^^ab))) (@am _ _ _ _ _ _ _ _ _ _ DD (hr.mono (show 1<=3 + n by omega)) Y ((pv 0)^^^(ad^^^ab)) (by decide) Y Y) (λ _ _=>Y)) Y (Or.inl Y)) (@ae _ _ _ _ _ (@aD _ _ 7 _ _ _ _ nd Y (Or.inl Y) (@aA _ _ _ _ _ _ _ _ br (@aA _ _ _ _ _ _ _ _ br (@ao _ _ _ _ _ _ _ ix_list (@aJ _ _ _ _ ((pv 2)^^^((pv 3)^^^ab))) (@aT _ _ _ _ _ _ _ _ _ bF Y B.int PyProof.Rows.boot_int ((@aW _ _ _ _ _ _ _ _ aZ (pv 6) be (ay _))^^^ab) (by decide) (by decide) Y Y) (λ _ _=>Y)) (@ao _ _ _ _ _ _ _ ix_tup (pv 1) ad (λ _ _=>Y))) ad) Y (Or.inl Y)) (@ae _ _ _ _ _ (@aG _ _ _ _ _ _ _ _ (PW.pt (bq (@aE _ _ _ _ _ _ _ _ aZ (pv 4) ad (ay _)) (bq (@aE _ _ _ _ _ _ _ _ aZ (@ao _ _ _ _ _ _ _ ix_list (pv 5) ad (λ _ _=>Y)) ad (ay _)) (bq (@aE _ _ _ _ _ _ _ _ mi (pv 7) ad (ay _)) (bz (@aE _ _ _ _ _ _ _ _ aZ (@am _ _ _ _ _ _ _ _ _ _ DD (hr.mono (show 1<=3 + n by omega)) Y ((pv 0)^^^(ad^^^ab)) (by decide) Y Y) ad (ay _))))))) (@ag _ _ _ (@ar _ _ _ _ (@am _ _ _ _ _ _ _ _ _ _ DLf (hr.mono (show 2<=3 + n by omega)) Y ((pv 0)^^^((pv 1)^^^((pv 2)^^^((pv 3)^^^ab)))) (by decide) Y Y))) aB) (@ae _ _ _ _ _ (@bh _ _ _ _ _ _ (@aA _ _ _ _ _ _ _ _ br (@ao _ _ _ _ _ _ _ ix_list (pv 5) ad (λ _ _=>Y)) ad) (kO (pv 5) ad gN) Y Y Y) (@ae _ _ _ _ _ (@aD _ _ 8 _ _ _ _ nd Y (Or.inl Y) (@aA _ _ _ _ _ _ _ _ aI ad (@ao _ _ _ _ _ _ _ ix_list (@aJ _ _ _ _ ((@am _ _ _ _ _ _ _ _ _ _ DD (hr.mono (show 1<=3 + n by omega)) Y ((pv 0)^^^((pv 7)^^^ab)) (by decide) Y Y)^^^((@aA _ _ _ _ _ _ _ _ eR (pv 7) ad)^^^((@am _ _ _ _ _ _ _ _ _ _ DD (hr.mono (show 1<=3 + n by omega)) Y ((pv 0)^^^((@aw _ _ _ _ _ _ _ _ _ (fC Y) Y B.min PyProof.Rows.boot_min ((pv 7)^^^(ad^^^ab)) (by decide) (by decide) Y Y)^^^ab)) (by decide) Y Y)^^^ab)))) (@am _ _ _ _ _ _ _ _ _ _ DD (hr.mono (show 1<=3 + n by omega)) Y ((pv 0)^^^(ad^^^ab)) (by decide) Y Y) (λ _ _=>Y))) Y (Or.inl Y)) (@ae _ _ _ _ _ (@aD _ _ 8 _ _ _ _ nd Y (Or.inl Y) (@aw _ _ _ _ _ _ _ _ _ (fC Y) Y B.min PyProof.Rows.boot_min ((pv 8)^^^((pv 7)^^^ab)) (by decide) (by decide) Y Y) Y (Or.inl Y)) (@ae _ _ _ _ _ (@bh _ _ _ _ _ _ (@am _ _ _ _ _ _ _ _ _ _ DBh (hr.mono (show 1<=3 + n by omega)) Y ((pv 1)^^^((pv 2)^^^((pv 3)^^^((pv 6)^^^((pv 8)^^^ab))))) (by decide) Y Y) (aX Y (ah (ai (i:=9) nd Y (Or.inl Y)) (ah (ai (i:=10) nd Y (Or.inl Y)) aK))) Y Y Y) (@ae _ _ _ _ _ (@aD _ _ 11 _ _ _ _ nd Y (Or.inl Y) (@am _ _ _ _ _ _ _ _ _ _ DT hr Y ((pv 0)^^^((pv 1)^^^((@ao _ _ _ _ _ _ _ ix_tup (pv 9) ad (λ _ _=>Y))^^^((@ao _ _ _ _ _ _ _ ix_tup (pv 9) ad (λ _ _=>Y))^^^((@aA _ _ _ _ _ _ _ _ br (pv 4) ad)^^^((pv 5)^^^ab)))))) (by decide) Y Y) Y (Or.inl Y)) (@ag _ _ _ (@ar _ _ _ _ (@az _ _ _ _ _ ((pv 6)^^^((pv 8)^^^((pv 11)^^^((@am _ _ _ _ _ _ _ _ _ _ DT hr Y ((pv 0)^^^((pv 1)^^^((@ao _ _ _ _ _ _ _ ix_tup (pv 10) ad (λ _ _=>Y))^^^((@ao _ _ _ _ _ _ _ ix_tup (pv 10) ad (λ _ _=>Y))^^^((@aA _ _ _ _ _ _ _ _ br (pv 4) ad)^^^((pv 5)^^^ab)))))) (by decide) Y Y)^^^ab))))))))))))))),?_⟩
 have e58:(10:Int) ^ 58 + 10 < 10 ^ 60:=by decide
 have e60:(100:Int) < 10 ^ 60:=by decide
 have sz:(1000:Nat) < sizeLine:=by decide
 obtain ⟨_,hp0⟩:=jx pt
 refine aj (λ R=>∀ (dn:Bool) (H':Hp),PotC H' p->But p H H'->R [some (.ref p),some (.ref t),some (.int W),some (.int h1),some (.int deep),some (.ref rm),some (.str (wyS dn)),none,none,none,none,none] H') (λ Dd hR=>?_) ?_
 ·refine ⟨zS2,λ l hl=>?_⟩
  obtain ⟨H1, e1, k1, n1, s1, b1, pt1⟩:=cg (o:=.lst [.str "down", .str "across"]) But.refl' pt hl
  rw [show upd H l _=H1 from e1]
  refine ⟨_,Y,p,2,Y,pt1,by decide,by decide,λ z H2 z0 z1 pt2 b2=>?_⟩
  have:z=0\/z=1:=by omega
  rcases this with rfl | rfl
  ·exact ⟨l,_,_,_,Y,Y,SqL.of (b2 _ _ n1 k1),Y,hR true _ pt2 (b1.trans b2)⟩
  ·exact ⟨l,_,_,_,Y,Y,SqL.of (b2 _ _ n1 k1),Y,hR false _ pt2 (b1.trans b2)⟩
 rintro dn H1 pt1 b1
 have sh1:=sh.but nk pt b1
 have hrm1:=b1 _ _ nrp hrm
 refine aj (λ R=>∀ (sd:Int) (H':Hp),sd=(if dn=true then W else h1) - b - 1->Same H1 H'->R [some (.ref p),some (.ref t),some (.int W),some (.int h1),some (.int deep),some (.ref rm),some (.str (wyS dn)),some (.int sd),none,none,none,none] H') (λ Dd hR=>?_) ?_
 ·refine ⟨_,Y,_,Y,zS2,λ rl hrl=>?_⟩
  obtain ⟨H2,e2,k2,s2⟩:∃H',upd H1 rl (.lst [.int W,.int h1])=H'/\H' rl=some (.lst [.int W,.int h1])/\Same H1 H':=⟨_,Y,af,Same.new hrl⟩
  rw [show upd H1 rl _=H2 from e2]
  obtain ⟨kr,ht,_⟩:=id (sh1.same s2)
  refine ⟨_,Y,Y,.inr ⟨_,Y,rl,_,_,.int (if dn=true then W else h1),Y,Y,SqL.of k2,?_,_,Y,t,_,0,_,Y,Y,SqT.of ht,Y,_,_,Y,Y,_,_,Y,Y,hR _ _ rfl s2⟩⟩
  cases dn with
  | true =>
   rw [show decide (V.str (wyS true)=V.str "across")=false by decide +kernel]
   rfl
  | false =>
   rw [show decide (V.str (wyS false)=V.str "across")=true by decide +kernel]
   rfl
 rintro sd H2 esd s12
 have pt2:=pt1.same s12
 have sh2:=sh1.same s12
 have hrm2:=s12 _ _ hrm1
 have b2:But p H H2:=λ c o n e=>s12 _ _ (b1 _ _ n e)
 have leaf:∀Hx,But p H Hx->PotC Hx p->spLeafC [.ref p,.ref t,.int W,.int h1] Hx Q E0:=λ Hx bx px =>
  ⟨p,t,kl,b,W,h1,ks,rfl,px,sh.but nk pt bx,nk,k8,gk,w58,h58,λ v T H' tv ok ln d0 pt' b'=>q v T r H' tv (ok b) r0 (by omega) (by omega) (b' _ _ nrp (bx _ _ nrp hrm)) pt' (But2.but (bx.trans b'))⟩
 refine dh (λ R=>∀ (H':Hp),1<=r->1<=deep->1<=sd->PotC H' p->But p H H'->R [some (.ref p),some (.ref t),some (.int W),some (.int h1),some (.int deep),some (.ref rm),some (.str (wyS dn)),some (.int sd),none,none,none,none] H') (λ R hR=>?_) ?_
 ·refine ⟨_,Y,Y,_,Y,?_⟩
  by_cases c1:deep=0
  ·rw [show decide (V.int (deep:Int)=V.int 0)=true from decide_eq_true (by rw [c1]; rfl)]
   exact aU (aU ⟨_,rfl,_,rfl,_,rfl,_,rfl,leaf _ b2 pt2⟩)
  rw [show decide (V.int (deep:Int)=V.int 0)=false from decide_eq_false (λ z=>c1 (by have:=V.int.inj z; omega))]
  refine aL ⟨_,rfl,rm,_,0,_,rfl,rfl,SqL.of hrm2,rfl,rfl,_,rfl,?_⟩
  by_cases c2:r=0
  ·rw [show decide (V.int r=V.int 0)=true from decide_eq_true (by rw [c2])]
   exact aU (aU ⟨_,rfl,_,rfl,_,rfl,_,rfl,leaf _ b2 pt2⟩)
  rw [show decide (V.int r=V.int 0)=false from decide_eq_false (λ z=>c2 (V.int.inj z))]
  refine aL ⟨_,rfl,_,_,rfl,rfl,_,rfl,?_⟩
  by_cases c3:sd < 1
  ·rw [decide_eq_true c3]
   exact aU (aU ⟨_,rfl,_,rfl,_,rfl,_,rfl,leaf _ b2 pt2⟩)
  rw [decide_eq_false c3]
  refine aL ⟨_,rfl,p,4,rfl,pt2,by decide,by decide,λ z H3 z0 z1 pt3 b3=>⟨rfl,_,rfl,?_⟩⟩
  refine cf (λ cc=>⟨_,Y,_,Y,_,Y,_,Y,leaf _ (b2.trans b3) pt3⟩) (λ cc=>hR _ (by omega) (by omega) (by omega) pt3 (b2.trans b3))
 clear leaf sh2 pt2 b2 hrm2 s12 sh1 hrm1 b1 pt1
 clear H2 H1
 rintro H3 r1 deep1 sd1' pt3 b3
 have hrm3:=b3 _ _ nrp hrm
 obtain ⟨d',hd'⟩:∃d',deep=d' + 1:=⟨deep - 1,by omega⟩
 have ed:((deep:Int) - 1)=(d':Int):=by omega
 refine aj (λ R=>∀ (H':Hp),H' rm=some (.lst [.int (r - 1)])->PotC H' p->But2 p rm H H'->R [some (.ref p),some (.ref t),some (.int W),some (.int h1),some (.int deep),some (.ref rm),some (.str (wyS dn)),some (.int sd),none,none,none,none] H') (λ Dd hR=>?_) ?_
 ·exact ⟨_,Y,rm,_,0,_,Y,Y,SqL.of hrm3,Y,_,_,Y,Y,_,Y,rm,_,0,0,Y,Y,hrm3,Y,hR _ af (pt3.put (Ne.symm nrp)) (λ c o n1 n2 e=>by rw [au n2]; exact b3 _ _ n1 e)⟩
 rintro H4 hrm4 pt4 b4
 have sdm:sd < (9 * 10 ^ 59):=by rw [esd]; cases dn <;> simp only [if_true,Bool.false_eq_true,if_false] <;> omega
 refine aj (λ R=>∀ (pl:Int) (H':Hp),1<=pl->PotC H' p->But p H4 H'->R [some (.ref p),some (.ref t),some (.int W),some (.int h1),some (.int deep),some (.ref rm),some (.str (wyS dn)),some (.int sd),some (.int pl),none,none,none] H') (λ Dd hR=>?_) ?_
 ·refine ⟨_,Y,_,Y,p,sd,Y,pt4,by omega,by omega,λ z1 H5 z10 z11 pt5 b5=>⟨_,Y,_,_,Y,Y,⟨by decide,by decide⟩,_,Y,_,Y,_,_,Y,p,_,Y,pt5,?_,?_,λ z2 H6 z20 z21 pt6 b6=>⟨zS3,λ l hl=>?_⟩⟩⟩
  ·show 0 < (if (9:Int) < sd then 9 else sd)
   split <;> omega
  ·show (if (9:Int) < sd then 9 else sd)<=_
   split <;> omega
  obtain ⟨H7,e7,k7,n7,s7,b7,pt7⟩:=cg (o:=.lst [.int z1,.int (sd / 2),.int z2]) (b5.trans b6) pt6 hl
  rw [show upd H6 l _=H7 from e7]
  refine ⟨_,Y,p,3,Y,pt7,by decide,by decide,λ z H8 z0 z1' pt8 b8=>?_⟩
  have d0:0<=sd / 2:=Int.ediv_nonneg (by omega) (by decide)
  obtain ⟨xx,hxx,xx0⟩:∃xx:Int,atI [V.int z1,V.int (sd / 2),V.int z2] z=some (.int xx)/\0<=xx:=by
   have:z=0\/z=1\/z=2:=by omega
   rcases this with rfl | rfl | rfl
   ·exact ⟨_,Y,z10⟩
   ·exact ⟨_,Y,d0⟩
   ·exact ⟨_,Y,z20⟩
  exact ⟨l,_,_,_,Y,Y,SqL.of (b8 _ _ n7 k7),hxx,_,_,Y,Y,hR (1 + xx) _ (by omega) pt8 (b7.trans b8)⟩
 rintro pl0 H5 pl01 pt5 b45
 refine aj (λ R=>∀ (pl:Int),1<=pl->pl<=sd->R [some (.ref p),some (.ref t),some (.int W),some (.int h1),some (.int deep),some (.ref rm),some (.str (wyS dn)),some (.int sd),some (.int pl),none,none,none] H5) (λ Dd hR=>?_) ?_
 ·refine ⟨_,Y,_,Y,_,_,Y,hR _ ?_ ?_⟩
  ·split <;> omega
  ·split <;> omega
 rintro pl pl1 pls
 have b05:But2 p rm H H5:=b4.trans (But2.but b45)
 have hrm5:=b45 _ _ nrp hrm4
 have sh5:LS H5 t b ks kl:=sh.keep2 hp0 hrm nk nkr b05
 refine aj (λ R=>∀ (o1 o2:Addr) (H':Hp),H' o1=some (.tup [.int (if dn=true then pl else W),.int (if dn=true then h1 else pl)])->H' o2=some (.tup [.int (if dn=true then W - pl - b else W),.int (if dn=true then h1 else h1 - pl - b)])->Same H5 H'->R [some (.ref p),some (.ref t),some (.int W),some (.int h1),some (.int deep),some (.ref rm),some (.str (wyS dn)),some (.int sd),some (.int pl),some (.ref o1),some (.ref o2),none] H') (λ Dd hR=>?_) ?_
 ·exact ⟨_,Y,_,Y,_,Y,_,Y,_,Y,t,kl,b,W,h1,pl,ks,dn,Y,sh5,λ rr r1 r2 H6 e1 e2 e3 s6=>⟨rr,_,Y,SqT.of e1,Y,_,_,Y,_,_,Y,Y,hR r1 r2 _ e2 e3 s6⟩⟩
 rintro o1 o2 H6 ho1 ho2 s56
 have pt6:=pt5.same s56
 have hrm6:=s56 _ _ hrm5
 have sh6:=sh5.same s56
 obtain ⟨_,hp6⟩:=jx pt6
 have a1:(if dn=true then pl else W) < (9 * 10 ^ 59):=by split <;> omega
 have a2:(if dn=true then h1 else pl) < (9 * 10 ^ 59):=by cases dn <;> simp only [if_true,Bool.false_eq_true,if_false] at * <;> omega
 have a3:(if dn=true then W - pl - b else W) < (9 * 10 ^ 59):=by split <;> omega
 have a4:(if dn=true then h1 else h1 - pl - b) < (9 * 10 ^ 59):=by split <;> omega
 refine aj (λ R=>∀ (v1:V) (T1:Tr) (r1:Int) (H':Hp),TrV H' T1 v1->okU b ks (if dn=true then pl else W) (if dn=true then h1 else pl) T1->0<=r1->(lvN T1:Int)<=r - 1 - r1 + 1->dT T1<=d'->H' rm=some (.lst [.int r1])->PotC H' p->But2 p rm H6 H'->R [some (.ref p),some (.ref t),some (.int W),some (.int h1),some (.int deep),some (.ref rm),some (.str (wyS dn)),some (.int sd),some (.int pl),some (.ref o1),some (.ref o2),some v1] H') (λ Dd hR=>?_) ?_
 ·exact ⟨_,Y,_,Y,_,Y,o1,_,0,_,Y,Y,SqT.of ho1,Y,_,Y,o1,_,1,_,Y,Y,SqT.of ho1,Y,_,Y,_,_,Y,Y,_,Y,p,t,kl,rm,b,_,_,r - 1,ks,d',(by rw [<- ed]; rfl),pt6,sh6,nk,nkr,nrp,k8,gk,b0,a1,a2,hrm6,by omega,by omega,λ v T r' H7 tv ok r0' ln dp hrm7 pt7 b7=>hR v T r' _ tv ok r0' ln dp hrm7 pt7 b7⟩
 rintro v1 T1 q1 H7 tv1 ok1 q10 ln1 dp1 hrm7 pt7 b67
 have sh7:=sh6.keep2 hp6 hrm6 nk nkr b67
 have kt:∀ {Ha Hb:Hp} {xs ys:List V},Ha p=some (.lst xs)->Ha rm=some (.lst ys)->But2 p rm Ha Hb->∀a zs,Ha a=some (.tup zs)->Hb a=some (.tup zs):=λ e1 e2 bb a zs e=>bb _ _ (λ z=>by rw [z,e1] at e; cases e) (λ z=>by rw [z,e2] at e; cases e) e
 have ho2':=kt hp6 hrm6 b67 _ _ ho2
 refine ⟨_,Y,_,Y,_,Y,_,Y,_,Y,_,Y,o2,_,0,_,Y,Y,SqT.of ho2',Y,_,Y,o2,_,1,_,Y,Y,SqT.of ho2',Y,_,Y,_,_,Y,Y,_,Y,p,t,kl,rm,b,_,_,q1,ks,d',(by rw [<- ed]; rfl),pt7,sh7,nk,nkr,nrp,k8,gk,b0,a3,a4,hrm7,q10,by omega,λ v2 T2 q2 H8 tv2 ok2 q20 ln2 dp2 hrm8 pt8 b78=>?_⟩
 obtain ⟨_,hp7⟩:=jx pt7
 refine ⟨zS4,λ tt htt=>?_⟩
 obtain ⟨H9,e9,k9,s9⟩:∃H',upd H8 tt (.tup [.str (wyS dn),.int pl,v1,v2])=H'/\H' tt=some (.tup [.str (wyS dn),.int pl,v1,v2])/\Same H8 H':=⟨_,Y,af,Same.new htt⟩
 rw [show upd H8 tt _=H9 from e9]
 refine q _ (.cut dn pl T1 T2) q2 H9 ⟨tt,v1,v2,rfl,k9,TrV.keep (λ a xs e=>s9 _ _ (kt hp7 hrm7 b78 _ _ e)) T1 tv1,TrV.keep (λ a xs e=>s9 _ _ e) T2 tv2⟩ ⟨pl1,?_⟩ q20 (by show ((lvN T1 + lvN T2:Nat):Int)<=_; omega) (by show max (dT T1) (dT T2) + 1<=_; omega) (s9 _ _ hrm8) (pt8.same s9) (λ c o n1 n2 e=>s9 _ _ (b78 _ _ n1 n2 (b67 _ _ n1 n2 (s56 _ _ (b05 _ _ n1 n2 e)))))
 cases dn with
 | true =>
  have esd:sd=W - b - 1:=esd
  exact ⟨by omega,ok1,ok2⟩
 | false =>
  have esd:sd=h1 - b - 1:=esd
  exact ⟨by omega,ok1,ok2⟩
theorem ot {f:Addr} {fd:FuncData} (F:Fun K "_law_tree" "_law_tree" iF f fd):FnOk P w K mg base CX0 3 f fd ["_law_pot_here","_law_shop_here","_law_wide","_law_high","_law_deep_here","_law_room"] (spTreeC 0):=by
 refine F.ok sctreec (λ vs H Q E h=>?_) (λ cdv A outer s H vs Q E hr h=>?_)
 ·obtain ⟨p,t,kl,rm,b,W,h1,r,ks,deep,rfl,_⟩:=h
  rfl
 ·obtain ⟨p,t,kl,rm,b,W,h1,r,ks,deep,_,_,_,_,_,_,_,_,_,_,_,_,_,z,_⟩:=h
  exact absurd z (Nat.not_lt_zero _)
theorem iM {f:Addr} {fd:FuncData} (F:Fun K "_law_tree" "_law_tree" iF f fd) (B:Blt mg) (DD:Dn P w K mg base "_law_take" ["_law_pot_here","_law_many"] 1 (spTake)) (DBh:Dn P w K mg base "_law_behind" ["_law_shop_here","_law_wide","_law_high","_law_way","_law_p"] 1 (spBeh)) (DLf:Dn P w K mg base "_law_leaf" ["_law_pot_here","_law_shop_here","_law_wide","_law_high"] 2 (spLeafC)) (mk:∀n,FnOk P w K mg base CX0 (3 + n) f fd ["_law_pot_here","_law_shop_here","_law_wide","_law_high","_law_deep_here","_law_room"] (spTreeC n)->Dn P w K mg base "_law_tree" ["_law_pot_here","_law_shop_here","_law_wide","_law_high","_law_deep_here","_law_room"] (3 + n) (spTreeC n)):∀n,FnOk P w K mg base CX0 (3 + n) f fd ["_law_pot_here","_law_shop_here","_law_wide","_law_high","_law_deep_here","_law_room"] (spTreeC n)
 | 0=>ot F
 | n + 1=>rD F B n DD DBh DLf (mk n (iM F B DD DBh DLf mk n))
end
def ofL:List (Int×Tl)->Tls
 | []=>.nil
 | z :: r=>.cons z.1 z.2 (ofL r)
def srt (l:List (Int×Tl)):List (Int×Tl):=l.mergeSort λ a b=>!aP (bU b) (bU a)
theorem bZ (l:List (Int×Tl)):(srt l).Perm l:=List.mergeSort_perm _ _
theorem rE (l:List (Int×Tl)):(srt l).Pairwise λ x y=>aP (bU y) (bU x)=false:=by
 refine (List.pairwise_mergeSort (λ a b c h1 h2=>?_) (λ a b=>?_) l).imp (λ h=>by simpa using h)
 ·simp only [Bool.not_eq_true'] at h1 h2 ⊢
  cases e:aP (bU c) (bU a) with
  | false=>rfl
  | true =>
   rcases gq _ (bU b) _ e with z | z
   ·rw [z] at h2; cases h2
   ·rw [z] at h1; cases h1
 ·cases e:aP (bU b) (bU a) with
  | false=>rfl
  | true =>
   cases e2:aP (bU a) (bU b) with
   | false=>rfl
   | true =>
    have:=dS _ _ _ e e2
    rw [bT] at this
    cases this
theorem fO {l l':List (Int×Tl)} (h:l'.Perm l) (h1:l'.Pairwise λ x y=>aP (bU y) (bU x)=false):l'=srt l :=
 (h.trans (bZ l).symm).eq_of_pairwise (λ a c _ _ x y=>qT (cS _ _ y x)) h1 (rE l)
def tel (b:Int):Tr->Int->Int->Tl×List (Int×Tl)×List (Int×Tl)
 | .rest,w,h=>(.rest,[(w,.rest)],[(h,.rest)])
 | .piece i c x y,w,h=>(.piece i c x y,[(w,.piece i c x y)],[(h,.piece i c x y)])
 | .cut true p l r,w,h=>(.row true (ofL (srt ((tel b l p h).2.1 ++ (tel b r (w - p - b) h).2.1))),(tel b l p h).2.1 ++ (tel b r (w - p - b) h).2.1,[(h,.row true (ofL (srt ((tel b l p h).2.1 ++ (tel b r (w - p - b) h).2.1))))])
 | .cut false p l r,w,h=>(.row false (ofL (srt ((tel b l w p).2.2 ++ (tel b r w (h - p - b)).2.2))),[(w,.row false (ofL (srt ((tel b l w p).2.2 ++ (tel b r w (h - p - b)).2.2))))],(tel b l w p).2.2 ++ (tel b r w (h - p - b)).2.2)
def di (b:Int) (t:Tr) (w h:Int):Tl:=(tel b t w h).1
def bB (b:Int) (dn:Bool) (t:Tr) (w h:Int):List (Int×Tl):=if dn=true then (tel b t w h).2.1 else (tel b t w h).2.2
def isW (dn:Bool):Tr->Bool
 | .cut d _ _ _=>d == dn
 | _=>false
theorem jy (b:Int) (dn:Bool) (p:Int) (l r:Tr) (w h:Int):bB b dn (.cut dn p l r) w h=bB b dn l (if dn=true then p else w) (if dn=true then h else p) ++ bB b dn r (if dn=true then w - p - b else w) (if dn=true then h else h - p - b):=by
 cases dn <;> rfl
theorem dL {b:Int} {dn:Bool} {t:Tr} (e:isW dn t=false) (w h:Int):bB b dn t w h=[(if dn=true then w else h,di b t w h)]:=by
 cases t with
 | rest=>cases dn <;> rfl
 | piece=>cases dn <;> rfl
 | cut d=>cases d <;> cases dn <;> first | rfl | cases e
theorem hJ (b:Int) (dn:Bool) (p:Int) (l r:Tr) (w h:Int):di b (.cut dn p l r) w h=.row dn (ofL (srt (bB b dn (.cut dn p l r) w h))):=by
 cases dn <;> rfl
theorem cO (b:Int):∀ (t:Tr) (w h:Int),(tel b t w h).2.1.length<=lvN t/\(tel b t w h).2.2.length<=lvN t/\1<=lvN t
 | .rest,_,_=>⟨Nat.le_refl _,Nat.le_refl _,Nat.le_refl _⟩
 | .piece ..,_,_=>⟨Nat.le_refl _,Nat.le_refl _,Nat.le_refl _⟩
 | .cut true p l r,w,h=>by
  have h1:=cO b l p h
  have h2:=cO b r (w - p - b) h
  show List.length (_ ++ _)<=lvN l + lvN r/\1<=lvN l + lvN r/\1<=lvN l + lvN r
  rw [List.length_append]; omega
 | .cut false p l r,w,h=>by
  have h1:=cO b l w p
  have h2:=cO b r w (h - p - b)
  show 1<=lvN l + lvN r/\List.length (_ ++ _)<=lvN l + lvN r/\1<=lvN l + lvN r
  rw [List.length_append]; omega
theorem fc (b:Int) (dn:Bool) (t:Tr) (w h:Int):(bB b dn t w h).length<=lvN t:=by
 have:=cO b t w h
 cases dn
 ·exact this.2.1
 ·exact this.1
theorem iN {m:Nat}:∀ {l:List (Int×Tl)},(∀z∈l,(tlD z.2).depth<=m)->PyData.depthAll (bm (ofL l))<=m + 1
 | [],_=>Nat.zero_le _
 | z :: l,h=>by
  have h1:=h z List.mem_cons_self
  have h2:=iN (l:=l) λ y hy=>h y (List.mem_cons_of_mem _ hy)
  show max (max 0 (max (tlD z.2).depth 0) + 1) (PyData.depthAll (bm (ofL l)))<=m + 1
  omega
theorem fP {m:Nat} {dn:Bool} {l:List (Int×Tl)} (h:∀z∈l,(tlD z.2).depth<=m):(tlD (.row dn (ofL (srt l)))).depth<=m + 3:=by
 have:=iN (l:=srt l) λ z hz=>h z ((bZ l).mem_iff.mp hz)
 show max 0 (max (PyData.depthAll (bm (ofL (srt l))) + 1) 0) + 1<=m + 3
 omega
theorem cu (b:Int):∀ (t:Tr) (w h:Int),(tlD (tel b t w h).1).depth<=3 * dT t + 1/\(∀z∈(tel b t w h).2.1,(tlD z.2).depth<=3 * dT t + 1)/\(∀z∈(tel b t w h).2.2,(tlD z.2).depth<=3 * dT t + 1)
 | .rest,_,_=>⟨Nat.le_refl _,λ z hz=>by rw [List.mem_singleton.mp hz]; exact Nat.le_refl _,λ z hz=>by rw [List.mem_singleton.mp hz]; exact Nat.le_refl _⟩
 | .piece ..,_,_=>⟨Nat.le_refl _,λ z hz=>by rw [List.mem_singleton.mp hz]; exact Nat.le_refl _,λ z hz=>by rw [List.mem_singleton.mp hz]; exact Nat.le_refl _⟩
 | .cut true p l r,w,h=>by
  have h1:=(cu b l p h).2.1
  have h2:=(cu b r (w - p - b) h).2.1
  have all:∀z∈(tel b l p h).2.1 ++ (tel b r (w - p - b) h).2.1,(tlD z.2).depth<=3 * max (dT l) (dT r) + 1:=λ z hz=>by
   rcases List.mem_append.mp hz with hz | hz
   ·have:=h1 z hz; omega
   ·have:=h2 z hz; omega
  have k:=fP (dn:=true) all
  refine ⟨by show (tlD (.row true _)).depth<=3 * (max (dT l) (dT r) + 1) + 1; omega,λ z hz=>?_,λ z hz=>?_⟩
  ·have:=all z hz
   show _<=3 * (max (dT l) (dT r) + 1) + 1
   omega
  ·rw [List.mem_singleton.mp hz]
   show (tlD (.row true _)).depth<=3 * (max (dT l) (dT r) + 1) + 1
   omega
 | .cut false p l r,w,h=>by
  have h1:=(cu b l w p).2.2
  have h2:=(cu b r w (h - p - b)).2.2
  have all:∀z∈(tel b l w p).2.2 ++ (tel b r w (h - p - b)).2.2,(tlD z.2).depth<=3 * max (dT l) (dT r) + 1:=λ z hz=>by
   rcases List.mem_append.mp hz with hz | hz
   ·have:=h1 z hz; omega
   ·have:=h2 z hz; omega
  have k:=fP (dn:=false) all
  refine ⟨by show (tlD (.row false _)).depth<=3 * (max (dT l) (dT r) + 1) + 1; omega,λ z hz=>?_,λ z hz=>?_⟩
  ·rw [List.mem_singleton.mp hz]
   show (tlD (.row false _)).depth<=3 * (max (dT l) (dT r) + 1) + 1
   omega
  ·have:=all z hz
   show _<=3 * (max (dT l) (dT r) + 1) + 1
   omega
theorem hU {b:Int} {dn:Bool} {t:Tr} {w h:Int} {z:Int×Tl} (hz:z∈bB b dn t w h):(tlD z.2).depth<=3 * dT t + 1:=by
 have:=cu b t w h
 cases dn
 ·exact this.2.2 z hz
 ·exact this.2.1 z hz
mutual
def TlV (H:Hp):Tl->V->Prop
 | .rest,v=>∃a,v=.ref a/\H a=some (.tup [.str "rest"])
 | .piece i c x y,v=>∃a,v=.ref a/\H a=some (.tup [.str "piece",.int i,.bl c,.int x,.int y])
 | .row dn r,v=>∃a q xs,v=.ref a/\H a=some (.tup [.str (wyL dn),.ref q])/\H q=some (.tup xs)/\TlsV H r xs
def TlsV (H:Hp):Tls->List V->Prop
 | .nil,xs=>xs=[]
 | .cons n t r,xs=>∃a u ys,xs=.ref a :: ys/\H a=some (.tup [.int n,u])/\TlV H t u/\TlsV H r ys
end
mutual
theorem TlV.keep {H H':Hp} (k:∀a xs,H a=some (.tup xs)->H' a=some (.tup xs)):∀ (t:Tl) {v:V},TlV H t v->TlV H' t v
 | .rest,_,h=>by
  rw [TlV] at h ⊢
  obtain ⟨a,e,h⟩:=h
  exact ⟨a,e,k _ _ h⟩
 | .piece ..,_,h=>by
  rw [TlV] at h ⊢
  obtain ⟨a,e,h⟩:=h
  exact ⟨a,e,k _ _ h⟩
 | .row dn r,_,h=>by
  rw [TlV] at h ⊢
  obtain ⟨a,q,xs,e,h1,h2,h3⟩:=h
  exact ⟨a,q,xs,e,k _ _ h1,k _ _ h2,TlsV.keep k r h3⟩
theorem TlsV.keep {H H':Hp} (k:∀a xs,H a=some (.tup xs)->H' a=some (.tup xs)):∀ (t:Tls) {v:List V},TlsV H t v->TlsV H' t v
 | .nil,_,h=>by rw [TlsV] at h ⊢; exact h
 | .cons n t r,_,h=>by
  rw [TlsV] at h ⊢
  obtain ⟨a,u,ys,e,h1,h2,h3⟩:=h
  exact ⟨a,u,ys,e,k _ _ h1,TlV.keep k t h2,TlsV.keep k r h3⟩
end
mutual
theorem TlV.dat {K:PySem.W.Frag} {H:Hp}:∀ (t:Tl) {v:V},TlV H t v->DatV K H v (tlD t)
 | .rest,_,h=>by
  rw [TlV] at h
  obtain ⟨a,e,h⟩:=h
  subst e
  exact .tup (SqT.of h) (.cons (.str _) .nil)
 | .piece ..,_,h=>by
  rw [TlV] at h
  obtain ⟨a,e,h⟩:=h
  subst e
  exact .tup (SqT.of h) (.cons (.str _) (.cons (.int _) (.cons (.bl _) (.cons (.int _) (.cons (.int _) .nil)))))
 | .row dn r,_,h=>by
  rw [TlV] at h
  obtain ⟨a,q,xs,e,h1,h2,h3⟩:=h
  subst e
  exact .tup (SqT.of h1) (.cons (.str _) (.cons (.tup (SqT.of h2) (TlsV.dat r h3)) .nil))
theorem TlsV.dat {K:PySem.W.Frag} {H:Hp}:∀ (t:Tls) {v:List V},TlsV H t v->DatVs K H v (bm t)
 | .nil,_,h=>by rw [TlsV] at h; subst h; exact .nil
 | .cons n t r,_,h=>by
  rw [TlsV] at h
  obtain ⟨a,u,ys,e,h1,h2,h3⟩:=h
  subst e
  exact .cons (.tup (SqT.of h1) (.cons (.int _) (.cons (TlV.dat t h2) .nil))) (TlsV.dat r h3)
end
def ItV (H:Hp) (v:V) (z:Int×Tl):Prop:=∃a u,v=.ref a/\H a=some (.tup [.int z.1,u])/\TlV H z.2 u
theorem ItV.keep {H H':Hp} (k:∀a xs,H a=some (.tup xs)->H' a=some (.tup xs)) {v:V} {z:Int×Tl} (h:ItV H v z):ItV H' v z:=by
 obtain ⟨a,u,e,h1,h2⟩:=h
 exact ⟨a,u,e,k _ _ h1,TlV.keep k _ h2⟩
theorem ItV.dat {K:PySem.W.Frag} {H:Hp} {a:Addr} {z:Int×Tl} (h:ItV H (.ref a) z):DatV K H (.ref a) (.tuple [.int z.1,tlD z.2]):=by
 obtain ⟨c,u,e,h1,h2⟩:=h
 cases e
 exact .tup (SqT.of h1) (.cons (.int _) (.cons (TlV.dat _ h2) .nil))
theorem fe {H:Hp}:∀ {vs:List V} {zs:List (Int×Tl)},Paired (ItV H) vs zs->TlsV H (ofL zs) vs
 | _,_,.nil=>by rw [ofL,TlsV]
 | _,_,.cons ⟨a,u,e,h1,h2⟩ r=>by
  rw [ofL,TlsV]
  exact ⟨a,u,_,by rw [e],h1,h2,fe r⟩
theorem hV {H:Hp}:∀ {vs:List V} {zs:List (Int×Tl)},Paired (ItV H) vs zs->∃ps:List (Addr×(Int×Tl)),vs=ps.map (λ z=>V.ref z.1)/\zs=ps.map (·.2)/\∀z∈ps,ItV H (.ref z.1) z.2
 | _,_,.nil=>⟨[],Y,Y,λ z hz=>by cases hz⟩
 | _,_,.cons (b:=z) ⟨a,u,e,h1,h2⟩ r=>by
  obtain ⟨ps,e1,e2,h⟩:=hV r
  refine ⟨(a,z) :: ps,by rw [e,e1]; rfl,by rw [e2]; rfl,λ y hy=>?_⟩
  rcases List.mem_cons.mp hy with hy | hy
  ·rw [hy]; exact ⟨a,u,Y,h1,h2⟩
  ·exact h y hy
theorem hW {H:Hp}:∀ {ps:List (Addr×(Int×Tl))},(∀z∈ps,ItV H (.ref z.1) z.2)->Paired (ItV H) (ps.map λ z=>V.ref z.1) (ps.map (·.2))
 | [],_=>.nil
 | z :: ps,h=>.cons (h z List.mem_cons_self) (hW λ y hy=>h y (List.mem_cons_of_mem _ hy))
theorem dj:∀t:Tr,szT t + 1=2 * lvN t
 | .rest=>rfl
 | .piece .. => rfl
 | .cut _ _ l r=>by
  have h1:=dj l
  have h2:=dj r
  show szT l + szT r + 1 + 1=2 * (lvN l + lvN r)
  omega
theorem dM:∀t:Tr,dT t + 1<=lvN t
 | .rest=>Nat.le_refl _
 | .piece .. => Nat.le_refl _
 | .cut _ _ l r=>by
  have h1:=dM l
  have h2:=dM r
  show max (dT l) (dT r) + 1 + 1<=lvN l + lvN r
  omega
theorem Room.units220 {k:Nat} {A:Around} (r:Room k A) (h:2<=k):A.units + 220 < cLine:=by have:=r.un; omega
structure Wa where
 w:Int
 h:Int
 t:Tr
def WaAt (p:Addr) (H0 H:Hp) (v:V) (z:Wa):Prop:=∃a c u d,v=.ref a/\H a=some (.tup [.ref c,u])/\H c=some (.tup [.int z.w,.int z.h])/\Dt p H0 u d/\TrD z.t d
theorem WaAt.keep {p:Addr} {H0 H H':Hp} (k:∀a xs,H a=some (.tup xs)->H' a=some (.tup xs)) {v:V} {z:Wa} (h:WaAt p H0 H v z):WaAt p H0 H' v z:=by
 obtain ⟨a,c,u,d,e,h1,h2,h3,h4⟩:=h
 exact ⟨a,c,u,d,e,k _ _ h1,k _ _ h2,h3,h4⟩
def wsz (ts:List Wa):Nat:=(ts.map λ t=>szT t.t).sum
theorem bW (a b:List Wa):wsz (a ++ b)=wsz a + wsz b:=by unfold wsz; rw [List.map_append,List.sum_append]
theorem jz:∀ts:List Wa,ts.length<=wsz ts
 | []=>Nat.le_refl _
 | t :: r=>by
  have:=jz r
  have:=rn t.t
  show r.length + 1<=szT t.t + wsz r
  omega
def wrw (b:Int) (dn:Bool) (ts:List Wa):List (Int×Tl):=ts.flatMap λ z=>bB b dn z.t z.w z.h
theorem dX (b:Int) (dn:Bool) (s t:List Wa):wrw b dn (s ++ t)=wrw b dn s ++ wrw b dn t:=List.flatMap_append
theorem cK (b:Int) (dn:Bool) (z:Wa):wrw b dn [z]=bB b dn z.t z.w z.h:=by
 show bB b dn z.t z.w z.h ++ []=_
 rw [List.append_nil]
theorem vf (dn:Bool):inV (V.str (wyL dn)) [V.str "down",V.str "across"]=true:=by cases dn <;> decide +kernel
theorem yp (d dn:Bool):decide (V.str (wyL d)=V.str (wyL dn))=(d == dn):=by cases d <;> cases dn <;> decide +kernel
def hdW:Tr->Str
 | .rest => "rest"
 | .piece .. => "piece"
 | .cut dn _ _ _=>wyL dn
theorem jA (t:Tr) (dn:Bool):decide (V.str (hdW t)=V.str (wyL dn))=isW dn t:=by
 cases t with
 | rest=>cases dn <;> decide +kernel
 | piece =>
  show decide (V.str "piece" = V.str (wyL dn))=false
  cases dn <;> decide +kernel
 | cut d=>exact yp d dn
theorem TrD.head {t:Tr} {d:PyData} (h:TrD t d):∃ys,aV d=some (.str (hdW t) :: ys):=by
 cases t with
 | rest=>exact ⟨_,h⟩
 | piece=>exact ⟨_,h⟩
 | cut dn p l r =>
  obtain ⟨dl,dr,e,_⟩:=h
  exact ⟨_,e⟩
theorem Dt.head {p:Addr} {H:Hp} {v:V} {d:PyData} {y:Str} {ys:List PyData} (h:Dt p H v d) (er:aV d=some (.str y :: ys)):∃a xs,v=.ref a/\(H a=some (.lst (.str y :: xs))\/H a=some (.tup (.str y :: xs)))/\Dts p H xs ys:=by
 obtain ⟨a,xs,e,hx,dxs⟩:=h.ref_row er
 cases dxs with
 | cons hd0 dxs =>
  cases hd0
  exact ⟨a,_,e,hx,dxs⟩
theorem rF (dn:Bool) (p:Int) (l r:Tr):dT l < dT (.cut dn p l r)/\dT r < dT (.cut dn p l r)/\szT (.cut dn p l r)=szT l + szT r + 1/\lvN (.cut dn p l r)=lvN l + lvN r:=by
 refine ⟨?_,?_,Y,Y⟩
 ·show dT l < max (dT l) (dT r) + 1; omega
 ·show dT r < max (dT l) (dT r) + 1; omega
section
variable {P:Program} {w:World} {K:PySem.W.Frag} {mg:Str->Option Value} {base:Heap}
inductive spCheckT (C:Addr) (vs:List V) (H:Hp) (Q:VK) (E_:XK):Prop
 | mk (pp s:Addr) (b w h:Int) (ks:List Kd) (v:V) (d:PyData) (e_1:vs=[.ref s,.int w,.int h,v]) (e_2:ShopAt C H s b ks) (e_3:1<=w) (e_4:1<=h) (e_5:Dt pp H v d) (e_6:wt d<=30000) (e_7:isT b ks w h d=true) (e_8:∀H',Same H H'->Q .non H'):spCheckT C vs H Q E_
inductive spSideA (vs:List V) (H:Hp) (Q:VK) (E_:XK):Prop
 | mk (c:Addr) (w h:Int) (dn:Bool) (e_1:vs=[.ref c,.str (wyL dn)]) (e_2:H c=some (.tup [.int w,.int h])) (e_3:Q (.int (if dn=true then w else h)) H):spSideA vs H Q E_
inductive spTell (n:Nat) (vs:List V) (H:Hp) (Q:VK) (E_:XK):Prop
 | mk (pp c:Addr) (b w h:Int) (v:V) (d:PyData) (t:Tr) (e_1:vs=[.int b,.ref c,v]) (e_2:H c=some (.tup [.int w,.int h])) (e_3:Dt pp H v d) (e_4:TrD t d) (e_5:lvN t<=63) (e_6:dT t < n) (e_7:∀ (u:V) (H':Hp),TlV H' (di b t w h) u->Same H H'->Q u H'):spTell n vs H Q E_
inductive spTellO (C:Addr) (vs:List V) (H:Hp) (Q:VK) (E_:XK):Prop
 | mk (pp s:Addr) (b w h:Int) (ks:List Kd) (v:V) (d:PyData) (t:Tr) (e_1:vs=[.ref s,.int w,.int h,v]) (e_2:ShopAt C H s b ks) (e_3:1<=w) (e_4:1<=h) (e_5:Dt pp H v d) (e_6:wt d<=30000) (e_7:TrD t d) (e_8:okT b ks w h t) (e_9:lvN t<=63) (e_10:dT t < 50) (e_11:∀ (u:V) (H':Hp),TlV H' (di b t w h) u->Same H H'->Q u H'):spTellO C vs H Q E_
theorem sccheckt:FnScope ["shop","wide","high","thing"] ["shop","wide","high","thing"] (defScope cX):=⟨Y,Y,Y,by decide +kernel,Y,by decide +kernel,by decide +kernel⟩
theorem ou {f C:Addr} {fd:FuncData} (F:Fun K "check_tree" "check_tree" cX f fd) (DI:Dn P w K mg base "is_tree" ["shop","wide","high","thing"] 6 (spIsTree C)):FnOk P w K mg base CX0 7 f fd ["shop","wide","high","thing"] (spCheckT C):=by
 refine F.ok sccheckt (λ vs H Q E h=>?_) (λ cdv A outer s H vs Q E hr h=>?_)
 ·obtain ⟨pp,s,b,w1,h1,ks,v,d,rfl,_⟩:=h
  rfl
 refine bH λ G9 k9=>?_
 obtain ⟨pp,s,b,w1,h1,ks,v,d,rfl,SH,w0,h0,hd,dz,ht,q⟩:=h
 refine k9 ?_
 have nd:=sccheckt.nd
 refine ⟨_,(@ag _ _ _ (@aG _ _ _ _ _ _ _ _ (@aM _ _ _ _ (@aH _ _ _ (@am _ _ _ _ _ _ _ _ _ _ DI hr Y ((pv 0)^^^((pv 1)^^^((pv 2)^^^((pv 3)^^^ab)))) (by decide) Y Y) (by intro _; rfl))) (@ag _ _ _ cP) aB)),?_⟩
 refine ⟨_,Y,_,Y,_,Y,_,Y,pp,s,b,w1,h1,ks,v,d,Y,SH,w0,h0,hd,dz,λ H1 s1=>⟨_,Y,?_⟩⟩
 rw [ht]
 exact aL (q _ s1)
theorem scsidea:FnScope ["part","way"] ["part","way"] (defScope cY):=⟨Y,Y,Y,by decide +kernel,Y,by decide +kernel,by decide +kernel⟩
theorem rG {f wa:Addr} {fd:FuncData} (F:Fun K "side_along" "side_along" cY f fd) (Z:TrC K mg wa):FnOk P w K mg base CX0 1 f fd ["part","way"] (spSideA):=by
 refine F.ok scsidea (λ vs H Q E h=>?_) (λ cdv A outer s H vs Q E hr h=>?_)
 ·obtain ⟨c,w1,h1,dn,rfl,_⟩:=h
  rfl
 obtain ⟨c,w1,h1,dn,rfl,hc,q⟩:=h
 have nd:=scsidea.nd
 obtain ⟨tdn,hdn⟩:=Z.dn
 refine ⟨_,(@ag _ _ _ (@ar _ _ _ _ (eL (@aE _ _ _ _ _ _ _ _ aZ (pv 1) (bj (v:=.str "down") Y hdn ⟨tdn,Y⟩) (ay _)) (@ao _ _ _ _ _ _ _ ix_tup (pv 0) ad (λ _ _=>Y)) (@ao _ _ _ _ _ _ _ ix_tup (pv 0) ad (λ _ _=>Y))))),?_⟩
 refine ⟨_,Y,Y,_,Y,?_⟩
 cases dn with
 | true=>exact bY (by decide +kernel) ⟨_,rfl,c,_,0,_,rfl,rfl,SqT.of hc,rfl,q⟩
 | false=>exact bJ (by decide +kernel) ⟨_,rfl,c,_,1,_,rfl,rfl,SqT.of hc,rfl,q⟩
theorem sctell:FnScope ["blade","part","tree","way","row","waiting","inner_part","inner_tree","first","second"] ["blade","part","tree"] (defScope bv):=⟨Y,Y,Y,by decide +kernel,Y,by decide +kernel,by decide +kernel⟩
set_option maxHeartbeats 1000000 in
theorem ux {f wa:Addr} {fd:FuncData} (F:Fun K "telling_of_part" "telling_of_part" bv f fd) (B:Blt mg) (Z:TrC K mg wa) (n:Nat) (n60:n<=60) (DC:Dn P w K mg base "cut_parts" ["blade","part","way","p"] 1 (spParts2)) (DSA:Dn P w K mg base "side_along" ["part","way"] 1 (spSideA)) (DT:Dn P w K mg base "telling_of_part" ["blade","part","tree"] (3 + n) (spTell n)):FnOk P w K mg base CX0 (3 + (n + 1)) f fd ["blade","part","tree"] (spTell (n + 1)):=by
 refine F.ok sctell (λ vs H Q E h=>?_) (λ cdv A outer s H vs Q E hr h=>?_)
 ·obtain ⟨pp,c,b,w1,h1,v,d,t,rfl,_⟩:=h
  rfl
 refine bH λ G9 k9=>?_
 obtain ⟨pp,c,b,w1,h1,v,d,t,rfl,hc,hd,td,l63,dn0,q⟩:=h
 refine k9 ?_
 have nd:=sctell.nd
 have hu:=Room.units220 hr (show 2<=3 + n by omega)
 refine ⟨_,(@ae _ _ _ _ _ (@aD _ _ 3 _ _ _ _ nd Y (Or.inl Y) (@ao _ _ _ _ _ _ _ bA (pv 2) ad (λ _ _=>Y)) Y (Or.inl Y)) (@ae _ _ _ _ _ (@aG _ _ _ _ _ _ _ _ (@aE _ _ _ _ _ _ _ _ cV (pv 3) (bj (v:=.ref wa) Y Z.wy Y) Y) (@ag _ _ _ (@ar _ _ _ _ (@aT _ _ _ _ _ _ _ _ _ bg Y B.tuple PyProof.Rows.boot_tuple ((pv 2)^^^ab) (by decide) (by decide) Y Y))) aB) (@ae _ _ _ _ _ (@aD _ _ 4 _ _ _ _ nd Y (Or.inl Y) (@aJ _ _ _ _ ab) Y (Or.inl Y)) (@ae _ _ _ _ _ (@aD _ _ 5 _ _ _ _ nd Y (Or.inl Y) (@aJ _ _ _ _ ((@az _ _ _ _ _ ((pv 1)^^^((pv 2)^^^ab)))^^^ab)) Y (Or.inl Y)) (@ae _ _ _ _ _ (gH PassesOwn.never (jQ (pv 5) (λ _=>Y)) (@ae _ _ _ _ _ (@bh _ _ _ _ _ _ (je PySem.F.plainAttrs_list PySem.F.slot_list_pop PySem.F.type_list_pop li (pv 5)) (aX Y (ah (ai (i:=6) nd Y (Or.inl Y)) (ah (ai (i:=7) nd Y (Or.inl Y)) aK))) Y Y Y) (@ag _ _ _ (@aG _ _ _ _ _ _ _ _ (@aE _ _ _ _ _ _ _ _ aZ (@ao _ _ _ _ _ _ _ bA (pv 7) ad (λ _ _=>Y)) (pv 3) (ay _)) (@ae _ _ _ _ _ (@bh _ _ _ _ _ _ (@am _ _ _ _ _ _ _ _ _ _ DC (hr.mono (show 1<=3 + n by omega)) Y ((pv 0)^^^((pv 6)^^^((pv 3)^^^((@ao _ _ _ _ _ _ _ bA (pv 7) ad (λ _ _=>Y))^^^ab)))) (by decide) Y Y) (aX Y (ah (ai (i:=8) nd Y (Or.inl Y)) (ah (ai (i:=9) nd Y (Or.inl Y)) aK))) Y Y Y) (@ag _ _ _ (@bC _ _ _ _ (@em _ _ _ _ _ _ _ _ _ _ _ _ PySem.F.plainAttrs_list PySem.F.slot_list_extend PySem.F.type_list_extend iz (pv 5) ((@aJ _ _ _ _ ((@az _ _ _ _ _ ((pv 8)^^^((@ao _ _ _ _ _ _ _ bA (pv 7) ad (λ _ _=>Y))^^^ab)))^^^((@az _ _ _ _ _ ((pv 9)^^^((@ao _ _ _ _ _ _ _ bA (pv 7) ad (λ _ _=>Y))^^^ab)))^^^ab)))^^^ab) Y Y Y Y Y) Y))) (@ag _ _ _ (@bC _ _ _ _ (@em _ _ _ _ _ _ _ _ _ _ _ _ PySem.F.plainAttrs_list PySem.F.slot_list_append PySem.F.type_list_append bL (pv 4) ((@az _ _ _ _ _ ((@am _ _ _ _ _ _ _ _ _ _ DSA (hr.mono (show 1<=3 + n by omega)) Y ((pv 6)^^^((pv 3)^^^ab)) (by decide) Y Y)^^^((@am _ _ _ _ _ _ _ _ _ _ DT (hr.mono (show 3 + n<=3 + n by omega)) Y ((pv 0)^^^((pv 6)^^^((pv 7)^^^ab))) (by decide) Y Y)^^^ab)))^^^ab) Y Y Y Y Y) Y)))))) (@ag _ _ _ (@ar _ _ _ _ (@az _ _ _ _ _ ((pv 3)^^^((@aT _ _ _ _ _ _ _ _ _ bg Y B.tuple PyProof.Rows.boot_tuple ((@aw _ _ _ _ _ _ _ _ _ (cm hu) Y B.sorted PyProof.Rows.boot_sorted ((pv 4)^^^ab) (by decide) (by decide) Y Y)^^^ab) (by decide) (by decide) Y Y)^^^ab)))))))))),?_⟩
 have sz:(40000:Nat)<=sizeLine:=by decide
 obtain ⟨ys,er⟩:=TrD.head td
 obtain ⟨a,xs,rfl,hx,dxs⟩:=hd.head er
 refine ⟨_,Y,ixR (Same.refl _) hx (aR (Int.le_refl _) rfl) ?_⟩
 cases t with
 | rest =>
  have td:aV d=some [.str "rest"]:=td
  rw [td] at er
  cases er
  cases dxs
  refine ⟨_,Y,wa,_,Y,.inr (Z.wq _),Y,Y,_,Y,?_⟩
  refine bY (show (!inV (V.str "rest") [V.str "down",V.str "across"])=true by rw [show inV (V.str "rest") [V.str "down",V.str "across"]=false by decide +kernel]; rfl) ?_
  rcases hx with hx | hx
  ·refine ⟨_,Y,a,_,Y,.inl ⟨SqL.of hx,λ l hl=>q _ _ ?_ (Same.new hl)⟩⟩
   show TlV _ (.rest) _
   rw [TlV]
   exact ⟨l,Y,af⟩
  ·refine ⟨_,Y,a,_,Y,.inr ⟨SqT.of hx,q _ _ ?_ (Same.refl _)⟩⟩
   show TlV _ (.rest) _
   rw [TlV]
   exact ⟨a,Y,hx⟩
 | piece i cc x y =>
  have td:aV d=some [.str "piece",.int i,.bool cc,.int x,.int y]:=td
  rw [td] at er
  cases er
  cases dxs with
  | cons g1 dxs =>
  cases dxs with
  | cons g2 dxs =>
  cases dxs with
  | cons g3 dxs =>
  cases dxs with
  | cons g4 dxs =>
  cases dxs
  cases g1
  cases g2
  cases g3
  cases g4
  refine ⟨_,Y,wa,_,Y,.inr (Z.wq _),Y,Y,_,Y,?_⟩
  refine bY (show (!inV (V.str "piece") [V.str "down",V.str "across"])=true by rw [show inV (V.str "piece") [V.str "down",V.str "across"]=false by decide +kernel]; rfl) ?_
  rcases hx with hx | hx
  ·refine ⟨_,Y,a,_,Y,.inl ⟨SqL.of hx,λ l hl=>q _ _ ?_ (Same.new hl)⟩⟩
   show TlV _ (.piece i cc x y) _
   rw [TlV]
   exact ⟨l,Y,af⟩
  ·refine ⟨_,Y,a,_,Y,.inr ⟨SqT.of hx,q _ _ ?_ (Same.refl _)⟩⟩
   show TlV _ (.piece i cc x y) _
   rw [TlV]
   exact ⟨a,Y,hx⟩
 | cut dn pl tl tr =>
  obtain ⟨t,et⟩:∃t,t=Tr.cut dn pl tl tr:=⟨_,Y⟩
  rw [<- et] at td l63 dn0 q er
  have szt:=dj t
  have dl:=dM t
  refine ⟨_,Y,wa,_,Y,.inr (Z.wq _),Y,Y,_,Y,?_⟩
  refine bJ (show (!inV (V.str (wyL dn)) [V.str "down",V.str "across"])=false by rw [vf]; rfl) ⟨by decide,λ rl hrl=>?_⟩
  obtain ⟨H0,e0,k0,s0⟩:∃H',upd H rl (.lst [])=H'/\H' rl=some (.lst [])/\Same H H':=⟨_,Y,af,Same.new hrl⟩
  rw [show upd H rl _=H0 from e0]
  refine ⟨_,Y,_,Y,zS2,λ t' ht=>?_⟩
  obtain ⟨Ha,ea,ka,sa⟩:∃H',upd H0 t' (.tup [.ref c,.ref a])=H'/\H' t'=some (.tup [.ref c,.ref a])/\Same H0 H':=⟨_,Y,af,Same.new ht⟩
  rw [show upd H0 t' _=Ha from ea]
  refine ⟨zS1,λ wl hwl=>?_⟩
  obtain ⟨Hb,eb,kb,sb⟩:∃H',upd Ha wl (.lst [.ref t'])=H'/\H' wl=some (.lst [.ref t'])/\Same Ha H':=⟨_,Y,af,Same.new hwl⟩
  rw [show upd Ha wl _=Hb from eb]
  have fw:H wl=none:=(s0.trans sa).free hwl
  have nrw:rl≠wl:=λ z=>by rw [<- z,sa _ _ k0] at hwl; cases hwl
  have sab:=(s0.trans sa).trans sb
  obtain ⟨v,ev⟩:∃v,v=V.ref a:=⟨_,Y⟩
  rw [<- ev] at hd ka ⊢
  clear ev hx dxs e0 ea eb
  refine ⟨λ m σ H'=>∃ (vs us:List V) (ts:List Wa) (L:List (Int×Tl)) (v6 v7 v8 v9:Option V),σ=[some (.int b),some (.ref c),some v,some (.str (wyL dn)),some (.ref rl),some (.ref wl),v6,v7,v8,v9]/\m=wsz ts/\H' wl=some (.lst vs)/\H' rl=some (.lst us)/\Paired (WaAt pp H H') vs ts/\Paired (ItV H') us L/\(L ++ wrw b dn ts).Perm (bB b dn t w1 h1)/\(∀z∈ts,(z.t=t\/dT z.t < dT t)/\lvN z.t<=63)/\wsz ts<=10000/\Same H H',⟨_,[.ref t'],[],[⟨w1,h1,t⟩],[],none,none,none,none,Y,Y,kb,sb _ _ (sa _ _ k0),.cons ⟨t',c,v,d,Y,sb _ _ ka,sab _ _ hc,hd,td⟩ .nil,.nil,?_,?_,(by show szT t + 0<=10000; omega),sab⟩,?_⟩
  ·rw [cK]
   exact .refl _
  ·intro z hz
   rw [List.mem_singleton.mp hz]
   exact ⟨.inl rfl,l63⟩
  intro m σ H1 hI9
  refine bH λ G9 k9=>?_
  obtain ⟨vs,us,ts,L,v6,v7,v8,v9,rfl,rfl,hw,hl,pr,pu,pm,dz,sz1,s1⟩:=hI9
  refine k9 ?_
  refine ⟨_,Y,_,.inl ⟨vs,SqL.of hw,Y⟩,?_⟩
  rcases List.eq_nil_or_concat vs with rfl | ⟨vs',v0,rfl⟩
  ·have ets:ts=[]:=by
    have:=Paired.length pr
    cases ts with
    | nil=>rfl
    | cons _ _=>simp at this
   subst ets
   rw [show wrw b dn []=[] from rfl,List.append_nil] at pm
   obtain ⟨ps,rfl,rfl,ips⟩:=hV pu
   have ll:=fc b dn t w1 h1
   have pl':=pm.length_eq
   rw [List.length_map] at pl'
   refine aL ⟨_,rfl,_,rfl,rl,ps,rfl,SqL.of hl,by omega,λ z hz=>⟨(ips z hz).dat,?_⟩,λ l ps' hl' pm' pw=>?_⟩
   ·have:=hU (pm.mem_iff.mp (List.mem_map.mpr ⟨z,hz,Y⟩))
    omega
   obtain ⟨H2,e2,k2,s2⟩:∃H',upd H1 l (.lst (ps'.map λ z=>V.ref z.1))=H'/\H' l=some (.lst (ps'.map λ z=>V.ref z.1))/\Same H1 H':=⟨_,Y,af,Same.new hl'⟩
   rw [show upd H1 l _=H2 from e2]
   refine ⟨l,_,Y,.inl ⟨SqL.of k2,λ tq htq=>?_⟩⟩
   obtain ⟨H3,e3,k3,s3⟩:∃H',upd H2 tq (.tup (ps'.map λ z=>V.ref z.1))=H'/\H' tq=some (.tup (ps'.map λ z=>V.ref z.1))/\Same H2 H':=⟨_,Y,af,Same.new htq⟩
   rw [show upd H2 tq _=H3 from e3]
   refine ⟨zS2,λ fr hfr=>?_⟩
   obtain ⟨H4,e4,k4,s4⟩:∃H',upd H3 fr (.tup [.str (wyL dn),.ref tq])=H'/\H' fr=some (.tup [.str (wyL dn),.ref tq])/\Same H3 H':=⟨_,Y,af,Same.new hfr⟩
   rw [show upd H3 fr _=H4 from e4]
   have s14:=s2.trans (s3.trans s4)
   refine q _ H4 ?_ (s1.trans s14)
   rw [et,hJ,<- et,TlV]
   refine ⟨fr,tq,_,Y,k4,s4 _ _ k3,?_⟩
   have ee:ps'.map (·.2)=srt (bB b dn t w1 h1):=fO ((pm'.map _).trans pm) pw
   rw [<- ee]
   exact fe (hW λ z hz=>(ips z (pm'.mem_iff.mp hz)).keep λ a xs e=>s14 _ _ e)
  rw [List.concat_eq_append] at pr hw ⊢
  obtain ⟨ts',t0,rfl,prp,⟨sp,c0,u,du,rfl,hsp,hc0,hdu,tdu⟩⟩:=kA pr
  have ssz:wsz (ts' ++ [t0])=wsz ts' + szT t0.t:=by rw [bW]; show _ + (szT t0.t + 0)=_; omega
  rw [ssz] at sz1
  refine bY (show (!(vs' ++ [V.ref sp]).isEmpty)=true by cases vs' <;> rfl) ⟨λ σ' H'=>∃ (vs us:List V) (ts:List Wa) (L:List (Int×Tl)) (v6 v7 v8 v9:Option V),σ'=[some (.int b),some (.ref c),some v,some (.str (wyL dn)),some (.ref rl),some (.ref wl),v6,v7,v8,v9]/\wsz ts < wsz (ts' ++ [t0])/\H' wl=some (.lst vs)/\H' rl=some (.lst us)/\Paired (WaAt pp H H') vs ts/\Paired (ItV H') us L/\(L ++ wrw b dn ts).Perm (bB b dn t w1 h1)/\(∀z∈ts,(z.t=t\/dT z.t < dT t)/\lvN z.t<=63)/\wsz ts<=10000/\Same H H',λ σ' H' ⟨vs,us,ts,L,v6,v7,v8,v9,e,l,r⟩=>⟨_,l,vs,us,ts,L,v6,v7,v8,v9,e,rfl,r⟩,?_⟩
  rw [dX,cK] at pm
  have ml:(vs' ++ [V.ref sp]).length=vs'.length + 1:=by rw [List.length_append]; rfl
  have keep:∀ {Hx:Hp} {o:HO},Same H Hx->Same H (upd Hx wl o):=λ {Hx o} sx c oo e=>by
   rw [au (λ z=>by rw [z,fw] at e; cases e)]
   exact sx _ _ e
  have keepL:∀ {Hx:Hp} {o:HO},Same H Hx->Same H (upd Hx rl o):=λ {Hx o} sx c oo e=>by
   rw [au (λ z=>by rw [z,hrl] at e; cases e)]
   exact sx _ _ e
  refine aj (λ R=>∀ (H':Hp),H' wl=some (.lst vs')->H' rl=some (.lst us)->Paired (WaAt pp H H') vs' ts'->Paired (ItV H') us L->H' c0=some (.tup [.int t0.w,.int t0.h])->Same H H'->R [some (.int b),some (.ref c),some v,some (.str (wyL dn)),some (.ref rl),some (.ref wl),some (.ref c0),some u,v8,v9] H') (λ Dd hR=>?_) ?_
  ·refine ⟨_,Y,.inl ⟨Y,_,SqL.of hw⟩,wl,_,.ref sp,Y,Y,hw,(by rw [ml]; simp),?_⟩
   rw [List.dropLast_concat]
   have kt:∀ {c:Addr} {xs:List V},H1 c=some (.tup xs)->(upd H1 wl (.lst vs')) c=some (.tup xs):=λ {c xs} e=>by
    rw [au (λ z=>by rw [z,hw] at e; cases e)]; exact e
   refine ⟨sp,_,Y,SqT.of (kt hsp),Y,_,_,Y,_,_,Y,Y,?_⟩
   exact hR _ af (by rw [au nrw]; exact hl) (Paired.mapP prp λ v t h=>h.keep λ a xs e=>kt e) (Paired.mapP pu λ v t h=>h.keep λ a xs e=>kt e) (kt hc0) (keep s1)
  clear hw hl pr prp pu hsp hc0
  rintro H2 hw2 hl2 pr2 pu2 hc2 s02
  obtain ⟨ys0,er0⟩:=TrD.head tdu
  obtain ⟨a0,xs0,rfl,hx0,dx0⟩:=hdu.head er0
  have sl:=jz ts'
  have pl2:=Paired.length pr2
  refine ⟨_,Y,ixR s02 hx0 (aR (Int.le_refl _) rfl) ⟨_,Y,Y,_,Y,?_⟩⟩
  have dz0:=dz t0 (List.mem_append.mpr (.inr (List.mem_singleton.mpr rfl)))
  have dz':∀z∈ts',(z.t=t\/dT z.t < dT t)/\lvN z.t<=63:=λ z hz=>dz z (List.mem_append.mpr (.inl hz))
  cases hw0:isW dn t0.t with
  | false =>
   have nt:t0.t≠t:=λ z=>by
    rw [z,et] at hw0
    simp [isW] at hw0
   have dlt:=dz0.1.resolve_left nt
   have sp0:=rn t0.t
   have pul:=Paired.length pu2
   have l0:=dM t0.t
   rw [dL hw0] at pm
   have lml:=fc b dn t w1 h1
   have pml:=pm.length_eq
   rw [List.length_append,List.length_append,List.length_singleton] at pml
   refine bJ (show decide (V.str (hdW t0.t)=V.str (wyL dn))=false by rw [jA]; exact hw0) ⟨_,rfl,.inl ⟨rfl,_,SqL.of hl2⟩,_,rfl,_,rfl,c0,t0.w,t0.h,dn,rfl,hc2,_,rfl,_,rfl,_,rfl,pp,c0,b,t0.w,t0.h,.ref a0,du,t0.t,rfl,hc2,hdu.same s02,tdu,dz0.2,by omega,λ uu H3 tv s3=>⟨zS2,λ it hit=>?_⟩⟩
   obtain ⟨H4,e4,k4,s4⟩:∃H',upd H3 it (.tup [.int (if dn=true then t0.w else t0.h),uu])=H'/\H' it=some (.tup [.int (if dn=true then t0.w else t0.h),uu])/\Same H3 H':=⟨_,Y,af,Same.new hit⟩
   rw [show upd H3 it _=H4 from e4]
   have s24:=s3.trans s4
   have hl4:=s24 _ _ hl2
   refine ⟨rl,us,_,Y,Y,hl4,by omega,?_⟩
   have kt:∀ {c:Addr} {xs:List V},H4 c=some (.tup xs)->(upd H4 rl (.lst (us ++ [.ref it]))) c=some (.tup xs):=λ {c xs} e=>by
    rw [au (λ z=>by rw [z,hl4] at e; cases e)]; exact e
   refine ⟨vs',us ++ [.ref it],ts',L ++ [(if dn=true then t0.w else t0.h,di b t0.t t0.w t0.h)],_,_,_,_,Y,by rw [ssz]; omega,by rw [au (Ne.symm nrw)]; exact s24 _ _ hw2,af,Paired.mapP pr2 λ v t h=>h.keep λ a xs e=>kt (s24 _ _ e),dJ (Paired.mapP pu2 λ v t h=>h.keep λ a xs e=>kt (s24 _ _ e)) (.cons ⟨it,uu,Y,kt k4,TlV.keep (λ a xs e=>kt (s4 _ _ e)) _ tv⟩ .nil),?_,dz',by omega,keepL (s02.trans s24)⟩
   refine List.Perm.trans ?_ pm
   rw [List.append_assoc]
   exact (List.Perm.append_left _ List.perm_append_comm)
  | true =>
   obtain ⟨p0,l0,r0,e0⟩:∃p0 l0 r0,t0.t=.cut dn p0 l0 r0:=by
    cases z:t0.t with
    | rest=>rw [z] at hw0; cases hw0
    | piece=>rw [z] at hw0; cases hw0
    | cut d p0 l0 r0 =>
     rw [z] at hw0
     have:d=dn:=by simpa [isW] using hw0
     rw [this]
     exact ⟨_,_,_,Y⟩
   rw [e0] at tdu er0 hx0 dz0
   obtain ⟨q1,q2,q3,q4⟩:=rF dn p0 l0 r0
   have szt0:szT t0.t=szT l0 + szT r0 + 1:=by rw [e0]; exact q3
   obtain ⟨dl0,dr0,er1,tdl,tdr⟩:=tdu
   rw [er1] at er0
   cases er0
   cases dx0 with
   | @cons x1 _ xs1 _ g1 dx0 =>
   cases dx0 with
   | @cons lv _ xs2 _ gl dx0 =>
   cases dx0 with
   | @cons rv _ xs3 _ gr dx0 =>
   cases dx0
   cases g1
   have hx0:H a0=some (.lst [.str (wyL dn),.int p0,lv,rv])\/H a0=some (.tup [.str (wyL dn),.int p0,lv,rv]):=hx0
   refine bY (show decide (V.str (hdW t0.t)=V.str (wyL dn))=true by rw [jA]; exact hw0) ?_
   refine aj (λ R=>∀t1 t2 (H':Hp),H' t1=some (.tup [.int (if dn=true then p0 else t0.w),.int (if dn=true then t0.h else p0)])->H' t2=some (.tup [.int (if dn=true then t0.w - p0 - b else t0.w),.int (if dn=true then t0.h else t0.h - p0 - b)])->Same H2 H'->R [some (.int b),some (.ref c),some v,some (.str (wyL dn)),some (.ref rl),some (.ref wl),some (.ref c0),some (.ref a0),some (.ref t1),some (.ref t2)] H') (λ Dd hR=>?_) ?_
   ·refine ⟨_,Y,_,Y,_,Y,_,Y,ixR s02 hx0 (aR (by decide) rfl) ⟨b,t0.w,t0.h,p0,c0,dn,Y,hc2,λ u t1 t2 H3 ku k1 k2 s3=>⟨u,_,Y,SqT.of ku,Y,_,_,Y,_,_,Y,Y,hR t1 t2 _ ?_ ?_ s3⟩⟩⟩
    ·rw [k1]; cases dn <;> rfl
    ·rw [k2]; cases dn <;> rfl
   rintro t1 t2 H3 k1 k2 s23
   have s03:=s02.trans s23
   refine ⟨_,Y,.inl ⟨Y,_,SqL.of (s23 _ _ hw2)⟩,_,Y,_,Y,ixR s03 hx0 (aR (by decide) rfl) ⟨zS2,λ i1 hi1=>?_⟩⟩
   obtain ⟨H4,e4,k4,s4⟩:∃H',upd H3 i1 (.tup [.ref t1,lv])=H'/\H' i1=some (.tup [.ref t1,lv])/\Same H3 H':=⟨_,Y,af,Same.new hi1⟩
   rw [show upd H3 i1 _=H4 from e4]
   refine ⟨_,Y,_,Y,ixR (s03.trans s4) hx0 (aR (by decide) rfl) ⟨zS2,λ i2 hi2=>?_⟩⟩
   obtain ⟨H5,e5,k5,s5⟩:∃H',upd H4 i2 (.tup [.ref t2,rv])=H'/\H' i2=some (.tup [.ref t2,rv])/\Same H4 H':=⟨_,Y,af,Same.new hi2⟩
   rw [show upd H4 i2 _=H5 from e5]
   refine ⟨zS2,λ lu hlu=>?_⟩
   obtain ⟨H6,e6,k6,s6⟩:∃H',upd H5 lu (.lst [.ref i1,.ref i2])=H'/\H' lu=some (.lst [.ref i1,.ref i2])/\Same H5 H':=⟨_,Y,af,Same.new hlu⟩
   rw [show upd H5 lu _=H6 from e6]
   have s36:=s4.trans (s5.trans s6)
   have s26:=s23.trans s36
   have hw6:=s26 _ _ hw2
   refine ⟨wl,lu,_,_,Y,Y,hw6,k6,by show _ + 2<=_; omega,?_⟩
   have kt:∀ {c:Addr} {xs:List V},H6 c=some (.tup xs)->(upd H6 wl (.lst (vs' ++ [.ref i1,.ref i2]))) c=some (.tup xs):=λ {c xs} e=>by
    rw [au (λ z=>by rw [z,hw6] at e; cases e)]; exact e
   have dl9:dT l0 < dT t/\dT r0 < dT t:=by
    rcases dz0.1 with z | z
    ·rw [<- z]; exact ⟨q1,q2⟩
    ·exact ⟨Nat.lt_trans q1 z,Nat.lt_trans q2 z⟩
   refine ⟨vs' ++ [.ref i1,.ref i2],us,ts' ++ ([⟨if dn=true then p0 else t0.w,if dn=true then t0.h else p0,l0⟩] ++ [⟨if dn=true then t0.w - p0 - b else t0.w,if dn=true then t0.h else t0.h - p0 - b,r0⟩]),L,_,_,_,_,Y,?_,af,by rw [au nrw]; exact s26 _ _ hl2,dJ (Paired.mapP pr2 λ v t h=>h.keep λ a xs e=>kt (s26 _ _ e)) (.cons ⟨i1,t1,lv,dl0,Y,kt (s6 _ _ (s5 _ _ k4)),kt (s36 _ _ k1),gl,tdl⟩ (.cons ⟨i2,t2,rv,dr0,Y,kt (s6 _ _ k5),kt (s36 _ _ k2),gr,tdr⟩ .nil)),Paired.mapP pu2 λ v t h=>h.keep λ a xs e=>kt (s26 _ _ e),?_,λ z hz=>?_,?_,keep (s02.trans s26)⟩
   ·rw [ssz,bW,bW]; show _ + ((szT l0 + 0) + (szT r0 + 0)) < _; omega
   ·rw [dX,dX,cK,cK]
    rw [e0,jy] at pm
    exact pm
   ·rcases List.mem_append.mp hz with hz | hz
    ·exact dz' z hz
    ·rcases List.mem_append.mp hz with hz | hz
     ·rw [List.mem_singleton.mp hz]; exact ⟨.inr dl9.1,by show lvN l0<=63; have:=dz0.2; have:=(cO b r0 0 0).2.2; omega⟩
     ·rw [List.mem_singleton.mp hz]; exact ⟨.inr dl9.2,by show lvN r0<=63; have:=dz0.2; have:=(cO b l0 0 0).2.2; omega⟩
   ·rw [bW,bW]; show _ + ((szT l0 + 0) + (szT r0 + 0))<=_; omega
theorem rH {f:Addr} {fd:FuncData} (F:Fun K "telling_of_part" "telling_of_part" bv f fd):FnOk P w K mg base CX0 3 f fd ["blade","part","tree"] (spTell 0):=by
 refine F.ok sctell (λ vs H Q E h=>?_) (λ cdv A outer s H vs Q E hr h=>?_)
 ·obtain ⟨pp,c,b,w1,h1,v,d,t,rfl,_⟩:=h
  rfl
 ·refine bH λ G9 k9=>?_
  obtain ⟨pp,c,b,w1,h1,v,d,t,rfl,_,_,_,_,z,_⟩:=h
  refine k9 ?_
  exact absurd z (Nat.not_lt_zero _)
theorem kB {f wa:Addr} {fd:FuncData} (F:Fun K "telling_of_part" "telling_of_part" bv f fd) (B:Blt mg) (Z:TrC K mg wa) (DC:Dn P w K mg base "cut_parts" ["blade","part","way","p"] 1 (spParts2)) (DSA:Dn P w K mg base "side_along" ["part","way"] 1 (spSideA)) (mk:∀n,FnOk P w K mg base CX0 (3 + n) f fd ["blade","part","tree"] (spTell n)->Dn P w K mg base "telling_of_part" ["blade","part","tree"] (3 + n) (spTell n)):∀n,n<=60->FnOk P w K mg base CX0 (3 + n) f fd ["blade","part","tree"] (spTell n)
 | 0,_=>rH F
 | n + 1,h=>ux F B Z n (by omega) DC DSA (mk n (kB F B Z DC DSA mk n (by omega)))
theorem sctello:FnScope ["shop","wide","high","tree"] ["shop","wide","high","tree"] (defScope de):=⟨Y,Y,Y,by decide +kernel,Y,by decide +kernel,by decide +kernel⟩
theorem rJ {f C:Addr} {fd:FuncData} (F:Fun K "telling_of" "telling_of" de f fd) (T:ShopTxt K C) (MB:Mn P w K mg base C "blade" ["self"] 1 (dQ C)) (DCt:Dn P w K mg base "check_tree" ["shop","wide","high","thing"] 7 (spCheckT C)) (DT:Dn P w K mg base "telling_of_part" ["blade","part","tree"] 53 (spTell 50)):FnOk P w K mg base CX0 54 f fd ["shop","wide","high","tree"] (spTellO C):=by
 refine F.ok sctello (λ vs H Q E h=>?_) (λ cdv A outer s H vs Q E hr h=>?_)
 ·obtain ⟨pp,s,b,w1,h1,ks,v,d,t,rfl,_⟩:=h
  rfl
 refine bH λ G9 k9=>?_
 obtain ⟨pp,s,b,w1,h1,ks,v,d,t,rfl,SH,w0,h0,hd,dz,td,okt,l63,dlt,q⟩:=h
 refine k9 ?_
 have nd:=sctello.nd
 refine ⟨_,(@ae _ _ _ _ _ (@bC _ _ _ _ (@am _ _ _ _ _ _ _ _ _ _ DCt (hr.mono (by decide)) Y ((pv 0)^^^((pv 1)^^^((pv 2)^^^((pv 3)^^^ab)))) (by decide) Y Y) Y) (@ag _ _ _ (@ar _ _ _ _ (@am _ _ _ _ _ _ _ _ _ _ DT hr Y ((lA (pv 0) T.cl MB (hr.mono (by decide)))^^^((@az _ _ _ _ _ ((pv 1)^^^((pv 2)^^^ab)))^^^((pv 3)^^^ab))) (by decide) Y Y)))),?_⟩
 obtain ⟨dx,r,rs,S1,S2,S3⟩:=id SH
 refine ⟨_,Y,_,Y,_,Y,_,Y,pp,s,b,w1,h1,ks,v,d,Y,SH,w0,h0,hd,dz,TrD.good t d w1 h1 td okt,λ H1 s1=>?_⟩
 have SH1:=eC s1 SH
 obtain ⟨dx',r',rs',S1',S2',S3'⟩:=id SH1
 refine ⟨_,Y,s,dx',_,Y,S1',(dP _ _ (by decide +kernel) (by decide +kernel)),s,b,ks,Y,SH1,_,Y,_,Y,zS2,λ c hc=>?_⟩
 obtain ⟨H2,e2,k2,s2⟩:∃H',upd H1 c (.tup [.int w1,.int h1])=H'/\H' c=some (.tup [.int w1,.int h1])/\Same H1 H':=⟨_,Y,af,Same.new hc⟩
 rw [show upd H1 c _=H2 from e2]
 exact ⟨_,Y,pp,c,b,w1,h1,v,d,t,Y,k2,hd.same (s1.trans s2),td,l63,dlt,λ u H3 tv s3=>q u H3 tv (s1.trans (s2.trans s3))⟩
end
theorem TrV.dat {K:PySem.W.Frag} {H:Hp}:∀ (t:Tr) {v:V},TrV H t v->DatV K H v (toD t)
 | .rest,_,⟨a,e,h⟩=>by subst e; exact .tup (SqT.of h) (.cons (.str _) .nil)
 | .piece ..,_,⟨a,e,h⟩=>by subst e; exact .tup (SqT.of h) (.cons (.str _) (.cons (.int _) (.cons (.bl _) (.cons (.int _) (.cons (.int _) .nil)))))
 | .cut _ _ l r,_,⟨a,x,y,e,h,h1,h2⟩=>by subst e; exact .tup (SqT.of h) (.cons (.str _) (.cons (.int _) (.cons (TrV.dat l h1) (.cons (TrV.dat r h2) .nil))))
theorem hX:∀t:Tr,(toD t).canLay0=true/\(toD t).depth=dT t + 1
 | .rest=>⟨by decide +kernel,Y⟩
 | .piece .. => ⟨by simp [toD,PyData.canLay0,PyData.canLayAll0]; decide +kernel,Y⟩
 | .cut dn p l r=>by
  obtain ⟨l1,l2⟩:=hX l
  obtain ⟨r1,r2⟩:=hX r
  refine ⟨?_,?_⟩
  ·simp [toD,PyData.canLay0,PyData.canLayAll0,l1,r1]
   cases dn <;> decide +kernel
  ·simp only [toD,PyData.depth,PyData.depthAll,l2,r2,dT]
   omega
theorem TrV.head {H:Hp}:∀ (t:Tr) {v:V},TrV H t v->∃a xs,v=.ref a/\H a=some (.tup (.str (hdW t) :: xs))
 | .rest,_,⟨a,e,h⟩=>⟨a,_,e,h⟩
 | .piece ..,_,⟨a,e,h⟩=>⟨a,_,e,h⟩
 | .cut ..,_,⟨a,x,y,e,h,_⟩=>⟨a,_,e,h⟩
def WtV (H:Hp) (v:V) (z:Wa):Prop:=∃a u,v=.ref a/\H a=some (.tup [.int z.w,.int z.h,u])/\TrV H z.t u
theorem WtV.keep {H H':Hp} (k:∀a xs,H a=some (.tup xs)->H' a=some (.tup xs)) {v:V} {z:Wa} (h:WtV H v z):WtV H' v z:=by
 obtain ⟨a,u,e,h1,h2⟩:=h
 exact ⟨a,u,e,k _ _ h1,TrV.keep k _ h2⟩
theorem rK {K:PySem.W.Frag} {H:Hp}:∀ {vs:List V} {ts:List Wa},Paired (WtV H) vs ts->(∀z∈ts,dT z.t<=55)->∃ds,DatVs K H vs ds/\ds.length=vs.length/\PyData.canLayAll0 ds=true/\PyData.depthAll ds<=60
 | _,_,.nil,_=>⟨[],.nil,Y,Y,Nat.zero_le _⟩
 | _,_,.cons (b:=z) ⟨a,u,e,h,tv⟩ r,hz=>by
  subst e
  obtain ⟨ds,d1,d2,d3,d4⟩:=rK (K:=K) r λ y hy=>hz y (List.mem_cons_of_mem _ hy)
  obtain ⟨l1,l2⟩:=hX z.t
  have:=hz z List.mem_cons_self
  refine ⟨_ :: ds,.cons (.tup (SqT.of h) (.cons (.int _) (.cons (.int _) (.cons (TrV.dat _ tv) .nil)))) d1,by rw [List.length_cons,List.length_cons,d2],?_,?_⟩
  ·simp only [PyData.canLayAll0,PyData.canLay0,l1,d3,Bool.and_true]
  ·simp only [PyData.depthAll,PyData.depth,l2]; omega
theorem vQ {ds:List PyData} (d3:PyData.canLayAll0 ds=true) (d4:PyData.depthAll ds<=60):SeqAt.shaped (.list ds)=true:=by
 unfold SeqAt.shaped
 rw [show (PyData.list ds).canLay0=true by simpa [PyData.canLay0] using d3,decide_eq_true (show (PyData.list ds).depth<=64 by show PyData.depthAll ds + 1<=64; omega)]
 rfl
section
variable {P:Program} {w:World} {K:PySem.W.Frag} {mg:Str->Option Value} {base:Heap}
inductive spToldL (n:Nat) (vs:List V) (H:Hp) (Q:VK) (E_:XK):Prop
 | mk (t kl:Addr) (b W h:Int) (ks:List Kd) (v:V) (T:Tr) (e_1:vs=[.ref t,.int W,.int h,v]) (e_2:LS H t b ks kl) (e_3:TrV H T v) (e_4:lvN T<=63) (e_5:dT T < n) (e_6:∀ (u:V) (H':Hp),TlV H' (di b T W h) u->Same H H'->Q u H'):spToldL n vs H Q E_
theorem sctold:FnScope ["_law_shop_here","_law_wide","_law_high","_law_tree_here","_law_way","_law_things","_law_waiting","_law_own_wide","_law_own_high","_law_part","_law_one","_law_other","_law_size"] ["_law_shop_here","_law_wide","_law_high","_law_tree_here"] (defScope iH):=⟨Y,Y,Y,by decide +kernel,Y,by decide +kernel,by decide +kernel⟩
set_option maxHeartbeats 1000000 in
theorem uy {f:Addr} {fd:FuncData} (F:Fun K "_law_told" "_law_told" iH f fd) (B:Blt mg) (n:Nat) (n55:n<=55) (DBh:Dn P w K mg base "_law_behind" ["_law_shop_here","_law_wide","_law_high","_law_way","_law_p"] 1 (spBeh)) (DT:Dn P w K mg base "_law_told" ["_law_shop_here","_law_wide","_law_high","_law_tree_here"] (3 + n) (spToldL n)):FnOk P w K mg base CX0 (3 + (n + 1)) f fd ["_law_shop_here","_law_wide","_law_high","_law_tree_here"] (spToldL (n + 1)):=by
 refine F.ok sctold (λ vs H Q E h=>?_) (λ cdv A outer s H vs Q E hr h=>?_)
 ·obtain ⟨t,kl,b,W,h1,ks,v,T,rfl,_⟩:=h
  rfl
 refine bH λ G9 k9=>?_
 obtain ⟨t,kl,b,W,h1,ks,v,T,rfl,sh,tv,l63,dn0,q⟩:=h
 refine k9 ?_
 have nd:=sctold.nd
 have hu:=Room.units220 hr (show 2<=3 + n by omega)
 have hu6:=hr.units
 refine ⟨_,(@ae _ _ _ _ _ (@aG _ _ _ _ _ _ _ _ (@aE _ _ _ _ _ _ _ _ nG (@ao _ _ _ _ _ _ _ ix_tup (pv 3) ad (λ _ _=>Y)) (@az _ _ _ _ _ (be^^^(be^^^ab))) Y) (@ag _ _ _ (@ar _ _ _ _ (pv 3))) aB) (@ae _ _ _ _ _ (@aD _ _ 4 _ _ _ _ nd Y (Or.inl Y) (@ao _ _ _ _ _ _ _ ix_tup (pv 3) ad (λ _ _=>Y)) Y (Or.inl Y)) (@ae _ _ _ _ _ (@aD _ _ 5 _ _ _ _ nd Y (Or.inl Y) (@aJ _ _ _ _ ab) Y (Or.inl Y)) (@ae _ _ _ _ _ (@aD _ _ 6 _ _ _ _ nd Y (Or.inl Y) (@aJ _ _ _ _ ((@az _ _ _ _ _ ((pv 1)^^^((pv 2)^^^((pv 3)^^^ab))))^^^ab)) Y (Or.inl Y)) (@ae _ _ _ _ _ (gH PassesOwn.never (@aE _ _ _ _ _ _ _ _ (vE hu6) (pv 6) (@aJ _ _ _ _ ab) (ay _)) (@ae _ _ _ _ _ (@bh _ _ _ _ _ _ (je PySem.F.plainAttrs_list PySem.F.slot_list_pop PySem.F.type_list_pop li (pv 6)) (aX Y (ah (ai (i:=7) nd Y (Or.inl Y)) (ah (ai (i:=8) nd Y (Or.inl Y)) (ah (ai (i:=9) nd Y (Or.inl Y)) aK)))) Y Y Y) (@ag _ _ _ (@aG _ _ _ _ _ _ _ _ (@aE _ _ _ _ _ _ _ _ aZ (@ao _ _ _ _ _ _ _ ix_tup (pv 9) ad (λ _ _=>Y)) (pv 4) (ay _)) (@ae _ _ _ _ _ (@bh _ _ _ _ _ _ (@am _ _ _ _ _ _ _ _ _ _ DBh (hr.mono (show 1<=3 + n by omega)) Y ((pv 0)^^^((pv 7)^^^((pv 8)^^^((pv 4)^^^((@ao _ _ _ _ _ _ _ ix_tup (pv 9) ad (λ _ _=>Y))^^^ab))))) (by decide) Y Y) (aX Y (ah (ai (i:=10) nd Y (Or.inl Y)) (ah (ai (i:=11) nd Y (Or.inl Y)) aK))) Y Y Y) (@ag _ _ _ (@aD _ _ 6 _ _ _ _ nd Y (Or.inl Y) (@aA _ _ _ _ _ _ _ _ jf (pv 6) (@aJ _ _ _ _ ((@aA _ _ _ _ _ _ _ _ jb (pv 10) (@az _ _ _ _ _ ((@ao _ _ _ _ _ _ _ ix_tup (pv 9) ad (λ _ _=>Y))^^^ab)))^^^((@aA _ _ _ _ _ _ _ _ jb (pv 11) (@az _ _ _ _ _ ((@ao _ _ _ _ _ _ _ ix_tup (pv 9) ad (λ _ _=>Y))^^^ab)))^^^ab)))) Y (Or.inl Y)))) (@ae _ _ _ _ _ (@aD _ _ 12 _ _ _ _ nd Y (Or.inl Y) (@ao _ _ _ _ _ _ _ ix_list (@aJ _ _ _ _ ((pv 7)^^^((pv 8)^^^ab))) (@aT _ _ _ _ _ _ _ _ _ bF Y B.int PyProof.Rows.boot_int ((@aW _ _ _ _ _ _ _ _ aZ (pv 4) be (ay _))^^^ab) (by decide) (by decide) Y Y) (λ _ _=>Y)) Y (Or.inl Y)) (@ag _ _ _ (@bC _ _ _ _ (@em _ _ _ _ _ _ _ _ _ _ _ _ PySem.F.plainAttrs_list PySem.F.slot_list_append PySem.F.type_list_append bL (pv 5) ((@az _ _ _ _ _ ((pv 12)^^^((@am _ _ _ _ _ _ _ _ _ _ DT (hr.mono (show 3 + n<=3 + n by omega)) Y ((pv 0)^^^((pv 7)^^^((pv 8)^^^((pv 9)^^^ab)))) (by decide) Y Y)^^^ab)))^^^ab) Y Y Y Y Y) Y))))))) (@ag _ _ _ (@ar _ _ _ _ (@az _ _ _ _ _ ((pv 4)^^^((@aT _ _ _ _ _ _ _ _ _ bg Y B.tuple PyProof.Rows.boot_tuple ((@aw _ _ _ _ _ _ _ _ _ (cm hu) Y B.sorted PyProof.Rows.boot_sorted ((pv 5)^^^ab) (by decide) (by decide) Y Y)^^^ab) (by decide) (by decide) Y Y)^^^ab)))))))))),?_⟩
 have sz:(40000:Nat)<=sizeLine:=by decide
 obtain ⟨a,xs,ev,hx⟩:=TrV.head T tv
 subst ev
 refine ⟨_,Y,a,_,0,_,Y,Y,SqT.of hx,aR (Int.le_refl _) rfl,zS2,λ q0 hq0=>?_⟩
 obtain ⟨H0, e0, k0, s0⟩:∃H', upd H q0 (.tup [.str "rest", .str "piece"])=H'/\H' q0=some (.tup [.str "rest", .str "piece"])/\Same H H':=⟨_, Y, af, Same.new hq0⟩
 rw [show upd H q0 _=H0 from e0]
 refine ⟨q0,_,Y,.inr (SqT.of k0),Y,Y,_,Y,?_⟩
 show (if (inV (V.str (hdW T)) [V.str "rest",V.str "piece"])=true then _ else _)
 cases T with
 | rest =>
  rw [show inV (V.str (hdW (.rest))) [V.str "rest",V.str "piece"]=true by show inV (V.str "rest") [V.str "rest",V.str "piece"]=true; decide +kernel]
  refine aU ⟨_,rfl,q _ _ ?_ s0⟩
  obtain ⟨a',e',h'⟩:=id tv
  show TlV _ (.rest) _
  rw [TlV]
  exact ⟨a',e',s0 _ _ h'⟩
 | piece i cc x y =>
  rw [show inV (V.str (hdW (.piece i cc x y))) [V.str "rest",V.str "piece"]=true by show inV (V.str "piece") [V.str "rest",V.str "piece"]=true; decide +kernel]
  refine aU ⟨_,rfl,q _ _ ?_ s0⟩
  obtain ⟨a',e',h'⟩:=id tv
  show TlV _ (.piece i cc x y) _
  rw [TlV]
  exact ⟨a',e',s0 _ _ h'⟩
 | cut dn pl tl tr =>
  obtain ⟨T,et⟩:∃t,t=Tr.cut dn pl tl tr:=⟨_,Y⟩
  rw [<- et] at tv l63 dn0 q
  rw [<- et] at hx
  have szt:=dj T
  have dl:=dM T
  rw [show inV (V.str (hdW (.cut dn pl tl tr))) [V.str "rest",V.str "piece"]=false by show inV (V.str (wyL dn)) [V.str "rest",V.str "piece"]=false; cases dn <;> decide +kernel]
  refine aL ⟨_,rfl,a,_,0,_,rfl,rfl,SqT.of (s0 _ _ hx),aR (Int.le_refl _) rfl,?_⟩
  rw [show hdW T=wyL dn by rw [et]; rfl]
  refine ⟨by decide,λ rl hrl=>?_⟩
  obtain ⟨Hr,er,kr,sr⟩:∃H',upd H0 rl (.lst [])=H'/\H' rl=some (.lst [])/\Same H0 H':=⟨_,Y,af,Same.new hrl⟩
  rw [show upd H0 rl _=Hr from er]
  refine ⟨_,Y,_,Y,_,Y,zS3,λ t' ht=>?_⟩
  obtain ⟨Ha,ea,ka,sa⟩:∃H',upd Hr t' (.tup [.int W,.int h1,.ref a])=H'/\H' t'=some (.tup [.int W,.int h1,.ref a])/\Same Hr H':=⟨_,Y,af,Same.new ht⟩
  rw [show upd Hr t' _=Ha from ea]
  refine ⟨zS1,λ wl hwl=>?_⟩
  obtain ⟨Hb,eb,kb,sb⟩:∃H',upd Ha wl (.lst [.ref t'])=H'/\H' wl=some (.lst [.ref t'])/\Same Ha H':=⟨_,Y,af,Same.new hwl⟩
  rw [show upd Ha wl _=Hb from eb]
  have fr:H rl=none:=s0.free hrl
  have fw:H wl=none:=(s0.trans (sr.trans sa)).free hwl
  have nrw:rl≠wl:=λ z=>by rw [<- z,sa _ _ kr] at hwl; cases hwl
  have sab:=s0.trans (sr.trans (sa.trans sb))
  obtain ⟨v,ev⟩:∃v,v=V.ref a:=⟨_,Y⟩
  rw [<- ev] at tv ka ⊢
  clear ev hx e0 ea eb er
  refine ⟨λ m σ H'=>∃ (wl:Addr) (vs us:List V) (ts:List Wa) (L:List (Int×Tl)) (v7 v8 v9 va vb vc:Option V),σ=[some (.ref t),some (.int W),some (.int h1),some v,some (.str (wyL dn)),some (.ref rl),some (.ref wl),v7,v8,v9,va,vb,vc]/\H wl=none/\rl≠wl/\m=wsz ts/\H' wl=some (.lst vs)/\H' rl=some (.lst us)/\Paired (WtV H') vs ts/\Paired (ItV H') us L/\(L ++ wrw b dn ts).Perm (bB b dn T W h1)/\(∀z∈ts,(z.t=T\/dT z.t < dT T)/\lvN z.t<=63)/\wsz ts<=10000/\Same H H',⟨_,wl,[.ref t'],[],[⟨W,h1,T⟩],[],none,none,none,none,none,none,Y,fw,nrw,Y,kb,sb _ _ (sa _ _ kr),.cons ⟨t',v,Y,sb _ _ ka,TrV.keep (λ a xs e=>sab _ _ e) T tv⟩ .nil,.nil,?_,?_,(by show szT T + 0<=10000; omega),sab⟩,?_⟩
  ·rw [cK]
   exact .refl _
  ·intro z hz
   rw [List.mem_singleton.mp hz]
   exact ⟨.inl rfl,l63⟩
  clear kb nrw fw hwl sb sab
  clear Hb
  intro m σ H1 hI9
  refine bH λ G9 k9=>?_
  obtain ⟨wl,vs,us,ts,L,v7,v8,v9,va,vb,vc,rfl,fw,nrw,rfl,hw,hl,pr,pu,pm,dz,sz1,s1⟩:=hI9
  refine k9 ?_
  refine ⟨_,Y,by decide,λ eo heo=>?_⟩
  obtain ⟨Hn,en,kn,sn⟩:∃H',upd H1 eo (.lst [])=H'/\H' eo=some (.lst [])/\Same H1 H':=⟨_,Y,af,Same.new heo⟩
  rw [show upd H1 eo _=Hn from en]
  have hwn:=sn _ _ hw
  have hln:=sn _ _ hl
  have prn:Paired (WtV Hn) vs ts:=Paired.mapP pr λ v t h=>h.keep λ a xs e=>sn _ _ e
  have pun:Paired (ItV Hn) us L:=Paired.mapP pu λ v t h=>h.keep λ a xs e=>sn _ _ e
  have s1n:=s1.trans sn
  obtain ⟨ds,d1,d2,d3,d4⟩:=rK (K:=K) prn λ z hz=>by
   have:=(dz z hz).1
   rcases this with e | e
   ·rw [e]; omega
   ·omega
  refine ⟨_,_,.lst (SqL.of hwn) d1,.lst (SqL.of kn) .nil,vQ d3 d4,by decide +kernel,_,Y,?_⟩
  clear hw hl pr pu s1 heo en
  rcases List.eq_nil_or_concat vs with rfl | ⟨vs',v0,rfl⟩
  ·have ets:ts=[]:=by
    have:=Paired.length prn
    cases ts with
    | nil=>rfl
    | cons _ _=>simp at this
   subst ets
   have:ds=[]:=List.length_eq_zero_iff.mp d2
   subst this
   rw [show wrw b dn []=[] from rfl,List.append_nil] at pm
   obtain ⟨ps,rfl,rfl,ips⟩:=hV pun
   have ll:=fc b dn T W h1
   have pl':=pm.length_eq
   rw [List.length_map] at pl'
   refine bJ rfl ⟨_,rfl,_,rfl,rl,ps,rfl,SqL.of hln,by omega,λ z hz=>⟨(ips z hz).dat,?_⟩,λ l ps' hl' pm' pw=>?_⟩
   ·have:=hU (pm.mem_iff.mp (List.mem_map.mpr ⟨z,hz,Y⟩))
    omega
   obtain ⟨H2,e2,k2,s2⟩:∃H',upd Hn l (.lst (ps'.map λ z=>V.ref z.1))=H'/\H' l=some (.lst (ps'.map λ z=>V.ref z.1))/\Same Hn H':=⟨_,Y,af,Same.new hl'⟩
   rw [show upd Hn l _=H2 from e2]
   refine ⟨l,_,Y,.inl ⟨SqL.of k2,λ tq htq=>?_⟩⟩
   obtain ⟨H3,e3,k3,s3⟩:∃H',upd H2 tq (.tup (ps'.map λ z=>V.ref z.1))=H'/\H' tq=some (.tup (ps'.map λ z=>V.ref z.1))/\Same H2 H':=⟨_,Y,af,Same.new htq⟩
   rw [show upd H2 tq _=H3 from e3]
   refine ⟨zS2,λ fr hfr=>?_⟩
   obtain ⟨H4,e4,k4,s4⟩:∃H',upd H3 fr (.tup [.str (wyL dn),.ref tq])=H'/\H' fr=some (.tup [.str (wyL dn),.ref tq])/\Same H3 H':=⟨_,Y,af,Same.new hfr⟩
   rw [show upd H3 fr _=H4 from e4]
   have s14:=s2.trans (s3.trans s4)
   refine q _ H4 ?_ (s1n.trans s14)
   rw [et,hJ,<- et,TlV]
   refine ⟨fr,tq,_,Y,k4,s4 _ _ k3,?_⟩
   have ee:ps'.map (·.2)=srt (bB b dn T W h1):=fO ((pm'.map _).trans pm) pw
   rw [<- ee]
   exact fe (hW λ z hz=>(ips z (pm'.mem_iff.mp hz)).keep λ a xs e=>s14 _ _ e)
  rw [List.concat_eq_append] at prn hwn d2
  obtain ⟨ts',t0,rfl,prp,⟨sp,u,rfl,hsp,tu⟩⟩:=kA prn
  have dne:PyData.eqv (.list ds) (.list [])=false:=by
   cases ds with
   | nil=>simp at d2
   | cons d ds=>rfl
  have ssz:wsz (ts' ++ [t0])=wsz ts' + szT t0.t:=by rw [bW]; show _ + (szT t0.t + 0)=_; omega
  rw [ssz] at sz1
  refine bY (by rw [dne]; rfl) ⟨λ σ' H'=>∃ (wl:Addr) (vs us:List V) (ts:List Wa) (L:List (Int×Tl)) (v7 v8 v9 va vb vc:Option V),σ'=[some (.ref t),some (.int W),some (.int h1),some v,some (.str (wyL dn)),some (.ref rl),some (.ref wl),v7,v8,v9,va,vb,vc]/\H wl=none/\rl≠wl/\wsz ts < wsz (ts' ++ [t0])/\H' wl=some (.lst vs)/\H' rl=some (.lst us)/\Paired (WtV H') vs ts/\Paired (ItV H') us L/\(L ++ wrw b dn ts).Perm (bB b dn T W h1)/\(∀z∈ts,(z.t=T\/dT z.t < dT T)/\lvN z.t<=63)/\wsz ts<=10000/\Same H H',λ σ' H' ⟨wl,vs,us,ts,L,v7,v8,v9,va,vb,vc,e,e1,e2,l,r⟩=>⟨_,l,wl,vs,us,ts,L,v7,v8,v9,va,vb,vc,e,e1,e2,rfl,r⟩,?_⟩
  rw [dX,cK] at pm
  have ml:(vs' ++ [V.ref sp]).length=vs'.length + 1:=by rw [List.length_append]; rfl
  have keepL:∀ {Hx:Hp} {o:HO},Same H Hx->Same H (upd Hx rl o):=λ {Hx o} sx c oo e=>by
   rw [au (λ z=>by rw [z,fr] at e; cases e)]
   exact sx _ _ e
  refine aj (λ R=>∀ (H':Hp),H' wl=some (.lst vs')->H' rl=some (.lst us)->Paired (WtV H') vs' ts'->Paired (ItV H') us L->TrV H' t0.t u->Same H H'->R [some (.ref t),some (.int W),some (.int h1),some v,some (.str (wyL dn)),some (.ref rl),some (.ref wl),some (.int t0.w),some (.int t0.h),some u,va,vb,vc] H') (λ Dd hR=>?_) ?_
  ·refine ⟨_,Y,.inl ⟨Y,_,SqL.of hwn⟩,wl,_,.ref sp,Y,Y,hwn,(by rw [ml]; simp),?_⟩
   rw [List.dropLast_concat]
   have kt:∀ {c:Addr} {xs:List V},Hn c=some (.tup xs)->(upd Hn wl (.lst vs')) c=some (.tup xs):=λ {c xs} e=>by
    rw [au (λ z=>by rw [z,hwn] at e; cases e)]; exact e
   refine ⟨sp,_,Y,SqT.of (kt hsp),Y,_,_,Y,_,_,Y,_,_,Y,Y,?_⟩
   refine hR _ af (by rw [au nrw]; exact hln) (Paired.mapP prp λ v t h=>h.keep λ a xs e=>kt e) (Paired.mapP pun λ v t h=>h.keep λ a xs e=>kt e) (TrV.keep (λ a xs e=>kt e) _ tu) (λ c o e=>?_)
   rw [au (λ z=>by rw [z,fw] at e; cases e)]
   exact s1n _ _ e
  clear hwn hln prn prp pun hsp tu d1 d2 d3 d4 dne kn sn s1n
  clear Hn
  rintro H2 hw2 hl2 pr2 pu2 tu2 s02
  obtain ⟨a0,xs0,eu,hx0⟩:=TrV.head _ tu2
  subst eu
  have sl:=jz ts'
  have pl2:=Paired.length pr2
  have ls2:=sh.same s02
  refine ⟨_,Y,a0,_,0,_,Y,Y,SqT.of hx0,aR (Int.le_refl _) rfl,_,Y,Y,_,Y,?_⟩
  have dz0:=dz t0 (List.mem_append.mpr (.inr (List.mem_singleton.mpr rfl)))
  have dz':∀z∈ts',(z.t=T\/dT z.t < dT T)/\lvN z.t<=63:=λ z hz=>dz z (List.mem_append.mpr (.inl hz))
  cases hw0:isW dn t0.t with
  | false =>
   have nt:t0.t≠T:=λ z=>by
    rw [z,et] at hw0
    simp [isW] at hw0
   have dlt:=dz0.1.resolve_left nt
   have sp0:=rn t0.t
   have pul:=Paired.length pu2
   rw [dL hw0] at pm
   have lml:=fc b dn T W h1
   have pml:=pm.length_eq
   rw [List.length_append,List.length_append,List.length_singleton] at pml
   refine bJ (show decide (V.str (hdW t0.t)=V.str (wyL dn))=false by rw [jA]; exact hw0) ?_
   refine aj (λ R=>∀ (H':Hp),Same H2 H'->R [some (.ref t),some (.int W),some (.int h1),some v,some (.str (wyL dn)),some (.ref rl),some (.ref wl),some (.int t0.w),some (.int t0.h),some (.ref a0),va,vb,some (.int (if dn=true then t0.w else t0.h))] H') (λ Dd hR=>?_) ?_
   ·refine ⟨_,Y,_,Y,zS2,λ ol hol=>?_⟩
    obtain ⟨H3,e3,k3,s3⟩:∃H',upd H2 ol (.lst [.int t0.w,.int t0.h])=H'/\H' ol=some (.lst [.int t0.w,.int t0.h])/\Same H2 H':=⟨_,Y,af,Same.new hol⟩
    rw [show upd H2 ol _=H3 from e3]
    refine ⟨_,Y,Y,.inr ⟨_,Y,ol,_,_,.int (if dn=true then t0.w else t0.h),Y,Y,SqL.of k3,?_,hR _ s3⟩⟩
    cases dn with
    | true =>
     rw [show decide (V.str (wyL true)=V.str "across")=false by decide +kernel]
     rfl
    | false =>
     rw [show decide (V.str (wyL false)=V.str "across")=true by decide +kernel]
     rfl
   rintro H3 s23
   have hl3:=s23 _ _ hl2
   refine ⟨_,Y,.inl ⟨Y,_,SqL.of hl3⟩,_,Y,_,Y,_,Y,_,Y,_,Y,t,kl,b,t0.w,t0.h,ks,.ref a0,t0.t,Y,ls2.same s23,TrV.keep (λ a xs e=>s23 _ _ e) _ tu2,dz0.2,by omega,λ uu H4 tv4 s4=>⟨zS2,λ it hit=>?_⟩⟩
   obtain ⟨H5,e5,k5,s5⟩:∃H',upd H4 it (.tup [.int (if dn=true then t0.w else t0.h),uu])=H'/\H' it=some (.tup [.int (if dn=true then t0.w else t0.h),uu])/\Same H4 H':=⟨_,Y,af,Same.new hit⟩
   rw [show upd H4 it _=H5 from e5]
   have s25:=s23.trans (s4.trans s5)
   have hl5:=s25 _ _ hl2
   refine ⟨rl,us,_,Y,Y,hl5,by omega,?_⟩
   have kt:∀ {c:Addr} {xs:List V},H5 c=some (.tup xs)->(upd H5 rl (.lst (us ++ [.ref it]))) c=some (.tup xs):=λ {c xs} e=>by
    rw [au (λ z=>by rw [z,hl5] at e; cases e)]; exact e
   refine ⟨wl,vs',us ++ [.ref it],ts',L ++ [(if dn=true then t0.w else t0.h,di b t0.t t0.w t0.h)],_,_,_,_,_,_,Y,fw,nrw,by rw [ssz]; omega,by rw [au (Ne.symm nrw)]; exact s25 _ _ hw2,af,Paired.mapP pr2 λ v t h=>h.keep λ a xs e=>kt (s25 _ _ e),dJ (Paired.mapP pu2 λ v t h=>h.keep λ a xs e=>kt (s25 _ _ e)) (.cons ⟨it,uu,Y,kt k5,TlV.keep (λ a xs e=>kt (s5 _ _ e)) _ tv4⟩ .nil),?_,dz',by omega,keepL (s02.trans s25)⟩
   refine List.Perm.trans ?_ pm
   rw [List.append_assoc]
   exact (List.Perm.append_left _ List.perm_append_comm)
  | true =>
   obtain ⟨p0,l0,r0,e0⟩:∃p0 l0 r0,t0.t=.cut dn p0 l0 r0:=by
    cases z:t0.t with
    | rest=>rw [z] at hw0; cases hw0
    | piece=>rw [z] at hw0; cases hw0
    | cut d p0 l0 r0 =>
     rw [z] at hw0
     have:d=dn:=by simpa [isW] using hw0
     rw [this]
     exact ⟨_,_,_,Y⟩
   rw [e0] at tu2 dz0
   obtain ⟨q1,q2,q3,q4⟩:=rF dn p0 l0 r0
   have szt0:szT t0.t=szT l0 + szT r0 + 1:=by rw [e0]; exact q3
   obtain ⟨a1,lv,rv,e1,hx1,tvl,tvr⟩:=id tu2
   cases e1
   have hx1:H2 a0=some (.tup [.str (wyL dn),.int p0,lv,rv]):=hx1
   refine bY (show decide (V.str (hdW t0.t)=V.str (wyL dn))=true by rw [jA]; exact hw0) ?_
   refine aj (λ R=>∀t1 t2 (H':Hp),H' t1=some (.tup [.int (if dn=true then p0 else t0.w),.int (if dn=true then t0.h else p0)])->H' t2=some (.tup [.int (if dn=true then t0.w - p0 - b else t0.w),.int (if dn=true then t0.h else t0.h - p0 - b)])->Same H2 H'->R [some (.ref t),some (.int W),some (.int h1),some v,some (.str (wyL dn)),some (.ref rl),some (.ref wl),some (.int t0.w),some (.int t0.h),some (.ref a0),some (.ref t1),some (.ref t2),vc] H') (λ Dd hR=>?_) ?_
   ·exact ⟨_,Y,_,Y,_,Y,_,Y,_,Y,a0,_,1,_,Y,Y,SqT.of hx1,Y,t,kl,b,t0.w,t0.h,p0,ks,dn,Y,ls2,λ u t1 t2 H3 ku k1 k2 s3=>⟨u,_,Y,SqT.of ku,Y,_,_,Y,_,_,Y,Y,hR t1 t2 _ k1 k2 s3⟩⟩
   rintro t1 t2 H3 k1 k2 s23
   have s03:=s02.trans s23
   refine ⟨_,Y,_,Y,_,Y,a0,_,2,_,Y,Y,SqT.of (s23 _ _ hx1),Y,zS1,λ i0 hi0=>?_⟩
   obtain ⟨H4,e4,k4,s4⟩:∃H',upd H3 i0 (.tup [lv])=H'/\H' i0=some (.tup [lv])/\Same H3 H':=⟨_,Y,af,Same.new hi0⟩
   rw [show upd H3 i0 _=H4 from e4]
   refine ⟨t1,i0,_,_,Y,Y,SqT.of (s4 _ _ k1),SqT.of k4,by simp,zS3,λ z=>absurd z (by simp),λ _ i1 hi1=>?_⟩
   obtain ⟨H5,e5,k5,s5⟩:∃H',upd H4 i1 (.tup ([.int (if dn=true then p0 else t0.w),.int (if dn=true then t0.h else p0)] ++ [lv]))=H'/\H' i1=some (.tup ([.int (if dn=true then p0 else t0.w),.int (if dn=true then t0.h else p0)] ++ [lv]))/\Same H4 H':=⟨_,Y,af,Same.new hi1⟩
   rw [show upd H4 i1 _=H5 from e5]
   have s35:=s4.trans s5
   refine ⟨_,Y,_,Y,a0,_,3,_,Y,Y,SqT.of (s35 _ _ (s23 _ _ hx1)),Y,zS1,λ j0 hj0=>?_⟩
   obtain ⟨H6,e6,k6,s6⟩:∃H',upd H5 j0 (.tup [rv])=H'/\H' j0=some (.tup [rv])/\Same H5 H':=⟨_,Y,af,Same.new hj0⟩
   rw [show upd H5 j0 _=H6 from e6]
   refine ⟨t2,j0,_,_,Y,Y,SqT.of (s6 _ _ (s35 _ _ k2)),SqT.of k6,by simp,zS3,λ z=>absurd z (by simp),λ _ i2 hi2=>?_⟩
   obtain ⟨H7,e7,k7,s7⟩:∃H',upd H6 i2 (.tup ([.int (if dn=true then t0.w - p0 - b else t0.w),.int (if dn=true then t0.h else t0.h - p0 - b)] ++ [rv]))=H'/\H' i2=some (.tup ([.int (if dn=true then t0.w - p0 - b else t0.w),.int (if dn=true then t0.h else t0.h - p0 - b)] ++ [rv]))/\Same H6 H':=⟨_,Y,af,Same.new hi2⟩
   rw [show upd H6 i2 _=H7 from e7]
   refine ⟨zS2,λ lu hlu=>?_⟩
   obtain ⟨H8,e8,k8,s8⟩:∃H',upd H7 lu (.lst [.ref i1,.ref i2])=H'/\H' lu=some (.lst [.ref i1,.ref i2])/\Same H7 H':=⟨_,Y,af,Same.new hlu⟩
   rw [show upd H7 lu _=H8 from e8]
   have s38:=s35.trans (s6.trans (s7.trans s8))
   have s28:=s23.trans s38
   have hw8:=s28 _ _ hw2
   refine ⟨wl,lu,_,_,Y,Y,hw8,k8,by show _ + 2<=_; omega,λ nw hnw=>?_⟩
   obtain ⟨H9,e9,k9,s9⟩:∃H',upd H8 nw (.lst (vs' ++ [.ref i1,.ref i2]))=H'/\H' nw=some (.lst (vs' ++ [.ref i1,.ref i2]))/\Same H8 H':=⟨_,Y,af,Same.new hnw⟩
   rw [show upd H8 nw _=H9 from e9]
   have s29:=s28.trans s9
   have s09:=s02.trans s29
   have fn:H nw=none:=(s02.trans s28).free hnw
   have nrn:rl≠nw:=λ z=>by rw [<- z,s28 _ _ hl2] at hnw; cases hnw
   have k29:∀a xs,H2 a=some (.tup xs)->H9 a=some (.tup xs):=λ a xs e=>s29 _ _ e
   have dl9:dT l0 < dT T/\dT r0 < dT T:=by
    rcases dz0.1 with z | z
    ·rw [<- z]; exact ⟨q1,q2⟩
    ·exact ⟨Nat.lt_trans q1 z,Nat.lt_trans q2 z⟩
   refine ⟨nw,vs' ++ [.ref i1,.ref i2],us,ts' ++ ([⟨if dn=true then p0 else t0.w,if dn=true then t0.h else p0,l0⟩] ++ [⟨if dn=true then t0.w - p0 - b else t0.w,if dn=true then t0.h else t0.h - p0 - b,r0⟩]),L,_,_,_,_,_,_,Y,fn,nrn,?_,k9,s29 _ _ hl2,dJ (Paired.mapP pr2 λ v t h=>h.keep k29) (.cons ⟨i1,lv,Y,s9 _ _ (s8 _ _ (s7 _ _ (s6 _ _ k5))),TrV.keep k29 _ tvl⟩ (.cons ⟨i2,rv,Y,s9 _ _ (s8 _ _ k7),TrV.keep k29 _ tvr⟩ .nil)),Paired.mapP pu2 λ v t h=>h.keep k29,?_,λ z hz=>?_,?_,s09⟩
   ·rw [ssz,bW,bW]; show _ + ((szT l0 + 0) + (szT r0 + 0)) < _; omega
   ·rw [dX,dX,cK,cK]
    rw [e0,jy] at pm
    exact pm
   ·rcases List.mem_append.mp hz with hz | hz
    ·exact dz' z hz
    ·rcases List.mem_append.mp hz with hz | hz
     ·rw [List.mem_singleton.mp hz]; exact ⟨.inr dl9.1,by show lvN l0<=63; have:=dz0.2; have:=(cO b r0 0 0).2.2; omega⟩
     ·rw [List.mem_singleton.mp hz]; exact ⟨.inr dl9.2,by show lvN r0<=63; have:=dz0.2; have:=(cO b l0 0 0).2.2; omega⟩
   ·rw [bW,bW]; show _ + ((szT l0 + 0) + (szT r0 + 0))<=_; omega
theorem rL {f:Addr} {fd:FuncData} (F:Fun K "_law_told" "_law_told" iH f fd):FnOk P w K mg base CX0 3 f fd ["_law_shop_here","_law_wide","_law_high","_law_tree_here"] (spToldL 0):=by
 refine F.ok sctold (λ vs H Q E h=>?_) (λ cdv A outer s H vs Q E hr h=>?_)
 ·obtain ⟨t,kl,b,W,h1,ks,v,T,rfl,_⟩:=h
  rfl
 ·refine bH λ G9 k9=>?_
  obtain ⟨t,kl,b,W,h1,ks,v,T,rfl,_,_,_,z,_⟩:=h
  refine k9 ?_
  exact absurd z (Nat.not_lt_zero _)
theorem kC {f:Addr} {fd:FuncData} (F:Fun K "_law_told" "_law_told" iH f fd) (B:Blt mg) (DBh:Dn P w K mg base "_law_behind" ["_law_shop_here","_law_wide","_law_high","_law_way","_law_p"] 1 (spBeh)) (mk:∀n,FnOk P w K mg base CX0 (3 + n) f fd ["_law_shop_here","_law_wide","_law_high","_law_tree_here"] (spToldL n)->Dn P w K mg base "_law_told" ["_law_shop_here","_law_wide","_law_high","_law_tree_here"] (3 + n) (spToldL n)):∀n,n<=55->FnOk P w K mg base CX0 (3 + n) f fd ["_law_shop_here","_law_wide","_law_high","_law_tree_here"] (spToldL n)
 | 0,_=>rL F
 | n + 1,h=>uy F B n (by omega) DBh (mk n (kC F B DBh mk n (by omega)))
end
theorem mV:∀ds:List PyData,ds.length<=wts ds
 | []=>Nat.le_refl _
 | d :: r=>by have:=mV r; have:=rf d; rw [List.length_cons,wts]; omega
theorem mW {x:PyData}:∀ {ds:List PyData},x∈ds->wt x<=wts ds
 | d :: r,h=>by
  rw [wts]
  rcases List.mem_cons.mp h with h | h
  ·rw [h]; omega
  ·have:=mW h; omega
theorem Dts.get {p:Addr} {H:Hp}:∀ {vs:List V} {ds:List PyData} {i:Nat} {x:V},Dts p H vs ds->vs[i]? = some x->∃d,ds[i]? = some d/\Dt p H x d
 | _,_,0,_,.cons a _,e=>⟨_,Y,by cases e; exact a⟩
 | _,_,i + 1,_,.cons _ r,e=>by
  obtain ⟨d,h1,h2⟩:=r.get (i:=i) (by simpa using e)
  exact ⟨d,by simpa using h1,h2⟩
theorem Dts.app {p:Addr} {H:Hp}:∀ {vs us:List V} {ds es:List PyData},Dts p H vs ds->Dts p H us es->Dts p H (vs ++ us) (ds ++ es)
 | _,_,_,_,.nil,h=>h
 | _,_,_,_,.cons a r,h=>.cons a (r.app h)
mutual
inductive Lsd:PyData->PyData->Prop
 | same (d:PyData):Lsd d d
 | row {ds ds':List PyData}:Lsds ds ds'->Lsd (.tuple ds) (.list ds')
inductive Lsds:List PyData->List PyData->Prop
 | nil:Lsds [] []
 | cons {d d':PyData} {ds ds':List PyData}:Lsd d d'->Lsds ds ds'->Lsds (d :: ds) (d' :: ds')
end
theorem Lsds.snoc:∀ {ds ds':List PyData} {d d':PyData},Lsds ds ds'->Lsd d d'->Lsds (ds ++ [d]) (ds' ++ [d'])
 | _,_,_,_,.nil,h=>.cons h .nil
 | _,_,_,_,.cons a r,h=>.cons a (r.snoc h)
theorem Lsds.length:∀ {ds ds':List PyData},Lsds ds ds'->ds'.length=ds.length
 | _,_,.nil=>rfl
 | _,_,.cons _ r=>by rw [List.length_cons,List.length_cons,r.length]
theorem Lsd.row_of {d d':PyData} {ds:List PyData} (h:Lsd d d') (e:d=.tuple ds):∃ds',aV d'=some ds'/\Lsds ds ds':=by
 cases h with
 | same d =>
  subst e
  refine ⟨ds,Y,?_⟩
  induction ds with
  | nil=>exact .nil
  | cons d ds ih=>exact .cons (.same d) ih
 | row r=>cases e; exact ⟨_,Y,r⟩
theorem Lsd.str {z:Str} {d:PyData} (h:Lsd (.str z) d):d=.str z:=by cases h; rfl
theorem Lsd.int {i:Int} {d:PyData} (h:Lsd (.int i) d):d=.int i:=by cases h; rfl
theorem Lsd.bool {b:Bool} {d:PyData} (h:Lsd (.bool b) d):d=.bool b:=by cases h; rfl
theorem Lsds.one {d:PyData} {ds es:List PyData} (h:Lsds (d :: ds) es):∃e es',es=e :: es'/\Lsd d e/\Lsds ds es':=by
 cases h with
 | cons a r=>exact ⟨_,_,Y,a,r⟩
theorem Lsds.zero {es:List PyData} (h:Lsds [] es):es=[]:=by cases h; rfl
theorem Lsd.tree:∀ (t:Tr) {d:PyData},Lsd (toD t) d->TrD t d
 | .rest,d,h=>by
  obtain ⟨ds',e,r⟩:=h.row_of rfl
  obtain ⟨x1,es,rfl,h1,r⟩:=r.one
  cases r.zero
  cases h1.str
  exact e
 | .piece i c x y,d,h=>by
  obtain ⟨ds',e,r⟩:=h.row_of rfl
  obtain ⟨x1,es,rfl,h1,r⟩:=r.one
  obtain ⟨x2,es,rfl,h2,r⟩:=r.one
  obtain ⟨x3,es,rfl,h3,r⟩:=r.one
  obtain ⟨x4,es,rfl,h4,r⟩:=r.one
  obtain ⟨x5,es,rfl,h5,r⟩:=r.one
  cases r.zero
  cases h1.str
  cases h2.int
  cases h3.bool
  cases h4.int
  cases h5.int
  exact e
 | .cut dn p l r,d,h=>by
  obtain ⟨ds',e,r'⟩:=h.row_of rfl
  obtain ⟨x1,es,rfl,h1,r'⟩:=r'.one
  obtain ⟨x2,es,rfl,h2,r'⟩:=r'.one
  obtain ⟨x3,es,rfl,h3,r'⟩:=r'.one
  obtain ⟨x4,es,rfl,h4,r'⟩:=r'.one
  cases r'.zero
  cases h1.str
  cases h2.int
  exact ⟨x3,x4,e,Lsd.tree l h3,Lsd.tree r h4⟩
mutual
theorem Lsd.wt:∀ {d d':PyData},Lsd d d'->wt d'=wt d
 | _,_,.same _=>rfl
 | _,_,.row r=>by simp only [Pc.wt]; rw [r.wts]
theorem Lsds.wts:∀ {d d':List PyData},Lsds d d'->wts d'=wts d
 | _,_,.nil=>rfl
 | _,_,.cons a r=>by simp only [Pc.wts]; rw [a.wt,r.wts]
end
mutual
theorem Lsd.depth:∀ {d d':PyData},Lsd d d'->d'.depth=d.depth
 | _,_,.same _=>rfl
 | _,_,.row r=>by simp only [PyData.depth]; rw [r.depth]
theorem Lsds.depth:∀ {d d':List PyData},Lsds d d'->PyData.depthAll d'=PyData.depthAll d
 | _,_,.nil=>rfl
 | _,_,.cons a r=>by simp only [PyData.depthAll]; rw [a.depth,r.depth]
end
section
variable {P:Program} {w:World} {K:PySem.W.Frag} {mg:Str->Option Value} {base:Heap}
inductive spLists (n:Nat) (vs:List V) (H:Hp) (Q:VK) (E_:XK):Prop
 | mk (p:Addr) (v:V) (d:PyData) (e_1:vs=[.ref p,v]) (e_2:PotC H p) (e_3:Dt p H v d) (e_4:d.depth < n) (e_5:wt d<=30000) (e_6:∀ (v':V) (d':PyData) (H':Hp),Dt p H' v' d'->Lsd d d'->((v'=v/\d'=d)\/∃a xs,v'=.ref a/\H a=none/\H' a=some (.lst xs))->PotC H' p->But p H H'->Q v' H'):spLists n vs H Q E_
theorem sclists:FnScope ["_law_pot_here","_law_thing"] ["_law_pot_here","_law_thing"] (defScope eJ):=⟨Y,Y,Y,by decide +kernel,Y,by decide +kernel,by decide +kernel⟩
theorem rM {f:Addr} {fd:FuncData} (F:Fun K "_law_lists" "_law_lists" eJ f fd) (B:Blt mg) (n:Nat) (DD:Dn P w K mg base "_law_take" ["_law_pot_here","_law_many"] 1 (spTake)) (DLs:Dn P w K mg base "_law_lists" ["_law_pot_here","_law_thing"] (2 + n) (spLists n)):FnOk P w K mg base CX0 (2 + (n + 1)) f fd ["_law_pot_here","_law_thing"] (spLists (n + 1)):=by
 refine F.ok sclists (λ vs H Q E h=>?_) (λ cdv A outer s H vs Q E hr h=>?_)
 ·obtain ⟨p,v,d,rfl,_⟩:=h
  rfl
 obtain ⟨p,v,d,rfl,pt,hd,hn,dz,q⟩:=h
 have nd:=sclists.nd
 refine ⟨_,(@ae _ _ _ _ _ (@aG _ _ _ _ _ _ _ _ (PW.pt (bq (@aM _ _ _ _ (@aH _ _ _ (@aw _ _ _ _ _ _ _ _ _ bc Y B.isi PyProof.Rows.boot_isinstance ((pv 1)^^^((bE (v:=.ty "tuple") Y B.tuple PyProof.Rows.boot_tuple Y)^^^ab)) (by decide) (by decide) Y Y) (by intro _; rfl))) (bz (@aE _ _ _ _ _ _ _ _ aZ (@am _ _ _ _ _ _ _ _ _ _ DD (hr.mono (show 1<=2 + n by omega)) Y ((pv 0)^^^(ad^^^ab)) (by decide) Y Y) ad (ay _))))) (@ag _ _ _ (@ar _ _ _ _ (pv 1))) aB) (@ag _ _ _ (@ar _ _ _ _ (eQ (own:=["_law_one"]) (cs:=["_law_pot_here"]) (cap:=[0]) Y (fu (pv 1)) (bS (sc:=defScope eJ) (N:=["_law_pot_here","_law_thing"]) Y Y (by decide +kernel)) (λ _ _ _ _ _=>ai (i:=0) (by show List.Nodup (["_law_one","_law_pot_here"]:List Str) ; decide +kernel) Y (Or.inl Y) (Or.inr Y)) (λ _ _ _ _ _=>cz) (λ _ _ _ _ _=>(@am _ _ _ _ _ _ _ _ _ _ DLs hr Y ((pv 1)^^^((pv 0)^^^ab)) (by decide) Y Y)))))),?_⟩
 obtain ⟨_,hp0⟩:=jx pt
 cases hd with
 | non=>exact ⟨_, Y, _, _, _, _, _, Y, (Ty.non (K:=K)).2, Y, bG "NoneType" (by simp [aF]), _, Y, aU (aU ⟨_, Y, q _ _ _ (.non) (.same _) (.inl ⟨Y, Y⟩) pt But.refl'⟩)⟩
 | bl b=>exact ⟨_, Y, _, _, _, _, _, Y, (Ty.bl (K:=K)).2, Y, bG "bool" (by simp [aF]), _, Y, aU (aU ⟨_, Y, q _ _ _ (.bl b) (.same _) (.inl ⟨Y, Y⟩) pt But.refl'⟩)⟩
 | int i=>exact ⟨_, Y, _, _, _, _, _, Y, (Ty.int (K:=K)).2, Y, bG "int" (by simp [aF]), _, Y, aU (aU ⟨_, Y, q _ _ _ (.int i) (.same _) (.inl ⟨Y, Y⟩) pt But.refl'⟩)⟩
 | str z=>exact ⟨_, Y, _, _, _, _, _, Y, (Ty.str (K:=K)).2, Y, bG "str" (by simp [aF]), _, Y, aU (aU ⟨_, Y, q _ _ _ (.str z) (.same _) (.inl ⟨Y, Y⟩) pt But.refl'⟩)⟩
 | lst n h r=>exact ⟨_, Y, _, _, _, _, _, Y, (Ty.lst h (K:=K)).2, Y, bG "list" (by simp [aF]), _, Y, aU (aU ⟨_, Y, q _ _ _ (.lst n h r) (.same _) (.inl ⟨Y, Y⟩) pt But.refl'⟩)⟩
 | emp h=>exact ⟨_, Y, _, _, _, _, _, Y, (Ty.dK h (K:=K)).2, Y, bG "dict" (by simp [aF]), _, Y, aU (aU ⟨_, Y, q _ _ _ (.emp h) (.same _) (.inl ⟨Y, Y⟩) pt But.refl'⟩)⟩
 | @tup a xs ds h r =>
  refine ⟨_,Y,_,_,_,_,_,Y,(Ty.tup h (K:=K)).2,Y,bG "tuple" (by simp [aF]),_,Y,aL ⟨_,Y,p,3,Y,pt,by decide,by decide,λ z H1 z0 z1 pt1 b1=>⟨Y,_,Y,?_⟩⟩⟩
  have np:a≠p:=λ z=>by rw [z,hp0] at h; cases h
  have h1:=b1 _ _ np h
  have r1:=r.but ⟨_,hp0⟩ b1
  refine cf (λ c=>⟨_,Y,q _ _ _ (.tup h1 r1) (.same _) (.inl ⟨Y,Y⟩) pt1 b1⟩) (λ c=>?_)
  have hl:=r1.length
  have wl:=mV ds
  have dz:wts ds + 1<=30000:=dz
  have hn:PyData.depthAll ds + 1 < n + 1:=hn
  have sz:40000 < sizeLine:=by decide
  refine ⟨_,Y,a,Y,⟨_,SqT.of h1⟩,(cQ (K:=K) (.inr h1) (λ i ys Hx=>PotC Hx p/\But p H1 Hx/\∃ds',Dts p Hx ys ds'/\Lsds (ds.take i) ds') (λ i ys Hx _ e o ho=>e.2.1 _ _ np ho) ⟨pt1,But.refl',[],.nil,.nil⟩ ?_ ?_).2 h1⟩
  ·rintro i x ys Hx hi ⟨ptx,bx,ds',dy,ly⟩
   have hin:i < xs.length:=(List.getElem?_eq_some_iff.mp hi).1
   obtain ⟨d,hd,hx⟩:=r1.get hi
   have yl:=dy.length
   have yl2:=ly.length
   rw [List.length_take] at yl2
   have dm:=List.mem_of_getElem? hd
   have d1:=iL dm
   have w1:=mW dm
   obtain ⟨_,hp1⟩:=jx pt1
   refine ⟨by omega,leS.set rfl,cA ⟨_,Y,_,Y,p,x,d,Y,ptx,hx.but ⟨_,hp1⟩ bx,by omega,by omega,λ v' d' H2 dv ld _ pt2 b2=>?_⟩⟩
   obtain ⟨_,hpx⟩:=jx ptx
   refine Nx.of hin ⟨pt2,bx.trans b2,ds' ++ [d'],(dy.but ⟨_,hpx⟩ b2).app (.cons dv .nil),?_⟩
   rw [List.take_add_one,hd]
   exact ly.snoc ld
  ·rintro ys Hx ⟨ptx,bx,ds',dy,ly⟩
   have yl:=dy.length
   have yl2:=ly.length
   rw [List.length_take] at yl2
   refine ⟨by omega,λ t ht=>?_⟩
   obtain ⟨n1,n2⟩:=(b1.trans bx).freeC ptx ht
   rw [hl,List.take_length] at ly
   exact q _ _ _ (.lst n1 af (dy.same (Same.new ht))) (.row ly) (.inr ⟨t,ys,Y,n2,af⟩) (ptx.new ht) (b1.trans (bx.trans (But.new ht)))
theorem oz {f:Addr} {fd:FuncData} (F:Fun K "_law_lists" "_law_lists" eJ f fd):FnOk P w K mg base CX0 2 f fd ["_law_pot_here","_law_thing"] (spLists 0):=by
 refine F.ok sclists (λ vs H Q E h=>?_) (λ cdv A outer s H vs Q E hr h=>?_)
 ·obtain ⟨p,v,d,rfl,_⟩:=h
  rfl
 ·obtain ⟨p,v,d,rfl,_,_,z,_⟩:=h
  exact absurd z (Nat.not_lt_zero _)
theorem iO {f:Addr} {fd:FuncData} (F:Fun K "_law_lists" "_law_lists" eJ f fd) (B:Blt mg) (DD:Dn P w K mg base "_law_take" ["_law_pot_here","_law_many"] 1 (spTake)) (mk:∀n,FnOk P w K mg base CX0 (2 + n) f fd ["_law_pot_here","_law_thing"] (spLists n)->Dn P w K mg base "_law_lists" ["_law_pot_here","_law_thing"] (2 + n) (spLists n)):∀n,FnOk P w K mg base CX0 (2 + n) f fd ["_law_pot_here","_law_thing"] (spLists n)
 | 0=>oz F
 | n + 1=>rM F B n DD (mk n (iO F B DD mk n))
end
section
variable {P:Program} {w:World} {K:PySem.W.Frag} {mg:Str->Option Value} {base:Heap}
inductive spDeep (vs:List V) (H:Hp) (Q:VK) (E_:XK):Prop
 | mk (p t kl:Addr) (b u tn:Int) (ks:List Kd) (e_1:vs=[.ref p,.ref t,.int u,.int tn]) (e_2:PotC H p) (e_3:LS H t b ks kl) (e_4:kl≠p) (e_5:ks.length<=8) (e_6:(∀k∈ks,Good k)) (e_7:0<=b) (e_8:b < 10 ^ 58) (e_9:1<=u) (e_10:u < 2 * 10 ^ 56) (e_11:0<=tn) (e_12:tn < 4) (e_13:∀ (r:Addr) (W h:Int) (v:V) (T:Tr) (H':Hp),H' r=some (.tup [.int W,.int h,v])->TrV H' T v->okU b ks W h T->1<=W->1<=h->W < 9 * 10 ^ 59->h < 9 * 10 ^ 59->lvN T<=45->PotC H' p->But p H H'->Q (.ref r) H'):spDeep vs H Q E_
theorem scdeep:FnScope ["_law_pot_here","_law_shop_here","_law_unit_here","_law_turn","_law_wide","_law_high","_law_tree_here","_law_k","_law_way","_law_size","_law_far","_law_sides_here","_law_leaf_here"] ["_law_pot_here","_law_shop_here","_law_unit_here","_law_turn"] (defScope mR):=⟨Y,Y,Y,by decide +kernel,Y,by decide +kernel,by decide +kernel⟩
set_option maxHeartbeats 1000000 in
theorem uz {f:Addr} {fd:FuncData} (F:Fun K "_law_deep" "_law_deep" mR f fd) (B:Blt mg) (DD:Dn P w K mg base "_law_take" ["_law_pot_here","_law_many"] 1 (spTake)) (DSi:Dn P w K mg base "_law_side" ["_law_pot_here","_law_unit_here","_law_most"] 2 (spSideC)) (DLf:Dn P w K mg base "_law_leaf" ["_law_pot_here","_law_shop_here","_law_wide","_law_high"] 2 (spLeafC)):FnOk P w K mg base CX0 3 f fd ["_law_pot_here","_law_shop_here","_law_unit_here","_law_turn"] (spDeep):=by
 refine F.ok scdeep (λ vs H Q E h=>?_) (λ cdv A outer s H vs Q E hr h=>?_)
 ·obtain ⟨p,t,kl,b,u,tn,ks,rfl,_⟩:=h
  rfl
 refine bH λ G9 k9=>?_
 obtain ⟨p,t,kl,b,u,tn,ks,rfl,pt,sh,nk,k8,gk,b0,b58,u1,u2,tn0,tn4,q⟩:=h
 refine k9 ?_
 have nd:=scdeep.nd
 refine ⟨_,(@ae _ _ _ _ _ (kP Y nd Y Y (i:=4) (j:=5) (by decide) Y Y ((@am _ _ _ _ _ _ _ _ _ _ DSi (hr.mono (by decide)) Y ((pv 0)^^^((pv 2)^^^(ad^^^ab))) (by decide) Y Y)^^^((@am _ _ _ _ _ _ _ _ _ _ DSi (hr.mono (by decide)) Y ((pv 0)^^^((pv 2)^^^(ad^^^ab))) (by decide) Y Y)^^^ab)) Y) (@ae _ _ _ _ _ (@aD _ _ 6 _ _ _ _ nd Y (Or.inl Y) (@am _ _ _ _ _ _ _ _ _ _ DLf (hr.mono (by decide)) Y ((pv 0)^^^((pv 1)^^^((pv 4)^^^((pv 5)^^^ab)))) (by decide) Y Y) Y (Or.inl Y)) (@ae _ _ _ _ _ (@ce _ _ _ _ _ _ _ _ PassesOwn.never Y (dN Y B.range ((@aA _ _ _ _ _ _ _ _ aI ad (@am _ _ _ _ _ _ _ _ _ _ DD (hr.mono (by decide)) Y ((pv 0)^^^(ad^^^ab)) (by decide) Y Y))^^^ab)) (ai (i:=7) nd Y (Or.inl Y)) (@ae _ _ _ _ _ (@aD _ _ 8 _ _ _ _ nd Y (Or.inl Y) (@ao _ _ _ _ _ _ _ ix_list (@aJ _ _ _ _ (be^^^(be^^^ab))) (@aA _ _ _ _ _ _ _ _ fz (@ao _ _ _ _ _ _ _ ix_list (@aJ _ _ _ _ (ad^^^((@aA _ _ _ _ _ _ _ _ eR (pv 7) ad)^^^((pv 7)^^^((@am _ _ _ _ _ _ _ _ _ _ DD (hr.mono (by decide)) Y ((pv 0)^^^(ad^^^ab)) (by decide) Y Y)^^^ab))))) (pv 3) (λ _ _=>Y)) ad) (λ _ _=>Y)) Y (Or.inl Y)) (@ae _ _ _ _ _ (kP Y nd Y Y (i:=9) (j:=10) (by decide) Y Y ((@am _ _ _ _ _ _ _ _ _ _ DSi (hr.mono (by decide)) Y ((pv 0)^^^((pv 2)^^^(ad^^^ab))) (by decide) Y Y)^^^((@ao _ _ _ _ _ _ _ ix_list (@aJ _ _ _ _ ((pv 4)^^^((pv 5)^^^ab))) (@aT _ _ _ _ _ _ _ _ _ bF Y B.int PyProof.Rows.boot_int ((@aW _ _ _ _ _ _ _ _ aZ (pv 8) be (ay _))^^^ab) (by decide) (by decide) Y Y) (λ _ _=>Y))^^^ab)) Y) (@ae _ _ _ _ _ (@aD _ _ 11 _ _ _ _ nd Y (Or.inl Y) (@ao _ _ _ _ _ _ _ ix_list (@aJ _ _ _ _ ((@az _ _ _ _ _ ((pv 9)^^^((pv 5)^^^ab)))^^^((@az _ _ _ _ _ ((pv 4)^^^((pv 9)^^^ab)))^^^ab))) (@aT _ _ _ _ _ _ _ _ _ bF Y B.int PyProof.Rows.boot_int ((@aW _ _ _ _ _ _ _ _ aZ (pv 8) be (ay _))^^^ab) (by decide) (by decide) Y Y) (λ _ _=>Y)) Y (Or.inl Y)) (@ae _ _ _ _ _ (@aD _ _ 12 _ _ _ _ nd Y (Or.inl Y) (@am _ _ _ _ _ _ _ _ _ _ DLf (hr.mono (by decide)) Y ((pv 0)^^^((pv 1)^^^((@ao _ _ _ _ _ _ _ ix_tup (pv 11) ad (λ _ _=>Y))^^^((@ao _ _ _ _ _ _ _ ix_tup (pv 11) ad (λ _ _=>Y))^^^ab)))) (by decide) Y Y) Y (Or.inl Y)) (@ae _ _ _ _ _ (@aG _ _ _ _ _ _ _ _ (@aE _ _ _ _ _ _ _ _ aZ (pv 8) be (ay _)) (@ag _ _ _ (@aD _ _ 4 _ _ _ _ nd Y (Or.inl Y) (@aA _ _ _ _ _ _ _ _ aI (@aA _ _ _ _ _ _ _ _ aI (pv 4) (pv 9)) (@ao _ _ _ _ _ _ _ ix_tup (pv 1) ad (λ _ _=>Y))) Y (Or.inl Y))) (@ag _ _ _ (@aD _ _ 5 _ _ _ _ nd Y (Or.inl Y) (@aA _ _ _ _ _ _ _ _ aI (@aA _ _ _ _ _ _ _ _ aI (pv 5) (pv 9)) (@ao _ _ _ _ _ _ _ ix_tup (pv 1) ad (λ _ _=>Y))) Y (Or.inl Y)))) (@ag _ _ _ (@aD _ _ 6 _ _ _ _ nd Y (Or.inl Y) (@ao _ _ _ _ _ _ _ ix_list (@aJ _ _ _ _ ((@az _ _ _ _ _ ((pv 8)^^^((pv 9)^^^((pv 12)^^^((pv 6)^^^ab)))))^^^((@az _ _ _ _ _ ((pv 8)^^^((pv 10)^^^((pv 6)^^^((pv 12)^^^ab)))))^^^ab))) (@am _ _ _ _ _ _ _ _ _ _ DD (hr.mono (by decide)) Y ((pv 0)^^^(ad^^^ab)) (by decide) Y Y) (λ _ _=>Y)) Y (Or.inl Y)))))))) (by intro _; rfl)) (@ag _ _ _ (@ar _ _ _ _ (@az _ _ _ _ _ ((pv 4)^^^((pv 5)^^^((pv 6)^^^ab))))))))),?_⟩
 have e58:(10:Int) ^ 58 + 44 * (2 * 10 ^ 58) < 9 * 10 ^ 59:=by decide
 have e57:(10:Int) ^ 58 < 9 * 10 ^ 59:=by decide
 have ep:(0:Int) < 10 ^ 58:=by decide
 have sz:(1000:Nat) < sizeLine:=by decide
 refine aj (λ R=>∀ (W h1:Int) (H':Hp),1<=W->W < 10 ^ 58->1<=h1->h1 < 10 ^ 58->PotC H' p->But p H H'->R [some (.ref p),some (.ref t),some (.int u),some (.int tn),some (.int W),some (.int h1),none,none,none,none,none,none,none] H') (λ Dd hR=>?_) ?_
 ·exact ⟨_,Y,_,Y,p,u,6,Y,pt,u1,u2,by decide,by decide,λ W H1 w0 w58 pt1 b1=>⟨_,Y,_,Y,p,u,6,Y,pt1,u1,u2,by decide,by decide,λ h1 H2 h0 h58 pt2 b2=>⟨_,_,Y,hR W h1 _ w0 w58 h0 h58 pt2 (b1.trans b2)⟩⟩⟩
 rintro W h1 H1 w0 w58 h0 h58 pt1 b1
 refine aj (λ R=>∀ (v:V) (T:Tr) (H':Hp),TrV H' T v->okU b ks W h1 T->lvN T=1->PotC H' p->But p H H'->R [some (.ref p),some (.ref t),some (.int u),some (.int tn),some (.int W),some (.int h1),some v,none,none,none,none,none,none] H') (λ Dd hR=>?_) ?_
 ·exact ⟨_,Y,_,Y,_,Y,_,Y,p,t,kl,b,W,h1,ks,Y,pt1,sh.but nk pt b1,nk,k8,gk,by omega,by omega,λ v T H2 tv ok ln _ pt2 b2=>hR v T _ tv (ok b) ln pt2 (b1.trans b2)⟩
 clear b1 pt1
 clear H1
 rintro v T H1 tv okv lv1 pt1 b1
 refine cC (λ σ' H'=>∃i:Nat,i<=44/\∃ (W h1:Int) (v:V) (T:Tr) (v7 v8 v9 va vb vc:Option V),σ'=[some (.ref p),some (.ref t),some (.int u),some (.int tn),some (.int W),some (.int h1),some v,v7,v8,v9,va,vb,vc]/\1<=W/\1<=h1/\W < 10 ^ 58 + i * (2 * 10 ^ 58)/\h1 < 10 ^ 58 + i * (2 * 10 ^ 58)/\TrV H' T v/\okU b ks W h1 T/\lvN T<=i + 1/\PotC H' p/\But p H H') (λ R hR=>?_) ?_
 ·refine ⟨_,Y,p,25,Y,pt1,by decide,by decide,λ m H2 m0 m1 pt2 b2=>⟨_,_,Y,Y,_,Y,by omega,by omega,?_⟩⟩
  refine dO (n:=(20 + m).toNat) (λ i σ' H'=>∃ (W h1:Int) (v:V) (T:Tr) (v7 v8 v9 va vb vc:Option V),σ'=[some (.ref p),some (.ref t),some (.int u),some (.int tn),some (.int W),some (.int h1),some v,v7,v8,v9,va,vb,vc]/\1<=W/\1<=h1/\W < 10 ^ 58 + i * (2 * 10 ^ 58)/\h1 < 10 ^ 58 + i * (2 * 10 ^ 58)/\TrV H' T v/\okU b ks W h1 T/\lvN T<=i + 1/\PotC H' p/\But p H H') ⟨W,h1,v,T,_,_,_,_,_,_,rfl,w0,h0,by omega,by omega,TrV.keep (λ a xs e=>ef b2 pt1 e) T tv,okv,by omega,pt2,b1.trans b2⟩ ?_ (λ σ Hx h=>hR _ _ ⟨(20 + m).toNat,by omega,h⟩)
  clear tv okv lv1 pt1 b1 pt2 b2 w0 w58 h0 h58
  clear H1 H2 W h1 v T
  intro i _ H1 hi hI9
  refine bH λ G9 k9=>?_
  obtain ⟨W,h1,v,T,v7,v8,v9,va,vb,vc,rfl,w0,h0,w59,h59,tv1,ok1,lv1,pt1,b1⟩:=hI9
  refine k9 ?_
  have i44:i<=43:=by omega
  have i44':(i:Int)<=43:=by omega
  have im:(i:Int) * (2 * 10 ^ 58)<=43 * (2 * 10 ^ 58):=Int.mul_le_mul_of_nonneg_right i44' (by omega)
  have is:((i + 1:Nat):Int) * (2 * 10 ^ 58)=i * (2 * 10 ^ 58) + 2 * 10 ^ 58:=by
   rw [Int.natCast_add,Int.add_mul]; omega
  refine cC (λ σ' H'=>∃dn:Bool,σ'=[some (.ref p),some (.ref t),some (.int u),some (.int tn),some (.int W),some (.int h1),some v,some (.int (0 + (i:Int))),some (.str (wyL dn)),v9,va,vb,vc]/\TrV H' T v/\PotC H' p/\But p H H') (λ R hR=>?_) ?_
  ·refine ⟨zS2,λ l hl=>?_⟩
   obtain ⟨H2,e2,k2,n2,s2,b2,pt2⟩:=cg (o:=.lst [.str "down",.str "across"]) b1 pt1 hl
   rw [show upd H1 l _=H2 from e2]
   refine ⟨_,Y,_,_,Y,Y,⟨by decide,by decide⟩,_,Y,_,Y,p,2,Y,pt2,by decide,by decide,λ z H3 z0 z1 pt3 b3=>⟨zS4,λ l2 hl2=>?_⟩⟩
   obtain ⟨H4,e4,k4,n4,s4,b4,pt4⟩:=cg (o:=.lst [.int 0,.int ((0 + (i:Int)) / 4),.int (0 + (i:Int)),.int z]) (b2.trans b3) pt3 hl2
   rw [show upd H3 l2 _=H4 from e4]
   obtain ⟨xx,hxx⟩:∃xx:Int,atI [V.int 0,V.int ((0 + (i:Int)) / 4),V.int (0 + (i:Int)),V.int z] tn=some (.int xx):=by
    have:tn=0\/tn=1\/tn=2\/tn=3:=by omega
    rcases this with rfl | rfl | rfl | rfl <;> exact ⟨_,Y⟩
   have hl4:=s4 _ _ (b3 _ _ n2 k2)
   have fin:∀dn:Bool,_:=λ dn=>hR [some (.ref p),some (.ref t),some (.int u),some (.int tn),some (.int W),some (.int h1),some v,some (.int (0 + (i:Int))),some (.str (wyL dn)),v9,va,vb,vc] H4 ⟨dn,rfl,TrV.keep (λ a xs e=>s4 _ _ (ef b3 pt2 (s2 _ _ e))) T tv1,pt4,b4⟩
   have mo:xx % 2=0\/xx % 2=1:=by omega
   refine ⟨_,Y,l2,_,_,_,Y,Y,SqL.of k4,hxx,_,_,Y,Y,(by show (0:Int) < 2; decide),?_⟩
   rcases mo with e | e
   ·exact ⟨l,_,_,_,Y,by rw [e],SqL.of hl4,Y,fin true⟩
   ·exact ⟨l,_,_,_,Y,by rw [e],SqL.of hl4,Y,fin false⟩
  clear tv1 pt1
  rintro _ H2 ⟨dn,rfl,tv2,pt2,b2⟩
  refine aj (λ R=>∀ (sz0:Int) (H':Hp),1<=sz0->sz0 < 10 ^ 58->TrV H' T v->PotC H' p->But p H H'->R [some (.ref p),some (.ref t),some (.int u),some (.int tn),some (.int W),some (.int h1),some v,some (.int (0 + (i:Int))),some (.str (wyL dn)),some (.int sz0),some (.int (if dn=true then W else h1)),vb,vc] H') (λ Dd hR=>?_) ?_
  ·refine ⟨_,Y,_,Y,p,u,3,Y,pt2,u1,u2,by decide,by decide,λ sz0 H3 s0 s58 pt3 b3=>⟨_,Y,_,Y,zS2,λ ol hol=>?_⟩⟩
   obtain ⟨H4,e4,k4,n4,s4,b4,pt4⟩:=cg (o:=.lst [.int W,.int h1]) (b2.trans b3) pt3 hol
   rw [show upd H3 ol _=H4 from e4]
   refine ⟨_,Y,Y,.inr ⟨_,Y,ol,_,_,.int (if dn=true then W else h1),Y,Y,SqL.of k4,?_,_,_,Y,hR sz0 _ s0 s58 (TrV.keep (λ a xs e=>s4 _ _ (ef b3 pt2 e)) T tv2) pt4 b4⟩⟩
   cases dn with
   | true =>
    rw [show decide (V.str (wyL true)=V.str "across")=false by decide +kernel]
    rfl
   | false =>
    rw [show decide (V.str (wyL false)=V.str "across")=true by decide +kernel]
    rfl
  clear tv2 pt2 b2
  clear H2
  rintro sz0 H2 s0 s58 tv2 pt2 b2
  refine aj (λ R=>∀ (so:Addr) (H':Hp),H' so=some (.tup [.int (if dn=true then sz0 else W),.int (if dn=true then h1 else sz0)])->TrV H' T v->PotC H' p->But p H H'->R [some (.ref p),some (.ref t),some (.int u),some (.int tn),some (.int W),some (.int h1),some v,some (.int (0 + (i:Int))),some (.str (wyL dn)),some (.int sz0),some (.int (if dn=true then W else h1)),some (.ref so),vc] H') (λ Dd hR=>?_) ?_
  ·refine ⟨_,Y,_,Y,zS2,λ a1 ha1=>?_⟩
   obtain ⟨H3,e3,k3,n3,s3,b3,pt3⟩:=cg (o:=.tup [.int sz0,.int h1]) b2 pt2 ha1
   rw [show upd H2 a1 _=H3 from e3]
   refine ⟨_,Y,_,Y,zS2,λ a2 ha2=>?_⟩
   obtain ⟨H4,e4,k4,n4,s4,b4,pt4⟩:=cg (o:=.tup [.int W,.int sz0]) b3 pt3 ha2
   rw [show upd H3 a2 _=H4 from e4]
   refine ⟨zS2,λ ol hol=>?_⟩
   obtain ⟨H5,e5,k5,n5,s5,b5,pt5⟩:=cg (o:=.lst [.ref a1,.ref a2]) b4 pt4 hol
   rw [show upd H4 ol _=H5 from e5]
   have tv5:=TrV.keep (λ a xs e=>s5 _ _ (s4 _ _ (s3 _ _ e))) T tv2
   refine ⟨_,Y,Y,.inr ⟨_,Y,ol,_,_,.ref (if dn=true then a1 else a2),Y,Y,SqL.of k5,?_,hR _ _ ?_ tv5 pt5 b5⟩⟩
   ·cases dn with
    | true =>
     rw [show decide (V.str (wyL true)=V.str "across")=false by decide +kernel]
     rfl
    | false =>
     rw [show decide (V.str (wyL false)=V.str "across")=true by decide +kernel]
     rfl
   ·cases dn with
    | true=>exact s5 _ _ (s4 _ _ k3)
    | false=>exact s5 _ _ k4
  clear tv2 pt2 b2
  clear H2
  rintro so H2 hso tv2 pt2 b2
  refine aj (λ R=>∀ (lf:V) (TL:Tr) (H':Hp),TrV H' TL lf->okU b ks (if dn=true then sz0 else W) (if dn=true then h1 else sz0) TL->lvN TL=1->TrV H' T v->PotC H' p->But p H H'->R [some (.ref p),some (.ref t),some (.int u),some (.int tn),some (.int W),some (.int h1),some v,some (.int (0 + (i:Int))),some (.str (wyL dn)),some (.int sz0),some (.int (if dn=true then W else h1)),some (.ref so),some lf] H') (λ Dd hR=>?_) ?_
  ·refine ⟨_,Y,_,Y,_,Y,so,_,0,_,Y,Y,SqT.of hso,Y,_,Y,so,_,1,_,Y,Y,SqT.of hso,Y,p,t,kl,b,_,_,ks,Y,pt2,sh.but nk pt b2,nk,k8,gk,?_,?_,λ lf TL H3 tl ok ln _ pt3 b3=>hR lf TL _ tl (ok b) ln (TrV.keep (λ a xs e=>ef b3 pt2 e) T tv2) pt3 (b2.trans b3)⟩
   ·split <;> omega
   ·split <;> omega
  clear tv2 pt2 b2 hso
  clear H2
  rintro lf TL H2 tl2 okl ll1 tv2 pt2 b2
  obtain ⟨kr,ht,_⟩:=id (sh.but nk pt b2)
  refine aj (λ R=>R [some (.ref p),some (.ref t),some (.int u),some (.int tn),some (.int (if dn=true then W + sz0 + b else W)),some (.int (if dn=true then h1 else h1 + sz0 + b)),some v,some (.int (0 + (i:Int))),some (.str (wyL dn)),some (.int sz0),some (.int (if dn=true then W else h1)),some (.ref so),some lf] H2) (λ Dd hR=>?_) ?_
  ·refine ⟨_,Y,Y,_,Y,?_⟩
   cases dn with
   | true=>exact bY (by decide +kernel) ⟨_,rfl,_,rfl,_,_,rfl,rfl,_,rfl,t,_,0,_,rfl,rfl,SqT.of ht,rfl,_,_,rfl,rfl,hR⟩
   | false=>exact bJ (by decide +kernel) ⟨_,rfl,_,rfl,_,_,rfl,rfl,_,rfl,t,_,0,_,rfl,rfl,SqT.of ht,rfl,_,_,rfl,rfl,hR⟩
  skip
  refine ⟨_,Y,_,Y,_,Y,_,Y,zS4,λ a1 ha1=>?_⟩
  obtain ⟨H3,e3,k3,n3,s3,b3,pt3⟩:=cg (o:=.tup [.str (wyL dn),.int sz0,lf,v]) b2 pt2 ha1
  rw [show upd H2 a1 _=H3 from e3]
  refine ⟨_,Y,_,Y,_,Y,_,Y,zS4,λ a2 ha2=>?_⟩
  obtain ⟨H4,e4,k4,n4,s4,b4,pt4⟩:=cg (o:=.tup [.str (wyL dn),.int (if dn=true then W else h1),v,lf]) b3 pt3 ha2
  rw [show upd H3 a2 _=H4 from e4]
  refine ⟨zS2,λ ol hol=>?_⟩
  obtain ⟨H5,e5,k5,n5,s5,b5,pt5⟩:=cg (o:=.lst [.ref a1,.ref a2]) b4 pt4 hol
  rw [show upd H4 ol _=H5 from e5]
  refine ⟨_,Y,p,2,Y,pt5,by decide,by decide,λ z H6 z0 z1 pt6 b6=>?_⟩
  have k6:∀a xs,H2 a=some (.tup xs)->H6 a=some (.tup xs):=λ a xs e=>ef b6 pt5 (s5 _ _ (s4 _ _ (s3 _ _ e)))
  have tv6:=TrV.keep k6 T tv2
  have tl6:=TrV.keep k6 TL tl2
  have b06:But p H H6:=λ c o n e=>b6 _ _ n (s5 _ _ (s4 _ _ (s3 _ _ (b2 _ _ n e))))
  have W':1<=(if dn=true then W + sz0 + b else W):=by split <;> omega
  have H'':1<=(if dn=true then h1 else h1 + sz0 + b):=by split <;> omega
  have W2:(if dn=true then W + sz0 + b else W) < 10 ^ 58 + ((i + 1:Nat):Int) * (2 * 10 ^ 58):=by split <;> omega
  have H2':(if dn=true then h1 else h1 + sz0 + b) < 10 ^ 58 + ((i + 1:Nat):Int) * (2 * 10 ^ 58):=by split <;> omega
  have zz:z=0\/z=1:=by omega
  rcases zz with rfl | rfl
  ·refine ⟨ol,_,_,_,Y,Y,SqL.of (b6 _ _ n5 k5),Y,_,_,.ref a1,.cut dn sz0 TL T,_,_,_,_,_,_,Y,W',H'',W2,H2',⟨a1,lf,v,Y,ef b6 pt5 (s5 _ _ (s4 _ _ k3)),tl6,tv6⟩,?_,by show lvN TL + lvN T<=_; omega,pt6,b06⟩
   refine ⟨s0,?_⟩
   cases dn with
   | true =>
    show sz0 + b < W + sz0 + b/\okU b ks sz0 h1 TL/\okU b ks (W + sz0 + b - sz0 - b) h1 T
    rw [show W + sz0 + b - sz0 - b=W by omega]
    exact ⟨by omega,okl,ok1⟩
   | false =>
    show sz0 + b < h1 + sz0 + b/\okU b ks W sz0 TL/\okU b ks W (h1 + sz0 + b - sz0 - b) T
    rw [show h1 + sz0 + b - sz0 - b=h1 by omega]
    exact ⟨by omega,okl,ok1⟩
  ·refine ⟨ol,_,_,_,Y,Y,SqL.of (b6 _ _ n5 k5),Y,_,_,.ref a2,.cut dn (if dn=true then W else h1) T TL,_,_,_,_,_,_,Y,W',H'',W2,H2',⟨a2,v,lf,Y,ef b6 pt5 (s5 _ _ k4),tv6,tl6⟩,?_,by show lvN T + lvN TL<=_; omega,pt6,b06⟩
   cases dn with
   | true =>
    show 1<=W/\W + b < W + sz0 + b/\okU b ks W h1 T/\okU b ks (W + sz0 + b - W - b) h1 TL
    rw [show W + sz0 + b - W - b=sz0 by omega]
    exact ⟨w0,by omega,ok1,okl⟩
   | false =>
    show 1<=h1/\h1 + b < h1 + sz0 + b/\okU b ks W h1 T/\okU b ks W (h1 + sz0 + b - h1 - b) TL
    rw [show h1 + sz0 + b - h1 - b=sz0 by omega]
    exact ⟨h0,by omega,ok1,okl⟩
 clear tv okv lv1 pt1 b1 w0 w58 h0 h58
 clear H1 W h1 v T
 intro _ H1 hI9
 refine bH λ G9 k9=>?_
 obtain ⟨i,i44,W,h1,v,T,v7,v8,v9,va,vb,vc,rfl,w0,h0,w59,h59,tv1,ok1,lv1,pt1,b1⟩:=hI9
 refine k9 ?_
 have im:(i:Int) * (2 * 10 ^ 58)<=44 * (2 * 10 ^ 58):=Int.mul_le_mul_of_nonneg_right (by omega) (by omega)
 refine ⟨_,Y,_,Y,_,Y,zS3,λ r hr=>?_⟩
 obtain ⟨H2,e2,k2,n2,s2,b2,pt2⟩:=cg (o:=.tup [.int W,.int h1,v]) b1 pt1 hr
 rw [show upd H1 r _=H2 from e2]
 exact q r W h1 v T H2 k2 (TrV.keep (λ a xs e=>s2 _ _ e) T tv1) ok1 w0 h0 (by omega) (by omega) (by omega) pt2 b2
end
def Sm (i:Int):Prop:=0<=i/\i < 10 ^ 61
mutual
inductive Fit:PyData->Prop
 | bool (b:Bool):Fit (.bool b)
 | int {i:Int}:Sm i->Fit (.int i)
 | str {z:Str}:(PyData.str z).showable=true->(PyData.str z).shown.length<=90->Fit (.str z)
 | list {ds:List PyData}:Fits ds->Fit (.list ds)
 | tuple {ds:List PyData}:Fits ds->Fit (.tuple ds)
inductive Fits:List PyData->Prop
 | nil:Fits []
 | cons {d:PyData} {ds:List PyData}:Fit d->Fits ds->Fits (d :: ds)
end
theorem rN (dn:Bool):Fit (.str (wyL dn)):=by cases dn <;> exact .str (by decide +kernel) (by decide +kernel)
theorem rO:Fit (.str "rest"):=.str (by decide +kernel) (by decide +kernel)
theorem oA:Fit (.str "piece"):=.str (by decide +kernel) (by decide +kernel)
mutual
theorem Fit.sh:∀ {d:PyData},Fit d->d.showable=true/\d.hasDict=false/\d.shown.length + 2<=100 * wt d
 | _,.bool b=>by cases b <;> exact ⟨by decide +kernel,by decide +kernel,by decide +kernel⟩
 | _,.int (i:=i) ⟨h0,h1⟩=>by
  have hs:Short i:=by
   have:(10:Int) ^ 61 < 10 ^ 62:=by decide
   have e:((10 ^ 62:Nat):Int)=10 ^ 62:=by decide
   unfold Short
   omega
  have:=hs.len
  exact ⟨by simp [PyData.showable,hs.log],by simp [PyData.hasDict],by show _<=100 * 1; omega⟩
 | _,.str (z:=z) h1 h2=>⟨h1,by simp [PyData.hasDict],by
  show _<=100 * (z.length + 1)
  omega⟩
 | _,.list (ds:=ds) h=>by
  obtain ⟨h1,h2,h3,h4⟩:=h.sh
  have:=listText_len_le (PyData.shownAll ds)
  refine ⟨by simp only [PyData.showable,h1],by simp only [PyData.hasDict,h2],?_⟩
  show (PyData.list ds).shown.length + 2<=100 * (wts ds + 1)
  simp only [PyData.shown]
  omega
 | _,.tuple (ds:=ds) h=>by
  obtain ⟨h1,h2,h3,h4⟩:=h.sh
  have:=tupleText_len_le (PyData.shownAll ds)
  refine ⟨by simp only [PyData.showable,h1],by simp only [PyData.hasDict,h2],?_⟩
  show (PyData.tuple ds).shown.length + 2<=100 * (wts ds + 1)
  simp only [PyData.shown]
  omega
theorem Fits.sh:∀ {ds:List PyData},Fits ds->PyData.showableAll ds=true/\PyData.hasDictAll ds=false/\((PyData.shownAll ds).map (·.length)).sum + 2 * ds.length<=100 * wts ds/\(PyData.shownAll ds).length=ds.length
 | _,.nil=>⟨Y,Y,Nat.le_refl _,Y⟩
 | _,.cons (d:=d) (ds:=ds) a r=>by
  obtain ⟨d1,d2,d3⟩:=a.sh
  obtain ⟨e1,e2,e3,e4⟩:=r.sh
  refine ⟨by simp only [PyData.showableAll,d1,e1,Bool.and_self],by simp only [PyData.hasDictAll,d2,e2,Bool.or_self],?_,by simp only [PyData.shownAll,List.length_cons]; omega⟩
  show _<=100 * (wt d + wts ds)
  simp only [PyData.shownAll,List.map_cons,List.sum_cons,List.length_cons]
  omega
end
theorem Fit.ok {d:PyData} (h:Fit d) (z:wt d<=100000):d.showable=true/\d.hasDict=false/\d.shown.length<=sizeLine:=by
 obtain ⟨h1,h2,h3⟩:=h.sh
 have:(10000000:Nat)<=sizeLine:=by decide
 exact ⟨h1,h2,by omega⟩
mutual
theorem Lsd.fit:∀ {d d':PyData},Lsd d d'->Fit d->Fit d'
 | _,_,.same _,h=>h
 | _,_,.row r,h=>by
  cases h with
  | tuple hs=>exact .list (r.fit hs)
theorem Lsds.fit:∀ {d d':List PyData},Lsds d d'->Fits d->Fits d'
 | _,_,.nil,h=>h
 | _,_,.cons a r,h=>by
  cases h with
  | cons h1 h2=>exact .cons (a.fit h1) (r.fit h2)
end
mutual
theorem Dt.datF {K:PySem.W.Frag} {p:Addr} {H:Hp}:∀ {v:V} {d:PyData},Dt p H v d->Fit d->DatV K H v d
 | _,_,.non,f=>by cases f
 | _,_,.bl b,_=>.bl b
 | _,_,.int i,_=>.int i
 | _,_,.str z,_=>.str z
 | _,_,.lst n h r,f=>by
  cases f with
  | list fs=>exact .lst (SqL.of h) (r.datF fs)
 | _,_,.tup h r,f=>by
  cases f with
  | tuple fs=>exact .tup (SqT.of h) (r.datF fs)
 | _,_,.emp h,f=>by cases f
theorem Dts.datF {K:PySem.W.Frag} {p:Addr} {H:Hp}:∀ {vs:List V} {ds:List PyData},Dts p H vs ds->Fits ds->DatVs K H vs ds
 | _,_,.nil,_=>.nil
 | _,_,.cons a r,f=>by
  cases f with
  | cons f1 f2=>exact .cons (a.datF f1) (r.datF f2)
end
theorem cr {b:Int} {ks:List Kd} (b0:0<=b) (gk:∀k∈ks,Good k) (k8:ks.length<=8):∀ (t:Tr) {w h:Int},okU b ks w h t->w < 10 ^ 60->h < 10 ^ 60->Fit (toD t)
 | .rest,_,_,_,_,_=>.tuple (.cons rO .nil)
 | .piece i c x y,w,h,⟨k,hk,_,x0,y0,hx,hy⟩,w6,h6=>by
  have e:(10:Int) ^ 60 < 10 ^ 61:=by decide
  have e2:(100:Int) < 10 ^ 61:=by decide
  have hg:=gk k (List.mem_of_getElem? hk)
  have hi:=(List.getElem?_eq_some_iff.mp hk).1
  have s1:1<=sd1 k c/\1<=sd2 k c:=by
   obtain ⟨g1,g2,_⟩:=hg
   cases c
   ·exact ⟨g1,g2⟩
   ·exact ⟨g2,g1⟩
  exact .tuple (.cons oA (.cons (.int ⟨by omega,by omega⟩) (.cons (.bool c) (.cons (.int ⟨x0,by omega⟩) (.cons (.int ⟨y0,by omega⟩) .nil)))))
 | .cut true p l r,w,h,⟨p1,hp,hl,hr⟩,w6,h6=>by
  have e:(10:Int) ^ 60 < 10 ^ 61:=by decide
  exact .tuple (.cons (rN true) (.cons (.int ⟨by omega,by omega⟩) (.cons (cr b0 gk k8 l hl (by omega) h6) (.cons (cr b0 gk k8 r hr (by omega) h6) .nil))))
 | .cut false p l r,w,h,⟨p1,hp,hl,hr⟩,w6,h6=>by
  have e:(10:Int) ^ 60 < 10 ^ 61:=by decide
  exact .tuple (.cons (rN false) (.cons (.int ⟨by omega,by omega⟩) (.cons (cr b0 gk k8 l hl w6 (by omega)) (.cons (cr b0 gk k8 r hr w6 (by omega)) .nil))))
def wtR (l:List (Int×Tl)):Nat:=(l.map λ z=>wt (tlD z.2) + 2).sum
theorem mX (a b:List (Int×Tl)):wtR (a ++ b)=wtR a + wtR b:=by unfold wtR; rw [List.map_append,List.sum_append]
theorem rP {a b:List (Int×Tl)} (h:a.Perm b):wtR a=wtR b:=(h.map _).sum_nat
theorem rQ:∀l:List (Int×Tl),wts (bm (ofL l))=wtR l
 | []=>rfl
 | z :: l=>by
  have:=rQ l
  show (1 + (wt (tlD z.2) + 0) + 1) + wts (bm (ofL l))=(wt (tlD z.2) + 2) + wtR l
  omega
theorem mY:∀ {l:List (Int×Tl)},(∀z∈l,Sm z.1/\Fit (tlD z.2))->Fits (bm (ofL l))
 | [],_=>.nil
 | z :: l,h=>.cons (.tuple (.cons (.int (h z List.mem_cons_self).1) (.cons (h z List.mem_cons_self).2 .nil))) (mY λ y hy=>h y (List.mem_cons_of_mem _ hy))
theorem jB {dn:Bool} {l:List (Int×Tl)} (h:∀z∈l,Sm z.1/\Fit (tlD z.2)):Fit (tlD (.row dn (ofL (srt l)))) :=
 .tuple (.cons (rN dn) (.cons (.tuple (mY λ z hz=>h z ((bZ l).mem_iff.mp hz))) .nil))
theorem lM (dn:Bool) (l:List (Int×Tl)):wt (tlD (.row dn (ofL (srt l))))<=wtR l + 9:=by
 have h1:wt (.str (wyL dn))<=7:=by cases dn <;> decide +kernel
 have h2:=rQ (srt l)
 rw [rP (bZ l)] at h2
 show wt (.str (wyL dn)) + ((wts (bm (ofL (srt l))) + 1) + 0) + 1<=_
 omega
theorem hZ (b:Int):∀ (t:Tr) (w h:Int),wt (tlD (tel b t w h).1) + 7<=20 * szT t/\wtR (tel b t w h).2.1 + 5<=20 * szT t/\wtR (tel b t w h).2.2 + 5<=20 * szT t
 | .rest,_,_=>⟨by show wt (.tuple [.str "rest"]) + 7<=20; decide +kernel,by show wt (.tuple [.str "rest"]) + 2 + 0 + 5<=20; decide +kernel,by show wt (.tuple [.str "rest"]) + 2 + 0 + 5<=20; decide +kernel⟩
 | .piece i c x y,_,_=>by
  have e:wt (tlD (.piece i c x y))=11:=by
   have:wt (.str "piece")=6:=by decide +kernel
   show wt (.str "piece") + (1 + (1 + (1 + (1 + 0)))) + 1=11
   omega
  refine ⟨?_,?_,?_⟩
  ·show wt (tlD (.piece i c x y)) + 7<=20; omega
  ·show wt (tlD (.piece i c x y)) + 2 + 0 + 5<=20; omega
  ·show wt (tlD (.piece i c x y)) + 2 + 0 + 5<=20; omega
 | .cut true p l r,w,h=>by
  have h1:=(hZ b l p h).2.1
  have h2:=(hZ b r (w - p - b) h).2.1
  have h3:=lM true ((tel b l p h).2.1 ++ (tel b r (w - p - b) h).2.1)
  have h4:=mX (tel b l p h).2.1 (tel b r (w - p - b) h).2.1
  refine ⟨?_,?_,?_⟩
  ·show wt (tlD (.row true _)) + 7<=20 * (szT l + szT r + 1); omega
  ·show wtR (_ ++ _) + 5<=20 * (szT l + szT r + 1); omega
  ·show wt (tlD (.row true _)) + 2 + 0 + 5<=20 * (szT l + szT r + 1); omega
 | .cut false p l r,w,h=>by
  have h1:=(hZ b l w p).2.2
  have h2:=(hZ b r w (h - p - b)).2.2
  have h3:=lM false ((tel b l w p).2.2 ++ (tel b r w (h - p - b)).2.2)
  have h4:=mX (tel b l w p).2.2 (tel b r w (h - p - b)).2.2
  refine ⟨?_,?_,?_⟩
  ·show wt (tlD (.row false _)) + 7<=20 * (szT l + szT r + 1); omega
  ·show wt (tlD (.row false _)) + 2 + 0 + 5<=20 * (szT l + szT r + 1); omega
  ·show wtR (_ ++ _) + 5<=20 * (szT l + szT r + 1); omega
theorem ff {b:Int} {ks:List Kd} (b0:0<=b) (gk:∀k∈ks,Good k) (k8:ks.length<=8):∀ (t:Tr) {w h:Int},okU b ks w h t->0<=w->0<=h->w < 10 ^ 60->h < 10 ^ 60->Fit (tlD (tel b t w h).1)/\(∀z∈(tel b t w h).2.1,Sm z.1/\Fit (tlD z.2))/\(∀z∈(tel b t w h).2.2,Sm z.1/\Fit (tlD z.2))
 | .rest,w,h,ok,w0,h0,w6,h6=>by
  have e:(10:Int) ^ 60 < 10 ^ 61:=by decide
  have f:Fit (tlD .rest):=cr b0 gk k8 .rest ok w6 h6
  exact ⟨f,λ z hz=>by rw [List.mem_singleton.mp hz]; exact ⟨⟨w0,by show w < _; omega⟩,f⟩,λ z hz=>by rw [List.mem_singleton.mp hz]; exact ⟨⟨h0,by show h < _; omega⟩,f⟩⟩
 | .piece i c x y,w,h,ok,w0,h0,w6,h6=>by
  have e:(10:Int) ^ 60 < 10 ^ 61:=by decide
  have f:Fit (tlD (.piece i c x y)):=cr b0 gk k8 (.piece i c x y) ok w6 h6
  exact ⟨f,λ z hz=>by rw [List.mem_singleton.mp hz]; exact ⟨⟨w0,by show w < _; omega⟩,f⟩,λ z hz=>by rw [List.mem_singleton.mp hz]; exact ⟨⟨h0,by show h < _; omega⟩,f⟩⟩
 | .cut true p l r,w,h,⟨p1,hp,hl,hr⟩,w0,h0,w6,h6=>by
  have e:(10:Int) ^ 60 < 10 ^ 61:=by decide
  have h1:=(ff b0 gk k8 l hl (by omega) h0 (by omega) h6).2.1
  have h2:=(ff b0 gk k8 r hr (by omega) h0 (by omega) h6).2.1
  have all:∀z∈(tel b l p h).2.1 ++ (tel b r (w - p - b) h).2.1,Sm z.1/\Fit (tlD z.2):=λ z hz=>(List.mem_append.mp hz).elim (h1 z) (h2 z)
  have f:=jB (dn:=true) all
  exact ⟨f,all,λ z hz=>by rw [List.mem_singleton.mp hz]; exact ⟨⟨h0,by show h < _; omega⟩,f⟩⟩
 | .cut false p l r,w,h,⟨p1,hp,hl,hr⟩,w0,h0,w6,h6=>by
  have e:(10:Int) ^ 60 < 10 ^ 61:=by decide
  have h1:=(ff b0 gk k8 l hl w0 (by omega) w6 (by omega)).2.2
  have h2:=(ff b0 gk k8 r hr w0 (by omega) w6 (by omega)).2.2
  have all:∀z∈(tel b l w p).2.2 ++ (tel b r w (h - p - b)).2.2,Sm z.1/\Fit (tlD z.2):=λ z hz=>(List.mem_append.mp hz).elim (h1 z) (h2 z)
  have f:=jB (dn:=false) all
  exact ⟨f,λ z hz=>by rw [List.mem_singleton.mp hz]; exact ⟨⟨w0,by show w < _; omega⟩,f⟩,all⟩
theorem TlV.ref {H:Hp}:∀ (t:Tl) {v:V},TlV H t v->∃a,v=.ref a
 | .rest,_,h=>by rw [TlV] at h; exact ⟨_,h.choose_spec.1⟩
 | .piece ..,_,h=>by rw [TlV] at h; exact ⟨_,h.choose_spec.1⟩
 | .row ..,_,h=>by
  rw [TlV] at h
  obtain ⟨a,q,xs,e,_⟩:=h
  exact ⟨a,e⟩
theorem iP {b:Int} {ks:List Kd}:∀ (t:Tr) {w h:Int},okU b ks w h t->okT b ks w h t
 | .rest,_,_,_=>trivial
 | .piece i c x y,w,h,⟨k,hk,hm,x0,y0,hx,hy⟩=>by
  refine ⟨k,hk,?_,x0,y0,hx,hy⟩
  obtain ⟨_,k',hk',hc⟩:=lK hm
  have hk':ks[i]? = some k':=hk'
  rw [hk] at hk'
  cases hk'
  unfold mT
  rcases hc with hc | hc
  ·have hc:c=false:=hc
   rw [hc]
   split <;> simp
  ·rw [if_pos hc]
   cases c <;> simp
 | .cut true p l r,w,h,⟨p1,hp,hl,hr⟩=>⟨p1,hp,iP l hl,iP r hr⟩
 | .cut false p l r,w,h,⟨p1,hp,hl,hr⟩=>⟨p1,hp,iP l hl,iP r hr⟩
theorem jC:∀t:Tr,wt (toD t)<=11 * szT t
 | .rest=>by decide +kernel
 | .piece .. => by
  have:wt (.str "piece")=6:=by decide +kernel
  show wt (.str "piece") + (1 + (1 + (1 + (1 + 0)))) + 1<=11 * 1
  omega
 | .cut dn p l r=>by
  have h1:=jC l
  have h2:=jC r
  have h3:wt (.str (if dn=true then "down" else "across"))<=7:=by cases dn <;> decide +kernel
  show wt (.str (if dn=true then "down" else "across")) + (1 + (wt (toD l) + (wt (toD r) + 0))) + 1<=11 * (szT l + szT r + 1)
  omega
def tlW (dn:Bool):Tl->Bool
 | .row d _=>d == dn
 | _=>false
def toL:Tls->List (Int×Tl)
 | .nil=>[]
 | .cons n t r=>(n,t) :: toL r
theorem rR (n:Int) (t:Tl) (r:Tls):toL (.cons n t r)=(n,t) :: toL r:=by rw [toL]
theorem dk:∀r:Tls,ofL (toL r)=r
 | .nil=>rfl
 | .cons n t r=>by rw [toL,ofL,dk r]
theorem jD:∀l:List (Int×Tl),toL (ofL l)=l
 | []=>rfl
 | z :: l=>by rw [ofL,toL,jD l]
def bf (b:Int) (l:List (Int×Tl)):Int:=(l.map (·.1)).sum + b * (l.length - 1)
theorem cw (b:Int) (z:Int×Tl):bf b [z]=z.1:=by
 show z.1 + 0 + b * ((1:Nat) - 1)=z.1
 rw [show (((1:Nat):Int) - 1)=0 by omega,Int.mul_zero]; omega
theorem fQ (b:Int) (z y:Int×Tl) (l:List (Int×Tl)):bf b (z :: y :: l)=z.1 + b + bf b (y :: l):=by
 show z.1 + ((y :: l).map (·.1)).sum + b * (((y :: l).length + 1:Nat) - 1)=z.1 + b + (((y :: l).map (·.1)).sum + b * ((y :: l).length - 1))
 rw [Int.natCast_add,Int.mul_sub,Int.mul_sub,Int.mul_add]
 omega
theorem iQ (b:Int) {l l':List (Int×Tl)}:bf b (l ++ l')=bf b l + b + bf b l':=by
 unfold bf
 rw [List.map_append,List.sum_append,List.length_append,Int.natCast_add,Int.mul_sub,Int.mul_sub,Int.mul_sub,Int.mul_add]
 omega
theorem oB {l l':List Int} (h:l.Perm l'):l.sum=l'.sum:=by
 induction h with
 | nil=>rfl
 | cons x _ ih=>rw [List.sum_cons,List.sum_cons,ih]
 | swap x y l=>rw [List.sum_cons,List.sum_cons,List.sum_cons,List.sum_cons]; omega
 | trans _ _ h1 h2=>rw [h1,h2]
theorem lN (b:Int) {l l':List (Int×Tl)} (h:l.Perm l'):bf b l=bf b l':=by
 unfold bf
 rw [oB (h.map _),h.length_eq]
theorem fR {b:Int} (b0:0<=b):∀ {l:List (Int×Tl)},l≠[]->(∀z∈l,1<=z.1)->1<=bf b l
 | [],h,_=>absurd rfl h
 | [z],_,h=>by rw [cw]; exact h z List.mem_cons_self
 | z :: y :: l,_,h=>by
  have:=fR b0 (l:=y :: l) (by simp) λ x hx=>h x (List.mem_cons_of_mem _ hx)
  have:=h z List.mem_cons_self
  rw [fQ]; omega
mutual
def okL (b:Int) (ks:List Kd):Tl->Int->Int->Prop
 | .rest,_,_=>True
 | .piece i c x y,w,h=>okU b ks w h (.piece i c x y)
 | .row dn r,w,h=>2<=(toL r).length/\bf b (toL r)=(if dn=true then w else h)/\(toL r).Pairwise (λ x y=>aP (bU y) (bU x)=false)/\gi b ks dn r w h
def gi (b:Int) (ks:List Kd) (dn:Bool):Tls->Int->Int->Prop
 | .nil,_,_=>True
 | .cons n t r,w,h=>1<=n/\tlW dn t=false/\okL b ks t (if dn=true then n else w) (if dn=true then h else n)/\gi b ks dn r w h
end
def okI (b:Int) (ks:List Kd) (dn:Bool) (w h:Int) (z:Int×Tl):Prop:=1<=z.1/\tlW dn z.2=false/\okL b ks z.2 (if dn=true then z.1 else w) (if dn=true then h else z.1)
theorem mZ {b:Int} {ks:List Kd} {dn:Bool} {w h:Int}:∀ {l:List (Int×Tl)},(∀z∈l,okI b ks dn w h z)->gi b ks dn (ofL l) w h
 | [],_=>by rw [ofL,gi]; trivial
 | z :: l,hz=>by
  rw [ofL,gi]
  obtain ⟨h1,h2,h3⟩:=hz z List.mem_cons_self
  exact ⟨h1,h2,h3,mZ λ y hy=>hz y (List.mem_cons_of_mem _ hy)⟩
theorem fg {b:Int} {ks:List Kd} {dn:Bool} {w h:Int}:∀ {r:Tls},gi b ks dn r w h->∀z∈toL r,okI b ks dn w h z
 | .nil,_,z,hz=>by rw [toL] at hz; cases hz
 | .cons n t r,ho,z,hz=>by
  rw [gi] at ho
  rw [toL] at hz
  obtain ⟨h1,h2,h3,h4⟩:=ho
  rcases List.mem_cons.mp hz with e | hz
  ·rw [e]; exact ⟨h1,h2,h3⟩
  ·exact fg h4 z hz
mutual
def aQ:Tl->Tr
 | .rest=>.rest
 | .piece i c x y=>.piece i c x y
 | .row dn r=>trs dn r
def trs (dn:Bool):Tls->Tr
 | .nil=>.rest
 | .cons n t r=>match r with
  | .nil=>aQ t
  | .cons .. => .cut dn n (aQ t) (trs dn r)
end
theorem jE (dn:Bool) (n:Int) (t:Tl):trs dn (.cons n t .nil)=aQ t:=by rw [trs]
theorem dY (dn:Bool) (n m:Int) (t u:Tl) (r:Tls):trs dn (.cons n t (.cons m u r))=.cut dn n (aQ t) (trs dn (.cons m u r)):=by rw [trs]
theorem fh (dn:Bool) (r:Tls):aQ (.row dn r)=trs dn r:=by rw [aQ]
theorem rS {b:Int} {ks:List Kd} (e:Bool):∀ {t:Tl} {w h:Int},okL b ks t w h->isW e (aQ t)=tlW e t
 | .rest,_,_,_=>by rw [aQ]; rfl
 | .piece ..,_,_,_=>by rw [aQ]; rfl
 | .row dn .nil,_,_,h=>by rw [okL,toL] at h; exact absurd h.1 (by decide)
 | .row dn (.cons n t .nil),_,_,h=>by rw [okL,toL,toL] at h; exact absurd h.1 (by simp)
 | .row dn (.cons n t (.cons m u r)),_,_,h=>by rw [fh,dY]; rfl
mutual
theorem kD {b:Int} {ks:List Kd} (b0:0<=b):∀ (t:Tl) {w h:Int},okL b ks t w h->okU b ks w h (aQ t)/\di b (aQ t) w h=t
 | .rest,_,_,_=>by rw [aQ]; exact ⟨trivial,Y⟩
 | .piece ..,_,_,ho=>by rw [okL] at ho; rw [aQ]; exact ⟨ho,Y⟩
 | .row dn .nil,_,_,h=>by rw [okL,toL] at h; exact absurd h.1 (by decide)
 | .row dn (.cons n t .nil),_,_,h=>by rw [okL,toL,toL] at h; exact absurd h.1 (by simp)
 | .row dn (.cons n t (.cons m u r)),w,h,ho=>by
  rw [okL] at ho
  obtain ⟨_,hs,hw,ho⟩:=ho
  obtain ⟨h1,h2⟩:=rV b0 dn (.cons m u r) n t ho
  rw [hs] at h1 h2
  have ew:(if dn=true then (if dn=true then w else h) else w)=w:=by cases dn <;> rfl
  have eh:(if dn=true then h else (if dn=true then w else h))=h:=by cases dn <;> rfl
  rw [ew,eh] at h1 h2
  rw [fh]
  refine ⟨h2,?_⟩
  rw [dY,hJ,<- dY,h1,<- fO (.refl _) hw,dk]
termination_by t=>sizeOf t
decreasing_by all_goals (simp; try omega)
theorem rV {b:Int} {ks:List Kd} (b0:0<=b) (dn:Bool):∀ (r:Tls) (n:Int) (t:Tl) {w h:Int},gi b ks dn (.cons n t r) w h ->
  bB b dn (trs dn (.cons n t r)) (if dn=true then bf b (toL (.cons n t r)) else w) (if dn=true then h else bf b (toL (.cons n t r)))=toL (.cons n t r) /\
  okU b ks (if dn=true then bf b (toL (.cons n t r)) else w) (if dn=true then h else bf b (toL (.cons n t r))) (trs dn (.cons n t r))
 | .nil,n,t,w,h,ho=>by
  rw [gi] at ho
  obtain ⟨h1,h2,h3,_⟩:=ho
  obtain ⟨g1,g2⟩:=kD b0 t h3
  have e:=rS dn h3
  rw [h2] at e
  rw [jE,toL,toL,cw,dL e,g2]
  exact ⟨by cases dn <;> rfl,g1⟩
 | .cons m u r,n,t,w,h,ho=>by
  rw [gi] at ho
  obtain ⟨h1,h2,h3,h4⟩:=ho
  obtain ⟨g1,g2⟩:=kD b0 t h3
  have e:=rS dn h3
  rw [h2] at e
  obtain ⟨k1,k2⟩:=rV b0 dn r m u h4
  have pos:=fR b0 (l:=toL (.cons m u r)) (by rw [toL]; simp) λ z hz=>(fg h4 z hz).1
  have es:bf b (toL (.cons n t (.cons m u r)))=n + b + bf b (toL (.cons m u r)):=by
   rw [toL,toL]; exact fQ b _ _ _
  rw [es,dY,jy,rR n t (.cons m u r)]
  generalize bf b (toL (.cons m u r))=s at k1 k2 pos
  cases dn with
  | true =>
   have k1:bB b true (trs true (.cons m u r)) s h=toL (.cons m u r):=k1
   have k2:okU b ks s h (trs true (.cons m u r)):=k2
   have g1:okU b ks n h (aQ t):=g1
   have g2:di b (aQ t) n h=t:=g2
   refine ⟨?_,?_⟩
   ·show bB b true (aQ t) n h ++ bB b true (trs true (.cons m u r)) (n + b + s - n - b) h=_
    rw [show n + b + s - n - b=s by omega,k1,dL e,g2]; rfl
   ·show 1<=n/\n + b < n + b + s/\okU b ks n h (aQ t)/\okU b ks (n + b + s - n - b) h (trs true (.cons m u r))
    rw [show n + b + s - n - b=s by omega]
    exact ⟨h1,by omega,g1,k2⟩
  | false =>
   have k1:bB b false (trs false (.cons m u r)) w s=toL (.cons m u r):=k1
   have k2:okU b ks w s (trs false (.cons m u r)):=k2
   have g1:okU b ks w n (aQ t):=g1
   have g2:di b (aQ t) w n=t:=g2
   refine ⟨?_,?_⟩
   ·show bB b false (aQ t) w n ++ bB b false (trs false (.cons m u r)) w (n + b + s - n - b)=_
    rw [show n + b + s - n - b=s by omega,k1,dL e,g2]; rfl
   ·show 1<=n/\n + b < n + b + s/\okU b ks w n (aQ t)/\okU b ks w (n + b + s - n - b) (trs false (.cons m u r))
    rw [show n + b + s - n - b=s by omega]
    exact ⟨h1,by omega,g1,k2⟩
termination_by r _ t=>sizeOf r + sizeOf t + 1
decreasing_by all_goals (simp; try omega)
end
theorem rW {b:Int} {ks:List Kd} {dn:Bool} {w h:Int} {l:List (Int×Tl)} (h2:2<=l.length) (hs:bf b l=(if dn=true then w else h)) (hz:∀z∈l,okI b ks dn w h z):okL b ks (.row dn (ofL (srt l))) w h:=by
 rw [okL,jD]
 exact ⟨by rw [(bZ l).length_eq]; exact h2,by rw [lN b (bZ l)]; exact hs,rE l,mZ λ z hm=>hz z ((bZ l).mem_iff.mp hm)⟩
theorem ia {b:Int} {ks:List Kd} (b0:0<=b):∀ (t:Tr) {w h:Int},okU b ks w h t->1<=w->1<=h->okL b ks (di b t w h) w h/\∀dn,(∀z∈bB b dn t w h,okI b ks dn w h z)/\bf b (bB b dn t w h)=(if dn=true then w else h)/\1<=(bB b dn t w h).length
 | .rest,w,h,ok,w1,h1=>by
  have k:okL b ks .rest w h:=by rw [okL]; trivial
  refine ⟨k,λ dn=>?_⟩
  rw [dL (by rfl)]
  refine ⟨λ z hz=>?_,cw _ _,Nat.le_refl _⟩
  rw [List.mem_singleton.mp hz]
  refine ⟨by show 1<=(if dn=true then w else h); split <;> omega,Y,?_⟩
  show okL b ks .rest _ _
  rw [okL]; trivial
 | .piece i c x y,w,h,ok,w1,h1=>by
  have k:okL b ks (.piece i c x y) w h:=by rw [okL]; exact ok
  refine ⟨k,λ dn=>?_⟩
  rw [dL (by rfl)]
  refine ⟨λ z hz=>?_,cw _ _,Nat.le_refl _⟩
  rw [List.mem_singleton.mp hz]
  refine ⟨by show 1<=(if dn=true then w else h); split <;> omega,Y,?_⟩
  show okL b ks (.piece i c x y) (if dn=true then (if dn=true then w else h) else w) (if dn=true then h else (if dn=true then w else h))
  cases dn <;> exact k
 | .cut d p l r,w,h,⟨p1,ok⟩,w1,h1=>by
  have own:(∀z∈bB b d (.cut d p l r) w h,okI b ks d w h z)/\bf b (bB b d (.cut d p l r) w h)=(if d=true then w else h)/\2<=(bB b d (.cut d p l r) w h).length:=by
   rw [jy]
   cases d with
   | true =>
    obtain ⟨hp,hl,hr⟩:p + b < w/\okU b ks p h l/\okU b ks (w - p - b) h r:=ok
    obtain ⟨a1,a2,a3⟩:=(ia b0 l hl p1 h1).2 true
    obtain ⟨c1,c2,c3⟩:=(ia b0 r hr (by omega) h1).2 true
    refine ⟨λ z hz=>?_,?_,by rw [List.length_append]; show 2<=(bB b true l p h).length + (bB b true r (w - p - b) h).length; omega⟩
    ·rcases List.mem_append.mp hz with hz | hz
     ·exact a1 z hz
     ·exact c1 z hz
    ·rw [iQ]
     show bf b (bB b true l p h) + b + bf b (bB b true r (w - p - b) h)=w
     rw [a2,c2]
     show p + b + (w - p - b)=w
     omega
   | false =>
    obtain ⟨hp,hl,hr⟩:p + b < h/\okU b ks w p l/\okU b ks w (h - p - b) r:=ok
    obtain ⟨a1,a2,a3⟩:=(ia b0 l hl w1 p1).2 false
    obtain ⟨c1,c2,c3⟩:=(ia b0 r hr w1 (by omega)).2 false
    refine ⟨λ z hz=>?_,?_,by rw [List.length_append]; show 2<=(bB b false l w p).length + (bB b false r w (h - p - b)).length; omega⟩
    ·rcases List.mem_append.mp hz with hz | hz
     ·exact a1 z hz
     ·exact c1 z hz
    ·rw [iQ]
     show bf b (bB b false l w p) + b + bf b (bB b false r w (h - p - b))=h
     rw [a2,c2]
     show p + b + (h - p - b)=h
     omega
  obtain ⟨o1,o2,o3⟩:=own
  have k:okL b ks (di b (.cut d p l r) w h) w h:=by rw [hJ]; exact rW o3 o2 o1
  refine ⟨k,λ dn=>?_⟩
  by_cases e:d=dn
  ·subst e
   exact ⟨o1,o2,by omega⟩
  ·have ew:isW dn (.cut d p l r)=false:=by cases d <;> cases dn <;> first | rfl | exact absurd rfl e
   rw [dL ew]
   refine ⟨λ z hz=>?_,cw _ _,Nat.le_refl _⟩
   rw [List.mem_singleton.mp hz]
   refine ⟨by show 1<=(if dn=true then w else h); split <;> omega,?_,?_⟩
   ·show tlW dn (di b (.cut d p l r) w h)=false
    rw [hJ]
    exact ew
   ·show okL b ks (di b (.cut d p l r) w h) (if dn=true then (if dn=true then w else h) else w) (if dn=true then h else (if dn=true then w else h))
    cases dn <;> exact k
mutual
def lcT:Tl->Nat
 | .row _ r=>lcS r
 | _=>1
def lcS:Tls->Nat
 | .nil=>0
 | .cons _ t r=>lcT t + lcS r
end
def lcL (l:List (Int×Tl)):Nat:=(l.map λ z=>lcT z.2).sum
theorem lO:∀r:Tls,lcS r=lcL (toL r)
 | .nil=>by rw [lcS]; rfl
 | .cons n t r=>by
  rw [lcS,toL,lO r]; rfl
theorem lP (dn:Bool) (l:List (Int×Tl)):lcT (.row dn (ofL (srt l)))=lcL l:=by
 rw [lcT,lO,jD]
 exact ((bZ l).map _).sum_nat
theorem rX (a b:List (Int×Tl)):lcL (a ++ b)=lcL a + lcL b:=by unfold lcL; rw [List.map_append,List.sum_append]
theorem fS (b:Int):∀ (t:Tr) (w h:Int),lcT (tel b t w h).1=lvN t/\lcL (tel b t w h).2.1=lvN t/\lcL (tel b t w h).2.2=lvN t
 | .rest,_,_=>⟨by show lcT .rest=1; rw [lcT]; simp,by show lcT .rest + 0=1; rw [lcT]; simp,by show lcT .rest + 0=1; rw [lcT]; simp⟩
 | .piece i c x y,_,_=>⟨by show lcT (.piece i c x y)=1; rw [lcT]; simp,by show lcT (.piece i c x y) + 0=1; rw [lcT]; simp,by show lcT (.piece i c x y) + 0=1; rw [lcT]; simp⟩
 | .cut true p l r,w,h=>by
  have h1:=(fS b l p h).2.1
  have h2:=(fS b r (w - p - b) h).2.1
  have h3:=lP true ((tel b l p h).2.1 ++ (tel b r (w - p - b) h).2.1)
  have h4:=rX (tel b l p h).2.1 (tel b r (w - p - b) h).2.1
  refine ⟨?_,?_,?_⟩
  ·show lcT (.row true _)=lvN l + lvN r; omega
  ·show lcL (_ ++ _)=lvN l + lvN r; omega
  ·show lcT (.row true _) + 0=lvN l + lvN r; omega
 | .cut false p l r,w,h=>by
  have h1:=(fS b l w p).2.2
  have h2:=(fS b r w (h - p - b)).2.2
  have h3:=lP false ((tel b l w p).2.2 ++ (tel b r w (h - p - b)).2.2)
  have h4:=rX (tel b l w p).2.2 (tel b r w (h - p - b)).2.2
  refine ⟨?_,?_,?_⟩
  ·show lcT (.row false _)=lvN l + lvN r; omega
  ·show lcT (.row false _) + 0=lvN l + lvN r; omega
  ·show lcL (_ ++ _)=lvN l + lvN r; omega
theorem iR {b:Int} {ks:List Kd} (b0:0<=b) {t:Tl} {w h:Int} (ok:okL b ks t w h):lvN (aQ t)=lcT t:=by
 have h1:=(fS b (aQ t) w h).1
 have h2:(tel b (aQ t) w h).1=t:=(kD b0 t ok).2
 rw [h2] at h1
 exact h1.symm
theorem Lsds.two {d e:PyData} {es:List PyData} (h:Lsds [d,e] es):∃d' e',es=[d',e']/\Lsd d d'/\Lsd e e':=by
 obtain ⟨x1,es,rfl,h1,r⟩:=h.one
 obtain ⟨x2,es,rfl,h2,r⟩:=r.one
 cases r.zero
 exact ⟨x1,x2,Y,h1,h2⟩
theorem lQ {n:Int} {t:Tl} {d:PyData} (h:Lsd (.tuple [.int n,tlD t]) d):∃e,aV d=some [.int n,e]/\Lsd (tlD t) e:=by
 obtain ⟨ds',e,r⟩:=h.row_of rfl
 obtain ⟨x1,x2,rfl,h1,h2⟩:=r.two
 cases h1.int
 exact ⟨x2,e,h2⟩
theorem rY {dn:Bool} {r:Tls} {d:PyData} (h:Lsd (tlD (.row dn r)) d):∃e,aV d=some [.str (wyL dn),e]/\Lsd (.tuple (bm r)) e:=by
 obtain ⟨ds',e,r⟩:=h.row_of (by rw [tlD])
 obtain ⟨x1,x2,rfl,h1,h2⟩:=r.two
 cases h1.str
 exact ⟨x2,e,h2⟩
theorem ib:∀ {l:List (Int×Tl)} {es:List PyData},Lsds (bm (ofL l)) es->es.length=l.length/\∀ (i:Nat) (e:PyData),es[i]? = some e->∃z:Int×Tl,l[i]? = some z/\Lsd (.tuple [.int z.1,tlD z.2]) e
 | [],es,h=>by
  rw [ofL,bm] at h
  cases h.zero
  exact ⟨Y,λ i e he=>by simp at he⟩
 | z :: l,es,h=>by
  rw [ofL,bm] at h
  obtain ⟨x,es,rfl,h1,h2⟩:=h.one
  obtain ⟨g1,g2⟩:=ib h2
  refine ⟨by rw [List.length_cons,List.length_cons,g1],λ i e he=>?_⟩
  cases i with
  | zero=>cases he; exact ⟨z,Y,h1⟩
  | succ i=>exact g2 i e (by simpa using he)
theorem vg (e:Bool) {t:Tl} {d:PyData} (h:Lsd (tlD t) d):bw d (wyL e) 2=tlW e t:=by
 cases t with
 | rest =>
  have:aV d=some (.str "rest" :: []):=Lsd.tree .rest h
  rw [cD this]; rfl
 | piece i c x y =>
  have:aV d=some (.str "piece" :: [.int i,.bool c,.int x,.int y]):=Lsd.tree (.piece i c x y) h
  rw [cD this]; rfl
 | row dn r =>
  obtain ⟨x,er,_⟩:=rY h
  rw [cD er]
  show (decide ((1:Nat) + 1=2) && decide (wyL dn=wyL e))=(dn == e)
  cases dn <;> cases e <;> decide +kernel
def wyO:Tl->V
 | .row dn _=>.str (wyL dn)
 | _=>.non
theorem vR {dn:Bool} {t:Tl} (h:tlW dn t=false):(!decide (wyO t=.str (wyL dn)))=true:=by
 cases t with
 | rest=>rfl
 | piece=>rfl
 | row d r=>cases d <;> cases dn <;> first | rfl | cases h | decide +kernel
theorem Dt.rowT {K:PySem.W.Frag} {p:Addr} {H:Hp} {v:V} {d:PyData} {ds:List PyData} (h:Dt p H v d) (er:aV d=some ds):∃a xs T,v=.ref a/\(H a=some (.lst xs)\/H a=some (.tup xs))/\Dts p H xs ds/\Ty K H v T/\(T == "list" || T == "tuple")=true:=by
 rcases h.row (K:=K) with ⟨e,_⟩ | ⟨a,xs,ds',T,e,e2,hx,dx,ty,hT⟩
 ·rw [e] at er; cases er
 ·rw [e] at er; cases er; exact ⟨a,xs,T,e2,hx,dx,ty,hT⟩
section
variable {P:Program} {w:World} {K:PySem.W.Frag} {mg:Str->Option Value} {base:Heap}
def gE:Sp:=λ vs H Q _=>∃ (c:Addr) (w h n:Int) (dn:Bool),vs=[.ref c,.str (wyL dn),.int n]/\H c=some (.tup [.int w,.int h])/\∀ (r:Addr) (H':Hp),H' r=some (.tup [.int (if dn=true then n else w),.int (if dn=true then h else n)])->Same H H'->Q (.ref r) H'
def fi:Sp:=λ vs H Q _=>∃ (pp:Addr) (v:V) (d:PyData) (t:Tl),vs=[v]/\Dt pp H v d/\Lsd (tlD t) d/\∀ (H':Hp),Same H H'->Q (wyO t) H'
def jF:Sp:=λ vs H Q _=>∃ (pp:Addr) (v:V) (d:PyData) (n:Int) (t:Tl) (dn:Bool),vs=[.str (wyL dn),v]/\Dt pp H v d/\Lsd (.tuple [.int n,tlD t]) d/\1<=n/\tlW dn t=false/\∀ (H':Hp),Same H H'->Q (.bl true) H'
def jG:Sp:=λ vs H Q _=>∃ (pp:Addr) (v:V) (d:PyData) (b s:Int) (l:List (Int×Tl)) (dn:Bool),vs=[.int b,.int s,.str (wyL dn),v]/\Dt pp H v d/\Lsd (.tuple (bm (ofL l))) d/\2<=l.length/\l.length<=63/\(∀z∈l,1<=z.1/\tlW dn z.2=false)/\bf b l=s/\∀ (H':Hp),Same H H'->Q (.bl true) H'
theorem scparta:FnScope ["part","way","size"] ["part","way","size"] (defScope cZ):=⟨Y,Y,Y,by decide +kernel,Y,by decide +kernel,by decide +kernel⟩
theorem rZ {f wa:Addr} {fd:FuncData} (F:Fun K "part_along" "part_along" cZ f fd) (Z:TrC K mg wa):FnOk P w K mg base CX0 1 f fd ["part","way","size"] (gE):=by
 refine F.ok scparta (λ vs H Q E h=>?_) (λ cdv A outer s H vs Q E hr h=>?_)
 ·obtain ⟨c,w1,h1,n,dn,rfl,_⟩:=h
  rfl
 obtain ⟨c,w1,h1,n,dn,rfl,hc,q⟩:=h
 have nd:=scparta.nd
 obtain ⟨tdn,hdn⟩:=Z.dn
 refine ⟨_,(@ag _ _ _ (@ar _ _ _ _ (eL (@aE _ _ _ _ _ _ _ _ aZ (pv 1) (bj (v:=.str "down") Y hdn ⟨tdn,Y⟩) (ay _)) (@az _ _ _ _ _ ((pv 2)^^^((@ao _ _ _ _ _ _ _ ix_tup (pv 0) ad (λ _ _=>Y))^^^ab))) (@az _ _ _ _ _ ((@ao _ _ _ _ _ _ _ ix_tup (pv 0) ad (λ _ _=>Y))^^^((pv 2)^^^ab)))))),?_⟩
 refine ⟨_,Y,Y,_,Y,?_⟩
 cases dn with
 | true=>exact bY (by decide +kernel) ⟨_,rfl,_,rfl,c,_,1,_,rfl,rfl,SqT.of hc,rfl,zS2,λ r hr=>q r _ af (Same.new hr)⟩
 | false=>exact bJ (by decide +kernel) ⟨_,rfl,c,_,0,_,rfl,rfl,SqT.of hc,rfl,_,rfl,zS2,λ r hr=>q r _ af (Same.new hr)⟩
theorem scwayof:FnScope ["thing","way"] ["thing"] (defScope jr):=⟨Y,Y,Y,by decide +kernel,Y,by decide +kernel,by decide +kernel⟩
theorem si {f wa:Addr} {fd:FuncData} (F:Fun K "way_of" "way_of" jr f fd) (Z:TrC K mg wa) (hc2:∃t,mg "THINGS_OF_A_CUT_TELLING" = some (.int 2 t)) (DB:Dn P w K mg base "begins_with" ["thing","word","many"] 2 (spBegins)):FnOk P w K mg base CX0 3 f fd ["thing"] (fi):=by
 refine F.ok scwayof (λ vs H Q E h=>?_) (λ cdv A outer s H vs Q E hr h=>?_)
 ·obtain ⟨pp,v,d,t,rfl,_⟩:=h
  rfl
 obtain ⟨pp,v,d,t,rfl,hd,ld,q⟩:=h
 have nd:=scwayof.nd
 obtain ⟨tt2,ht2⟩:=hc2
 refine ⟨_,(@ae _ _ _ _ _ (@ce _ _ _ _ _ _ _ _ PassesOwn.never Y (fu (bj (v:=.ref wa) Y Z.wy Y)) (ai (i:=1) nd Y (Or.inl Y)) (@ag _ _ _ (@aG _ _ _ _ _ _ _ _ (@aH _ _ _ (@am _ _ _ _ _ _ _ _ _ _ DB hr Y ((pv 0)^^^((pv 1)^^^((bj (v:=.int 2) Y ht2 ⟨tt2,Y⟩)^^^ab))) (by decide) Y Y) (by intro _; rfl)) (@ag _ _ _ (@ar _ _ _ _ (pv 1))) aB)) (by intro _; rfl)) (@ag _ _ _ (@ar _ _ _ _ cL))),?_⟩
 refine ⟨wa, Y, ⟨_, Z.wq H⟩, gm (xs:=[.str "down", .str "across"]) (λ i σ H'=>(∃v1, σ=[some v, v1])/\Same H H'/\(1<=i->tlW true t=false)/\(2<=i->tlW false t=false)) ⟨⟨_, Y⟩, Same.refl _, λ z=>absurd z (by decide), λ z=>absurd z (by decide)⟩ (λ i σ H' _ _=>Z.wq H') ?_ ?_⟩
 ·rintro i y σ H1 hi ⟨⟨v1,rfl⟩,s1,g1,g2⟩
  match i,hi with
  | 0,hi =>
   cases hi
   refine ⟨_,Y,_,Y,pp,v,d,wyL true,2,Y,by decide,hd.same s1,λ H2 s12=>⟨_,Y,?_⟩⟩
   have s2:=s1.trans s12
   rw [vg true ld]
   refine cf (λ hb=>⟨_,Y,?_⟩) (λ hb=>⟨⟨_,Y⟩,s2,λ _=>by simpa using hb,λ z=>absurd z (by decide)⟩)
   have q1:=q H2 s2
   cases t with
   | row e r =>
    have:e=true:=by simpa [tlW] using hb
    subst this
    exact q1
   | _=>cases hb
  | 1,hi =>
   cases hi
   refine ⟨_,Y,_,Y,pp,v,d,wyL false,2,Y,by decide,hd.same s1,λ H2 s12=>⟨_,Y,?_⟩⟩
   have s2:=s1.trans s12
   rw [vg false ld]
   refine cf (λ hb=>⟨_,Y,?_⟩) (λ hb=>⟨⟨_,Y⟩,s2,λ _=>g1 (by decide),λ _=>by simpa using hb⟩)
   have q1:=q H2 s2
   cases t with
   | row e r =>
    have:e=false:=by simpa [tlW] using hb
    subst this
    exact q1
   | _=>cases hb
 ·rintro σ H1 ⟨⟨v1,rfl⟩,s1,g1,g2⟩
  have q1:=q H1 s1
  have a1:=g1 (by decide)
  have a2:=g2 (by decide)
  cases t with
  | row e r =>
   cases e with
   | true=>cases a1
   | false=>cases a2
  | _=>exact q1
theorem scsized:FnScope ["way","thing"] ["way","thing"] (defScope eZ):=⟨Y,Y,Y,by decide +kernel,Y,by decide +kernel,by decide +kernel⟩
theorem sj {f:Addr} {fd:FuncData} (F:Fun K "is_sized" "is_sized" eZ f fd) (B:Blt mg) (DR:Dn P w K mg base "is_row" ["thing"] 1 (gS K)) (DW:Dn P w K mg base "is_whole" ["thing","least"] 1 (ck K)) (DWo:Dn P w K mg base "way_of" ["thing"] 3 (fi)):FnOk P w K mg base CX0 4 f fd ["way","thing"] (jF):=by
 refine F.ok scsized (λ vs H Q E h=>?_) (λ cdv A outer s H vs Q E hr h=>?_)
 ·obtain ⟨pp,v,d,n,t,dn,rfl,_⟩:=h
  rfl
 refine bH λ G9 k9=>?_
 obtain ⟨pp,v,d,n,t,dn,rfl,hd,ld,n1,ne,q⟩:=h
 refine k9 ?_
 have nd:=scsized.nd
 refine ⟨_,(@ag _ _ _ (@ar _ _ _ _ (bN (@am _ _ _ _ _ _ _ _ _ _ DR (hr.mono (by decide)) Y ((pv 1)^^^ab) (by decide) Y Y) (bN (@aW _ _ _ _ _ _ _ _ aZ (@aw _ _ _ _ _ _ _ _ _ aN Y B.len PySem.boot_len ((pv 1)^^^ab) (by decide) (by decide) Y Y) ad (ay _)) (bN (@am _ _ _ _ _ _ _ _ _ _ DW (hr.mono (by decide)) Y ((@ao _ _ _ _ _ _ _ bA (pv 1) ad (λ _ _=>Y))^^^(ad^^^ab)) (by decide) Y Y) (cM (@aW _ _ _ _ _ _ _ _ ej (@am _ _ _ _ _ _ _ _ _ _ DWo hr Y ((@ao _ _ _ _ _ _ _ bA (pv 1) ad (λ _ _=>Y))^^^ab) (by decide) Y Y) (pv 0) (ay _)))))))),?_⟩
 obtain ⟨e2,er,l2⟩:=lQ ld
 obtain ⟨a,xs,T0,rfl,hx,dx,t0,rT⟩:=hd.rowT (K:=K) er
 cases dx with
 | @cons x0 _ xs0 _ g0 dx =>
 cases dx with
 | @cons x1 _ xs1 _ g1 dx =>
 cases dx
 cases g0
 refine ⟨_,Y,.ref a,T0,Y,t0,λ H1 s1=>⟨_,Y,?_⟩⟩
 rw [rT]
 have sq:SqL K H1 a [.int n,x1]\/SqT K H1 a [.int n,x1]:=hx.imp (λ z=>SqL.of (s1 _ _ z)) λ z=>SqT.of (s1 _ _ z)
 refine aU ⟨_,rfl,a,_,rfl,sq,rfl,_,rfl,?_⟩
 refine bY rfl ⟨_,rfl,ixR s1 hx (aR (Int.le_refl _) rfl) ⟨.int n,"int",1,rfl,Ty.int,_,rfl,?_⟩⟩
 rw [show aY (.int n) 1=true from decide_eq_true n1]
 refine aU ⟨_,rfl,ixR s1 hx (aR (by decide) rfl) ⟨pp,x1,e2,t,rfl,g1.same s1,l2,λ H2 s2=>⟨_,rfl,by cases t <;> rfl,?_⟩⟩⟩
 rw [vR ne]
 exact q H2 (s1.trans s2)
theorem scdivd:FnScope ["blade","side","way","row"] ["blade","side","way","row"] (defScope bV):=⟨Y,Y,Y,by decide +kernel,Y,by decide +kernel,by decide +kernel⟩
theorem uA {f:Addr} {fd:FuncData} (F:Fun K "is_divided" "is_divided" bV f fd) (B:Blt mg) (hc2:∃t,mg "LEAST_IN_A_ROW" = some (.int 2 t)) (DR:Dn P w K mg base "is_row" ["thing"] 1 (gS K)) (DSz:Dn P w K mg base "is_sized" ["way","thing"] 4 (jF)):FnOk P w K mg base CX0 5 f fd ["blade","side","way","row"] (jG):=by
 refine F.ok scdivd (λ vs H Q E h=>?_) (λ cdv A outer s H vs Q E hr h=>?_)
 ·obtain ⟨pp,v,d,b,s,l,dn,rfl,_⟩:=h
  rfl
 refine bH λ G9 k9=>?_
 obtain ⟨pp,v,d,b,s,l,dn,rfl,hd,ld,l2,l63,al,hs,q⟩:=h
 refine k9 ?_
 have nd:=scdivd.nd
 obtain ⟨tl2,hl2⟩:=hc2
 refine ⟨_,(@ae _ _ _ _ _ (@aG _ _ _ _ _ _ _ _ (PW.pt (bq (@aM _ _ _ _ (@aH _ _ _ (@am _ _ _ _ _ _ _ _ _ _ DR (hr.mono (by decide)) Y ((pv 3)^^^ab) (by decide) Y Y) (by intro _; rfl))) (bq (@aE _ _ _ _ _ _ _ _ mi (@aw _ _ _ _ _ _ _ _ _ aN Y B.len PySem.boot_len ((pv 3)^^^ab) (by decide) (by decide) Y Y) (bj (v:=.int 2) Y hl2 ⟨tl2,Y⟩) (ay _)) (bz (@aM _ _ _ _ (@aH _ _ _ (@aw _ _ _ _ _ _ _ _ _ (nP Y) Y B.all PyProof.Rows.boot_all ((eQ (own:=["thing"]) (cs:=["way"]) (cap:=[2]) Y (jk (pv 3)) (bS (sc:=defScope bV) (N:=["blade","side","way","row"]) Y Y (by decide +kernel)) (λ _ _ _ _ _=>ai (i:=0) (by show List.Nodup (["thing","way"]:List Str) ; decide +kernel) Y (Or.inl Y) (Or.inr Y)) (λ _ _ _ _ _=>cz) (λ _ _ _ _ _=>(@am _ _ _ _ _ _ _ _ _ _ DSz hr Y ((pv 1)^^^((pv 0)^^^ab)) (by decide) Y Y)))^^^ab) (by decide) (by decide) Y Y) (by intro _; rfl))))))) (@ag _ _ _ (@ar _ _ _ _ bI)) aB) (@ag _ _ _ (@ar _ _ _ _ (@aW _ _ _ _ _ _ _ _ aZ (@aA _ _ _ _ _ _ _ _ aI (@aw _ _ _ _ _ _ _ _ _ (iE Y) Y B.sum PyProof.Rows.boot_sum ((eQ (own:=["thing"]) (cs:=[]) (cap:=[]) Y (jk (pv 3)) (bS (sc:=defScope bV) (N:=["blade","side","way","row"]) Y Y (by decide +kernel)) (λ _ _ _ _ _=>ai (i:=0) (by show List.Nodup (["thing"]:List Str) ; decide +kernel) Y (Or.inl Y) (Or.inr Y)) (λ _ _ _ _ _=>cz) (λ _ _ _ _ _=>(ao (r:=rIx K) bA (pv 0) ad (λ _ _=>Y))))^^^ab) (by decide) (by decide) Y Y) (@aA _ _ _ _ _ _ _ _ cU (pv 0) (@aA _ _ _ _ _ _ _ _ br (@aw _ _ _ _ _ _ _ _ _ aN Y B.len PySem.boot_len ((pv 3)^^^ab) (by decide) (by decide) Y Y) ad))) (pv 1) (ay _))))),?_⟩
 have sz:(1000:Nat) < sizeLine:=by decide
 obtain ⟨es,er,le⟩:=ld.row_of rfl
 obtain ⟨el,eg⟩:=ib le
 obtain ⟨a,xs,T0,rfl,hx,dx,t0,rT⟩:=hd.rowT (K:=K) er
 have xl:=dx.length
 refine aj (λ R=>∀ (H':Hp),Same H H'->R [some (.int b),some (.int s),some (.str (wyL dn)),some (.ref a)] H') (λ Dd hR=>?_) ?_
 ·refine ⟨_,Y,.ref a,T0,Y,t0,λ H1 s1=>⟨_,Y,?_⟩⟩
  rw [rT]
  have hx1:=hx.imp (s1 _ _) (s1 _ _)
  have sq:SqL K H1 a xs\/SqT K H1 a xs:=hx1.imp (λ z=>SqL.of z) λ z=>SqT.of z
  refine aL ⟨_,rfl,a,_,rfl,sq,_,_,rfl,rfl,_,rfl,?_⟩
  refine bJ (decide_eq_false (by omega)) ⟨_,rfl,a,rfl,fL (K:=K) hx1 (λ i us Hx=>Same H1 Hx/\us=(List.replicate i true).map V.bl) (λ i us Hx _ e o h=>e.1 _ _ h) ⟨Same.refl _,rfl⟩ ?_ ?_⟩
  ·rintro i x us Hx hi ⟨sx,rfl⟩
   have hin:i < xs.length:=(List.getElem?_eq_some_iff.mp hi).1
   obtain ⟨e,he,hxe⟩:=dx.get hi
   obtain ⟨z,hz,lz⟩:=eg i e he
   obtain ⟨z1,z2⟩:=al z (List.mem_of_getElem? hz)
   refine ⟨by rw [List.length_map,List.length_replicate]; omega,leS.set rfl,cA ⟨_,Y,_,Y,pp,x,e,z.1,z.2,dn,Y,hxe.same (s1.trans sx),lz,z1,z2,λ H3 s3=>Nx.of hin ⟨sx.trans s3,?_⟩⟩⟩
   rw [List.replicate_succ',List.map_append]; rfl
  ·rintro us Hx ⟨sx,rfl⟩
   refine ⟨by rw [List.length_map,List.length_replicate]; omega,λ l' hl'=>⟨l',_,Y,SqL.of af,_,Y,?_⟩⟩
   have:(List.replicate xs.length true).all id=true:=by rw [List.all_eq_true]; intro y hy; rw [List.eq_of_mem_replicate hy]; rfl
   rw [this]
   exact aL (hR _ (s1.trans (sx.trans (Same.new hl'))))
 rintro H1 s1
 have hx1:=hx.imp (s1 _ _) (s1 _ _)
 refine ⟨_,Y,a,Y,fL (K:=K) hx1 (λ i us Hx=>Same H1 Hx/\us=((l.take i).map (·.1)).map V.int) (λ i us Hx _ e o h=>e.1 _ _ h) ⟨Same.refl _,Y⟩ ?_ ?_⟩
 ·rintro i x us Hx hi ⟨sx,rfl⟩
  have hin:i < xs.length:=(List.getElem?_eq_some_iff.mp hi).1
  obtain ⟨e,he,hxe⟩:=dx.get hi
  obtain ⟨z,hz,lz⟩:=eg i e he
  obtain ⟨e2,er2,_⟩:=lQ lz
  obtain ⟨a2,xs2,rfl,hx2,dx2⟩:=hxe.ref_row er2
  cases dx2 with
  | cons g0 dx2 =>
  cases g0
  refine ⟨by rw [List.length_map,List.length_map,List.length_take]; omega,leS.set rfl,cA ⟨_,Y,ixR (s1.trans sx) hx2 (aR (Int.le_refl _) rfl) (Nx.of hin ⟨sx,?_⟩)⟩⟩
  rw [List.take_add_one,hz]
  simp only [Option.toList_some,List.map_append,List.map_cons,List.map_nil]
 ·rintro us Hx ⟨sx,rfl⟩
  have hx3:=hx1.imp (sx _ _) (sx _ _)
  rw [show l.take xs.length=l by rw [show xs.length=l.length by omega,List.take_length]]
  refine ⟨by rw [List.length_map,List.length_map]; omega,λ l' hl'=>⟨l',_,Y,SqL.of af,?_⟩⟩
  have s4:=Same.new hl' (o:=.lst ((l.map (·.1)).map V.int))
  have sq:SqL K _ a xs\/SqT K _ a xs:=(hx3.imp (s4 _ _) (s4 _ _)).imp (λ z=>SqL.of z) λ z=>SqT.of z
  refine ⟨_,Y,_,Y,a,_,Y,sq,_,_,Y,Y,_,_,Y,Y,.inr ⟨by omega,by omega⟩,_,_,Y,Y,_,Y,Y,?_⟩
  have e9:(l.map (·.1)).sum + b * ((xs.length:Int) - 1)=s:=by
   rw [show (xs.length:Int)=(l.length:Int) by omega]; exact hs
  rw [e9,decide_eq_true (rfl:V.int s=V.int s)]
  exact q _ (s1.trans (sx.trans s4))
end
theorem vS {a b c:St} (h1:leS a b) (h2:leS b c):leS a c:=⟨h2.1.trans h1.1,λ i v e=>h2.2 i v (h1.2 i v e)⟩
def lfT:Tl->Option Tr
 | .rest=>some .rest
 | .piece i c x y=>some (.piece i c x y)
 | .row .. => none
theorem sk {b:Int} {ks:List Kd} {w h:Int} {t:Tl} {T:Tr} {d:PyData} (e:lfT t=some T) (ld:Lsd (tlD t) d) (ok:okL b ks t w h):isL ks w h d=true/\TrD T d/\tlD t=toD T/\wyO t=.non:=by
 cases t with
 | rest =>
  cases e
  have td:TrD .rest d:=Lsd.tree .rest ld
  have g:=TrD.good (b:=b) (ks:=ks) .rest d w h td trivial
  have er:aV d=some (.str "rest" :: []):=td
  have hc:isC b w h d=false:=by unfold isC; rw [cD er,cD er]; rfl
  rw [dH hc] at g
  exact ⟨g,td,Y,Y⟩
 | piece i c x y =>
  cases e
  rw [okL] at ok
  have td:TrD (.piece i c x y) d:=Lsd.tree (.piece i c x y) ld
  have g:=TrD.good (b:=b) (ks:=ks) (.piece i c x y) d w h td (iP _ ok)
  have er:aV d=some (.str "piece" :: [.int i,.bool c,.int x,.int y]):=td
  have hc:isC b w h d=false:=by unfold isC; rw [cD er,cD er]; rfl
  rw [dH hc] at g
  exact ⟨g,td,Y,Y⟩
 | row=>cases e
theorem ss {H:Hp} {pp:Addr} {H0:Hp} {xs:List V} {ds:List PyData} {t:Tl} {T:Tr} {d:PyData} {a:Addr} (e:lfT t=some T) (td:TrD T d) (er:aV d=some ds) (dx:Dts pp H0 xs ds) (h:H a=some (.tup xs)):TlV H t (.ref a):=by
 cases t with
 | rest =>
  cases e
  have td:aV d=some [.str "rest"]:=td
  rw [td] at er
  cases er
  cases dx with
  | cons g0 dx =>
  cases dx
  cases g0
  rw [TlV]
  exact ⟨a,Y,h⟩
 | piece i c x y =>
  cases e
  have td:aV d=some [.str "piece",.int i,.bool c,.int x,.int y]:=td
  rw [td] at er
  cases er
  cases dx with
  | cons g0 dx =>
  cases dx with
  | cons g1 dx =>
  cases dx with
  | cons g2 dx =>
  cases dx with
  | cons g3 dx =>
  cases dx with
  | cons g4 dx =>
  cases dx
  cases g0
  cases g1
  cases g2
  cases g3
  cases g4
  rw [TlV]
  exact ⟨a,Y,h⟩
 | row=>cases e
theorem fj {n:Int} {t:Tl} {dn:Bool} {r:Tls} {z:Int×Tl} (h:z∈toL r):(tlD z.2).depth + 3<=(tlD (.row dn r)).depth:=by
 have:∀r:Tls,z∈toL r->(tlD z.2).depth + 1<=PyData.depthAll (bm r):=λ r=>by
  induction r using Tls.rec (motive_1:=λ _=>True) with
  | rest=>trivial
  | piece=>trivial
  | row=>trivial
  | nil=>intro h; rw [toL] at h; cases h
  | cons n t r _ ih =>
   intro h
   rw [toL] at h
   show _<=max (max 0 (max (tlD t).depth 0) + 1) (PyData.depthAll (bm r))
   rcases List.mem_cons.mp h with e | h
   ·rw [e]; show (tlD t).depth + 1<=_; omega
   ·have:=ih h; omega
 have:=this r h
 show _<=max 0 (max (PyData.depthAll (bm r) + 1) 0) + 1
 omega
theorem ng {n:Nat}:∀ {l:List Nat},n∈l->n<=l.sum
 | x :: l,h=>by
  rw [List.sum_cons]
  rcases List.mem_cons.mp h with h | h
  ·omega
  ·have:=ng h; omega
theorem lR {r:Tls} {z:Int×Tl} (h:z∈toL r):lcT z.2<=lcS r:=by
 rw [lO]
 unfold lcL
 exact ng (List.mem_map.mpr ⟨z,h,Y⟩)
theorem jH {b:Int} {ks:List Kd} {dn:Bool} {w h:Int}:∀ {r:Tls},gi b ks dn r w h->(∀z∈toL r,1<=lcT z.2)->(toL r).length<=lcS r
 | .nil,_,_=>by rw [toL]; exact Nat.zero_le _
 | .cons n t r,ho,hz=>by
  rw [gi] at ho
  have:=jH ho.2.2.2 λ z hm=>hz z (by rw [toL]; exact List.mem_cons_of_mem _ hm)
  have:=hz (n,t) (by rw [toL]; exact List.mem_cons_self)
  rw [toL,lcS,List.length_cons]
  show _<=lcT t + lcS r
  have:1<=lcT t:=this
  omega
theorem lS {b:Int} {ks:List Kd} (b0:0<=b) {t:Tl} {w h:Int} (ok:okL b ks t w h):1<=lcT t:=by
 rw [<- iR b0 ok]
 exact (cO b (aQ t) w h).2.2
theorem jI {K:PySem.W.Frag} {H:Hp}:∀ {vs:List V} {zs:List (Int×Tl)},Paired (ItV H) vs zs->DatVs K H vs (bm (ofL zs))
 | _,_,.nil=>by rw [ofL,bm]; exact .nil
 | _,_,.cons ⟨a,u,e,h1,h2⟩ r=>by
  rw [ofL,bm]
  subst e
  exact .cons (.tup (SqT.of h1) (.cons (.int _) (.cons (TlV.dat _ h2) .nil))) (jI r)
def TmV (H:Hp) (v:V) (z:Int×Tl):Prop:=∃a u,v=.ref a/\H a=some (.tup [.int z.1,u])/\TrV H (aQ z.2) u
theorem TmV.keep {H H':Hp} (k:∀a xs,H a=some (.tup xs)->H' a=some (.tup xs)) {v:V} {z:Int×Tl} (h:TmV H v z):TmV H' v z:=by
 obtain ⟨a,u,e,h1,h2⟩:=h
 exact ⟨a,u,e,k _ _ h1,TrV.keep k _ h2⟩
theorem jJ {H:Hp}:∀ {r:Tls} {vs:List V},TlsV H r vs->Paired (ItV H) vs (toL r)
 | .nil,vs,h=>by rw [TlsV] at h; subst h; rw [toL]; exact .nil
 | .cons n t r,vs,h=>by
  rw [TlsV] at h
  obtain ⟨a,u,ys,e,h1,h2,h3⟩:=h
  subst e
  rw [toL]
  exact .cons ⟨a,u,Y,h1,h2⟩ (jJ h3)
section
variable {P:Program} {w:World} {K:PySem.W.Frag} {mg:Str->Option Value} {base:Heap}
inductive spAsT (C:Addr) (n:Nat) (vs:List V) (H:Hp) (Q:VK) (E_:XK):Prop
 | mk (pp s c:Addr) (b w h:Int) (ks:List Kd) (v:V) (d:PyData) (t:Tl) (e_1:vs=[.ref s,.ref c,v]) (e_2:ShopAt C H s b ks) (e_3:H c=some (.tup [.int w,.int h])) (e_4:Dt pp H v d) (e_5:Lsd (tlD t) d) (e_6:okL b ks t w h) (e_7:0<=b) (e_8:lcT t<=63) (e_9:(tlD t).depth < n) (e_10:(tlD t).depth<=200) (e_11:∀ (u:V) (H':Hp),TlV H' t u->Same H H'->Q u H'):spAsT C n vs H Q E_
inductive spTbt (n:Nat) (vs:List V) (H:Hp) (Q:VK) (E_:XK):Prop
 | mk (b w h:Int) (ks:List Kd) (v:V) (t:Tl) (e_1:vs=[v]) (e_2:TlV H t v) (e_3:okL b ks t w h) (e_4:0<=b) (e_5:lcT t<=63) (e_6:(tlD t).depth < n) (e_7:∀ (u:V) (H':Hp),TrV H' (aQ t) u->Same H H'->Q u H'):spTbt n vs H Q E_
inductive spTreeTo (C:Addr) (vs:List V) (H:Hp) (Q:VK) (E_:XK):Prop
 | mk (pp s:Addr) (b w h:Int) (ks:List Kd) (v:V) (d:PyData) (t:Tl) (e_1:vs=[.ref s,.int w,.int h,v]) (e_2:ShopAt C H s b ks) (e_3:1<=w) (e_4:1<=h) (e_5:Dt pp H v d) (e_6:Lsd (tlD t) d) (e_7:okL b ks t w h) (e_8:0<=b) (e_9:lcT t<=63) (e_10:(tlD t).depth<=150) (e_11:∀ (u:V) (H':Hp),TrV H' (aQ t) u->Same H H'->Q u H'):spTreeTo C vs H Q E_
theorem scast:FnScope ["shop","part","thing","way","row"] ["shop","part","thing"] (defScope bK):=⟨Y,Y,Y,by decide +kernel,Y,by decide +kernel,by decide +kernel⟩
set_option maxHeartbeats 1000000 in
theorem vT {f C:Addr} {fd:FuncData} (F:Fun K "as_telling" "as_telling" bK f fd) (B:Blt mg) (T:ShopTxt K C) (n:Nat) (MB:Mn P w K mg base C "blade" ["self"] 1 (dQ C)) (DF:Dn P w K mg base "is_leaf" ["shop","spot"] 5 (spLeaf C)) (DWo:Dn P w K mg base "way_of" ["thing"] 3 (fi)) (DSA:Dn P w K mg base "side_along" ["part","way"] 1 (spSideA)) (DPA:Dn P w K mg base "part_along" ["part","way","size"] 1 (gE)) (DDv:Dn P w K mg base "is_divided" ["blade","side","way","row"] 5 (jG)) (DT:Dn P w K mg base "as_telling" ["shop","part","thing"] (6 + n) (spAsT C n)):FnOk P w K mg base CX0 (6 + (n + 1)) f fd ["shop","part","thing"] (spAsT C (n + 1)):=by
 refine F.ok scast (λ vs H Q E h=>?_) (λ cdv A outer s H vs Q E hr h=>?_)
 ·obtain ⟨pp,s,c,b,w1,h1,ks,v,d,t,rfl,_⟩:=h
  rfl
 obtain ⟨pp,s,c,b,w1,h1,ks,v,d,t,rfl,SH,hc,hd,ld,okt,b0,l63,dn0,d200,q⟩:=h
 have nd:=scast.nd
 have hu:=Room.units220 hr (show 2<=6 + n by omega)
 refine ⟨_,(@ae _ _ _ _ _ (@aD _ _ 3 _ _ _ _ nd Y (Or.inr Y) (@am _ _ _ _ _ _ _ _ _ _ DWo (hr.mono (show 3<=6 + n by omega)) Y ((pv 2)^^^ab) (by decide) Y Y) Y (Or.inl Y)) (@ae _ _ _ _ _ (@aG _ _ _ _ _ _ _ _ (@aE _ _ _ _ _ _ _ _ iZ (pv 3) cL (ay _)) (@ae _ _ _ _ _ (@aG _ _ _ _ _ _ _ _ (@aM _ _ _ _ (@aH _ _ _ (@am _ _ _ _ _ _ _ _ _ _ DF (hr.mono (show 5<=6 + n by omega)) Y ((pv 0)^^^((@az _ _ _ _ _ (ad^^^(ad^^^((@ao _ _ _ _ _ _ _ ix_tup (pv 1) ad (λ _ _=>Y))^^^((@ao _ _ _ _ _ _ _ ix_tup (pv 1) ad (λ _ _=>Y))^^^((pv 2)^^^ab))))))^^^ab)) (by decide) Y Y) (by intro _; rfl))) (@ag _ _ _ cP) aB) (@ag _ _ _ (@ar _ _ _ _ (@aT _ _ _ _ _ _ _ _ _ bg Y B.tuple PyProof.Rows.boot_tuple ((pv 2)^^^ab) (by decide) (by decide) Y Y)))) aB) (@ae _ _ _ _ _ (@aG _ _ _ _ _ _ _ _ (@aM _ _ _ _ (@aH _ _ _ (@am _ _ _ _ _ _ _ _ _ _ DDv (hr.mono (show 5<=6 + n by omega)) Y ((lA (pv 0) T.cl MB (hr.mono (show 1<=6 + n by omega)))^^^((@am _ _ _ _ _ _ _ _ _ _ DSA (hr.mono (show 1<=6 + n by omega)) Y ((pv 1)^^^((pv 3)^^^ab)) (by decide) Y Y)^^^((pv 3)^^^((@ao _ _ _ _ _ _ _ bA (pv 2) ad (λ _ _=>Y))^^^ab)))) (by decide) Y Y) (by intro _; rfl))) (@ag _ _ _ cP) aB) (@ae _ _ _ _ _ (mv (i:=4) (own:=["size","inner"]) (cs:=["shop","part","way"]) (cap:=[0,1,3]) Y nd Y Y Y (jk (@ao _ _ _ _ _ _ _ bA (pv 2) ad (λ _ _=>Y))) (bS (sc:=defScope bK) (N:=["shop","part","thing","way","row"]) Y Y (by decide +kernel)) (λ _ _ _ _ _=>tW K Y Y (by show List.Nodup (["size","inner","shop","part","way"]:List Str) ; decide +kernel) Y Y Y Y) (λ _ _ _ _ _=>cz) (λ _ _ _ _ _=>(@az _ _ _ _ _ ((pv 0)^^^((@am _ _ _ _ _ _ _ _ _ _ DT hr Y ((pv 2)^^^((@am _ _ _ _ _ _ _ _ _ _ DPA (hr.mono (show 1<=6 + n by omega)) Y ((pv 3)^^^((pv 4)^^^((pv 0)^^^ab))) (by decide) Y Y)^^^((pv 1)^^^ab))) (by decide) Y Y)^^^ab))))) (@ae _ _ _ _ _ (@aG _ _ _ _ _ _ _ _ (@aE _ _ _ _ _ _ _ _ (vK hu) (pv 4) (@aw _ _ _ _ _ _ _ _ _ (cm hu) Y B.sorted PyProof.Rows.boot_sorted ((pv 4)^^^ab) (by decide) (by decide) Y Y) (ay _)) (@ag _ _ _ cP) aB) (@ag _ _ _ (@ar _ _ _ _ (@az _ _ _ _ _ ((pv 3)^^^((@aT _ _ _ _ _ _ _ _ _ bg Y B.tuple PyProof.Rows.boot_tuple ((pv 4)^^^ab) (by decide) (by decide) Y Y)^^^ab)))))))))),?_⟩
 have sz:(1000:Nat) < sizeLine:=by decide
 refine aj (λ R=>∀ (H':Hp),Same H H'->R [some (.ref s),some (.ref c),some v,some (wyO t),none] H') (λ Dd hR=>?_) ?_
 ·exact ⟨_,Y,pp,v,d,t,Y,hd,ld,λ H1 s1=>hR _ s1⟩
 rintro H1 s1
 refine dh (λ R=>∀dn r (H':Hp),t=.row dn r->Same H H'->R [some (.ref s),some (.ref c),some v,some (.str (wyL dn)),none] H') (λ R hR=>?_) ?_
 ·cases e:lfT t with
  | some T =>
   obtain ⟨g1,g2,g3,g4⟩:=sk e ld okt
   rw [g4]
   refine ⟨_,Y,Y,_,Y,bY rfl ?_⟩
   refine ⟨_,Y,_,Y,c,_,0,_,Y,Y,SqT.of (s1 _ _ hc),Y,_,Y,c,_,1,_,Y,Y,SqT.of (s1 _ _ hc),Y,_,Y,zS5,λ sp hsp=>?_⟩
   obtain ⟨H2,e2,k2,s2⟩:∃H',upd H1 sp (.tup [.int 0,.int 0,.int w1,.int h1,v])=H'/\H' sp=some (.tup [.int 0,.int 0,.int w1,.int h1,v])/\Same H1 H':=⟨_,Y,af,Same.new hsp⟩
   rw [show upd H1 sp _=H2 from e2]
   have s02:=s1.trans s2
   refine ⟨pp,b,0,0,w1,h1,s,sp,ks,v,d,Y,eC s02 SH,k2,hd.same s02,λ H3 s3=>⟨_,Y,?_⟩⟩
   rw [g1]
   have s03:=s02.trans s3
   obtain ⟨ys,er⟩:=TrD.head g2
   obtain ⟨a,xs,T0,rfl,hx,dx,_,_⟩:=hd.rowT (K:=K) er
   refine aL ?_
   rcases hx with hx | hx
   ·exact ⟨_,Y,a,_,Y,.inl ⟨SqL.of (s03 _ _ hx),λ l hl=>q _ _ (ss e g2 er dx af) (s03.trans (Same.new hl))⟩⟩
   ·exact ⟨_,Y,a,_,Y,.inr ⟨SqT.of (s03 _ _ hx),q _ _ (ss e g2 er dx (s03 _ _ hx)) s03⟩⟩
  | none =>
   cases t with
   | row dn r=>exact ⟨_,Y,Y,_,Y,bJ rfl (hR dn r _ rfl s1)⟩
   | rest=>cases e
   | piece=>cases e
 clear s1
 clear H1
 rintro dn r H1 rfl s1
 obtain ⟨e2,er,l2⟩:=rY ld
 obtain ⟨a,xs,T0,rfl,hx,dx,_,_⟩:=hd.rowT (K:=K) er
 cases dx with
 | @cons x0 _ xs0 _ g0 dx =>
 cases dx with
 | @cons x1 _ xs1 _ g1 dx =>
 cases dx
 cases g0
 rw [okL] at okt
 obtain ⟨o1,o2,o3,o4⟩:=okt
 rw [lcT] at l63
 have items:=fg o4
 have ll:=jH o4 λ z hz=>lS b0 (items z hz).2.2
 rw [<- dk r] at l2
 have hr0:ofL (toL r)=r:=dk r
 refine aj (λ R=>∀ (H':Hp),Same H H'->R [some (.ref s),some (.ref c),some (.ref a),some (.str (wyL dn)),none] H') (λ Dd hR=>?_) ?_
 ·have SH1:=eC s1 SH
  obtain ⟨dx',r',rs',S1',S2',S3'⟩:=id SH1
  refine ⟨_,Y,s,dx',_,Y,S1',(dP _ _ (by decide +kernel) (by decide +kernel)),s,b,ks,Y,SH1,_,Y,_,Y,c,w1,h1,dn,Y,s1 _ _ hc,_,Y,_,Y,ixR s1 hx (aR (by decide) rfl) ⟨pp,x1,e2,b,_,toL r,dn,Y,g1.same s1,l2,o1,by omega,λ z hz=>⟨(items z hz).1,(items z hz).2.1⟩,o2,λ H2 s2=>⟨_,Y,aL (hR _ (s1.trans s2))⟩⟩⟩
 clear s1
 clear H1
 rintro H1 s1
 obtain ⟨es,er2,le⟩:=l2.row_of rfl
 obtain ⟨el,eg⟩:=ib le
 obtain ⟨a2,xs2,T2,rfl,hx2,dx2,_,_⟩:=g1.rowT (K:=K) er2
 have xl:=dx2.length
 refine aj (λ R=>∀ (rl:Addr) (us:List V) (H':Hp),H' rl=some (.lst us)->Paired (ItV H') us (toL r)->Same H H'->R [some (.ref s),some (.ref c),some (.ref a),some (.str (wyL dn)),some (.ref rl)] H') (λ Dd hR=>?_) ?_
 ·have hx3:=hx2.imp (s1 _ _) (s1 _ _)
  refine ⟨_,Y,ixR s1 hx (aR (by decide) rfl) ⟨a2,Y,fL (K:=K) hx3 (λ i us Hx=>Same H1 Hx/\Paired (ItV Hx) us ((toL r).take i)) (λ i us Hx _ e o h=>e.1 _ _ h) ⟨Same.refl _,.nil⟩ ?_ ?_⟩⟩
  ·rintro i x us Hx hi ⟨sx,pu⟩
   have hin:i < xs2.length:=(List.getElem?_eq_some_iff.mp hi).1
   obtain ⟨e,he,hxe⟩:=dx2.get hi
   obtain ⟨z,hz,lz⟩:=eg i e he
   obtain ⟨e3,er3,l3⟩:=lQ lz
   obtain ⟨a3,xs3,rfl,hx3',dx3⟩:=hxe.ref_row er3
   cases dx3 with
   | @cons y0 _ ys0 _ g0 dx3 =>
   cases dx3 with
   | @cons y1 _ ys1 _ g3 dx3 =>
   cases dx3
   cases g0
   have ul:=Paired.length pu
   rw [List.length_take] at ul
   have s0x:=s1.trans sx
   have hm:=List.mem_of_getElem? hz
   obtain ⟨m1,m2,m3⟩:=items z hm
   have sq:=(hx3'.imp (s0x _ _) (s0x _ _)).imp (λ z=>SqL.of (K:=K) z) λ z=>SqT.of (K:=K) z
   have dpt:=fj (n:=0) (t:=.rest) (dn:=dn) hm
   have lcm:=lR hm
   refine ⟨by omega,a3,_,Y,sq,Y,_,_,Y,_,_,Y,Y,vS (leS.set rfl) (leS.set rfl),cA ?_⟩
   refine ⟨_,Y,_,Y,_,Y,_,Y,_,Y,c,w1,h1,z.1,dn,Y,s0x _ _ hc,λ c' H3 hc' s3=>?_⟩
   refine ⟨_,Y,pp,s,c',b,_,_,ks,y1,e3,z.2,Y,eC (s0x.trans s3) SH,hc',g3.same (s0x.trans s3),l3,m3,b0,by omega,by omega,by omega,λ u H4 tv s4=>⟨zS2,λ it hit=>?_⟩⟩
   obtain ⟨H5,e5,k5,s5⟩:∃H',upd H4 it (.tup [.int z.1,u])=H'/\H' it=some (.tup [.int z.1,u])/\Same H4 H':=⟨_,Y,af,Same.new hit⟩
   rw [show upd H4 it _=H5 from e5]
   have sx5:=s3.trans (s4.trans s5)
   refine Nx.of hin ⟨sx.trans sx5,?_⟩
   rw [List.take_add_one,hz]
   exact dJ (Paired.mapP pu λ v t h=>h.keep λ a xs e=>sx5 _ _ e) (.cons ⟨it,u,Y,k5,TlV.keep (λ a xs e=>s5 _ _ e) _ tv⟩ .nil)
  ·rintro us Hx ⟨sx,pu⟩
   rw [show (toL r).take xs2.length=toL r by rw [show xs2.length=(toL r).length by omega,List.take_length]] at pu
   have ul:=Paired.length pu
   refine ⟨by omega,λ rl hrl=>?_⟩
   obtain ⟨H5,e5,k5,s5⟩:∃H',upd Hx rl (.lst us)=H'/\H' rl=some (.lst us)/\Same Hx H':=⟨_,Y,af,Same.new hrl⟩
   rw [show upd Hx rl _=H5 from e5]
   exact hR rl us _ k5 (Paired.mapP pu (λ v t h=>h.keep λ a xs e=>s5 _ _ e)) (s1.trans (sx.trans s5))
 clear s1
 clear H1
 rintro rl us H1 hrl pu s1
 have ul:=Paired.length pu
 have rd:(PyData.list (bm r)).canLay0=true/\(PyData.list (bm r)).depth<=210:=by
  refine ⟨by simp only [PyData.canLay0]; exact eY r,?_⟩
  have:max 0 (max (PyData.depthAll (bm r) + 1) 0) + 1<=200:=d200
  show PyData.depthAll (bm r) + 1<=210
  omega
 refine aj (λ R=>∀ (H':Hp),Same H1 H'->R [some (.ref s),some (.ref c),some (.ref a),some (.str (wyL dn)),some (.ref rl)] H') (λ Dd hR=>?_) ?_
 ·obtain ⟨ps,rfl,eps,ips⟩:=hV pu
  have pl:ps.length=(toL r).length:=by rw [eps,List.length_map]
  refine ⟨_,Y,_,Y,rl,ps,Y,SqL.of hrl,by omega,λ z hz=>⟨(ips z hz).dat,?_⟩,λ l ps' hl pm pw=>?_⟩
  ·have:=fj (n:=0) (t:=.rest) (dn:=dn) (show z.2∈toL r by rw [eps]; exact List.mem_map.mpr ⟨z,hz,Y⟩)
   omega
  obtain ⟨H2,e2,k2,s2⟩:∃H',upd H1 l (.lst (ps'.map λ z=>V.ref z.1))=H'/\H' l=some (.lst (ps'.map λ z=>V.ref z.1))/\Same H1 H':=⟨_,Y,af,Same.new hl⟩
  rw [show upd H1 l _=H2 from e2]
  have e9:ps'.map (·.2)=toL r:=by
   rw [fO (pm.map _) pw,<- eps,<- fO (.refl _) o3]
  have p1:Paired (ItV H2) (ps.map λ z=>V.ref z.1) (toL r):=Paired.mapP pu λ v t h=>h.keep λ a xs e=>s2 _ _ e
  have p2:Paired (ItV H2) (ps'.map λ z=>V.ref z.1) (toL r):=by
   rw [<- e9]
   exact hW λ z hz=>(ips z (pm.mem_iff.mp hz)).keep λ a xs e=>s2 _ _ e
  have d1:=jI (K:=K) p1
  have d2:=jI (K:=K) p2
  rw [hr0] at d1 d2
  refine ⟨.list (bm r),.list (bm r),.lst (SqL.of (s2 _ _ hrl)) d1,.lst (SqL.of k2) d2,rd.1,rd.1,rd.2,_,Y,?_⟩
  rw [SeqAt.eqv_refl _ rd.1]
  exact bJ rfl (hR _ s2)
 rintro H2 s2
 refine ⟨_,Y,_,Y,rl,_,Y,.inl ⟨SqL.of (s2 _ _ hrl),λ tq htq=>?_⟩⟩
 obtain ⟨H3,e3,k3,s3⟩:∃H',upd H2 tq (.tup us)=H'/\H' tq=some (.tup us)/\Same H2 H':=⟨_,Y,af,Same.new htq⟩
 rw [show upd H2 tq _=H3 from e3]
 refine ⟨zS2,λ fr hfr=>?_⟩
 obtain ⟨H4,e4,k4,s4⟩:∃H',upd H3 fr (.tup [.str (wyL dn),.ref tq])=H'/\H' fr=some (.tup [.str (wyL dn),.ref tq])/\Same H3 H':=⟨_,Y,af,Same.new hfr⟩
 rw [show upd H3 fr _=H4 from e4]
 have s14:=s2.trans (s3.trans s4)
 refine q _ H4 ?_ (s1.trans s14)
 rw [TlV]
 refine ⟨fr,tq,_,Y,k4,s4 _ _ k3,?_⟩
 rw [<- hr0]
 exact fe (Paired.mapP pu λ v t h=>h.keep λ a xs e=>s14 _ _ e)
theorem uB {f C:Addr} {fd:FuncData} (F:Fun K "as_telling" "as_telling" bK f fd):FnOk P w K mg base CX0 6 f fd ["shop","part","thing"] (spAsT C 0):=by
 refine F.ok scast (λ vs H Q E h=>?_) (λ cdv A outer s H vs Q E hr h=>?_)
 ·obtain ⟨pp,s,c,b,w1,h1,ks,v,d,t,rfl,_⟩:=h
  rfl
 ·obtain ⟨pp,s,c,b,w1,h1,ks,v,d,t,rfl,_,_,_,_,_,_,_,z,_⟩:=h
  exact absurd z (Nat.not_lt_zero _)
theorem nh {f C:Addr} {fd:FuncData} (F:Fun K "as_telling" "as_telling" bK f fd) (B:Blt mg) (T:ShopTxt K C) (MB:Mn P w K mg base C "blade" ["self"] 1 (dQ C)) (DF:Dn P w K mg base "is_leaf" ["shop","spot"] 5 (spLeaf C)) (DWo:Dn P w K mg base "way_of" ["thing"] 3 (fi)) (DSA:Dn P w K mg base "side_along" ["part","way"] 1 (spSideA)) (DPA:Dn P w K mg base "part_along" ["part","way","size"] 1 (gE)) (DDv:Dn P w K mg base "is_divided" ["blade","side","way","row"] 5 (jG)) (mk:∀n,FnOk P w K mg base CX0 (6 + n) f fd ["shop","part","thing"] (spAsT C n)->Dn P w K mg base "as_telling" ["shop","part","thing"] (6 + n) (spAsT C n)):∀n,FnOk P w K mg base CX0 (6 + n) f fd ["shop","part","thing"] (spAsT C n)
 | 0=>uB F
 | n + 1=>vT F B T n MB DF DWo DSA DPA DDv (mk n (nh F B T MB DF DWo DSA DPA DDv mk n))
theorem sctbt:FnScope ["telling","way","trees","tree","size","ahead"] ["telling"] (defScope bi):=⟨Y,Y,Y,by decide +kernel,Y,by decide +kernel,by decide +kernel⟩
set_option maxHeartbeats 1000000 in
theorem vU {f wa:Addr} {fd:FuncData} (F:Fun K "tree_by_telling" "tree_by_telling" bi f fd) (B:Blt mg) (Z:TrC K mg wa) (rv:mg "reversed" = none) (n:Nat) (DT:Dn P w K mg base "tree_by_telling" ["telling"] (1 + n) (spTbt n)):FnOk P w K mg base CX0 (1 + (n + 1)) f fd ["telling"] (spTbt (n + 1)):=by
 refine F.ok sctbt (λ vs H Q E h=>?_) (λ cdv A outer s H vs Q E hr h=>?_)
 ·obtain ⟨b,w1,h1,ks,v,t,rfl,_⟩:=h
  rfl
 obtain ⟨b,w1,h1,ks,v,t,rfl,tv,okt,b0,l63,dn0,q⟩:=h
 have nd:=sctbt.nd
 refine ⟨_,(@ae _ _ _ _ _ (@aD _ _ 1 _ _ _ _ nd Y (Or.inl Y) (@ao _ _ _ _ _ _ _ ix_tup (pv 0) ad (λ _ _=>Y)) Y (Or.inl Y)) (@ae _ _ _ _ _ (@aG _ _ _ _ _ _ _ _ (@aE _ _ _ _ _ _ _ _ cV (pv 1) (bj (v:=.ref wa) Y Z.wy Y) Y) (@ag _ _ _ (@ar _ _ _ _ (pv 0))) aB) (@ae _ _ _ _ _ (mv (i:=2) (own:=["size","inner"]) (cs:=[]) (cap:=[]) Y nd Y Y Y (fu (@ao _ _ _ _ _ _ _ ix_tup (pv 0) ad (λ _ _=>Y))) (bS (sc:=defScope bi) (N:=["telling","way","trees","tree","size","ahead"]) Y Y (by decide +kernel)) (λ _ _ _ _ _=>qM K Y Y (by show List.Nodup (["size","inner"]:List Str) ; decide +kernel) Y Y Y Y) (λ _ _ _ _ _=>cz) (λ _ _ _ _ _=>(@az _ _ _ _ _ ((pv 0)^^^((@am _ _ _ _ _ _ _ _ _ _ DT hr Y ((pv 1)^^^ab) (by decide) Y Y)^^^ab))))) (@ae _ _ _ _ _ (@aD _ _ 3 _ _ _ _ nd Y (Or.inl Y) (@ao _ _ _ _ _ _ _ ix_tup (@ao _ _ _ _ _ _ _ ix_list (pv 2) (@uQ _ _ _ _ _ _ qi ad) (λ _ _=>Y)) ad (λ _ _=>Y)) Y (Or.inl Y)) (@ae _ _ _ _ _ (@ce _ _ _ _ _ _ _ _ PassesOwn.never Y (vH Y rv ((@gM _ _ _ _ _ _ _ _ _ _ tL (pv 2) mr (gn (@uQ _ _ _ _ _ _ qi ad)))^^^ab)) (aX Y (ah (ai (i:=4) nd Y (Or.inl Y)) (ah (ai (i:=5) nd Y (Or.inl Y)) aK))) (@ag _ _ _ (@aD _ _ 3 _ _ _ _ nd Y (Or.inl Y) (@az _ _ _ _ _ ((pv 1)^^^((pv 4)^^^((pv 5)^^^((pv 3)^^^ab))))) Y (Or.inl Y))) (by intro _; rfl)) (@ag _ _ _ (@ar _ _ _ _ (pv 3)))))))),?_⟩
 have sz:(1000:Nat) < sizeLine:=by decide
 cases e:lfT t with
 | some T =>
  have hh:∃a xs y,v=.ref a/\H a=some (.tup (.str y :: xs))/\inV (V.str y) [V.str "down",V.str "across"]=false/\TrV H (aQ t) v:=by
   cases t with
   | rest =>
    rw [TlV] at tv
    obtain ⟨a,ea,ha⟩:=tv
    rw [aQ]
    exact ⟨a,_,_,ea,ha,by decide +kernel,a,ea,ha⟩
   | piece i cc x y =>
    rw [TlV] at tv
    obtain ⟨a,ea,ha⟩:=tv
    rw [aQ]
    exact ⟨a,_,_,ea,ha,by decide +kernel,a,ea,ha⟩
   | row=>cases e
  obtain ⟨a,xs,y,rfl,ha,iv,tr⟩:=hh
  refine ⟨_,Y,a,_,0,_,Y,Y,SqT.of ha,aR (Int.le_refl _) rfl,_,Y,wa,_,Y,.inr (Z.wq _),Y,Y,_,Y,?_⟩
  show (if (!inV (V.str y) [V.str "down",V.str "across"])=true then _ else _)
  rw [iv]
  exact aU ⟨_,rfl,q _ _ tr (Same.refl _)⟩
 | none =>
 cases t with
 | rest=>cases e
 | piece=>cases e
 | row dn r =>
 rw [TlV] at tv
 obtain ⟨a,qa,xs,rfl,ha,hq,tvs⟩:=tv
 have its:=jJ tvs
 have xl:=Paired.length its
 rw [okL] at okt
 obtain ⟨o1,o2,o3,o4⟩:=okt
 rw [lcT] at l63
 have items:=fg o4
 have ll:=jH o4 λ z hz=>lS b0 (items z hz).2.2
 refine aj (λ R=>R [some (.ref a),some (.str (wyL dn)),none,none,none,none] H) (λ Dd hR=>?_) ?_
 ·exact ⟨_,Y,a,_,0,_,Y,Y,SqT.of ha,Y,hR⟩
 skip
 refine aj (λ R=>R [some (.ref a),some (.str (wyL dn)),none,none,none,none] H) (λ Dd hR=>?_) ?_
 ·refine ⟨_,Y,wa,_,Y,.inr (Z.wq _),Y,Y,_,Y,?_⟩
  show (if (!inV (V.str (wyL dn)) [V.str "down",V.str "across"])=true then _ else _)
  rw [vf]
  exact aL (hR)
 skip
 refine aj (λ R=>∀ (tl:Addr) (us:List V) (H':Hp),H' tl=some (.lst us)->Paired (TmV H') us (toL r)->Same H H'->R [some (.ref a),some (.str (wyL dn)),some (.ref tl),none,none,none] H') (λ Dd hR=>?_) ?_
 ·refine ⟨_,Y,a,_,1,_,Y,Y,SqT.of ha,Y,qa,Y,⟨_,SqT.of hq⟩,(cQ (K:=K) (.inr hq) (λ i us Hx=>Same H Hx/\Paired (TmV Hx) us ((toL r).take i)) (λ i us Hx _ e o h=>e.1 _ _ h) ⟨Same.refl _,.nil⟩ ?_ ?_).2 hq⟩
  ·rintro i x us Hx hi ⟨sx,pu⟩
   have hin:i < xs.length:=(List.getElem?_eq_some_iff.mp hi).1
   obtain ⟨z,hz,a3,u3,rfl,h3,tv3⟩:=Paired.getR its hi
   have ul:=Paired.length pu
   rw [List.length_take] at ul
   have hm:=List.mem_of_getElem? hz
   obtain ⟨m1,m2,m3⟩:=items z hm
   have dpt:=fj (n:=0) (t:=.rest) (dn:=dn) hm
   have lcm:=lR hm
   refine ⟨by omega,a3,_,Y,SqT.of (sx _ _ h3),Y,_,_,Y,_,_,Y,Y,vS (leS.set rfl) (leS.set rfl),cA ?_⟩
   refine ⟨_,Y,_,Y,b,_,_,ks,u3,z.2,Y,TlV.keep (λ a xs e=>sx _ _ e) _ tv3,m3,b0,by omega,by omega,λ u H4 tv s4=>⟨zS2,λ it hit=>?_⟩⟩
   obtain ⟨H5,e5,k5,s5⟩:∃H',upd H4 it (.tup [.int z.1,u])=H'/\H' it=some (.tup [.int z.1,u])/\Same H4 H':=⟨_,Y,af,Same.new hit⟩
   rw [show upd H4 it _=H5 from e5]
   have sx5:=s4.trans s5
   refine Nx.of hin ⟨sx.trans sx5,?_⟩
   rw [List.take_add_one,hz]
   exact dJ (Paired.mapP pu λ v t h=>h.keep λ a xs e=>sx5 _ _ e) (.cons ⟨it,u,Y,k5,TrV.keep (λ a xs e=>s5 _ _ e) _ tv⟩ .nil)
  ·rintro us Hx ⟨sx,pu⟩
   rw [show (toL r).take xs.length=toL r by rw [xl,List.take_length]] at pu
   have ul:=Paired.length pu
   refine ⟨by omega,λ rl hrl=>?_⟩
   obtain ⟨H5,e5,k5,s5⟩:∃H',upd Hx rl (.lst us)=H'/\H' rl=some (.lst us)/\Same Hx H':=⟨_,Y,af,Same.new hrl⟩
   rw [show upd Hx rl _=H5 from e5]
   exact hR rl us _ k5 (Paired.mapP pu (λ v t h=>h.keep λ a xs e=>s5 _ _ e)) (sx.trans s5)
 rintro tl us H1 htl pu s1
 rcases List.eq_nil_or_concat us with rfl | ⟨us',u0,rfl⟩
 ·have:=Paired.length pu
  rw [<- this] at o1
  exact absurd o1 (by simp)
 rw [List.concat_eq_append] at pu htl
 obtain ⟨l',z0,el,pu',a0,t0,rfl,h0,tv0⟩:=kA pu
 have pl':=Paired.length pu'
 have erow:r=ofL (l' ++ [z0]):=by rw [<- el,dk]
 have l1:(toL r).length=l'.length + 1:=by rw [el,List.length_append]; rfl
 refine aj (λ R=>R [some (.ref a),some (.str (wyL dn)),some (.ref tl),some t0,none,none] H1) (λ Dd hR=>?_) ?_
 ·exact ⟨_,Y,1,Y,tl,_,_,_,Y,Y,SqL.of htl,qw _ _,a0,_,1,_,Y,Y,SqT.of h0,Y,hR⟩
 skip
 refine aj (λ R=>∀ (v3:V) (v4 v5:Option V) (H':Hp),TrV H' (trs dn r) v3->Same H H'->R [some (.ref a),some (.str (wyL dn)),some (.ref tl),some v3,v4,v5] H') (λ Dd hR=>?_) ?_
 ·refine ⟨_,Y,1,Y,_,Y,tl,_,Y,SqL.of htl,λ sl hsl=>?_⟩
  have ecut:gf (us' ++ [V.ref a0]) none (some (-1))=us':=by
   unfold gf
   rw [show HT.sIx (us' ++ [V.ref a0]).length 0 none=0 from rfl,List.drop_zero,Nat.sub_zero]
   rw [show HT.sIx (us' ++ [V.ref a0]).length (us' ++ [V.ref a0]).length (some (-1))=us'.length by rw [List.length_append]; unfold HT.sIx; simp; try omega]
   rw [List.take_left]
  rw [ecut]
  obtain ⟨H2,e2,k2,s2⟩:∃H',upd H1 sl (.lst us')=H'/\H' sl=some (.lst us')/\Same H1 H':=⟨_,Y,af,Same.new hsl⟩
  rw [show upd H1 sl _=H2 from e2]
  have k12:∀a xs,H1 a=some (.tup xs)->H2 a=some (.tup xs):=λ a xs e=>s2 _ _ e
  refine ⟨sl,_,Y,SqL.of k2,tX (xs:=us') (λ i σ' H'=>(∃ (v3:V) (v4 v5:Option V),σ'=[some (.ref a),some (.str (wyL dn)),some (.ref tl),some v3,v4,v5]/\TrV H' (trs dn (ofL ((toL r).drop (l'.length - i)))) v3)/\Same H2 H') ⟨⟨_,_,_,Y,?_⟩,Same.refl _⟩ (λ i σ H' _ h=>SqL.of (h.2 _ _ k2)) ?_ ?_⟩
  ·rw [el,Nat.sub_zero,List.drop_left,ofL,ofL,jE]
   exact TrV.keep k12 _ tv0
  ·rintro i x σ H3 hi hx ⟨⟨v3,v4,v5,rfl,tv3⟩,s3⟩
   obtain ⟨z,hz,a3,u3,rfl,h3,tvz⟩:=Paired.getR pu' hx
   have h3':=s3 _ _ (s2 _ _ h3)
   refine ⟨a3,_,Y,SqT.of h3',Y,_,_,Y,_,_,Y,Y,?_⟩
   refine ⟨_,Y,_,Y,_,Y,_,Y,zS4,λ nt hnt=>?_⟩
   obtain ⟨H4,e4,k4,s4⟩:∃H',upd H3 nt (.tup [.str (wyL dn),.int z.1,u3,v3])=H'/\H' nt=some (.tup [.str (wyL dn),.int z.1,u3,v3])/\Same H3 H':=⟨_,Y,af,Same.new hnt⟩
   rw [show upd H3 nt _=H4 from e4]
   refine ⟨⟨_,_,_,Y,?_⟩,s3.trans s4⟩
   have k34:∀a xs,H3 a=some (.tup xs)->H4 a=some (.tup xs):=λ a xs e=>s4 _ _ e
   have hzr:(toL r)[l'.length - (i + 1)]? = some z:=by
    rw [el,List.getElem?_append_left (by omega)]
    rw [pl'] at hz
    rw [show l'.length - (i + 1)=l'.length - 1 - i by omega]
    exact hz
   have hlt:l'.length - (i + 1) < (toL r).length:=by omega
   have dd:(toL r).drop (l'.length - (i + 1))=z :: (toL r).drop (l'.length - i):=by
    rw [List.drop_eq_getElem_cons hlt,show l'.length - (i + 1) + 1=l'.length - i by omega]
    congr 1
    rw [List.getElem?_eq_getElem hlt] at hzr
    exact Option.some.inj hzr
   rw [dd]
   obtain ⟨y,ys,ey⟩:∃y ys,(toL r).drop (l'.length - i)=y :: ys:=by
    cases hd:(toL r).drop (l'.length - i) with
    | nil =>
     have:=congrArg List.length hd
     rw [List.length_drop] at this
     have:(toL r).length - (l'.length - i)=0:=this
     omega
    | cons y ys=>exact ⟨y,ys,Y⟩
   rw [ey] at tv3 ⊢
   rw [ofL,ofL,dY]
   rw [ofL] at tv3
   exact ⟨nt,u3,v3,Y,k4,TrV.keep (λ a xs e=>k34 _ _ (s3 _ _ (s2 _ _ e))) _ tvz,TrV.keep k34 _ tv3⟩
  ·rintro σ H3 ⟨⟨v3,v4,v5,rfl,tv3⟩,s3⟩
   rw [pl',Nat.sub_self,List.drop_zero,dk] at tv3
   exact hR v3 v4 v5 _ tv3 (s1.trans (s2.trans s3))
 rintro v3 v4 v5 H2 tv3 s2
 exact ⟨_,Y,q _ _ (by rw [fh]; exact tv3) s2⟩
theorem uC {f:Addr} {fd:FuncData} (F:Fun K "tree_by_telling" "tree_by_telling" bi f fd):FnOk P w K mg base CX0 1 f fd ["telling"] (spTbt 0):=by
 refine F.ok sctbt (λ vs H Q E h=>?_) (λ cdv A outer s H vs Q E hr h=>?_)
 ·obtain ⟨b,w1,h1,ks,v,t,rfl,_⟩:=h
  rfl
 ·obtain ⟨b,w1,h1,ks,v,t,rfl,_,_,_,_,z,_⟩:=h
  exact absurd z (Nat.not_lt_zero _)
theorem ni {f wa:Addr} {fd:FuncData} (F:Fun K "tree_by_telling" "tree_by_telling" bi f fd) (B:Blt mg) (Z:TrC K mg wa) (rv:mg "reversed" = none) (mk:∀n,FnOk P w K mg base CX0 (1 + n) f fd ["telling"] (spTbt n)->Dn P w K mg base "tree_by_telling" ["telling"] (1 + n) (spTbt n)):∀n,FnOk P w K mg base CX0 (1 + n) f fd ["telling"] (spTbt n)
 | 0=>uC F
 | n + 1=>vU F B Z rv n (mk n (ni F B Z rv mk n))
theorem sctreeto:FnScope ["shop","wide","high","telling"] ["shop","wide","high","telling"] (defScope dW):=⟨Y,Y,Y,by decide +kernel,Y,by decide +kernel,by decide +kernel⟩
theorem oC {f C:Addr} {fd:FuncData} (F:Fun K "tree_told" "tree_told" dW f fd) (B:Blt mg) (DCP:Dn P w K mg base "check_plate" ["wide","high"] 2 (spCP)) (DA:Dn P w K mg base "as_telling" ["shop","part","thing"] 157 (spAsT C 151)) (DT:Dn P w K mg base "tree_by_telling" ["telling"] 152 (spTbt 151)):FnOk P w K mg base CX0 160 f fd ["shop","wide","high","telling"] (spTreeTo C):=by
 refine F.ok sctreeto (λ vs H Q E h=>?_) (λ cdv A outer s H vs Q E hr h=>?_)
 ·obtain ⟨pp,s,b,w1,h1,ks,v,d,t,rfl,_⟩:=h
  rfl
 obtain ⟨pp,s,b,w1,h1,ks,v,d,t,rfl,SH,w0,h0,hd,ld,okt,b0,l63,d150,q⟩:=h
 have nd:=sctreeto.nd
 refine ⟨_,(@ae _ _ _ _ _ (@bC _ _ _ _ (@am _ _ _ _ _ _ _ _ _ _ DCP (hr.mono (by decide)) Y ((pv 1)^^^((pv 2)^^^ab)) (by decide) Y Y) Y) (@ag _ _ _ (@ar _ _ _ _ (@am _ _ _ _ _ _ _ _ _ _ DT (hr.mono (by decide)) Y ((@am _ _ _ _ _ _ _ _ _ _ DA (hr.mono (by decide)) Y ((pv 0)^^^((@az _ _ _ _ _ ((pv 1)^^^((pv 2)^^^ab)))^^^((pv 3)^^^ab))) (by decide) Y Y)^^^ab) (by decide) Y Y)))),?_⟩
 refine ⟨_,Y,_,Y,w1,h1,Y,w0,h0,?_⟩
 refine ⟨_,Y,_,Y,_,Y,zS2,λ c hc=>?_⟩
 obtain ⟨H2,e2,k2,s2⟩:∃H',upd H c (.tup [.int w1,.int h1])=H'/\H' c=some (.tup [.int w1,.int h1])/\Same H H':=⟨_,Y,af,Same.new hc⟩
 rw [show upd H c _=H2 from e2]
 exact ⟨_,Y,pp,s,c,b,w1,h1,ks,v,d,t,Y,eC s2 SH,k2,hd.same s2,ld,okt,b0,l63,by omega,by omega,λ u H3 tv s3=>⟨b,w1,h1,ks,u,t,Y,tv,okt,b0,l63,by omega,λ u2 H4 tr s4=>q u2 H4 tr (s2.trans (s3.trans s4))⟩⟩
end
def pcT (b:Int):Tr->Int->Int->List Pq
 | .rest,_,_=>[]
 | .piece i c px py,x,y=>[⟨i,c,x + px,y + py⟩]
 | .cut dn p l r,x,y=>pcT b l x y ++ (if dn=true then pcT b r (x + (p + b)) y else pcT b r x (y + (p + b)))
structure Lf where
 x:Int
 y:Int
 w:Int
 h:Int
 t:Tr
def lvT (b:Int):Tr->Int->Int->Int->Int->List Lf
 | .cut dn p l r,x,y,w,h=>if dn=true then lvT b l x y p h ++ lvT b r (x + (p + b)) y (w - p - b) h else lvT b l x y w p ++ lvT b r x (y + (p + b)) w (h - p - b)
 | .rest,x,y,w,h=>[⟨x,y,w,h,.rest⟩]
 | .piece i c px py,x,y,w,h=>[⟨x,y,w,h,.piece i c px py⟩]
def lfQ (f:Lf):Option Pq:=match f.t with
 | .piece i c px py=>some ⟨i,c,f.x + px,f.y + py⟩
 | _=>none
theorem fT (b:Int):∀ (t:Tr) (x y w h:Int),(lvT b t x y w h).filterMap lfQ=pcT b t x y
 | .rest,_,_,_,_=>rfl
 | .piece ..,_,_,_,_=>rfl
 | .cut true p l r,x,y,w,h=>by
  show (lvT b l x y p h ++ lvT b r (x + (p + b)) y (w - p - b) h).filterMap lfQ=pcT b l x y ++ pcT b r (x + (p + b)) y
  rw [List.filterMap_append,fT b l,fT b r]
 | .cut false p l r,x,y,w,h=>by
  show (lvT b l x y w p ++ lvT b r x (y + (p + b)) w (h - p - b)).filterMap lfQ=pcT b l x y ++ pcT b r x (y + (p + b))
  rw [List.filterMap_append,fT b l,fT b r]
theorem dq (b:Int):∀ (t:Tr) (x y w h:Int),(lvT b t x y w h).length=lvN t
 | .rest,_,_,_,_=>rfl
 | .piece ..,_,_,_,_=>rfl
 | .cut true p l r,x,y,w,h=>by
  show (lvT b l x y p h ++ lvT b r (x + (p + b)) y (w - p - b) h).length=lvN l + lvN r
  rw [List.length_append,dq b l,dq b r]
 | .cut false p l r,x,y,w,h=>by
  show (lvT b l x y w p ++ lvT b r x (y + (p + b)) w (h - p - b)).length=lvN l + lvN r
  rw [List.length_append,dq b l,dq b r]
theorem ic (b:Int) (t:Tr) (x y:Int):(pcT b t x y).length<=lvN t:=by
 rw [<- fT b t x y 0 0,<- dq b t x y 0 0]
 exact List.length_filterMap_le _ _
def jK (q:Pq):List Int:=[(q.k:Int),if q.c=true then 1 else 0,q.x,q.y]
theorem su {p q:Pq} (h:jK p=jK q):p=q:=by
 obtain ⟨a,b,c,d⟩:=p
 obtain ⟨a',b',c',d'⟩:=q
 unfold jK at h
 simp only [List.cons.injEq,and_true] at h
 obtain ⟨h1,h2,h3,h4⟩:=h
 have h1:a=a':=by omega
 have h2:b=b':=by cases b <;> cases b' <;> simp_all
 rw [h1,h2,h3,h4]
theorem yq {ps qs:List Pq} (h:ps.Perm qs) (h1:(ps.map jK).Pairwise λ x y=>aP y x=false) (h2:(qs.map jK).Pairwise λ x y=>aP y x=false):ps=qs:=by
 rw [List.pairwise_map] at h1 h2
 exact h.eq_of_pairwise (λ a c _ _ x y=>su (cS _ _ y x)) h1 h2
def PqU (H:Hp) (v:V) (q:Pq):Prop:=∃a,v=.ref a/\H a=some (.tup (pqV q))
theorem PqU.keep {H H':Hp} (k:∀a xs,H a=some (.tup xs)->H' a=some (.tup xs)) {v:V} {q:Pq} (h:PqU H v q):PqU H' v q:=by
 obtain ⟨a,e,h⟩:=h
 exact ⟨a,e,k _ _ h⟩
def qA (H:Hp) (a:Addr):Pq:=match H a with
 | some (.tup [.int k,.bl c,.int x,.int y])=>⟨k.toNat,c,x,y⟩
 | _=>⟨0,false,0,0⟩
theorem nj {H:Hp} {a:Addr} {p:Pq} (h:H a=some (.tup (pqV p))):qA H a=p:=by
 unfold qA
 rw [h]
 show (⟨(p.k:Int).toNat,p.c,p.x,p.y⟩:Pq)=p
 rw [Int.toNat_natCast]
def oE (H:Hp) (a:Addr):List Int:=match H a with
 | some (.tup [.int i,.bl c,.int x,.int y])=>[i,if c=true then 1 else 0,x,y]
 | _=>[]
theorem gF {H:Hp} {a:Addr} {p:Pq} (h:H a=some (.tup (pqV p))):oE H a=[(p.k:Int),if p.c=true then 1 else 0,p.x,p.y]:=by
 unfold oE
 rw [h]
 rfl
theorem lT {t:Tr} (h:dT t<=55):SeqAt.shaped (toD t)=true:=by
 obtain ⟨h1,h2⟩:=hX t
 unfold SeqAt.shaped
 rw [h1,h2,decide_eq_true (by omega)]
 rfl
def LfV (H:Hp) (v:V) (f:Lf):Prop:=∃a lv,v=.ref a/\H a=some (.tup [.int f.x,.int f.y,.int f.w,.int f.h,lv])/\TrV H f.t lv/\dT f.t=0
theorem LfV.same {H H':Hp} (s:Same H H') {v:V} {f:Lf} (h:LfV H v f):LfV H' v f:=by
 obtain ⟨a,lv,e,h,t,d⟩:=h
 exact ⟨a,lv,e,s _ _ h,TrV.keep (λ a xs e=>s _ _ e) f.t t,d⟩
theorem sw {H:Hp}:∀ {ys:List V} {qs:List (Nat×Bool)},Paired (LyC H) ys qs->Paired (PrB H) ys (qs.map λ q=>((q.1:Int),q.2))
 | _,_,.nil=>.nil
 | _,_,.cons h r=>.cons h (sw r)
section
variable {P:Program} {w:World} {K:PySem.W.Frag} {mg:Str->Option Value} {base:Heap}
inductive spPlain (vs:List V) (H:Hp) (Q:VK) (E_:XK):Prop
 | mk (i l:Int) (e_1:vs=[.int i,.int l]) (e_2:Q (.bl (decide (l<=i))) H):spPlain vs H Q E_
inductive spIsLf (vs:List V) (H:Hp) (Q:VK) (E_:XK):Prop
 | mk (t kl a:Addr) (b W h x y:Int) (ks:List Kd) (i:Nat) (c:Bool) (e_1:vs=[.ref t, .int W, .int h, .ref a]) (e_2:LS H t b ks kl) (e_3:ks.length<=8) (e_4:H a=some (.tup [.str "piece", .int i, .bl c, .int x, .int y])) (e_5:okU b ks W h (.piece i c x y)) (e_6:∀H', Same H H'->Q (.bl true) H'):spIsLf vs H Q E_
inductive spWalk (n:Nat) (vs:List V) (H:Hp) (Q:VK) (E_:XK):Prop
 | mk (t kl pa:Addr) (b x y W h:Int) (ks:List Kd) (v:V) (T:Tr) (e_1:vs=[.ref t,.ref pa,v]) (e_2:LS H t b ks kl) (e_3:ks.length<=8) (e_4:H pa=some (.tup [.int x,.int y,.int W,.int h])) (e_5:TrV H T v) (e_6:okU b ks W h T) (e_7:dT T<=55) (e_8:lvN T<=1000) (e_9:dT T < n) (e_10:∀ (l:Addr) (us:List V) (H':Hp),H' l=some (.lst us)->Paired (LfV H') us (lvT b T x y W h)->Same H H'->Q (.ref l) H'):spWalk n vs H Q E_
inductive spPcs (K:PySem.W.Frag) (vs:List V) (H:Hp) (Q:VK) (E_:XK):Prop
 | mk (l:Addr) (us:List V) (fs:List Lf) (e_1:vs=[.ref l]) (e_2:H l=some (.lst us)) (e_3:Paired (LfV H) us fs) (e_4:fs.length < 64) (e_5:∀ (r:Addr) (ys:List V) (qs:List Pq) (H':Hp),H r=none->H' r=some (.lst ys)->Paired (PqU H') ys qs->qs.Perm (fs.filterMap lfQ)->((qs.map jK).Pairwise λ x y=>aP y x=false)->Same H H'->Q (.ref r) H'):spPcs K vs H Q E_
theorem scplain:FnScope ["_law_thing","_law_least"] ["_law_thing","_law_least"] (defScope ju):=⟨Y,Y,Y,by decide +kernel,Y,by decide +kernel,by decide +kernel⟩
theorem sy {f:Addr} {fd:FuncData} (F:Fun K "_law_plain" "_law_plain" ju f fd) (B:Blt mg):FnOk P w K mg base CX0 1 f fd ["_law_thing","_law_least"] (spPlain):=by
 refine F.ok scplain (λ vs H Q E h=>?_) (λ cdv A outer s H vs Q E hr h=>?_)
 ·obtain ⟨i,l,rfl,_⟩:=h
  rfl
 obtain ⟨i,l,rfl,q⟩:=h
 have nd:=scplain.nd
 refine ⟨_,(@ag _ _ _ (@ar _ _ _ _ (bN (@aw _ _ _ _ _ _ _ _ _ bc Y B.isi PyProof.Rows.boot_isinstance ((pv 0)^^^((bE (v:=.ty "int") Y B.int PyProof.Rows.boot_int Y)^^^ab)) (by decide) (by decide) Y Y) (bN (kN (@aw _ _ _ _ _ _ _ _ _ bc Y B.isi PyProof.Rows.boot_isinstance ((pv 0)^^^((bE (v:=.ty "bool") Y B.bool PyProof.Rows.boot_bool Y)^^^ab)) (by decide) (by decide) Y Y)) (cM (@aW _ _ _ _ _ _ _ _ mj (pv 0) (pv 1) (ay _))))))),?_⟩
 have ty:TyOf K H (.int i) (.type "int"):=.int i
 refine ⟨_,Y,.int i,_,_,_,_,Y,ty,Y,mx "int" (by decide),_,Y,?_⟩
 refine aU ⟨_,rfl,.int i,_,_,_,_,rfl,ty,rfl,eU "int" (by decide),_,rfl,_,rfl,?_⟩
 exact aU ⟨_,rfl,_,rfl,_,_,rfl,rfl,q⟩
theorem scislf:FnScope ["_law_shop_here","_law_wide","_law_high","_law_tree_here","_law_own"] ["_law_shop_here","_law_wide","_law_high","_law_tree_here"] (defScope fb):=⟨Y,Y,Y,by decide +kernel,Y,by decide +kernel,by decide +kernel⟩
theorem uD {f:Addr} {fd:FuncData} (F:Fun K "_law_is_leaf" "_law_is_leaf" fb f fd) (B:Blt mg) (DPl:Dn P w K mg base "_law_plain" ["_law_thing","_law_least"] 1 (spPlain)) (DSd:Dn P w K mg base "_law_sides" ["_law_shop_here","_law_kind","_law_turned"] 1 (spSidesC)) (DLy:Dn P w K mg base "_law_lyings" ["_law_shop_here"] 1 (spLyingsC)):FnOk P w K mg base CX0 2 f fd ["_law_shop_here","_law_wide","_law_high","_law_tree_here"] (spIsLf):=by
 refine F.ok scislf (λ vs H Q E h=>?_) (λ cdv A outer s H vs Q E hr h=>?_)
 ·obtain ⟨t,kl,a,b,W,h1,x,y,ks,i,c,rfl,_⟩:=h
  rfl
 obtain ⟨t,kl,a,b,W,h1,x,y,ks,i,c,rfl,sh,k8,ha,okp,q⟩:=h
 have nd:=scislf.nd
 have hu65:=Nat.lt_of_succ_lt hr.units66
 refine ⟨_,(@ae _ _ _ _ _ (@aG _ _ _ _ _ _ _ _ (PW.pt (bq (@aE _ _ _ _ _ _ _ _ ej (@aw _ _ _ _ _ _ _ _ _ aN Y B.len PySem.boot_len ((pv 3)^^^ab) (by decide) (by decide) Y Y) ad (ay _)) (bq (@aM _ _ _ _ (@aH _ _ _ (@am _ _ _ _ _ _ _ _ _ _ DPl (hr.mono (by decide)) Y ((@ao _ _ _ _ _ _ _ ix_tup (pv 3) ad (λ _ _=>Y))^^^(ad^^^ab)) (by decide) Y Y) (by intro _; rfl))) (bz (@aM _ _ _ _ (@aH _ _ _ (@aw _ _ _ _ _ _ _ _ _ bc Y B.isi PyProof.Rows.boot_isinstance ((@ao _ _ _ _ _ _ _ ix_tup (pv 3) ad (λ _ _=>Y))^^^((bE (v:=.ty "bool") Y B.bool PyProof.Rows.boot_bool Y)^^^ab)) (by decide) (by decide) Y Y) (by intro _; rfl))))))) (@ag _ _ _ (@ar _ _ _ _ bI)) aB) (@ae _ _ _ _ _ (@aG _ _ _ _ _ _ _ _ (PW.pt (bq (@aE _ _ _ _ _ _ _ _ (nS hu65) (@gM _ _ _ _ _ _ _ _ _ _ qv (pv 3) (gn ad) (gn ad)) (@am _ _ _ _ _ _ _ _ _ _ DLy (hr.mono (by decide)) Y ((pv 0)^^^ab) (by decide) Y Y) Y) (bq (@aM _ _ _ _ (@aH _ _ _ (@am _ _ _ _ _ _ _ _ _ _ DPl (hr.mono (by decide)) Y ((@ao _ _ _ _ _ _ _ ix_tup (pv 3) ad (λ _ _=>Y))^^^(ad^^^ab)) (by decide) Y Y) (by intro _; rfl))) (bz (@aM _ _ _ _ (@aH _ _ _ (@am _ _ _ _ _ _ _ _ _ _ DPl (hr.mono (by decide)) Y ((@ao _ _ _ _ _ _ _ ix_tup (pv 3) ad (λ _ _=>Y))^^^(ad^^^ab)) (by decide) Y Y) (by intro _; rfl))))))) (@ag _ _ _ (@ar _ _ _ _ bI)) aB) (@ae _ _ _ _ _ (@aD _ _ 4 _ _ _ _ nd Y (Or.inl Y) (@am _ _ _ _ _ _ _ _ _ _ DSd (hr.mono (by decide)) Y ((pv 0)^^^((@ao _ _ _ _ _ _ _ ix_tup (pv 3) ad (λ _ _=>Y))^^^((@ao _ _ _ _ _ _ _ ix_tup (pv 3) ad (λ _ _=>Y))^^^ab))) (by decide) Y Y) Y (Or.inl Y)) (@ag _ _ _ (@ar _ _ _ _ (bN (@aW _ _ _ _ _ _ _ _ fX (@aA _ _ _ _ _ _ _ _ aI (@ao _ _ _ _ _ _ _ ix_tup (pv 3) ad (λ _ _=>Y)) (@ao _ _ _ _ _ _ _ ix_tup (pv 4) ad (λ _ _=>Y))) (pv 1) (ay _)) (cM (@aW _ _ _ _ _ _ _ _ fX (@aA _ _ _ _ _ _ _ _ aI (@ao _ _ _ _ _ _ _ ix_tup (pv 3) ad (λ _ _=>Y)) (@ao _ _ _ _ _ _ _ ix_tup (pv 4) ad (λ _ _=>Y))) (pv 2) (ay _))))))))),?_⟩
 obtain ⟨k,hk,hly,x0,y0,fx,fy⟩:=okp
 refine aj (λ R=>R [some (.ref t),some (.int W),some (.int h1),some (.ref a),none] H) (λ Dd hR=>?_) ?_
 ·refine ⟨_,Y,a,_,Y,.inr (SqT.of ha),Y,_,Y,?_⟩
  refine aL ⟨_,rfl,a,_,1,_,rfl,rfl,SqT.of ha,rfl,i,0,rfl,_,rfl,?_⟩
  rw [decide_eq_true (show (0:Int)<=i by omega)]
  refine aL ⟨_,rfl,a,_,2,_,rfl,rfl,SqT.of ha,rfl,.bl c,_,_,_,_,rfl,.bl c,rfl,eU "bool" (by decide),_,rfl,?_⟩
  exact aL (hR)
 skip
 refine aj (λ R=>∀ (H':Hp),Same H H'->R [some (.ref t),some (.int W),some (.int h1),some (.ref a),none] H') (λ Dd hR=>?_) ?_
 ·refine ⟨_,Y,_,Y,_,Y,a,_,Y,SqT.of ha,(λ z=>absurd z.1 (show ¬ HT.sIx 5 0 (some 1)=0 by decide)),λ s2 hs2=>?_⟩
  obtain ⟨H1, e1, k1, s1⟩:∃H', upd H s2 (.tup (gf [.str "piece", .int i, .bl c, .int x, .int y] (some 1) (some 3)))=H'/\H' s2=some (.tup (gf [.str "piece", .int i, .bl c, .int x, .int y] (some 1) (some 3)))/\Same H H':=⟨_, Y, af, Same.new hs2⟩
  rw [show upd H s2 _=H1 from e1]
  have k1:H1 s2=some (.tup [.int i,.bl c]):=k1
  refine ⟨_,Y,t,kl,b,ks,Y,sh.same s1,k8,λ l ys H2 hl hl0 pl s12=>?_⟩
  refine ⟨s2,l,.int i,.bl c,ys,_,Y,Y,s12 _ _ k1,(.inr (.inr (.inl ⟨i,Y⟩))),(.inr (.inl ⟨c,Y⟩)),hl,sw pl,_,Y,?_⟩
  have ha2:=s12 _ _ (s1 _ _ ha)
  rw [show (!((lyK ks 0).map λ q=>((q.1:Int),q.2)).any λ q=>eI (.int i) q.1 && eB (.bl c) q.2)=false by
   rw [List.any_eq_true.mpr ⟨((i:Int),c),List.mem_map.mpr ⟨(i,c),hly,Y⟩,by rw [mE,mF]; rfl⟩]
   rfl]
  refine aL ⟨_,rfl,a,_,3,_,rfl,rfl,SqT.of ha2,rfl,x,0,rfl,_,rfl,?_⟩
  rw [decide_eq_true x0]
  refine aL ⟨_,rfl,a,_,4,_,rfl,rfl,SqT.of ha2,rfl,y,0,rfl,_,rfl,?_⟩
  rw [decide_eq_true y0]
  exact aL (hR _ (s1.trans s12))
 rintro H2 s2
 have ha2:=s2 _ _ ha
 refine aj (λ R=>∀ (ow:Addr) (H':Hp),H' ow=some (.tup [.int (sd1 k c),.int (sd2 k c)])->Same H2 H'->R [some (.ref t),some (.int W),some (.int h1),some (.ref a),some (.ref ow)] H') (λ Dd hR=>?_) ?_
 ·exact ⟨_,Y,_,Y,a,_,1,_,Y,Y,SqT.of ha2,Y,_,Y,a,_,2,_,Y,Y,SqT.of ha2,Y,t,kl,b,ks,i,c,k,Y,sh.same s2,hk,λ r H3 hr s3=>hR r _ hr s3⟩
 rintro ow H3 how s23
 have ha3:=s23 _ _ ha2
 refine ⟨_,Y,a,_,3,_,Y,Y,SqT.of ha3,Y,_,Y,ow,_,0,_,Y,Y,SqT.of how,Y,_,_,Y,Y,_,Y,_,_,Y,Y,_,Y,?_⟩
 rw [decide_eq_true fx]
 refine aU ⟨_,rfl,a,_,4,_,rfl,rfl,SqT.of ha3,rfl,_,rfl,ow,_,1,_,rfl,rfl,SqT.of how,rfl,_,_,rfl,rfl,_,rfl,_,_,rfl,rfl,?_⟩
 have:=q H3 (s2.trans s23)
 rw [decide_eq_true fy]
 exact this
end
theorem kF {t:Tr} (h:t≠.rest):PyData.eqv (toD t) (.tuple [.str "rest"])=false:=by
 cases t with
 | rest=>exact absurd rfl h
 | piece i c x y=>simp [toD,PyData.eqv,PyData.eqvAll]
 | cut dn p l r=>simp [toD,PyData.eqv,PyData.eqvAll]
theorem yr {H H':Hp} {a b m:Addr} {o:HO} (h:(H'=H/\(m=a\/m=b))\/(H m=none/\H'=upd H m o)):Same H H':=by
 rcases h with ⟨e,_⟩ | ⟨e1,e2⟩
 ·rw [e]; exact Same.refl _
 ·rw [e2]; exact Same.new e1
section
variable {P:Program} {w:World} {K:PySem.W.Frag} {mg:Str->Option Value} {base:Heap}
theorem scwalk:FnScope ["_law_shop_here","_law_part","_law_tree_here","_law_x","_law_y","_law_wide","_law_high","_law_way","_law_p","_law_first","_law_second","_law_one","_law_other","_law_far","_law_start","_law_left","_law_right_here"] ["_law_shop_here","_law_part","_law_tree_here"] (defScope iG):=⟨Y,Y,Y,by decide +kernel,Y,by decide +kernel,by decide +kernel⟩
set_option maxHeartbeats 1000000 in
theorem uE {f:Addr} {fd:FuncData} (F:Fun K "_law_walk" "_law_walk" iG f fd) (n:Nat) (B:Blt mg) (hst:mg "str" = none) (DPl:Dn P w K mg base "_law_plain" ["_law_thing","_law_least"] 1 (spPlain)) (DIL:Dn P w K mg base "_law_is_leaf" ["_law_shop_here","_law_wide","_law_high","_law_tree_here"] 2 (spIsLf)) (DBh:Dn P w K mg base "_law_behind" ["_law_shop_here","_law_wide","_law_high","_law_way","_law_p"] 1 (spBeh)) (DWk:Dn P w K mg base "_law_walk" ["_law_shop_here","_law_part","_law_tree_here"] (3 + n) (spWalk n)):FnOk P w K mg base CX0 (3 + (n + 1)) f fd ["_law_shop_here","_law_part","_law_tree_here"] (spWalk (n + 1)):=by
 refine F.ok scwalk (λ vs H Q E h=>?_) (λ cdv A outer s H vs Q E hr h=>?_)
 ·obtain ⟨t,kl,pa,b,x,y,W,h1,ks,v,T,rfl,_⟩:=h
  rfl
 obtain ⟨t,kl,pa,b,x,y,W,h1,ks,v,T,rfl,sh,k8,hpa,tv,okT,d40,l1000,dn0,q⟩:=h
 have nd:=scwalk.nd
 have hu:=hr.units
 refine ⟨_,(@ae _ _ _ _ _ (@bh _ _ _ _ _ _ (pv 1) (aX Y (ah (ai (i:=3) nd Y (Or.inl Y)) (ah (ai (i:=4) nd Y (Or.inl Y)) (ah (ai (i:=5) nd Y (Or.inl Y)) (ah (ai (i:=6) nd Y (Or.inl Y)) aK))))) Y Y Y) (@ae _ _ _ _ _ (@aG _ _ _ _ _ _ _ _ (PW.pt (bq (@aM _ _ _ _ (@aH _ _ _ (@aw _ _ _ _ _ _ _ _ _ bc Y B.isi PyProof.Rows.boot_isinstance ((pv 2)^^^((bE (v:=.ty "tuple") Y B.tuple PyProof.Rows.boot_tuple Y)^^^ab)) (by decide) (by decide) Y Y) (by intro _; rfl))) (bq (@aE _ _ _ _ _ _ _ _ (lm hu) (pv 2) (@az _ _ _ _ _ ab) (ay _)) (bz (@aM _ _ _ _ (@aH _ _ _ (@aw _ _ _ _ _ _ _ _ _ bc Y B.isi PyProof.Rows.boot_isinstance ((@ao _ _ _ _ _ _ _ ix_tup (pv 2) ad (λ _ _=>Y))^^^((bE (v:=.ty "str") Y hst PyProof.Rows.boot_str Y)^^^ab)) (by decide) (by decide) Y Y) (by intro _; rfl))))))) (@ag _ _ _ (@ar _ _ _ _ cL)) aB) (@ae _ _ _ _ _ (@aG _ _ _ _ _ _ _ _ (@aE _ _ _ _ _ _ _ _ (lm hu) (pv 2) (@az _ _ _ _ _ (be^^^ab)) (ay _)) (@ag _ _ _ (@ar _ _ _ _ (@aJ _ _ _ _ ((@az _ _ _ _ _ ((pv 3)^^^((pv 4)^^^((pv 5)^^^((pv 6)^^^((pv 2)^^^ab))))))^^^ab)))) aB) (@ae _ _ _ _ _ (@aG _ _ _ _ _ _ _ _ (@aE _ _ _ _ _ _ _ _ aZ (@ao _ _ _ _ _ _ _ ix_tup (pv 2) ad (λ _ _=>Y)) be (ay _)) (@ag _ _ _ (@ar _ _ _ _ (@ao _ _ _ _ _ _ _ ix_list (@aJ _ _ _ _ (cL^^^((@aJ _ _ _ _ ((@az _ _ _ _ _ ((pv 3)^^^((pv 4)^^^((pv 5)^^^((pv 6)^^^((pv 2)^^^ab))))))^^^ab))^^^ab))) (@aT _ _ _ _ _ _ _ _ _ bF Y B.int PyProof.Rows.boot_int ((@am _ _ _ _ _ _ _ _ _ _ DIL (hr.mono (show 2<=3 + n by omega)) Y ((pv 0)^^^((pv 5)^^^((pv 6)^^^((pv 2)^^^ab)))) (by decide) Y Y)^^^ab) (by decide) (by decide) Y Y) (λ _ _=>Y)))) aB) (@ae _ _ _ _ _ (@aG _ _ _ _ _ _ _ _ (PW.pt (bq (@aE _ _ _ _ _ _ _ _ cV (@ao _ _ _ _ _ _ _ ix_tup (pv 2) ad (λ _ _=>Y)) (@az _ _ _ _ _ (be^^^(be^^^ab))) Y) (bq (@aE _ _ _ _ _ _ _ _ ej (@aw _ _ _ _ _ _ _ _ _ aN Y B.len PySem.boot_len ((pv 2)^^^ab) (by decide) (by decide) Y Y) ad (ay _)) (bz (@aM _ _ _ _ (@aH _ _ _ (@am _ _ _ _ _ _ _ _ _ _ DPl (hr.mono (show 1<=3 + n by omega)) Y ((@ao _ _ _ _ _ _ _ ix_tup (pv 2) ad (λ _ _=>Y))^^^(ad^^^ab)) (by decide) Y Y) (by intro _; rfl))))))) (@ag _ _ _ (@ar _ _ _ _ cL)) aB) (@ae _ _ _ _ _ (@bh _ _ _ _ _ _ (pv 2) (aX Y (ah (ai (i:=7) nd Y (Or.inl Y)) (ah (ai (i:=8) nd Y (Or.inl Y)) (ah (ai (i:=9) nd Y (Or.inl Y)) (ah (ai (i:=10) nd Y (Or.inl Y)) aK))))) Y Y Y) (@ae _ _ _ _ _ (@aG _ _ _ _ _ _ _ _ (@aE _ _ _ _ _ _ _ _ mj (@aA _ _ _ _ _ _ _ _ aI (pv 8) (@ao _ _ _ _ _ _ _ ix_tup (pv 0) ad (λ _ _=>Y))) (@ao _ _ _ _ _ _ _ ix_list (@aJ _ _ _ _ ((pv 5)^^^((pv 6)^^^ab))) (@aT _ _ _ _ _ _ _ _ _ bF Y B.int PyProof.Rows.boot_int ((@aW _ _ _ _ _ _ _ _ aZ (pv 7) be (ay _))^^^ab) (by decide) (by decide) Y Y) (λ _ _=>Y)) (ay _)) (@ag _ _ _ (@ar _ _ _ _ cL)) aB) (@ae _ _ _ _ _ (@bh _ _ _ _ _ _ (@am _ _ _ _ _ _ _ _ _ _ DBh (hr.mono (show 1<=3 + n by omega)) Y ((pv 0)^^^((pv 5)^^^((pv 6)^^^((pv 7)^^^((pv 8)^^^ab))))) (by decide) Y Y) (aX Y (ah (ai (i:=11) nd Y (Or.inl Y)) (ah (ai (i:=12) nd Y (Or.inl Y)) aK))) Y Y Y) (@ae _ _ _ _ _ (@aD _ _ 13 _ _ _ _ nd Y (Or.inl Y) (@aA _ _ _ _ _ _ _ _ aI (pv 8) (@ao _ _ _ _ _ _ _ ix_tup (pv 0) ad (λ _ _=>Y))) Y (Or.inl Y)) (@ae _ _ _ _ _ (@aD _ _ 14 _ _ _ _ nd Y (Or.inl Y) (@ao _ _ _ _ _ _ _ ix_list (@aJ _ _ _ _ ((@az _ _ _ _ _ ((@aA _ _ _ _ _ _ _ _ aI (pv 3) (pv 13))^^^((pv 4)^^^ab)))^^^((@az _ _ _ _ _ ((pv 3)^^^((@aA _ _ _ _ _ _ _ _ aI (pv 4) (pv 13))^^^ab)))^^^ab))) (@aT _ _ _ _ _ _ _ _ _ bF Y B.int PyProof.Rows.boot_int ((@aW _ _ _ _ _ _ _ _ aZ (pv 7) be (ay _))^^^ab) (by decide) (by decide) Y Y) (λ _ _=>Y)) Y (Or.inl Y)) (@ae _ _ _ _ _ (@aD _ _ 15 _ _ _ _ nd Y (Or.inl Y) (@am _ _ _ _ _ _ _ _ _ _ DWk hr Y ((pv 0)^^^((@aA _ _ _ _ _ _ _ _ mB (@az _ _ _ _ _ ((pv 3)^^^((pv 4)^^^ab))) (pv 11))^^^((pv 9)^^^ab))) (by decide) Y Y) Y (Or.inl Y)) (@ae _ _ _ _ _ (@aD _ _ 16 _ _ _ _ nd Y (Or.inl Y) (@am _ _ _ _ _ _ _ _ _ _ DWk hr Y ((pv 0)^^^((@aA _ _ _ _ _ _ _ _ mB (pv 14) (pv 12))^^^((pv 10)^^^ab))) (by decide) Y Y) Y (Or.inl Y)) (@ae _ _ _ _ _ (@aG _ _ _ _ _ _ _ _ (PW.pt (bq (@aE _ _ _ _ _ _ _ _ iZ (pv 15) cL (ay _)) (bz (@aE _ _ _ _ _ _ _ _ iZ (pv 16) cL (ay _))))) (@ag _ _ _ (@ar _ _ _ _ cL)) aB) (@ag _ _ _ (@ar _ _ _ _ (@aA _ _ _ _ _ _ _ _ jf (pv 15) (pv 16))))))))))))))))),?_⟩
 have sz:(5000:Nat) < sizeLine:=by decide
 have shT:=lT d40
 have dat:=TrV.dat (K:=K) T tv
 obtain ⟨av,xs,rfl,hav,y0,rest',exs⟩:∃av xs,v=.ref av/\H av=some (.tup xs)/\∃ (y0:Str) (r:List V),xs=.str y0 :: r:=by
  cases T with
  | rest=>obtain ⟨a,e,h⟩:=tv; exact ⟨a,_,e,h,_,_,Y⟩
  | piece i c px py=>obtain ⟨a,e,h⟩:=tv; exact ⟨a,_,e,h,_,_,Y⟩
  | cut dn p l r=>obtain ⟨a,x',y',e,h,_⟩:=tv; exact ⟨a,_,e,h,_,_,Y⟩
 refine aj (λ R=>R [some (.ref t),some (.ref pa),some (.ref av),some (.int x),some (.int y),some (.int W),some (.int h1),none,none,none,none,none,none,none,none,none,none] H) (λ Dd hR=>?_) ?_
 ·exact ⟨_,Y,pa,_,Y,SqT.of hpa,Y,_,_,Y,_,_,Y,_,_,Y,_,_,Y,Y,hR⟩
 skip
 refine aj (λ R=>∀ (H':Hp),Same H H'->R [some (.ref t),some (.ref pa),some (.ref av),some (.int x),some (.int y),some (.int W),some (.int h1),none,none,none,none,none,none,none,none,none,none] H') (λ Dd hR=>?_) ?_
 ·subst exs
  refine ⟨_,Y,.ref av,_,_,_,_,Y,.tup hav,Y,bG "tuple" (by decide),_,Y,?_⟩
  refine aL ⟨_,rfl,zS0,λ e he=>?_⟩
  obtain ⟨H1,e1,k1,s1⟩:∃H',upd H e (.tup [])=H'/\H' e=some (.tup [])/\Same H H':=⟨_,Y,af,Same.new he⟩
  rw [show upd H e _=H1 from e1]
  refine ⟨toD T,.tuple [],TrV.dat (K:=K) T (TrV.keep (λ a xs e=>s1 _ _ e) T tv),.tup (SqT.of k1) .nil,shT,by decide +kernel,_,Y,?_⟩
  rw [show PyData.eqv (toD T) (.tuple [])=false by cases T <;> rfl]
  refine aL ⟨_,rfl,av,_,0,_,rfl,rfl,SqT.of (s1 _ _ hav),aR (Int.le_refl _) rfl,.str y0,_,_,_,_,rfl,.str y0,rfl,cH "str" (by decide),_,rfl,aL (hR _ s1)⟩
 rintro H1 s1
 have ret:∀ {Hx:Hp} {a l:Addr},Same H Hx->dT T=0->lvT b T x y W h1=[⟨x,y,W,h1,T⟩]->Hx a=some (.tup [.int x,.int y,.int W,.int h1,.ref av])->Hx l=some (.lst [.ref a])->Q (.ref l) Hx:=λ sx d0 e ha hl=>by
  refine q _ [.ref _] _ hl ?_ sx
  rw [e]
  exact .cons ⟨_,.ref av,Y,ha,TrV.keep (λ a xs e=>sx _ _ e) T tv,d0⟩ .nil
 refine dh (λ R=>∀ (H':Hp),Same H H'->T≠.rest->R [some (.ref t),some (.ref pa),some (.ref av),some (.int x),some (.int y),some (.int W),some (.int h1),none,none,none,none,none,none,none,none,none,none] H') (λ R hR=>?_) ?_
 ·refine ⟨_,Y,zS1,λ e he=>?_⟩
  obtain ⟨H2, e2, k2, s2⟩:∃H', upd H1 e (.tup [.str "rest"])=H'/\H' e=some (.tup [.str "rest"])/\Same H1 H':=⟨_, Y, af, Same.new he⟩
  rw [show upd H1 e _=H2 from e2]
  have s02:=s1.trans s2
  refine ⟨toD T,.tuple [.str "rest"],TrV.dat (K:=K) T (TrV.keep (λ a xs e=>s02 _ _ e) T tv),.tup (SqT.of k2) (.cons (.str _) .nil),shT,by decide +kernel,_,Y,?_⟩
  cases T with
  | rest =>
   rw [show PyData.eqv (toD .rest) (.tuple [.str "rest"])=true by decide +kernel]
   refine aU ⟨_,rfl,_,rfl,_,rfl,_,rfl,_,rfl,zS5,λ a ha=>?_⟩
   obtain ⟨H3,e3,k3,s3⟩:∃H',upd H2 a (.tup [.int x,.int y,.int W,.int h1,.ref av])=H'/\H' a=some (.tup [.int x,.int y,.int W,.int h1,.ref av])/\Same H2 H':=⟨_,Y,af,Same.new ha⟩
   rw [show upd H2 a _=H3 from e3]
   refine ⟨zS1,λ l hl=>?_⟩
   obtain ⟨H4,e4,k4,s4⟩:∃H',upd H3 l (.lst [.ref a])=H'/\H' l=some (.lst [.ref a])/\Same H3 H':=⟨_,Y,af,Same.new hl⟩
   rw [show upd H3 l _=H4 from e4]
   exact ret (s02.trans (s3.trans s4)) rfl rfl (s4 _ _ k3) k4
  | piece i c px py =>
   rw [kF (t:=.piece i c px py) (λ z=>nomatch z)]
   exact aL (hR _ s02 (λ z=>nomatch z))
  | cut dn p l r =>
   rw [kF (t:=.cut dn p l r) (λ z=>nomatch z)]
   exact aL (hR _ s02 (λ z=>nomatch z))
 clear s1
 clear H1
 rintro H1 s1 nr
 refine dh (λ R=>∀ (H':Hp),Same H H'->(∃dn p l r,T=.cut dn p l r)->R [some (.ref t),some (.ref pa),some (.ref av),some (.int x),some (.int y),some (.int W),some (.int h1),none,none,none,none,none,none,none,none,none,none] H') (λ R hR=>?_) ?_
 ·cases T with
  | rest=>exact absurd rfl nr
  | piece i c px py =>
   obtain ⟨a0,e0,h0⟩:=id tv
   cases e0
   rw [hav] at h0
   cases h0
   refine ⟨_,Y,av,_,0,_,Y,Y,SqT.of (s1 _ _ hav),Y,Y,_,Y,?_⟩
   refine bY (by decide +kernel) ⟨_,rfl,_,rfl,_,rfl,_,rfl,_,rfl,zS5,λ a ha=>?_⟩
   obtain ⟨H3,e3,k3,s3⟩:∃H',upd H1 a (.tup [.int x,.int y,.int W,.int h1,.ref av])=H'/\H' a=some (.tup [.int x,.int y,.int W,.int h1,.ref av])/\Same H1 H':=⟨_,Y,af,Same.new ha⟩
   rw [show upd H1 a _=H3 from e3]
   refine ⟨zS1,λ l hl=>?_⟩
   obtain ⟨H4,e4,k4,s4⟩:∃H',upd H3 l (.lst [.ref a])=H'/\H' l=some (.lst [.ref a])/\Same H3 H':=⟨_,Y,af,Same.new hl⟩
   rw [show upd H3 l _=H4 from e4]
   refine ⟨zS2,λ l2 hl2=>?_⟩
   obtain ⟨H5,e5,k5,s5⟩:∃H',upd H4 l2 (.lst [.non,.ref l])=H'/\H' l2=some (.lst [.non,.ref l])/\Same H4 H':=⟨_,Y,af,Same.new hl2⟩
   rw [show upd H4 l2 _=H5 from e5]
   have s05:=s1.trans (s3.trans (s4.trans s5))
   refine ⟨_,Y,_,Y,_,Y,_,Y,t,kl,av,b,W,h1,px,py,ks,i,c,Y,sh.same s05,k8,s05 _ _ hav,okT,λ H6 s6=>.inr ⟨true,Y,l2,_,_,.ref l,Y,Y,SqL.of (s6 _ _ k5),Y,ret (s05.trans s6) rfl rfl (s6 _ _ (s5 _ _ (s4 _ _ k3))) (s6 _ _ (s5 _ _ k4))⟩⟩
  | cut dn p l r =>
   obtain ⟨a0,x',y',e0,h0,_⟩:=id tv
   cases e0
   rw [hav] at h0
   cases h0
   refine ⟨_,Y,av,_,0,_,Y,Y,SqT.of (s1 _ _ hav),Y,Y,_,Y,?_⟩
   exact bJ (by cases dn <;> decide +kernel) (hR _ s1 ⟨dn,p,l,r,rfl⟩)
 clear s1 ret
 clear H1
 rintro H1 s1 ⟨dn,p,l,r,rfl⟩
 obtain ⟨a0,fv,sv,e0,h0,tl,tr⟩:=id tv
 cases e0
 have h0:H av=some (.tup [.str (wyL dn),.int p,fv,sv]):=h0
 rw [hav] at h0
 obtain rfl:=HO.tup.inj (Option.some.inj h0)
 clear h0
 obtain ⟨p1,okc⟩:=id okT
 refine aj (λ R=>∀ (H':Hp),Same H H'->R [some (.ref t),some (.ref pa),some (.ref av),some (.int x),some (.int y),some (.int W),some (.int h1),none,none,none,none,none,none,none,none,none,none] H') (λ Dd hR=>?_) ?_
 ·refine ⟨_,Y,av,_,0,_,Y,Y,SqT.of (s1 _ _ hav),Y,zS2,λ tt htt=>?_⟩
  obtain ⟨H2, e2, k2, s2⟩:∃H', upd H1 tt (.tup [.str "down", .str "across"])=H'/\H' tt=some (.tup [.str "down", .str "across"])/\Same H1 H':=⟨_, Y, af, Same.new htt⟩
  rw [show upd H1 tt _=H2 from e2]
  have hav2:=s2 _ _ (s1 _ _ hav)
  refine ⟨tt,_,Y,.inr (SqT.of k2),Y,Y,_,Y,?_⟩
  rw [show inV (V.str (wyL dn)) [V.str "down",V.str "across"]=true by cases dn <;> decide +kernel]
  refine aL ⟨_,rfl,av,_,rfl,.inr (SqT.of hav2),rfl,_,rfl,?_⟩
  refine aL ⟨_,rfl,av,_,1,_,rfl,rfl,SqT.of hav2,rfl,p,1,rfl,_,rfl,?_⟩
  rw [decide_eq_true p1]
  exact aL (hR _ (s1.trans s2))
 clear s1
 clear H1
 rintro H1 s1
 refine aj (λ R=>R [some (.ref t),some (.ref pa),some (.ref av),some (.int x),some (.int y),some (.int W),some (.int h1),some (.str (wyL dn)),some (.int p),some fv,some sv,none,none,none,none,none,none] H1) (λ Dd hR=>?_) ?_
 ·exact ⟨_,Y,av,_,Y,SqT.of (s1 _ _ hav),Y,_,_,Y,_,_,Y,_,_,Y,_,_,Y,Y,hR⟩
 skip
 obtain ⟨kr,ht0,_⟩:=id sh
 have hix:∀ {Hx:Hp} {rl:Addr} {u1 u2:V},Hx rl=some (.lst [u1,u2])->atI [u1,u2] (if decide (V.str (wyL dn)=V.str "across")=true then 1 else 0)=some (if dn=true then u1 else u2):=λ _=>by
  cases dn with
  | true =>
   rw [show decide (V.str (wyL true)=V.str "across")=false by decide +kernel]
   rfl
  | false =>
   rw [show decide (V.str (wyL false)=V.str "across")=true by decide +kernel]
   rfl
 refine aj (λ R=>∀ (H':Hp),Same H H'->R [some (.ref t),some (.ref pa),some (.ref av),some (.int x),some (.int y),some (.int W),some (.int h1),some (.str (wyL dn)),some (.int p),some fv,some sv,none,none,none,none,none,none] H') (λ Dd hR=>?_) ?_
 ·refine ⟨_,Y,_,Y,t,_,0,_,Y,Y,SqT.of (s1 _ _ ht0),Y,_,_,Y,Y,_,Y,_,Y,zS2,λ rl hrl=>?_⟩
  obtain ⟨H2,e2,k2,s2⟩:∃H',upd H1 rl (.lst [.int W,.int h1])=H'/\H' rl=some (.lst [.int W,.int h1])/\Same H1 H':=⟨_,Y,af,Same.new hrl⟩
  rw [show upd H1 rl _=H2 from e2]
  refine ⟨_,Y,Y,.inr ⟨_,Y,rl,_,_,.int (if dn=true then W else h1),Y,Y,SqL.of k2,?_,_,_,Y,Y,_,Y,?_⟩⟩
  ·rw [hix k2]
   cases dn <;> rfl
  ·refine bJ (decide_eq_false ?_) (hR _ (s1.trans s2))
   cases dn with
   | true =>
    have:p + b < W:=okc.1
    show ¬ W<=p + b
    omega
   | false =>
    have:p + b < h1:=okc.1
    show ¬ h1<=p + b
    omega
 clear s1
 clear H1
 rintro H1 s1
 refine aj (λ R=>∀ (o1 o2:Addr) (H':Hp),H' o1=some (.tup [.int (if dn=true then p else W),.int (if dn=true then h1 else p)])->H' o2=some (.tup [.int (if dn=true then W - p - b else W),.int (if dn=true then h1 else h1 - p - b)])->Same H H'->R [some (.ref t),some (.ref pa),some (.ref av),some (.int x),some (.int y),some (.int W),some (.int h1),some (.str (wyL dn)),some (.int p),some fv,some sv,some (.ref o1),some (.ref o2),none,none,none,none] H') (λ Dd hR=>?_) ?_
 ·exact ⟨_,Y,_,Y,_,Y,_,Y,_,Y,t,kl,b,W,h1,p,ks,dn,Y,sh.same s1,λ rr r1 r2 H6 e1 e2 e3 s6=>⟨rr,_,Y,SqT.of e1,Y,_,_,Y,_,_,Y,Y,hR r1 r2 _ e2 e3 (s1.trans s6)⟩⟩
 clear s1
 clear H1
 rintro o1 o2 H1 ho1 ho2 s1
 refine aj (λ R=>R [some (.ref t),some (.ref pa),some (.ref av),some (.int x),some (.int y),some (.int W),some (.int h1),some (.str (wyL dn)),some (.int p),some fv,some sv,some (.ref o1),some (.ref o2),some (.int (p + b)),none,none,none] H1) (λ Dd hR=>?_) ?_
 ·exact ⟨_,Y,_,Y,t,_,0,_,Y,Y,SqT.of (s1 _ _ ht0),Y,_,_,Y,Y,hR⟩
 skip
 refine aj (λ R=>∀ (st:Addr) (H':Hp),H' st=some (.tup [.int (if dn=true then x + (p + b) else x),.int (if dn=true then y else y + (p + b))])->Same H1 H'->R [some (.ref t),some (.ref pa),some (.ref av),some (.int x),some (.int y),some (.int W),some (.int h1),some (.str (wyL dn)),some (.int p),some fv,some sv,some (.ref o1),some (.ref o2),some (.int (p + b)),some (.ref st),none,none] H') (λ Dd hR=>?_) ?_
 ·refine ⟨_,Y,_,Y,_,_,Y,Y,_,Y,zS2,λ a1 ha1=>?_⟩
  obtain ⟨H2,e2,k2,s2⟩:∃H',upd H1 a1 (.tup [.int (x + (p + b)),.int y])=H'/\H' a1=some (.tup [.int (x + (p + b)),.int y])/\Same H1 H':=⟨_,Y,af,Same.new ha1⟩
  rw [show upd H1 a1 _=H2 from e2]
  refine ⟨_,Y,_,Y,_,Y,_,_,Y,Y,zS2,λ a2 ha2=>?_⟩
  obtain ⟨H3,e3,k3,s3⟩:∃H',upd H2 a2 (.tup [.int x,.int (y + (p + b))])=H'/\H' a2=some (.tup [.int x,.int (y + (p + b))])/\Same H2 H':=⟨_,Y,af,Same.new ha2⟩
  rw [show upd H2 a2 _=H3 from e3]
  refine ⟨zS2,λ l3 hl3=>?_⟩
  obtain ⟨H4,e4,k4,s4⟩:∃H',upd H3 l3 (.lst [.ref a1,.ref a2])=H'/\H' l3=some (.lst [.ref a1,.ref a2])/\Same H3 H':=⟨_,Y,af,Same.new hl3⟩
  rw [show upd H3 l3 _=H4 from e4]
  refine ⟨_,Y,Y,.inr ⟨_,Y,l3,_,_,_,Y,Y,SqL.of k4,hix k4,?_⟩⟩
  cases dn with
  | true=>exact hR a1 _ (s4 _ _ (s3 _ _ k2)) (s2.trans (s3.trans s4))
  | false=>exact hR a2 _ (s4 _ _ k3) (s2.trans (s3.trans s4))
 rintro st H2 hst s12
 have s02:=s1.trans s12
 have ok1:okU b ks (if dn=true then p else W) (if dn=true then h1 else p) l:=by
  cases dn with
  | true=>exact okc.2.1
  | false=>exact okc.2.1
 have ok2:okU b ks (if dn=true then W - p - b else W) (if dn=true then h1 else h1 - p - b) r:=by
  cases dn with
  | true=>exact okc.2.2
  | false=>exact okc.2.2
 have dd:max (dT l) (dT r) + 1<=55:=d40
 have dn1:max (dT l) (dT r) + 1 < n + 1:=dn0
 have ll:lvN l + lvN r<=1000:=l1000
 refine aj (λ R=>∀ (ll:Addr) (lu:List V) (H':Hp),H' ll=some (.lst lu)->Paired (LfV H') lu (lvT b l x y (if dn=true then p else W) (if dn=true then h1 else p))->Same H2 H'->R [some (.ref t),some (.ref pa),some (.ref av),some (.int x),some (.int y),some (.int W),some (.int h1),some (.str (wyL dn)),some (.int p),some fv,some sv,some (.ref o1),some (.ref o2),some (.int (p + b)),some (.ref st),some (.ref ll),none] H') (λ Dd hR=>?_) ?_
 ·refine ⟨_,Y,_,Y,_,Y,zS2,λ a1 ha1=>?_⟩
  obtain ⟨H3,e3,k3,s3⟩:∃H',upd H2 a1 (.tup [.int x,.int y])=H'/\H' a1=some (.tup [.int x,.int y])/\Same H2 H':=⟨_,Y,af,Same.new ha1⟩
  rw [show upd H2 a1 _=H3 from e3]
  refine ⟨_,Y,a1,o1,_,_,Y,Y,k3,s3 _ _ (s12 _ _ ho1),(by show 2 + 2<=sizeLine; decide),λ mm Hm hm hm'=>?_⟩
  have sm:Same H2 Hm:=s3.trans (yr hm)
  have s0m:=s02.trans sm
  exact ⟨_,Y,t,kl,mm,b,x,y,_,_,ks,fv,l,Y,sh.same s0m,k8,hm',TrV.keep (λ a xs e=>s0m _ _ e) l tl,ok1,by omega,by omega,by omega,λ la us H' hl pl s'=>hR la us _ hl pl (sm.trans s')⟩
 rintro la lu H3 hla plu s23
 have s03:=s02.trans s23
 refine aj (λ R=>∀ (lb:Addr) (lw:List V) (H':Hp),H' lb=some (.lst lw)->Paired (LfV H') lw (lvT b r (if dn=true then x + (p + b) else x) (if dn=true then y else y + (p + b)) (if dn=true then W - p - b else W) (if dn=true then h1 else h1 - p - b))->Same H3 H'->R [some (.ref t),some (.ref pa),some (.ref av),some (.int x),some (.int y),some (.int W),some (.int h1),some (.str (wyL dn)),some (.int p),some fv,some sv,some (.ref o1),some (.ref o2),some (.int (p + b)),some (.ref st),some (.ref la),some (.ref lb)] H') (λ Dd hR=>?_) ?_
 ·refine ⟨_,Y,_,Y,_,Y,st,o2,_,_,Y,Y,s23 _ _ hst,s23 _ _ (s12 _ _ ho2),(by show 2 + 2<=sizeLine; decide),λ mm Hm hm hm'=>?_⟩
  have sm:Same H3 Hm:=yr hm
  have s0m:=s03.trans sm
  exact ⟨_,Y,t,kl,mm,b,_,_,_,_,ks,sv,r,Y,sh.same s0m,k8,hm',TrV.keep (λ a xs e=>s0m _ _ e) r tr,ok2,by omega,by omega,by omega,λ lb us H' hl pl s'=>hR lb us _ hl pl (sm.trans s')⟩
 rintro lb lw H4 hlb plw s34
 refine aj (λ R=>R [some (.ref t),some (.ref pa),some (.ref av),some (.int x),some (.int y),some (.int W),some (.int h1),some (.str (wyL dn)),some (.int p),some fv,some sv,some (.ref o1),some (.ref o2),some (.int (p + b)),some (.ref st),some (.ref la),some (.ref lb)] H4) (λ Dd hR=>?_) ?_
 ·exact ⟨_,Y,Y,_,Y,bJ rfl ⟨_,Y,Y,_,Y,bJ rfl (hR)⟩⟩
 skip
 have le1:=Paired.length plu
 have le2:=Paired.length plw
 rw [dq] at le1 le2
 refine ⟨_,Y,_,Y,la,lb,lu,lw,Y,Y,s34 _ _ hla,hlb,by omega,λ lo hlo=>?_⟩
 obtain ⟨H5,e5,k5,s5⟩:∃H',upd H4 lo (.lst (lu ++ lw))=H'/\H' lo=some (.lst (lu ++ lw))/\Same H4 H':=⟨_,Y,af,Same.new hlo⟩
 rw [show upd H4 lo _=H5 from e5]
 refine q lo _ H5 k5 ?_ (s03.trans (s34.trans s5))
 have pa:=dJ (Paired.mapP plu λ v f h=>h.same (s34.trans s5)) (Paired.mapP plw λ v f h=>h.same s5)
 cases dn with
 | true=>exact pa
 | false=>exact pa
theorem sC {f:Addr} {fd:FuncData} (F:Fun K "_law_walk" "_law_walk" iG f fd):FnOk P w K mg base CX0 3 f fd ["_law_shop_here","_law_part","_law_tree_here"] (spWalk 0):=by
 refine F.ok scwalk (λ vs H Q E h=>?_) (λ cdv A outer s H vs Q E hr h=>?_)
 ·obtain ⟨t,kl,pa,b,x,y,W,h1,ks,v,T,rfl,_⟩:=h
  rfl
 ·obtain ⟨t,kl,pa,b,x,y,W,h1,ks,v,T,_,_,_,_,_,_,_,_,z,_⟩:=h
  exact absurd z (Nat.not_lt_zero _)
theorem kG {f:Addr} {fd:FuncData} (F:Fun K "_law_walk" "_law_walk" iG f fd) (B:Blt mg) (hst:mg "str" = none) (DPl:Dn P w K mg base "_law_plain" ["_law_thing","_law_least"] 1 (spPlain)) (DIL:Dn P w K mg base "_law_is_leaf" ["_law_shop_here","_law_wide","_law_high","_law_tree_here"] 2 (spIsLf)) (DBh:Dn P w K mg base "_law_behind" ["_law_shop_here","_law_wide","_law_high","_law_way","_law_p"] 1 (spBeh)) (mk:∀n,FnOk P w K mg base CX0 (3 + n) f fd ["_law_shop_here","_law_part","_law_tree_here"] (spWalk n)->Dn P w K mg base "_law_walk" ["_law_shop_here","_law_part","_law_tree_here"] (3 + n) (spWalk n)):∀n,FnOk P w K mg base CX0 (3 + n) f fd ["_law_shop_here","_law_part","_law_tree_here"] (spWalk n)
 | 0=>sC F
 | n + 1=>uE F n B hst DPl DIL DBh (mk n (kG F B hst DPl DIL DBh mk n))
end
section
variable {P:Program} {w:World} {K:PySem.W.Frag} {mg:Str->Option Value} {base:Heap}
theorem scpcs:FnScope ["_law_leaves","_law_found","_law_x","_law_y","_law_wide","_law_high","_law_leaf_here"] ["_law_leaves"] (defScope gD):=⟨Y,Y,Y,by decide +kernel,Y,by decide +kernel,by decide +kernel⟩
theorem vV {f:Addr} {fd:FuncData} (F:Fun K "_law_pieces" "_law_pieces" gD f fd) (B:Blt mg):FnOk P w K mg base CX0 1 f fd ["_law_leaves"] (spPcs K):=by
 refine F.ok scpcs (λ vs H Q E h=>?_) (λ cdv A outer s H vs Q E hr h=>?_)
 ·obtain ⟨l,us,fs,rfl,_⟩:=h
  rfl
 obtain ⟨l,us,fs,rfl,hl,pf,f64,q⟩:=h
 have nd:=scpcs.nd
 refine ⟨_,(@ae _ _ _ _ _ (@aD _ _ 1 _ _ _ _ nd Y (Or.inl Y) (@aJ _ _ _ _ ab) Y (Or.inl Y)) (@ae _ _ _ _ _ (@ce _ _ _ _ _ _ _ _ PassesOwn.never Y (gj (pv 0)) (aX Y (ah (ai (i:=2) nd Y (Or.inl Y)) (ah (ai (i:=3) nd Y (Or.inl Y)) (ah (ai (i:=4) nd Y (Or.inl Y)) (ah (ai (i:=5) nd Y (Or.inl Y)) (ah (ai (i:=6) nd Y (Or.inl Y)) aK)))))) (@ag _ _ _ (@aG _ _ _ _ _ _ _ _ (@aE _ _ _ _ _ _ _ _ aZ (@ao _ _ _ _ _ _ _ ix_tup (pv 6) ad (λ _ _=>Y)) be (ay _)) (@ag _ _ _ (@bC _ _ _ _ (@em _ _ _ _ _ _ _ _ _ _ _ _ PySem.F.plainAttrs_list PySem.F.slot_list_append PySem.F.type_list_append bL (pv 1) ((@az _ _ _ _ _ ((@ao _ _ _ _ _ _ _ ix_tup (pv 6) ad (λ _ _=>Y))^^^((@ao _ _ _ _ _ _ _ ix_tup (pv 6) ad (λ _ _=>Y))^^^((@aA _ _ _ _ _ _ _ _ aI (pv 2) (@ao _ _ _ _ _ _ _ ix_tup (pv 6) ad (λ _ _=>Y)))^^^((@aA _ _ _ _ _ _ _ _ aI (pv 3) (@ao _ _ _ _ _ _ _ ix_tup (pv 6) ad (λ _ _=>Y)))^^^ab)))))^^^ab) Y Y Y Y Y) Y)) aB)) (by intro _; rfl)) (@ag _ _ _ (@ar _ _ _ _ (@aw _ _ _ _ _ _ _ _ _ eX Y B.sorted PyProof.Rows.boot_sorted ((pv 1)^^^ab) (by decide) (by decide) Y Y))))),?_⟩
 have sz:(2000:Nat) < sizeLine:=by decide
 have ul:=Paired.length pf
 refine aj (λ R=>∀ (fo:Addr) (H':Hp),H fo=none->H' fo=some (.lst [])->Same H H'->R [some (.ref l),some (.ref fo),none,none,none,none,none] H') (λ Dd hR=>?_) ?_
 ·refine ⟨by decide,λ fo hfo=>?_⟩
  obtain ⟨H1,e1,k1,s1⟩:∃H',upd H fo (.lst [])=H'/\H' fo=some (.lst [])/\Same H H':=⟨_,Y,af,Same.new hfo⟩
  rw [show upd H fo _=H1 from e1]
  exact hR fo _ hfo k1 s1
 rintro fo H1 hfo0 hfo1 s1
 have nlf:l≠fo:=ap hl hfo0
 have hl1:=s1 _ _ hl
 have pf1:Paired (LfV H1) us fs:=Paired.mapP pf λ v f h=>h.same s1
 have tk:∀ {Ha Hb:Hp} {xs:List V},Ha fo=some (.lst xs)->But fo Ha Hb->∀a zs,Ha a=some (.tup zs)->Hb a=some (.tup zs):=λ e bb a zs e'=>bb _ _ (λ z=>by rw [z,e] at e'; cases e') e'
 refine cC (λ σ' H'=>∃ (v2 v3 v4 v5 v6:Option V) (as:List Addr) (qs:List Pq),σ'=[some (.ref l),some (.ref fo),v2,v3,v4,v5,v6]/\H' fo=some (.lst (as.map V.ref))/\Paired (λ a q=>H' a=some (.tup (pqV q))) as qs/\qs=(fs.take fs.length).filterMap lfQ/\But fo H1 H') (λ R hR=>?_) ?_
 ·refine ⟨_,Y,l,Y,⟨_,SqL.of hl1⟩,gJ (xs:=us) (λ i σ' H'=>∃ (v2 v3 v4 v5 v6:Option V) (as:List Addr) (qs:List Pq),σ'=[some (.ref l),some (.ref fo),v2,v3,v4,v5,v6]/\H' fo=some (.lst (as.map V.ref))/\Paired (λ a q=>H' a=some (.tup (pqV q))) as qs/\qs=(fs.take i).filterMap lfQ/\But fo H1 H') ⟨_,_,_,_,_,[],[],Y,hfo1,.nil,Y,But.refl'⟩ (λ i σ H' _ ⟨_,_,_,_,_,_,_,_,_,_,_,bx⟩=>SqL.of (bx _ _ nlf hl1)) ?_ (λ σ H' h=>hR _ _ (by rw [ul] at h; exact h))⟩
  intro i x _ H2 hi hI9
  refine bH λ G9 k9=>?_
  obtain ⟨v2,v3,v4,v5,v6,as,qs,rfl,hf2,pa2,eq2,b12⟩:=hI9
  refine k9 ?_
  have hin:i < us.length:=(List.getElem?_eq_some_iff.mp hi).1
  obtain ⟨f,hf,a,lv,rfl,ha,tv,d0⟩:=Paired.getR pf1 hi
  have ha2:=tk hfo1 b12 _ _ ha
  have tv2:=TrV.keep (tk hfo1 b12) f.t tv
  have al:=Paired.length pa2
  have ql:qs.length<=fs.length:=by
   rw [eq2]
   refine Nat.le_trans (List.length_filterMap_le _ _) ?_
   rw [List.length_take]
   omega
  have etk:(fs.take (i + 1)).filterMap lfQ=qs ++ (lfQ f).toList:=by
   rw [List.take_add_one,hf,List.filterMap_append,<- eq2]
   cases e:lfQ f <;> simp [e]
  refine ⟨a,_,Y,SqT.of ha2,Y,_,_,Y,_,_,Y,_,_,Y,_,_,Y,_,_,Y,Y,?_⟩
  cases et:f.t with
  | cut dn p l r=>rw [et] at d0; cases d0
  | rest =>
   rw [et] at tv2
   obtain ⟨la,rfl,hla⟩:=tv2
   refine ⟨_,Y,la,_,0,_,Y,Y,SqT.of hla,Y,Y,_,Y,bJ (by decide +kernel) ?_⟩
   refine ⟨_,_,_,_,_,as,qs,Y,hf2,pa2,?_,b12⟩
   rw [etk,show lfQ f=none by unfold lfQ; rw [et]]
   simp
  | piece k c px py =>
   rw [et] at tv2
   obtain ⟨la,rfl,hla⟩:=tv2
   refine ⟨_,Y,la,_,0,_,Y,Y,SqT.of hla,Y,Y,_,Y,bY (by decide +kernel) ?_⟩
   refine ⟨_,Y,.inl ⟨Y,_,SqL.of hf2⟩,_,Y,la,_,1,_,Y,Y,SqT.of hla,Y,_,Y,la,_,2,_,Y,Y,SqT.of hla,Y,_,Y,_,Y,la,_,3,_,Y,Y,SqT.of hla,Y,_,_,Y,Y,_,Y,_,Y,la,_,4,_,Y,Y,SqT.of hla,Y,_,_,Y,Y,zS4,λ tp htp=>?_⟩
   obtain ⟨H3,e3,k3,s3⟩:∃H',upd H2 tp (.tup [.int k,.bl c,.int (f.x + px),.int (f.y + py)])=H'/\H' tp=some (.tup [.int k,.bl c,.int (f.x + px),.int (f.y + py)])/\Same H2 H':=⟨_,Y,af,Same.new htp⟩
   rw [show upd H2 tp _=H3 from e3]
   have hf3:=s3 _ _ hf2
   have bu:But fo H3 (upd H3 fo (.lst (as.map V.ref ++ [.ref tp]))):=λ c o n e=>by rw [au n]; exact e
   refine ⟨fo,_,_,Y,Y,hf3,by rw [List.length_map]; omega,_,_,_,_,_,as ++ [tp],qs ++ [⟨k,c,f.x + px,f.y + py⟩],Y,by rw [List.map_append]; exact af,?_,?_,λ c o n e=>bu _ _ n (s3 _ _ (b12 _ _ n e))⟩
   ·exact dJ (Paired.mapP pa2 λ a q h=>tk hf3 bu _ _ (s3 _ _ h)) (.cons (tk hf3 bu _ _ k3) .nil)
   ·rw [etk,show lfQ f=some ⟨k,c,f.x + px,f.y + py⟩ by unfold lfQ; rw [et]]
    rfl
 intro _ H2 hI9
 refine bH λ G9 k9=>?_
 obtain ⟨v2,v3,v4,v5,v6,as,qs,rfl,hf2,pa2,eq2,b12⟩:=hI9
 refine k9 ?_
 rw [List.take_length] at eq2
 have al:=Paired.length pa2
 have ql:qs.length<=fs.length:=by rw [eq2]; exact List.length_filterMap_le _ _
 refine ⟨_,Y,fo,as,[false,true,false,false],oE H2,Y,SqL.of hf2,by omega,Y,λ a ha=>?_,λ r as' hr pm so=>?_⟩
 ·obtain ⟨i,hi⟩:=List.mem_iff_getElem?.mp ha
  obtain ⟨q0,hq0,h0⟩:=Paired.getR pa2 hi
  exact ⟨_,SqT.of h0,by rw [gF h0]; rfl⟩
 have qm:∀ {xs:List Addr} {zs:List Pq},Paired (λ a q=>H2 a=some (.tup (pqV q))) xs zs->zs=xs.map (qA H2):=λ {xs zs} h=>by
  induction h with
  | nil=>rfl
  | cons h r ih=>rw [List.map_cons,nj h,<- ih]
 have hm:∀a∈as',H2 a=some (.tup (pqV (qA H2 a))):=λ a ha=>by
  obtain ⟨i,hi⟩:=List.mem_iff_getElem?.mp (pm.mem_iff.mp ha)
  obtain ⟨q0,hq0,h0⟩:=Paired.getR pa2 hi
  rw [nj h0]; exact h0
 have mkP:∀ {xs:List Addr},(∀a∈xs,H2 a=some (.tup (pqV (qA H2 a))))->Paired (PqU (upd H2 r (.lst (as'.map V.ref)))) (xs.map V.ref) (xs.map (qA H2)):=λ {xs} h=>by
  induction xs with
  | nil=>exact .nil
  | cons a xs ih=>exact .cons ⟨a,Y,Same.new hr _ _ (h a List.mem_cons_self)⟩ (ih λ c hc=>h c (List.mem_cons_of_mem _ hc))
 have hr0:H r=none:=by
  cases e:H r with
  | none=>rfl
  | some o=>rw [b12 _ _ (ap e hfo0) (s1 _ _ e)] at hr; cases hr
 refine q r _ (as'.map (qA H2)) _ hr0 af (mkP hm) ?_ ?_ (λ c o e=>Same.new hr _ _ (b12 _ _ (ap e hfo0) (s1 _ _ e)))
 ·rw [<- eq2,qm pa2]
  exact pm.map _
 ·rw [List.map_map,List.map_congr_left (g:=oE H2) (λ a ha=>by rw [gF (hm a ha)]; rfl)]
  exact so
end
def pcL (b:Int) (dn:Bool):List (Int×Tl)->Int->Int->List Pq
 | [],_,_=>[]
 | z :: l,x,y=>pcT b (aQ z.2) x y ++ pcL b dn l (if dn=true then x + z.1 + b else x) (if dn=true then y else y + z.1 + b)
theorem nq (b:Int) (dn:Bool):∀ (l:List (Int×Tl)) (z:Int×Tl) (x y:Int),pcT b (trs dn (ofL (z :: l))) x y=pcL b dn (z :: l) x y
 | [],z,x,y=>by
  rw [ofL,ofL,jE,pcL,pcL,List.append_nil]
 | z' :: l,z,x,y=>by
  have ih:=nq b dn l z'
  rw [ofL] at ih
  rw [ofL,ofL,dY,pcL]
  show pcT b (aQ z.2) x y ++ (if dn=true then pcT b (trs dn (.cons z'.1 z'.2 (ofL l))) (x + (z.1 + b)) y else pcT b (trs dn (.cons z'.1 z'.2 (ofL l))) x (y + (z.1 + b)))=_
  rw [<- ih]
  cases dn with
  | true =>
   show _ ++ pcT b (trs true (.cons z'.1 z'.2 (ofL l))) (x + (z.1 + b)) y=_ ++ pcT b (trs true (.cons z'.1 z'.2 (ofL l))) (x + z.1 + b) y
   rw [Int.add_assoc]
  | false =>
   show _ ++ pcT b (trs false (.cons z'.1 z'.2 (ofL l))) x (y + (z.1 + b))=_ ++ pcT b (trs false (.cons z'.1 z'.2 (ofL l))) x (y + z.1 + b)
   rw [Int.add_assoc]
theorem vW {K:PySem.W.Frag} {H2:Hp} {fo:Addr} {us:List V} {qs:List Pq} (hf:H2 fo=some (.lst us)) (pu:Paired (PqU H2) us qs) (l:us.length < 64) {Q:VK}
  (q:∀ (r:Addr) (ys:List V) (qs':List Pq),H2 r=none->Paired (PqU (upd H2 r (.lst ys))) ys qs'->qs'.Perm qs->((qs'.map jK).Pairwise λ x y=>aP y x=false)->Q (.ref r) (upd H2 r (.lst ys))):qN K [.ref fo] H2 Q:=by
 have ex:∀ {us:List V} {qs:List Pq},Paired (PqU H2) us qs->∃as:List Addr,us=as.map V.ref/\qs=as.map (qA H2)/\∀a∈as,H2 a=some (.tup (pqV (qA H2 a))):=λ {us qs} h=>by
  induction h with
  | nil=>exact ⟨[],Y,Y,λ a ha=>by cases ha⟩
  | cons h r ih =>
   obtain ⟨a,e,h⟩:=h
   obtain ⟨as,e1,e2,e3⟩:=ih
   refine ⟨a :: as,by rw [e,e1]; rfl,by rw [List.map_cons,nj h,e2],λ c hc=>?_⟩
   rcases List.mem_cons.mp hc with hc | hc
   ·rw [hc,nj h]; exact h
   ·exact e3 c hc
 obtain ⟨as,rfl,rfl,hm⟩:=ex pu
 rw [List.length_map] at l
 refine ⟨fo,as,[false,true,false,false],oE H2,Y,SqL.of hf,l,Y,λ a ha=>⟨_,SqT.of (hm a ha),by rw [gF (hm a ha)]; rfl⟩,λ r as' hr pm so=>?_⟩
 have mkP:∀ {xs:List Addr},(∀a∈xs,H2 a=some (.tup (pqV (qA H2 a))))->Paired (PqU (upd H2 r (.lst (as'.map V.ref)))) (xs.map V.ref) (xs.map (qA H2)):=λ {xs} h=>by
  induction xs with
  | nil=>exact .nil
  | cons a xs ih=>exact .cons ⟨a,Y,Same.new hr _ _ (h a List.mem_cons_self)⟩ (ih λ c hc=>h c (List.mem_cons_of_mem _ hc))
 have hm':∀a∈as',H2 a=some (.tup (pqV (qA H2 a))):=λ a ha=>hm a (pm.mem_iff.mp ha)
 refine q r _ (as'.map (qA H2)) hr (mkP hm') (pm.map _) ?_
 rw [List.map_map,List.map_congr_left (g:=oE H2) (λ a ha=>by rw [gF (hm' a ha)]; rfl)]
 exact so
def pqd (q:Pq):PyData:=.tuple [.int q.k,.bool q.c,.int q.x,.int q.y]
theorem jL {K:PySem.W.Frag} {H:Hp}:∀ {ys:List V} {ps:List Pq},Paired (PqU H) ys ps->DatVs K H ys (ps.map pqd)
 | _,_,.nil=>.nil
 | _,_,.cons ⟨a,e,h⟩ r=>by
  subst e
  exact .cons (.tup (SqT.of h) (.cons (.int _) (.cons (.bl _) (.cons (.int _) (.cons (.int _) .nil))))) (jL r)
theorem iS {b:Int} {ks:List Kd} (b0:0<=b) (gk:∀k∈ks,Good k) (k8:ks.length<=8):∀ (t:Tr) {w h x y:Int},okU b ks w h t->0<=x->0<=y->x + w < 10 ^ 61->y + h < 10 ^ 61->∀q∈pcT b t x y,Sm q.k/\Sm q.x/\Sm q.y
 | .rest,_,_,_,_,_,_,_,_,_,q,hq=>by cases hq
 | .piece i c px py,w,h,x,y,⟨k,hk,_,x0,y0,hx,hy⟩,hx0,hy0,hw,hh,q,hq=>by
  have e2:(100:Int) < 10 ^ 61:=by decide
  have hg:=gk k (List.mem_of_getElem? hk)
  have hi:=(List.getElem?_eq_some_iff.mp hk).1
  have s1:1<=sd1 k c/\1<=sd2 k c:=by
   obtain ⟨g1,g2,_⟩:=hg
   cases c
   ·exact ⟨g1,g2⟩
   ·exact ⟨g2,g1⟩
  rw [List.mem_singleton.mp hq]
  exact ⟨⟨by show (0:Int)<=i; omega,by show (i:Int) < _; omega⟩,⟨by show 0<=x + px; omega,by show x + px < _; omega⟩,⟨by show 0<=y + py; omega,by show y + py < _; omega⟩⟩
 | .cut true p l r,w,h,x,y,⟨p1,hp,hl,hr⟩,hx0,hy0,hw,hh,q,hq=>by
  rcases List.mem_append.mp hq with hq | hq
  ·exact iS b0 gk k8 l hl hx0 hy0 (by omega) hh q hq
  ·exact iS b0 gk k8 r hr (by omega) hy0 (by omega) hh q hq
 | .cut false p l r,w,h,x,y,⟨p1,hp,hl,hr⟩,hx0,hy0,hw,hh,q,hq=>by
  rcases List.mem_append.mp hq with hq | hq
  ·exact iS b0 gk k8 l hl hx0 hy0 hw (by omega) q hq
  ·exact iS b0 gk k8 r hr hx0 (by omega) hw (by omega) q hq
theorem jM:∀ {qs:List Pq},(∀q∈qs,Sm q.k/\Sm q.x/\Sm q.y)->Fits (qs.map pqd)/\wts (qs.map pqd)=5 * qs.length
 | [],_=>⟨.nil,Y⟩
 | q :: qs,h=>by
  obtain ⟨h1,h2,h3⟩:=h q List.mem_cons_self
  obtain ⟨g1,g2⟩:=jM (qs:=qs) λ y hy=>h y (List.mem_cons_of_mem _ hy)
  refine ⟨.cons (.tuple (.cons (.int h1) (.cons (.bool _) (.cons (.int h2) (.cons (.int h3) .nil))))) g1,?_⟩
  show 1 + (1 + (1 + (1 + 0))) + 1 + wts (qs.map pqd)=5 * (qs.length + 1)
  omega
theorem nu (qs:List Pq):PyData.depthAll (qs.map pqd)<=1:=by
 induction qs with
 | nil=>exact Nat.zero_le _
 | cons q qs ih =>
  show max (max 0 (max 0 (max 0 (max 0 0))) + 1) (PyData.depthAll (qs.map pqd))<=1
  omega
mutual
theorem TlV.dt {p:Addr} {H:Hp}:∀ (t:Tl) {v:V},TlV H t v->Dt p H v (tlD t)
 | .rest,_,h=>by
  rw [TlV] at h
  obtain ⟨a,e,h⟩:=h
  subst e
  exact .tup h (.cons (.str _) .nil)
 | .piece ..,_,h=>by
  rw [TlV] at h
  obtain ⟨a,e,h⟩:=h
  subst e
  exact .tup h (.cons (.str _) (.cons (.int _) (.cons (.bl _) (.cons (.int _) (.cons (.int _) .nil)))))
 | .row dn r,_,h=>by
  rw [TlV] at h
  obtain ⟨a,q,xs,e,h1,h2,h3⟩:=h
  subst e
  exact .tup h1 (.cons (.str _) (.cons (.tup h2 (TlsV.dt r h3)) .nil))
theorem TlsV.dt {p:Addr} {H:Hp}:∀ (t:Tls) {v:List V},TlsV H t v->Dts p H v (bm t)
 | .nil,_,h=>by rw [TlsV] at h; subst h; exact .nil
 | .cons n t r,_,h=>by
  rw [TlsV] at h
  obtain ⟨a,u,ys,e,h1,h2,h3⟩:=h
  subst e
  exact .cons (.tup h1 (.cons (.int _) (.cons (TlV.dt t h2) .nil))) (TlsV.dt r h3)
end
section
variable {P:Program} {w:World} {K:PySem.W.Frag} {mg:Str->Option Value} {base:Heap}
inductive spLaid (n:Nat) (vs:List V) (H:Hp) (Q:VK) (E_:XK):Prop
 | mk (t kl:Addr) (b x y w h:Int) (ks:List Kd) (v:V) (T:Tl) (e_1:vs=[.ref t,.int x,.int y,.int w,.int h,v]) (e_2:LS H t b ks kl) (e_3:TlV H T v) (e_4:okL b ks T w h) (e_5:0<=b) (e_6:lcT T<=63) (e_7:(tlD T).depth < n) (e_8:∀ (r:Addr) (ys:List V) (qs:List Pq) (H':Hp),H' r=some (.lst ys)->Paired (PqU H') ys qs->qs.Perm (pcT b (aQ T) x y)->((qs.map jK).Pairwise λ x y=>aP y x=false)->Same H H'->Q (.ref r) H'):spLaid n vs H Q E_
inductive spRight (C:Addr) (vs:List V) (H:Hp) (Q:VK) (E_:XK):Prop
 | mk (t kl s:Addr) (b w h:Int) (ks:List Kd) (v u:V) (T:Tl) (e_1:vs=[.ref t,.ref s,.int w,.int h,v,u]) (e_2:LS H t b ks kl) (e_3:ShopAt C H s b ks) (e_4:ks.length<=8) (e_5:(∀k∈ks,Good k)) (e_6:TlV H T v) (e_7:TrV H (aQ T) u) (e_8:okL b ks T w h) (e_9:0<=b) (e_10:1<=w) (e_11:1<=h) (e_12:w < 10 ^ 60) (e_13:h < 10 ^ 60) (e_14:lcT T<=50) (e_15:(tlD T).depth<=150) (e_16:Fit (tlD T)) (e_17:wt (tlD T)<=20000) (e_18:∀ (H':Hp),Same H H'->Q (.bl true) H'):spRight C vs H Q E_
theorem sclaid:FnScope ["_law_shop_here","_law_x","_law_y","_law_wide","_law_high","_law_told_here","_law_found","_law_size","_law_inner"] ["_law_shop_here","_law_x","_law_y","_law_wide","_law_high","_law_told_here"] (defScope iI):=⟨Y,Y,Y,by decide +kernel,Y,by decide +kernel,by decide +kernel⟩
set_option maxHeartbeats 1000000 in
theorem uF {f:Addr} {fd:FuncData} (F:Fun K "_law_laid" "_law_laid" iI f fd) (B:Blt mg) (n:Nat) (DT:Dn P w K mg base "_law_laid" ["_law_shop_here","_law_x","_law_y","_law_wide","_law_high","_law_told_here"] (2 + n) (spLaid n)):FnOk P w K mg base CX0 (2 + (n + 1)) f fd ["_law_shop_here","_law_x","_law_y","_law_wide","_law_high","_law_told_here"] (spLaid (n + 1)):=by
 refine F.ok sclaid (λ vs H Q E h=>?_) (λ cdv A outer s H vs Q E hr h=>?_)
 ·obtain ⟨t,kl,b,x,y,w1,h1,ks,v,T,rfl,_⟩:=h
  rfl
 obtain ⟨t,kl,b,x,y,w1,h1,ks,v,T,rfl,sh,tv,okt,b0,l63,dn0,q⟩:=h
 have nd:=sclaid.nd
 refine ⟨_,(@ae _ _ _ _ _ (@aG _ _ _ _ _ _ _ _ (@aE _ _ _ _ _ _ _ _ aZ (@ao _ _ _ _ _ _ _ ix_tup (pv 5) ad (λ _ _=>Y)) be (ay _)) (@ag _ _ _ (@ar _ _ _ _ (@aJ _ _ _ _ ab))) aB) (@ae _ _ _ _ _ (@aG _ _ _ _ _ _ _ _ (@aE _ _ _ _ _ _ _ _ aZ (@ao _ _ _ _ _ _ _ ix_tup (pv 5) ad (λ _ _=>Y)) be (ay _)) (@ag _ _ _ (@ar _ _ _ _ (@aJ _ _ _ _ ((@az _ _ _ _ _ ((@ao _ _ _ _ _ _ _ ix_tup (pv 5) ad (λ _ _=>Y))^^^((@ao _ _ _ _ _ _ _ ix_tup (pv 5) ad (λ _ _=>Y))^^^((@aA _ _ _ _ _ _ _ _ aI (pv 1) (@ao _ _ _ _ _ _ _ ix_tup (pv 5) ad (λ _ _=>Y)))^^^((@aA _ _ _ _ _ _ _ _ aI (pv 2) (@ao _ _ _ _ _ _ _ ix_tup (pv 5) ad (λ _ _=>Y)))^^^ab)))))^^^ab)))) aB) (@ae _ _ _ _ _ (@aD _ _ 6 _ _ _ _ nd Y (Or.inl Y) (@aJ _ _ _ _ ab) Y (Or.inl Y)) (@ae _ _ _ _ _ (@ce _ _ _ _ _ _ _ _ PassesOwn.never Y (fu (@ao _ _ _ _ _ _ _ ix_tup (pv 5) ad (λ _ _=>Y))) (aX Y (ah (ai (i:=7) nd Y (Or.inl Y)) (ah (ai (i:=8) nd Y (Or.inl Y)) aK))) (@ag _ _ _ (@aG _ _ _ _ _ _ _ _ (@aE _ _ _ _ _ _ _ _ aZ (@ao _ _ _ _ _ _ _ ix_tup (pv 5) ad (λ _ _=>Y)) be (ay _)) (@ae _ _ _ _ _ (@aD _ _ 6 _ _ _ _ nd Y (Or.inl Y) (@aA _ _ _ _ _ _ _ _ jf (pv 6) (@am _ _ _ _ _ _ _ _ _ _ DT hr Y ((pv 0)^^^((pv 1)^^^((pv 2)^^^((pv 7)^^^((pv 4)^^^((pv 8)^^^ab)))))) (by decide) Y Y)) Y (Or.inl Y)) (@ag _ _ _ (@aD _ _ 1 _ _ _ _ nd Y (Or.inl Y) (@aA _ _ _ _ _ _ _ _ aI (@aA _ _ _ _ _ _ _ _ aI (pv 1) (pv 7)) (@ao _ _ _ _ _ _ _ ix_tup (pv 0) ad (λ _ _=>Y))) Y (Or.inl Y)))) (@ae _ _ _ _ _ (@aD _ _ 6 _ _ _ _ nd Y (Or.inl Y) (@aA _ _ _ _ _ _ _ _ jf (pv 6) (@am _ _ _ _ _ _ _ _ _ _ DT hr Y ((pv 0)^^^((pv 1)^^^((pv 2)^^^((pv 3)^^^((pv 7)^^^((pv 8)^^^ab)))))) (by decide) Y Y)) Y (Or.inl Y)) (@ag _ _ _ (@aD _ _ 2 _ _ _ _ nd Y (Or.inl Y) (@aA _ _ _ _ _ _ _ _ aI (@aA _ _ _ _ _ _ _ _ aI (pv 2) (pv 7)) (@ao _ _ _ _ _ _ _ ix_tup (pv 0) ad (λ _ _=>Y))) Y (Or.inl Y)))))) (by intro _; rfl)) (@ag _ _ _ (@ar _ _ _ _ (@aw _ _ _ _ _ _ _ _ _ eX Y B.sorted PyProof.Rows.boot_sorted ((pv 6)^^^ab) (by decide) (by decide) Y Y))))))),?_⟩
 have sz:(1000:Nat) < sizeLine:=by decide
 cases tt:T with
 | rest =>
  rw [tt,TlV] at tv
  obtain ⟨a,rfl,ha⟩:=tv
  refine ⟨_,Y,a,_,0,_,Y,Y,SqT.of ha,Y,Y,_,Y,bY (by decide +kernel) ⟨by decide,λ r hr=>q r [] [] _ af .nil ?_ .nil (Same.new hr)⟩⟩
  rw [tt,aQ]
  exact .refl _
 | piece i cc px py =>
  rw [tt,TlV] at tv
  obtain ⟨a,rfl,ha⟩:=tv
  refine ⟨_,Y,a,_,0,_,Y,Y,SqT.of ha,Y,Y,_,Y,bJ (by decide +kernel) ⟨_,Y,a,_,0,_,Y,Y,SqT.of ha,Y,Y,_,Y,bY (by decide +kernel) ?_⟩⟩
  refine ⟨_,Y,a,_,1,_,Y,Y,SqT.of ha,Y,_,Y,a,_,2,_,Y,Y,SqT.of ha,Y,_,Y,_,Y,a,_,3,_,Y,Y,SqT.of ha,Y,_,_,Y,Y,_,Y,_,Y,a,_,4,_,Y,Y,SqT.of ha,Y,_,_,Y,Y,zS4,λ pa hpa=>?_⟩
  obtain ⟨H1,e1,k1,s1⟩:∃H',upd H pa (.tup [.int i,.bl cc,.int (x + px),.int (y + py)])=H'/\H' pa=some (.tup [.int i,.bl cc,.int (x + px),.int (y + py)])/\Same H H':=⟨_,Y,af,Same.new hpa⟩
  rw [show upd H pa _=H1 from e1]
  refine ⟨zS1,λ r hr=>q r [.ref pa] [⟨i,cc,x + px,y + py⟩] _ af (.cons ⟨pa,Y,Same.new hr _ _ k1⟩ .nil) ?_ (List.pairwise_singleton _ _) (s1.trans (Same.new hr))⟩
  rw [tt,aQ]
  exact .refl _
 | row dn r =>
  rw [tt,TlV] at tv
  obtain ⟨a,qa,xs,rfl,ha,hq,tvs⟩:=tv
  have its:=jJ tvs
  have xl:=Paired.length its
  have okr:=okt
  rw [tt] at okr
  rw [okL] at okr
  obtain ⟨o1,o2,o3,o4⟩:=okr
  have items:=fg o4
  have l63':=l63
  rw [tt,lcT] at l63'
  have ll:=jH o4 λ z hz=>lS b0 (items z hz).2.2
  rw [tt] at dn0
  have tot:(pcL b dn (toL r) x y).length<=63/\pcT b (aQ T) x y=pcL b dn (toL r) x y:=by
   have e9:pcT b (aQ T) x y=pcL b dn (toL r) x y:=by
    rw [tt,fh]
    cases el:toL r with
    | nil=>rw [el] at o1; exact absurd o1 (by simp)
    | cons z l=>rw [<- nq,<- el,dk]
   refine ⟨?_,e9⟩
   rw [<- e9]
   have:=ic b (aQ T) x y
   rw [iR b0 okt] at this
   omega
  obtain ⟨t63,etot⟩:=tot
  rw [etot] at q
  have ha':∀ {Hx:Hp},Same H Hx->Hx a=some (.tup [.str (wyL dn),.ref qa]):=λ sx=>sx _ _ ha
  refine aj (λ R=>R [some (.ref t),some (.int x),some (.int y),some (.int w1),some (.int h1),some (.ref a),none,none,none] H) (λ Dd hR=>?_) ?_
  ·exact ⟨_,Y,a,_,0,_,Y,Y,SqT.of ha,Y,Y,_,Y,bJ (by cases dn <;> decide +kernel) (hR)⟩
  skip
  refine aj (λ R=>R [some (.ref t),some (.int x),some (.int y),some (.int w1),some (.int h1),some (.ref a),none,none,none] H) (λ Dd hR=>?_) ?_
  ·exact ⟨_,Y,a,_,0,_,Y,Y,SqT.of ha,Y,Y,_,Y,bJ (by cases dn <;> decide +kernel) (hR)⟩
  skip
  refine aj (λ R=>∀ (fo:Addr) (H':Hp),H' fo=some (.lst [])->Same H H'->R [some (.ref t),some (.int x),some (.int y),some (.int w1),some (.int h1),some (.ref a),some (.ref fo),none,none] H') (λ Dd hR=>?_) ?_
  ·refine ⟨by decide,λ fo hfo=>hR fo _ af (Same.new hfo)⟩
  rintro fo H1 hfo s1
  refine cC (λ σ' H'=>∃i,i=xs.length/\(∃ (x1 y1:Int) (fo:Addr) (us:List V) (qs:List Pq) (v7 v8:Option V),σ'=[some (.ref t),some (.int x1),some (.int y1),some (.int w1),some (.int h1),some (.ref a),some (.ref fo),v7,v8]/\H' fo=some (.lst us)/\Paired (PqU H') us qs/\(qs ++ pcL b dn ((toL r).drop i) x1 y1).Perm (pcL b dn (toL r) x y))/\Same H H') (λ R hR=>?_) ?_
  ·have hq1:=s1 _ _ hq
   refine ⟨_,Y,a,_,1,_,Y,Y,SqT.of (ha' s1),Y,qa,Y,⟨_,SqT.of hq1⟩,gm (xs:=xs) (λ i σ' H'=>(∃ (x1 y1:Int) (fo:Addr) (us:List V) (qs:List Pq) (v7 v8:Option V),σ'=[some (.ref t),some (.int x1),some (.int y1),some (.int w1),some (.int h1),some (.ref a),some (.ref fo),v7,v8]/\H' fo=some (.lst us)/\Paired (PqU H') us qs/\(qs ++ pcL b dn ((toL r).drop i) x1 y1).Perm (pcL b dn (toL r) x y))/\Same H H') ⟨⟨x,y,fo,[],[],_,_,Y,hfo,.nil,.refl _⟩,s1⟩ (λ i σ H' _ h=>SqT.of (h.2 _ _ hq)) ?_ (λ σ Hx h=>hR _ _ ⟨_,Y,h⟩)⟩
   rintro i x0 _ H2 hi ⟨⟨x1,y1,fo,us,qs,v7,v8,rfl,hfo,pu,pm⟩,s02⟩
   have hin:i < xs.length:=(List.getElem?_eq_some_iff.mp hi).1
   obtain ⟨z,hz,a3,u3,rfl,h3,tv3⟩:=Paired.getR its hi
   have hm:=List.mem_of_getElem? hz
   obtain ⟨m1,m2,m3⟩:=items z hm
   have dpt:=fj (n:=0) (t:=.rest) (dn:=dn) hm
   have lcm:=lR hm
   have ul:=Paired.length pu
   have pml:=pm.length_eq
   rw [List.length_append] at pml
   have hlt:i < (toL r).length:=by omega
   have dd:(toL r).drop i=z :: (toL r).drop (i + 1):=by
    rw [List.drop_eq_getElem_cons hlt]
    congr 1
    rw [List.getElem?_eq_getElem hlt] at hz
    exact Option.some.inj hz
   refine ⟨a3,_,Y,SqT.of (s02 _ _ h3),Y,_,_,Y,_,_,Y,Y,_,Y,a,_,0,_,Y,Y,SqT.of (ha' s02),Y,Y,_,Y,?_⟩
   cases dn with
   | true =>
    refine bY (by decide +kernel) ?_
    refine aj (λ R=>∀ (f2:Addr) (us2:List V) (qs2:List Pq) (H':Hp),H' f2=some (.lst us2)->Paired (PqU H') us2 qs2->qs2.Perm (qs ++ pcT b (aQ z.2) x1 y1)->Same H2 H'->R [some (.ref t),some (.int x1),some (.int y1),some (.int w1),some (.int h1),some (.ref a),some (.ref f2),some (.int z.1),some u3] H') (λ Dd hR=>?_) ?_
    ·refine ⟨_,Y,_,Y,_,Y,_,Y,_,Y,_,Y,_,Y,t,kl,b,x1,y1,_,_,ks,u3,z.2,Y,sh.same s02,TlV.keep (λ a xs e=>s02 _ _ e) _ tv3,m3,b0,by omega,by omega,λ r4 ys4 qs4 H4 h4 p4 pm4 _ s4=>?_⟩
     have yl4:=Paired.length p4
     have ql4:=pm4.length_eq
     have pl4:=ic b (aQ z.2) x1 y1
     rw [iR b0 m3] at pl4
     refine ⟨fo,r4,_,_,Y,Y,s4 _ _ hfo,h4,by omega,λ f2 hf2=>?_⟩
     obtain ⟨H5,e5,k5,s5⟩:∃H',upd H4 f2 (.lst (us ++ ys4))=H'/\H' f2=some (.lst (us ++ ys4))/\Same H4 H':=⟨_,Y,af,Same.new hf2⟩
     rw [show upd H4 f2 _=H5 from e5]
     exact hR f2 (us ++ ys4) (qs ++ qs4) _ k5 (dJ (Paired.mapP pu λ v q h=>h.keep λ a xs e=>s5 _ _ (s4 _ _ e)) (Paired.mapP p4 λ v q h=>h.keep λ a xs e=>s5 _ _ e)) (pm4.append_left _) (s4.trans s5)
    rintro f2 us2 qs2 H3 hf3 p3 pm3 s23
    obtain ⟨kr,ht,_⟩:=id (sh.same (s02.trans s23))
    refine ⟨_,Y,_,Y,_,_,Y,Y,_,Y,t,_,0,_,Y,Y,SqT.of ht,Y,_,_,Y,Y,⟨_,_,f2,us2,qs2,_,_,Y,hf3,p3,?_⟩,s02.trans s23⟩
    refine List.Perm.trans ?_ pm
    rw [dd,pcL]
    refine List.Perm.trans (pm3.append_right _) ?_
    rw [List.append_assoc]
    exact .refl _
   | false =>
    refine bJ (by decide +kernel) ?_
    refine aj (λ R=>∀ (f2:Addr) (us2:List V) (qs2:List Pq) (H':Hp),H' f2=some (.lst us2)->Paired (PqU H') us2 qs2->qs2.Perm (qs ++ pcT b (aQ z.2) x1 y1)->Same H2 H'->R [some (.ref t),some (.int x1),some (.int y1),some (.int w1),some (.int h1),some (.ref a),some (.ref f2),some (.int z.1),some u3] H') (λ Dd hR=>?_) ?_
    ·refine ⟨_,Y,_,Y,_,Y,_,Y,_,Y,_,Y,_,Y,t,kl,b,x1,y1,_,_,ks,u3,z.2,Y,sh.same s02,TlV.keep (λ a xs e=>s02 _ _ e) _ tv3,m3,b0,by omega,by omega,λ r4 ys4 qs4 H4 h4 p4 pm4 _ s4=>?_⟩
     have yl4:=Paired.length p4
     have ql4:=pm4.length_eq
     have pl4:=ic b (aQ z.2) x1 y1
     rw [iR b0 m3] at pl4
     refine ⟨fo,r4,_,_,Y,Y,s4 _ _ hfo,h4,by omega,λ f2 hf2=>?_⟩
     obtain ⟨H5,e5,k5,s5⟩:∃H',upd H4 f2 (.lst (us ++ ys4))=H'/\H' f2=some (.lst (us ++ ys4))/\Same H4 H':=⟨_,Y,af,Same.new hf2⟩
     rw [show upd H4 f2 _=H5 from e5]
     exact hR f2 (us ++ ys4) (qs ++ qs4) _ k5 (dJ (Paired.mapP pu λ v q h=>h.keep λ a xs e=>s5 _ _ (s4 _ _ e)) (Paired.mapP p4 λ v q h=>h.keep λ a xs e=>s5 _ _ e)) (pm4.append_left _) (s4.trans s5)
    rintro f2 us2 qs2 H3 hf3 p3 pm3 s23
    obtain ⟨kr,ht,_⟩:=id (sh.same (s02.trans s23))
    refine ⟨_,Y,_,Y,_,_,Y,Y,_,Y,t,_,0,_,Y,Y,SqT.of ht,Y,_,_,Y,Y,⟨_,_,f2,us2,qs2,_,_,Y,hf3,p3,?_⟩,s02.trans s23⟩
    refine List.Perm.trans ?_ pm
    rw [dd,pcL]
    refine List.Perm.trans (pm3.append_right _) ?_
    rw [List.append_assoc]
    exact .refl _
  rintro _ H2 ⟨i,rfl,⟨x1,y1,fo,us,qs,v7,v8,rfl,hfo2,pu,pm⟩,s02⟩
  rw [show (toL r).drop xs.length=[] by rw [xl]; exact List.drop_length,pcL,List.append_nil] at pm
  have ul:=Paired.length pu
  have pml:=pm.length_eq
  exact ⟨_,Y,vW hfo2 pu (by omega) λ r' ys' qs' hr' p' pm' so=>q r' ys' qs' _ af p' (pm'.trans pm) so (s02.trans (Same.new hr'))⟩
theorem sD {f:Addr} {fd:FuncData} (F:Fun K "_law_laid" "_law_laid" iI f fd):FnOk P w K mg base CX0 2 f fd ["_law_shop_here","_law_x","_law_y","_law_wide","_law_high","_law_told_here"] (spLaid 0):=by
 refine F.ok sclaid (λ vs H Q E h=>?_) (λ cdv A outer s H vs Q E hr h=>?_)
 ·obtain ⟨t,kl,b,x,y,w1,h1,ks,v,T,rfl,_⟩:=h
  rfl
 ·obtain ⟨t,kl,b,x,y,w1,h1,ks,v,T,rfl,_,_,_,_,_,z,_⟩:=h
  exact absurd z (Nat.not_lt_zero _)
theorem kH {f:Addr} {fd:FuncData} (F:Fun K "_law_laid" "_law_laid" iI f fd) (B:Blt mg) (mk:∀n,FnOk P w K mg base CX0 (2 + n) f fd ["_law_shop_here","_law_x","_law_y","_law_wide","_law_high","_law_told_here"] (spLaid n)->Dn P w K mg base "_law_laid" ["_law_shop_here","_law_x","_law_y","_law_wide","_law_high","_law_told_here"] (2 + n) (spLaid n)):∀n,FnOk P w K mg base CX0 (2 + n) f fd ["_law_shop_here","_law_x","_law_y","_law_wide","_law_high","_law_told_here"] (spLaid n)
 | 0=>sD F
 | n + 1=>uF F B n (mk n (kH F B mk n))
theorem scright:FnScope ["_law_shop_here","_law_made","_law_wide","_law_high","_law_told_here","_law_found","_law_leaves","_law_due"] ["_law_shop_here","_law_made","_law_wide","_law_high","_law_told_here","_law_found"] (defScope jv):=⟨Y,Y,Y,by decide +kernel,Y,by decide +kernel,by decide +kernel⟩
set_option maxHeartbeats 1000000 in
theorem sE {f C:Addr} {fd:FuncData} (F:Fun K "_law_right" "_law_right" jv f fd) (B:Blt mg) (DWk:Dn P w K mg base "_law_walk" ["_law_shop_here","_law_part","_law_tree_here"] 53 (spWalk 50)) (DPc:Dn P w K mg base "_law_pieces" ["_law_leaves"] 1 (spPcs K)) (DLd:Dn P w K mg base "_law_laid" ["_law_shop_here","_law_x","_law_y","_law_wide","_law_high","_law_told_here"] 153 (spLaid 151)) (DTo:Dn P w K mg base "_law_told" ["_law_shop_here","_law_wide","_law_high","_law_tree_here"] 53 (spToldL 50)) (DTe:Dn P w K mg base "telling_of" ["shop","wide","high","tree"] 54 (spTellO C)):FnOk P w K mg base CX0 154 f fd ["_law_shop_here","_law_made","_law_wide","_law_high","_law_told_here","_law_found"] (spRight C):=by
 refine F.ok scright (λ vs H Q E h=>?_) (λ cdv A outer s H vs Q E hr h=>?_)
 ·obtain ⟨t,kl,s,b,w1,h1,ks,v,u,T,rfl,_⟩:=h
  rfl
 obtain ⟨t,kl,s,b,w1,h1,ks,v,u,T,rfl,sh,SH,k8,gk,tv,tr,okt,b0,w0,h0,w60,h60,l50,d150,ft,wf,q⟩:=h
 have nd:=scright.nd
 have hg:=hr.gd
 have hu2:=Room.units220 hr (by decide)
 refine ⟨_,(@ae _ _ _ _ _ (@aD _ _ 6 _ _ _ _ nd Y (Or.inl Y) (@am _ _ _ _ _ _ _ _ _ _ DWk (hr.mono (by decide)) Y ((pv 0)^^^((@az _ _ _ _ _ (ad^^^(ad^^^((pv 2)^^^((pv 3)^^^ab)))))^^^((pv 5)^^^ab))) (by decide) Y Y) Y (Or.inl Y)) (@ae _ _ _ _ _ (@aD _ _ 7 _ _ _ _ nd Y (Or.inl Y) (@aw _ _ _ _ _ _ _ _ _ (bp hg hu2) Y B.repr PyProof.Rows.boot_repr ((@am _ _ _ _ _ _ _ _ _ _ DLd hr Y ((pv 0)^^^(ad^^^(ad^^^((pv 2)^^^((pv 3)^^^((pv 4)^^^ab)))))) (by decide) Y Y)^^^ab) (by decide) (by decide) Y Y) Y (Or.inl Y)) (@ae _ _ _ _ _ (@aG _ _ _ _ _ _ _ _ (PW.pt (bq (@aE _ _ _ _ _ _ _ _ iZ (pv 6) cL (ay _)) (bz (@aE _ _ _ _ _ _ _ _ ej (@aw _ _ _ _ _ _ _ _ _ (bp hg hu2) Y B.repr PyProof.Rows.boot_repr ((@am _ _ _ _ _ _ _ _ _ _ DPc (hr.mono (by decide)) Y ((pv 6)^^^ab) (by decide) Y Y)^^^ab) (by decide) (by decide) Y Y) (pv 7) (ay _))))) (@ag _ _ _ (@ar _ _ _ _ bI)) aB) (@ae _ _ _ _ _ (@aG _ _ _ _ _ _ _ _ (@aE _ _ _ _ _ _ _ _ ej (@aw _ _ _ _ _ _ _ _ _ (bp hg hu2) Y B.repr PyProof.Rows.boot_repr ((@am _ _ _ _ _ _ _ _ _ _ DTo (hr.mono (by decide)) Y ((pv 0)^^^((pv 2)^^^((pv 3)^^^((pv 5)^^^ab)))) (by decide) Y Y)^^^ab) (by decide) (by decide) Y Y) (@aw _ _ _ _ _ _ _ _ _ (bp hg hu2) Y B.repr PyProof.Rows.boot_repr ((pv 4)^^^ab) (by decide) (by decide) Y Y) (ay _)) (@ag _ _ _ (@ar _ _ _ _ bI)) aB) (@ag _ _ _ (@ar _ _ _ _ (@aW _ _ _ _ _ _ _ _ aZ (@aw _ _ _ _ _ _ _ _ _ (bp hg hu2) Y B.repr PyProof.Rows.boot_repr ((@am _ _ _ _ _ _ _ _ _ _ DTe (hr.mono (by decide)) Y ((pv 1)^^^((pv 2)^^^((pv 3)^^^((pv 5)^^^ab)))) (by decide) Y Y)^^^ab) (by decide) (by decide) Y Y) (@aw _ _ _ _ _ _ _ _ _ (bp hg hu2) Y B.repr PyProof.Rows.boot_repr ((pv 4)^^^ab) (by decide) (by decide) Y Y) (ay _)))))))),?_⟩
 have sz:(1000:Nat) < sizeLine:=by decide
 have e60:(10:Int) ^ 60 < 10 ^ 61:=by decide
 obtain ⟨oku,etl⟩:=kD b0 T okt
 have lv:=iR b0 okt
 have dl:=dM (aQ T)
 obtain ⟨q1,q2,q3⟩:=ft.ok (by omega)
 refine aj (λ R=>∀ (lf:Addr) (us:List V) (H':Hp),H' lf=some (.lst us)->Paired (LfV H') us (lvT b (aQ T) 0 0 w1 h1)->Same H H'->R [some (.ref t),some (.ref s),some (.int w1),some (.int h1),some v,some u,some (.ref lf),none] H') (λ Dd hR=>?_) ?_
 ·refine ⟨_,Y,_,Y,_,Y,zS4,λ pa hpa=>?_⟩
  obtain ⟨H1,e1,k1,s1⟩:∃H',upd H pa (.tup [.int 0,.int 0,.int w1,.int h1])=H'/\H' pa=some (.tup [.int 0,.int 0,.int w1,.int h1])/\Same H H':=⟨_,Y,af,Same.new hpa⟩
  rw [show upd H pa _=H1 from e1]
  exact ⟨_,Y,t,kl,pa,b,0,0,w1,h1,ks,u,aQ T,Y,sh.same s1,k8,k1,TrV.keep (λ a xs e=>s1 _ _ e) _ tr,oku,by omega,by omega,by omega,λ l us H2 hl pl s2=>hR l us _ hl pl (s1.trans s2)⟩
 rintro lf us H1 hlf plf s1
 refine aj (λ R=>∀ (qs:List Pq) (H':Hp),qs.Perm (pcT b (aQ T) 0 0)->((qs.map jK).Pairwise λ x y=>aP y x=false)->Same H1 H'->R [some (.ref t),some (.ref s),some (.int w1),some (.int h1),some v,some u,some (.ref lf),some (.str (PyData.list (qs.map pqd)).shown)] H') (λ Dd hR=>?_) ?_
 ·refine ⟨_,Y,_,Y,_,Y,_,Y,t,kl,b,0,0,w1,h1,ks,v,T,Y,sh.same s1,TlV.keep (λ a xs e=>s1 _ _ e) _ tv,okt,b0,by omega,by omega,λ r ys qs H2 hr p2 pm so s2=>?_⟩
  obtain ⟨fq,wq⟩:=jM λ q hq=>iS b0 gk k8 (aQ T) oku (Int.le_refl 0) (Int.le_refl 0) (by omega) (by omega) q (pm.mem_iff.mp hq)
  have ql:=pm.length_eq
  have pcl:=ic b (aQ T) 0 0
  have dep:=nu qs
  obtain ⟨g1,g2,g3⟩:=(Fit.list fq).ok (by show wts (qs.map pqd) + 1<=100000; omega)
  exact ⟨r,.list (qs.map pqd),Y,.lst (SqL.of hr) (jL p2),g1,g2,by show PyData.depthAll (qs.map pqd) + 1<=200; omega,g3,hR qs _ pm so s2⟩
 rintro qs H2 pm so s12
 have s02:=s1.trans s12
 refine aj (λ R=>∀ (H':Hp),Same H H'->R [some (.ref t),some (.ref s),some (.int w1),some (.int h1),some v,some u,some (.ref lf),some (.str (PyData.list (qs.map pqd)).shown)] H') (λ Dd hR=>?_) ?_
 ·refine ⟨_,Y,Y,_,Y,bJ rfl ?_⟩
  refine ⟨_,Y,lf,us,_,Y,s12 _ _ hlf,Paired.mapP plf (λ v f h=>h.same s12),by rw [dq]; omega,λ r ys qs' H3 _ hr p3 pm' so' s3=>?_⟩
  rw [fT] at pm'
  have eq:qs'=qs:=yq (pm'.trans pm.symm) so' so
  subst eq
  obtain ⟨fq,wq⟩:=jM λ q hq=>iS b0 gk k8 (aQ T) oku (Int.le_refl 0) (Int.le_refl 0) (by omega) (by omega) q (pm.mem_iff.mp hq)
  have ql:=pm.length_eq
  have pcl:=ic b (aQ T) 0 0
  have dep:=nu qs'
  obtain ⟨g1,g2,g3⟩:=(Fit.list fq).ok (by show wts (qs'.map pqd) + 1<=100000; omega)
  refine ⟨r,.list (qs'.map pqd),Y,.lst (SqL.of hr) (jL p3),g1,g2,by show PyData.depthAll (qs'.map pqd) + 1<=200; omega,g3,_,Y,Y,_,Y,?_⟩
  rw [show (!decide (V.str (PyData.list (qs'.map pqd)).shown=V.str (PyData.list (qs'.map pqd)).shown))=false by rw [decide_eq_true rfl]; rfl]
  exact aL (hR _ (s02.trans s3))
 rintro H3 s3
 refine aj (λ R=>∀ (H':Hp),Same H H'->R [some (.ref t),some (.ref s),some (.int w1),some (.int h1),some v,some u,some (.ref lf),some (.str (PyData.list (qs.map pqd)).shown)] H') (λ Dd hR=>?_) ?_
 ·refine ⟨_,Y,_,Y,_,Y,_,Y,t,kl,b,w1,h1,ks,u,aQ T,Y,sh.same s3,TrV.keep (λ a xs e=>s3 _ _ e) _ tr,by omega,by omega,λ uu H4 tl s4=>?_⟩
  rw [etl] at tl
  obtain ⟨ua,rfl⟩:=TlV.ref _ tl
  have tv4:=TlV.keep (λ a xs e=>s4 _ _ (s3 _ _ e)) _ tv
  obtain ⟨va,rfl⟩:=TlV.ref _ tv4
  refine ⟨ua,_,Y,TlV.dat _ tl,q1,q2,by omega,q3,_,Y,va,_,Y,TlV.dat _ tv4,q1,q2,by omega,q3,Y,_,Y,?_⟩
  rw [show (!decide (V.str (tlD T).shown=V.str (tlD T).shown))=false by rw [decide_eq_true rfl]; rfl]
  exact aL (hR _ (s3.trans s4))
 rintro H4 s4
 refine ⟨_,Y,_,Y,_,Y,_,Y,s,s,b,w1,h1,ks,u,toD (aQ T),aQ T,Y,eC s4 SH,w0,h0,TrV.dt _ (TrV.keep (λ a xs e=>s4 _ _ e) _ tr),?_,TrD.to _,iP _ oku,by omega,by omega,λ uu H5 tl s5=>?_⟩
 ·have:=jC (aQ T)
  have:=dj (aQ T)
  omega
 rw [etl] at tl
 obtain ⟨ua,rfl⟩:=TlV.ref _ tl
 have tv5:=TlV.keep (λ a xs e=>s5 _ _ (s4 _ _ e)) _ tv
 obtain ⟨va,rfl⟩:=TlV.ref _ tv5
 refine ⟨ua,_,Y,TlV.dat _ tl,q1,q2,by omega,q3,_,Y,va,_,Y,TlV.dat _ tv5,q1,q2,by omega,q3,Y,?_⟩
 rw [decide_eq_true (rfl:V.str (tlD T).shown=V.str (tlD T).shown)]
 exact q H5 (s4.trans s5)
end
theorem sG {C p s:Addr} {b':Int} {ks:List Kd} {H H':Hp} (pt:PotC H p) (b:But p H H') (h:ShopAt C H s b' ks):ShopAt C H' s b' ks:=by
 obtain ⟨_,hp⟩:=jx pt
 exact h.keep (λ x xs e=>b _ _ (λ z=>by rw [z,hp] at e; cases e) e) (λ x C' d fs e=>b _ _ (λ z=>by rw [z,hp] at e; cases e) e)
structure LY (C p t kl x:Addr) (b:Int) (ks:List Kd) (H:Hp):Prop where
 ls:LS H t b ks kl
 sh:ShopAt C H x b ks
 po:PotC H p
theorem LY.same {C p t kl x:Addr} {b:Int} {ks:List Kd} {H H':Hp} (h:LY C p t kl x b ks H) (s:Same H H'):LY C p t kl x b ks H' :=
 ⟨h.ls.same s,eC s h.sh,h.po.same s⟩
theorem LY.but {C p t kl x:Addr} {b:Int} {ks:List Kd} {H H':Hp} (h:LY C p t kl x b ks H) (nk:kl≠p) (pt:PotC H' p) (bb:But p H H'):LY C p t kl x b ks H' :=
 ⟨h.ls.but nk h.po bb,sG h.po bb h.sh,pt⟩
structure TlO (b:Int) (ks:List Kd) (w h:Int) (T:Tl):Prop where
 ok:okL b ks T w h
 w0:1<=w
 h0:1<=h
 w6:w < 10 ^ 60
 h6:h < 10 ^ 60
 lc:lcT T<=50
 dp:(tlD T).depth<=150
 ft:Fit (tlD T)
 wt:wt (tlD T)<=20000
def tlL:Tr->Tl
 | .rest=>.rest
 | .piece i c x y=>.piece i c x y
 | .cut .. => .rest
theorem vX {b:Int} {ks:List Kd} (b0:0<=b) (gk:∀k∈ks,Good k) (k8:ks.length<=8):∀ {T:Tr} {w h:Int},lvN T=1->dT T=0->okU b ks w h T->w < 10 ^ 60->h < 10 ^ 60->okL b ks (tlL T) w h/\(∀dn,tlW dn (tlL T)=false)/\(∀ {H:Hp} {v:V},TrV H T v->TlV H (tlL T) v)/\Fit (tlD (tlL T))/\Pc.wt (tlD (tlL T))<=11/\(tlD (tlL T)).depth<=1/\lcT (tlL T)=1
 | .rest,w,h,_,_,ok,w6,h6=>by
  refine ⟨by rw [tlL,okL]; trivial,λ _=>rfl,λ tv=>?_,cr b0 gk k8 .rest ok w6 h6,by rw [tlL]; decide +kernel,Nat.le_refl _,by rw [tlL,lcT]; simp⟩
  rw [tlL,TlV]
  exact tv
 | .piece i c x y,w,h,_,_,ok,w6,h6=>by
  refine ⟨by rw [tlL,okL]; exact ok,λ _=>rfl,λ tv=>?_,cr b0 gk k8 (.piece i c x y) ok w6 h6,?_,Nat.le_refl _,by rw [tlL,lcT]; simp⟩
  ·rw [tlL,TlV]
   exact tv
  ·have:Pc.wt (.str "piece")=6:=by decide +kernel
   show Pc.wt (.str "piece") + (1 + (1 + (1 + (1 + 0)))) + 1<=11
   omega
 | .cut ..,_,_,_,hd,_,_,_=>by cases hd
section
variable {P:Program} {w:World} {K:PySem.W.Frag} {mg:Str->Option Value} {base:Heap}
inductive spAsked (C:Addr) (vs:List V) (H:Hp) (Q:VK) (E_:XK):Prop
 | mk (p t kl x:Addr) (b w h:Int) (ks:List Kd) (v:V) (T:Tl) (e_1:vs=[.ref p,.ref t,.ref x,.int w,.int h,v]) (e_2:LY C p t kl x b ks H) (e_3:kl≠p) (e_4:ks.length<=8) (e_5:(∀k∈ks,Good k)) (e_6:0<=b) (e_7:TlV H T v) (e_8:TlO b ks w h T) (e_9:∀ (H':Hp),PotC H' p->But p H H'->Q (.bl true) H'):spAsked C vs H Q E_
inductive spLong (vs:List V) (H:Hp) (Q:VK) (E_:XK):Prop
 | mk (p t kl:Addr) (b u:Int) (ks:List Kd) (e_1:vs=[.ref p,.ref t,.int u]) (e_2:PotC H p) (e_3:LS H t b ks kl) (e_4:kl≠p) (e_5:ks.length<=8) (e_6:(∀k∈ks,Good k)) (e_7:0<=b) (e_8:b < 10 ^ 58) (e_9:1<=u) (e_10:u < 2 * 10 ^ 56) (e_11:∀ (r:Addr) (W h:Int) (v:V) (T:Tl) (H':Hp),H' r=some (.tup [.int W,.int h,v])->TlV H' T v->TlO b ks W h T->PotC H' p->But p H H'->Q (.ref r) H'):spLong vs H Q E_
inductive spLaw (K:PySem.W.Frag) (vs:List V) (H:Hp) (Q:VK) (E_:XK):Prop
 | mk (a:Addr) (ns:List Int) (e_1:vs=[.ref a]) (e_2:SqL K H a (ns.map V.int)) (e_3:ns.length<=63) (e_4:∀H',Q (.bl true) H'):spLaw K vs H Q E_
theorem scasked:FnScope ["_law_pot_here","_law_shop_here","_law_made","_law_wide","_law_high","_law_told_here","_law_handed","_law_kept","_law_found","_law_again"] ["_law_pot_here","_law_shop_here","_law_made","_law_wide","_law_high","_law_told_here"] (defScope jw):=⟨Y,Y,Y,by decide +kernel,Y,by decide +kernel,by decide +kernel⟩
set_option maxHeartbeats 1000000 in
theorem sH {f C:Addr} {fd:FuncData} (F:Fun K "_law_asked" "_law_asked" jw f fd) (B:Blt mg) (DLi:Dn P w K mg base "_law_lists" ["_law_pot_here","_law_thing"] 154 (spLists 152)) (DTt:Dn P w K mg base "tree_told" ["shop","wide","high","telling"] 160 (spTreeTo C)) (DRi:Dn P w K mg base "_law_right" ["_law_shop_here","_law_made","_law_wide","_law_high","_law_told_here","_law_found"] 154 (spRight C)):FnOk P w K mg base CX0 161 f fd ["_law_pot_here","_law_shop_here","_law_made","_law_wide","_law_high","_law_told_here"] (spAsked C):=by
 refine F.ok scasked (λ vs H Q E h=>?_) (λ cdv A outer s H vs Q E hr h=>?_)
 ·refine bH λ G9 k9=>?_
  obtain ⟨p,t,kl,x,b,w1,h1,ks,v,T,rfl,_⟩:=h
  refine k9 ?_
  rfl
 refine bH λ G9 k9=>?_
 obtain ⟨p,t,kl,x,b,w1,h1,ks,v,T,rfl,ly,nk,k8,gk,b0,tv,o,q⟩:=h
 refine k9 ?_
 have nd:=scasked.nd
 have hg:=hr.gd
 have hu2:=Room.units220 hr (by decide)
 refine ⟨_,(@ae _ _ _ _ _ (@aD _ _ 6 _ _ _ _ nd Y (Or.inl Y) (@am _ _ _ _ _ _ _ _ _ _ DLi (hr.mono (by decide)) Y ((pv 0)^^^((pv 5)^^^ab)) (by decide) Y Y) Y (Or.inl Y)) (@ae _ _ _ _ _ (@aD _ _ 7 _ _ _ _ nd Y (Or.inl Y) (@aw _ _ _ _ _ _ _ _ _ (bp hg hu2) Y B.repr PyProof.Rows.boot_repr ((pv 6)^^^ab) (by decide) (by decide) Y Y) Y (Or.inl Y)) (@ae _ _ _ _ _ (@aD _ _ 8 _ _ _ _ nd Y (Or.inl Y) (@am _ _ _ _ _ _ _ _ _ _ DTt hr Y ((pv 2)^^^((pv 3)^^^((pv 4)^^^((pv 6)^^^ab)))) (by decide) Y Y) Y (Or.inl Y)) (@ae _ _ _ _ _ (@aG _ _ _ _ _ _ _ _ (PW.pt (bq (@aE _ _ _ _ _ _ _ _ ej (@aw _ _ _ _ _ _ _ _ _ (bp hg hu2) Y B.repr PyProof.Rows.boot_repr ((pv 6)^^^ab) (by decide) (by decide) Y Y) (pv 7) (ay _)) (bz (@aM _ _ _ _ (@aH _ _ _ (@am _ _ _ _ _ _ _ _ _ _ DRi (hr.mono (by decide)) Y ((pv 1)^^^((pv 2)^^^((pv 3)^^^((pv 4)^^^((pv 5)^^^((pv 8)^^^ab)))))) (by decide) Y Y) (by intro _; rfl)))))) (@ag _ _ _ (@ar _ _ _ _ bI)) aB) (@ae _ _ _ _ _ (@aG _ _ _ _ _ _ _ _ (@aH _ _ _ (@aw _ _ _ _ _ _ _ _ _ bc Y B.isi PyProof.Rows.boot_isinstance ((pv 6)^^^((bE (v:=.ty "list") Y B.list PyProof.Rows.boot_list Y)^^^ab)) (by decide) (by decide) Y Y) (by intro _; rfl)) (@ag _ _ _ (@bC _ _ _ _ (je PySem.F.plainAttrs_list PySem.F.slot_list_clear PySem.F.type_list_clear qB (pv 6)) Y)) aB) (@ae _ _ _ _ _ (@aG _ _ _ _ _ _ _ _ (@aM _ _ _ _ (@aH _ _ _ (@am _ _ _ _ _ _ _ _ _ _ DRi (hr.mono (by decide)) Y ((pv 1)^^^((pv 2)^^^((pv 3)^^^((pv 4)^^^((pv 5)^^^((pv 8)^^^ab)))))) (by decide) Y Y) (by intro _; rfl))) (@ag _ _ _ (@ar _ _ _ _ bI)) aB) (@ae _ _ _ _ _ (@aD _ _ 9 _ _ _ _ nd Y (Or.inl Y) (@am _ _ _ _ _ _ _ _ _ _ DTt hr Y ((pv 2)^^^((pv 3)^^^((pv 4)^^^((pv 5)^^^ab)))) (by decide) Y Y) Y (Or.inl Y)) (@ae _ _ _ _ _ (@aG _ _ _ _ _ _ _ _ (@aM _ _ _ _ (@aH _ _ _ (@am _ _ _ _ _ _ _ _ _ _ DRi (hr.mono (by decide)) Y ((pv 1)^^^((pv 2)^^^((pv 3)^^^((pv 4)^^^((pv 5)^^^((pv 9)^^^ab)))))) (by decide) Y Y) (by intro _; rfl))) (@ag _ _ _ (@ar _ _ _ _ bI)) aB) (@ag _ _ _ (@ar _ _ _ _ (@aW _ _ _ _ _ _ _ _ aZ (@aw _ _ _ _ _ _ _ _ _ (bp hg hu2) Y B.repr PyProof.Rows.boot_repr ((@am _ _ _ _ _ _ _ _ _ _ DTt hr Y ((pv 2)^^^((pv 3)^^^((pv 4)^^^((pv 5)^^^ab)))) (by decide) Y Y)^^^ab) (by decide) (by decide) Y Y) (@aw _ _ _ _ _ _ _ _ _ (bp hg hu2) Y B.repr PyProof.Rows.boot_repr ((pv 9)^^^ab) (by decide) (by decide) Y Y) (ay _)))))))))))),?_⟩
 have sz:(1000:Nat) < sizeLine:=by decide
 have odp:=o.dp
 have olc:=o.lc
 have owt:=o.wt
 refine aj (λ R=>∀ (ha:Addr) (d':PyData) (H':Hp),Dt p H' (.ref ha) d'->Lsd (tlD T) d'->((V.ref ha=v/\d'=tlD T)\/∃xs,H ha=none/\H' ha=some (.lst xs))->PotC H' p->But p H H'->R [some (.ref p),some (.ref t),some (.ref x),some (.int w1),some (.int h1),some v,some (.ref ha),none,none,none] H') (λ Dd hR=>?_) ?_
 ·refine ⟨_,Y,_,Y,p,v,tlD T,Y,ly.po,TlV.dt T tv,by omega,by omega,λ v' d' H6 dv ld al pt6 b6=>?_⟩
  have hrow:∃ys,aV d'=some ys:=by
   cases T with
   | rest =>
    obtain ⟨ys,e,_⟩:=ld.row_of (by rw [tlD])
    exact ⟨_,e⟩
   | piece =>
    obtain ⟨ys,e,_⟩:=ld.row_of (by rw [tlD])
    exact ⟨_,e⟩
   | row =>
    obtain ⟨ys,e,_⟩:=ld.row_of (by rw [tlD])
    exact ⟨_,e⟩
  obtain ⟨ys,er⟩:=hrow
  obtain ⟨ha,xs,rfl,_,_⟩:=dv.ref_row er
  refine hR ha d' _ dv ld ?_ pt6 b6
  rcases al with al | ⟨a1,xs',e1,e2,e3⟩
  ·exact .inl al
  ·cases e1
   exact .inr ⟨xs',e2,e3⟩
 rintro ha d' H1 dv ld al pt1 b1
 have ly1:=ly.but nk pt1 b1
 have tv1:=TlV.keep (λ a xs e=>ef b1 ly.po e) _ tv
 have fd':=ld.fit o.ft
 have wd':=ld.wt
 have dd':=ld.depth
 obtain ⟨g1,g2,g3⟩:=fd'.ok (by omega)
 refine aj (λ R=>R [some (.ref p),some (.ref t),some (.ref x),some (.int w1),some (.int h1),some v,some (.ref ha),some (.str d'.shown),none,none] H1) (λ Dd hR=>?_) ?_
 ·exact ⟨_,Y,ha,d',Y,dv.datF fd',g1,g2,by omega,g3,hR⟩
 skip
 refine aj (λ R=>∀fv (H':Hp),TrV H' (aQ T) fv->Same H1 H'->R [some (.ref p),some (.ref t),some (.ref x),some (.int w1),some (.int h1),some v,some (.ref ha),some (.str d'.shown),some fv,none] H') (λ Dd hR=>?_) ?_
 ·exact ⟨_,Y,_,Y,_,Y,_,Y,p,x,b,w1,h1,ks,.ref ha,d',T,Y,ly1.sh,o.w0,o.h0,dv,ld,o.ok,b0,by omega,o.dp,λ u H2 tr s2=>hR u _ tr s2⟩
 rintro fv H2 tr2 s12
 have ly2:=ly1.same s12
 have tv2:=TlV.keep (λ a xs e=>s12 _ _ e) _ tv1
 refine aj (λ R=>∀ (H':Hp),Same H2 H'->R [some (.ref p),some (.ref t),some (.ref x),some (.int w1),some (.int h1),some v,some (.ref ha),some (.str d'.shown),some fv,none] H') (λ Dd hR=>?_) ?_
 ·refine ⟨_,Y,ha,d',Y,(dv.same s12).datF fd',g1,g2,by omega,g3,_,Y,Y,_,Y,?_⟩
  rw [show (!decide (V.str d'.shown=V.str d'.shown))=false by rw [decide_eq_true rfl]; rfl]
  exact aL ⟨_,rfl,_,rfl,_,rfl,_,rfl,_,rfl,_,rfl,t,kl,x,b,w1,h1,ks,v,fv,T,rfl,ly2.ls,ly2.sh,k8,gk,tv2,tr2,o.ok,b0,o.w0,o.h0,o.w6,o.h6,o.lc,o.dp,o.ft,o.wt,λ H3 s3=>⟨_,rfl,aL (hR _ s3)⟩⟩
 rintro H3 s23
 have ly3:=ly2.same s23
 have tv3:=TlV.keep (λ a xs e=>s23 _ _ e) _ tv2
 have tr3:=TrV.keep (λ a xs e=>s23 _ _ e) _ tr2
 have b3:But p H H3:=λ c o n e=>s23 _ _ (s12 _ _ (b1 _ _ n e))
 refine aj (λ R=>∀ (H':Hp),LY C p t kl x b ks H'->TlV H' T v->TrV H' (aQ T) fv->But p H H'->R [some (.ref p),some (.ref t),some (.ref x),some (.int w1),some (.int h1),some v,some (.ref ha),some (.str d'.shown),some fv,none] H') (λ Dd hR=>?_) ?_
 ·rcases al with ⟨e1,e2⟩ | ⟨xs,e1,e2⟩
  ·have hx:∃ys,H3 ha=some (.tup ys):=by
    have tv3:=tv3
    rw [<- e1] at tv3
    cases T with
    | rest=>rw [TlV] at tv3; obtain ⟨a,ea,h⟩:=tv3; cases ea; exact ⟨_,h⟩
    | piece=>rw [TlV] at tv3; obtain ⟨a,ea,h⟩:=tv3; cases ea; exact ⟨_,h⟩
    | row=>rw [TlV] at tv3; obtain ⟨a,_,_,ea,h,_⟩:=tv3; cases ea; exact ⟨_,h⟩
   obtain ⟨ys,hx⟩:=hx
   exact ⟨_,Y,_,_,_,_,_,Y,(Ty.tup hx (K:=K)).2,Y,gR "tuple" (by simp [aF]),_,Y,aL (hR _ ly3 tv3 tr3 b3)⟩
  ·have h6:=s23 _ _ (s12 _ _ e2)
   refine ⟨_,Y,_,_,_,_,_,Y,(Ty.lst h6 (K:=K)).2,Y,gR "list" (by simp [aF]),_,Y,aU ⟨_,Y,.inl ⟨Y,_,SqL.of h6⟩,ha,_,Y,Y,h6,?_⟩⟩
   have bu:But ha H3 (upd H3 ha (.lst [])):=λ c o n e=>by rw [au n]; exact e
   have kt:∀c ys,H3 c=some (.tup ys)->(upd H3 ha (.lst [])) c=some (.tup ys):=λ c ys e=>bu _ _ (λ z=>by rw [z,h6] at e; cases e) e
   have np:p≠ha:=λ z=>ly.po.some (z ▸ e1)
   obtain ⟨rs,l1,l2,l3⟩:=id ly3.ls
   obtain ⟨_,_,lb2,_⟩:=id ly.ls
   have nkh:kl≠ha:=ap lb2 e1
   refine hR _ ⟨⟨rs,kt _ _ l1,bu _ _ nkh l2,Tups.keep kt l3⟩,ly3.sh.keep kt (λ c C' d fs e=>bu _ _ (λ z=>by rw [z,h6] at e; cases e) e),?_⟩ (TlV.keep kt _ tv3) (TrV.keep kt _ tr3) (λ c o n e=>bu _ _ (ap e e1) (b3 _ _ n e))
   obtain ⟨a1,a2,a3,a4,a5,a6⟩:=ly3.po
   exact ⟨a1,a2,a3,a4,a5,bu _ _ np a6⟩
 clear ly3 tv3 tr3 b3 s23
 clear H3
 rintro H3 ly3 tv3 tr3 b3
 refine aj (λ R=>∀ (H':Hp),Same H3 H'->R [some (.ref p),some (.ref t),some (.ref x),some (.int w1),some (.int h1),some v,some (.ref ha),some (.str d'.shown),some fv,none] H') (λ Dd hR=>?_) ?_
 ·exact ⟨_,Y,_,Y,_,Y,_,Y,_,Y,_,Y,t,kl,x,b,w1,h1,ks,v,fv,T,Y,ly3.ls,ly3.sh,k8,gk,tv3,tr3,o.ok,b0,o.w0,o.h0,o.w6,o.h6,o.lc,o.dp,o.ft,o.wt,λ H4 s4=>⟨_,Y,aL (hR _ s4)⟩⟩
 rintro H4 s34
 have ly4:=ly3.same s34
 have tv4:=TlV.keep (λ a xs e=>s34 _ _ e) _ tv3
 refine aj (λ R=>∀gv (H':Hp),TrV H' (aQ T) gv->Same H4 H'->R [some (.ref p),some (.ref t),some (.ref x),some (.int w1),some (.int h1),some v,some (.ref ha),some (.str d'.shown),some fv,some gv] H') (λ Dd hR=>?_) ?_
 ·exact ⟨_,Y,_,Y,_,Y,_,Y,p,x,b,w1,h1,ks,v,tlD T,T,Y,ly4.sh,o.w0,o.h0,TlV.dt T tv4,.same _,o.ok,b0,by omega,o.dp,λ u H5 tr s5=>hR u _ tr s5⟩
 rintro gv H5 tr5 s45
 have ly5:=ly4.same s45
 have tv5:=TlV.keep (λ a xs e=>s45 _ _ e) _ tv4
 refine aj (λ R=>∀ (H':Hp),Same H5 H'->R [some (.ref p),some (.ref t),some (.ref x),some (.int w1),some (.int h1),some v,some (.ref ha),some (.str d'.shown),some fv,some gv] H') (λ Dd hR=>?_) ?_
 ·exact ⟨_,Y,_,Y,_,Y,_,Y,_,Y,_,Y,t,kl,x,b,w1,h1,ks,v,gv,T,Y,ly5.ls,ly5.sh,k8,gk,tv5,tr5,o.ok,b0,o.w0,o.h0,o.w6,o.h6,o.lc,o.dp,o.ft,o.wt,λ H6 s6=>⟨_,Y,aL (hR _ s6)⟩⟩
 rintro H6 s56
 have ly6:=ly5.same s56
 have tv6:=TlV.keep (λ a xs e=>s56 _ _ e) _ tv5
 have tr6:=TrV.keep (λ a xs e=>s56 _ _ e) _ tr5
 obtain ⟨oku,_⟩:=kD b0 T o.ok
 have lv:=iR b0 o.ok
 have dl:=dM (aQ T)
 have wtd:=jC (aQ T)
 have szt:=dj (aQ T)
 have dpd:=(hX (aQ T)).2
 obtain ⟨r1,r2,r3⟩:=(cr b0 gk k8 (aQ T) oku o.w6 o.h6).ok (by omega)
 refine ⟨_,Y,_,Y,_,Y,_,Y,p,x,b,w1,h1,ks,v,tlD T,T,Y,ly6.sh,o.w0,o.h0,TlV.dt T tv6,.same _,o.ok,b0,by omega,o.dp,λ u H7 tr7 s7=>?_⟩
 obtain ⟨ua,_,rfl,_⟩:=TrV.head _ tr7
 have tr67:=TrV.keep (λ a xs e=>s7 _ _ e) _ tr6
 obtain ⟨ga,_,rfl,_⟩:=TrV.head _ tr67
 refine ⟨ua,_,Y,TrV.dat _ tr7,r1,r2,by omega,r3,_,Y,ga,_,Y,TrV.dat _ tr67,r1,r2,by omega,r3,Y,?_⟩
 rw [decide_eq_true (rfl:V.str (toD (aQ T)).shown=V.str (toD (aQ T)).shown)]
 exact q H7 (ly6.po.same s7) (λ c o n e=>s7 _ _ (s56 _ _ (s45 _ _ (s34 _ _ (b3 _ _ n e)))))
theorem sI {b:Int} (b0:0<=b) (b58:b < 10 ^ 58):∀ (l:List (Int×Tl)),(∀z∈l,z.1 < 10 ^ 58)->l.length<=45->bf b l < 9 * 10 ^ 59:=λ l h hl=>by
 have e:90 * (10:Int) ^ 58=9 * 10 ^ 59:=by decide
 have ep:(0:Int) < 10 ^ 58:=by decide
 have:∀l:List (Int×Tl),l≠[]->(∀z∈l,z.1 < 10 ^ 58)->bf b l < 2 * l.length * 10 ^ 58:=λ l=>by
  induction l with
  | nil=>exact λ z=>absurd rfl z
  | cons z l ih =>
   intro _ h
   have h1:=h z List.mem_cons_self
   cases l with
   | nil=>rw [cw]; show z.1 < 2 * ((1:Nat):Int) * 10 ^ 58; omega
   | cons y l =>
    have h2:=ih (by simp) λ x hx=>h x (List.mem_cons_of_mem _ hx)
    rw [fQ]
    have:(2 * (((y :: l).length + 1:Nat):Int) * 10 ^ 58)=2 * ((y :: l).length:Int) * 10 ^ 58 + 2 * 10 ^ 58:=by
     rw [Int.natCast_add,Int.mul_add,Int.add_mul]; omega
    rw [List.length_cons,this]
    omega
 cases l with
 | nil =>
  show (0:Int) + b * ((0:Nat) - 1) < _
  have:b * (((0:Nat):Int) - 1)=-b:=by rw [show (((0:Nat):Int) - 1)=-1 by omega]; omega
  rw [this]; omega
 | cons z l =>
  have h1:=this (z :: l) (by simp) h
  have h2:(2 * ((z :: l).length:Int)) * 10 ^ 58<=90 * 10 ^ 58:=Int.mul_le_mul_of_nonneg_right (by omega) (by omega)
  omega
theorem sclong:FnScope ["_law_pot_here","_law_shop_here","_law_unit_here","_law_side_here","_law_things","_law_k","_law_size","_law_wide"] ["_law_pot_here","_law_shop_here","_law_unit_here"] (defScope kq):=⟨Y,Y,Y,by decide +kernel,Y,by decide +kernel,by decide +kernel⟩
set_option maxHeartbeats 1000000 in
theorem uG {f:Addr} {fd:FuncData} (F:Fun K "_law_long" "_law_long" kq f fd) (B:Blt mg) (DD:Dn P w K mg base "_law_take" ["_law_pot_here","_law_many"] 1 (spTake)) (DSi:Dn P w K mg base "_law_side" ["_law_pot_here","_law_unit_here","_law_most"] 2 (spSideC)) (DLf:Dn P w K mg base "_law_leaf" ["_law_pot_here","_law_shop_here","_law_wide","_law_high"] 2 (spLeafC)):FnOk P w K mg base CX0 3 f fd ["_law_pot_here","_law_shop_here","_law_unit_here"] (spLong):=by
 refine F.ok sclong (λ vs H Q E h=>?_) (λ cdv A outer s H vs Q E hr h=>?_)
 ·obtain ⟨p,t,kl,b,u,ks,rfl,_⟩:=h
  rfl
 refine bH λ G9 k9=>?_
 obtain ⟨p,t,kl,b,u,ks,rfl,pt,sh,nk,k8,gk,b0,b58,u1,u2,q⟩:=h
 refine k9 ?_
 have nd:=sclong.nd
 have hu2:=Room.units220 hr (by decide)
 refine ⟨_,(@ae _ _ _ _ _ (@aD _ _ 3 _ _ _ _ nd Y (Or.inl Y) (@aA _ _ _ _ _ _ _ _ cU ad (pv 2)) Y (Or.inl Y)) (@ae _ _ _ _ _ (@aD _ _ 4 _ _ _ _ nd Y (Or.inl Y) (@aJ _ _ _ _ ab) Y (Or.inl Y)) (@ae _ _ _ _ _ (@ce _ _ _ _ _ _ _ _ PassesOwn.never Y (dN Y B.range ((@aA _ _ _ _ _ _ _ _ aI ad (@am _ _ _ _ _ _ _ _ _ _ DD (hr.mono (by decide)) Y ((pv 0)^^^(ad^^^ab)) (by decide) Y Y))^^^ab)) (ai (i:=5) nd Y (Or.inl Y)) (@ae _ _ _ _ _ (@aD _ _ 6 _ _ _ _ nd Y (Or.inl Y) (@am _ _ _ _ _ _ _ _ _ _ DSi (hr.mono (by decide)) Y ((pv 0)^^^((pv 2)^^^(ad^^^ab))) (by decide) Y Y) Y (Or.inl Y)) (@ag _ _ _ (@bC _ _ _ _ (@em _ _ _ _ _ _ _ _ _ _ _ _ PySem.F.plainAttrs_list PySem.F.slot_list_append PySem.F.type_list_append bL (pv 4) ((@az _ _ _ _ _ ((pv 6)^^^((@am _ _ _ _ _ _ _ _ _ _ DLf (hr.mono (by decide)) Y ((pv 0)^^^((pv 1)^^^((pv 6)^^^((pv 3)^^^ab)))) (by decide) Y Y)^^^ab)))^^^ab) Y Y Y Y Y) Y))) (by intro _; rfl)) (@ae _ _ _ _ _ (@aD _ _ 7 _ _ _ _ nd Y (Or.inl Y) (@aA _ _ _ _ _ _ _ _ aI (@aw _ _ _ _ _ _ _ _ _ (iE Y) Y B.sum PyProof.Rows.boot_sum ((eQ (own:=["_law_size","_law_leaf_here"]) (cs:=[]) (cap:=[]) Y (gj (pv 4)) (bS (sc:=defScope kq) (N:=["_law_pot_here","_law_shop_here","_law_unit_here","_law_side_here","_law_things","_law_k","_law_size","_law_wide"]) Y Y (by decide +kernel)) (λ _ _ _ _ _=>qM K Y Y (by show List.Nodup (["_law_size","_law_leaf_here"]:List Str) ; decide +kernel) Y Y Y Y) (λ _ _ _ _ _=>cz) (λ _ _ _ _ _=>(pv 0)))^^^ab) (by decide) (by decide) Y Y) (@aA _ _ _ _ _ _ _ _ cU (@ao _ _ _ _ _ _ _ ix_tup (pv 1) ad (λ _ _=>Y)) (@aA _ _ _ _ _ _ _ _ br (@aw _ _ _ _ _ _ _ _ _ aN Y B.len PySem.boot_len ((pv 4)^^^ab) (by decide) (by decide) Y Y) ad))) Y (Or.inl Y)) (@ag _ _ _ (@ar _ _ _ _ (@az _ _ _ _ _ ((pv 7)^^^((pv 3)^^^((@az _ _ _ _ _ (be^^^((@aT _ _ _ _ _ _ _ _ _ bg Y B.tuple PyProof.Rows.boot_tuple ((@aw _ _ _ _ _ _ _ _ _ (cm hu2) Y B.sorted PyProof.Rows.boot_sorted ((pv 4)^^^ab) (by decide) (by decide) Y Y)^^^ab) (by decide) (by decide) Y Y)^^^ab)))^^^ab)))))))))),?_⟩
 have sz:(1000:Nat) < sizeLine:=by decide
 have e58:(10:Int) ^ 58 < 9 * 10 ^ 59:=by decide
 have e59:9 * (10:Int) ^ 59 < 10 ^ 60:=by decide
 have e57:7 * (2 * 10 ^ 56) < (10:Int) ^ 58:=by decide
 refine aj (λ R=>R [some (.ref p),some (.ref t),some (.int u),some (.int (7 * u)),none,none,none,none] H) (λ Dd hR=>?_) ?_
 ·exact ⟨_,Y,_,_,Y,Y,.inl ⟨by decide,by decide⟩,hR⟩
 skip
 refine aj (λ R=>∀ (tl:Addr) (H':Hp),H tl=none->tl≠p->H' tl=some (.lst [])->PotC H' p->But p H H'->R [some (.ref p),some (.ref t),some (.int u),some (.int (7 * u)),some (.ref tl),none,none,none] H') (λ Dd hR=>?_) ?_
 ·refine ⟨by decide,λ tl htl=>?_⟩
  obtain ⟨H1,e1,k1,n1,s1,b1,pt1⟩:=cg (o:=.lst []) But.refl' pt htl
  rw [show upd H tl _=H1 from e1]
  exact hR tl _ htl n1 k1 pt1 b1
 rintro tl H1 htl0 ntp htl1 pt1 b1
 obtain ⟨kr0,ht0,hk0,htu0⟩:=id sh
 have nkt:kl≠tl:=ap hk0 htl0
 refine cC (λ σ' H'=>∃i:Nat,33<=i/\i<=45/\∃ (us:List V) (l:List (Int×Tl)) (v5 v6 v7:Option V),σ'=[some (.ref p),some (.ref t),some (.int u),some (.int (7 * u)),some (.ref tl),v5,v6,v7]/\H' tl=some (.lst us)/\Paired (ItV H') us l/\l.length=i/\(∀z∈l,okI b ks true 1 (7 * u) z/\Fit (tlD z.2)/\Pc.wt (tlD z.2)<=11/\(tlD z.2).depth<=1/\lcT z.2=1/\z.1 < 10 ^ 58)/\PotC H' p/\But p H H') (λ R hR=>?_) ?_
 ·refine ⟨_,Y,p,13,Y,pt1,by decide,by decide,λ m H2 m0 m1 pt2 b2=>⟨_,_,Y,Y,_,Y,by omega,by omega,?_⟩⟩
  refine dO (n:=(33 + m).toNat) (λ i σ' H'=>∃ (us:List V) (l:List (Int×Tl)) (v5 v6 v7:Option V),σ'=[some (.ref p),some (.ref t),some (.int u),some (.int (7 * u)),some (.ref tl),v5,v6,v7]/\H' tl=some (.lst us)/\Paired (ItV H') us l/\l.length=i/\(∀z∈l,okI b ks true 1 (7 * u) z/\Fit (tlD z.2)/\Pc.wt (tlD z.2)<=11/\(tlD z.2).depth<=1/\lcT z.2=1/\z.1 < 10 ^ 58)/\PotC H' p/\But p H H') ⟨[],[],_,_,_,rfl,b2 _ _ ntp htl1,.nil,rfl,(λ z hz=>by cases hz),pt2,b1.trans b2⟩ ?_ (λ σ Hx h=>hR _ _ ⟨(33 + m).toNat,by omega,by omega,h⟩)
  intro i _ H3 hi hI9
  refine bH λ G9 k9=>?_
  obtain ⟨us,l,v5,v6,v7,rfl,htl3,pu,ll,al,pt3,b3⟩:=hI9
  refine k9 ?_
  have ul:=Paired.length pu
  refine aj (λ R=>∀ (n:Int) (H':Hp),1<=n->n < 10 ^ 58->PotC H' p->But p H3 H'->R [some (.ref p),some (.ref t),some (.int u),some (.int (7 * u)),some (.ref tl),some (.int (0 + (i:Int))),some (.int n),v7] H') (λ Dd hR=>?_) ?_
  ·exact ⟨_,Y,_,Y,p,u,7,Y,pt3,u1,u2,by decide,by decide,λ n H4 n0 n58 pt4 b4=>hR n _ n0 n58 pt4 b4⟩
  rintro n H4 n0 n58 pt4 b4
  have b04:=b3.trans b4
  refine ⟨_,Y,.inl ⟨Y,_,SqL.of (b4 _ _ ntp htl3)⟩,_,Y,_,Y,_,Y,_,Y,_,Y,p,t,kl,b,n,7 * u,ks,Y,pt4,sh.but nk pt b04,nk,k8,gk,by omega,by omega,λ lf TL H5 tv5 ok5 ln5 d5 pt5 b5=>⟨zS2,λ it hit=>?_⟩⟩
  obtain ⟨m1,m2,m3,m4,m5,m6,m7⟩:=vX b0 gk k8 ln5 d5 (ok5 b) (by omega) (by omega)
  obtain ⟨H6,e6,k6,n6,s6,b6,pt6⟩:=cg (o:=.tup [.int n,lf]) (b04.trans b5) pt5 hit
  rw [show upd H5 it _=H6 from e6]
  have htl6:=s6 _ _ (b5 _ _ ntp (b4 _ _ ntp htl3))
  refine ⟨tl,us,_,Y,Y,htl6,by omega,?_⟩
  have bu:But tl H6 (upd H6 tl (.lst (us ++ [.ref it]))):=λ c o n e=>by rw [au n]; exact e
  have kt:∀c ys,H6 c=some (.tup ys)->(upd H6 tl (.lst (us ++ [.ref it]))) c=some (.tup ys):=λ c ys e=>bu _ _ (λ z=>by rw [z,htl6] at e; cases e) e
  refine ⟨us ++ [.ref it],l ++ [(n,tlL TL)],_,_,_,Y,af,dJ (Paired.mapP pu λ v z h=>h.keep λ a xs e=>kt _ _ (s6 _ _ (ef b5 pt4 (ef b4 pt3 e)))) (.cons ⟨it,lf,Y,kt _ _ k6,TlV.keep (λ a xs e=>kt _ _ (s6 _ _ e)) _ (m3 tv5)⟩ .nil),by rw [List.length_append,ll]; rfl,λ z hz=>?_,?_,λ c o nn e=>bu _ _ (ap e htl0) (b6 _ _ nn e)⟩
  ·rcases List.mem_append.mp hz with hz | hz
   ·exact al z hz
   ·rw [List.mem_singleton.mp hz]
    exact ⟨⟨n0,m2 true,m1⟩,m4,m5,m6,m7,n58⟩
  ·obtain ⟨a1,a2,a3,a4,a5,a6⟩:=pt6
   exact ⟨a1,a2,a3,a4,a5,bu _ _ (Ne.symm ntp) a6⟩
 clear pt1 b1 htl1
 clear H1
 intro _ H1 hI9
 refine bH λ G9 k9=>?_
 obtain ⟨i,i33,i45,us,l,v5,v6,v7,rfl,htl1,pu,ll,al,pt1,b1⟩:=hI9
 refine k9 ?_
 have ul:=Paired.length pu
 obtain ⟨kr,ht,_⟩:=id (sh.but nk pt b1)
 refine aj (λ R=>∀ (H':Hp),Same H1 H'->R [some (.ref p),some (.ref t),some (.int u),some (.int (7 * u)),some (.ref tl),v5,v6,some (.int (bf b l))] H') (λ Dd hR=>?_) ?_
 ·refine ⟨_,Y,tl,Y,⟨_,SqL.of htl1⟩,(cQ (K:=K) (.inl htl1) (λ j ys Hx=>Same H1 Hx/\ys=((l.take j).map (·.1)).map V.int) (λ j ys Hx _ e o h=>e.1 _ _ h) ⟨Same.refl _,Y⟩ ?_ ?_).1 htl1⟩
  ·rintro j x ys Hx hj ⟨sx,rfl⟩
   have hin:j < us.length:=(List.getElem?_eq_some_iff.mp hj).1
   obtain ⟨z,hz,a3,u3,rfl,h3,tv3⟩:=Paired.getR pu hj
   refine ⟨by rw [List.length_map,List.length_map,List.length_take]; omega,a3,_,Y,SqT.of (sx _ _ h3),Y,_,_,Y,_,_,Y,Y,vS (leS.set rfl) (leS.set rfl),cA ⟨_,Y,Nx.of hin ⟨sx,?_⟩⟩⟩
   rw [List.take_add_one,hz]
   simp only [Option.toList_some,List.map_append,List.map_cons,List.map_nil]
  ·rintro ys Hx ⟨sx,rfl⟩
   rw [show l.take us.length=l by rw [ul,List.take_length]]
   refine ⟨by rw [List.length_map,List.length_map]; omega,λ l' hl'=>⟨l',_,Y,SqL.of af,?_⟩⟩
   have s4:=Same.new hl' (o:=.lst ((l.map (·.1)).map V.int))
   have s14:=sx.trans s4
   refine ⟨_,Y,t,_,0,_,Y,Y,SqT.of (s14 _ _ ht),Y,_,Y,tl,_,Y,.inl (SqL.of (s14 _ _ htl1)),_,_,Y,Y,_,_,Y,Y,.inr ⟨by omega,by omega⟩,_,_,Y,Y,?_⟩
   have e9:(l.map (·.1)).sum + b * ((us.length:Int) - 1)=bf b l:=by rw [ul]; rfl
   rw [e9]
   exact hR _ s14
 rintro H2 s12
 have pu2:Paired (ItV H2) us l:=Paired.mapP pu λ v z h=>h.keep λ a xs e=>s12 _ _ e
 have pt2:=pt1.same s12
 obtain ⟨ps,rfl,rfl,ips⟩:=hV pu2
 rw [List.length_map] at ll
 refine ⟨_,Y,_,Y,_,Y,tl,ps,Y,SqL.of (s12 _ _ htl1),by omega,λ z hz=>⟨(ips z hz).dat,?_⟩,λ sl ps' hsl pm pw=>?_⟩
 ·have:=(al z.2 (List.mem_map.mpr ⟨z,hz,Y⟩)).2.2.2.1
  omega
 obtain ⟨H3,e3,k3,s3⟩:∃H',upd H2 sl (.lst (ps'.map λ z=>V.ref z.1))=H'/\H' sl=some (.lst (ps'.map λ z=>V.ref z.1))/\Same H2 H':=⟨_,Y,af,Same.new hsl⟩
 rw [show upd H2 sl _=H3 from e3]
 refine ⟨sl,_,Y,.inl ⟨SqL.of k3,λ tq htq=>?_⟩⟩
 obtain ⟨H4,e4,k4,s4⟩:∃H',upd H3 tq (.tup (ps'.map λ z=>V.ref z.1))=H'/\H' tq=some (.tup (ps'.map λ z=>V.ref z.1))/\Same H3 H':=⟨_,Y,af,Same.new htq⟩
 rw [show upd H3 tq _=H4 from e4]
 refine ⟨zS2,λ fr hfr=>?_⟩
 obtain ⟨H5, e5, k5, s5⟩:∃H', upd H4 fr (.tup [.str "down", .ref tq])=H'/\H' fr=some (.tup [.str "down", .ref tq])/\Same H4 H':=⟨_, Y, af, Same.new hfr⟩
 rw [show upd H4 fr _=H5 from e5]
 refine ⟨zS3,λ rr hrr=>?_⟩
 obtain ⟨H6,e6,k6,s6⟩:∃H',upd H5 rr (.tup [.int (bf b (ps.map (·.2))),.int (7 * u),.ref fr])=H'/\H' rr=some (.tup [.int (bf b (ps.map (·.2))),.int (7 * u),.ref fr])/\Same H5 H':=⟨_,Y,af,Same.new hrr⟩
 rw [show upd H5 rr _=H6 from e6]
 have s26:=s3.trans (s4.trans (s5.trans s6))
 have ee:ps'.map (·.2)=srt (ps.map (·.2)):=fO (pm.map _) pw
 have two:2<=(ps.map (·.2)).length:=by rw [List.length_map]; omega
 have sb:=sI b0 (show b < 10 ^ 58 from b58) (ps.map (·.2)) (λ z hz=>(al z hz).2.2.2.2.2) (by rw [List.length_map]; omega)
 have pos:=fR b0 (l:=ps.map (·.2)) (λ z=>by rw [z] at two; simp at two) λ z hz=>(al z hz).1.1
 refine q rr _ _ (.ref fr) (.row true (ofL (srt (ps.map (·.2))))) H6 k6 ?_ ⟨?_,pos,by omega,by omega,by omega,?_,?_,?_,?_⟩ (pt2.same s26) (λ c o n e=>s26 _ _ (s12 _ _ (b1 _ _ n e)))
 ·rw [TlV]
  refine ⟨fr,tq,_,Y,s6 _ _ k5,s6 _ _ (s5 _ _ k4),?_⟩
  rw [<- ee]
  exact fe (hW λ z hz=>(ips z (pm.mem_iff.mp hz)).keep λ a xs e=>s26 _ _ e)
 ·refine rW two rfl λ z hz=>?_
  obtain ⟨a1,a2,a3⟩:=(al z hz).1
  exact ⟨a1,a2,a3⟩
 ·rw [lP]
  have:∀l:List (Int×Tl),(∀z∈l,lcT z.2=1)->lcL l=l.length:=λ l=>by
   induction l with
   | nil=>exact λ _=>rfl
   | cons z l ih =>
    intro h
    have h1:=h z List.mem_cons_self
    have h2:=ih λ y hy=>h y (List.mem_cons_of_mem _ hy)
    show lcT z.2 + lcL l=l.length + 1
    omega
  rw [this _ λ z hz=>(al z hz).2.2.2.2.1,List.length_map]
  omega
 ·have:=fP (dn:=true) (m:=1) λ z hz=>(al z hz).2.2.2.1
  omega
 ·exact jB λ z hz=>⟨⟨by have:=(al z hz).1.1; omega,by have:=(al z hz).2.2.2.2.2; omega⟩,(al z hz).2.1⟩
 ·have h1:=lM true (ps.map (·.2))
  have:∀l:List (Int×Tl),(∀z∈l,Pc.wt (tlD z.2)<=11)->wtR l<=13 * l.length:=λ l=>by
   induction l with
   | nil=>exact λ _=>Nat.zero_le _
   | cons z l ih =>
    intro h
    have h1:=h z List.mem_cons_self
    have h2:=ih λ y hy=>h y (List.mem_cons_of_mem _ hy)
    show Pc.wt (tlD z.2) + 2 + wtR l<=13 * (l.length + 1)
    omega
  have h2:=this _ λ z hz=>(al z hz).2.2.1
  rw [List.length_map] at h2
  omega
end
section
variable {P:Program} {w:World} {K:PySem.W.Frag} {mg:Str->Option Value} {base:Heap}
theorem sclaw:FnScope ["_law_script","_law_k","_law_pot_here","_law_unit_here","_law_shop_here","_law_made","_law_wide","_law_high","_law_tree_here","_law_told_here"] ["_law_script"] (defScope kx):=⟨Y,Y,Y,by decide +kernel,Y,by decide +kernel,by decide +kernel⟩
set_option maxHeartbeats 1000000 in
theorem vY {f C:Addr} {fd:FuncData} (F:Fun K "law" "law" kx f fd) (B:Blt mg) (DC:Dn P w K mg base "_law_cell" ["_law_script","_law_k"] 1 (lD K)) (DP:Dn P w K mg base "_law_pot" ["_law_cell_here","_law_k"] 1 (spPotC)) (DD:Dn P w K mg base "_law_take" ["_law_pot_here","_law_many"] 1 (spTake)) (DU:Dn P w K mg base "_law_unit" ["_law_pot_here"] 2 (spUnit)) (DSp:Dn P w K mg base "_law_shop" ["_law_pot_here","_law_unit_here"] 3 (spShopC)) (DSi:Dn P w K mg base "_law_side" ["_law_pot_here","_law_unit_here","_law_most"] 2 (spSideC)) (DT:Dn P w K mg base "_law_tree" ["_law_pot_here","_law_shop_here","_law_wide","_law_high","_law_deep_here","_law_room"] 14 (spTreeC 11)) (DTo:Dn P w K mg base "_law_told" ["_law_shop_here","_law_wide","_law_high","_law_tree_here"] 53 (spToldL 50)) (DDe:Dn P w K mg base "_law_deep" ["_law_pot_here","_law_shop_here","_law_unit_here","_law_turn"] 3 (spDeep)) (DAs:Dn P w K mg base "_law_asked" ["_law_pot_here","_law_shop_here","_law_made","_law_wide","_law_high","_law_told_here"] 161 (spAsked C)) (DLo:Dn P w K mg base "_law_long" ["_law_pot_here","_law_shop_here","_law_unit_here"] 3 (spLong)) (DSh:Kn P w K mg base "Shop" C ["self","blade","kinds"] 3 (lx C)):FnOk P w K mg base CX0 162 f fd ["_law_script"] (spLaw K):=by
 refine F.ok sclaw (λ vs H Q E h=>?_) (λ cdv A outer s H vs Q E hr h=>?_)
 ·obtain ⟨a,ns,rfl,_⟩:=h
  rfl
 obtain ⟨a,ns,rfl,hS,n63,q⟩:=h
 have nd:=sclaw.nd
 refine ⟨_,(@ae _ _ _ _ _ (@ce _ _ _ _ _ _ _ _ PassesOwn.never Y (dN Y B.range ((@aw _ _ _ _ _ _ _ _ _ (ir Y) Y B.max PyProof.Rows.boot_max (ad^^^((@aw _ _ _ _ _ _ _ _ _ (fC Y) Y B.min PyProof.Rows.boot_min (ad^^^((@aw _ _ _ _ _ _ _ _ _ aN Y B.len PySem.boot_len ((pv 0)^^^ab) (by decide) (by decide) Y Y)^^^ab)) (by decide) (by decide) Y Y)^^^ab)) (by decide) (by decide) Y Y)^^^ab)) (ai (i:=1) nd Y (Or.inl Y)) (@ae _ _ _ _ _ (@aD _ _ 2 _ _ _ _ nd Y (Or.inl Y) (@am _ _ _ _ _ _ _ _ _ _ DP (hr.mono (by decide)) Y ((@am _ _ _ _ _ _ _ _ _ _ DC (hr.mono (by decide)) Y ((pv 0)^^^((pv 1)^^^ab)) (by decide) Y Y)^^^((pv 1)^^^ab)) (by decide) Y Y) Y (Or.inl Y)) (@ae _ _ _ _ _ (@aD _ _ 3 _ _ _ _ nd Y (Or.inl Y) (@am _ _ _ _ _ _ _ _ _ _ DU (hr.mono (by decide)) Y ((pv 2)^^^ab) (by decide) Y Y) Y (Or.inl Y)) (@ae _ _ _ _ _ (@aD _ _ 4 _ _ _ _ nd Y (Or.inl Y) (@am _ _ _ _ _ _ _ _ _ _ DSp (hr.mono (by decide)) Y ((pv 2)^^^((pv 3)^^^ab)) (by decide) Y Y) Y (Or.inl Y)) (@ae _ _ _ _ _ (@aD _ _ 5 _ _ _ _ nd Y (Or.inl Y) (yg DSh (hr.mono (by decide)) Y ((@ao _ _ _ _ _ _ _ ix_tup (pv 4) ad (λ _ _=>Y))^^^((@ao _ _ _ _ _ _ _ ix_tup (pv 4) ad (λ _ _=>Y))^^^ab))) Y (Or.inl Y)) (@ae _ _ _ _ _ (kP Y nd Y Y (i:=6) (j:=7) (by decide) Y Y ((@am _ _ _ _ _ _ _ _ _ _ DSi (hr.mono (by decide)) Y ((pv 2)^^^((pv 3)^^^(ad^^^ab))) (by decide) Y Y)^^^((@am _ _ _ _ _ _ _ _ _ _ DSi (hr.mono (by decide)) Y ((pv 2)^^^((pv 3)^^^(ad^^^ab))) (by decide) Y Y)^^^ab)) Y) (@ae _ _ _ _ _ (@aD _ _ 8 _ _ _ _ nd Y (Or.inl Y) (@am _ _ _ _ _ _ _ _ _ _ DT (hr.mono (by decide)) Y ((pv 2)^^^((pv 4)^^^((pv 6)^^^((pv 7)^^^(ad^^^((@aJ _ _ _ _ (ad^^^ab))^^^ab)))))) (by decide) Y Y) Y (Or.inl Y)) (@ae _ _ _ _ _ (@aG _ _ _ _ _ _ _ _ (@aE _ _ _ _ _ _ _ _ aZ (@am _ _ _ _ _ _ _ _ _ _ DD (hr.mono (by decide)) Y ((pv 2)^^^(ad^^^ab)) (by decide) Y Y) ad (ay _)) (@ag _ _ _ (@bh _ _ _ _ _ _ (@am _ _ _ _ _ _ _ _ _ _ DDe (hr.mono (by decide)) Y ((pv 2)^^^((pv 4)^^^((pv 3)^^^((@am _ _ _ _ _ _ _ _ _ _ DD (hr.mono (by decide)) Y ((pv 2)^^^(ad^^^ab)) (by decide) Y Y)^^^ab)))) (by decide) Y Y) (aX Y (ah (ai (i:=6) nd Y (Or.inl Y)) (ah (ai (i:=7) nd Y (Or.inl Y)) (ah (ai (i:=8) nd Y (Or.inl Y)) aK)))) Y Y Y)) aB) (@ae _ _ _ _ _ (@aD _ _ 9 _ _ _ _ nd Y (Or.inl Y) (@am _ _ _ _ _ _ _ _ _ _ DTo (hr.mono (by decide)) Y ((pv 4)^^^((pv 6)^^^((pv 7)^^^((pv 8)^^^ab)))) (by decide) Y Y) Y (Or.inl Y)) (@ae _ _ _ _ _ (@aG _ _ _ _ _ _ _ _ (@aM _ _ _ _ (@aH _ _ _ (@am _ _ _ _ _ _ _ _ _ _ DAs hr Y ((pv 2)^^^((pv 4)^^^((pv 5)^^^((pv 6)^^^((pv 7)^^^((pv 9)^^^ab)))))) (by decide) Y Y) (by intro _; rfl))) (@ag _ _ _ (@ar _ _ _ _ bI)) aB) (@ag _ _ _ (@aG _ _ _ _ _ _ _ _ (PW.pt (kM (@aE _ _ _ _ _ _ _ _ aZ (pv 1) ad (ay _)) (iW (@aE _ _ _ _ _ _ _ _ aZ (@am _ _ _ _ _ _ _ _ _ _ DD (hr.mono (by decide)) Y ((pv 2)^^^(ad^^^ab)) (by decide) Y Y) ad (ay _))))) (@ae _ _ _ _ _ (@bh _ _ _ _ _ _ (@am _ _ _ _ _ _ _ _ _ _ DLo (hr.mono (by decide)) Y ((pv 2)^^^((pv 4)^^^((pv 3)^^^ab))) (by decide) Y Y) (aX Y (ah (ai (i:=6) nd Y (Or.inl Y)) (ah (ai (i:=7) nd Y (Or.inl Y)) (ah (ai (i:=9) nd Y (Or.inl Y)) aK)))) Y Y Y) (@ag _ _ _ (@aG _ _ _ _ _ _ _ _ (@aM _ _ _ _ (@aH _ _ _ (@am _ _ _ _ _ _ _ _ _ _ DAs hr Y ((pv 2)^^^((pv 4)^^^((pv 5)^^^((pv 6)^^^((pv 7)^^^((pv 9)^^^ab)))))) (by decide) Y Y) (by intro _; rfl))) (@ag _ _ _ (@ar _ _ _ _ bI)) aB))) aB))))))))))) (by intro _; rfl)) (@ag _ _ _ (@ar _ _ _ _ bI))),?_⟩
 have sz:(10000:Nat) < sizeLine:=by decide
 have ln:(ns.map V.int).length=ns.length:=List.length_map _
 have e59:(10:Int) ^ 58 < 9 * 10 ^ 59:=by decide
 have e60:9 * (10:Int) ^ 59 < 10 ^ 60:=by decide
 refine cC (λ σ' H'=>True) (λ R hR=>?_) ?_
 ·refine ⟨_,Y,a,_,Y,.inl hS,_,_,Y,_,_,Y,_,Y,?_,?_,?_⟩
  ·rw [ln]; split <;> omega
  ·rw [ln]; split <;> omega
  generalize hn:(Int.toNat _)=n
  have n8:n<=8:=by
   rw [<- hn]
   split <;> (try split) <;> omega
  refine dO (n:=n) (λ i σ H'=>∃ (v1 v2 v3 v4 v5 v6 v7 v8 v9:Option V),σ=[some (.ref a),v1,v2,v3,v4,v5,v6,v7,v8,v9]/\Same H H') ⟨_,_,_,_,_,_,_,_,_,rfl,Same.refl _⟩ ?_ (λ σ Hx _=>hR _ _ trivial)
  intro i σ Hx hi hI9
  refine bH λ G9 k9=>?_
  obtain ⟨v1,v2,v3,v4,v5,v6,v7,v8,v9,rfl,sx⟩:=hI9
  refine k9 ?_
  refine aj (λ R=>∀p (H':Hp),Hx p=none->PotC H' p->But p Hx H'->R [some (.ref a),some (.int (0 + (i:Int))),some (.ref p),v3,v4,v5,v6,v7,v8,v9] H') (λ Dd hR=>?_) ?_
  ·exact ⟨_,Y,_,Y,a,ns,_,Y,sx.seq hS,by omega,λ c=>⟨_,Y,c,_,Y,by omega,by omega,λ p Hb hp ptb sb=>hR p _ hp ptb (Pc.Same.but sb)⟩⟩
  rintro p H1 hp pt1 b1
  refine aj (λ R=>∀ (u:Int) (H':Hp),1<=u->u < 2 * 10 ^ 56->PotC H' p->But p Hx H'->R [some (.ref a),some (.int (0 + (i:Int))),some (.ref p),some (.int u),v4,v5,v6,v7,v8,v9] H') (λ Dd hR=>?_) ?_
  ·exact ⟨_,Y,p,Y,pt1,λ u H2 u1 u2 pt2 b2=>hR u _ u1 u2 pt2 (b1.trans b2)⟩
  rintro u H2 u1 u2 pt2 b2
  refine aj (λ R=>∀ (t kl:Addr) (b:Int) (ks:List Kd) (H':Hp),LS H' t b ks kl->kl≠p->(∀k∈ks,Good k)->1<=ks.length->ks.length<=8->0<=b->b < 10 ^ 58->PotC H' p->But p Hx H'->R [some (.ref a),some (.int (0 + (i:Int))),some (.ref p),some (.int u),some (.ref t),v5,v6,v7,v8,v9] H') (λ Dd hR=>?_) ?_
  ·exact ⟨_,Y,_,Y,p,u,Y,pt2,u1,u2,λ t kl b ks H3 ls nk _ gk k1 k8 b0 b60 pt3 b3=>hR t kl b ks _ ls nk (λ k hk=>(gk k hk).1) k1 k8 b0 b60 pt3 (b2.trans b3)⟩
  rintro t kl b ks H3 ls3 nk gk k1 kn8 b0 b58 pt3 b3
  refine aj (λ R=>∀ (x:Addr) (H':Hp),LS H' t b ks kl->ShopAt C H' x b ks->PotC H' p->But p Hx H'->R [some (.ref a),some (.int (0 + (i:Int))),some (.ref p),some (.int u),some (.ref t),some (.ref x),v6,v7,v8,v9] H') (λ Dd hR=>?_) ?_
  ·obtain ⟨rs,q1,q2,q3⟩:=id ls3
   have rl:=Paired.length q3
   refine ⟨_,Y,t,_,0,_,Y,Y,SqT.of q1,Y,_,Y,t,_,1,_,Y,Y,SqT.of q1,Y,λ x dx hx hdx ne0=>?_⟩
   have sm:Same H3 (upd (upd H3 dx (.own x)) x (.ins C dx [])):=oi hx hdx
   refine ⟨x,dx,kl,b,rs,ks,Y,af,b0,.inl (sm _ _ q2),Paired.mapP (Tups.keep (λ c xs e=>sm _ _ e) q3) (λ v k h=>.inl h),gk,by omega,by omega,λ Hb Sb kb=>⟨Y,?_⟩⟩
   have sb:Same H3 Hb:=λ c o e=>kb c o (ap e hx) (sm _ _ e)
   exact hR x _ (ls3.same sb) Sb (pt3.same sb) (λ c o n e=>sb _ _ (b3 _ _ n e))
  rintro x H4 ls4 sh4 pt4 b4
  refine aj (λ R=>∀ (W h1:Int) (H':Hp),1<=W->W < 10 ^ 58->1<=h1->h1 < 10 ^ 58->LS H' t b ks kl->ShopAt C H' x b ks->PotC H' p->But p Hx H'->R [some (.ref a),some (.int (0 + (i:Int))),some (.ref p),some (.int u),some (.ref t),some (.ref x),some (.int W),some (.int h1),v8,v9] H') (λ Dd hR=>?_) ?_
  ·exact ⟨_,Y,_,Y,p,u,40,Y,pt4,u1,u2,by decide,by decide,λ W H5 w0 w58 pt5 b5=>⟨_,Y,_,Y,p,u,40,Y,pt5,u1,u2,by decide,by decide,λ h1 H6 h0 h58 pt6 b6=>⟨_,_,Y,hR W h1 _ w0 w58 h0 h58 ((ls4.but nk pt4 b5).but nk pt5 b6) (sG pt5 b6 (sG pt4 b5 sh4)) pt6 (b4.trans (b5.trans b6))⟩⟩⟩
  clear b1 pt1 b2 pt2 b3 pt3 ls3 b4 pt4 ls4 sh4
  clear H1 H2 H3 H4
  rintro W h1 H5 w0 w58 h0 h58 ls5 sh5 pt5 b5
  refine aj (λ R=>∀ (v:V) (T:Tr) (H':Hp),okU b ks W h1 T->lvN T<=31->TrV H' T v->LY C p t kl x b ks H'->But p Hx H'->R [some (.ref a),some (.int (0 + (i:Int))),some (.ref p),some (.int u),some (.ref t),some (.ref x),some (.int W),some (.int h1),some v,v9] H') (λ Dd hR=>?_) ?_
  ·refine ⟨_,Y,_,Y,_,Y,_,Y,zS1,λ rm hrm=>?_⟩
   obtain ⟨H7,e7,k7,n7,s7,b7,pt7⟩:=cg (o:=.lst [.int 30]) b5 pt5 hrm
   rw [show upd H5 rm _=H7 from e7]
   have ls7:=ls5.same s7
   obtain ⟨rs,q1,q2,q3⟩:=id ls5
   have nkr:kl≠rm:=ap q2 hrm
   refine ⟨p,t,kl,rm,b,W,h1,30,ks,10,Y,pt7,ls7,nk,nkr,n7,kn8,gk,b0,by omega,by omega,k7,by decide,by decide,λ v T r' H8 tv ok r0 ln dp hrm8 pt8 b78=>?_⟩
   obtain ⟨_,hp7⟩:=jx pt7
   have tk:∀c xs,H7 c=some (.tup xs)->H8 c=some (.tup xs):=λ c xs e=>b78 _ _ (λ z=>by rw [z,hp7] at e; cases e) (λ z=>by rw [z,k7] at e; cases e) e
   have ls8:=ls7.keep2 hp7 k7 nk nkr b78
   have sh8:ShopAt C H8 x b ks:=(eC s7 sh5).keep (λ c xs e=>tk _ _ e) (λ c C' d fs e=>b78 _ _ (λ z=>by rw [z,hp7] at e; cases e) (λ z=>by rw [z,k7] at e; cases e) e)
   have b08:But p Hx H8:=λ c o n e=>b78 _ _ n (ap (b5 _ _ n e) hrm) (b7 _ _ n e)
   exact hR v T _ ok (by omega) tv ⟨ls8,sh8,pt8⟩ b08
  clear b5 pt5 ls5 sh5
  clear H5
  rintro v0 T0 H5 ok0 l31 tv5 ly5 b5
  refine aj (λ R=>∀ (W h1:Int) (v:V) (T:Tr) (H':Hp),1<=W->W < 9 * 10 ^ 59->1<=h1->h1 < 9 * 10 ^ 59->okU b ks W h1 T->lvN T<=45->TrV H' T v->LY C p t kl x b ks H'->But p Hx H'->R [some (.ref a),some (.int (0 + (i:Int))),some (.ref p),some (.int u),some (.ref t),some (.ref x),some (.int W),some (.int h1),some v,v9] H') (λ Dd hR=>?_) ?_
  ·refine ⟨_,Y,p,4,Y,ly5.po,by decide,by decide,λ z H6 z0 z1 pt6 b6=>⟨Y,_,Y,?_⟩⟩
   have ly6:=ly5.but nk pt6 b6
   refine cf (λ c=>?_) (λ c=>hR W h1 v0 T0 _ w0 (by omega) h0 (by omega) ok0 (by omega) (TrV.keep (λ a xs e=>ef b6 ly5.po e) _ tv5) ly6 (b5.trans b6))
   refine ⟨_,Y,_,Y,_,Y,_,Y,p,2,Y,pt6,by decide,by decide,λ tn H7 tn0 tn4 pt7 b7=>?_⟩
   have ly7:=ly6.but nk pt7 b7
   exact ⟨p,t,kl,b,u,tn,ks,Y,pt7,ly7.ls,nk,kn8,gk,b0,b58,u1,u2,tn0,by omega,λ r W' h' v T H8 hr tv ok w0' h0' w59 h59 ln pt8 b8=>⟨r,_,Y,SqT.of hr,Y,_,_,Y,_,_,Y,_,_,Y,Y,hR W' h' v T _ w0' w59 h0' h59 ok ln tv (ly7.but nk pt8 b8) (b5.trans (b6.trans (b7.trans b8)))⟩⟩
  clear b5 ly5 ok0 l31 w0 w58 h0 h58 tv5
  clear H5 W h1
  clear v0 T0
  rintro W h1 v T H5 w0 w59 h0 h59 okT l45 tv5 ly5 b5
  have dl:=dM T
  have szt:=dj T
  have o:TlO b ks W h1 (di b T W h1):=by
   refine ⟨(ia b0 T okT w0 h0).1,w0,h0,by omega,by omega,?_,?_,(ff b0 gk kn8 T okT (by omega) (by omega) (by omega) (by omega)).1,?_⟩
   ·have:lcT (di b T W h1)=lvN T:=(fS b T W h1).1
    omega
   ·have:(tlD (di b T W h1)).depth<=3 * dT T + 1:=(cu b T W h1).1
    omega
   ·have:Pc.wt (tlD (di b T W h1)) + 7<=20 * szT T:=(hZ b T W h1).1
    omega
  refine aj (λ R=>∀uv (H':Hp),TlV H' (di b T W h1) uv->LY C p t kl x b ks H'->But p Hx H'->R [some (.ref a),some (.int (0 + (i:Int))),some (.ref p),some (.int u),some (.ref t),some (.ref x),some (.int W),some (.int h1),some v,some uv] H') (λ Dd hR=>?_) ?_
  ·exact ⟨_,Y,_,Y,_,Y,_,Y,t,kl,b,W,h1,ks,v,T,Y,ly5.ls,tv5,by omega,by omega,λ uu H6 tl s6=>hR uu _ tl (ly5.same s6) (λ c o n e=>s6 _ _ (b5 _ _ n e))⟩
  clear ly5 b5 tv5
  clear H5
  rintro uv H5 tl5 ly5 b5
  refine aj (λ R=>∀ (H':Hp),LY C p t kl x b ks H'->But p Hx H'->R [some (.ref a),some (.int (0 + (i:Int))),some (.ref p),some (.int u),some (.ref t),some (.ref x),some (.int W),some (.int h1),some v,some uv] H') (λ Dd hR=>?_) ?_
  ·exact ⟨_,Y,_,Y,_,Y,_,Y,_,Y,_,Y,p,t,kl,x,b,W,h1,ks,uv,_,Y,ly5,nk,kn8,gk,b0,tl5,o,λ H6 pt6 b6=>⟨_,Y,aL (hR _ (ly5.but nk pt6 b6) (b5.trans b6))⟩⟩
  clear ly5 b5 tl5
  clear H5
  rintro H5 ly5 b5
  have fin:∀ {Hy:Hp},But p Hx Hy->Same H Hy:=λ by' c o e=>by' _ _ (ap (sx _ _ e) hp) (sx _ _ e)
  refine ⟨_,Y,Y,_,Y,?_⟩
  refine cf (λ c=>?_) (λ c=>⟨_,_,_,_,_,_,_,_,_,Y,fin b5⟩)
  refine ⟨_,Y,p,4,Y,ly5.po,by decide,by decide,λ z H6 z0 z1 pt6 b6=>⟨Y,_,Y,?_⟩⟩
  have ly6:=ly5.but nk pt6 b6
  refine cf (λ c=>?_) (λ c=>⟨_,_,_,_,_,_,_,_,_,Y,fin (b5.trans b6)⟩)
  refine ⟨_,Y,_,Y,_,Y,p,t,kl,b,u,ks,Y,pt6,ly6.ls,nk,kn8,gk,b0,b58,u1,u2,λ r W' h' v' T' H7 hr7 tv7 o7 pt7 b7=>⟨r,_,Y,SqT.of hr7,Y,_,_,Y,_,_,Y,_,_,Y,Y,?_⟩⟩
  have ly7:=ly6.but nk pt7 b7
  exact ⟨_,Y,_,Y,_,Y,_,Y,_,Y,_,Y,p,t,kl,x,b,W',h',ks,v',T',Y,ly7,nk,kn8,gk,b0,tv7,o7,λ H8 pt8 b8=>⟨_,Y,aL ⟨_,_,_,_,_,_,_,_,_,Y,fin (b5.trans (b6.trans (b7.trans b8)))⟩⟩⟩
 rintro _ H1 _
 exact q H1
end
theorem Go {α:Type} {us:List α} (h:us.length=1):∃a,us=[a]:=by
 match us,h with
 | [a],_=>exact ⟨a,Y⟩
theorem vZ {α:Type} {us:List α} (h:us.length=2):∃a b,us=[a,b]:=by
 match us,h with
 | [a,b],_=>exact ⟨a,b,Y⟩
theorem wc {α:Type} {us:List α} (h:us.length=3):∃a b c,us=[a,b,c]:=by
 match us,h with
 | [a,b,c],_=>exact ⟨a,b,c,Y⟩
theorem Gp {α:Type} {us:List α} (h:us.length=4):∃a b c d,us=[a,b,c,d]:=by
 match us,h with
 | [a,b,c,d],_=>exact ⟨a,b,c,d,Y⟩
theorem Gq {α:Type} {us:List α} (h:us.length=5):∃a b c d e,us=[a,b,c,d,e]:=by
 match us,h with
 | [a,b,c,d,e],_=>exact ⟨a,b,c,d,e,Y⟩
abbrev DI (K:PySem.W.Frag) (n:Str) (st:Stmt) (f:Addr):Prop:=∃ (od an:Option Addr) (sl:Array (Option Value)) (oc kV dc pm cd ct:Value),PySem.W.nsIn K mainGlobals n=some (some (.ref f))/\K.lookup f=some ⟨oc,od,.func (PySem.W.fnOf n n (defArgs st) (defBody st) (defScope st) .none kV dc pm an cd ct),sl⟩/\PySem.W.codeIn K cd n=true/\PySem.W.keepIn K (.ref f)=true
abbrev MI (K:PySem.W.Frag) (C:Addr) (n q:Str) (st:Stmt) (f:Addr):Prop:=∃ (od an:Option Addr) (sl:Array (Option Value)) (oc kV dc pm cd ct:Value),PySem.W.findIn K (.ref C) n=some (some (.ref f))/\PySem.W.isFn K (.ref f)=true/\K.lookup f=some ⟨oc,od,.func (PySem.W.fnOf n q (defArgs st) (defBody st) (defScope st) .none kV dc pm an cd ct),sl⟩/\PySem.W.codeIn K cd q=true/\PySem.W.keepIn K (.ref f)=true
theorem diM {K:PySem.W.Frag} {n:Str} {st:Stmt} {f:Addr} {od an:Option Addr} {sl:Array (Option Value)} {oc kV dc pm cd ct:Value} (a:PySem.W.nsIn K mainGlobals n=some (some (.ref f))) (l:K.lookup f=some ⟨oc,od,.func (PySem.W.fnOf n n (defArgs st) (defBody st) (defScope st) .none kV dc pm an cd ct),sl⟩) (c:PySem.W.codeIn K cd n=true) (k:PySem.W.keepIn K (.ref f)=true):DI K n st f:=⟨_,_,_,_,_,_,_,_,_,a,l,c,k⟩
theorem miM {K:PySem.W.Frag} {C:Addr} {n q:Str} {st:Stmt} {f:Addr} {od an:Option Addr} {sl:Array (Option Value)} {oc kV dc pm cd ct:Value} (a:PySem.W.findIn K (.ref C) n=some (some (.ref f))) (i:PySem.W.isFn K (.ref f)=true) (l:K.lookup f=some ⟨oc,od,.func (PySem.W.fnOf n q (defArgs st) (defBody st) (defScope st) .none kV dc pm an cd ct),sl⟩) (c:PySem.W.codeIn K cd q=true) (k:PySem.W.keepIn K (.ref f)=true):MI K C n q st f:=⟨_,_,_,_,_,_,_,_,_,a,i,l,c,k⟩
inductive DE (K:PySem.W.Frag) (mg:Str->Option Value) (n:Str) (st:Stmt) (f:Addr) (ps:List Str):Prop
 | mk (fd:FuncData) (F:Fun K n n st f fd) (b:Binds K fd ps []) (k:PySem.W.keepIn K (.ref f)=true) (q:mg n=some (.ref f)):DE K mg n st f ps
theorem diE {K:PySem.W.Frag} {h:Heap} {mg:Str->Option Value} {n:Str} {st:Stmt} {f:Addr} (X:K.In h) (G:h.Ns mainGlobals mg) (d:DI K n st f) (ps:List Str) (hb:∀ (kV dc pm:Value) (an:Option Addr) (cd ct:Value) (us:List Value),us.length=ps.length->bindArgs (PySem.W.fnOf n n (defArgs st) (defBody st) (defScope st) .none kV dc pm an cd ct) ⟨us,[]⟩=pure (ps.zip us)):DE K mg n st f ps:=by
 obtain ⟨_,_,_,_,_,_,_,_,_,a,l,c,k⟩:=d
 have F:=lj (st:=st) l c k
 exact ⟨_,F,F.binds hb,k,PySem.W.mg_of X G a⟩
inductive ME (K:PySem.W.Frag) (C:Addr) (n q:Str) (st:Stmt) (f:Addr) (ps:List Str):Prop
 | mk (fd:FuncData) (F:Fun K n q st f fd) (b:Binds K fd ps []) (k:PySem.W.keepIn K (.ref f)=true) (a:PySem.W.findIn K (.ref C) n=some (some (.ref f))) (i:PySem.W.isFn K (.ref f)=true):ME K C n q st f ps
theorem miE {K:PySem.W.Frag} {C:Addr} {n q:Str} {st:Stmt} {f:Addr} (d:MI K C n q st f) (ps:List Str) (hb:∀ (kV dc pm:Value) (an:Option Addr) (cd ct:Value) (us:List Value),us.length=ps.length->bindArgs (PySem.W.fnOf n q (defArgs st) (defBody st) (defScope st) .none kV dc pm an cd ct) ⟨us,[]⟩=pure (ps.zip us)):ME K C n q st f ps:=by
 obtain ⟨_,_,_,_,_,_,_,_,_,a,i,l,c,k⟩:=d
 have F:=lj (st:=st) l c k
 exact ⟨_,F,F.binds hb,k,a,i⟩
theorem bd1 {n q:Str} {st:Stmt} {a:Str} (h:∀ (kV dc pm:Value) (an:Option Addr) (cd ct ua:Value),bindArgs (PySem.W.fnOf n q (defArgs st) (defBody st) (defScope st) .none kV dc pm an cd ct) ⟨[ua],[]⟩=pure [(a,ua)]):∀ (kV dc pm:Value) (an:Option Addr) (cd ct:Value) (us:List Value),us.length=[a].length->bindArgs (PySem.W.fnOf n q (defArgs st) (defBody st) (defScope st) .none kV dc pm an cd ct) ⟨us,[]⟩=pure ([a].zip us):=by
 intro _ _ _ _ _ _ us hl
 obtain ⟨_,rfl⟩:=Go hl
 exact h _ _ _ _ _ _ _
theorem bd2 {n q:Str} {st:Stmt} {a b:Str} (h:∀ (kV dc pm:Value) (an:Option Addr) (cd ct ua ub:Value),bindArgs (PySem.W.fnOf n q (defArgs st) (defBody st) (defScope st) .none kV dc pm an cd ct) ⟨[ua,ub],[]⟩=pure [(a,ua),(b,ub)]):∀ (kV dc pm:Value) (an:Option Addr) (cd ct:Value) (us:List Value),us.length=[a,b].length->bindArgs (PySem.W.fnOf n q (defArgs st) (defBody st) (defScope st) .none kV dc pm an cd ct) ⟨us,[]⟩=pure ([a,b].zip us):=by
 intro _ _ _ _ _ _ us hl
 obtain ⟨_,_,rfl⟩:=vZ hl
 exact h _ _ _ _ _ _ _ _
theorem bd3 {n q:Str} {st:Stmt} {a b c:Str} (h:∀ (kV dc pm:Value) (an:Option Addr) (cd ct ua ub uc:Value),bindArgs (PySem.W.fnOf n q (defArgs st) (defBody st) (defScope st) .none kV dc pm an cd ct) ⟨[ua,ub,uc],[]⟩=pure [(a,ua),(b,ub),(c,uc)]):∀ (kV dc pm:Value) (an:Option Addr) (cd ct:Value) (us:List Value),us.length=[a,b,c].length->bindArgs (PySem.W.fnOf n q (defArgs st) (defBody st) (defScope st) .none kV dc pm an cd ct) ⟨us,[]⟩=pure ([a,b,c].zip us):=by
 intro _ _ _ _ _ _ us hl
 obtain ⟨_,_,_,rfl⟩:=wc hl
 exact h _ _ _ _ _ _ _ _ _
theorem bd4 {n q:Str} {st:Stmt} {a b c d:Str} (h:∀ (kV dc pm:Value) (an:Option Addr) (cd ct ua ub uc ud:Value),bindArgs (PySem.W.fnOf n q (defArgs st) (defBody st) (defScope st) .none kV dc pm an cd ct) ⟨[ua,ub,uc,ud],[]⟩=pure [(a,ua),(b,ub),(c,uc),(d,ud)]):∀ (kV dc pm:Value) (an:Option Addr) (cd ct:Value) (us:List Value),us.length=[a,b,c,d].length->bindArgs (PySem.W.fnOf n q (defArgs st) (defBody st) (defScope st) .none kV dc pm an cd ct) ⟨us,[]⟩=pure ([a,b,c,d].zip us):=by
 intro _ _ _ _ _ _ us hl
 obtain ⟨_,_,_,_,rfl⟩:=Gp hl
 exact h _ _ _ _ _ _ _ _ _ _
theorem bd5 {n q:Str} {st:Stmt} {a b c d e:Str} (h:∀ (kV dc pm:Value) (an:Option Addr) (cd ct ua ub uc ud ue:Value),bindArgs (PySem.W.fnOf n q (defArgs st) (defBody st) (defScope st) .none kV dc pm an cd ct) ⟨[ua,ub,uc,ud,ue],[]⟩=pure [(a,ua),(b,ub),(c,uc),(d,ud),(e,ue)]):∀ (kV dc pm:Value) (an:Option Addr) (cd ct:Value) (us:List Value),us.length=[a,b,c,d,e].length->bindArgs (PySem.W.fnOf n q (defArgs st) (defBody st) (defScope st) .none kV dc pm an cd ct) ⟨us,[]⟩=pure ([a,b,c,d,e].zip us):=by
 intro _ _ _ _ _ _ us hl
 obtain ⟨_,_,_,_,_,rfl⟩:=Gq hl
 exact h _ _ _ _ _ _ _ _ _ _ _
theorem lx6 {α:Type} {us:List α} (h:us.length=6):∃a b c d e f,us=[a,b,c,d,e,f]:=by
 match us,h with
 | [a,b,c,d,e,f],_=>exact ⟨a,b,c,d,e,f,Y⟩
theorem bd6 {n q:Str} {st:Stmt} {a b c d e f:Str} (h:∀ (kV dc pm:Value) (an:Option Addr) (cd ct ua ub uc ud ue uf:Value),bindArgs (PySem.W.fnOf n q (defArgs st) (defBody st) (defScope st) .none kV dc pm an cd ct) ⟨[ua,ub,uc,ud,ue,uf],[]⟩=pure [(a,ua),(b,ub),(c,uc),(d,ud),(e,ue),(f,uf)]):∀ (kV dc pm:Value) (an:Option Addr) (cd ct:Value) (us:List Value),us.length=[a,b,c,d,e,f].length->bindArgs (PySem.W.fnOf n q (defArgs st) (defBody st) (defScope st) .none kV dc pm an cd ct) ⟨us,[]⟩=pure ([a,b,c,d,e,f].zip us):=by
 intro _ _ _ _ _ _ us hl
 obtain ⟨_,_,_,_,_,_,rfl⟩:=lx6 hl
 exact h _ _ _ _ _ _ _ _ _ _ _ _
theorem lx7 {α:Type} {us:List α} (h:us.length=7):∃a b c d e f g,us=[a,b,c,d,e,f,g]:=by
 match us,h with
 | [a,b,c,d,e,f,g],_=>exact ⟨a,b,c,d,e,f,g,Y⟩
theorem bd7 {n q:Str} {st:Stmt} {a b c d e f g:Str} (h:∀ (kV dc pm:Value) (an:Option Addr) (cd ct ua ub uc ud ue uf ug:Value),bindArgs (PySem.W.fnOf n q (defArgs st) (defBody st) (defScope st) .none kV dc pm an cd ct) ⟨[ua,ub,uc,ud,ue,uf,ug],[]⟩=pure [(a,ua),(b,ub),(c,uc),(d,ud),(e,ue),(f,uf),(g,ug)]):∀ (kV dc pm:Value) (an:Option Addr) (cd ct:Value) (us:List Value),us.length=[a,b,c,d,e,f,g].length->bindArgs (PySem.W.fnOf n q (defArgs st) (defBody st) (defScope st) .none kV dc pm an cd ct) ⟨us,[]⟩=pure ([a,b,c,d,e,f,g].zip us):=by
 intro _ _ _ _ _ _ us hl
 obtain ⟨_,_,_,_,_,_,_,rfl⟩:=lx7 hl
 exact h _ _ _ _ _ _ _ _ _ _ _ _ _
theorem Ic {α:Type} {us:List α} (h:us.length=6):∃a b c d e f,us=[a,b,c,d,e,f]:=by
 match us,h with
 | [a,b,c,d,e,f],_=>exact ⟨a,b,c,d,e,f,Y⟩
theorem Id {α:Type} {us:List α} (h:us.length=7):∃a b c d e f g,us=[a,b,c,d,e,f,g]:=by
 match us,h with
 | [a,b,c,d,e,f,g],_=>exact ⟨a,b,c,d,e,f,g,Y⟩
set_option maxHeartbeats 4000000 in
open PySem.W in
theorem all_mk {l:OpenLaw} {w:World} {K:Frag} {h:Heap} {mg:Str->Option Value} {fa f0 f1 f2 f3 f4 f5 f6 f7 f8 f9 f10 f11 f12 f13 f14 f15 f16 f17 f18 f19 f20 f21 f22 f23 f24 f25 f26 f27 f28 f29 f30 f31 f32 f33 f34 f35 f36 f37 f38 f39 f40 f41 f42 f43 f44 f45 f46 f47 C fm0 fm1 fm2 fm3 xWAYS:Addr} (X:K.In h) (G:h.Ns mainGlobals mg) (hfa:mg "law" = some (.ref fa))
  {tc0:Tok} {tc1:Tok} {tc2:Tok} {tc3:Tok} {tc4:Tok} {tc5:Tok} {tc6:Tok} {tc7:Tok} {tc8:Tok} {tc9:Tok}
  (d0:DI K "is_whole" jo f0)
  (d1:DI K "is_truth" jp f1)
  (d2:DI K "is_row" tY f2)
  (d3:DI K "is_kind" gz f3)
  (d4:DI K "can_lie_turned" gA f4)
  (d5:DI K "check_plate" cI f5)
  (d6:DI K "lies_in" gw f6)
  (d7:DI K "cut_parts" dU f7)
  (d8:DI K "begins_with" cJ f8)
  (d9:DI K "is_cut" jq f9)
  (d10:DI K "is_leaf" gx f10)
  (d11:DI K "spots_behind" cn f11)
  (d12:DI K "is_tree" gy f12)
  (d13:DI K "check_tree" cX f13)
  (d14:DI K "side_along" cY f14)
  (d15:DI K "telling_of_part" bv f15)
  (d16:DI K "telling_of" de f16)
  (d17:DI K "part_along" cZ f17)
  (d18:DI K "way_of" jr f18)
  (d19:DI K "is_sized" eZ f19)
  (d20:DI K "is_divided" bV f20)
  (d21:DI K "as_telling" bK f21)
  (d22:DI K "tree_by_telling" bi f22)
  (d23:DI K "tree_told" dW f23)
  (d24:DI K "_law_cell" mL f24)
  (d25:DI K "_law_pot" tZ f25)
  (d26:DI K "_law_take" mM f26)
  (d27:DI K "_law_unit" mN f27)
  (d28:DI K "_law_side" mO f28)
  (d29:DI K "_law_worth" js f29)
  (d30:DI K "_law_shop" mP f30)
  (d31:DI K "_law_sides" jt f31)
  (d32:DI K "_law_lyings" gB f32)
  (d33:DI K "_law_behind" gC f33)
  (d34:DI K "_law_leaf" mQ f34)
  (d35:DI K "_law_tree" iF f35)
  (d36:DI K "_law_told" iH f36)
  (d37:DI K "_law_lists" eJ f37)
  (d38:DI K "_law_deep" mR f38)
  (d39:DI K "_law_plain" ju f39)
  (d40:DI K "_law_is_leaf" fb f40)
  (d41:DI K "_law_walk" iG f41)
  (d42:DI K "_law_pieces" gD f42)
  (d43:DI K "_law_laid" iI f43)
  (d44:DI K "_law_right" jv f44)
  (d45:DI K "_law_asked" jw f45)
  (d46:DI K "_law_long" kq f46)
  (d47:DI K "law" kx f47)
  (aC:nsIn K mainGlobals "Shop" = some (some (.ref C)))
  (dm0:MI K C "__init__" "Shop.__init__" cT fm0)
  (dm1:MI K C "blade" "Shop.blade" df fm1)
  (dm2:MI K C "is_lying" "Shop.is_lying" cq fm2)
  (dm3:MI K C "sides" "Shop.sides" dg fm3)
  (pg:plainGet K C Str.empty=true)
  (hd:hasDictIn K C=true)
  (po:plainOver K C=true)
  (sa:findIn K (.ref C) "__setattr__" = some (some (.builtin "object.__setattr__")))
  (mk:makesIn K C=true)
  (kc:keepIn K (.ref C)=true)
  (n0:findIn K (.ref C) "blade_width" = some none)
  (n1:findIn K (.ref C) "kind_rows" = some none)
  (eWAYS:nsIn K mainGlobals "WAYS" = some (some (.ref xWAYS)))
  (lWAYS:∃ (o:Obj) (its:Array Value) (n:Nat),K.lookup xWAYS=some o/\o.cls=.type "tuple" /\ o.data=.seq its n/\its.size<=sizeLine/\Vals [.str "down",.str "across"] its.toList)
  (z0:nsIn K mainGlobals "isinstance" = some none)
  (z1:nsIn K mainGlobals "int" = some none)
  (z2:nsIn K mainGlobals "bool" = some none)
  (z3:nsIn K mainGlobals "list" = some none)
  (z4:nsIn K mainGlobals "tuple" = some none)
  (z5:nsIn K mainGlobals "len" = some none)
  (z6:nsIn K mainGlobals "range" = some none)
  (z7:nsIn K mainGlobals "max" = some none)
  (z8:nsIn K mainGlobals "min" = some none)
  (z9:nsIn K mainGlobals "abs" = some none)
  (z10:nsIn K mainGlobals "divmod" = some none)
  (z11:nsIn K mainGlobals "sum" = some none)
  (z12:nsIn K mainGlobals "sorted" = some none)
  (z13:nsIn K mainGlobals "all" = some none)
  (z14:nsIn K mainGlobals "repr" = some none)
  (z15:nsIn K mainGlobals "zip" = some none)
  (z16:nsIn K mainGlobals "enumerate" = some none)
  (z17:nsIn K mainGlobals "str" = some none)
  (z18:nsIn K mainGlobals "reversed" = some none)
  (uc0:nsIn K mainGlobals "MOST_KINDS" = some (some (.int 8 tc0)))
  (uc1:nsIn K mainGlobals "THINGS_OF_A_KIND" = some (some (.int 5 tc1)))
  (uc2:nsIn K mainGlobals "DOWN" = some (some (.str "down" tc2)))
  (uc3:nsIn K mainGlobals "REST" = some (some (.str "rest" tc3)))
  (uc4:nsIn K mainGlobals "PIECE" = some (some (.str "piece" tc4)))
  (uc5:nsIn K mainGlobals "THINGS_OF_A_REST" = some (some (.int 1 tc5)))
  (uc6:nsIn K mainGlobals "THINGS_OF_A_PIECE" = some (some (.int 5 tc6)))
  (uc7:nsIn K mainGlobals "THINGS_OF_A_CUT" = some (some (.int 4 tc7)))
  (uc8:nsIn K mainGlobals "THINGS_OF_A_CUT_TELLING" = some (some (.int 2 tc8)))
  (uc9:nsIn K mainGlobals "LEAST_IN_A_ROW" = some (some (.int 2 tc9))) :
  ∃fd:FuncData,(∀ (s:Shared) (v:Value),BindsTo s fd ⟨[v],[]⟩ [("_law_script",v)])/\∀base:Heap,K.In base->base.Ns mainGlobals mg->FnOk l.prog w K mg base CX0 162 fa fd ["_law_script"] (spLaw K):=by
 obtain ⟨_,F0,b0,k0,q0⟩:=diE X G d0 ["thing","least"] (bd2 λ _ _ _ _ _ _ _ _=>rfl)
 obtain ⟨_,F1,b1,k1,q1⟩:=diE X G d1 ["thing"] (bd1 λ _ _ _ _ _ _ _=>rfl)
 obtain ⟨_,F2,b2,k2,q2⟩:=diE X G d2 ["thing"] (bd1 λ _ _ _ _ _ _ _=>rfl)
 obtain ⟨_,F3,b3,k3,q3⟩:=diE X G d3 ["thing"] (bd1 λ _ _ _ _ _ _ _=>rfl)
 obtain ⟨_,F4,b4,k4,q4⟩:=diE X G d4 ["kind"] (bd1 λ _ _ _ _ _ _ _=>rfl)
 obtain ⟨_,F5,b5,k5,q5⟩:=diE X G d5 ["wide","high"] (bd2 λ _ _ _ _ _ _ _ _=>rfl)
 obtain ⟨_,F6,b6,k6,q6⟩:=diE X G d6 ["shop","wide","high","kind","turned","x","y"] (bd7 λ _ _ _ _ _ _ _ _ _ _ _ _ _=>rfl)
 obtain ⟨_,F7,b7,k7,q7⟩:=diE X G d7 ["blade","part","way","p"] (bd4 λ _ _ _ _ _ _ _ _ _ _=>rfl)
 obtain ⟨_,F8,b8,k8,q8⟩:=diE X G d8 ["thing","word","many"] (bd3 λ _ _ _ _ _ _ _ _ _=>rfl)
 obtain ⟨_,F9,b9,k9,q9⟩:=diE X G d9 ["blade","spot"] (bd2 λ _ _ _ _ _ _ _ _=>rfl)
 obtain ⟨_,F10,b10,k10,q10⟩:=diE X G d10 ["shop","spot"] (bd2 λ _ _ _ _ _ _ _ _=>rfl)
 obtain ⟨_,F11,b11,k11,q11⟩:=diE X G d11 ["blade","spot"] (bd2 λ _ _ _ _ _ _ _ _=>rfl)
 obtain ⟨_,F12,b12,k12,q12⟩:=diE X G d12 ["shop","wide","high","thing"] (bd4 λ _ _ _ _ _ _ _ _ _ _=>rfl)
 obtain ⟨_,F13,b13,k13,q13⟩:=diE X G d13 ["shop","wide","high","thing"] (bd4 λ _ _ _ _ _ _ _ _ _ _=>rfl)
 obtain ⟨_,F14,b14,k14,q14⟩:=diE X G d14 ["part","way"] (bd2 λ _ _ _ _ _ _ _ _=>rfl)
 obtain ⟨_,F15,b15,k15,q15⟩:=diE X G d15 ["blade","part","tree"] (bd3 λ _ _ _ _ _ _ _ _ _=>rfl)
 obtain ⟨_,F16,b16,k16,q16⟩:=diE X G d16 ["shop","wide","high","tree"] (bd4 λ _ _ _ _ _ _ _ _ _ _=>rfl)
 obtain ⟨_,F17,b17,k17,q17⟩:=diE X G d17 ["part","way","size"] (bd3 λ _ _ _ _ _ _ _ _ _=>rfl)
 obtain ⟨_,F18,b18,k18,q18⟩:=diE X G d18 ["thing"] (bd1 λ _ _ _ _ _ _ _=>rfl)
 obtain ⟨_,F19,b19,k19,q19⟩:=diE X G d19 ["way","thing"] (bd2 λ _ _ _ _ _ _ _ _=>rfl)
 obtain ⟨_,F20,b20,k20,q20⟩:=diE X G d20 ["blade","side","way","row"] (bd4 λ _ _ _ _ _ _ _ _ _ _=>rfl)
 obtain ⟨_,F21,b21,k21,q21⟩:=diE X G d21 ["shop","part","thing"] (bd3 λ _ _ _ _ _ _ _ _ _=>rfl)
 obtain ⟨_,F22,b22,k22,q22⟩:=diE X G d22 ["telling"] (bd1 λ _ _ _ _ _ _ _=>rfl)
 obtain ⟨_,F23,b23,k23,q23⟩:=diE X G d23 ["shop","wide","high","telling"] (bd4 λ _ _ _ _ _ _ _ _ _ _=>rfl)
 obtain ⟨_,F24,b24,k24,q24⟩:=diE X G d24 ["_law_script","_law_k"] (bd2 λ _ _ _ _ _ _ _ _=>rfl)
 obtain ⟨_,F25,b25,k25,q25⟩:=diE X G d25 ["_law_cell_here","_law_k"] (bd2 λ _ _ _ _ _ _ _ _=>rfl)
 obtain ⟨_,F26,b26,k26,q26⟩:=diE X G d26 ["_law_pot_here","_law_many"] (bd2 λ _ _ _ _ _ _ _ _=>rfl)
 obtain ⟨_,F27,b27,k27,q27⟩:=diE X G d27 ["_law_pot_here"] (bd1 λ _ _ _ _ _ _ _=>rfl)
 obtain ⟨_,F28,b28,k28,q28⟩:=diE X G d28 ["_law_pot_here","_law_unit_here","_law_most"] (bd3 λ _ _ _ _ _ _ _ _ _=>rfl)
 obtain ⟨_,F29,b29,k29,q29⟩:=diE X G d29 ["_law_pot_here"] (bd1 λ _ _ _ _ _ _ _=>rfl)
 obtain ⟨_,F30,b30,k30,q30⟩:=diE X G d30 ["_law_pot_here","_law_unit_here"] (bd2 λ _ _ _ _ _ _ _ _=>rfl)
 obtain ⟨_,F31,b31,k31,q31⟩:=diE X G d31 ["_law_shop_here","_law_kind","_law_turned"] (bd3 λ _ _ _ _ _ _ _ _ _=>rfl)
 obtain ⟨_,F32,b32,k32,q32⟩:=diE X G d32 ["_law_shop_here"] (bd1 λ _ _ _ _ _ _ _=>rfl)
 obtain ⟨_,F33,b33,k33,q33⟩:=diE X G d33 ["_law_shop_here","_law_wide","_law_high","_law_way","_law_p"] (bd5 λ _ _ _ _ _ _ _ _ _ _ _=>rfl)
 obtain ⟨_,F34,b34,k34,q34⟩:=diE X G d34 ["_law_pot_here","_law_shop_here","_law_wide","_law_high"] (bd4 λ _ _ _ _ _ _ _ _ _ _=>rfl)
 obtain ⟨_,F35,b35,k35,q35⟩:=diE X G d35 ["_law_pot_here","_law_shop_here","_law_wide","_law_high","_law_deep_here","_law_room"] (bd6 λ _ _ _ _ _ _ _ _ _ _ _ _=>rfl)
 obtain ⟨_,F36,b36,k36,q36⟩:=diE X G d36 ["_law_shop_here","_law_wide","_law_high","_law_tree_here"] (bd4 λ _ _ _ _ _ _ _ _ _ _=>rfl)
 obtain ⟨_,F37,b37,k37,q37⟩:=diE X G d37 ["_law_pot_here","_law_thing"] (bd2 λ _ _ _ _ _ _ _ _=>rfl)
 obtain ⟨_,F38,b38,k38,q38⟩:=diE X G d38 ["_law_pot_here","_law_shop_here","_law_unit_here","_law_turn"] (bd4 λ _ _ _ _ _ _ _ _ _ _=>rfl)
 obtain ⟨_,F39,b39,k39,q39⟩:=diE X G d39 ["_law_thing","_law_least"] (bd2 λ _ _ _ _ _ _ _ _=>rfl)
 obtain ⟨_,F40,b40,k40,q40⟩:=diE X G d40 ["_law_shop_here","_law_wide","_law_high","_law_tree_here"] (bd4 λ _ _ _ _ _ _ _ _ _ _=>rfl)
 obtain ⟨_,F41,b41,k41,q41⟩:=diE X G d41 ["_law_shop_here","_law_part","_law_tree_here"] (bd3 λ _ _ _ _ _ _ _ _ _=>rfl)
 obtain ⟨_,F42,b42,k42,q42⟩:=diE X G d42 ["_law_leaves"] (bd1 λ _ _ _ _ _ _ _=>rfl)
 obtain ⟨_,F43,b43,k43,q43⟩:=diE X G d43 ["_law_shop_here","_law_x","_law_y","_law_wide","_law_high","_law_told_here"] (bd6 λ _ _ _ _ _ _ _ _ _ _ _ _=>rfl)
 obtain ⟨_,F44,b44,k44,q44⟩:=diE X G d44 ["_law_shop_here","_law_made","_law_wide","_law_high","_law_told_here","_law_found"] (bd6 λ _ _ _ _ _ _ _ _ _ _ _ _=>rfl)
 obtain ⟨_,F45,b45,k45,q45⟩:=diE X G d45 ["_law_pot_here","_law_shop_here","_law_made","_law_wide","_law_high","_law_told_here"] (bd6 λ _ _ _ _ _ _ _ _ _ _ _ _=>rfl)
 obtain ⟨_,F46,b46,k46,q46⟩:=diE X G d46 ["_law_pot_here","_law_shop_here","_law_unit_here"] (bd3 λ _ _ _ _ _ _ _ _ _=>rfl)
 obtain ⟨_,an,_,_,kV,dc,pm,cd,ct,a47,l47,c47,k47⟩:=d47
 have F47:=lj (st:=kx) l47 c47 k47
 obtain ⟨_,Fm0,bm0,km0,am0,im0⟩:=miE dm0 ["self","blade","kinds"] (bd3 λ _ _ _ _ _ _ _ _ _=>rfl)
 obtain ⟨_,Fm1,bm1,km1,am1,im1⟩:=miE dm1 ["self"] (bd1 λ _ _ _ _ _ _ _=>rfl)
 obtain ⟨_,Fm2,bm2,km2,am2,im2⟩:=miE dm2 ["self","kind","turned"] (bd3 λ _ _ _ _ _ _ _ _ _=>rfl)
 obtain ⟨_,Fm3,bm3,km3,am3,im3⟩:=miE dm3 ["self","kind","turned"] (bd3 λ _ _ _ _ _ _ _ _ _=>rfl)
 have e:=hfa.symm.trans (mg_of X G a47)
 cases e
 have y0:=mg_none_of X G z0
 have y1:=mg_none_of X G z1
 have y2:=mg_none_of X G z2
 have y3:=mg_none_of X G z3
 have y4:=mg_none_of X G z4
 have y5:=mg_none_of X G z5
 have y6:=mg_none_of X G z6
 have y7:=mg_none_of X G z7
 have y8:=mg_none_of X G z8
 have y9:=mg_none_of X G z9
 have y10:=mg_none_of X G z10
 have y11:=mg_none_of X G z11
 have y12:=mg_none_of X G z12
 have y13:=mg_none_of X G z13
 have y14:=mg_none_of X G z14
 have y15:=mg_none_of X G z15
 have y16:=mg_none_of X G z16
 have y17:=mg_none_of X G z17
 have y18:=mg_none_of X G z18
 have gWAYS:=mg_of X G eWAYS
 have u0:=mg_of X G uc0
 have u1:=mg_of X G uc1
 have u2:=mg_of X G uc2
 have u3:=mg_of X G uc3
 have u4:=mg_of X G uc4
 have u5:=mg_of X G uc5
 have u6:=mg_of X G uc6
 have u7:=mg_of X G uc7
 have u8:=mg_of X G uc8
 have u9:=mg_of X G uc9
 have qC:=mg_of X G aC
 refine ⟨fnOf "law" "law" (defArgs kx) (defBody kx) (defScope kx) .none kV dc pm an cd ct,λ s v=>.of_eq rfl,λ base _ _=>?_⟩
 have B:Blt mg:=⟨y0,y1,y2,y3,y4,y5,y6,y7,y8,y9,y10,y11,y12,y13,y14,y15,y16,⟨_,u0⟩,⟨_,u1⟩⟩
 have T:ShopTxt K C:=⟨⟨pg,hd,po,sa⟩,n0,n1⟩
 have Z:TrC K mg xWAYS:=⟨⟨_,u2⟩,⟨_,u3⟩,⟨_,u4⟩,⟨_,u5⟩,⟨_,u6⟩,⟨_,u7⟩,gWAYS,λ H=>.inr lWAYS⟩
 have D0:Dn l.prog w K mg base "is_whole" ["thing","least"] 1 (ck K):=⟨_,_,qW F0 B,b0,k0,q0⟩
 have D1:Dn l.prog w K mg base "is_truth" ["thing"] 1 (gp K):=⟨_,_,qX F1 B,b1,k1,q1⟩
 have D2:Dn l.prog w K mg base "is_row" ["thing"] 1 (gS K):=⟨_,_,vL F2 B,b2,k2,q2⟩
 have D3:Dn l.prog w K mg base "is_kind" ["thing"] 2 (eV K):=⟨_,_,nU F3 B D0 D1 D2,b3,k3,q3⟩
 have D4:Dn l.prog w K mg base "can_lie_turned" ["kind"] 1 (gW K):=⟨_,_,nV F4,b4,k4,q4⟩
 have MB:Mn l.prog w K mg base C "blade" ["self"] 1 (dQ C):=⟨_,_,qY Fm1 T,bm1,⟨am1,im1,km1⟩⟩
 have MI:Mn l.prog w K mg base C "is_lying" ["self","kind","turned"] 2 (dR K C):=⟨_,_,lJ Fm2 B T D0 D1 D4,bm2,⟨am2,im2,km2⟩⟩
 have MS:Mn l.prog w K mg base C "sides" ["self","kind","turned"] 3 (spSides K C):=⟨_,_,re Fm3 T MI,bm3,⟨am3,im3,km3⟩⟩
 have DS:Kn l.prog w K mg base "Shop" C ["self","blade","kinds"] 3 (lx C):=⟨_,_,⟨mk,am0,im0,kc⟩,uj Fm0 B T D0 D2 D3,bm0,qC⟩
 have D5:Dn l.prog w K mg base "check_plate" ["wide","high"] 2 (spCP):=⟨_,_,og F5 D0,b5,k5,q5⟩
 have D6:Dn l.prog w K mg base "lies_in" ["shop","wide","high","kind","turned","x","y"] 4 (spLiesG K C):=⟨_,_,rj F6 T D0 MI MS,b6,k6,q6⟩
 have D7:Dn l.prog w K mg base "cut_parts" ["blade","part","way","p"] 1 (spParts2):=⟨_,_,nY F7 Z,b7,k7,q7⟩
 have D8:Dn l.prog w K mg base "begins_with" ["thing","word","many"] 2 (spBegins):=⟨_,_,nX F8 B y17 D2,b8,k8,q8⟩
 have D9:Dn l.prog w K mg base "is_cut" ["blade","spot"] 3 (spCut):=⟨_,_,vN F9 Z D8 D0,b9,k9,q9⟩
 have D10:Dn l.prog w K mg base "is_leaf" ["shop","spot"] 5 (spLeaf C):=⟨_,_,uo F10 Z D8 D6,b10,k10,q10⟩
 have D11:Dn l.prog w K mg base "spots_behind" ["blade","spot"] 2 (spBehind):=⟨_,_,nZ F11 Z D7,b11,k11,q11⟩
 have D12:Dn l.prog w K mg base "is_tree" ["shop","wide","high","thing"] 6 (spIsTree C):=⟨_,_,oh F12 T MB D5 D9 D10 D11,b12,k12,q12⟩
 have D13:Dn l.prog w K mg base "check_tree" ["shop","wide","high","thing"] 7 (spCheckT C):=⟨_,_,ou F13 D12,b13,k13,q13⟩
 have D14:Dn l.prog w K mg base "side_along" ["part","way"] 1 (spSideA):=⟨_,_,rG F14 Z,b14,k14,q14⟩
 have D15:Dn l.prog w K mg base "telling_of_part" ["blade","part","tree"] 53 (spTell 50):=⟨_,_,kB F15 B Z D7 D14 (λ n h=>⟨_,_,h,b15,k15,q15⟩) 50 (by decide),b15,k15,q15⟩
 have D16:Dn l.prog w K mg base "telling_of" ["shop","wide","high","tree"] 54 (spTellO C):=⟨_,_,rJ F16 T MB D13 D15,b16,k16,q16⟩
 have D17:Dn l.prog w K mg base "part_along" ["part","way","size"] 1 (gE):=⟨_,_,rZ F17 Z,b17,k17,q17⟩
 have D18:Dn l.prog w K mg base "way_of" ["thing"] 3 (fi):=⟨_,_,si F18 Z ⟨_,u8⟩ D8,b18,k18,q18⟩
 have D19:Dn l.prog w K mg base "is_sized" ["way","thing"] 4 (jF):=⟨_,_,sj F19 B D2 D0 D18,b19,k19,q19⟩
 have D20:Dn l.prog w K mg base "is_divided" ["blade","side","way","row"] 5 (jG):=⟨_,_,uA F20 B ⟨_,u9⟩ D2 D19,b20,k20,q20⟩
 have D21:Dn l.prog w K mg base "as_telling" ["shop","part","thing"] 157 (spAsT C 151):=⟨_,_,nh F21 B T MB D10 D18 D14 D17 D20 (λ n h=>⟨_,_,h,b21,k21,q21⟩) 151,b21,k21,q21⟩
 have D22:Dn l.prog w K mg base "tree_by_telling" ["telling"] 152 (spTbt 151):=⟨_,_,ni F22 B Z y18 (λ n h=>⟨_,_,h,b22,k22,q22⟩) 151,b22,k22,q22⟩
 have D23:Dn l.prog w K mg base "tree_told" ["shop","wide","high","telling"] 160 (spTreeTo C):=⟨_,_,oC F23 B D5 D21 D22,b23,k23,q23⟩
 have D24:Dn l.prog w K mg base "_law_cell" ["_law_script","_law_k"] 1 (lD K):=⟨_,_,uq F24 B,b24,k24,q24⟩
 have D25:Dn l.prog w K mg base "_law_pot" ["_law_cell_here","_law_k"] 1 (spPotC):=⟨_,_,ur F25 B,b25,k25,q25⟩
 have D26:Dn l.prog w K mg base "_law_take" ["_law_pot_here","_law_many"] 1 (spTake):=⟨_,_,ut F26 B,b26,k26,q26⟩
 have D27:Dn l.prog w K mg base "_law_unit" ["_law_pot_here"] 2 (spUnit):=⟨_,_,uw F27 B D26,b27,k27,q27⟩
 have D28:Dn l.prog w K mg base "_law_side" ["_law_pot_here","_law_unit_here","_law_most"] 2 (spSideC):=⟨_,_,oj F28 B D26,b28,k28,q28⟩
 have D29:Dn l.prog w K mg base "_law_worth" ["_law_pot_here"] 2 (spWorthC):=⟨_,_,om F29 B D26,b29,k29,q29⟩
 have D30:Dn l.prog w K mg base "_law_shop" ["_law_pot_here","_law_unit_here"] 3 (spShopC):=⟨_,_,rB F30 B D26 D28 D29,b30,k30,q30⟩
 have D31:Dn l.prog w K mg base "_law_sides" ["_law_shop_here","_law_kind","_law_turned"] 1 (spSidesC):=⟨_,_,oq F31 B,b31,k31,q31⟩
 have D32:Dn l.prog w K mg base "_law_lyings" ["_law_shop_here"] 1 (spLyingsC):=⟨_,_,lL F32 B,b32,k32,q32⟩
 have D33:Dn l.prog w K mg base "_law_behind" ["_law_shop_here","_law_wide","_law_high","_law_way","_law_p"] 1 (spBeh):=⟨_,_,vP F33 B,b33,k33,q33⟩
 have D34:Dn l.prog w K mg base "_law_leaf" ["_law_pot_here","_law_shop_here","_law_wide","_law_high"] 2 (spLeafC):=⟨_,_,rC F34 B D26 D31 D32,b34,k34,q34⟩
 have D35:Dn l.prog w K mg base "_law_tree" ["_law_pot_here","_law_shop_here","_law_wide","_law_high","_law_deep_here","_law_room"] 14 (spTreeC 11):=⟨_,_,iM F35 B D26 D33 D34 (λ n h=>⟨_,_,h,b35,k35,q35⟩) 11,b35,k35,q35⟩
 have D36:Dn l.prog w K mg base "_law_told" ["_law_shop_here","_law_wide","_law_high","_law_tree_here"] 53 (spToldL 50):=⟨_,_,kC F36 B D33 (λ n h=>⟨_,_,h,b36,k36,q36⟩) 50 (by decide),b36,k36,q36⟩
 have D37:Dn l.prog w K mg base "_law_lists" ["_law_pot_here","_law_thing"] 154 (spLists 152):=⟨_,_,iO F37 B D26 (λ n h=>⟨_,_,h,b37,k37,q37⟩) 152,b37,k37,q37⟩
 have D38:Dn l.prog w K mg base "_law_deep" ["_law_pot_here","_law_shop_here","_law_unit_here","_law_turn"] 3 (spDeep):=⟨_,_,uz F38 B D26 D28 D34,b38,k38,q38⟩
 have D39:Dn l.prog w K mg base "_law_plain" ["_law_thing","_law_least"] 1 (spPlain):=⟨_,_,sy F39 B,b39,k39,q39⟩
 have D40:Dn l.prog w K mg base "_law_is_leaf" ["_law_shop_here","_law_wide","_law_high","_law_tree_here"] 2 (spIsLf):=⟨_,_,uD F40 B D39 D31 D32,b40,k40,q40⟩
 have D41:Dn l.prog w K mg base "_law_walk" ["_law_shop_here","_law_part","_law_tree_here"] 53 (spWalk 50):=⟨_,_,kG F41 B y17 D39 D40 D33 (λ n h=>⟨_,_,h,b41,k41,q41⟩) 50,b41,k41,q41⟩
 have D42:Dn l.prog w K mg base "_law_pieces" ["_law_leaves"] 1 (spPcs K):=⟨_,_,vV F42 B,b42,k42,q42⟩
 have D43:Dn l.prog w K mg base "_law_laid" ["_law_shop_here","_law_x","_law_y","_law_wide","_law_high","_law_told_here"] 153 (spLaid 151):=⟨_,_,kH F43 B (λ n h=>⟨_,_,h,b43,k43,q43⟩) 151,b43,k43,q43⟩
 have D44:Dn l.prog w K mg base "_law_right" ["_law_shop_here","_law_made","_law_wide","_law_high","_law_told_here","_law_found"] 154 (spRight C):=⟨_,_,sE F44 B D41 D42 D43 D36 D16,b44,k44,q44⟩
 have D45:Dn l.prog w K mg base "_law_asked" ["_law_pot_here","_law_shop_here","_law_made","_law_wide","_law_high","_law_told_here"] 161 (spAsked C):=⟨_,_,sH F45 B D37 D23 D44,b45,k45,q45⟩
 have D46:Dn l.prog w K mg base "_law_long" ["_law_pot_here","_law_shop_here","_law_unit_here"] 3 (spLong):=⟨_,_,uG F46 B D26 D28 D34,b46,k46,q46⟩
 exact vY F47 B D24 D25 D26 D27 D30 D28 D35 D36 D38 D45 D46 DS
theorem walk {l:PySem.W.OpenLaw} {q:Program} {loose:List Str} {XP:(Str->Option Value)->Heap->Prop} {YP:World->Heap->Prop} {d:DefRec} {K:Params->PySem.W.Frag} (hn:l.most=some 63) (hdf:d.params.defaults=[])
  (hY:∀ (w:World) (h:Heap),YP w h->(K w.params).In h)
  (F:∀ (w:World) (mg:Str->Option Value) (fa:Addr) (h:Heap),(K w.params).In h->h.Ns mainGlobals mg->mg d.name=some (.ref fa) ->
   ∃fd:FuncData,(∀ (s:Shared) (u:Value),BindsTo s fd ⟨[u],[]⟩ [("_law_script",u)])/\∀base:Heap,(K w.params).In base->base.Ns mainGlobals mg->FnOk l.prog w (K w.params) mg base CX0 162 fa fd ["_law_script"] (spLaw (K w.params))) :
  PySem.W.WalkO q loose XP YP l.row.toRowW d [] (λ f vs=>PySem.call f vs) :=
 L2.walk_of (n:=63) (k:=162) (x := "_law_script") (CX:=λ _=>CX0) (sp:=λ w=>spLaw (K w.params)) hn (by decide) hdf ⟨rfl,by decide,by decide,rfl⟩ hY F (λ _ _ a ns hl _ hS=>⟨a,ns,Y,hS,hl,λ _=>rfl⟩) λ _ _ _ _ _ z=>z
end Pc
namespace Pc
open PySem L2
section
open PySem.W
noncomputable def kE (P:Params) (n:Str) (t:Nat) (v:Value):DictEntry:=⟨PyData.keyHash P n,.str n t,v⟩
noncomputable def kO3 (P:Params):Obj:=⟨(.type "dict"),none,(.dict #[kE P "__name__" 165 (.str "law_platecuts_k82_whole_trees_of_tellings" 676),kE P "__doc__" 166 .none,kE P "__package__" 167 .none,kE P "__loader__" 168 (.builtin "__main__.__loader__#opaque"),kE P "__spec__" 169 .none,kE P "__annotations__" 170 (.ref 6),kE P "__builtins__" 171 (.ref 4),kE P "__file__" 173 (.str "/claim/cut.py" 172),kE P "__cached__" 174 .none,kE P "_wall" 193 (.ref 21),kE P "PlateError" 213 (.ref 31),kE P "NoBlade" 229 (.ref 44),kE P "NoKinds" 245 (.ref 56),kE P "NoKind" 261 (.ref 68),kE P "NoLying" 277 (.ref 80),kE P "NoPlate" 293 (.ref 92),kE P "NoTree" 309 (.ref 104),kE P "NoTelling" 325 (.ref 116),kE P "is_whole" 335 (.ref 125),kE P "is_truth" 342 (.ref 132),kE P "is_row" 349 (.ref 139),kE P "check_plate" 357 (.ref 146),kE P "DOWN" 361 (.str "down" 360),kE P "ACROSS" 363 (.str "across" 362),kE P "WAYS" 364 (.ref 147),kE P "lies_in" 379 (.ref 154),kE P "cut_parts" 391 (.ref 161),kE P "REST" 395 (.str "rest" 394),kE P "PIECE" 397 (.str "piece" 396),kE P "THINGS_OF_A_REST" 399 (.int 1 398),kE P "THINGS_OF_A_PIECE" 401 (.int 5 400),kE P "THINGS_OF_A_CUT" 403 (.int 4 402),kE P "begins_with" 412 (.ref 168),kE P "is_cut" 423 (.ref 175),kE P "is_leaf" 436 (.ref 182),kE P "spots_behind" 460 (.ref 189),kE P "is_tree" 473 (.ref 196),kE P "check_tree" 483 (.ref 203),kE P "THINGS_OF_A_CUT_TELLING" 487 (.int 2 486),kE P "LEAST_IN_A_ROW" 489 (.int 2 488),kE P "side_along" 497 (.ref 210),kE P "part_along" 506 (.ref 217),kE P "telling_of_part" 522 (.ref 224),kE P "telling_of" 532 (.ref 231),kE P "way_of" 540 (.ref 238),kE P "is_sized" 548 (.ref 245),kE P "is_divided" 554 (.ref 250),kE P "as_telling" 560 (.ref 255),kE P "tree_by_telling" 566 (.ref 260),kE P "tree_told" 576 (.ref 267),kE P "MOST_KINDS" 580 (.int 8 579),kE P "THINGS_OF_A_KIND" 582 (.int 5 581),kE P "is_kind" 594 (.ref 274),kE P "can_lie_turned" 601 (.ref 281),kE P "Shop" 675 (.ref 336),kE P "_law_cell" 685 (.ref 347),kE P "_law_pot" 693 (.ref 354),kE P "_law_take" 702 (.ref 361),kE P "_law_unit" 710 (.ref 368),kE P "_law_side" 719 (.ref 375),kE P "_law_worth" 727 (.ref 382),kE P "_law_shop" 740 (.ref 389),kE P "_law_sides" 751 (.ref 396),kE P "_law_lyings" 761 (.ref 403),kE P "_law_behind" 772 (.ref 410),kE P "_law_leaf" 786 (.ref 417),kE P "_law_tree" 804 (.ref 424),kE P "_law_plain" 812 (.ref 431),kE P "_law_is_leaf" 823 (.ref 438),kE P "_law_walk" 846 (.ref 445),kE P "_law_pieces" 859 (.ref 452),kE P "_law_told" 878 (.ref 459),kE P "_law_lists" 884 (.ref 464),kE P "_law_laid" 899 (.ref 471),kE P "_law_right" 913 (.ref 478),kE P "_law_asked" 929 (.ref 485),kE P "_law_long" 935 (.ref 490),kE P "_law_deep" 954 (.ref 497),kE P "law" 970 (.ref 504)] 79),#[]⟩
noncomputable def gk0 (x0:Str)(x1:Nat)(x2:Str)(x3 x4 x5 x6 x7 x8 x9 x10 x11 x12 x13:Nat)(P:Params):Obj:=⟨(.type "code"),none,(.fields #[.str x0 x1,.str x2 x3,.str "/claim/cut.py" x4,.int x5 0,.int x6 0,.int 0 0,.int 0 0,.int 3 0,.ref x7,.bool true,.int 181 0,.ref x8,.none,.ref x9,.ref x10,.ref x11,.int x12 0,.int x5 0,.str "/claim/cut.py" x13]),#[]⟩
noncomputable def Gr:=gk0 "_wall" 187 "_wall" 188 189 1 1 15 16 17 18 19 191 192
noncomputable def gk1 (x0 x1:Str)(x2:Stmt)(x3:Str)(x4 x5:Nat)(P:Params):Obj:=⟨(.type "function"),none,(.func (fnOf x0 x1 (defArgs x2) (defBody x2) (defScope x2) .none .none .none (.str x3 x4) none (.ref x5) .none)),#[]⟩
noncomputable def Gs:=gk1 "_wall" "_wall" ym "__main__" 164 20
noncomputable def Gu (P:Params):Obj:=⟨(.type "dict"),none,(.dict #[kE P "__module__" 203 (.str "platecuts.errors" 194),kE P "__firstlineno__" 207 (.int 5 206),kE P "__static_attributes__" 208 (.ref 29),kE P "__weakref__" 210 (.ref 32),kE P "__doc__" 211 .none] 3),#[]⟩
noncomputable def Gv (P:Params):Obj:=⟨(.type "type"),none,(.cls ⟨"PlateError",[.type "ValueError"],[.ref 31,.type "ValueError",.type "Exception",.type "BaseException",.type "object"],30,"PlateError",true,[],[.ref 44,.ref 56,.ref 68,.ref 80,.ref 92,.ref 104,.ref 116],false,none,false⟩),#[some (.ref 22),none,some (.str "PlateError" 196),some (.str "PlateError" 204),some (.builtin "ValueError.__new__"),some (.bool true)]⟩
noncomputable def gk2 (x0 x1 x2 x3 x4 x5 x6:Nat)(P:Params):Obj:=⟨(.type "dict"),none,(.dict #[kE P "__module__" x0 (.str "platecuts.errors" 194),kE P "__firstlineno__" x1 (.int x2 x3),kE P "__static_attributes__" x4 (.ref x5),kE P "__doc__" x6 .none] 2),#[]⟩
noncomputable def Gw:=gk2 221 225 7 224 226 42 227
noncomputable def gk3 (x0:Str)(x1 x2 x3 x4 x5:Nat)(P:Params):Obj:=⟨(.type "type"),none,(.cls ⟨x0,[.ref 31],[.ref x1,.ref 31,.type "ValueError",.type "Exception",.type "BaseException",.type "object"],x2,x0,true,[],[],false,none,false⟩),#[some (.ref x3),none,some (.str x0 x4),some (.str x0 x5),some (.builtin "ValueError.__new__"),some (.bool true)]⟩
noncomputable def Gx:=gk3 "NoBlade" 44 43 35 214 222
noncomputable def Gy:=gk2 237 241 9 240 242 54 243
noncomputable def Gz:=gk3 "NoKinds" 56 55 47 230 238
noncomputable def GA:=gk2 253 257 11 256 258 66 259
noncomputable def GB:=gk3 "NoKind" 68 67 59 246 254
noncomputable def GC:=gk2 269 273 13 272 274 78 275
noncomputable def GD:=gk3 "NoLying" 80 79 71 262 270
noncomputable def GE:=gk2 285 289 15 288 290 90 291
noncomputable def GF:=gk3 "NoPlate" 92 91 83 278 286
noncomputable def yt:=gk2 301 305 17 304 306 102 307
noncomputable def yu:=gk3 "NoTree" 104 103 95 294 302
noncomputable def yw:=gk2 317 321 19 320 322 114 323
noncomputable def yx:=gk3 "NoTelling" 116 115 107 310 318
noncomputable def yy:=gk0 "is_whole" 328 "is_whole" 329 330 22 2 119 120 121 122 123 333 334
noncomputable def yz:=gk1 "is_whole" "is_whole" jo "platecuts.checks" 326 124
noncomputable def yA:=gk0 "is_truth" 336 "is_truth" 337 338 24 1 126 127 128 129 130 340 341
noncomputable def yB:=gk1 "is_truth" "is_truth" jp "platecuts.checks" 326 131
noncomputable def yC:=gk0 "is_row" 343 "is_row" 344 345 26 1 133 134 135 136 137 347 348
noncomputable def yD:=gk1 "is_row" "is_row" tY "platecuts.checks" 326 138
noncomputable def yE:=gk0 "check_plate" 350 "check_plate" 351 352 28 2 140 141 142 143 144 355 356
noncomputable def yF:=gk1 "check_plate" "check_plate" cI "platecuts.checks" 326 145
noncomputable def yG (P:Params):Obj:=⟨(.type "tuple"),none,(.seq #[.str "down" 360,.str "across" 362] 0),#[]⟩
noncomputable def yH:=gk0 "lies_in" 365 "lies_in" 366 367 35 7 148 149 150 151 152 377 378
noncomputable def yI:=gk1 "lies_in" "lies_in" gw "platecuts.parts" 358 153
noncomputable def yJ:=gk0 "cut_parts" 380 "cut_parts" 381 382 40 4 155 156 157 158 159 389 390
noncomputable def yK:=gk1 "cut_parts" "cut_parts" dU "platecuts.parts" 358 160
noncomputable def yL:=gk0 "begins_with" 404 "begins_with" 405 406 51 3 162 163 164 165 166 410 411
noncomputable def yM:=gk1 "begins_with" "begins_with" cJ "platecuts.trees" 392 167
noncomputable def yN:=gk0 "is_cut" 413 "is_cut" 414 415 55 2 169 170 171 172 173 421 422
noncomputable def yO:=gk1 "is_cut" "is_cut" jq "platecuts.trees" 392 174
noncomputable def yP:=gk0 "is_leaf" 424 "is_leaf" 425 426 62 2 176 177 178 179 180 434 435
noncomputable def yQ:=gk1 "is_leaf" "is_leaf" gx "platecuts.trees" 392 181
noncomputable def yR:=gk0 "spots_behind" 437 "spots_behind" 438 439 67 2 183 184 185 186 187 458 459
noncomputable def yS:=gk1 "spots_behind" "spots_behind" cn "platecuts.trees" 392 188
noncomputable def yT:=gk0 "is_tree" 461 "is_tree" 462 463 74 4 190 191 192 193 194 471 472
noncomputable def yU:=gk1 "is_tree" "is_tree" gy "platecuts.trees" 392 195
noncomputable def yV:=gk0 "check_tree" 474 "check_tree" 475 476 85 4 197 198 199 200 201 481 482
noncomputable def yW:=gk1 "check_tree" "check_tree" cX "platecuts.trees" 392 202
noncomputable def yX:=gk0 "side_along" 490 "side_along" 491 492 91 2 204 205 206 207 208 495 496
noncomputable def yY:=gk1 "side_along" "side_along" cY "platecuts.tellings" 484 209
noncomputable def yZ:=gk0 "part_along" 498 "part_along" 499 500 93 3 211 212 213 214 215 504 505
noncomputable def za:=gk1 "part_along" "part_along" cZ "platecuts.tellings" 484 216
noncomputable def zb:=gk0 "telling_of_part" 507 "telling_of_part" 508 509 95 3 218 219 220 221 222 520 521
noncomputable def zc:=gk1 "telling_of_part" "telling_of_part" bv "platecuts.tellings" 484 223
noncomputable def zd:=gk0 "telling_of" 523 "telling_of" 524 525 109 4 225 226 227 228 229 530 531
noncomputable def ze:=gk1 "telling_of" "telling_of" de "platecuts.tellings" 484 230
noncomputable def zf:=gk0 "way_of" 533 "way_of" 534 535 112 1 232 233 234 235 236 538 539
noncomputable def zg:=gk1 "way_of" "way_of" jr "platecuts.tellings" 484 237
noncomputable def zh:=gk0 "is_sized" 541 "is_sized" 542 543 117 2 239 240 241 242 243 546 547
noncomputable def zi:=gk1 "is_sized" "is_sized" eZ "platecuts.tellings" 484 244
noncomputable def gk4 (x0:Str)(x1:Nat)(x2:Str)(x3 x4 x5 x6 x7 x8 x9 x10 x11:Nat)(P:Params):Obj:=⟨(.type "code"),none,(.fields #[.str x0 x1,.str x2 x3,.str "/claim/cut.py" x4,.int x5 0,.int x6 0,.int 0 0,.int 0 0,.int 3 0,.ref x7,.bool true,.int 181 0,.ref x8,.none,.none,.none,.ref x9,.int x10 0,.int x5 0,.str "/claim/cut.py" x11]),#[]⟩
noncomputable def zj:=gk4 "is_divided" 549 "is_divided" 550 551 119 4 246 247 248 552 553
noncomputable def zk:=gk1 "is_divided" "is_divided" bV "platecuts.tellings" 484 249
noncomputable def zm:=gk4 "as_telling" 555 "as_telling" 556 557 123 3 251 252 253 558 559
noncomputable def zn:=gk1 "as_telling" "as_telling" bK "platecuts.tellings" 484 254
noncomputable def zo:=gk4 "tree_by_telling" 561 "tree_by_telling" 562 563 135 1 256 257 258 564 565
noncomputable def zp:=gk1 "tree_by_telling" "tree_by_telling" bi "platecuts.tellings" 484 259
noncomputable def zq:=gk0 "tree_told" 567 "tree_told" 568 569 144 4 261 262 263 264 265 574 575
noncomputable def zr:=gk1 "tree_told" "tree_told" dW "platecuts.tellings" 484 266
noncomputable def zt:=gk0 "is_kind" 583 "is_kind" 584 585 150 1 268 269 270 271 272 592 593
noncomputable def zu:=gk1 "is_kind" "is_kind" gz "platecuts.shops" 577 273
noncomputable def zv:=gk0 "can_lie_turned" 595 "can_lie_turned" 596 597 157 1 275 276 277 278 279 599 600
noncomputable def zw:=gk1 "can_lie_turned" "can_lie_turned" gA "platecuts.shops" 577 280
noncomputable def zx:=gk4 "__init__" 614 "Shop.__init__" 615 616 161 3 289 290 291 617 618
noncomputable def zy:=gk1 "__init__" "Shop.__init__" cT "platecuts.shops" 577 292
noncomputable def zA:=gk0 "blade" 620 "Shop.blade" 621 622 172 1 294 295 296 297 298 624 625
noncomputable def zB:=gk1 "blade" "Shop.blade" df "platecuts.shops" 577 299
noncomputable def zC:=gk0 "kinds" 627 "Shop.kinds" 628 629 175 1 301 302 303 304 305 631 632
noncomputable def zD:=gk1 "kinds" "Shop.kinds" lI "platecuts.shops" 577 306
noncomputable def zE:=gk4 "wanted" 634 "Shop.wanted" 635 636 178 1 308 309 310 637 638
noncomputable def zF:=gk1 "wanted" "Shop.wanted" km "platecuts.shops" 577 311
noncomputable def zG:=gk0 "lyings" 640 "Shop.lyings" 641 642 181 1 313 314 315 316 317 644 645
noncomputable def zH:=gk1 "lyings" "Shop.lyings" ko "platecuts.shops" 577 318
noncomputable def zI:=gk0 "is_lying" 647 "Shop.is_lying" 648 649 184 3 320 321 322 323 324 653 654
noncomputable def zJ:=gk1 "is_lying" "Shop.is_lying" cq "platecuts.shops" 577 325
noncomputable def zK:=gk0 "sides" 656 "Shop.sides" 657 658 189 3 327 328 329 330 331 663 664
noncomputable def zL:=gk1 "sides" "Shop.sides" dg "platecuts.shops" 577 332
noncomputable def zM (P:Params):Obj:=⟨(.type "dict"),none,(.dict #[kE P "__module__" 609 (.str "platecuts.shops" 577),kE P "__firstlineno__" 613 (.int 159 612),kE P "__init__" 619 (.ref 293),kE P "blade" 626 (.ref 300),kE P "kinds" 633 (.ref 307),kE P "wanted" 639 (.ref 312),kE P "lyings" 646 (.ref 319),kE P "is_lying" 655 (.ref 326),kE P "sides" 665 (.ref 333),kE P "__static_attributes__" 668 (.ref 334),kE P "__dict__" 670 (.ref 337),kE P "__weakref__" 672 (.ref 338),kE P "__doc__" 673 .none] 4),#[]⟩
noncomputable def zN (P:Params):Obj:=⟨(.type "type"),none,(.cls ⟨"Shop",[.type "object"],[.ref 336,.type "object"],335,"Shop",true,[],[],false,none,false⟩),#[none,none,some (.str "Shop" 602),some (.str "Shop" 610),some (.builtin "object.__new__"),some (.bool true)]⟩
noncomputable def zO:=gk0 "_law_cell" 678 "_law_cell" 679 680 197 2 341 342 343 344 345 683 684
noncomputable def zP:=gk1 "_law_cell" "_law_cell" mL "law_platecuts_k82_whole_trees_of_tellings" 676 346
noncomputable def zQ:=gk0 "_law_pot" 686 "_law_pot" 687 688 201 2 348 349 350 351 352 691 692
noncomputable def zR:=gk1 "_law_pot" "_law_pot" tZ "law_platecuts_k82_whole_trees_of_tellings" 676 353
noncomputable def zS:=gk0 "_law_take" 694 "_law_take" 695 696 203 2 355 356 357 358 359 700 701
noncomputable def zT:=gk1 "_law_take" "_law_take" mM "law_platecuts_k82_whole_trees_of_tellings" 676 360
noncomputable def zU:=gk0 "_law_unit" 703 "_law_unit" 704 705 210 1 362 363 364 365 366 708 709
noncomputable def zV:=gk1 "_law_unit" "_law_unit" mN "law_platecuts_k82_whole_trees_of_tellings" 676 367
noncomputable def zW:=gk0 "_law_side" 711 "_law_side" 712 713 213 3 369 370 371 372 373 717 718
noncomputable def zX:=gk1 "_law_side" "_law_side" mO "law_platecuts_k82_whole_trees_of_tellings" 676 374
noncomputable def zY:=gk0 "_law_worth" 720 "_law_worth" 721 722 217 1 376 377 378 379 380 725 726
noncomputable def zZ:=gk1 "_law_worth" "_law_worth" js "law_platecuts_k82_whole_trees_of_tellings" 676 381
noncomputable def Aa:=gk0 "_law_shop" 728 "_law_shop" 729 730 220 2 383 384 385 386 387 738 739
noncomputable def Ab:=gk1 "_law_shop" "_law_shop" mP "law_platecuts_k82_whole_trees_of_tellings" 676 388
noncomputable def Ac:=gk0 "_law_sides" 741 "_law_sides" 742 743 228 3 390 391 392 393 394 749 750
noncomputable def Ad:=gk1 "_law_sides" "_law_sides" jt "law_platecuts_k82_whole_trees_of_tellings" 676 395
noncomputable def Ae:=gk0 "_law_lyings" 752 "_law_lyings" 753 754 231 1 397 398 399 400 401 759 760
noncomputable def Af:=gk1 "_law_lyings" "_law_lyings" gB "law_platecuts_k82_whole_trees_of_tellings" 676 402
noncomputable def Ag:=gk0 "_law_behind" 762 "_law_behind" 763 764 238 5 404 405 406 407 408 770 771
noncomputable def Ah:=gk1 "_law_behind" "_law_behind" gC "law_platecuts_k82_whole_trees_of_tellings" 676 409
noncomputable def Ai:=gk0 "_law_leaf" 773 "_law_leaf" 774 775 242 4 411 412 413 414 415 784 785
noncomputable def Aj:=gk1 "_law_leaf" "_law_leaf" mQ "law_platecuts_k82_whole_trees_of_tellings" 676 416
noncomputable def Ak:=gk0 "_law_tree" 787 "_law_tree" 788 789 253 6 418 419 420 421 422 802 803
noncomputable def Al:=gk1 "_law_tree" "_law_tree" iF "law_platecuts_k82_whole_trees_of_tellings" 676 423
noncomputable def Am:=gk0 "_law_plain" 805 "_law_plain" 806 807 264 2 425 426 427 428 429 810 811
noncomputable def An:=gk1 "_law_plain" "_law_plain" ju "law_platecuts_k82_whole_trees_of_tellings" 676 430
noncomputable def Ao:=gk0 "_law_is_leaf" 813 "_law_is_leaf" 814 815 266 4 432 433 434 435 436 821 822
noncomputable def Ap:=gk1 "_law_is_leaf" "_law_is_leaf" fb "law_platecuts_k82_whole_trees_of_tellings" 676 437
noncomputable def Aq:=gk0 "_law_walk" 824 "_law_walk" 825 826 273 3 439 440 441 442 443 844 845
noncomputable def Ar:=gk1 "_law_walk" "_law_walk" iG "law_platecuts_k82_whole_trees_of_tellings" 676 444
noncomputable def As:=gk0 "_law_pieces" 847 "_law_pieces" 848 849 294 1 446 447 448 449 450 857 858
noncomputable def At:=gk1 "_law_pieces" "_law_pieces" gD "law_platecuts_k82_whole_trees_of_tellings" 676 451
noncomputable def Au:=gk0 "_law_told" 860 "_law_told" 861 862 300 4 453 454 455 456 457 876 877
noncomputable def Av:=gk1 "_law_told" "_law_told" iH "law_platecuts_k82_whole_trees_of_tellings" 676 458
noncomputable def Aw:=gk4 "_law_lists" 879 "_law_lists" 880 881 315 2 460 461 462 882 883
noncomputable def Ax:=gk1 "_law_lists" "_law_lists" eJ "law_platecuts_k82_whole_trees_of_tellings" 676 463
noncomputable def Ay:=gk0 "_law_laid" 885 "_law_laid" 886 887 319 6 465 466 467 468 469 897 898
noncomputable def Az:=gk1 "_law_laid" "_law_laid" iI "law_platecuts_k82_whole_trees_of_tellings" 676 470
noncomputable def AA:=gk0 "_law_right" 900 "_law_right" 901 902 333 6 472 473 474 475 476 911 912
noncomputable def AB:=gk1 "_law_right" "_law_right" jv "law_platecuts_k82_whole_trees_of_tellings" 676 477
noncomputable def AC:=gk0 "_law_asked" 914 "_law_asked" 915 916 341 6 479 480 481 482 483 927 928
noncomputable def AD:=gk1 "_law_asked" "_law_asked" jw "law_platecuts_k82_whole_trees_of_tellings" 676 484
noncomputable def AE:=gk4 "_law_long" 930 "_law_long" 931 932 355 3 486 487 488 933 934
noncomputable def AF:=gk1 "_law_long" "_law_long" kq "law_platecuts_k82_whole_trees_of_tellings" 676 489
noncomputable def AG:=gk0 "_law_deep" 936 "_law_deep" 937 938 363 4 491 492 493 494 495 952 953
noncomputable def AH:=gk1 "_law_deep" "_law_deep" mR "law_platecuts_k82_whole_trees_of_tellings" 676 496
noncomputable def AI:=gk0 "law" 955 "law" 956 957 377 1 498 499 500 501 502 968 969
noncomputable def AJ:=gk1 "law" "law" kx "law_platecuts_k82_whole_trees_of_tellings" 676 503
noncomputable def kK:Params->Frag:=λ P=>(nat_lit 3,kO3 P) :: (nat_lit 20,Gr P) :: (nat_lit 21,Gs P) :: (nat_lit 30,Gu P) :: (nat_lit 31,Gv P) :: (nat_lit 43,Gw P) :: (nat_lit 44,Gx P) :: (nat_lit 55,Gy P) :: (nat_lit 56,Gz P) :: (nat_lit 67,GA P) :: (nat_lit 68,GB P) :: (nat_lit 79,GC P) :: (nat_lit 80,GD P) :: (nat_lit 91,GE P) :: (nat_lit 92,GF P) :: (nat_lit 103,yt P) :: (nat_lit 104,yu P) :: (nat_lit 115,yw P) :: (nat_lit 116,yx P) :: (nat_lit 124,yy P) :: (nat_lit 125,yz P) :: (nat_lit 131,yA P) :: (nat_lit 132,yB P) :: (nat_lit 138,yC P) :: (nat_lit 139,yD P) :: (nat_lit 145,yE P) :: (nat_lit 146,yF P) :: (nat_lit 147,yG P) :: (nat_lit 153,yH P) :: (nat_lit 154,yI P) :: (nat_lit 160,yJ P) :: (nat_lit 161,yK P) :: (nat_lit 167,yL P) :: (nat_lit 168,yM P) :: (nat_lit 174,yN P) :: (nat_lit 175,yO P) :: (nat_lit 181,yP P) :: (nat_lit 182,yQ P) :: (nat_lit 188,yR P) :: (nat_lit 189,yS P) :: (nat_lit 195,yT P) :: (nat_lit 196,yU P) :: (nat_lit 202,yV P) :: (nat_lit 203,yW P) :: (nat_lit 209,yX P) :: (nat_lit 210,yY P) :: (nat_lit 216,yZ P) :: (nat_lit 217,za P) :: (nat_lit 223,zb P) :: (nat_lit 224,zc P) :: (nat_lit 230,zd P) :: (nat_lit 231,ze P) :: (nat_lit 237,zf P) :: (nat_lit 238,zg P) :: (nat_lit 244,zh P) :: (nat_lit 245,zi P) :: (nat_lit 249,zj P) :: (nat_lit 250,zk P) :: (nat_lit 254,zm P) :: (nat_lit 255,zn P) :: (nat_lit 259,zo P) :: (nat_lit 260,zp P) :: (nat_lit 266,zq P) :: (nat_lit 267,zr P) :: (nat_lit 273,zt P) :: (nat_lit 274,zu P) :: (nat_lit 280,zv P) :: (nat_lit 281,zw P) :: (nat_lit 292,zx P) :: (nat_lit 293,zy P) :: (nat_lit 299,zA P) :: (nat_lit 300,zB P) :: (nat_lit 306,zC P) :: (nat_lit 307,zD P) :: (nat_lit 311,zE P) :: (nat_lit 312,zF P) :: (nat_lit 318,zG P) :: (nat_lit 319,zH P) :: (nat_lit 325,zI P) :: (nat_lit 326,zJ P) :: (nat_lit 332,zK P) :: (nat_lit 333,zL P) :: (nat_lit 335,zM P) :: (nat_lit 336,zN P) :: (nat_lit 346,zO P) :: (nat_lit 347,zP P) :: (nat_lit 353,zQ P) :: (nat_lit 354,zR P) :: (nat_lit 360,zS P) :: (nat_lit 361,zT P) :: (nat_lit 367,zU P) :: (nat_lit 368,zV P) :: (nat_lit 374,zW P) :: (nat_lit 375,zX P) :: (nat_lit 381,zY P) :: (nat_lit 382,zZ P) :: (nat_lit 388,Aa P) :: (nat_lit 389,Ab P) :: (nat_lit 395,Ac P) :: (nat_lit 396,Ad P) :: (nat_lit 402,Ae P) :: (nat_lit 403,Af P) :: (nat_lit 409,Ag P) :: (nat_lit 410,Ah P) :: (nat_lit 416,Ai P) :: (nat_lit 417,Aj P) :: (nat_lit 423,Ak P) :: (nat_lit 424,Al P) :: (nat_lit 430,Am P) :: (nat_lit 431,An P) :: (nat_lit 437,Ao P) :: (nat_lit 438,Ap P) :: (nat_lit 444,Aq P) :: (nat_lit 445,Ar P) :: (nat_lit 451,As P) :: (nat_lit 452,At P) :: (nat_lit 458,Au P) :: (nat_lit 459,Av P) :: (nat_lit 463,Aw P) :: (nat_lit 464,Ax P) :: (nat_lit 470,Ay P) :: (nat_lit 471,Az P) :: (nat_lit 477,AA P) :: (nat_lit 478,AB P) :: (nat_lit 484,AC P) :: (nat_lit 485,AD P) :: (nat_lit 489,AE P) :: (nat_lit 490,AF P) :: (nat_lit 496,AG P) :: (nat_lit 497,AH P) :: (nat_lit 503,AI P) :: (nat_lit 504,AJ P) :: []
end
end Pc
set_option maxHeartbeats 0
noncomputable abbrev PySem.W.Fast.tw15376425156282416173:PySem.Program:=PySem.Challenge.pw_platecuts_k82_whole_trees_of_tellings
theorem PySem.W.Fast.te15376425156282416173:PySem.Challenge.pw_platecuts_k82_whole_trees_of_tellings=PySem.W.Fast.tw15376425156282416173:=rfl
namespace Hd
open PySem PySem.W
def S0:Str:=⟨⟨[95,95,110,97,109,101,95,95]⟩⟩
def S2:Str:=⟨⟨[95,95,100,111,99,95,95]⟩⟩
def S3:Str:=⟨⟨[95,95,112,97,99,107,97,103,101,95,95]⟩⟩
def S4:Str:=⟨⟨[95,95,108,111,97,100,101,114,95,95]⟩⟩
def S5:Str:=⟨⟨[95,95,115,112,101,99,95,95]⟩⟩
def AK:Str:=⟨⟨[95,95,109,97,105,110,95,95]⟩⟩
def AL:Str:=⟨⟨[95,95,97,110,110,111,116,97,116,105,111,110,115,95,95]⟩⟩
def AM:Str:=⟨⟨[95,95,98,117,105,108,116,105,110,115,95,95]⟩⟩
def AN:Str:=⟨⟨[95,95,102,105,108,101,95,95]⟩⟩
def kI:Str:=⟨⟨[47,99,108,97,105,109,47,99,117,116,46,112,121]⟩⟩
def AO:Str:=⟨⟨[95,95,99,97,99,104,101,100,95,95]⟩⟩
def GG:Str:=⟨⟨[60,109,111,100,117,108,101,62]⟩⟩
def lU:Str:=⟨⟨[112,108,97,116,101,99,117,116,115,46,116,114,101,101,115]⟩⟩
def lV:Str:=⟨⟨[95,119,97,108,108]⟩⟩
def jN:Str:=⟨⟨[80,108,97,116,101,69,114,114,111,114]⟩⟩
def oF:Str:=⟨⟨[78,111,66,108,97,100,101]⟩⟩
def oG:Str:=⟨⟨[78,111,75,105,110,100,115]⟩⟩
def oH:Str:=⟨⟨[78,111,75,105,110,100]⟩⟩
def oI:Str:=⟨⟨[78,111,76,121,105,110,103]⟩⟩
def oJ:Str:=⟨⟨[78,111,80,108,97,116,101]⟩⟩
def oK:Str:=⟨⟨[78,111,84,114,101,101]⟩⟩
def oM:Str:=⟨⟨[78,111,84,101,108,108,105,110,103]⟩⟩
def lW:Str:=⟨⟨[105,115,95,119,104,111,108,101]⟩⟩
def lX:Str:=⟨⟨[105,115,95,116,114,117,116,104]⟩⟩
def lY:Str:=⟨⟨[105,115,95,114,111,119]⟩⟩
def lZ:Str:=⟨⟨[99,104,101,99,107,95,112,108,97,116,101]⟩⟩
def wd:Str:=⟨⟨[68,79,87,78]⟩⟩
def we:Str:=⟨⟨[100,111,119,110]⟩⟩
def wg:Str:=⟨⟨[65,67,82,79,83,83]⟩⟩
def wj:Str:=⟨⟨[97,99,114,111,115,115]⟩⟩
def wk:Str:=⟨⟨[87,65,89,83]⟩⟩
def ma:Str:=⟨⟨[108,105,101,115,95,105,110]⟩⟩
def md:Str:=⟨⟨[99,117,116,95,112,97,114,116,115]⟩⟩
def wm:Str:=⟨⟨[82,69,83,84]⟩⟩
def AQ:Str:=⟨⟨[114,101,115,116]⟩⟩
def wn:Str:=⟨⟨[80,73,69,67,69]⟩⟩
def AR:Str:=⟨⟨[112,105,101,99,101]⟩⟩
def wr:Str:=⟨⟨[84,72,73,78,71,83,95,79,70,95,65,95,82,69,83,84]⟩⟩
def wu:Str:=⟨⟨[84,72,73,78,71,83,95,79,70,95,65,95,80,73,69,67,69]⟩⟩
def GH:Str:=⟨⟨[107]⟩⟩
def sJ:Str:=⟨⟨[95,95,109,111,100,117,108,101,95,95]⟩⟩
def ie:Str:=⟨⟨[112,108,97,116,101,99,117,116,115,46,101,114,114,111,114,115]⟩⟩
def AS:Str:=⟨⟨[95,95,113,117,97,108,110,97,109,101,95,95]⟩⟩
def sK:Str:=⟨⟨[95,95,102,105,114,115,116,108,105,110,101,110,111,95,95]⟩⟩
def sL:Str:=⟨⟨[95,95,115,116,97,116,105,99,95,97,116,116,114,105,98,117,116,101,115,95,95]⟩⟩
def wv:Str:=⟨⟨[95,95,119,101,97,107,114,101,102,95,95]⟩⟩
def jO:Str:=⟨⟨[116,104,105,110,103]⟩⟩
def GI:Str:=⟨⟨[108,101,97,115,116]⟩⟩
def uH:Str:=⟨⟨[112,108,97,116,101,99,117,116,115,46,99,104,101,99,107,115]⟩⟩
def ii:Str:=⟨⟨[119,105,100,101]⟩⟩
def ij:Str:=⟨⟨[104,105,103,104]⟩⟩
def oN:Str:=⟨⟨[115,104,111,112]⟩⟩
def uI:Str:=⟨⟨[107,105,110,100]⟩⟩
def ww:Str:=⟨⟨[116,117,114,110,101,100]⟩⟩
def wx:Str:=⟨⟨[120]⟩⟩
def wz:Str:=⟨⟨[121]⟩⟩
def GJ:Str:=⟨⟨[112,105,101,99,101,95,119,105,100,101]⟩⟩
def GK:Str:=⟨⟨[112,105,101,99,101,95,104,105,103,104]⟩⟩
def AT:Str:=⟨⟨[112,108,97,116,101,99,117,116,115,46,112,97,114,116,115]⟩⟩
def ik:Str:=⟨⟨[98,108,97,100,101]⟩⟩
def uJ:Str:=⟨⟨[112,97,114,116]⟩⟩
def kJ:Str:=⟨⟨[119,97,121]⟩⟩
def AU:Str:=⟨⟨[112]⟩⟩
def ci:Str:=⟨⟨[108,97,119,95,112,108,97,116,101,99,117,116,115,95,107,56,50,95,119,104,111,108,101,95,116,114,101,101,115,95,111,102,95,116,101,108,108,105,110,103,115]⟩⟩
def AV:Str:=⟨⟨[84,72,73,78,71,83,95,79,70,95,65,95,67,85,84]⟩⟩
def oO:Str:=⟨⟨[98,101,103,105,110,115,95,119,105,116,104]⟩⟩
def oP:Str:=⟨⟨[105,115,95,99,117,116]⟩⟩
def oQ:Str:=⟨⟨[105,115,95,108,101,97,102]⟩⟩
def oR:Str:=⟨⟨[115,112,111,116,115,95,98,101,104,105,110,100]⟩⟩
def oS:Str:=⟨⟨[105,115,95,116,114,101,101]⟩⟩
def oT:Str:=⟨⟨[99,104,101,99,107,95,116,114,101,101]⟩⟩
def AW:Str:=⟨⟨[84,72,73,78,71,83,95,79,70,95,65,95,67,85,84,95,84,69,76,76,73,78,71]⟩⟩
def AX:Str:=⟨⟨[76,69,65,83,84,95,73,78,95,65,95,82,79,87]⟩⟩
def oU:Str:=⟨⟨[115,105,100,101,95,97,108,111,110,103]⟩⟩
def oV:Str:=⟨⟨[112,97,114,116,95,97,108,111,110,103]⟩⟩
def oW:Str:=⟨⟨[116,101,108,108,105,110,103,95,111,102,95,112,97,114,116]⟩⟩
def oX:Str:=⟨⟨[116,101,108,108,105,110,103,95,111,102]⟩⟩
def oY:Str:=⟨⟨[119,97,121,95,111,102]⟩⟩
def oZ:Str:=⟨⟨[105,115,95,115,105,122,101,100]⟩⟩
def pb:Str:=⟨⟨[105,115,95,100,105,118,105,100,101,100]⟩⟩
def pd:Str:=⟨⟨[97,115,95,116,101,108,108,105,110,103]⟩⟩
def pe:Str:=⟨⟨[116,114,101,101,95,98,121,95,116,101,108,108,105,110,103]⟩⟩
def pi:Str:=⟨⟨[116,114,101,101,95,116,111,108,100]⟩⟩
def AY:Str:=⟨⟨[77,79,83,84,95,75,73,78,68,83]⟩⟩
def AZ:Str:=⟨⟨[84,72,73,78,71,83,95,79,70,95,65,95,75,73,78,68]⟩⟩
def pj:Str:=⟨⟨[105,115,95,107,105,110,100]⟩⟩
def pk:Str:=⟨⟨[99,97,110,95,108,105,101,95,116,117,114,110,101,100]⟩⟩
def kL:Str:=⟨⟨[83,104,111,112]⟩⟩
def pC:Str:=⟨⟨[95,108,97,119,95,99,101,108,108]⟩⟩
def pE:Str:=⟨⟨[95,108,97,119,95,112,111,116]⟩⟩
def pF:Str:=⟨⟨[95,108,97,119,95,116,97,107,101]⟩⟩
def pG:Str:=⟨⟨[95,108,97,119,95,117,110,105,116]⟩⟩
def pH:Str:=⟨⟨[95,108,97,119,95,115,105,100,101]⟩⟩
def pI:Str:=⟨⟨[95,108,97,119,95,119,111,114,116,104]⟩⟩
def pJ:Str:=⟨⟨[95,108,97,119,95,115,104,111,112]⟩⟩
def pK:Str:=⟨⟨[95,108,97,119,95,115,105,100,101,115]⟩⟩
def pL:Str:=⟨⟨[95,108,97,119,95,108,121,105,110,103,115]⟩⟩
def pM:Str:=⟨⟨[95,108,97,119,95,98,101,104,105,110,100]⟩⟩
def pN:Str:=⟨⟨[95,108,97,119,95,108,101,97,102]⟩⟩
def pO:Str:=⟨⟨[95,108,97,119,95,116,114,101,101]⟩⟩
def pP:Str:=⟨⟨[95,108,97,119,95,112,108,97,105,110]⟩⟩
def pQ:Str:=⟨⟨[95,108,97,119,95,105,115,95,108,101,97,102]⟩⟩
def pR:Str:=⟨⟨[95,108,97,119,95,119,97,108,107]⟩⟩
def pS:Str:=⟨⟨[95,108,97,119,95,112,105,101,99,101,115]⟩⟩
def pT:Str:=⟨⟨[95,108,97,119,95,116,111,108,100]⟩⟩
def pU:Str:=⟨⟨[95,108,97,119,95,108,105,115,116,115]⟩⟩
def pV:Str:=⟨⟨[95,108,97,119,95,108,97,105,100]⟩⟩
def pW:Str:=⟨⟨[95,108,97,119,95,114,105,103,104,116]⟩⟩
def pX:Str:=⟨⟨[95,108,97,119,95,97,115,107,101,100]⟩⟩
def pY:Str:=⟨⟨[95,108,97,119,95,108,111,110,103]⟩⟩
def pZ:Str:=⟨⟨[95,108,97,119,95,100,101,101,112]⟩⟩
def sM:Str:=⟨⟨[108,97,119]⟩⟩
def GL:Str:=⟨⟨[119,111,114,100]⟩⟩
def GM:Str:=⟨⟨[109,97,110,121]⟩⟩
def uK:Str:=⟨⟨[115,112,111,116]⟩⟩
def sN:Str:=⟨⟨[116,114,101,101]⟩⟩
def GN:Str:=⟨⟨[115,105,100,101]⟩⟩
def Ba:Str:=⟨⟨[102,105,114,115,116]⟩⟩
def Bb:Str:=⟨⟨[115,101,99,111,110,100]⟩⟩
def GO:Str:=⟨⟨[119,105,100,101,95,97,104,101,97,100]⟩⟩
def GP:Str:=⟨⟨[104,105,103,104,95,97,104,101,97,100]⟩⟩
def GQ:Str:=⟨⟨[119,105,100,101,95,98,101,104,105,110,100]⟩⟩
def GR:Str:=⟨⟨[104,105,103,104,95,98,101,104,105,110,100]⟩⟩
def GS:Str:=⟨⟨[115,116,101,112]⟩⟩
def GT:Str:=⟨⟨[102,97,114,95,120]⟩⟩
def GU:Str:=⟨⟨[102,97,114,95,121]⟩⟩
def Bc:Str:=⟨⟨[119,97,105,116,105,110,103]⟩⟩
def il:Str:=⟨⟨[112,108,97,116,101,99,117,116,115,46,116,101,108,108,105,110,103,115]⟩⟩
def GV:Str:=⟨⟨[115,105,122,101]⟩⟩
def Bd:Str:=⟨⟨[114,111,119]⟩⟩
def GW:Str:=⟨⟨[105,110,110,101,114,95,112,97,114,116]⟩⟩
def GX:Str:=⟨⟨[105,110,110,101,114,95,116,114,101,101]⟩⟩
def GY:Str:=⟨⟨[116,101,108,108,105,110,103]⟩⟩
def GZ:Str:=⟨⟨[119,111,114,116,104]⟩⟩
def qb:Str:=⟨⟨[119,97,110,116,101,100]⟩⟩
def Hh:Str:=⟨⟨[116,117,114,110,115]⟩⟩
def qc:Str:=⟨⟨[112,108,97,116,101,99,117,116,115,46,115,104,111,112,115]⟩⟩
def sO:Str:=⟨⟨[95,95,105,110,105,116,95,95]⟩⟩
def sP:Str:=⟨⟨[107,105,110,100,115]⟩⟩
def sQ:Str:=⟨⟨[108,121,105,110,103,115]⟩⟩
def sR:Str:=⟨⟨[105,115,95,108,121,105,110,103]⟩⟩
def sS:Str:=⟨⟨[115,105,100,101,115]⟩⟩
def wA:Str:=⟨⟨[83,104,111,112,46,95,95,105,110,105,116,95,95]⟩⟩
def sT:Str:=⟨⟨[115,101,108,102]⟩⟩
def wB:Str:=⟨⟨[83,104,111,112,46,98,108,97,100,101]⟩⟩
def wC:Str:=⟨⟨[83,104,111,112,46,107,105,110,100,115]⟩⟩
def wD:Str:=⟨⟨[83,104,111,112,46,119,97,110,116,101,100]⟩⟩
def wE:Str:=⟨⟨[83,104,111,112,46,108,121,105,110,103,115]⟩⟩
def wF:Str:=⟨⟨[83,104,111,112,46,105,115,95,108,121,105,110,103]⟩⟩
def wG:Str:=⟨⟨[83,104,111,112,46,115,105,100,101,115]⟩⟩
def Hi:Str:=⟨⟨[98,108,97,100,101,95,119,105,100,116,104]⟩⟩
def Hj:Str:=⟨⟨[107,105,110,100,95,114,111,119,115]⟩⟩
def Be:Str:=⟨⟨[95,95,100,105,99,116,95,95]⟩⟩
def Bf:Str:=⟨⟨[95,108,97,119,95,115,99,114,105,112,116]⟩⟩
def qd:Str:=⟨⟨[95,108,97,119,95,107]⟩⟩
def Hk:Str:=⟨⟨[95,108,97,119,95,99,101,108,108,95,104,101,114,101]⟩⟩
def io:Str:=⟨⟨[95,108,97,119,95,112,111,116,95,104,101,114,101]⟩⟩
def Hl:Str:=⟨⟨[95,108,97,119,95,109,97,110,121]⟩⟩
def Ho:Str:=⟨⟨[95,108,97,119,95,100,105,103,105,116]⟩⟩
def wH:Str:=⟨⟨[95,108,97,119,95,115,111,109,101]⟩⟩
def uL:Str:=⟨⟨[95,108,97,119,95,117,110,105,116,95,104,101,114,101]⟩⟩
def Hq:Str:=⟨⟨[95,108,97,119,95,109,111,115,116]⟩⟩
def Hs:Str:=⟨⟨[95,108,97,119,95,98,108,97,100,101]⟩⟩
def Ht:Str:=⟨⟨[95,108,97,119,95,107,105,110,100,115]⟩⟩
def fU:Str:=⟨⟨[95,108,97,119,95,119,105,100,101]⟩⟩
def fV:Str:=⟨⟨[95,108,97,119,95,104,105,103,104]⟩⟩
def fW:Str:=⟨⟨[95,108,97,119,95,115,104,111,112,95,104,101,114,101]⟩⟩
def wI:Str:=⟨⟨[95,108,97,119,95,107,105,110,100]⟩⟩
def Bg:Str:=⟨⟨[95,108,97,119,95,116,117,114,110,101,100]⟩⟩
def sU:Str:=⟨⟨[95,108,97,119,95,102,111,117,110,100]⟩⟩
def sV:Str:=⟨⟨[95,108,97,119,95,119,97,121]⟩⟩
def wJ:Str:=⟨⟨[95,108,97,119,95,112]⟩⟩
def Bh:Str:=⟨⟨[95,108,97,119,95,111,119,110]⟩⟩
def Hu:Str:=⟨⟨[95,108,97,119,95,100,101,101,112,95,104,101,114,101]⟩⟩
def Hv:Str:=⟨⟨[95,108,97,119,95,114,111,111,109]⟩⟩
def Hw:Str:=⟨⟨[95,108,97,119,95,115,105,100,101,95,104,101,114,101]⟩⟩
def wK:Str:=⟨⟨[95,108,97,119,95,111,110,101]⟩⟩
def wL:Str:=⟨⟨[95,108,97,119,95,111,116,104,101,114]⟩⟩
def Bi:Str:=⟨⟨[95,108,97,119,95,102,105,114,115,116]⟩⟩
def Hz:Str:=⟨⟨[95,108,97,119,95,116,104,105,110,103]⟩⟩
def HA:Str:=⟨⟨[95,108,97,119,95,108,101,97,115,116]⟩⟩
def sW:Str:=⟨⟨[95,108,97,119,95,116,114,101,101,95,104,101,114,101]⟩⟩
def Bj:Str:=⟨⟨[95,108,97,119,95,112,97,114,116]⟩⟩
def wM:Str:=⟨⟨[95,108,97,119,95,120]⟩⟩
def wN:Str:=⟨⟨[95,108,97,119,95,121]⟩⟩
def HB:Str:=⟨⟨[95,108,97,119,95,115,101,99,111,110,100]⟩⟩
def Bk:Str:=⟨⟨[95,108,97,119,95,102,97,114]⟩⟩
def HC:Str:=⟨⟨[95,108,97,119,95,115,116,97,114,116]⟩⟩
def HD:Str:=⟨⟨[95,108,97,119,95,108,101,102,116]⟩⟩
def HE:Str:=⟨⟨[95,108,97,119,95,114,105,103,104,116,95,104,101,114,101]⟩⟩
def Bl:Str:=⟨⟨[95,108,97,119,95,108,101,97,118,101,115]⟩⟩
def Bm:Str:=⟨⟨[95,108,97,119,95,108,101,97,102,95,104,101,114,101]⟩⟩
def HF:Str:=⟨⟨[95,108,97,119,95,116,104,105,110,103,115]⟩⟩
def HG:Str:=⟨⟨[95,108,97,119,95,119,97,105,116,105,110,103]⟩⟩
def HI:Str:=⟨⟨[95,108,97,119,95,111,119,110,95,119,105,100,101]⟩⟩
def HJ:Str:=⟨⟨[95,108,97,119,95,111,119,110,95,104,105,103,104]⟩⟩
def wO:Str:=⟨⟨[95,108,97,119,95,115,105,122,101]⟩⟩
def uM:Str:=⟨⟨[95,108,97,119,95,116,111,108,100,95,104,101,114,101]⟩⟩
def HL:Str:=⟨⟨[95,108,97,119,95,105,110,110,101,114]⟩⟩
def wP:Str:=⟨⟨[95,108,97,119,95,109,97,100,101]⟩⟩
def HM:Str:=⟨⟨[95,108,97,119,95,100,117,101]⟩⟩
def HN:Str:=⟨⟨[95,108,97,119,95,104,97,110,100,101,100]⟩⟩
def HP:Str:=⟨⟨[95,108,97,119,95,107,101,112,116]⟩⟩
def HQ:Str:=⟨⟨[95,108,97,119,95,97,103,97,105,110]⟩⟩
def HR:Str:=⟨⟨[95,108,97,119,95,116,117,114,110]⟩⟩
def HS:Str:=⟨⟨[95,108,97,119,95,115,105,100,101,115,95,104,101,114,101]⟩⟩
noncomputable abbrev HK:Hook:=kHook Pc.kK [nat_lit 3,nat_lit 20,nat_lit 21,nat_lit 30,nat_lit 31,nat_lit 43,nat_lit 44,nat_lit 55,nat_lit 56,nat_lit 67,nat_lit 68,nat_lit 79,nat_lit 80,nat_lit 91,nat_lit 92,nat_lit 103,nat_lit 104,nat_lit 115,nat_lit 116,nat_lit 124,nat_lit 125,nat_lit 131,nat_lit 132,nat_lit 138,nat_lit 139,nat_lit 145,nat_lit 146,nat_lit 147,nat_lit 153,nat_lit 154,nat_lit 160,nat_lit 161,nat_lit 167,nat_lit 168,nat_lit 174,nat_lit 175,nat_lit 181,nat_lit 182,nat_lit 188,nat_lit 189,nat_lit 195,nat_lit 196,nat_lit 202,nat_lit 203,nat_lit 209,nat_lit 210,nat_lit 216,nat_lit 217,nat_lit 223,nat_lit 224,nat_lit 230,nat_lit 231,nat_lit 237,nat_lit 238,nat_lit 244,nat_lit 245,nat_lit 249,nat_lit 250,nat_lit 254,nat_lit 255,nat_lit 259,nat_lit 260,nat_lit 266,nat_lit 267,nat_lit 273,nat_lit 274,nat_lit 280,nat_lit 281,nat_lit 292,nat_lit 293,nat_lit 299,nat_lit 300,nat_lit 306,nat_lit 307,nat_lit 311,nat_lit 312,nat_lit 318,nat_lit 319,nat_lit 325,nat_lit 326,nat_lit 332,nat_lit 333,nat_lit 335,nat_lit 336,nat_lit 346,nat_lit 347,nat_lit 353,nat_lit 354,nat_lit 360,nat_lit 361,nat_lit 367,nat_lit 368,nat_lit 374,nat_lit 375,nat_lit 381,nat_lit 382,nat_lit 388,nat_lit 389,nat_lit 395,nat_lit 396,nat_lit 402,nat_lit 403,nat_lit 409,nat_lit 410,nat_lit 416,nat_lit 417,nat_lit 423,nat_lit 424,nat_lit 430,nat_lit 431,nat_lit 437,nat_lit 438,nat_lit 444,nat_lit 445,nat_lit 451,nat_lit 452,nat_lit 458,nat_lit 459,nat_lit 463,nat_lit 464,nat_lit 470,nat_lit 471,nat_lit 477,nat_lit 478,nat_lit 484,nat_lit 485,nat_lit 489,nat_lit 490,nat_lit 496,nat_lit 497,nat_lit 503,nat_lit 504] (λ _=>by kernel_rfl)
noncomputable abbrev pt:Program:=PySem.W.Fast.tw15376425156282416173
theorem pt_eq:PySem.Challenge.pw_platecuts_k82_whole_trees_of_tellings=pt:=PySem.W.Fast.te15376425156282416173
noncomputable def tp (i:Nat):Stmt:=pt.main.body.getD i (.Pass ⟨0,0,0,0⟩)
noncomputable abbrev f (o:Params->Obj) (l r:Params->BT):Params->BT:=λ P=>.node (o P) (l P) (r P)
noncomputable abbrev z:Params->BT:=λ _=>.nil
noncomputable abbrev e (P:Params) (n:Str) (t:Nat) (v:Value):DictEntry:=⟨PyData.keyHash P n,.str n t,v⟩
noncomputable abbrev m0:Nat:=nat_lit 11
noncomputable abbrev an:Option Value:=(some (.ref 6))
noncomputable abbrev en:Env:={ scope:=pt.main.scope,locals:=mainNs,globals:=mainNs,cells:=[],code:=(.ref 13),frame:=some 14 }
noncomputable abbrev cE:Code:=.body (behindTheImports pt) en
noncomputable abbrev qP:Pos:=⟨0,0,0,0⟩
noncomputable abbrev B:List Frame:=[topFrame qP]
noncomputable abbrev L0:=SL.s14018661285674007319x4
noncomputable abbrev L1:=SL.s11665532747177232413x24
noncomputable abbrev L2:=SL.s15183661809925369436x15
noncomputable abbrev L3:=SL.s13915890719876406383x10
noncomputable abbrev L4:=SL.s13459172003223722735x3
noncomputable abbrev L5:=SL.s10557405761357834076x3
noncomputable abbrev L6:=SL.s4233737765568776869x3
noncomputable abbrev L7:=SL.s2508922471967985374x5
noncomputable abbrev L8:=SL.s15574269061696679450x3
noncomputable abbrev L9:=SL.s6016482663378992977x10
noncomputable abbrev L10:=SL.s5596568736180474577x8
noncomputable abbrev L11:=SL.s2839554839881490554x3
noncomputable abbrev L12:=SL.s725004073602090463x7
noncomputable abbrev L13:=SL.s9436932552931045734x7
noncomputable abbrev L14:=SL.s2754603736356183583x3
noncomputable abbrev L15:=SL.s15185746759980889043x6
noncomputable abbrev L16:=SL.s8192189862530294059x4
noncomputable abbrev L17:=SL.s7038307821325472102x4
noncomputable abbrev L18:=SL.s5662562618415449548x6
noncomputable abbrev L19:=SL.s15281542589158584767x7
noncomputable abbrev L20:=SL.s17651547275483570877x7
noncomputable abbrev L21:=SL.s4036449017235975746x7
noncomputable abbrev L22:=SL.s8879979712987360175x4
noncomputable abbrev L23:=SL.s1801250619170735830x3
noncomputable abbrev L24:=SL.s17659931425627118568x2
noncomputable abbrev L25:=SL.s6063217899685152688x5
noncomputable abbrev L26:=SL.s8008927332132565319x10
noncomputable abbrev L27:=SL.s3544116645089599534x10
noncomputable abbrev L28:=SL.s13761710972054866084x4
noncomputable abbrev L29:=SL.s12896375587409280029x5
noncomputable abbrev L30:=SL.s13014049009108672802x3
noncomputable abbrev L31:=SL.s13935586738268321596x6
noncomputable abbrev L32:=SL.s8200498257699607233x3
noncomputable abbrev L33:=SL.s14114244577727609259x3
noncomputable abbrev L34:=SL.s1499430450269397089x4
noncomputable abbrev L35:=SL.s8755793994789770505x5
noncomputable abbrev L36:=SL.s15725212667919936108x3
noncomputable abbrev L37:=SL.s15791221867095933363x3
noncomputable abbrev L38:=SL.s81309575031448614x3
noncomputable abbrev L39:=SL.s8069831620301644142x5
noncomputable abbrev L40:=SL.s10061844253413749634x4
noncomputable abbrev L41:=SL.s9496514870978017513x5
noncomputable abbrev L42:=SL.s8899691144933366716x7
noncomputable abbrev L43:=SL.s15201008993051130160x6
noncomputable abbrev L44:=SL.s741896355592496720x3
noncomputable abbrev L45:=SL.s17925004256654032244x4
noncomputable abbrev L46:=SL.s11695548795398191787x4
noncomputable abbrev L47:=SL.s4156966113859768872x10
noncomputable abbrev L48:=SL.s9501651726347032510x9
noncomputable abbrev L49:=SL.s15722918466584999320x5
noncomputable abbrev L50:=SL.s591115383303110208x11
noncomputable abbrev L51:=SL.s15721156781594690315x7
noncomputable abbrev L52:=SL.s14340494229221121180x9
noncomputable abbrev L53:=SL.s13429844117177748173x6
noncomputable abbrev L54:=SL.s16463266125957815391x5
noncomputable abbrev L55:=SL.s4922535414793169389x9
noncomputable abbrev L56:=SL.s8101838861749082086x8
noncomputable abbrev L57:=SL.s7066276694103001551x3
noncomputable abbrev L58:=SL.s9222952809800978799x4
noncomputable abbrev L59:=SL.s462964344163437139x3
noncomputable abbrev L60:=SL.s2742458400755230247x6
noncomputable abbrev L61:=SL.s1438033511350832697x5
noncomputable abbrev L62:=SL.s14365286008749172514x8
noncomputable abbrev L63:=SL.s3642769012341782148x3
noncomputable abbrev L64:=SL.s4674234679698826739x5
noncomputable abbrev L65:=SL.s16656946322747308186x12
noncomputable abbrev L66:=SL.s10796804682411823810x3
noncomputable abbrev L67:=SL.s4290257624100764138x5
noncomputable abbrev L68:=SL.s2766695959194262286x5
noncomputable abbrev L69:=SL.s17162191345867700912x4
noncomputable abbrev L70:=SL.s14339709457334898076x3
noncomputable abbrev L71:=SL.s4278001404047624695x13
noncomputable abbrev L72:=SL.s6585700554429387442x18
noncomputable abbrev L73:=SL.s5946037652744460706x9
noncomputable abbrev L74:=SL.s7410770068591931388x13
noncomputable abbrev L75:=SL.s11817881795495490833x17
noncomputable abbrev L76:=SL.s15679963881808890155x10
noncomputable abbrev L77:=SL.s3871700062485845797x15
noncomputable abbrev L78:=SL.s7689518266570723881x14
noncomputable abbrev L79:=SL.s9001593270443806431x14
noncomputable abbrev L80:=SL.s6882542574934516792x11
noncomputable abbrev L81:=SL.s14403400214490484960x8
noncomputable abbrev L82:=SL.s14457978657717015782x11
noncomputable abbrev L83:=SL.s1753610191782819921x11
noncomputable abbrev L84:=SL.s14119380538032626715x11
noncomputable abbrev L85:=SL.s11437920000406562045x9
noncomputable abbrev L86:=SL.s10852414792293593619x7
noncomputable abbrev L87:=SL.s14816307405966870543x14
noncomputable abbrev L88:=SL.s8682627914449686677x12
noncomputable abbrev L89:=SL.s4428170145600203450x18
noncomputable abbrev L90:=SL.s5991306692159431302x13
noncomputable abbrev L91:=SL.s16067994140765818257x11
noncomputable abbrev L92:=SL.s2327743974964600596x11
noncomputable abbrev L93:=SL.s2804747833354056582x9
noncomputable abbrev L94:=SL.s6070975301684473832x10
noncomputable abbrev L95:=SL.s14270485950484850486x7
noncomputable abbrev L96:=SL.s12041534306414923332x18
noncomputable abbrev L97:=SL.s2531307568338490285x13
noncomputable abbrev L98:=SL.s631175304937289666x17
noncomputable abbrev L99:=SL.s5144983644357021410x12
noncomputable abbrev Ie:=SL.s18039099521571816885x18
noncomputable abbrev Ig:=SL.s6011586214260557989x15
noncomputable abbrev Ih:=SL.s5430567037509283100x13
noncomputable abbrev Ii:=SL.s8117915138073963741x13
noncomputable abbrev Ij:=SL.s3423317712779056401x25
noncomputable abbrev Ik:=SL.s2007317383269046180x15
noncomputable abbrev Il:=SL.s17481586968713580700x14
noncomputable abbrev Im:=SL.s2450899226349176912x13
noncomputable abbrev Io:=SL.s16626165730633575011x14
noncomputable abbrev Ip:=SL.s14288496050688921416x11
noncomputable abbrev Iq:=SL.s5735081916595925998x15
noncomputable abbrev Ir:=SL.s3865607918536308442x17
noncomputable abbrev Iu:=SL.s13337502604062700212x15
noncomputable abbrev Iv:=SL.s13114017843053701147x15
noncomputable abbrev Iw:=SL.s17467278006356818441x17
noncomputable abbrev Ix:=SL.s17722149559621369488x16
noncomputable abbrev Iy:=SL.s7855274175708717672x17
noncomputable abbrev Iz:=SL.s13351283678309829046x18
noncomputable abbrev IA:=SL.s6668348653404991179x15
noncomputable abbrev IB:=SL.s12913350958174193794x18
noncomputable abbrev IC:=SL.s16115879512475548326x12
noncomputable abbrev ID:=SL.s15920661018069861047x16
noncomputable abbrev IE:=SL.s10779130036587390575x21
noncomputable abbrev IF:=SL.s7801419657504700863x10
noncomputable abbrev IG:=SL.s1688129525768580628x8
noncomputable abbrev IH:=SL.s1031832959479892071x19
noncomputable abbrev II:=SL.s8991790508128307865x19
noncomputable abbrev IJ:=SL.s14539662485746970245x23
noncomputable abbrev IK:=SL.s11643622729373238714x14
noncomputable abbrev IL:=SL.s3386828779285465597x17
noncomputable abbrev IM:=SL.s13042696260734638735x12
noncomputable abbrev IN:=SL.s18239426817015966623x15
noncomputable abbrev IO:=SL.s1270395311379034370x22
noncomputable abbrev IP:=SL.s10696252587037064777x22
noncomputable abbrev IQ:=SL.s7852717498200857586x20
noncomputable abbrev IR:=SL.s6377248116197321094x8
noncomputable abbrev IS:=SL.s3834378056692298002x18
noncomputable abbrev IT:=SL.s17586630440231065808x18
noncomputable abbrev IU:=SL.s15234114252648025395x21
noncomputable abbrev IV:=SL.s8496462677383758984x14
noncomputable abbrev IW:=SL.s16789243406116112673x4
noncomputable abbrev IX:=SL.s14400166428656793546x20
noncomputable abbrev IY:=SL.s5857708277339239366x20
noncomputable abbrev IZ:=SL.s7804999707787243718x20
noncomputable abbrev Bn:=SL.s7097527257260152453x26
noncomputable abbrev Ja:=SL.s6658869562736209489x6
noncomputable abbrev wQ:=SL.s5856160107412720595x4
noncomputable abbrev HU:=SL.s658472552662922059x5
noncomputable abbrev sZ (w:World) (os:OsState):Shared:=⟨boot_heap w.params,Array.mk [],boot_drawn,boot_toks,os⟩
noncomputable def o11 (P:Params):Obj:=⟨(.type L68),none,(.seq #[] 0),#[]⟩
noncomputable def o12 (P:Params):Obj:=⟨.none,none,(.fields #[]),#[]⟩
noncomputable def g0 (x0:Str)(x1 x2 x3:Nat)(P:Params):Obj:=⟨(.type wQ),none,(.fields #[.str x0 x1,.str x0 (x1+1),.str kI (x1+2),.int x2 0,.int 0 0,.int 0 0,.int 0 0,.int 0 0,.ref x3,.bool false,.int 181 0,.ref (x3+1),.none,.none,.none,.none,.int (x1+3) 0,.int x2 0,.str kI (x1+4)]),#[]⟩
noncomputable def o13:=g0 GG 182 1 11
noncomputable def g1 (x0 x1:Nat)(x2:Str)(x3:Nat)(P:Params):Obj:=⟨(.type HU),none,.plain,#[some (.ref x0),some (.ref 3),some (.ref x1),none,some (.str x2 x3),none,some (.ref 0)]⟩
noncomputable def o14:=g1 13 3 AK 164
noncomputable def hA (P:Params):Heap:=⟨⟨[boot_o_0 P,boot_o_1 P,boot_o_2 P,boot_o_3 P,boot_o_4 P,boot_o_5 P,boot_o_6 P,boot_o_7 P,boot_o_8 P,boot_o_9 P,boot_o_10 P,o11 P,o12 P,o13 P,o14 P]⟩,{ }⟩
noncomputable abbrev sA (w:World) (os:OsState):Shared:=⟨hA w.params,(Array.mk []),⟨0,0,0,0⟩,187,os⟩
noncomputable abbrev pA:Pos:=⟨0,0,0,0⟩
theorem pre (w:World):(λ os=>topGo treeTable pt w m0 an 12 (sZ w os) (topStub pt))=λ os=>some (sA w os,(⟨denote treeTable cE,cE,pA,B⟩:Thread)):=by
 rw [PySem.W.Fast.te15667345088766844465,PySem.W.Fast.te14364793385576792824,PySem.W.Fast.te11892475500146522536]; kernel_rfl
noncomputable def tB:Params->BT:=(f boot_o_0 (f boot_o_1 (f boot_o_3 (f boot_o_7 z z) (f o11 z z)) (f boot_o_5 (f boot_o_9 z z) (f o13 z z))) (f boot_o_2 (f boot_o_4 (f boot_o_8 z z) (f o12 z z)) (f boot_o_6 (f boot_o_10 z z) (f o14 z z))))
noncomputable abbrev sB (w:World) (os:OsState):SharedT:=⟨tB w.params,15,{ },(Array.mk []),⟨0,0,0,0⟩,187,os⟩
noncomputable abbrev pB:Pos:=⟨0,0,0,0⟩
theorem blk (w:World):(λ os=>segRun treeTable pt w m0 an 1 1 (sA w os) ⟨(blockStart (behindTheImports pt) en).wrap (λ _=>doneF .next) deadEnd id id,cE,pA,B⟩)=λ os=>some (.next,(sB w os).abs,cE,pB):=by
 rw [PySem.W.Fast.te14374325043358763698,PySem.W.Fast.te14364793385576792824,PySem.W.Fast.te1066825118222455980]; kernel_rfl
noncomputable def HV (P:Params):Obj:=⟨(.type L0),none,(.dict #[e P S0 165 (.str lU 392),e P S2 166 .none,e P S3 167 .none,e P S4 168 (.builtin Bn),e P S5 169 .none,e P AL 170 (.ref 6),e P AM 171 (.ref 4),e P AN 173 (.str kI 172),e P AO 174 .none,e P lV 193 (.ref 21),e P jN 213 (.ref 31),e P oF 229 (.ref 44),e P oG 245 (.ref 56),e P oH 261 (.ref 68),e P oI 277 (.ref 80),e P oJ 293 (.ref 92),e P oK 309 (.ref 104),e P oM 325 (.ref 116),e P lW 335 (.ref 125),e P lX 342 (.ref 132),e P lY 349 (.ref 139),e P lZ 357 (.ref 146),e P wd 361 (.str we 360),e P wg 363 (.str wj 362),e P wk 364 (.ref 147),e P ma 379 (.ref 154),e P md 391 (.ref 161),e P wm 395 (.str AQ 394),e P wn 397 (.str AR 396),e P wr 399 (.int 1 398),e P wu 401 (.int 5 400)] 31),#[]⟩
noncomputable def Bo (P:Params):Obj:=⟨.none,none,(.fields #[.int 1 0,.int 0 0,.ref 20,.int 5 0,.int 0 0,.ref 27,.int 7 0,.int 0 0,.ref 40,.int 9 0,.int 0 0,.ref 52,.int 11 0,.int 0 0,.ref 64,.int 13 0,.int 0 0,.ref 76,.int 15 0,.int 0 0,.ref 88,.int 17 0,.int 0 0,.ref 100,.int 19 0,.int 0 0,.ref 112,.int 22 0,.int 0 0,.ref 124,.int 24 0,.int 0 0,.ref 131,.int 26 0,.int 0 0,.ref 138,.int 28 0,.int 0 0,.ref 145,.int 35 0,.int 0 0,.ref 153,.int 40 0,.int 0 0,.ref 160]),#[]⟩
noncomputable def g2 (x0:Str)(x1:Nat)(P:Params):Obj:=⟨(.type L68),none,(.seq #[.str x0 x1] 0),#[]⟩
noncomputable def o17:=g2 GH 190
noncomputable def g3 (x0:Str)(x1:Nat)(P:Params):Obj:=⟨.none,none,(.func ⟨x0,x0,L2.defArgs (tp x1),(.stmts (L2.defBody (tp x1))),L2.defScope (tp x1),0,[],.none,.none,.none,.none,none,.none,.none,0⟩),#[]⟩
noncomputable def o19:=g3 lV 0
noncomputable def g4 (x0:Str)(x1:Nat)(x2:Str)(x3 x4 x5 x6:Nat)(P:Params):Obj:=⟨(.type wQ),none,(.fields #[.str x0 x1,.str x2 (x1+1),.str kI (x1+2),.int x3 0,.int x4 0,.int 0 0,.int 0 0,.int 3 0,.ref x5,.bool true,.int 181 0,.ref (x5+1),.none,.ref (x5+2),.ref (x5+3),.ref (x5+4),.int x6 0,.int x3 0,.str kI (x6+1)]),#[]⟩
noncomputable def o20:=g4 lV 187 lV 1 1 15 191
noncomputable abbrev Bp:=SL.s7174869446012820540x8
noncomputable def g5 (x0:Str)(x1:Nat)(x2:Str)(x3 x4:Nat)(P:Params):Obj:=⟨(.type Bp),none,(.func ⟨x0,x0,L2.defArgs (tp x1),(.stmts (L2.defBody (tp x1))),L2.defScope (tp x1),3,[],.none,.none,.none,.str x2 x3,none,.ref x4,.none,0⟩),#[]⟩
noncomputable def o21:=g5 lV 0 AK 164 20
noncomputable def o22 (P:Params):Obj:=⟨(.type L68),none,(.seq #[.type L94] 0),#[]⟩
noncomputable abbrev Bq:=SL.s11030030927630378310x26
noncomputable abbrev HW:=SL.s10062305145149207511x16
noncomputable def o23 (P:Params):Obj:=⟨(.type Bq),none,(.fields #[.builtin HW,.type L69]),#[]⟩
noncomputable def g6 (x0:Nat)(x1:Str)(x2 x3:Nat)(P:Params):Obj:=⟨(.type L0),none,(.dict #[e P sJ x0 (.str ie 194),e P AS (x0+2) (.str x1 (x0+1)),e P sK (x0+4) (.int x2 (x0+3)),e P sL (x0+5) (.ref x3)] 4),#[]⟩
noncomputable def o24:=g6 203 jN 5 29
noncomputable def o27:=g0 jN 198 5 25
noncomputable def o28:=g1 27 24 ie 194
noncomputable def o30 (P:Params):Obj:=⟨(.type L0),none,(.dict #[e P sJ 203 (.str ie 194),e P sK 207 (.int 5 206),e P sL 208 (.ref 29),e P wv 210 (.ref 32),e P S2 211 .none] 3),#[]⟩
noncomputable abbrev Br:=SL.s4209523147560561109x18
noncomputable def o31 (P:Params):Obj:=⟨(.type L69),none,(.cls ⟨jN,[.type L94],[.ref 31,.type L94,.type L73,.type L71,.type L60],30,jN,true,[],[.ref 44,.ref 56,.ref 68,.ref 80,.ref 92,.ref 104,.ref 116],false,none,false⟩),#[some (.ref 22),none,some (.str jN 196),some (.str jN 204),some (.builtin Br),some (.bool true)]⟩
noncomputable abbrev Bs:=SL.s14755015743595814543x17
noncomputable abbrev HX:=SL.s10220274742760427390x26
noncomputable def g7 (x0 x1:Nat)(P:Params):Obj:=⟨(.type Bs),none,(.fields #[.str wv x0,.ref x1,.builtin HX,.none]),#[]⟩
noncomputable def o32:=g7 209 31
noncomputable def g8 (x0:Nat)(P:Params):Obj:=⟨(.type L67),none,(.fields #[.ref x0,.ref x0,.ref x0]),#[]⟩
noncomputable def o33:=g8 31
noncomputable abbrev HY:=SL.s4860613602091757760x24
noncomputable def g9 (x0:Nat)(P:Params):Obj:=⟨(.type Bq),none,(.fields #[.builtin HY,.ref x0]),#[]⟩
noncomputable def o34:=g9 31
noncomputable def o35 (P:Params):Obj:=⟨(.type L68),none,(.seq #[.ref 31] 0),#[]⟩
noncomputable def o37:=g6 221 oF 7 42
noncomputable def o40:=g0 oF 216 7 38
noncomputable def o41:=g1 40 37 ie 194
noncomputable def g10 (x0 x1 x2:Nat)(P:Params):Obj:=⟨(.type L0),none,(.dict #[e P sJ x0 (.str ie 194),e P sK (x0+4) (.int x1 (x0+3)),e P sL (x0+5) (.ref x2),e P S2 (x0+6) .none] 2),#[]⟩
noncomputable def o43:=g10 221 7 42
noncomputable def g11 (x0:Str)(x1 x2 x3 x4:Nat)(P:Params):Obj:=⟨(.type L69),none,(.cls ⟨x0,[.ref 31],[.ref x1,.ref 31,.type L94,.type L73,.type L71,.type L60],x2,x0,true,[],[],false,none,false⟩),#[some (.ref x3),none,some (.str x0 x4),some (.str x0 (x4+8)),some (.builtin Br),some (.bool true)]⟩
noncomputable def o44:=g11 oF 44 43 35 214
noncomputable def o45:=g8 44
noncomputable def o46:=g9 44
noncomputable def o49:=g6 237 oG 9 54
noncomputable def o52:=g0 oG 232 9 50
noncomputable def o53:=g1 52 49 ie 194
noncomputable def o55:=g10 237 9 54
noncomputable def o56:=g11 oG 56 55 47 230
noncomputable def o57:=g8 56
noncomputable def o58:=g9 56
noncomputable def o61:=g6 253 oH 11 66
noncomputable def o64:=g0 oH 248 11 62
noncomputable def o65:=g1 64 61 ie 194
noncomputable def o67:=g10 253 11 66
noncomputable def o68:=g11 oH 68 67 59 246
noncomputable def o69:=g8 68
noncomputable def o70:=g9 68
noncomputable def o73:=g6 269 oI 13 78
noncomputable def o76:=g0 oI 264 13 74
noncomputable def o77:=g1 76 73 ie 194
noncomputable def o79:=g10 269 13 78
noncomputable def o80:=g11 oI 80 79 71 262
noncomputable def o81:=g8 80
noncomputable def o82:=g9 80
noncomputable def o85:=g6 285 oJ 15 90
noncomputable def o88:=g0 oJ 280 15 86
noncomputable def o89:=g1 88 85 ie 194
noncomputable def o91:=g10 285 15 90
noncomputable def o92:=g11 oJ 92 91 83 278
noncomputable def o93:=g8 92
noncomputable def o94:=g9 92
noncomputable def o97:=g6 301 oK 17 102
noncomputable def wR:=g0 oK 296 17 98
noncomputable def wS:=g1 100 97 ie 194
noncomputable def wT:=g10 301 17 102
noncomputable def wU:=g11 oK 104 103 95 294
noncomputable def wV:=g8 104
noncomputable def wW:=g9 104
noncomputable def wX:=g6 317 oM 19 114
noncomputable def wY:=g0 oM 312 19 110
noncomputable def wZ:=g1 112 109 ie 194
noncomputable def xa:=g10 317 19 114
noncomputable def xb:=g11 oM 116 115 107 310
noncomputable def xc:=g8 116
noncomputable def xf:=g9 116
noncomputable def g12 (x0:Str)(x1:Nat)(x2:Str)(x3:Nat)(P:Params):Obj:=⟨(.type L68),none,(.seq #[.str x0 x1,.str x2 x3] 0),#[]⟩
noncomputable def xg:=g12 jO 331 GI 332
noncomputable def xh:=g3 lW 11
noncomputable def xi:=g4 lW 328 lW 22 2 119 333
noncomputable def xj:=g5 lW 11 uH 326 124
noncomputable def xk:=g2 jO 339
noncomputable def xm:=g3 lX 12
noncomputable def xn:=g4 lX 336 lX 24 1 126 340
noncomputable def xo:=g5 lX 12 uH 326 131
noncomputable def xq:=g2 jO 346
noncomputable def xt:=g3 lY 13
noncomputable def xu:=g4 lY 343 lY 26 1 133 347
noncomputable def xw:=g5 lY 13 uH 326 138
noncomputable def xy:=g12 ii 353 ij 354
noncomputable def xz:=g3 lZ 14
noncomputable def xA:=g4 lZ 350 lZ 28 2 140 355
noncomputable def xB:=g5 lZ 14 uH 326 145
noncomputable def xC:=g12 we 360 wj 362
noncomputable def g13 (x0:Str)(x1:Nat)(x2 x3 x4 x5 x6 x7 x8 x9:Str)(P:Params):Obj:=⟨(.type L68),none,(.seq #[.str x0 x1,.str x2 (x1+1),.str x3 (x1+2),.str x4 (x1+3),.str x5 (x1+4),.str x6 (x1+5),.str x7 (x1+6),.str x8 (x1+7),.str x9 (x1+8)] 0),#[]⟩
noncomputable def xD:=g13 oN 368 ii ij uI ww wx wz GJ GK
noncomputable def xE:=g3 ma 19
noncomputable def xF:=g4 ma 365 ma 35 7 148 377
noncomputable def xG:=g5 ma 19 AT 358 153
noncomputable def g14 (x0:Str)(x1:Nat)(x2 x3 x4 x5 x6:Str)(P:Params):Obj:=⟨(.type L68),none,(.seq #[.str x0 x1,.str x2 (x1+1),.str x3 (x1+2),.str x4 (x1+3),.str x5 (x1+4),.str x6 (x1+5)] 0),#[]⟩
noncomputable def xH:=g14 ik 383 uJ kJ AU ii ij
noncomputable def xI:=g3 md 20
noncomputable def xJ:=g4 md 380 md 40 4 155 389
noncomputable def xK:=g5 md 20 AT 358 160
noncomputable def t0:Params->BT:=(f boot_o_0 (f boot_o_1 (f HV (f boot_o_7 (f o11 (f o31 (f o12 (f o12 z z) z) (f o35 (f xI z z) z)) (f o35 (f o79 (f o11 z z) z) (f o12 z z))) (f o23 (f o12 (f o35 (f xq z z) z) (f wT z z)) (f o55 (f o12 (f o11 z z) z) (f o11 z z)))) (f o11 (f o19 (f o35 (f o67 (f xn z z) z) (f o12 z z)) (f o12 (f o35 (f xC z z) z) (f xa z z))) (f o27 (f o43 (f o12 (f xw z z) z) (f o35 z z)) (f o35 (f o91 (f o11 z z) z) (f xh z z))))) (f boot_o_5 (f boot_o_9 (f o17 (f o33 (f o65 (f o11 z z) z) (f o97 (f xK z z) z)) (f o49 (f o81 (f xA z z) z) (f wZ z z))) (f o11 (f o41 (f o73 (f xt z z) z) (f wV z z)) (f o57 (f o89 (f xF z z) z) (f xg z z)))) (f o13 (f o21 (f o37 (f o69 (f o11 z z) z) (f wS z z)) (f o53 (f o85 (f o12 z z) z) (f xc z z))) (f o11 (f o45 (f o77 (f o12 z z) z) (f wX z z)) (f o61 (f o93 (f xH z z) z) (f xj z z)))))) (f boot_o_2 (f boot_o_4 (f boot_o_8 (f o12 (f o32 (f o64 (f xk z z) z) (f o23 (f xJ z z) z)) (f o23 (f o80 (f xz z z) z) (f wY z z))) (f o24 (f o40 (f o23 (f o11 z z) z) (f wU z z)) (f o56 (f o88 (f xE z z) z) (f o12 z z)))) (f Bo (f o20 (f o23 (f o68 (f xo z z) z) (f wR z z)) (f o52 (f o23 (f o11 z z) z) (f xb z z))) (f o28 (f o44 (f o76 (f o11 z z) z) (f o23 z z)) (f o23 (f o92 (f o12 z z) z) (f xi z z))))) (f boot_o_6 (f boot_o_10 (f o11 (f o34 (f o11 (f xm z z) z) (f o11 z z)) (f o11 (f o82 (f xB z z) z) (f o11 z z))) (f o12 (f o11 (f o11 (f xu z z) z) (f wW z z)) (f o58 (f o11 (f xG z z) z) (f o11 z z)))) (f o14 (f o22 (f o11 (f o70 (f o12 z z) z) (f o11 z z)) (f o11 (f o11 (f xD z z) z) (f xf z z))) (f o30 (f o46 (f o11 (f xy z z) z) (f o11 z z)) (f o11 (f o94 (f o11 z z) z) (f o11 z z)))))))
noncomputable abbrev s0 (w:World) (os:OsState):SharedT:=⟨t0 w.params,162,{ },(Array.mk []),⟨0,0,0,0⟩,402,os⟩
noncomputable abbrev p0:Pos:=⟨49,0,49,17⟩
noncomputable abbrev st0:List Stmt:=(pt.main.body.drop 0).take 26
theorem q0 (w:World):(λ os=>segRunT treeTable pt w m0 an 1 2000 (sB w os) ⟨(execs st0 en).wrap doneF deadEnd id id,cE,pB,B⟩)=λ os=>some (.next,s0 w os,cE,p0):=by
 rw [PySem.W.Fast.te10110043849684766642,PySem.W.Fast.te14364793385576792824,PySem.W.Fast.te12563942051412417395]; kernel_rfl
noncomputable def Bt (P:Params):Obj:=⟨(.type L0),none,(.dict #[e P S0 165 (.str ci 676),e P S2 166 .none,e P S3 167 .none,e P S4 168 (.builtin Bn),e P S5 169 .none,e P AL 170 (.ref 6),e P AM 171 (.ref 4),e P AN 173 (.str kI 172),e P AO 174 .none,e P lV 193 (.ref 21),e P jN 213 (.ref 31),e P oF 229 (.ref 44),e P oG 245 (.ref 56),e P oH 261 (.ref 68),e P oI 277 (.ref 80),e P oJ 293 (.ref 92),e P oK 309 (.ref 104),e P oM 325 (.ref 116),e P lW 335 (.ref 125),e P lX 342 (.ref 132),e P lY 349 (.ref 139),e P lZ 357 (.ref 146),e P wd 361 (.str we 360),e P wg 363 (.str wj 362),e P wk 364 (.ref 147),e P ma 379 (.ref 154),e P md 391 (.ref 161),e P wm 395 (.str AQ 394),e P wn 397 (.str AR 396),e P wr 399 (.int 1 398),e P wu 401 (.int 5 400),e P AV 403 (.int 4 402),e P oO 412 (.ref 168),e P oP 423 (.ref 175),e P oQ 436 (.ref 182),e P oR 460 (.ref 189),e P oS 473 (.ref 196),e P oT 483 (.ref 203),e P AW 487 (.int 2 486),e P AX 489 (.int 2 488),e P oU 497 (.ref 210),e P oV 506 (.ref 217),e P oW 522 (.ref 224),e P oX 532 (.ref 231),e P oY 540 (.ref 238),e P oZ 548 (.ref 245),e P pb 554 (.ref 250),e P pd 560 (.ref 255),e P pe 566 (.ref 260),e P pi 576 (.ref 267),e P AY 580 (.int 8 579),e P AZ 582 (.int 5 581),e P pj 594 (.ref 274),e P pk 601 (.ref 281),e P kL 675 (.ref 336),e P pC 685 (.ref 347),e P pE 693 (.ref 354),e P pF 702 (.ref 361),e P pG 710 (.ref 368),e P pH 719 (.ref 375),e P pI 727 (.ref 382),e P pJ 740 (.ref 389),e P pK 751 (.ref 396),e P pL 761 (.ref 403),e P pM 772 (.ref 410),e P pN 786 (.ref 417),e P pO 804 (.ref 424),e P pP 812 (.ref 431),e P pQ 823 (.ref 438),e P pR 846 (.ref 445),e P pS 859 (.ref 452),e P pT 878 (.ref 459),e P pU 884 (.ref 464),e P pV 899 (.ref 471),e P pW 913 (.ref 478),e P pX 929 (.ref 485),e P pY 935 (.ref 490),e P pZ 954 (.ref 497),e P sM 970 (.ref 504)] 79),#[]⟩
noncomputable def vh (P:Params):Obj:=⟨.none,none,(.fields #[.int 1 0,.int 0 0,.ref 20,.int 5 0,.int 0 0,.ref 27,.int 7 0,.int 0 0,.ref 40,.int 9 0,.int 0 0,.ref 52,.int 11 0,.int 0 0,.ref 64,.int 13 0,.int 0 0,.ref 76,.int 15 0,.int 0 0,.ref 88,.int 17 0,.int 0 0,.ref 100,.int 19 0,.int 0 0,.ref 112,.int 22 0,.int 0 0,.ref 124,.int 24 0,.int 0 0,.ref 131,.int 26 0,.int 0 0,.ref 138,.int 28 0,.int 0 0,.ref 145,.int 35 0,.int 0 0,.ref 153,.int 40 0,.int 0 0,.ref 160,.int 51 0,.int 0 0,.ref 167,.int 55 0,.int 0 0,.ref 174,.int 62 0,.int 0 0,.ref 181,.int 67 0,.int 0 0,.ref 188,.int 74 0,.int 0 0,.ref 195,.int 85 0,.int 0 0,.ref 202,.int 91 0,.int 0 0,.ref 209,.int 93 0,.int 0 0,.ref 216,.int 95 0,.int 0 0,.ref 223,.int 109 0,.int 0 0,.ref 230,.int 112 0,.int 0 0,.ref 237,.int 117 0,.int 0 0,.ref 244,.int 119 0,.int 0 0,.ref 249,.int 123 0,.int 0 0,.ref 254,.int 135 0,.int 0 0,.ref 259,.int 144 0,.int 0 0,.ref 266,.int 150 0,.int 0 0,.ref 273,.int 157 0,.int 0 0,.ref 280,.int 159 0,.int 0 0,.ref 287,.int 197 0,.int 0 0,.ref 346,.int 201 0,.int 0 0,.ref 353,.int 203 0,.int 0 0,.ref 360,.int 210 0,.int 0 0,.ref 367,.int 213 0,.int 0 0,.ref 374,.int 217 0,.int 0 0,.ref 381,.int 220 0,.int 0 0,.ref 388,.int 228 0,.int 0 0,.ref 395,.int 231 0,.int 0 0,.ref 402,.int 238 0,.int 0 0,.ref 409,.int 242 0,.int 0 0,.ref 416,.int 253 0,.int 0 0,.ref 423,.int 264 0,.int 0 0,.ref 430,.int 266 0,.int 0 0,.ref 437,.int 273 0,.int 0 0,.ref 444,.int 294 0,.int 0 0,.ref 451,.int 300 0,.int 0 0,.ref 458,.int 315 0,.int 0 0,.ref 463,.int 319 0,.int 0 0,.ref 470,.int 333 0,.int 0 0,.ref 477,.int 341 0,.int 0 0,.ref 484,.int 355 0,.int 0 0,.ref 489,.int 363 0,.int 0 0,.ref 496,.int 377 0,.int 0 0,.ref 503]),#[]⟩
noncomputable def g15 (x0:Str)(x1:Nat)(x2 x3:Str)(P:Params):Obj:=⟨(.type L68),none,(.seq #[.str x0 x1,.str x2 (x1+1),.str x3 (x1+2)] 0),#[]⟩
noncomputable def Bu:=g15 jO 407 GL GM
noncomputable def Bv:=g3 oO 27
noncomputable def Bw:=g4 oO 404 oO 51 3 162 410
noncomputable def By:=g5 oO 27 lU 392 167
noncomputable def g16 (x0:Str)(x1:Nat)(x2 x3 x4 x5:Str)(P:Params):Obj:=⟨(.type L68),none,(.seq #[.str x0 x1,.str x2 (x1+1),.str x3 (x1+2),.str x4 (x1+3),.str x5 (x1+4)] 0),#[]⟩
noncomputable def Bz:=g16 ik 416 uK sN kJ GN
noncomputable def BA:=g3 oP 28
noncomputable def BB:=g4 oP 413 oP 55 2 169 421
noncomputable def BC:=g5 oP 28 lU 392 174
noncomputable def g17 (x0:Str)(x1:Nat)(x2 x3 x4 x5 x6 x7:Str)(P:Params):Obj:=⟨(.type L68),none,(.seq #[.str x0 x1,.str x2 (x1+1),.str x3 (x1+2),.str x4 (x1+3),.str x5 (x1+4),.str x6 (x1+5),.str x7 (x1+6)] 0),#[]⟩
noncomputable def BD:=g17 oN 427 uK wx wz ii ij sN
noncomputable def BE:=g3 oQ 29
noncomputable def BF:=g4 oQ 424 oQ 62 2 176 434
noncomputable def BG:=g5 oQ 29 lU 392 181
noncomputable def BH (P:Params):Obj:=⟨(.type L68),none,(.seq #[.str ik 440,.str uK 441,.str wx 442,.str wz 443,.str ii 444,.str ij 445,.str sN 446,.str kJ 447,.str AU 448,.str Ba 449,.str Bb 450,.str GO 451,.str GP 452,.str GQ 453,.str GR 454,.str GS 455,.str GT 456,.str GU 457] 0),#[]⟩
noncomputable def BI:=g3 oR 30
noncomputable def BJ:=g4 oR 437 oR 67 2 183 458
noncomputable def BK:=g5 oR 30 lU 392 188
noncomputable def BL:=g17 oN 464 ii ij jO ik Bc uK
noncomputable def BM:=g3 oS 31
noncomputable def BN:=g4 oS 461 oS 74 4 190 471
noncomputable def BO:=g5 oS 31 lU 392 195
noncomputable def g18 (x0:Str)(x1:Nat)(x2 x3 x4:Str)(P:Params):Obj:=⟨(.type L68),none,(.seq #[.str x0 x1,.str x2 (x1+1),.str x3 (x1+2),.str x4 (x1+3)] 0),#[]⟩
noncomputable def BP:=g18 oN 477 ii ij jO
noncomputable def BQ:=g3 oT 32
noncomputable def BR:=g4 oT 474 oT 85 4 197 481
noncomputable def BS:=g5 oT 32 lU 392 202
noncomputable def BU:=g12 uJ 493 kJ 494
noncomputable def BV:=g3 oU 36
noncomputable def BW:=g4 oU 490 oU 91 2 204 495
noncomputable def BX:=g5 oU 36 il 484 209
noncomputable def BY:=g15 uJ 501 kJ GV
noncomputable def BZ:=g3 oV 37
noncomputable def Ca:=g4 oV 498 oV 93 3 211 504
noncomputable def Cb:=g5 oV 37 il 484 216
noncomputable def g19 (x0:Str)(x1:Nat)(x2 x3 x4 x5 x6 x7 x8 x9 x10:Str)(P:Params):Obj:=⟨(.type L68),none,(.seq #[.str x0 x1,.str x2 (x1+1),.str x3 (x1+2),.str x4 (x1+3),.str x5 (x1+4),.str x6 (x1+5),.str x7 (x1+6),.str x8 (x1+7),.str x9 (x1+8),.str x10 (x1+9)] 0),#[]⟩
noncomputable def Cc:=g19 ik 510 uJ sN kJ Bd Bc GW GX Ba Bb
noncomputable def Cd:=g3 oW 38
noncomputable def Ce:=g4 oW 507 oW 95 3 218 520
noncomputable def Cf:=g5 oW 38 il 484 223
noncomputable def Cg:=g18 oN 526 ii ij sN
noncomputable def Ch:=g3 oX 39
noncomputable def Ci:=g4 oX 523 oX 109 4 225 530
noncomputable def Cj:=g5 oX 39 il 484 230
noncomputable def Ck:=g12 jO 536 kJ 537
noncomputable def Cl:=g3 oY 40
noncomputable def Cm:=g4 oY 533 oY 112 1 232 538
noncomputable def Cn:=g5 oY 40 il 484 237
noncomputable def Co:=g12 kJ 544 jO 545
noncomputable def Cp:=g3 oZ 41
noncomputable def Cq:=g4 oZ 541 oZ 117 2 239 546
noncomputable def Cr:=g5 oZ 41 il 484 244
noncomputable def Cs:=g3 pb 42
noncomputable def g20 (x0:Str)(x1:Nat)(x2:Str)(x3 x4 x5:Nat)(P:Params):Obj:=⟨(.type wQ),none,(.fields #[.str x0 x1,.str x2 (x1+1),.str kI (x1+2),.int x3 0,.int x4 0,.int 0 0,.int 0 0,.int 3 0,.ref x5,.bool true,.int 181 0,.ref (x5+1),.none,.none,.none,.ref (x5+2),.int (x1+3) 0,.int x3 0,.str kI (x1+4)]),#[]⟩
noncomputable def Ct:=g20 pb 549 pb 119 4 246
noncomputable def Cu:=g5 pb 42 il 484 249
noncomputable def Cv:=g3 pd 43
noncomputable def Cw:=g20 pd 555 pd 123 3 251
noncomputable def Cy:=g5 pd 43 il 484 254
noncomputable def Cz:=g3 pe 44
noncomputable def CA:=g20 pe 561 pe 135 1 256
noncomputable def CB:=g5 pe 44 il 484 259
noncomputable def CC:=g18 oN 570 ii ij GY
noncomputable def CD:=g3 pi 45
noncomputable def CF:=g4 pi 567 pi 144 4 261 574
noncomputable def CG:=g5 pi 45 il 484 266
noncomputable def CI:=g14 jO 586 ii ij GZ qb Hh
noncomputable def CJ:=g3 pj 49
noncomputable def CK:=g4 pj 583 pj 150 1 268 592
noncomputable def CL:=g5 pj 49 qc 577 273
noncomputable def CM:=g2 uI 598
noncomputable def CN:=g3 pk 50
noncomputable def CO:=g4 pk 595 pk 157 1 275 599
noncomputable def CP:=g5 pk 50 qc 577 280
noncomputable def CQ (P:Params):Obj:=⟨(.type L0),none,(.dict #[e P sJ 609 (.str qc 577),e P AS 611 (.str kL 610),e P sK 613 (.int 159 612),e P sO 619 (.ref 293),e P ik 626 (.ref 300),e P sP 633 (.ref 307),e P qb 639 (.ref 312),e P sQ 646 (.ref 319),e P sR 655 (.ref 326),e P sS 665 (.ref 333),e P sL 668 (.ref 334)] 11),#[]⟩
noncomputable def CS (P:Params):Obj:=⟨.none,none,(.fields #[.int 161 0,.int 4 0,.ref 292,.int 172 0,.int 4 0,.ref 299,.int 175 0,.int 4 0,.ref 306,.int 178 0,.int 4 0,.ref 311,.int 181 0,.int 4 0,.ref 318,.int 184 0,.int 4 0,.ref 325,.int 189 0,.int 4 0,.ref 332]),#[]⟩
noncomputable def CT:=g0 kL 604 159 285
noncomputable def CU:=g1 287 284 qc 577
noncomputable def g21 (x0 x1:Str)(x2:Nat)(P:Params):Obj:=⟨.none,none,(.func ⟨x0,x1,L2.defArgs (L2.inClass (tp 51) x2),(.stmts (L2.defBody (L2.inClass (tp 51) x2))),L2.defScope (L2.inClass (tp 51) x2),0,[],.none,.none,.none,.none,none,.none,.none,0⟩),#[]⟩
noncomputable def CV:=g21 sO wA 0
noncomputable def CW:=g20 sO 614 wA 161 3 289
noncomputable def g22 (x0 x1:Str)(x2 x3:Nat)(P:Params):Obj:=⟨(.type Bp),none,(.func ⟨x0,x1,L2.defArgs (L2.inClass (tp 51) x2),(.stmts (L2.defBody (L2.inClass (tp 51) x2))),L2.defScope (L2.inClass (tp 51) x2),3,[],.none,.none,.none,.str qc 577,none,.ref x3,.none,0⟩),#[]⟩
noncomputable def CY:=g22 sO wA 0 292
noncomputable def CZ:=g2 sT 623
noncomputable def Da:=g21 ik wB 1
noncomputable def Db:=g4 ik 620 wB 172 1 294 624
noncomputable def Dc:=g22 ik wB 1 299
noncomputable def De:=g2 sT 630
noncomputable def Df:=g21 sP wC 2
noncomputable def Dg:=g4 sP 627 wC 175 1 301 631
noncomputable def Dh:=g22 sP wC 2 306
noncomputable def Di:=g21 qb wD 3
noncomputable def Dj:=g20 qb 634 wD 178 1 308
noncomputable def Dk:=g22 qb wD 3 311
noncomputable def Dl:=g2 sT 643
noncomputable def Dm:=g21 sQ wE 4
noncomputable def Do:=g4 sQ 640 wE 181 1 313 644
noncomputable def Dp:=g22 sQ wE 4 318
noncomputable def Dq:=g15 sT 650 uI ww
noncomputable def Dr:=g21 sR wF 5
noncomputable def Ds:=g4 sR 647 wF 184 3 320 653
noncomputable def Du:=g22 sR wF 5 325
noncomputable def Dv:=g18 sT 659 uI ww Bd
noncomputable def Dw:=g21 sS wG 6
noncomputable def Dx:=g4 sS 656 wG 189 3 327 663
noncomputable def Dy:=g22 sS wG 6 332
noncomputable def Dz:=g12 Hi 666 Hj 667
noncomputable def DG (P:Params):Obj:=⟨(.type L0),none,(.dict #[e P sJ 609 (.str qc 577),e P sK 613 (.int 159 612),e P sO 619 (.ref 293),e P ik 626 (.ref 300),e P sP 633 (.ref 307),e P qb 639 (.ref 312),e P sQ 646 (.ref 319),e P sR 655 (.ref 326),e P sS 665 (.ref 333),e P sL 668 (.ref 334),e P Be 670 (.ref 337),e P wv 672 (.ref 338),e P S2 673 .none] 4),#[]⟩
noncomputable abbrev HZ:=SL.s11443829558043349243x14
noncomputable def DH (P:Params):Obj:=⟨(.type L69),none,(.cls ⟨kL,[.type L60],[.ref 336,.type L60],335,kL,true,[],[],false,none,false⟩),#[none,none,some (.str kL 602),some (.str kL 610),some (.builtin HZ),some (.bool true)]⟩
noncomputable abbrev Ia:=SL.s6511155373996960695x17
noncomputable abbrev Ib:=SL.s12411053484034534018x21
noncomputable def DJ (P:Params):Obj:=⟨(.type Bs),none,(.fields #[.str Be 669,.ref 336,.builtin Ia,.builtin Ib]),#[]⟩
noncomputable def DM:=g7 671 336
noncomputable def DN:=g8 336
noncomputable def DO:=g9 336
noncomputable def DQ:=g12 Bf 681 qd 682
noncomputable def DV:=g3 pC 53
noncomputable def DX:=g4 pC 678 pC 197 2 341 683
noncomputable def DY:=g5 pC 53 ci 676 346
noncomputable def DZ:=g12 Hk 689 qd 690
noncomputable def Ea:=g3 pE 54
noncomputable def Eb:=g4 pE 686 pE 201 2 348 691
noncomputable def Ec:=g5 pE 54 ci 676 353
noncomputable def Ed:=g15 io 697 Hl Ho
noncomputable def Ee:=g3 pF 55
noncomputable def Ef:=g4 pF 694 pF 203 2 355 700
noncomputable def Eg:=g5 pF 55 ci 676 360
noncomputable def Eh:=g12 io 706 wH 707
noncomputable def Ei:=g3 pG 56
noncomputable def Ej:=g4 pG 703 pG 210 1 362 708
noncomputable def Ek:=g5 pG 56 ci 676 367
noncomputable def El:=g15 io 714 uL Hq
noncomputable def Em:=g3 pH 57
noncomputable def En:=g4 pH 711 pH 213 3 369 717
noncomputable def Eo:=g5 pH 57 ci 676 374
noncomputable def Ep:=g12 io 723 wH 724
noncomputable def Er:=g3 pI 58
noncomputable def Es:=g4 pI 720 pI 217 1 376 725
noncomputable def Et:=g5 pI 58 ci 676 381
noncomputable def Eu:=g17 io 731 uL Hs Ht qd fU fV
noncomputable def Ev:=g3 pJ 59
noncomputable def Ew:=g4 pJ 728 pJ 220 2 383 738
noncomputable def Ex:=g5 pJ 59 ci 676 388
noncomputable def Ey:=g16 fW 744 wI Bg fU fV
noncomputable def Ez:=g3 pK 60
noncomputable def EA:=g4 pK 741 pK 228 3 390 749
noncomputable def EB:=g5 pK 60 ci 676 395
noncomputable def EC:=g18 fW 755 sU qd wI
noncomputable def ED:=g3 pL 61
noncomputable def EE:=g4 pL 752 pL 231 1 397 759
noncomputable def EF:=g5 pL 61 ci 676 402
noncomputable def EG:=g16 fW 765 fU fV sV wJ
noncomputable def EH:=g3 pM 62
noncomputable def EI:=g4 pM 762 pM 238 5 404 770
noncomputable def EJ:=g5 pM 62 ci 676 409
noncomputable def g23 (x0:Str)(x1:Nat)(x2 x3 x4 x5 x6:Str)(P:Params):Obj:=⟨(.type L68),none,(.seq #[.str x0 x1,.str x2 (x1+1),.str fU (x1+2),.str fV (x1+3),.str x3 (x1+4),.str x4 (x1+5),.str x5 (x1+6),.str x6 (x1+7)] 0),#[]⟩
noncomputable def EK:=g23 io 776 fW wH wI Bg Bh
noncomputable def EL:=g3 pN 63
noncomputable def EM:=g4 pN 773 pN 242 4 411 784
noncomputable def EN:=g5 pN 63 ci 676 416
noncomputable def EO (P:Params):Obj:=⟨(.type L68),none,(.seq #[.str io 790,.str fW 791,.str fU 792,.str fV 793,.str Hu 794,.str Hv 795,.str sV 796,.str Hw 797,.str wJ 798,.str wK 799,.str wL 800,.str Bi 801] 0),#[]⟩
noncomputable def EQ:=g3 pO 64
noncomputable def ER:=g4 pO 787 pO 253 6 418 802
noncomputable def ES:=g5 pO 64 ci 676 423
noncomputable def ET:=g12 Hz 808 HA 809
noncomputable def EU:=g3 pP 65
noncomputable def EV:=g4 pP 805 pP 264 2 425 810
noncomputable def EW:=g5 pP 65 ci 676 430
noncomputable def EX:=g16 fW 816 fU fV sW Bh
noncomputable def EY:=g3 pQ 66
noncomputable def EZ:=g4 pQ 813 pQ 266 4 432 821
noncomputable def Fa:=g5 pQ 66 ci 676 437
noncomputable def Fb (P:Params):Obj:=⟨(.type L68),none,(.seq #[.str fW 827,.str Bj 828,.str sW 829,.str wM 830,.str wN 831,.str fU 832,.str fV 833,.str sV 834,.str wJ 835,.str Bi 836,.str HB 837,.str wK 838,.str wL 839,.str Bk 840,.str HC 841,.str HD 842,.str HE 843] 0),#[]⟩
noncomputable def Fc:=g3 pR 67
noncomputable def Fd:=g4 pR 824 pR 273 3 439 844
noncomputable def Fe:=g5 pR 67 ci 676 444
noncomputable def Ff:=g17 Bl 850 sU wM wN fU fV Bm
noncomputable def Fg:=g3 pS 68
noncomputable def Fh:=g4 pS 847 pS 294 1 446 857
noncomputable def Fi:=g5 pS 68 ci 676 451
noncomputable def g24 (x0:Str)(x1:Nat)(x2 x3 x4 x5 x6 x7 x8 x9 x10 x11 x12 x13:Str)(P:Params):Obj:=⟨(.type L68),none,(.seq #[.str x0 x1,.str x2 (x1+1),.str x3 (x1+2),.str x4 (x1+3),.str x5 (x1+4),.str x6 (x1+5),.str x7 (x1+6),.str x8 (x1+7),.str x9 (x1+8),.str x10 (x1+9),.str x11 (x1+10),.str x12 (x1+11),.str x13 (x1+12)] 0),#[]⟩
noncomputable def Fj:=g24 fW 863 fU fV sW sV HF HG HI HJ Bj wK wL wO
noncomputable def Fk:=g3 pT 69
noncomputable def Fl:=g4 pT 860 pT 300 4 453 876
noncomputable def Fm:=g5 pT 69 ci 676 458
noncomputable def Fn:=g3 pU 70
noncomputable def Fo:=g20 pU 879 pU 315 2 460
noncomputable def Fp:=g5 pU 70 ci 676 463
noncomputable def Fq:=g13 fW 888 wM wN fU fV uM sU wO HL
noncomputable def Fs:=g3 pV 71
noncomputable def Ft:=g4 pV 885 pV 319 6 465 897
noncomputable def Fu:=g5 pV 71 ci 676 470
noncomputable def Fv:=g23 fW 903 wP uM sU Bl HM
noncomputable def Fw:=g3 pW 72
noncomputable def Fx:=g4 pW 900 pW 333 6 472 911
noncomputable def Fy:=g5 pW 72 ci 676 477
noncomputable def Fz:=g19 io 917 fW wP fU fV uM HN HP sU HQ
noncomputable def FA:=g3 pX 73
noncomputable def FB:=g4 pX 914 pX 341 6 479 927
noncomputable def FC:=g5 pX 73 ci 676 484
noncomputable def FD:=g3 pY 74
noncomputable def FE:=g20 pY 930 pY 355 3 486
noncomputable def FF:=g5 pY 74 ci 676 489
noncomputable def FG:=g24 io 939 fW uL HR fU fV sW qd sV wO Bk HS Bm
noncomputable def FH:=g3 pZ 75
noncomputable def FI:=g4 pZ 936 pZ 363 4 491 952
noncomputable def FJ:=g5 pZ 75 ci 676 496
noncomputable def FK:=g19 Bf 958 qd io uL fW wP fU fV sW uM
noncomputable def FL:=g3 sM 76
noncomputable def FM:=g4 sM 955 sM 377 1 498 968
noncomputable def FN:=g5 sM 76 ci 676 503
noncomputable def t1:Params->BT:=(f boot_o_0 (f boot_o_1 (f Bt (f boot_o_7 (f o11 (f o31 (f o12 (f o12 (f Cy z z) (f o11 z z)) (f o12 (f Dp z z) (f o12 z z))) (f o35 (f xI (f CT z z) (f EL z z)) (f Ce (f o11 z z) (f o11 z z)))) (f o35 (f o79 (f o11 (f o11 z z) (f EC z z)) (f o11 (f DG z z) (f Fo z z))) (f o12 (f BC (f De z z) (f EW z z)) (f o11 (f Ej z z) (f FH z z))))) (f o23 (f o12 (f o35 (f xq (f CC z z) (f o12 z z)) (f BP (f o11 z z) (f Fj z z))) (f wT (f Bw (f o12 z z) (f ER z z)) (f Cj (f Ee z z) (f o12 z z)))) (f o55 (f o12 (f o11 (f CN z z) (f o11 z z)) (f BZ (f DQ z z) (f Fu z z))) (f o11 (f o11 (f Dj z z) (f o11 z z)) (f o12 (f Eo z z) (f FM z z)))))) (f o11 (f o19 (f o35 (f o67 (f xn (f CA z z) (f Ev z z)) (f BN (f o11 z z) (f Fh z z))) (f o12 (f o12 (f CV z z) (f o12 z z)) (f Cg (f o11 z z) (f FA z z)))) (f o12 (f o35 (f xC (f o11 z z) (f EF z z)) (f o11 (f DN z z) (f Fq z z))) (f xa (f o11 (f Dh z z) (f o11 z z)) (f Cp (f El z z) (f o12 z z))))) (f o27 (f o43 (f o12 (f xw (f CG z z) (f EA z z)) (f BS (f Dw z z) (f Fm z z))) (f o35 (f Bz (f Db z z) (f ET z z)) (f o11 (f o12 z z) (f o11 z z)))) (f o35 (f o91 (f o11 (f o23 z z) (f o11 z z)) (f o12 (f DY z z) (f o11 z z))) (f xh (f BI (f Dl z z) (f Fc z z)) (f o11 (f o11 z z) z)))))) (f boot_o_5 (f boot_o_9 (f o17 (f o33 (f o65 (f o11 (f o12 z z) (f Eu z z)) (f o11 (f o12 z z) (f o11 z z))) (f o97 (f xK (f o11 z z) (f EN z z)) (f o11 (f Eb z z) (f Fz z z)))) (f o49 (f o81 (f xA (f CK z z) (f ED z z)) (f BW (f DJ z z) (f o11 z z))) (f wZ (f o12 (f Df z z) (f o12 z z)) (f Co (f o11 z z) (f FJ z z))))) (f o11 (f o41 (f o73 (f xt (f CD z z) (f o11 z z)) (f BQ (f Dv z z) (f Fk z z))) (f wV (f o11 (f o11 z z) (f o11 z z)) (f o12 (f Eg z z) (f FE z z)))) (f o57 (f o89 (f xF (f CP z z) (f EI z z)) (f Cb (f DV z z) (f o12 z z))) (f xg (f BH (f o11 z z) (f Fb z z)) (f Ct (f o12 z z) z))))) (f o13 (f o21 (f o37 (f o69 (f o11 (f o11 z z) (f Ex z z)) (f o11 (f Ds z z) (f o11 z z))) (f wS (f o11 (f CY z z) (f o11 z z)) (f Ch (f Ed z z) (f FC z z)))) (f o53 (f o85 (f o12 (f CM z z) (f o12 z z)) (f BY (f o11 z z) (f Fs z z))) (f xc (f BF (f o12 z z) (f EZ z z)) (f Cr (f Em z z) (f o11 z z))))) (f o11 (f o45 (f o77 (f o12 (f o12 z z) (f o11 z z)) (f o12 (f Dy z z) (f o12 z z))) (f wX (f BA (f o11 z z) (f EU z z)) (f Cm (f o11 z z) (f FG z z)))) (f o61 (f o93 (f xH (f o11 z z) (f EK z z)) (f o11 (f o12 z z) (f Fx z z))) (f xj (f BK (f Dm z z) (f Fe z z)) (f Cv (f Es z z) z))))))) (f boot_o_2 (f boot_o_4 (f boot_o_8 (f o12 (f o32 (f o64 (f xk (f o11 z z) (f o12 z z)) (f BL (f o11 z z) (f Ff z z))) (f o23 (f xJ (f CU z z) (f EM z z)) (f Cf (f Ea z z) (f o12 z z)))) (f o23 (f o80 (f xz (f CJ z z) (f o11 z z)) (f BV (f DH z z) (f Fp z z))) (f wY (f o11 (f o11 z z) (f o11 z z)) (f o12 (f Ek z z) (f FI z z))))) (f o24 (f o40 (f o23 (f o11 (f o11 z z) (f Ey z z)) (f o11 (f o12 z z) (f o11 z z))) (f wU (f By (f CZ z z) (f ES z z)) (f o11 (f Ef z z) (f FD z z)))) (f o56 (f o88 (f xE (f CO z z) (f EH z z)) (f Ca (f o11 z z) (f o11 z z))) (f o12 (f o12 (f Dk z z) (f o12 z z)) (f Cs (f o11 z z) (f FN z z)))))) (f vh (f o20 (f o23 (f o68 (f xo (f CB z z) (f Ew z z)) (f BO (f Dr z z) (f Fi z z))) (f wR (f Bu (f CW z z) (f EO z z)) (f o11 (f o12 z z) (f FB z z)))) (f o52 (f o23 (f o11 (f o12 z z) (f o11 z z)) (f o12 (f DO z z) (f o11 z z))) (f xb (f BE (f o11 z z) (f EY z z)) (f Cq (f o11 z z) (f FK z z))))) (f o28 (f o44 (f o76 (f o11 (f o11 z z) (f EB z z)) (f o11 (f Dx z z) (f o11 z z))) (f o23 (f o11 (f Dc z z) (f o11 z z)) (f Cl (f Eh z z) (f o12 z z)))) (f o23 (f o92 (f o12 (f CQ z z) (f o12 z z)) (f Cc (f o11 z z) (f Fw z z))) (f xi (f BJ (f o11 z z) (f Fd z z)) (f o12 (f Er z z) z)))))) (f boot_o_6 (f boot_o_10 (f o11 (f o34 (f o11 (f xm (f Cz z z) (f o11 z z)) (f BM (f Dq z z) (f Fg z z))) (f o11 (f o11 (f o12 z z) (f o11 z z)) (f o12 (f Ec z z) (f o11 z z)))) (f o11 (f o82 (f xB (f CL z z) (f EE z z)) (f BX (f DM z z) (f o12 z z))) (f o11 (f BD (f Dg z z) (f EX z z)) (f o11 (f o12 z z) (f o11 z z))))) (f o12 (f o11 (f o11 (f xu (f CF z z) (f Ez z z)) (f BR (f o11 z z) (f Fl z z))) (f wW (f o12 (f Da z z) (f o12 z z)) (f Ck (f o11 z z) (f FF z z)))) (f o58 (f o11 (f xG (f o11 z z) (f EJ z z)) (f o11 (f DX z z) (f Fv z z))) (f o11 (f o11 (f o12 z z) (f o11 z z)) (f Cu (f Ep z z) z))))) (f o14 (f o22 (f o11 (f o70 (f o12 (f o12 z z) (f o11 z z)) (f o12 (f Du z z) (f o12 z z))) (f o11 (f Bv (f o11 z z) (f EQ z z)) (f Ci (f o11 z z) (f o11 z z)))) (f o11 (f o11 (f xD (f o11 z z) (f EG z z)) (f o11 (f o12 z z) (f Ft z z))) (f xf (f BG (f Di z z) (f Fa z z)) (f o11 (f En z z) (f FL z z))))) (f o30 (f o46 (f o11 (f xy (f CI z z) (f o12 z z)) (f BU (f Dz z z) (f Fn z z))) (f o11 (f BB (f o12 z z) (f EV z z)) (f Cn (f Ei z z) (f o11 z z)))) (f o11 (f o94 (f o11 (f CS z z) (f o11 z z)) (f Cd (f DZ z z) (f Fy z z))) (f o11 (f o11 (f Do z z) (f o11 z z)) (f Cw (f Et z z) z))))))))
noncomputable abbrev s1 (w:World) (os:OsState):SharedT:=⟨t1 w.params,505,{ },(Array.mk []),⟨0,0,0,0⟩,971,os⟩
noncomputable abbrev p1:Pos:=⟨377,0,394,15⟩
noncomputable abbrev st1:List Stmt:=(pt.main.body.drop 26).take 51
theorem q1 (w:World):(λ os=>segRunT treeTable pt w m0 an 1 1873 (s0 w os) ⟨(execs st1 en).wrap doneF deadEnd id id,cE,p0,B⟩)=λ os=>some (.next,s1 w os,cE,p1):=by
 rw [PySem.W.Fast.te10110043849684766642,PySem.W.Fast.te14364793385576792824,PySem.W.Fast.te12563942051412417395]; kernel_rfl
noncomputable def hF (P:Params):Heap:=⟨⟨[boot_o_0 P,boot_o_1 P,boot_o_2 P,Bt P,boot_o_4 P,boot_o_5 P,boot_o_6 P,boot_o_7 P,boot_o_8 P,boot_o_9 P,boot_o_10 P,o11 P,vh P,o13 P,o14 P,o11 P,o12 P,o17 P,o11 P,o19 P,o20 P,o21 P,o22 P,o23 P,o24 P,o11 P,o12 P,o27 P,o28 P,o11 P,o30 P,o31 P,o32 P,o33 P,o34 P,o35 P,o23 P,o37 P,o11 P,o12 P,o40 P,o41 P,o11 P,o43 P,o44 P,o45 P,o46 P,o35 P,o23 P,o49 P,o11 P,o12 P,o52 P,o53 P,o11 P,o55 P,o56 P,o57 P,o58 P,o35 P,o23 P,o61 P,o11 P,o12 P,o64 P,o65 P,o11 P,o67 P,o68 P,o69 P,o70 P,o35 P,o23 P,o73 P,o11 P,o12 P,o76 P,o77 P,o11 P,o79 P,o80 P,o81 P,o82 P,o35 P,o23 P,o85 P,o11 P,o12 P,o88 P,o89 P,o11 P,o91 P,o92 P,o93 P,o94 P,o35 P,o23 P,o97 P,o11 P,o12 P,wR P,wS P,o11 P,wT P,wU P,wV P,wW P,o35 P,o23 P,wX P,o11 P,o12 P,wY P,wZ P,o11 P,xa P,xb P,xc P,xf P,o11 P,o12 P,xg P,o11 P,xh P,xi P,xj P,o11 P,o12 P,xk P,o11 P,xm P,xn P,xo P,o11 P,o12 P,xq P,o11 P,xt P,xu P,xw P,o11 P,o12 P,xy P,o11 P,xz P,xA P,xB P,xC P,o11 P,o12 P,xD P,o11 P,xE P,xF P,xG P,o11 P,o12 P,xH P,o11 P,xI P,xJ P,xK P,o11 P,o12 P,Bu P,o11 P,Bv P,Bw P,By P,o11 P,o12 P,Bz P,o11 P,BA P,BB P,BC P,o11 P,o12 P,BD P,o11 P,BE P,BF P,BG P,o11 P,o12 P,BH P,o11 P,BI P,BJ P,BK P,o11 P,o12 P,BL P,o11 P,BM P,BN P,BO P,o11 P,o12 P,BP P,o11 P,BQ P,BR P,BS P,o11 P,o12 P,BU P,o11 P,BV P,BW P,BX P,o11 P,o12 P,BY P,o11 P,BZ P,Ca P,Cb P,o11 P,o12 P,Cc P,o11 P,Cd P,Ce P,Cf P,o11 P,o12 P,Cg P,o11 P,Ch P,Ci P,Cj P,o11 P,o12 P,Ck P,o11 P,Cl P,Cm P,Cn P,o11 P,o12 P,Co P,o11 P,Cp P,Cq P,Cr P,o11 P,o12 P,Cs P,Ct P,Cu P,o11 P,o12 P,Cv P,Cw P,Cy P,o11 P,o12 P,Cz P,CA P,CB P,o11 P,o12 P,CC P,o11 P,CD P,CF P,CG P,o11 P,o12 P,CI P,o11 P,CJ P,CK P,CL P,o11 P,o12 P,CM P,o11 P,CN P,CO P,CP P,o11 P,o23 P,CQ P,o11 P,CS P,CT P,CU P,o11 P,o12 P,CV P,CW P,CY P,o11 P,o12 P,CZ P,o11 P,Da P,Db P,Dc P,o11 P,o12 P,De P,o11 P,Df P,Dg P,Dh P,o11 P,o12 P,Di P,Dj P,Dk P,o11 P,o12 P,Dl P,o11 P,Dm P,Do P,Dp P,o11 P,o12 P,Dq P,o11 P,Dr P,Ds P,Du P,o11 P,o12 P,Dv P,o11 P,Dw P,Dx P,Dy P,Dz P,DG P,DH P,DJ P,DM P,DN P,DO P,o11 P,o12 P,DQ P,o11 P,DV P,DX P,DY P,o11 P,o12 P,DZ P,o11 P,Ea P,Eb P,Ec P,o11 P,o12 P,Ed P,o11 P,Ee P,Ef P,Eg P,o11 P,o12 P,Eh P,o11 P,Ei P,Ej P,Ek P,o11 P,o12 P,El P,o11 P,Em P,En P,Eo P,o11 P,o12 P,Ep P,o11 P,Er P,Es P,Et P,o11 P,o12 P,Eu P,o11 P,Ev P,Ew P,Ex P,o11 P,o12 P,Ey P,o11 P,Ez P,EA P,EB P,o11 P,o12 P,EC P,o11 P,ED P,EE P,EF P,o11 P,o12 P,EG P,o11 P,EH P,EI P,EJ P,o11 P,o12 P,EK P,o11 P,EL P,EM P,EN P,o11 P,o12 P,EO P,o11 P,EQ P,ER P,ES P,o11 P,o12 P,ET P,o11 P,EU P,EV P,EW P,o11 P,o12 P,EX P,o11 P,EY P,EZ P,Fa P,o11 P,o12 P,Fb P,o11 P,Fc P,Fd P,Fe P,o11 P,o12 P,Ff P,o11 P,Fg P,Fh P,Fi P,o11 P,o12 P,Fj P,o11 P,Fk P,Fl P,Fm P,o11 P,o12 P,Fn P,Fo P,Fp P,o11 P,o12 P,Fq P,o11 P,Fs P,Ft P,Fu P,o11 P,o12 P,Fv P,o11 P,Fw P,Fx P,Fy P,o11 P,o12 P,Fz P,o11 P,FA P,FB P,FC P,o11 P,o12 P,FD P,FE P,FF P,o11 P,o12 P,FG P,o11 P,FH P,FI P,FJ P,o11 P,o12 P,FK P,o11 P,FL P,FM P,FN P]⟩,{ }⟩
noncomputable abbrev sF (w:World) (os:OsState):Shared:=⟨hF w.params,(Array.mk []),⟨0,0,0,0⟩,971,os⟩
theorem fin (w:World):(λ os=>topRun treeTable pt w m0 an 2 (s1 w os).abs ⟨doneF .next,cE,p1,B⟩)=λ os=>some (sF w os):=by
 rw [PySem.W.Fast.te14082659384304107361,PySem.W.Fast.te14364793385576792824]; kernel_rfl
theorem uN:behindTheImports pt=st0 ++ (st1 ++ ([])):=by kernel_rfl
noncomputable abbrev MM:Nat:=12 + (1 + (2000 + (1873 + 2)))
theorem xL (w:World) (os:OsState):topRun treeTable pt w m0 an MM (sZ w os) (topStub pt)=some (sF w os) :=
 go_top (congrFun (pre w) os) (piece_block (congrFun (blk w) os) (uN ▸ (piece_app (l:=st0) (segRun_of (congrFun (q0 w) os)) (piece_app (l:=st1) (segRun_of (congrFun (q1 w) os)) (piece_nil (congrFun (fin w) os))))))
noncomputable def loose:List Str:=[lV,jN,oF,oG,oH,oI,oJ,oK,oM,lW,lX,lY,lZ,wd,wg,wk,ma,md,wm,wn,wr,wu,AV,oO,oP,oQ,oR,oS,oT,AW,AX,oU,oV,oW,oX,oY,oZ,pb,pd,pe,pi,AY,AZ,pj,pk,kL,pC,pE,pF,pG,pH,pI,pJ,pK,pL,pM,pN,pO,pP,pQ,pR,pS,pT,pU,pV,pW,pX,pY,pZ]
noncomputable abbrev NN:Nat:=7868
noncomputable abbrev q:Program:=view pt [76]
noncomputable abbrev Xt:Shared->Bool:=λ s=>xlAt q [] s && recOk [] s
theorem size (w:World):((boot_heap w.params).isNs mainGlobals && (Array.mk []:Array GenState).size == 0,(boot_heap w.params).objs.size,(boot_heap w.params).nsMap mainGlobals "__annotations__")=(true,m0,an):=by
 rw [PySem.W.Fast.te8920871248978507458]; kernel_rfl
theorem FO (w:World):(λ os=>((staticsOk (importedModules pt.main.body) (boot_heap w.params) (hF w.params) && namesBound pt (hF w.params) && gensDone (sF w os) && laidKept (boot_heap w.params) (hF w.params)),openSeen q loose (importedModules pt.main.body) Xt true (sF w os),HK.obs (sF w os)))=λ _=>(true,openGood q loose,HK.val w):=by
 rw [PySem.W.Fast.te4187177175401517315,PySem.W.Fast.te5923862056798008813]; kernel_rfl
theorem left:LeftO pt q loose Xt HK.obs HK.val NN true:=LeftO.of_pieces (boot_open (by kernel_rfl) (by decide) (λ s=>rfl)) size xL (by decide) FO
end Hd
open PySem PySem.W PyProof.Rows
set_option maxRecDepth 100000 in
set_option maxHeartbeats 0 in
theorem PySem.Challenge.cw_platecuts_k82_whole_trees_of_tellings_holds : PySem.Challenge.rw_platecuts_k82_whole_trees_of_tellings.Holds := by
 w_on; o_law
 refine holds_open (q:=view PySem.Challenge.pw_platecuts_k82_whole_trees_of_tellings [76]) (loose:=Hd.loose) (Xt:=λ s=>xlAt (view PySem.Challenge.pw_platecuts_k82_whole_trees_of_tellings [76]) [] s && recOk [] s) (XP:=XL (view PySem.Challenge.pw_platecuts_k82_whole_trees_of_tellings [76]) []) (Yf:=Hook.obs Hd.HK) (Ya:=Hook.val Hd.HK) (YP:=InK Pc.kK) (N:=Hd.NN) ?hl (Hook.of Hd.HK) (Hook.keeps Hd.HK) (λ s e=>xl_of s (Bool.and_eq_true_iff.mp e).1) XL.keeps (by rfl) (by rfl) (by rfl) (λ s e=>recFacts_of (Bool.and_eq_true_iff.mp e).2) (by rfl) (by first | assumption | decide +kernel) (by decide +kernel) ⟨rfl,rfl,rfl,rfl,rfl,by decide +kernel⟩ ?hw ?hc
 case hl=>exact Hd.pt_eq ▸ Hd.left
 case hw=>w_witness2
 k_fill
 refine Pc.walk (l:=PySem.Challenge.rw_platecuts_k82_whole_trees_of_tellings) rfl rfl (λ w h YY0=>YY0) ?F
 case F =>
  intro w mg fa h KX G hmg
  refine' Pc.all_mk KX G hmg ?d0 ?d1 ?d2 ?d3 ?d4 ?d5 ?d6 ?d7 ?d8 ?d9 ?d10 ?d11 ?d12 ?d13 ?d14 ?d15 ?d16 ?d17 ?d18 ?d19 ?d20 ?d21 ?d22 ?d23 ?d24 ?d25 ?d26 ?d27 ?d28 ?d29 ?d30 ?d31 ?d32 ?d33 ?d34 ?d35 ?d36 ?d37 ?d38 ?d39 ?d40 ?d41 ?d42 ?d43 ?d44 ?d45 ?d46 ?d47 ?aC ?dm0 ?dm1 ?dm2 ?dm3 ?pg ?hd ?po ?sa ?mk ?kc ?n0 ?n1 ?eWAYS ?lWAYS ?z0 ?z1 ?z2 ?z3 ?z4 ?z5 ?z6 ?z7 ?z8 ?z9 ?z10 ?z11 ?z12 ?z13 ?z14 ?z15 ?z16 ?z17 ?z18 ?uc0 ?uc1 ?uc2 ?uc3 ?uc4 ?uc5 ?uc6 ?uc7 ?uc8 ?uc9
  (case d0 | d1 | d2 | d3 | d4 | d5 | d6 | d7 | d8 | d9 | d10 | d11 | d12 | d13 | d14 | d15 | d16 | d17 | d18 | d19 | d20 | d21 | d22 | d23 | d24 | d25 | d26 | d27 | d28 | d29 | d30 | d31 | d32 | d33 | d34 | d35 | d36 | d37 | d38 | d39 | d40 | d41 | d42 | d43 | d44 | d45 | d46 | d47=>refine' Pc.diM ?a ?l ?c ?k; (case a=>k_is); (case l=>k_is); (case c=>k_is); (case k=>k_is))
  (case aC=>k_is)
  (case dm0 | dm1 | dm2 | dm3=>refine' Pc.miM ?a ?i ?l ?c ?k; (case a=>k_is); (case i=>k_is); (case l=>k_is); (case c=>k_is); (case k=>k_is))
  (case pg | hd | po | sa | mk | kc | n0 | n1 | eWAYS=>k_is)
  (case lWAYS=>exact ⟨_,_,_,Y,Y,Y,by decide,.cons ⟨_,Y⟩ (.cons ⟨_,Y⟩ .nil)⟩)
  (case z0 | z1 | z2 | z3 | z4 | z5 | z6 | z7 | z8 | z9 | z10 | z11 | z12 | z13 | z14 | z15 | z16 | z17 | z18 | uc0 | uc1 | uc2 | uc3 | uc4 | uc5 | uc6 | uc7 | uc8 | uc9=>k_is)