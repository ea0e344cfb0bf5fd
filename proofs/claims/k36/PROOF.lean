import PyProof.Rows.All
import Wide.All
import OpenK.AllK
import Wide.FinOn
import Lean
import PyProof.EqAt
import PyProof.EqKinds
import PyProof.TupleCall
import PyProof.IsiBase
import PyProof.ExcArgsOwn
import PyProof.ExcAttrAll.ValueError
import PyProof.Draws
import PyProof.WalksMore
import PyProof.EnumMake
import PyProof.ReprRoads
import PyProof.Rows.SortWalk
import PyProof.Rows.SumAny
import PyProof.FitsBits
import KE.KSortTup
import PyProof.FactsAll.dict_1
import PyProof.FactsAll.subtypes_4
import PyProof.FactsAll.subtypes_1
import PyProof.FactsAll.subtypes_2
import PySem.Challenge.RW_platecuts_k36_layings_refused
set_option Elab.async false
set_option linter.all false
set_option maxRecDepth 100000
namespace L2
open PySem PySem.Spec PyProof.Rows
abbrev Key:=Sum Int Str
def rT:Key→Value→Bool
 | .inl k,v=>Value.isInt k v
 | .inr x,v=>Value.isStrOf x v
def CL (w:World):Key→Int
 | .inl k=>hashInt k
 | .inr x=>hashStr w x
theorem aZ:∀ {k:Key} {v:Value},rT k v=true→(∃i t,k=Sum.inl i∧v=Value.int i t)∨(∃x t,k=Sum.inr x∧v=Value.str x t)
 | .inl i,v,h=>by
  obtain ⟨t,e⟩:=Value.isInt_shape (k:=i) (v:=v) h
  exact .inl ⟨i,t,rfl,e⟩
 | .inr x,v,h=>by
  obtain ⟨t,e⟩:=Value.isStrOf_shape (x:=x) (v:=v) h
  exact .inr ⟨x,t,rfl,e⟩
theorem sC (a b:Int):decide ((Sum.inl a:Key)=Sum.inl b)=(a == b):=by
 by_cases e:a=b
 ·subst e; simp
 ·have h:¬ (Sum.inl a:Key)=Sum.inl b:=fun q=>e (Sum.inl.inj q)
  rw [decide_eq_false h]
  exact (beq_eq_false_iff_ne.mpr e).symm
theorem sD (a b:Str):decide ((Sum.inr a:Key)=Sum.inr b)=decide (a=b):=by
 by_cases e:a=b
 ·subst e; simp
 ·have h:¬ (Sum.inr a:Key)=Sum.inr b:=fun q=>e (Sum.inr.inj q)
  rw [decide_eq_false h,decide_eq_false e]
theorem sE (a:Int) (b:Str):decide ((Sum.inl a:Key)=Sum.inr b)=false:=decide_eq_false (fun q=>nomatch q)
theorem sG (a:Str) (b:Int):decide ((Sum.inr a:Key)=Sum.inl b)=false:=decide_eq_false (fun q=>nomatch q)
def fz (prog:Program) (w:World):PySem.KeyKind prog w Key where
 is:=rT
 hash:=CL w
 inj:=fun v a b ha hb=>by
  rcases aZ ha with ⟨i,t,rfl,rfl⟩ | ⟨x,t,rfl,rfl⟩
  ·rcases aZ hb with ⟨j,u,rfl,e⟩ | ⟨y,u,rfl,e⟩
   ·injection e with e1 _; rw [e1]
   ·exact nomatch e
  ·rcases aZ hb with ⟨j,u,rfl,e⟩ | ⟨y,u,rfl,e⟩
   ·exact nomatch e
   ·injection e with e1 _; rw [e1]
 byValue:=fun k v h=>by
  rcases aZ h with ⟨i,t,rfl,rfl⟩ | ⟨x,t,rfl,rfl⟩ <;> rfl
 pyHash:=fun hv h=>by
  rcases aZ hv with ⟨i,t,rfl,rfl⟩ | ⟨x,t,rfl,rfl⟩
  ·exact wpAny_pyHash_int h
  ·exact wpAny_pyHash_str h
 eqBool:=fun hu hv h=>by
  rcases aZ hu with ⟨i,t,rfl,rfl⟩ | ⟨x,t,rfl,rfl⟩
  ·rcases aZ hv with ⟨j,u,rfl,rfl⟩ | ⟨y,u,rfl,rfl⟩
   ·rw [sC] at h; exact wpAny_eqBool_int h
   ·rw [sE] at h; exact SeqAt.EqAt.int_str i t y u _ _ _ _ h
  ·rcases aZ hv with ⟨j,u,rfl,rfl⟩ | ⟨y,u,rfl,rfl⟩
   ·rw [sG] at h; exact SeqAt.EqAt.str_int x t j u _ _ _ _ h
   ·rw [sD] at h; exact wpAny_eqBool_str h
 «strs» := fun k x t v h=>by
  rcases aZ h with ⟨i,u,rfl,e⟩ | ⟨y,u,rfl,e⟩
  ·exact nomatch e
  ·injection e with e1 _
   subst e1
   cases v <;> rfl
end L2
namespace L2
open PySem PySem.Spec PyProof.Rows
inductive V where
 | non | bl (b:Bool) | int (i:Int) | str (x:Str) | byt (b:Array UInt8) | flt (b:UInt64) | ref (a:Addr) | ty (n:String)
 deriving DecidableEq
def RelV:V→Value→Prop
 | .non,u=>u=Value.none
 | .bl b,u=>u=Value.bool b
 | .int i,u=>∃t,u=Value.int i t
 | .str x,u=>∃t,u=Value.str x t
 | .byt b,u=>∃t,u=Value.bytes b t
 | .flt b,u=>∃t,u=Value.float b t
 | .ref a,u=>u=Value.ref a
 | .ty n,u=>u=Value.type n
abbrev Vals:List V→List Value→Prop:=Paired RelV
theorem Vals.length {xs:List V} {us:List Value} (r:Vals xs us):xs.length=us.length:=Paired.length r
theorem Vals.get:∀ {xs:List V} {us:List Value} {i:Nat} {x:V},Vals xs us→xs[i]? = some x→∃u,us[i]? = some u∧RelV x u
 | _,_,_,_,.nil,e=>by simp at e
 | _,_,0,_,.cons r _,e=>by simp at e; subst e; exact ⟨_,rfl,r⟩
 | _,_,i + 1,x,.cons _ t,e=>by
  obtain ⟨u,h1,h2⟩:=Vals.get (i:=i) (x:=x) t (by simpa using e)
  exact ⟨u,by simpa using h1,h2⟩
theorem Vals.set {x:V} {u:Value} (r:RelV x u):∀ {xs:List V} {us:List Value} (i:Nat),Vals xs us→Vals (xs.set i x) (us.set i u)
 | _,_,_,.nil=>.nil
 | _,_,0,.cons _ t=>.cons r t
 | _,_,i + 1,.cons q t=>.cons q (Vals.set r i t)
theorem Vals.append:∀ {xs ys:List V} {us ws:List Value},Vals xs us→Vals ys ws→Vals (xs ++ ys) (us ++ ws)
 | _,_,_,_,.nil,s=>s
 | _,_,_,_,.cons r t,s=>.cons r (Vals.append t s)
theorem Vals.take:∀ {xs:List V} {us:List Value} (n:Nat),Vals xs us→Vals (xs.take n) (us.take n)
 | _,_,0,_=>.nil
 | _,_,_ + 1,.nil=>.nil
 | _,_,n + 1,.cons r t=>.cons r (Vals.take n t)
theorem Vals.drop:∀ {xs:List V} {us:List Value} (n:Nat),Vals xs us→Vals (xs.drop n) (us.drop n)
 | _,_,0,r=>r
 | _,_,_ + 1,.nil=>.nil
 | _,_,n + 1,.cons _ t=>Vals.drop n t
def RelO:Option V→Option Value→Prop
 | some v,some u=>RelV v u
 | none,none=>True
 | _,_=>False
def KV {κ:Type}:List (κ×V)→List (κ×Value)→Prop:=Paired fun (p:κ×V) (q:κ×Value)=>p.1=q.1∧RelV p.2 q.2
def kV:Key→V
 | .inl i=>.int i
 | .inr x=>.str x
inductive HO where
 | lst (xs:List V)
 | tup (xs:List V)
 | dK (kvs:List (Key×V)) | dT (kvs:List (List Key×V))
 | set (S:Int→Bool) (n:Nat)
 | ins (C dx:Addr) (fs:List (Str×V))
 | own (x:Addr)
 | xd (fs:List (Str×V))
 | met (f x:Addr)
 | rng (lo hi:Int)
 | frz (o:Obj) (u:HO)
 | tbl (ps:Array Value)
 | ext (φ:Heap→Prop)
abbrev Hp:=Addr→Option HO
def upd (H:Hp) (a:Addr) (o:HO):Hp:=fun b=>if b=a then some o else H b
theorem ag {H:Hp} {a:Addr} {o:HO}:upd H a o a=some o:=by unfold upd; rw [if_pos rfl]
theorem au {H:Hp} {a b:Addr} {o:HO} (h:b≠a):upd H a o b=H b:=by unfold upd; rw [if_neg h]
theorem ai {H:Hp} {a b:Addr} {o:HO} (h:H a=some o) (h':H b=none):a≠b:=by
 intro e; subst e; rw [h] at h'; cases h'
section
variable (P:Program) (w:World)
def ObjOk (H:Hp) (h:Heap) (a:Addr):HO→Prop
 | .lst xs=>xs.length≤sizeLine∧∃ (its:List Value) (n:Nat),Vals xs its∧h.get? a=some { cls:=.type "list",data:=.seq its.toArray n }
 | .tup xs=>xs.length≤sizeLine∧∃its:List Value,Vals xs its∧IsTup h a its.toArray
 | .dK kvs=>kvs.length≤sizeLine∧(a == sysModules)=false∧∃vs,KV kvs vs∧h.DictOf (fz P w) a vs
 | .dT kvs=>kvs.length≤sizeLine∧(a == sysModules)=false∧∃xs:List (List Key×Addr×Value),
   Paired (fun (p:List Key×V) (q:List Key×Addr×Value)=>p.1=q.1∧H q.2.1=some (.tup (p.1.map kV))∧RelV p.2 q.2.2) kvs xs ∧
   ∃o es ep,h.get? a=some o∧o.ExactDict∧o.data=.dict es ep∧es.toList=xs.map (entryOfKey (tupleKind (fz P w)))∧(xs.map (·.1)).Nodup
 | .set S n=>h.SetOf (intKind P w) a S n
 | .ins C dx fs=>H dx=some (.own a)∧fs.length≤1000∧dx≠a∧h.get? a=some (PySem.W.instObj C dx) ∧
   ∃mA,h.Ns1 dx mA∧(∀f,RelO (fs.lookup f) (mA f))∧PySem.Within mA (fs.map (·.1))
 | .own _=>∃o,h.get? a=some o
 | .xd fs=>∃mA,h.Ns1 a mA∧∀f,RelO (fs.lookup f) (mA f)
 | .rng lo hi=>∃t u v,h.get? a=some { cls:=.type "range",data:=.fields #[.int lo t,.int hi u,.int 1 v] }
 | .frz o u=>h.get? a=some o∧ObjOk H h a u
 | .tbl ps=>h.get? a=some { cls:=.none,data:=.fields ps }
 | .met f x=>h.get? a=some (PySem.W.methodObj (.ref f) (.ref x))
 | .ext φ=>φ h∧(∃o,h.get? a=some o)∧∀h1 h2:Heap,φ h1→(∀o,h1.get? a=some o→h2.get? a=some o)→φ h2
def HOk (H:Hp) (h:Heap):Prop:=∀a o,H a=some o→ObjOk P w H h a o
end
section
variable {P:Program} {w:World} {H H':Hp} {h h':Heap} {a:Addr} {o:HO}
theorem ObjOk.lt (x:ObjOk P w H h a o):a < h.objs.size:=by
 cases o with
 | lst xs=>obtain ⟨_,_,_,_,e⟩:=x; exact Heap.lt_size e
 | tup xs=>obtain ⟨_,_,_,p⟩:=x; exact p.lt
 | dK kvs=>obtain ⟨_,_,_,_,o,_,_,e,_⟩:=x; exact Heap.lt_size e
 | dT kvs=>obtain ⟨_,_,_,_,o,_,_,e,_⟩:=x; exact Heap.lt_size e
 | set S n=>obtain ⟨o,_,_,_,e,_⟩:=x; exact Heap.lt_size e
 | ins C dx fs=>obtain ⟨_,_,_,e,_⟩:=x; exact Heap.lt_size e
 | own y=>obtain ⟨_,e⟩:=x; exact Heap.lt_size e
 | xd fs=>obtain ⟨_,⟨_,_,_,e,_⟩,_⟩:=x; exact Heap.lt_size e
 | rng lo hi=>obtain ⟨_,_,_,e⟩:=x; exact Heap.lt_size e
 | frz ob u=>obtain ⟨e,_⟩:=x; exact Heap.lt_size e
 | tbl ps=>exact Heap.lt_size (show h.get? a=some _ from x)
 | met f y=>exact Heap.lt_size (show h.get? a=some _ from x)
 | ext φ=>obtain ⟨_,⟨_,e⟩,_⟩:=x; exact Heap.lt_size e
theorem Paired.mapP {α β:Type} {F G:α→β→Prop}:∀ {l₁:List α} {l₂:List β},Paired F l₁ l₂→(∀a b,F a b→G a b)→Paired G l₁ l₂
 | _,_,.nil,_=>.nil
 | _,_,.cons r t,f=>.cons (f _ _ r) (Paired.mapP t f)
theorem ObjOk.stay (x:ObjOk P w H h a o) (k:∀b u,(b=a∨H b=some (.own a))→h.get? b=some u→h'.get? b=some u)
  (ho:∀b,H b=some (.own a)→H' b=some (.own a)) (ht:∀b xs,H b=some (.tup xs)→H' b=some (.tup xs)):ObjOk P w H' h' a o:=by
 induction o with
 | lst xs=>obtain ⟨z,its,n,r,e⟩:=x; exact ⟨z,its,n,r,k _ _ (.inl rfl) e⟩
 | tup xs=>obtain ⟨z,its,r,ob,e,c⟩:=x; exact ⟨z,its,r,ob,k _ _ (.inl rfl) e,c⟩
 | dK kvs=>obtain ⟨z,y,vs,r,ob,es,ep,e,c⟩:=x; exact ⟨z,y,vs,r,ob,es,ep,k _ _ (.inl rfl) e,c⟩
 | dT kvs =>
  obtain ⟨z,y,xs,r,ob,es,ep,e,c⟩:=x
  exact ⟨z,y,xs,Paired.mapP r fun p q z=>⟨z.1,ht _ _ z.2.1,z.2.2⟩,ob,es,ep,k _ _ (.inl rfl) e,c⟩
 | set S n=>obtain ⟨ob,es,ep,t,e,c⟩:=x; exact ⟨ob,es,ep,t,k _ _ (.inl rfl) e,c⟩
 | ins C dx fs =>
  obtain ⟨d,z,ne,e,mA,⟨od,es,ep,e2,c⟩,r⟩:=x
  exact ⟨ho _ d,z,ne,k _ _ (.inl rfl) e,mA,⟨od,es,ep,k _ _ (.inr d) e2,c⟩,r⟩
 | own y=>obtain ⟨ob,e⟩:=x; exact ⟨ob,k _ _ (.inl rfl) e⟩
 | xd fs=>obtain ⟨mA,⟨od,es,ep,e,c⟩,r⟩:=x; exact ⟨mA,⟨od,es,ep,k _ _ (.inl rfl) e,c⟩,r⟩
 | rng lo hi=>obtain ⟨t,u,v,e⟩:=x; exact ⟨t,u,v,k _ _ (.inl rfl) e⟩
 | frz ob u ih=>obtain ⟨e,q⟩:=x; exact ⟨k _ _ (.inl rfl) e,ih q⟩
 | tbl ps =>
  have e:h.get? a=some { cls:=.none,data:=.fields ps }:=x
  show h'.get? a=some { cls:=.none,data:=.fields ps }
  exact k a _ (.inl rfl) e
 | met f y =>
  have e:h.get? a=some (PySem.W.methodObj (.ref f) (.ref y)):=x
  show h'.get? a=some (PySem.W.methodObj (.ref f) (.ref y))
  exact k a _ (.inl rfl) e
 | ext φ=>obtain ⟨p,⟨o,e⟩,st⟩:=x; exact ⟨st _ _ p fun o q=>k _ _ (.inl rfl) q,⟨o,k _ _ (.inl rfl) e⟩,st⟩
theorem HOk.lt (x:HOk P w H h) (e:H a=some o):a < h.objs.size:=(x a o e).lt
theorem HOk.fresh (x:HOk P w H h) (e:h.objs.size≤a):H a=none:=by
 cases q:H a with
 | none=>rfl
 | some u=>exact absurd (Nat.lt_of_lt_of_le (x.lt q) e) (Nat.lt_irrefl _)
theorem HOk.kept (x:HOk P w H h) (k:∀b u,h.get? b=some u→h'.get? b=some u):HOk P w H h':=fun a o e =>
 (x a o e).stay (fun b u _ q=>k b u q) (fun _ q=>q) fun _ _ q=>q
theorem HOk.laid (x:HOk P w H h) (k:∀b u,h.get? b=some u→h'.get? b=some u) (hp:h.objs.size≤a) (new:ObjOk P w (upd H a o) h' a o):HOk P w (upd H a o) h':=fun b u e=>by
 have hn:=x.fresh hp
 by_cases hb:b=a
 ·subst hb; rw [ag] at e; cases e; exact new
 ·rw [au hb] at e
  exact (x b u e).stay (fun c v _ q=>k c v q) (fun c q=>by rw [au (ai q hn)]; exact q) fun c xs q=>by rw [au (ai q hn)]; exact q
end
def Rd (H:Hp) (a:Addr) (u:HO):Prop:=H a=some u∨∃o,H a=some (.frz o u)
theorem Rd.ok {P:Program} {w:World} {H:Hp} {h:Heap} {a:Addr} {u:HO} (r:Rd H a u) (x:HOk P w H h):ObjOk P w H h a u:=by
 rcases r with r | ⟨o,r⟩
 ·exact x a u r
 ·obtain ⟨_,q⟩:=x a _ r
  exact q
def Mut:Option HO→Prop
 | some (.lst _)=>True
 | some (.dK _)=>True
 | some (.dT _)=>True
 | some (.set _ _)=>True
 | some (.ins _ _ _)=>True
 | some (.ext _)=>True
 | _=>False
section
variable {P:Program} {w:World} {H:Hp} {h h':Heap} {x e:Addr} {o':HO}
theorem HOk.write (ok:HOk P w H h) (mu:Mut (H x)) (he:e=x∨H e=some (.own x)) (k:∀b u,b≠e→h.get? b=some u→h'.get? b=some u) (heo:∃u,h'.get? e=some u)
  (new:ObjOk P w (upd H x o') h' x o'):HOk P w (upd H x o') h':=fun b u q=>by
 have nown:∀c y,H c=some (.own y)→c≠x:=fun c y r z=>by subst z; rw [r] at mu; exact mu
 have ntup:∀c xs,H c=some (.tup xs)→c≠x:=fun c xs r z=>by subst z; rw [r] at mu; exact mu
 by_cases hb:b=x
 ·subst hb; rw [ag] at q; cases q; exact new
 ·rw [au hb] at q
  by_cases hbe:b=e
  ·have q':H b=some (.own x):=by
    rcases he with z | z
    ·exact absurd (hbe.trans z) hb
    ·rw [hbe]; exact z
   rw [q] at q'; cases q'
   obtain ⟨v,hv⟩:=heo
   exact ⟨v,by rw [hbe]; exact hv⟩
  ·refine (ok b u q).stay (fun c v hc r=>k c v ?_ r) (fun c r=>by rw [au (nown c b r)]; exact r) fun c xs r=>by rw [au (ntup c xs r)]; exact r
   rcases hc with rfl | hc
   ·exact hbe
   ·rintro rfl
    rcases he with z | z
    ·exact nown c b hc z
    ·rw [hc] at z; cases z; exact hb rfl
end
structure Un (fs ex:List Addr) (H H':Hp) (h h':Heap):Prop where
 keep:∀b o,h.get? b=some o→H b=none→b∉fs→b∉ex→h'.get? b=some o
 slot:∀b o,h.get? b=some o→H b=none→b∈fs→b∉ex→∃sl,h'.get? b=some { o with slots:=sl }
 free:∀b o,h.get? b=some o→H b=none→b∉ex→H' b=none
 there:∀b o,h.get? b=some o→b∉ex→∃o',h'.get? b=some o'
 tups:∀b xs,H b=some (.tup xs)→H' b=some (.tup xs)
 frzs:∀b o u,H b=some (.frz o u)→H' b=some (.frz o u)
 tbls:∀b ps,H b=some (.tbl ps)→∃more,H' b=some (.tbl (ps ++ more))
section
variable {fs fs' ex ex':List Addr} {H H1 H2:Hp} {h h1 h2 h':Heap} {a x e:Addr} {o:HO}
theorem Un.any (u:Un fs ex H H1 h h1) {b:Addr} {ob:Obj} (q:h.get? b=some ob) (n:H b=none) (hx:b∉ex):∃sl,h1.get? b=some { ob with slots:=sl }:=by
 by_cases hb:b∈fs
 ·exact u.slot b ob q n hb hx
 ·exact ⟨ob.slots,u.keep b ob q n hb hx⟩
theorem Un.kept (k:∀b u,h.get? b=some u→h'.get? b=some u):Un fs ex H H h h' :=
 ⟨fun b ob q _ _ _=>k b ob q,fun b ob q _ _ _=>⟨ob.slots,k b ob q⟩,fun _ _ _ n _=>n,fun b ob q _=>⟨ob,k b ob q⟩,fun _ _ q=>q,fun _ _ _ q=>q,fun _ ps q=>⟨#[],by rw [q]; simp⟩⟩
theorem Un.refl:Un fs ex H H h h:=Un.kept fun _ _ q=>q
theorem Un.laid (k:∀b u,h.get? b=some u→h'.get? b=some u) (hp:h.objs.size≤a) (hn:H a=none):Un fs ex H (upd H a o) h h' where
 keep:=fun b u q _ _ _=>k b u q
 slot:=fun b u q _ _ _=>⟨u.slots,k b u q⟩
 free:=fun b u q n _=>by rw [au (Nat.ne_of_lt (Nat.lt_of_lt_of_le (Heap.lt_size q) hp))]; exact n
 there:=fun b u q _=>⟨u,k b u q⟩
 tups:=fun b xs q=>by rw [au (ai q hn)]; exact q
 frzs:=fun b u xs q=>by rw [au (ai q hn)]; exact q
 tbls:=fun b ps q=>⟨#[],by rw [au (ai q hn),q]; simp⟩
theorem Un.write (mu:Mut (H x)) (he:e=x∨H e=some (.own x)) (k:∀b u,b≠e→h.get? b=some u→h'.get? b=some u) (heo:∃u,h'.get? e=some u):Un fs ex H (upd H x o) h h':=by
 have hx:∀b,H b=none→b≠x:=fun b n z=>by subst z; rw [n] at mu; exact mu
 have hb:∀b,H b=none→b≠e:=fun b n z=>by
  subst z
  rcases he with r | r
  ·exact hx b n r
  ·rw [n] at r; cases r
 have hm:∀b u,H b=some u→¬ Mut (some u)→b≠x:=fun b u q nm z=>by subst z; rw [q] at mu; exact nm mu
 refine ⟨fun b u q n _ _=>k b u (hb b n) q,fun b u q n _ _=>⟨u.slots,k b u (hb b n) q⟩,fun b u q n _=>by rw [au (hx b n)]; exact n,fun b u q _=>?_,
  fun b xs q=>by rw [au (hm b _ q fun z=>z)]; exact q,fun b u xs q=>by rw [au (hm b _ q fun z=>z)]; exact q,fun b ps q=>⟨#[],by rw [au (hm b _ q fun z=>z),q]; simp⟩⟩
 by_cases hbe:b=e
 ·subst hbe; exact heo
 ·exact ⟨u,k b u hbe q⟩
end
def trk (h:Heap) (H:Hp):List Addr:=(List.range h.objs.size).filter fun a=>(H a).isSome
def gZ (h:Heap) (H:Hp):Heap:=PySem.W.hideAll h (trk h H)
theorem lY (h:Heap) (H:Hp):(gZ h H).objs.size=h.objs.size:=PySem.W.hideAll_size _ _
theorem nJ {h:Heap} {H:Hp} {b:Addr} {o:Obj} (e:h.get? b=some o) (n:H b=none):(gZ h H).get? b=some o :=
 PySem.W.hideAll_get _ e fun hm=>by
  have q:(H b).isSome=true:=(List.mem_filter.mp hm).2
  rw [n] at q; simp at q
theorem qi {h:Heap} {H:Hp} {b:Addr} {o:Obj} (e:(gZ h H).get? b=some o):h.get? b=some o∧H b=none:=by
 have e':h.get? b=some o:=PySem.W.of_hideAll (trk h H) e
 refine ⟨e',?_⟩
 cases q:H b with
 | none=>rfl
 | some x =>
  have hm:b∈trk h H:=List.mem_filter.mpr ⟨List.mem_range.mpr (Heap.lt_size e'),by simp [q]⟩
  have z:(gZ h H).get? b=none:=PySem.W.hideAll_none (trk h H) hm
  rw [z] at e; cases e
def qj (g h:Heap) (L:Addr):List (Addr×Obj):=(List.range h.objs.size).filterMap fun a=>if a=L∨(g.get? a).isSome=true then none else (h.get? a).map fun o=>(a,o)
def rest (g h:Heap) (L d:Addr):List (Addr×Obj):=(qj g h L).filter fun p=>decide (p.1≠d)
end L2
namespace L2
open PySem PySem.Spec PyProof.Rows
structure Mod (K:PySem.W.Frag) (mg:Str→Option Value) (base:Heap):Prop where
 kin:K.In base
 glob:base.Ns mainGlobals mg
 blt:∃mb,base.Ns builtinsNs mb∧∀x:Str,x ≠ "__name__" → mb x=bootBuiltins x
 nolimit:base.NoLimit
/-- the context: a def's body (or a comprehension's block) running. base: fixed through the aD law; s₀,H₀: the entry; outer: the frames whose slots others may change (a def's callers); stack: all frames that run;
   ex: iterators that were made ahead of the entry and are walked here (a comprehension's); fn: the names whose cells were made at the entry (a def: all; a comprehension's block: its own); calm: not within an except suite; pn: pins that every state bears; xe: what is wanted of an exception that leaves the code -/
structure Cx where
 prog:Program
 w:World
 K:PySem.W.Frag
 mg:Str→Option Value
 base:Heap
 A:Around
 N:List Str
 s₀:Shared
 H₀:Hp
 env:Env
 outer:List Env
 stack:List Env
 ex:List Addr
 fn:Str→Bool
 calm:Bool
 pn:List (Addr×Obj)
 xe:Value→Shared→Prop
def frs (l:List Env):List Addr:=l.filterMap (·.frame)
abbrev Cx.fs (X:Cx):List Addr:=frs X.outer
def Vis (sc:Scope) (x:Str):Prop:=sc.names.lookup x=some .local∨sc.names.lookup x=some .cell∨sc.names.lookup x=some .free
def Loc (sc:Scope) (x:Str):Prop:=sc.names.lookup x=some .local∨sc.names.lookup x=some .cell
def CM (env:Env) (h:Heap) (m:Str→Option Value) (x:Str) (u:Value):Prop :=
 (env.kindOf x=some .local∧m x=some u)∨((env.kindOf x=some .cell∨env.kindOf x=some .free)∧∃c,env.cells.lookup x=some c∧h.IsCell c (some u))
structure Cx.Ok (X:Cx):Prop where
 mod:Mod X.K X.mg X.base
 kind:X.env.scope.kind=.function
 glob:X.env.globals=mainGlobals
 blt:X.env.builtins=builtinsNs
 above:X.s₀.heap.objs.size≤X.env.locals
 inj:∀x y c,X.env.cells.lookup x=some c→X.env.cells.lookup y=some c→x=y
 has:∀x,(X.env.kindOf x=some .cell∨X.env.kindOf x=some .free)→∃c,X.env.cells.lookup x=some c
 cab:∀x c,X.fn x=true→X.env.cells.lookup x=some c→X.s₀.heap.objs.size≤c
 hd:X.calm=true→X.A.handled=none
 frames:X.A.frames=some X.stack
 stk:X.stack=X.outer∨(X.stack=X.env :: X.outer∧X.env.frame=some X.env.locals)
 exf:∀b∈X.ex,b≠X.env.locals∧∀x c,X.env.cells.lookup x=some c→c≠b
 bs:∀b o,X.base.get? b=some o→X.s₀.heap.get? b=some o∧X.H₀ b=none
 bsz:X.base.objs.size≤X.s₀.heap.objs.size
 noex:∀b o,X.base.get? b=some o→b∉X.ex
 exfs:∀b∈X.ex,b∉X.fs
 funs:X.s₀.heap.FunFrames X.base X.outer
 frf:∀b∈X.fs,X.H₀ b=none
structure Inv (X:Cx) (pins:List (Addr×Obj)) (σ:List (Option V)) (H:Hp) (s:Shared):Prop where
 ok:X.Ok
 os:s.os=X.s₀.os
 bare:AllBare s.gens
 base:Un X.fs X.ex X.H₀ H X.s₀.heap s.heap
 loc:∃m,s.heap.Ns X.env.locals m∧∀ (i:Nat) (x:Str) (v:V),X.N[i]? = some x→σ[i]? = some (some v)→Vis X.env.scope x→∃u,RelV v u∧CM X.env s.heap m x u
 cell:∀x c,X.env.cells.lookup x=some c→∃v,s.heap.IsCell c v
 free:H X.env.locals=none
 freeC:∀x c,X.env.cells.lookup x=some c→H c=none
 pin:∀p∈X.pn ++ pins,s.heap.get? p.1=some p.2∧H p.1=none∧p.1≠X.env.locals∧p.1∉X.fs∧∀v,p.2.data≠.cell v
 hok:HOk X.prog X.w H s.heap
 len:σ.length=X.N.length
section
variable {X:Cx} {pins:List (Addr×Obj)} {σ:List (Option V)} {H H':Hp} {s:Shared} {h':Heap}
theorem Cx.Ok.nofr (ok:X.Ok) {b:Addr} {o:Obj} (e:X.base.get? b=some o):b∉X.fs:=fun hb=>by
 have:=(ok.funs.mem hb).1
 rw [e] at this; cases this
theorem Inv.bs (I:Inv X pins σ H s):∀b o,X.base.get? b=some o→s.heap.get? b=some o∧H b=none:=fun b o e =>
 ⟨I.base.keep b o (I.ok.bs b o e).1 (I.ok.bs b o e).2 (I.ok.nofr e) (I.ok.noex b o e),I.base.free b o (I.ok.bs b o e).1 (I.ok.bs b o e).2 (I.ok.noex b o e)⟩
theorem Inv.bk (I:Inv X pins σ H s):∀b o,X.base.get? b=some o→s.heap.get? b=some o:=fun b o e=>(I.bs b o e).1
theorem Inv.mod (I:Inv X pins σ H s):Mod X.K X.mg X.base:=I.ok.mod
theorem Inv.kIn (I:Inv X pins σ H s):X.K.In s.heap:=I.ok.mod.kin.keeps I.bk
theorem Inv.fr (I:Inv X pins σ H s):∃m,Fr X.base X.env.locals s.heap m :=
 let ⟨m,hn,_⟩:=I.loc
 ⟨m,hn,I.bk,Nat.le_trans I.ok.bsz I.ok.above⟩
theorem Inv.lt (I:Inv X pins σ H s):X.env.locals < s.heap.objs.size:=let ⟨_,hn,_⟩:=I.loc; hn.lt
theorem Inv.sz (I:Inv X pins σ H s):X.s₀.heap.objs.size≤s.heap.objs.size:=Nat.le_trans I.ok.above (Nat.le_of_lt I.lt)
theorem Inv.nofs (I:Inv X pins σ H s) {a:Addr} (h:s.heap.objs.size≤a):a∉X.fs:=fun hb=>by
 obtain ⟨_,o,ho,_⟩:=I.ok.funs.mem hb
 exact absurd (Nat.lt_of_lt_of_le (Heap.lt_size ho) (Nat.le_trans I.sz h)) (Nat.lt_irrefl _)
theorem Inv.cne (I:Inv X pins σ H s):∀x c,X.env.cells.lookup x=some c→c≠X.env.locals:=fun x c e z=>by
 obtain ⟨v,o,ho,hd⟩:=I.cell x c e
 obtain ⟨m,⟨o',es,ep,ho',hd',_⟩,_⟩:=I.loc
 rw [z,ho'] at ho; cases ho; rw [hd'] at hd; cases hd
theorem Inv.funs (I:Inv X pins σ H s):s.heap.FunFrames X.base X.outer:=by
 have all:∀ (l:List Env),(∀b∈frs l,b∈X.fs)→X.s₀.heap.FunFrames X.base l→s.heap.FunFrames X.base l:=by
  intro l
  induction l with
  | nil=>intro _ _; trivial
  | cons env r ih =>
   intro hs hl
   obtain ⟨hk,⟨L,o,hf,hn,ho,hd⟩,hr⟩:=hl
   have hL:L∈X.fs:=hs L (by unfold frs; rw [List.filterMap_cons,hf]; exact List.mem_cons_self)
   obtain ⟨sl,e⟩:=I.base.slot L o ho (I.ok.frf L hL) hL fun z=>I.ok.exfs L z hL
   exact ⟨hk,⟨L,_,hf,hn,e,hd⟩,ih (fun b hb=>hs b (by unfold frs; rw [List.filterMap_cons,hf]; exact List.mem_cons_of_mem _ hb)) hr⟩
 exact all X.outer (fun _ hb=>hb) I.ok.funs
theorem Inv.stack (I:Inv X pins σ H s):s.heap.FunFrames X.base X.stack:=by
 rcases I.ok.stk with e | ⟨e,hf⟩
 ·rw [e]; exact I.funs
 ·rw [e]
  obtain ⟨m,hn,_⟩:=I.loc
  refine .cons (by rw [I.ok.kind]; decide) hf hn ?_ I.funs
  exact Heap.get?_none_of_le (Nat.le_trans I.ok.bsz I.ok.above)
theorem Inv.stkSub (I:Inv X pins σ H s):∀b∈frs X.stack,b∈X.env.locals :: X.fs:=fun b hb=>by
 rcases I.ok.stk with e | ⟨e,hf⟩
 ·rw [e] at hb; exact List.mem_cons_of_mem _ hb
 ·rw [e] at hb
  unfold frs at hb
  rw [List.filterMap_cons,hf] at hb
  exact hb
theorem Inv.stkFree (I:Inv X pins σ H s):∀b∈frs X.stack,H b=none:=fun b hb=>by
 rcases List.mem_cons.mp (I.stkSub b hb) with e | hb
 ·rw [e]; exact I.free
 ·obtain ⟨_,o,ho,_⟩:=I.ok.funs.mem hb
  exact I.base.free b o ho (I.ok.frf b hb) fun z=>I.ok.exfs b z hb
theorem Inv.step {g':Array GenState} {t':Nat} {d':Drawn} {ch:List Addr} (I:Inv X pins σ H s)
  (hch:∀b∈ch,(b∈X.ex∨X.s₀.heap.objs.size≤b)∧b≠X.env.locals∧(∀x c,X.env.cells.lookup x=some c→c≠b)∧∀p∈X.pn ++ pins,p.1≠b)
  (keep:∀b o,b≠X.env.locals→b∉X.fs→b∉ch→s.heap.get? b=some o→H b=none→h'.get? b=some o)
  (slot:∀b o,b≠X.env.locals→b∈X.fs→b∉ch→s.heap.get? b=some o→H b=none→∃sl,h'.get? b=some { o with slots:=sl }) (free:∀b o,b∉ch→s.heap.get? b=some o→H b=none→H' b=none)
  (there:∀b o,b∉ch→s.heap.get? b=some o→∃o',h'.get? b=some o')
  (tups:∀b xs,H b=some (.tup xs)→H' b=some (.tup xs)) (frzs:∀b o u,H b=some (.frz o u)→H' b=some (.frz o u)) (tbls:∀b ps,H b=some (.tbl ps)→∃more,H' b=some (.tbl (ps ++ more)))
  (ns:∀m,s.heap.Ns X.env.locals m→h'.Ns X.env.locals m) (hok:HOk X.prog X.w H' h') (hg:AllBare g') :
  Inv X pins σ H' { s with heap:=h',gens:=g',drawn:=d',toks:=t' }:=by
 have neL:∀b o,X.s₀.heap.get? b=some o→b≠X.env.locals:=fun b o e=>Nat.ne_of_lt (Nat.lt_of_lt_of_le (Heap.lt_size e) I.ok.above)
 have neC:∀b o,X.s₀.heap.get? b=some o→b∉X.ex→b∉ch:=fun b o e hx hb=>by
  rcases (hch b hb).1 with z | z
  ·exact hx z
  ·exact absurd (Nat.lt_of_lt_of_le (Heap.lt_size e) z) (Nat.lt_irrefl _)
 have cellK:∀x c,X.env.cells.lookup x=some c→∀v,s.heap.IsCell c v→h'.IsCell c v:=fun x c e v ⟨o,ho,hd⟩=>by
  have nch:c∉ch:=fun z=>(hch c z).2.2.1 x c e rfl
  by_cases hc:c∈X.fs
  ·obtain ⟨sl,q⟩:=slot c o (I.cne x c e) hc nch ho (I.freeC x c e)
   exact ⟨_,q,hd⟩
  ·exact ⟨o,keep c o (I.cne x c e) hc nch ho (I.freeC x c e),hd⟩
 refine ⟨I.ok,I.os,hg,⟨fun b o e n hb hx=>?_,fun b o e n hb hx=>?_,fun b o e n hx=>?_,fun b o e hx=>?_,fun b xs e=>tups b xs (I.base.tups b xs e),fun b o xs e=>frzs b o xs (I.base.frzs b o xs e),fun b ps e=>?_⟩,?_,fun x c e=>?_,?_,fun x c e=>?_,fun p hp=>?_,hok,I.len⟩
 ·exact keep b o (neL b o e) hb (neC b o e hx) (I.base.keep b o e n hb hx) (I.base.free b o e n hx)
 ·obtain ⟨sl,e1⟩:=I.base.slot b o e n hb hx
  obtain ⟨sl',e2⟩:=slot b _ (neL b o e) hb (neC b o e hx) e1 (I.base.free b o e n hx)
  exact ⟨sl',e2⟩
 ·obtain ⟨o',e1⟩:=I.base.there b o e hx
  exact free b o' (neC b o e hx) e1 (I.base.free b o e n hx)
 ·obtain ⟨o',e1⟩:=I.base.there b o e hx
  exact there b o' (neC b o e hx) e1
 ·obtain ⟨m1,e1⟩:=I.base.tbls b ps e
  obtain ⟨m2,e2⟩:=tbls b _ e1
  exact ⟨m1 ++ m2,by rw [e2,Array.append_assoc]⟩
 ·obtain ⟨m,hn,hl⟩:=I.loc
  refine ⟨m,ns m hn,fun i x v e1 e2 e3=>?_⟩
  obtain ⟨u,r,l⟩:=hl i x v e1 e2 e3
  refine ⟨u,r,?_⟩
  rcases l with l | ⟨k,c,e,z⟩
  ·exact .inl l
  ·exact .inr ⟨k,c,e,cellK x c e _ z⟩
 ·obtain ⟨v,z⟩:=I.cell x c e
  exact ⟨v,cellK x c e v z⟩
 ·obtain ⟨m,⟨o,_,_,ho,_⟩,_⟩:=I.loc
  exact free _ o (fun z=>(hch _ z).2.1 rfl) ho I.free
 ·obtain ⟨v,o,ho,hd⟩:=I.cell x c e
  exact free c o (fun z=>(hch c z).2.2.1 x c e rfl) ho (I.freeC x c e)
 ·obtain ⟨e,n,ne,nf,d⟩:=I.pin p hp
  have nch:p.1∉ch:=fun z=>(hch p.1 z).2.2.2 p hp rfl
  exact ⟨keep p.1 p.2 ne nf nch e n,free p.1 p.2 nch e n,ne,nf,d⟩
theorem Inv.un {t':Nat} (I:Inv X pins σ H s) (u:Un X.fs [] H H' s.heap h') (hok:HOk X.prog X.w H' h'):Inv X pins σ H' { s with heap:=h',toks:=t' }:=by
 obtain ⟨m,⟨o,es,ep,ho,r⟩,_⟩:=id I.loc
 obtain ⟨sl,hL⟩:=u.any ho I.free (by simp)
 exact I.step (g':=s.gens) (d':=s.drawn) (ch:=[]) (fun _ z=>nomatch z) (fun b o _ hb _ e n=>u.keep b o e n hb (by simp)) (fun b o _ hb _ e n=>u.slot b o e n hb (by simp)) (fun b o _ e n=>u.free b o e n (by simp)) (fun b o _ e=>u.there b o e (by simp)) u.tups u.frzs u.tbls (fun m' hm=>by
  obtain ⟨o',es',ep',ho',r'⟩:=hm
  rw [ho] at ho'; cases ho'
  exact ⟨_,es',ep',hL,r'⟩) hok I.bare
theorem Inv.call {g':Array GenState} {t':Nat} {d':Drawn} {ch:List Addr} (I:Inv X pins σ H s) (u:Un (frs X.stack) ch H H' s.heap h') (hok:HOk X.prog X.w H' h') (hg:AllBare g')
  (hch:∀b∈ch,(b∈X.ex∨X.s₀.heap.objs.size≤b)∧b≠X.env.locals∧(∀x c,X.env.cells.lookup x=some c→c≠b)∧∀p∈X.pn ++ pins,p.1≠b) :
  Inv X pins σ H' { s with heap:=h',gens:=g',drawn:=d',toks:=t' }:=by
 obtain ⟨m,⟨o,es,ep,ho,r⟩,_⟩:=id I.loc
 obtain ⟨sl,hL⟩:=u.any ho I.free fun z=>(hch _ z).2.1 rfl
 exact I.step (ch:=ch) hch (fun b o hL hb hc e n=>u.keep b o e n (fun z=>(List.mem_cons.mp (I.stkSub b z)).elim hL hb) hc) (fun b o _ _ hc e n=>u.any e n hc) (fun b o hc e n=>u.free b o e n hc) (fun b o hc e=>u.there b o e hc) u.tups u.frzs u.tbls (fun m' hm=>by
  obtain ⟨o',es',ep',ho',r'⟩:=hm
  rw [ho] at ho'; cases ho'
  exact ⟨_,es',ep',hL,r'⟩) hok hg
theorem Inv.turned {t':Nat} {it:Addr} (I:Inv X pins σ H s) (k:∀b o,b≠it→s.heap.get? b=some o→h'.get? b=some o) (hn:H it=none) (hL:it≠X.env.locals)
  (h1:it∈X.ex∨X.s₀.heap.objs.size≤it) (h2:∀x c,X.env.cells.lookup x=some c→c≠it) (h3:∀p∈X.pn ++ pins,p.1≠it):Inv X pins σ H { s with heap:=h',toks:=t' }:=by
 have nit:∀b u,H b=some u→b≠it:=fun b u e z=>by rw [z,hn] at e; cases e
 refine I.step (g':=s.gens) (d':=s.drawn) (ch:=[it]) (fun b hb=>?_) (fun b o _ _ hc e _=>k b o (fun z=>hc (by simp [z])) e) (fun b o _ _ hc e _=>⟨o.slots,k b o (fun z=>hc (by simp [z])) e⟩) (fun _ _ _ _ n=>n)
  (fun b o hc e=>⟨o,k b o (fun z=>hc (by simp [z])) e⟩) (fun _ _ e=>e) (fun _ _ _ e=>e) (fun b ps e=>⟨#[],by rw [e]; simp⟩) (fun m hm=>?_) (fun b u e=>?_) I.bare
 ·have e:b=it:=by simpa using hb
  subst e
  exact ⟨h1,hL,h2,h3⟩
 ·obtain ⟨o,es,ep,ho,r⟩:=hm
  exact ⟨o,es,ep,k _ o (Ne.symm hL) ho,r⟩
 ·refine (I.hok b u e).stay (fun c v hc q=>k c v ?_ q) (fun _ q=>q) fun _ _ q=>q
  rcases hc with z | z
  ·rw [z]; exact nit b u e
  ·exact nit c _ z
theorem Inv.tok (I:Inv X pins σ H s) (t:Nat):Inv X pins σ H { s with toks:=t }:=I.un (h':=s.heap) (t':=t) Un.refl I.hok
theorem Inv.kept {t':Nat} (I:Inv X pins σ H s) (k:∀b u,s.heap.get? b=some u→h'.get? b=some u):Inv X pins σ H { s with heap:=h',toks:=t' }:=I.un (Un.kept k) (I.hok.kept k)
theorem Inv.laid {a:Addr} {o:HO} {t':Nat} (I:Inv X pins σ H s) (k:∀b u,s.heap.get? b=some u→h'.get? b=some u) (hp:s.heap.objs.size≤a) (new:ObjOk X.prog X.w (upd H a o) h' a o) :
  Inv X pins σ (upd H a o) { s with heap:=h',toks:=t' }:=I.un (Un.laid k hp (I.hok.fresh hp)) (I.hok.laid k hp new)
theorem Inv.write {x e:Addr} {o:HO} {t':Nat} (I:Inv X pins σ H s) (mu:Mut (H x)) (he:e=x∨H e=some (.own x)) (k:∀b u,b≠e→s.heap.get? b=some u→h'.get? b=some u) (heo:∃u,h'.get? e=some u)
  (new:ObjOk X.prog X.w (upd H x o) h' x o):Inv X pins σ (upd H x o) { s with heap:=h',toks:=t' }:=I.un (Un.write mu he k heo) (I.hok.write mu he k heo new)
theorem Inv.weak {σ':List (Option V)} (I:Inv X pins σ H s) (hl:σ'.length=σ.length) (w:∀ (i:Nat) v,σ'[i]? = some (some v)→σ[i]? = some (some v)):Inv X pins σ' H s :=
 ⟨I.ok,I.os,I.bare,I.base,let ⟨m,hn,hl'⟩:=I.loc; ⟨m,hn,fun i x v e1 e2 e3=>hl' i x v e1 (w i v e2) e3⟩,I.cell,I.free,I.freeC,I.pin,I.hok,hl.trans I.len⟩
theorem Inv.pins_of {pins':List (Addr×Obj)} (I:Inv X pins σ H s) (h:∀p∈pins',s.heap.get? p.1=some p.2∧H p.1=none∧p.1≠X.env.locals∧p.1∉X.fs∧∀v,p.2.data≠.cell v):Inv X pins' σ H s :=
 ⟨I.ok,I.os,I.bare,I.base,I.loc,I.cell,I.free,I.freeC,fun p hp=>(List.mem_append.mp hp).elim (fun z=>I.pin p (List.mem_append_left _ z)) (h p),I.hok,I.len⟩
theorem fG {N:List Str} (hN:N.Nodup) {i j:Nat} {x:Str} (a:N[i]? = some x) (b:N[j]? = some x):i=j:=by
 obtain ⟨h1,e1⟩:=List.getElem?_eq_some_iff.mp a
 obtain ⟨h2,e2⟩:=List.getElem?_eq_some_iff.mp b
 exact (List.getElem_inj hN).mp (e1.trans e2.symm)
theorem gD {M:Model} {A:Around} {E:Value→Shared→Prop} {i:Nat} {x:Str} {v:V} {u:Value} {Q:Unit→Shared→Prop} (I:Inv X pins σ H s) (hN:X.N.Nodup) (hi:X.N[i]? = some x) (hx:Loc X.env.scope x) (r:RelV v u)
  (h:∀s',Inv X pins (σ.set i (some v)) H s'→(∃a,Heap.SameBut a s.heap s'.heap∧(a=X.env.locals∨X.env.cells.lookup x=some a))→Q () s') (hf:X.fn x=true∨X.env.scope.names.lookup x=some .local:=by first | exact .inl rfl | exact .inr rfl | assumption):wpAny M A (storeName X.env x u) Q E s:=by
 obtain ⟨m,hn,hl⟩:=id I.loc
 have hcls:(X.env.scope.kind == .class || (X.env.scope.kind == .module && X.env.locals != X.env.globals))=false:=by rw [I.ok.kind]; rfl
 have hiσ:i < σ.length:=by rw [I.len]; exact (List.getElem?_eq_some_iff.mp hi).1
 have cne:=I.cne
 have tracked:∀ {a:Addr} {h':Heap},(∃o,s.heap.get? a=some o∧H a=none)→Heap.SameBut a s.heap h'→HOk X.prog X.w H h':=fun {a h'} ha hs b ob e=>by
  obtain ⟨_,_,hfree⟩:=ha
  refine (I.hok b ob e).stay (fun c w' hc q=>(hs.2 c ?_).trans q) (fun _ q=>q) fun _ _ q=>q
  rintro rfl
  rcases hc with rfl | hc
  ·rw [hfree] at e; cases e
  ·rw [hfree] at hc; cases hc
 rcases hx with hk | hk
 ·refine wpAny_storeName_local hk hn (fun h' hn' hs=>?_) hcls
  obtain ⟨oL,_,_,hoL,_⟩:=id hn
  refine h _ ⟨I.ok,I.os,I.bare,⟨fun b o e n hb hx=>?_,fun b o e n hb hx=>?_,I.base.free,fun b o e hx=>?_,I.base.tups,I.base.frzs,I.base.tbls⟩,⟨_,hn',fun j y v' e1 e2 e3=>?_⟩,fun y c e=>?_,I.free,I.freeC,fun p hp=>?_,tracked ⟨oL,hoL,I.free⟩ hs,by simpa using I.len⟩ ⟨_,hs,.inl rfl⟩
  ·exact (hs.2 b (Nat.ne_of_lt (Nat.lt_of_lt_of_le (Heap.lt_size e) I.ok.above))).trans (I.base.keep b o e n hb hx)
  ·obtain ⟨sl,e1⟩:=I.base.slot b o e n hb hx
   exact ⟨sl,(hs.2 b (Nat.ne_of_lt (Nat.lt_of_lt_of_le (Heap.lt_size e) I.ok.above))).trans e1⟩
  ·obtain ⟨o',e1⟩:=I.base.there b o e hx
   exact ⟨o',(hs.2 b (Nat.ne_of_lt (Nat.lt_of_lt_of_le (Heap.lt_size e) I.ok.above))).trans e1⟩
  ·by_cases hj:j=i
   ·subst hj
    rw [hi] at e1; cases e1
    rw [List.getElem?_set_self hiσ] at e2
    cases e2
    exact ⟨u,r,.inl ⟨hk,by simp⟩⟩
   ·rw [List.getElem?_set_ne (Ne.symm hj)] at e2
    obtain ⟨u',r',q⟩:=hl j y v' e1 e2 e3
    refine ⟨u',r',?_⟩
    rcases q with ⟨k,e⟩ | ⟨k,c,e,z⟩
    ·refine .inl ⟨k,?_⟩
     have:y≠x:=fun e=>hj (fG hN e1 (e ▸ hi))
     simp [this,e]
    ·exact .inr ⟨k,c,e,z.sameBut hs (cne y c e)⟩
  ·obtain ⟨w',z⟩:=I.cell y c e
   exact ⟨w',z.sameBut hs (cne y c e)⟩
  ·obtain ⟨e,n,ne,nf,d⟩:=I.pin p hp
   exact ⟨(hs.2 p.1 ne).trans e,n,ne,nf,d⟩
 ·have hfn:X.fn x=true:=by
   rcases hf with z | z
   ·exact z
   ·rw [z] at hk; cases hk
  obtain ⟨c,hc⟩:=I.ok.has x (.inl hk)
  obtain ⟨w',z⟩:=I.cell x c hc
  refine wpAny_storeName_cell I.ok.kind hk hc z (fun h' hc' hs=>?_)
  obtain ⟨oc,hoc,hocd⟩:=id z
  refine h { s with heap:=h' } ⟨I.ok,I.os,I.bare,⟨fun b o e n hb hx=>?_,fun b o e n hb hx=>?_,I.base.free,fun b o e hx=>?_,I.base.tups,I.base.frzs,I.base.tbls⟩,⟨m,hn.sameBut hs (Ne.symm (cne x c hc)),fun j y v' e1 e2 e3=>?_⟩,fun y c' e=>?_,I.free,I.freeC,fun p hp=>?_,tracked ⟨oc,hoc,I.freeC x c hc⟩ hs,by simpa using I.len⟩ ⟨c,hs,.inr hc⟩
  ·exact (hs.2 b (Nat.ne_of_lt (Nat.lt_of_lt_of_le (Heap.lt_size e) (I.ok.cab x c hfn hc)))).trans (I.base.keep b o e n hb hx)
  ·obtain ⟨sl,e1⟩:=I.base.slot b o e n hb hx
   exact ⟨sl,(hs.2 b (Nat.ne_of_lt (Nat.lt_of_lt_of_le (Heap.lt_size e) (I.ok.cab x c hfn hc)))).trans e1⟩
  ·obtain ⟨o',e1⟩:=I.base.there b o e hx
   exact ⟨o',(hs.2 b (Nat.ne_of_lt (Nat.lt_of_lt_of_le (Heap.lt_size e) (I.ok.cab x c hfn hc)))).trans e1⟩
  ·by_cases hj:j=i
   ·subst hj
    rw [hi] at e1; cases e1
    rw [List.getElem?_set_self hiσ] at e2
    cases e2
    exact ⟨u,r,.inr ⟨.inl hk,c,hc,hc'⟩⟩
   ·rw [List.getElem?_set_ne (Ne.symm hj)] at e2
    obtain ⟨u',r',q⟩:=hl j y v' e1 e2 e3
    refine ⟨u',r',?_⟩
    rcases q with q | ⟨k,c',e,z'⟩
    ·exact .inl q
    ·refine .inr ⟨k,c',e,z'.sameBut hs ?_⟩
     rintro rfl
     exact hj (fG hN e1 (I.ok.inj _ _ _ e hc ▸ hi))
  ·by_cases hcc:c'=c
   ·subst hcc; exact ⟨_,hc'⟩
   ·obtain ⟨w2,z2⟩:=I.cell y c' e
    exact ⟨w2,z2.sameBut hs hcc⟩
  ·obtain ⟨e,n,ne,nf,d⟩:=I.pin p hp
   refine ⟨(hs.2 p.1 ?_).trans e,n,ne,nf,d⟩
   intro q
   rw [q,hoc] at e
   have q':oc=p.2:=Option.some.inj e
   exact d w' (by rw [← q']; exact hocd)
theorem cW {M:Model} {A:Around} {E:Value→Shared→Prop} {i:Nat} {x:Str} {v:V} {u:Value} {Q:Unit→Shared→Prop} (I:Inv X pins σ H s) (hN:X.N.Nodup) (hi:X.N[i]? = some x) (hx:Loc X.env.scope x) (r:RelV v u)
  (h:∀s',Inv X pins (σ.set i (some v)) H s'→Q () s') (hf:X.fn x=true∨X.env.scope.names.lookup x=some .local:=by first | exact .inl rfl | exact .inr rfl | assumption):wpAny M A (storeName X.env x u) Q E s :=
 gD I hN hi hx r (fun s' I' _=>h s' I') hf
theorem Inv.call' {s':Shared} {ch:List Addr} (I:Inv X pins σ H s) (ho:s'.os=s.os) (u:Un (frs X.stack) ch H H' s.heap s'.heap) (hok:HOk X.prog X.w H' s'.heap) (hg:AllBare s'.gens)
  (hch:∀b∈ch,(b∈X.ex∨X.s₀.heap.objs.size≤b)∧b≠X.env.locals∧(∀x c,X.env.cells.lookup x=some c→c≠b)∧∀p∈X.pn ++ pins,p.1≠b):Inv X pins σ H' s':=by
 obtain ⟨h',g',d',t',o'⟩:=s'
 have e:o'=s.os:=ho
 subst e
 exact I.call (g':=g') (t':=t') (d':=d') u hok hg hch
end
abbrev XK:=Value→Option Addr→Hp→Prop
abbrev St:=List (Option V)
abbrev VK:=V→Hp→Prop
abbrev TE:=St→Hp→VK→Prop
abbrev TT:=St→Hp→(Bool→Hp→Prop)→Prop
abbrev TA:=St→Hp→(List V→Hp→Prop)→Prop
structure Ends where
 nx:St→Hp→Prop
 rt:VK
 bk:St→Hp→Prop:=fun _ _=>False
 ct:St→Hp→Prop:=fun _ _=>False
abbrev TS:=Ends→St→Hp→Prop
def EP (X:Cx) (pins:List (Addr×Obj)) (σ:St) (Q:VK) (u:Value) (s':Shared):Prop:=∃v H',Inv X pins σ H' s'∧RelV v u∧Q v H'
def TP (X:Cx) (pins:List (Addr×Obj)) (σ:St) (Q:Bool→Hp→Prop) (b:Bool) (s':Shared):Prop:=∃H',Inv X pins σ H' s'∧Q b H'
def AP (X:Cx) (pins:List (Addr×Obj)) (σ:St) (Q:List V→Hp→Prop) (us:List Value) (s':Shared):Prop:=∃vs H',Inv X pins σ H' s'∧Vals vs us∧Q vs H'
def SP (X:Cx) (pins:List (Addr×Obj)) (D:Ends) (f:Flow) (s':Shared):Prop :=
 match f with
 | .next=>∃σ' H',Inv X pins σ' H' s'∧D.nx σ' H'
 | .brk=>∃σ' H',Inv X pins σ' H' s'∧D.bk σ' H'
 | .cont=>∃σ' H',Inv X pins σ' H' s'∧D.ct σ' H'
 | .ret u=>∃v σ' H',Inv X pins σ' H' s'∧RelV v u∧D.rt v H'
def PE (X:Cx) (e:Expr) (t:TE):Prop :=
 ∀ (pins:List (Addr×Obj)) (s:Shared) (σ:St) (H:Hp) (Q:VK),Inv X pins σ H s→t σ H Q→wpAny (model X.prog X.w) X.A (eval e X.env) (EP X pins σ Q) X.xe s
def PT (X:Cx) (e:Expr) (t:TT):Prop :=
 ∀ (pins:List (Addr×Obj)) (s:Shared) (σ:St) (H:Hp) (Q:Bool→Hp→Prop),Inv X pins σ H s→t σ H Q→wpAny (model X.prog X.w) X.A (isTrue e X.env (eval e X.env)) (TP X pins σ Q) X.xe s
def PW (X:Cx) (e:Expr) (t:TT):Prop :=
 ∀ (aD:Sem Value) (pins:List (Addr×Obj)) (s:Shared) (σ:St) (H:Hp) (Q:Bool→Hp→Prop),Inv X pins σ H s→t σ H Q→wpAny (model X.prog X.w) X.A (isTrue e X.env aD) (TP X pins σ Q) X.xe s
theorem PW.pt {X:Cx} {e:Expr} {t:TT} (h:PW X e t):PT X e t:=h _
def PA (X:Cx) (es:List Expr) (t:TA):Prop :=
 ∀ (pos:Pos) (pins:List (Addr×Obj)) (s:Shared) (σ:St) (H:Hp) (Q:List V→Hp→Prop),Inv X pins σ H s→t σ H Q→wpAny (model X.prog X.w) X.A (spliced (backTo pos (starEach es X.env))) (AP X pins σ Q) X.xe s
def PS (X:Cx) (st:Stmt) (t:TS):Prop :=
 ∀ (pins:List (Addr×Obj)) (s:Shared) (σ:St) (H:Hp) (D:Ends),Inv X pins σ H s→t D σ H→wpAny (model X.prog X.w) X.A (exec st X.env) (SP X pins D) X.xe s
def PSs (X:Cx) (st:List Stmt) (t:TS):Prop :=
 ∀ (pins:List (Addr×Obj)) (s:Shared) (σ:St) (H:Hp) (D:Ends),Inv X pins σ H s→t D σ H→wpAny (model X.prog X.w) X.A (execs st X.env) (SP X pins D) X.xe s
theorem thn {α:Type} {t:Sem α} {Q Q':α→Shared→Prop} {M:Model} {A:Around} {E:Value→Shared→Prop} {s:Shared} (h:wpAny M A t Q E s) (hQ:∀a s,Q a s→Q' a s):wpAny M A t Q' E s:=wpAny_mono h hQ fun _ _ x=>x
end L2
namespace L2
open PySem PySem.Spec PyProof.Rows
section
variable {X:Cx}
theorem bin {a b:Expr} {ta tb:TE} (ha:PE X a ta) (hb:PE X b tb) {pins:List (Addr×Obj)} {s:Shared} {σ:St} {H:Hp} {R:V→V→Hp→Prop} (I:Inv X pins σ H s) (h:ta σ H fun x H1=>tb σ H1 fun y H2=>R x y H2)
  {α:Type} {Q:α→Shared→Prop} {f:Value→Value→Sem α}
  (hf:∀v u s2 x y H2,Inv X pins σ H2 s2→RelV x v→RelV y u→R x y H2→wpAny (model X.prog X.w) X.A (f v u) Q X.xe s2) :
  wpAny (model X.prog X.w) X.A (eval a X.env) (fun v s₁=>wpAny (model X.prog X.w) X.A (eval b X.env) (fun u s₂=>wpAny (model X.prog X.w) X.A (f v u) Q X.xe s₂) X.xe s₁) X.xe s:=by
 refine thn (ha pins s σ H _ I h) fun v s1 ⟨x,H1,I1,r1,q1⟩=>?_
 refine thn (hb pins s1 σ H1 _ I1 q1) fun u s2 ⟨y,H2,I2,r2,q2⟩=>?_
 exact hf v u s2 x y H2 I2 r1 r2 q2
def qk (i:Nat):TE:=fun σ H Q=>∃v,σ[i]? = some (some v)∧Q v H
def tC (v:V):TE:=fun _ H Q=>Q v H
theorem sH {i:Nat} {x:Str} {pos:Pos} (hN:X.N[i]? = some x) (hv:Vis X.env.scope x) (hd:(x == ("__debug__" : Str))=false:=by decide) (hcd:(x == ("__classdict__" : Str))=false:=by decide):PE X (.Name x pos) (qk i):=by
 intro pins s σ H Q I h
 obtain ⟨v,e,h⟩:=h
 obtain ⟨m,hn,hl⟩:=I.loc
 obtain ⟨u,r,l⟩:=hl i x v hN e hv
 have fin:EP X pins σ Q u s:=⟨v,H,I,r,h⟩
 rcases l with ⟨hk,hm⟩ | ⟨hk,c,hc,hcell⟩
 ·exact wpAny_Name (wpAny_loadName_local I.ok.kind hk hn hm fin) hd
 ·rcases hk with hk | hk
  ·exact wpAny_Name (wpAny_loadName_cell I.ok.kind hk hc hcell fin) hd
  ·exact wpAny_Name (wpAny_loadName_free I.ok.kind hk hc hcell fin hcd) hd
theorem ae {i j pos}:PE X (.Constant (.int i) j pos) (tC (.int i)):=fun _ _ _ H _ I h=>wpAny_Constant_int ⟨.int i,H,I.tok _,⟨_,rfl⟩,h⟩
theorem be {b j pos}:PE X (.Constant (.bool b) j pos) (tC (.bl b)):=fun _ _ _ H _ I h=>Constant_bool ⟨.bl b,H,I,rfl,h⟩
theorem cX {j pos}:PE X (.Constant .none j pos) (tC .non):=fun _ _ _ H _ I h=>Constant_none ⟨.non,H,I,rfl,h⟩
theorem bi {x j pos}:PE X (.Constant (.str x) j pos) (tC (.str x)):=fun _ _ _ H _ I h=>Calls.Constant_str ⟨.str x,H,I.tok _,⟨_,rfl⟩,h⟩
def Gl (X:Cx) (x:Str):Prop:=X.env.kindOf x=some .globalImplicit
theorem cM {E:Value→Shared→Prop} {pins:List (Addr×Obj)} {s:Shared} {σ:St} {H:Hp} {x:Str} {u:Value} {pos:Pos} {Q:Value→Shared→Prop} (I:Inv X pins σ H s) (hg:Gl X x) (hm:X.mg x=some u) (h:Q u s)
  (hd:(x == ("__debug__" : Str))=false:=by decide):wpAny (model X.prog X.w) X.A (eval (.Name x pos) X.env) Q E s :=
 Calls.Name_function_global I.ok.kind hg (Calls.loadGlobal_global (by rw [I.ok.glob]; exact I.mod.glob.keeps I.bk) hm h) hd
theorem dI {E:Value→Shared→Prop} {pins:List (Addr×Obj)} {s:Shared} {σ:St} {H:Hp} {x:Str} {u:Value} {pos:Pos} {Q:Value→Shared→Prop} (I:Inv X pins σ H s) (hg:Gl X x) (hm:X.mg x=none) (hv:bootBuiltins x=some u) (h:Q u s)
  (hn:x ≠ "__name__" := by decide) (hd:(x == ("__debug__" : Str))=false:=by decide):wpAny (model X.prog X.w) X.A (eval (.Name x pos) X.env) Q E s:=by
 obtain ⟨mb,h1,h2⟩:=I.mod.blt
 exact Calls.Name_function_global I.ok.kind hg (Calls.loadGlobal_builtin (by rw [I.ok.glob]; exact I.mod.glob.keeps I.bk) hm (by rw [I.ok.blt]; exact h1.keeps I.bk) ((h2 x hn).trans hv) h) hd
theorem aL {x:Str} {v:V} {u:Value} {pos:Pos} (hg:Gl X x) (hm:X.mg x=some u) (r:RelV v u) (hd:(x == ("__debug__" : Str))=false:=by decide):PE X (.Name x pos) (tC v) :=
 fun _ _ _ H _ I h=>cM I hg hm ⟨v,H,I,r,h⟩ hd
theorem bE {x:Str} {v:V} {u:Value} {pos:Pos} (hg:Gl X x) (hm:X.mg x=none) (hv:bootBuiltins x=some u) (r:RelV v u) (hn:x ≠ "__name__" := by decide) (hd:(x == ("__debug__" : Str))=false:=by decide):PE X (.Name x pos) (tC v) :=
 fun _ _ _ H _ I h=>dI I hg hm hv ⟨v,H,I,r,h⟩ hn hd
variable {a b:Expr} {ta tb:TE} {pos:Pos}
def PC (X:Cx) (op:CmpOp) (a b:Expr) (t:TE):Prop :=
 ∀ (pins:List (Addr×Obj)) (s:Shared) (σ:St) (H:Hp) (Q:VK),Inv X pins σ H s→t σ H Q →
  wpAny (model X.prog X.w) X.A (eval a X.env) (fun v s₁=>wpAny (model X.prog X.w) X.A (eval b X.env) (fun u s₂=>wpAny (model X.prog X.w) X.A (compareOp op v u) (EP X pins σ Q) X.xe s₂) X.xe s₁) X.xe s
def tB (t:TE):TT:=fun σ H Q=>t σ H fun x H1=>∃c,x=.bl c∧Q c H1
theorem CN {op:CmpOp} {t:TE} (h:PC X op a b t) (h1:behindInMarks op b=false:=by first | exact nobehind _ (by decide) (by decide) | rfl):PT X (.Compare a [op] [b] pos) (tB t):=by
 intro pins s σ H Q I hw
 refine wpAny_isTrue_Compare1 (thn (h pins s σ H _ I hw) fun v s1 h1=>thn h1 fun u s2 h2=>thn h2 fun c s3 ⟨x,H1,I1,r1,q1⟩=>?_) h1
 obtain ⟨d,rfl,q⟩:=q1
 cases r1
 exact wpAny_truthy_bool ⟨H1,I1,q⟩
theorem aK {e:Expr} {t:TE} (h:PE X e t) (he:∀aD,isTrue e X.env aD=(do let v←aD; standAt e.pos; holding [v] (truthy v)):=by intro _; rfl):PT X e (tB t):=by
 intro pins s σ H Q I hw
 refine isTrue_plain (thn (h pins s σ H _ I hw) fun v s1 ⟨x,H1,I1,r1,q1⟩=>?_) (he _)
 obtain ⟨d,rfl,q⟩:=q1
 cases r1
 exact wpAny_truthy_bool ⟨H1,I1,q⟩
variable {tA tB':TT} {rest:List Expr}
def CO (t u:TT):TT:=fun σ H Q=>t σ H fun c H1=>if c=true then u σ H1 Q else Q false H1
def tOr (t u:TT):TT:=fun σ H Q=>t σ H fun c H1=>if c=true then Q true H1 else u σ H1 Q
def wS (t:TT):TT:=fun σ H Q=>t σ H fun c H1=>Q (!c) H1
theorem hG (ha:PT X a tA):PW X (.BoolOp .And [a] pos) tA:=by
 intro wh pins s σ H Q I h
 refine isTrue_and (thn (ha pins s σ H Q I h) fun c s1 e=>?_)
 cases c with
 | true=>exact isTrue_and_nil e
 | false=>exact e
theorem bC (ha:PT X a tA):PW X (.BoolOp .Or [a] pos) tA:=by
 intro wh pins s σ H Q I h
 refine isTrue_or (thn (ha pins s σ H Q I h) fun c s1 e=>?_)
 cases c with
 | false=>exact isTrue_or_nil e
 | true=>exact e
theorem jz (ha:PT X a tA) (hb:PW X (.BoolOp .And (b :: rest) pos) tB'):PW X (.BoolOp .And (a :: b :: rest) pos) (CO tA tB'):=by
 intro wh pins s σ H Q I h
 refine isTrue_and (thn (ha pins s σ H _ I h) fun c s1 ⟨H1,I1,q1⟩=>?_)
 cases c with
 | true=>exact hb wh pins s1 σ H1 Q I1 q1
 | false=>exact ⟨H1,I1,q1⟩
theorem bI (ha:PT X a tA) (hb:PW X (.BoolOp .Or (b :: rest) pos) tB'):PW X (.BoolOp .Or (a :: b :: rest) pos) (tOr tA tB'):=by
 intro wh pins s σ H Q I h
 refine isTrue_or (thn (ha pins s σ H _ I h) fun c s1 ⟨H1,I1,q1⟩=>?_)
 cases c with
 | true=>exact ⟨H1,I1,q1⟩
 | false=>exact hb wh pins s1 σ H1 Q I1 q1
theorem aQ (ha:PT X a tA):PT X (.UnaryOp .Not a pos) (wS tA):=by
 intro pins s σ H Q I h
 exact isTrue_not (ha pins s σ H (fun c H1=>Q (!c) H1) I h)
def wT (ta tb:TE):TE:=fun σ H Q=>ta σ H fun x H1=>∃c,x=.bl c∧if c=true then tb σ H1 Q else Q (.bl false) H1
def CP (ta tb:TE):TE:=fun σ H Q=>ta σ H fun x H1=>∃c,x=.bl c∧if c=true then Q (.bl true) H1 else tb σ H1 Q
def wU (ta:TE):TE:=fun σ H Q=>ta σ H fun x H1=>∃c,x=.bl c∧Q (.bl (!c)) H1
theorem cY {op} {t:TE} (h:PE X a t):PE X (.BoolOp op [a] pos) t:=fun pins s σ H Q I hw=>BoolOp_one (h pins s σ H Q I hw)
theorem cN (ha:PE X a ta) (hb:PE X (.BoolOp .And (b :: rest) pos) tb):PE X (.BoolOp .And (a :: b :: rest) pos) (wT ta tb):=by
 intro pins s σ H Q I h
 refine BoolOp_and (thn (ha pins s σ H _ I h) fun v s1 ⟨x,H1,I1,r1,q1⟩=>?_)
 obtain ⟨c,rfl,q1⟩:=q1
 cases r1
 refine wpAny_truthy_bool ?_
 cases c with
 | true=>exact hb pins s1 σ H1 Q I1 q1
 | false=>exact ⟨.bl false,H1,I1,rfl,q1⟩
theorem lp (ha:PE X a ta) (hb:PE X (.BoolOp .Or (b :: rest) pos) tb):PE X (.BoolOp .Or (a :: b :: rest) pos) (CP ta tb):=by
 intro pins s σ H Q I h
 refine BoolOp_or (thn (ha pins s σ H _ I h) fun v s1 ⟨x,H1,I1,r1,q1⟩=>?_)
 obtain ⟨c,rfl,q1⟩:=q1
 cases r1
 refine wpAny_truthy_bool ?_
 cases c with
 | false=>exact hb pins s1 σ H1 Q I1 q1
 | true=>exact ⟨.bl true,H1,I1,rfl,q1⟩
theorem jA (ha:PE X a ta):PE X (.UnaryOp .Not a pos) (wU ta):=by
 intro pins s σ H Q I h
 refine UnaryOp_ (thn (ha pins s σ H _ I h) fun v s1 ⟨x,H1,I1,r1,q1⟩=>?_)
 obtain ⟨c,rfl,q1⟩:=q1
 cases r1
 exact not_of (wpAny_truthy_bool ⟨.bl (!c),H1,I1,rfl,q1⟩)
def tIf (t:TT) (ta tb:TE):TE:=fun σ H Q=>t σ H fun c H1=>if c=true then ta σ H1 Q else tb σ H1 Q
theorem iG {c:Expr} (hc:PT X c tA) (ha:PE X a ta) (hb:PE X b tb):PE X (.IfExp c a b pos) (tIf tA ta tb):=by
 intro pins s σ H Q I h
 refine wpAny_IfExp (thn (hc pins s σ H _ I h) fun d s1 ⟨H1,I1,q1⟩=>?_)
 cases d with
 | true=>exact ha pins s1 σ H1 Q I1 q1
 | false=>exact hb pins s1 σ H1 Q I1 q1
end
end L2
namespace L2
open PySem PySem.Spec PyProof.Rows
def SqL (K:PySem.W.Frag) (H:Hp) (a:Addr) (xs:List V):Prop :=
 Rd H a (.lst xs) ∨
  ∃ (o:Obj) (its:Array Value) (n:Nat),K.lookup a=some o∧o.cls=.type "list" ∧ o.dict=none∧o.data=.seq its n∧its.size≤sizeLine∧Vals xs its.toList
def SqT (K:PySem.W.Frag) (H:Hp) (a:Addr) (xs:List V):Prop :=
 Rd H a (.tup xs) ∨
  ∃ (o:Obj) (its:Array Value) (n:Nat),K.lookup a=some o∧o.cls=.type "tuple" ∧ o.data=.seq its n∧its.size≤sizeLine∧Vals xs its.toList
def CQ:Value→Option V
 | .none=>some .non
 | .bool b=>some (.bl b)
 | .int i _=>some (.int i)
 | .str x _=>some (.str x)
 | .bytes b _=>some (.byt b)
 | .float b _=>some (.flt b)
 | .ref a=>some (.ref a)
 | .type n=>some (.ty n)
 | _=>none
theorem RelV.abs {x:V} {u:Value} (r:RelV x u):CQ u=some x:=by
 cases x with
 | non=>cases r; rfl
 | bl _=>cases r; rfl
 | int _=>obtain ⟨t,rfl⟩:=r; rfl
 | str _=>obtain ⟨t,rfl⟩:=r; rfl
 | byt _=>obtain ⟨t,rfl⟩:=r; rfl
 | flt _=>obtain ⟨t,rfl⟩:=r; rfl
 | ref _=>cases r; rfl
 | ty _=>cases r; rfl
theorem RelV.inj {x y:V} {u:Value} (r:RelV x u) (q:RelV y u):x=y:=Option.some.inj (r.abs.symm.trans q.abs)
theorem Vals.inj:∀ {xs ys:List V} {us:List Value},Vals xs us→Vals ys us→xs=ys
 | _,_,_,.nil,.nil=>rfl
 | _,_,_,.cons r t,.cons r' t'=>by rw [r.inj r',Vals.inj t t']
section
variable {X:Cx} {pins:List (Addr×Obj)} {σ:St} {H:Hp} {s:Shared} {a:Addr} {xs ys:List V}
theorem SqL.of {K:PySem.W.Frag} (h:H a=some (.lst xs)):SqL K H a xs:=.inl (.inl h)
theorem SqT.of {K:PySem.W.Frag} (h:H a=some (.tup xs)):SqT K H a xs:=.inl (.inl h)
theorem Inv.list (I:Inv X pins σ H s) (h:SqL X.K H a xs):∃its:List Value,Vals xs its∧PlainL s.heap a its.toArray∧xs.length≤sizeLine:=by
 rcases h with h | ⟨o,its,n,hk,hc,hd,hs,hz,r⟩
 ·obtain ⟨z,its,n,r,e⟩:=h.ok I.hok
  exact ⟨its,r,⟨_,n,e,rfl,rfl,rfl⟩,z⟩
 ·refine ⟨its.toList,r,⟨o,n,I.kIn a o hk,hc,hd,by simpa using hs⟩,?_⟩
  have e:=r.length
  simp only [Array.length_toList] at e
  omega
theorem Inv.tuple (I:Inv X pins σ H s) (h:SqT X.K H a xs):∃its:List Value,Vals xs its∧IsTup s.heap a its.toArray∧xs.length≤sizeLine:=by
 rcases h with h | ⟨o,its,n,hk,hc,hs,hz,r⟩
 ·obtain ⟨z,its,r,p⟩:=h.ok I.hok
  exact ⟨its,r,p,z⟩
 ·refine ⟨its.toList,r,⟨o,I.kIn a o hk,hc,n,by simpa using hs⟩,?_⟩
  have e:=r.length
  simp only [Array.length_toList] at e
  omega
theorem Inv.list_inj (I:Inv X pins σ H s) (h:SqL X.K H a xs) (h':SqL X.K H a ys):xs=ys:=by
 obtain ⟨its,r,⟨o,n,e,_,_,d⟩,_⟩:=I.list h
 obtain ⟨its',r',⟨o',n',e',_,_,d'⟩,_⟩:=I.list h'
 rw [e] at e'; cases e'
 rw [d] at d'
 injection d' with d1 _
 have:its=its':=by simpa using congrArg Array.toList d1
 subst this
 exact r.inj r'
theorem Inv.tuple_inj (I:Inv X pins σ H s) (h:SqT X.K H a xs) (h':SqT X.K H a ys):xs=ys:=by
 obtain ⟨its,r,⟨o,e,_,n,d⟩,_⟩:=I.tuple h
 obtain ⟨its',r',⟨o',e',_,n',d'⟩,_⟩:=I.tuple h'
 rw [e] at e'; cases e'
 rw [d] at d'
 injection d' with d1 _
 have:its=its':=by simpa using congrArg Array.toList d1
 subst this
 exact r.inj r'
end
abbrev Cx.wish (X:Cx) (E:Value→Shared→Prop):Cx:={ X with xe:=E }
abbrev Cx.nox (X:Cx):Cx:=X.wish fun _ _=>False
theorem Cx.Ok.wish {X:Cx} (ok:X.Ok) (E:Value→Shared→Prop):(X.wish E).Ok :=
 ⟨ok.mod,ok.kind,ok.glob,ok.blt,ok.above,ok.inj,ok.has,ok.cab,ok.hd,ok.frames,ok.stk,ok.exf,ok.bs,ok.bsz,ok.noex,ok.exfs,ok.funs,ok.frf⟩
theorem Cx.Ok.unwish {X:Cx} {E:Value→Shared→Prop} (ok:(X.wish E).Ok):X.Ok :=
 ⟨ok.mod,ok.kind,ok.glob,ok.blt,ok.above,ok.inj,ok.has,ok.cab,ok.hd,ok.frames,ok.stk,ok.exf,ok.bs,ok.bsz,ok.noex,ok.exfs,ok.funs,ok.frf⟩
section
variable {X:Cx} {pins:List (Addr×Obj)} {σ:St} {H:Hp} {s:Shared} {E:Value→Shared→Prop}
theorem Inv.wish (I:Inv X pins σ H s) (E:Value→Shared→Prop):Inv (X.wish E) pins σ H s:=⟨I.ok.wish E,I.os,I.bare,I.base,I.loc,I.cell,I.free,I.freeC,I.pin,I.hok,I.len⟩
theorem Inv.unwish (I:Inv (X.wish E) pins σ H s):Inv X pins σ H s:=⟨I.ok.unwish,I.os,I.bare,I.base,I.loc,I.cell,I.free,I.freeC,I.pin,I.hok,I.len⟩
theorem SP.unwish {D:Ends} {f:Flow} {s':Shared} (h:SP (X.wish E) pins D f s'):SP X pins D f s':=by
 cases f with
 | next=>obtain ⟨σ',H',I,q⟩:=h; exact ⟨σ',H',I.unwish,q⟩
 | brk=>obtain ⟨σ',H',I,q⟩:=h; exact ⟨σ',H',I.unwish,q⟩
 | cont=>obtain ⟨σ',H',I,q⟩:=h; exact ⟨σ',H',I.unwish,q⟩
 | ret u=>obtain ⟨v,σ',H',I,r,q⟩:=h; exact ⟨v,σ',H',I.unwish,r,q⟩
theorem PSs.nox {st:List Stmt} {t:TS} (h:PSs X.nox st t):PSs X st t:=fun pins s σ H D I hw =>
 wpAny_mono (h pins s σ H D (I.wish _) hw) (fun _ _ q=>q.unwish) fun _ _ z=>False.elim z
end
section
variable {X:Cx} {st:Stmt} {rest:List Stmt} {t u:TS} {e:Expr} {te:TE} {pos:Pos}
def wV:TS:=fun D σ H=>D.nx σ H
def wW (t u:TS):TS:=fun D σ H=>t { D with nx:=u D } σ H
theorem aB:PSs X [] wV:=fun _ _ σ H _ I h=>wpAny_execs_nil ⟨σ,H,I,h⟩
theorem af (h1:PS X st t) (h2:PSs X rest u):PSs X (st :: rest) (wW t u):=by
 intro pins s σ H D I h
 refine wpAny_execs_cons (thn (h1 pins s σ H { D with nx:=u D } I h) fun f s1 q=>?_)
 cases f with
 | next =>
  obtain ⟨σ',H',I',q⟩:=q
  exact h2 pins s1 σ' H' D I' q
 | ret v=>exact q
 | brk=>exact q
 | cont=>exact q
theorem ah (h1:PS X st t):PSs X [st] t:=by
 intro pins s σ H D I h
 refine wpAny_execs_cons (thn (h1 pins s σ H D I h) fun f s1 q=>?_)
 cases f with
 | next=>exact wpAny_execs_nil q
 | ret v=>exact q
 | brk=>exact q
 | cont=>exact q
theorem Inv.quiet {pins:List (Addr×Obj)} {σ:St} {H:Hp} {s:Shared} (I:Inv X pins σ H s):interactive X.env=false:=by simp [interactive,I.ok.kind]
def wX (te:TE):TS:=fun D σ H=>te σ H fun _ H1=>D.nx σ H1
theorem ce (he:PE X e te) (hs:swapsWith e none pos.line X.env=pure false:=by rfl):PS X (.Expr e pos) (wX te):=by
 intro pins s σ H D I h
 exact wpAny_Expr_any (thn (he pins s σ H _ I h) fun v s1 ⟨x,H1,I1,r1,q1⟩=>⟨σ,H1,I1,q1⟩) I.quiet hs
def CS (te:TE):TS:=fun D σ H=>te σ H D.rt
theorem av (he:PE X e te):PS X (.Return (some e) pos) (CS te):=by
 intro pins s σ H D I h
 exact wpAny_Return_some (thn (he pins s σ H _ I h) fun v s1 ⟨x,H1,I1,r1,q1⟩=>⟨x,σ,H1,I1,r1,q1⟩)
def CT (c:TT) (t u:TS):TS:=fun D σ H=>c σ H fun b H1=>if b=true then t D σ H1 else u D σ H1
theorem aN {c:Expr} {a b:List Stmt} {tc:TT} (hc:PT X c tc) (ha:PSs X a t) (hb:PSs X b u):PS X (.If c a b pos) (CT tc t u):=by
 intro pins s σ H D I h
 refine wpAny_If (thn (hc pins s σ H _ I h) fun d s1 ⟨H1,I1,q1⟩=>?_)
 cases d with
 | true=>exact ha pins s1 σ H1 D I1 q1
 | false=>exact hb pins s1 σ H1 D I1 q1
def nL:TS:=fun _ _ _=>False
theorem bS:PS X st nL:=fun _ _ _ _ _ _ h=>h.elim
theorem eL {sts:List Stmt}:PSs X sts nL:=fun _ _ _ _ _ _ h=>h.elim
end
abbrev TG:=V→St→Hp→(St→Hp→Prop)→Prop
abbrev TGs:=List V→St→Hp→(St→Hp→Prop)→Prop
def PG (X:Cx) (target:Expr) (t:TG):Prop :=
 ∀ (pins:List (Addr×Obj)) (s:Shared) (σ:St) (H:Hp) (v:V) (u:Value) (Q:St→Hp→Prop),Inv X pins σ H s→RelV v u→t v σ H Q →
  wpAny (model X.prog X.w) X.A (assign target X.env u) (fun _ s'=>∃σ' H',Inv X pins σ' H' s'∧Q σ' H') X.xe s
def PGs (X:Cx) (ts:List Expr) (t:TGs):Prop :=
 ∀ (pins:List (Addr×Obj)) (s:Shared) (σ:St) (H:Hp) (vs:List V) (us:List Value) (Q:St→Hp→Prop),Inv X pins σ H s→Vals vs us→t vs σ H Q →
  wpAny (model X.prog X.w) X.A (assignInOrder ((assignEach ts X.env).map (·.2)) us) (fun _ s'=>∃σ' H',Inv X pins σ' H' s'∧Q σ' H') X.xe s
abbrev sI:=V→V→V→Hp→(Hp→Prop)→Prop
def wY (X:Cx) (t:sI):Prop :=
 ∀ (pins:List (Addr×Obj)) (s:Shared) (σ:St) (H:Hp) (o i v:V) (ov iv u:Value) (Q:Hp→Prop),Inv X pins σ H s→RelV o ov→RelV i iv→RelV v u→t o i v H Q →
  wpAny (model X.prog X.w) X.A (setItem ov iv u) (fun _ s'=>∃H',Inv X pins σ H' s'∧Q H') X.xe s
section
variable {X:Cx} {pos:Pos}
def iH (i:Nat):TG:=fun v σ H Q=>Q (σ.set i (some v)) H
theorem aw {i:Nat} {x:Str} (hN:X.N.Nodup) (hi:X.N[i]? = some x) (hx:Loc X.env.scope x) (hf:X.fn x=true∨X.env.scope.names.lookup x=some .local:=by first | exact .inl rfl | exact .inr rfl | assumption):PG X (.Name x pos) (iH i):=by
 intro pins s σ H v u Q I r h
 exact wpAny_assign_Name (cW I hN hi hx r (fun s' I'=>⟨_,H,I',h⟩) hf)
def wZ:TGs:=fun vs σ H Q=>vs=[]∧Q σ H
def nM (t:TG) (u:TGs):TGs:=fun vs σ H Q=>∃v r,vs=v :: r∧t v σ H fun σ' H'=>u r σ' H' Q
theorem bf:PGs X [] wZ:=by
 intro pins s σ H vs us Q I r h
 obtain ⟨e,h⟩:=h
 subst e
 cases r
 exact assignInOrder_nil ⟨σ,H,I,h⟩
theorem az {e:Expr} {es:List Expr} {t:TG} {u:TGs} (h1:PG X e t) (h2:PGs X es u)
  (hs:(assignEach (e :: es) X.env).map (·.2)=assign e X.env :: (assignEach es X.env).map (·.2):=by rfl):PGs X (e :: es) (nM t u):=by
 intro pins s σ H vs us Q I r h
 obtain ⟨v,vr,e1,h⟩:=h
 subst e1
 cases r with
 | cons r rr =>
  rw [hs]
  refine assignInOrder_cons (thn (h1 pins s σ H _ _ _ I r h) fun _ s1 ⟨σ1,H1,I1,q1⟩=>?_)
  exact h2 pins s1 σ1 H1 _ _ Q I1 rr q1
def xa (K:PySem.W.Frag) (n:Nat) (t:TGs):TG:=fun v σ H Q=>∃a xs,v=.ref a∧SqT K H a xs∧xs.length=n∧t xs σ H Q
theorem bH {es:List Expr} {k:Nat} {t:TGs} {n:Nat} (hc:X.calm=true) (h:PGs X es t)
  (hn:(assignEach es X.env).length=n:=by rfl) (hst:(assignEach es X.env).findIdx? (·.1)=none:=by rfl):PG X (.Tuple es k pos) (xa X.K n t):=by
 intro pins s σ H v u Q I r hw
 obtain ⟨a,xs,e1,hq,hl,hw⟩:=hw
 subst e1
 cases r
 obtain ⟨its,rv,ht,hz⟩:=I.tuple hq
 refine assign_Tuple_tuple (I.ok.hd hc) ht (by simp [hn,← hl,rv.length]) hst fun h' hx=>?_
 have I1:Inv X pins σ H { s with heap:=h' }:=I.kept (t':=s.toks) fun b o e=>hx b o (Nat.ne_of_lt (Heap.lt_size e)) e
 exact h pins _ σ H xs _ Q I1 (by simpa using rv) hw
def CU (to ti:TE) (t:sI):TG:=fun v σ H Q=>to σ H fun o H1=>ti σ H1 fun i H2=>t o i v H2 fun H3=>Q σ H3
theorem jB {o i:Expr} {to ti:TE} {t:sI} (ho:PE X o to) (hi:PE X i ti) (hs:wY X t)
  (ha:∀v,assign (.Subscript o i pos) X.env v=(do
   let ov←holding [v] (eval o X.env)
   let iv←holding [v,ov] (eval i X.env)
   standAt pos
   holding [v,ov,iv] (setItem ov iv v)
   release [v,ov,iv] []):=by intro _; rfl):PG X (.Subscript o i pos) (CU to ti t):=by
 intro pins s σ H v u Q I r h
 rw [ha]
 refine wpAny_bind (wpAny_holding (thn (ho pins s σ H _ I h) fun ov s1 ⟨x,H1,I1,r1,q1⟩=>?_))
 refine wpAny_bind (wpAny_holding (thn (hi pins s1 σ H1 _ I1 q1) fun iv s2 ⟨y,H2,I2,r2,q2⟩=>?_))
 refine wpAny_bind (wpAny_standAt (wpAny_bind (wpAny_holding (thn (hs pins s2 σ H2 x y v ov iv u _ I2 r1 r2 r q2) fun _ s3 ⟨H3,I3,q3⟩=>?_))))
 exact wpAny_release ⟨σ,H3,I3,q3⟩
def sJ (te:TE) (g:TG):TS:=fun D σ H=>te σ H fun x H1=>g x σ H1 D.nx
theorem cg {tg e:Expr} {te:TE} {g:TG} (he:PE X e te) (hg:PG X tg g) (hs:swapsWithSole [tg] e pos.line X.env=pure false:=by rfl) (hw:swappedStores [tg] e X.env=pure none:=by rfl)
  (h1:(assignEach [tg] X.env).map (·.2)=[assign tg X.env]:=by rfl):PS X (.Assign [tg] e pos) (sJ te g):=by
 intro pins s σ H D I h
 refine wpAny_Assign_stores (thn (he pins s σ H _ I h) fun v s1 ⟨x,H1,I1,r1,q1⟩=>?_) hs hw
 rw [h1]
 exact thn (hg pins s1 σ H1 x v _ I1 r1 q1) fun _ s2 q=>q
theorem aG {i:Nat} {x:Str} {e:Expr} {te:TE} {pos':Pos} (hN:X.N.Nodup) (hi:X.N[i]? = some x) (hx:Loc X.env.scope x) (he:PE X e te) (hs:swapsWith e (some (.Name x pos')) pos.line X.env=pure false:=by rfl) (hf:X.fn x=true∨X.env.scope.names.lookup x=some .local:=by first | exact .inl rfl | exact .inr rfl | assumption) :
  PS X (.Assign [.Name x pos'] e pos) (sJ te (iH i)):=by
 intro pins s σ H D I h
 refine wpAny_Assign_Name (thn (he pins s σ H _ I h) fun v s1 ⟨y,H1,I1,r1,q1⟩=>?_) hs
 exact cW I1 hN hi hx r1 (fun s2 I2=>⟨_,H1,I2,q1⟩) hf
def CV (i j:Nat) (ta:TA):TS:=fun D σ H=>ta σ H fun vs H1=>∃v w,vs=[v,w]∧D.nx ((σ.set i (some v)).set j (some w)) H1
theorem sK {i j:Nat} {x y:Str} {a b:Expr} {ta:TA} {px py pt:Pos} {kt k2 pt2} (hc:X.calm=true) (hN:X.N.Nodup) (hi:X.N[i]? = some x) (hj:X.N[j]? = some y) (hij:i≠j)
  (hx:X.env.scope.names.lookup x=some .local) (hy:X.env.scope.names.lookup y=some .local) (ha:PA X [a,b] ta)
  (hw:swappedStores [.Tuple [.Name x px,.Name y py] kt pt] (.Tuple [a,b] k2 pt2) X.env=pure (some [x,y]))
  (hs:swapsWithSole [.Tuple [.Name x px,.Name y py] kt pt] (.Tuple [a,b] k2 pt2) pos.line X.env=pure false:=by rfl) :
  PS X (.Assign [.Tuple [.Name x px,.Name y py] kt pt] (.Tuple [a,b] k2 pt2) pos) (CV i j ta):=by
 intro pins s σ H D I h
 rw [exec_Assign_arm]
 refine wpAny_bind (wpAny_standAt ?_)
 rw [hs]
 refine wpAny_bind (wpAny_pure ?_)
 rw [if_neg (by decide)]
 refine wpAny_bind (Tuple_ (thn (ha _ pins s σ H _ I h) fun us s1 ⟨vs,H1,I1,r1,q1⟩=>?_))
 obtain ⟨v,w,e1,q1⟩:=q1
 subst e1
 obtain ⟨u1,u2,rfl,rv,rw'⟩:∃u1 u2,us=[u1,u2]∧RelV v u1∧RelV w u2:=by
  cases r1 with
  | cons p q =>
   cases q with
   | cons p' q' =>
    cases q'
    exact ⟨_,_,rfl,p,p'⟩
 refine wpAny_newObj_type ?_ (by show 2≤sizeLine; decide)
 have I2:Inv X pins σ H1 { s1 with heap:=s1.heap.push { cls:=.type "tuple", data:=.seq [u1, u2].toArray } }:=I1.kept (t':=s1.toks) fun b o e=>Heap.get?_push_of_some _ e
 rw [hw]
 refine wpAny_bind (wpAny_pure ?_)
 show wpAny (model X.prog X.w) X.A (do rule "assign.swapped-stores"; let items←unpackItems (.ref s1.heap.objs.size) 2 none; assignInOrder [fun v=>bindName X.env y v,fun v=>bindName X.env x v] items.reverse; pure Flow.next) _ _ _
 refine wpAny_bind (wpAny_rule (wpAny_bind (unpackItems_tuple (items:=#[u1,u2]) (I.ok.hd hc) (IsTup.new s1.heap _) fun h' hx'=>?_)))
 have I3:=I2.kept (h':=h') (t':=s1.toks) fun b o e=>hx' b o (Nat.ne_of_lt (Heap.lt_size e)) e
 show wpAny _ _ (assignInOrder [fun v=>bindName X.env y v,fun v=>bindName X.env x v] [u2,u1] >>= fun _=>pure Flow.next) _ _ _
 refine wpAny_bind (assignInOrder_cons (wpAny_bindName (cW I3 hN hj (.inl hy) rw' (fun s2 I4=>?_) (.inr hy))))
 refine assignInOrder_cons (wpAny_bindName (cW I4 hN hi (.inl hx) rv (fun s3 I5=>assignInOrder_nil (wpAny_pure ?_)) (.inr hx)))
 rw [List.set_comm _ _ (Ne.symm hij)] at I5
 exact ⟨_,H1,I5,q1⟩
end
section
variable {X:Cx} {pos:Pos}
end
structure It where
 go:Nat→Hp→Prop
 yld:Nat→Hp→V→Hp→Prop
 stop:Nat→Hp→Prop
def dS (X:Cx) (pins:List (Addr×Obj)) (H:Hp) (b:Addr):Prop :=
 H b=none∧b≠X.env.locals∧b∉X.fs∧(b∈X.ex∨X.s₀.heap.objs.size≤b)∧(∀x c,X.env.cells.lookup x=some c→c≠b)∧∀p∈X.pn ++ pins,p.1≠b
theorem Inv.fpOk {X:Cx} {pins:List (Addr×Obj)} {σ:St} {H H':Hp} {s:Shared} {b:Addr} (I:Inv X pins σ H s) (hb:s.heap.objs.size≤b) (hn:H' b=none):dS X pins H' b:=by
 refine ⟨hn,Nat.ne_of_gt (Nat.lt_of_lt_of_le I.lt hb),I.nofs hb,.inr (Nat.le_trans I.sz hb),fun x c e z=>?_,fun p hp z=>?_⟩
 ·obtain ⟨v,q⟩:=I.cell x c e
  exact absurd (Nat.lt_of_lt_of_le q.lt (by rw [z]; exact hb)) (Nat.lt_irrefl _)
 ·exact absurd (Nat.lt_of_lt_of_le (Heap.lt_size (I.pin p hp).1) (by rw [z]; exact hb)) (Nat.lt_irrefl _)
structure Turn (P:Program) (w:World) (K:PySem.W.Frag) (tg:Expr) (J:It) (fp:List Addr) (it:Addr) (tn:Nat→Heap→Prop):Prop where
 mem:it∈fp
 obj:∀i h,tn i h→∀b∈fp,∃o,h.get? b=some o∧∀v,o.data≠.cell v
 keep:∀i h h',tn i h→(∀b∈fp,∀o,h.get? b=some o→h'.get? b=some o)→tn i h'
 item:∀ (X:Cx),X.prog=P→X.w=w→X.K=K→X.calm=true→∀ (i:Nat) (pins:List (Addr×Obj)) (s:Shared) (σ:St) (H:Hp) (E:Value→Shared→Prop),Inv X pins σ H s→(∀b∈fp,dS X pins H b)→tn i s.heap→J.go i H →
  wpAny (model P w) X.A (pyNext (.ref it)) (fun r s1=>∃u,r=some u ∧
   wpAny (model P w) X.A (letOwnedTupleGo tg (.ref it) u) (fun _ s2=>∃x H',Inv X pins σ H' s2∧RelV x u∧J.yld i H x H'∧tn (i + 1) s2.heap∧∀b∈fp,H' b=none) E s1) E s
 done:∀ (X:Cx),X.prog=P→X.w=w→X.K=K→X.calm=true→∀ (i:Nat) (pins:List (Addr×Obj)) (s:Shared) (σ:St) (H:Hp) (E:Value→Shared→Prop),Inv X pins σ H s→(∀b∈fp,dS X pins H b)→tn i s.heap→J.stop i H →
  wpAny (model P w) X.A (pyNext (.ref it)) (fun r s1=>r=none∧Inv X pins σ H s1) E s
 self:∀ (A:Around) (i:Nat) (s:Shared) (Q:Value→Shared→Prop) (E:Value→Shared→Prop),tn i s.heap→Q (.ref it) s→wpAny (model P w) A (pyIter (.ref it)) Q E s
abbrev TI:=St→Hp→(It→Hp→Prop)→Prop
def PIE (X:Cx) (pins:List (Addr×Obj)) (σ:St) (tg:Expr) (R:It→Hp→Prop) (itv:Value) (s2:Shared):Prop :=
 ∃ (it:Addr) (fp:List Addr) (tn:Nat→Heap→Prop) (J:It) (H':Hp),itv=.ref it∧Inv X pins σ H' s2∧Turn X.prog X.w X.K tg J fp it tn∧tn 0 s2.heap∧(∀b∈fp,dS X pins H' b)∧R J H'
def PI (X:Cx) (tg iter:Expr) (wi:TI):Prop :=
 ∀ (pins:List (Addr×Obj)) (s:Shared) (σ:St) (H:Hp) (R:It→Hp→Prop),Inv X pins σ H s→wi σ H R →
  wpAny (model X.prog X.w) X.A (eval iter X.env) (fun v s1=>wpAny (model X.prog X.w) X.A (pyIter v) (PIE X pins σ tg R) X.xe s1) X.xe s
theorem nN {M:Model} {A:Around} {E:Value→Shared→Prop} {s:Shared} {tg:Expr} {it:Addr} {u:Value} {o:Obj} {n:String} {vs:Array Value} {Q:Unit→Shared→Prop} (ho:s.heap.get? it=some o) (hc:o.cls=.type n) (hd:o.data=.fields vs)
    (hn:["enumerate","zip","dict_itemiterator","dict_reverseitemiterator","odict_iterator","itertools.zip_longest","itertools.pairwise"].contains n=false) (hQ:Q () s):wpAny M A (letOwnedTupleGo tg (.ref it) u) Q E s:=by
  unfold letOwnedTupleGo
  cases tg <;> first
    | exact wpAny_pure hQ
    | (cases u <;> first
        | exact wpAny_pure hQ
        | (refine wpAny_bind (wpAny_load ho ?_)
           rw [hc,hd]
           show wpAny M A (if (["enumerate","zip","dict_itemiterator","dict_reverseitemiterator","odict_iterator","itertools.zip_longest","itertools.pairwise"].contains n && vs[0]? == some (rawInt _))=true then _ else _) Q E s
           rw [if_neg (by intro h; rw [hn,Bool.false_and] at h; cases h)]
           exact wpAny_pure hQ))
def Itl (K:PySem.W.Frag) (a:Addr):It :=
 ⟨fun i H=>∃xs x,SqL K H a xs∧xs[i]? = some x,fun i H x H'=>H'=H∧∀xs,SqL K H a xs→xs[i]? = some x,fun i H=>∃xs,SqL K H a xs∧xs.length≤i⟩
def Itt (K:PySem.W.Frag) (a:Addr):It :=
 ⟨fun i H=>∃xs x,SqT K H a xs∧xs[i]? = some x,fun i H x H'=>H'=H∧∀xs,SqT K H a xs→xs[i]? = some x,fun i H=>∃xs,SqT K H a xs∧xs.length≤i⟩
def Itr (lo:Int) (n:Nat):It:=⟨fun i _=>i < n,fun i H x H'=>H'=H∧x=.int (lo + i),fun i _=>n≤i⟩
theorem lZ {P:Program} {w:World} {K:PySem.W.Frag} {tg:Expr} (a it:Addr):Turn P w K tg (Itl K a) [it] it (fun i h=>h.IsListIter it a i) where
 mem:=by simp
 obj:=fun i h st b hb=>by
  have e:b=it:=by simpa using hb
  subst e
  obtain ⟨o,e,c,d⟩:=st
  exact ⟨o,e,fun v z=>by rw [d] at z; cases z⟩
 keep:=fun i h h' st k=>st.at fun o e=>k it (by simp) o e
 item:=by
  intro X hP hw hK hc i pins s σ H E I hf st hg
  subst hP hw hK
  obtain ⟨xs,x,hq,hx⟩:=hg
  obtain ⟨its,rv,p,hz⟩:=I.list hq
  obtain ⟨u,hu,ru⟩:=rv.get hx
  obtain ⟨f0,f1,f2,f3,f4,f5⟩:=hf it (by simp)
  refine wpAny_pyNext_list_item st p.isList (x:=u) (by simpa using hu) fun h' st' sb=>?_
  have I1:Inv X pins σ H { s with heap:=h' }:=I.turned (t':=s.toks) (fun b o hb e=>(sb.2 b hb).trans e) f0 f1 f3 f4 f5
  obtain ⟨o,e,c,d⟩:=id st'
  exact ⟨u,rfl,nN (s:={ s with heap:=h' }) e c d (by decide) ⟨x,H,I1,ru,⟨rfl,fun ys hy=>by rw [I.list_inj hy hq]; exact hx⟩,st',fun b hb=>(hf b hb).1⟩⟩
 done:=by
  intro X hP hw hK hc i pins s σ H E I hf st hg
  subst hP hw hK
  obtain ⟨xs,hq,hx⟩:=hg
  obtain ⟨its,rv,p,hz⟩:=I.list hq
  obtain ⟨f0,f1,f2,f3,f4,f5⟩:=hf it (by simp)
  have hl:=rv.length
  exact wpAny_pyNext_list_end (I.ok.hd hc) st p.isList (by simp; omega) fun h' eb=>⟨rfl,I.turned (t':=s.toks) (fun b o hb e=>eb b o hb e) f0 f1 f3 f4 f5⟩
 self:=fun _ _ _ _ _ st h=>wpAny_pyIter_listiter st h
theorem jC {P:Program} {w:World} {K:PySem.W.Frag} {tg:Expr} (a it:Addr):Turn P w K tg (Itt K a) [it] it (fun i h=>h.IsTupleIter it a i) where
 mem:=by simp
 obj:=fun i h st b hb=>by
  have e:b=it:=by simpa using hb
  subst e
  obtain ⟨o,e,c,d⟩:=st
  exact ⟨o,e,fun v z=>by rw [d] at z; cases z⟩
 keep:=fun i h h' st k=>st.at fun o e=>k it (by simp) o e
 item:=by
  intro X hP hw hK hc i pins s σ H E I hf st hg
  subst hP hw hK
  obtain ⟨xs,x,hq,hx⟩:=hg
  obtain ⟨its,rv,p,hz⟩:=I.tuple hq
  obtain ⟨u,hu,ru⟩:=rv.get hx
  obtain ⟨f0,f1,f2,f3,f4,f5⟩:=hf it (by simp)
  refine wpAny_pyNext_tuple_item st (show s.heap.IsTuple a its.toArray from p) (x:=u) (by simpa using hu) fun h' st' sb=>?_
  have I1:Inv X pins σ H { s with heap:=h' }:=I.turned (t':=s.toks) (fun b o hb e=>(sb.2 b hb).trans e) f0 f1 f3 f4 f5
  obtain ⟨o,e,c,d⟩:=id st'
  exact ⟨u,rfl,nN (s:={ s with heap:=h' }) e c d (by decide) ⟨x,H,I1,ru,⟨rfl,fun ys hy=>by rw [I.tuple_inj hy hq]; exact hx⟩,st',fun b hb=>(hf b hb).1⟩⟩
 done:=by
  intro X hP hw hK hc i pins s σ H E I hf st hg
  subst hP hw hK
  obtain ⟨xs,hq,hx⟩:=hg
  obtain ⟨its,rv,p,hz⟩:=I.tuple hq
  obtain ⟨f0,f1,f2,f3,f4,f5⟩:=hf it (by simp)
  have hl:=rv.length
  exact wpAny_pyNext_tuple_end (I.ok.hd hc) st (show s.heap.IsTuple a its.toArray from p) (by simp; omega) fun h' eb=>⟨rfl,I.turned (t':=s.toks) (fun b o hb e=>eb b o hb e) f0 f1 f3 f4 f5⟩
 self:=fun _ _ _ _ _ st h=>wpAny_pyIter_tupleiter st h
theorem jD {P:Program} {w:World} {K:PySem.W.Frag} {tg:Expr} (it:Addr) (lo:Int) (n:Nat):Turn P w K tg (Itr lo n) [it] it (fun i h=>IsRangeIter h it (lo + (i:Nat) * 1) ((n:Int) - (i:Nat)) 1) where
 mem:=by simp
 obj:=fun i h st b hb=>by
  have e:b=it:=by simpa using hb
  subst e
  exact ⟨_,st,fun v z=>by
   have z':Data.fields _=Data.cell v:=z
   cases z'⟩
 keep:=fun i h h' st k=>k it (by simp) _ st
 item:=by
  intro X hP hw hK hc i pins s σ H E I hf st hg
  subst hP hw hK
  obtain ⟨f0,f1,f2,f3,f4,f5⟩:=hf it (by simp)
  have W:=Walks.range (prog:=X.prog) (w:=X.w) (I.ok.hd hc) it lo 1 n
  refine W.item i s _ _ hg st fun v h' tk hv st' kk=>?_
  obtain ⟨t,rfl⟩:=hv
  have I1:Inv X pins σ H { s with heap:=h',toks:=tk }:=I.turned (fun b o hb e=>kk b o (by simpa using hb) e) f0 f1 f3 f4 f5
  refine ⟨_, rfl, nN (s:={ s with heap:=h', toks:=tk }) (n := "range_iterator") st' rfl rfl (by decide) ⟨.int (lo + i), H, I1, ⟨t, ?_⟩, ⟨rfl, rfl⟩, st', fun b hb=>(hf b hb).1⟩⟩
  rw [Int.mul_one]
 done:=by
  intro X hP hw hK hc i pins s σ H E I hf st hg
  subst hP hw hK
  obtain ⟨f0,f1,f2,f3,f4,f5⟩:=hf it (by simp)
  exact wpAny_pyNext_range_end (I.ok.hd hc) st (by have:n≤i:=hg; omega) fun h' eb=>⟨rfl,I.turned (t':=s.toks) (fun b o hb e=>eb b o hb e) f0 f1 f3 f4 f5⟩
 self:=fun _ _ _ _ _ st h=>wpAny_pyIter_rangeiter st h
end L2
namespace L2
open PySem PySem.Spec PyProof.Rows
section
variable {X:Cx} {tg:Expr}
def rV (K:PySem.W.Frag) (tl:TE):TI:=fun σ H R=>tl σ H fun x H1=>∃a,x=.ref a∧(∃xs,SqL K H1 a xs)∧R (Itl K a) H1
def xb (K:PySem.W.Frag) (tl:TE):TI:=fun σ H R=>tl σ H fun x H1=>∃a,x=.ref a∧(∃xs,SqT K H1 a xs)∧R (Itt K a) H1
theorem cy {l:Expr} {tl:TE} (hl:PE X l tl):PI X tg l (rV X.K tl):=by
 intro pins s σ H R I h
 refine thn (hl pins s σ H _ I h) fun v s1 ⟨x,H1,I1,r1,q1⟩=>?_
 obtain ⟨a,e,⟨xs,hq⟩,q⟩:=q1
 subst e
 cases r1
 obtain ⟨its,rv,p,hz⟩:=I1.list hq
 refine wpAny_pyIter_list p.isList ?_
 refine ⟨s1.heap.objs.size,[s1.heap.objs.size],_,_,H1,rfl,I1.kept (t':=s1.toks) fun b o e=>Heap.get?_push_of_some _ e,lZ a _,⟨_,Heap.get?_push_size _ rfl,rfl,rfl⟩,fun b hb=>?_,q⟩
 have e:b=s1.heap.objs.size:=by simpa using hb
 subst e
 exact I1.fpOk (Nat.le_refl _) (I1.hok.fresh (Nat.le_refl _))
theorem nO {l:Expr} {tl:TE} (hl:PE X l tl):PI X tg l (xb X.K tl):=by
 intro pins s σ H R I h
 refine thn (hl pins s σ H _ I h) fun v s1 ⟨x,H1,I1,r1,q1⟩=>?_
 obtain ⟨a,e,⟨xs,hq⟩,q⟩:=q1
 subst e
 cases r1
 obtain ⟨its,rv,p,hz⟩:=I1.tuple hq
 refine wpAny_pyIter_tuple (show s1.heap.IsTuple a its.toArray from p) ?_
 refine ⟨s1.heap.objs.size,[s1.heap.objs.size],_,_,H1,rfl,I1.kept (t':=s1.toks) fun b o e=>Heap.get?_push_of_some _ e,jC a _,⟨_,Heap.get?_push_size _ rfl,rfl,rfl⟩,fun b hb=>?_,q⟩
 have e:b=s1.heap.objs.size:=by simpa using hb
 subst e
 exact I1.fpOk (Nat.le_refl _) (I1.hok.fresh (Nat.le_refl _))
theorem nP {pins:List (Addr×Obj)} {σ:St} {H:Hp} {s:Shared} {R:It→Hp→Prop} {E:Value→Shared→Prop} {lo hi:Int} {t u v:Tok} {tk:Nat} (I:Inv X pins σ H s) (h1:-(2 ^ 62)≤lo) (h2:lo < 2 ^ 62) (h3:-(2 ^ 62)≤hi) (h4:hi < 2 ^ 62)
  (q:R (Itr lo (hi - lo).toNat) H):wpAny (model X.prog X.w) X.A (pyIter (.ref s.heap.objs.size)) (PIE X pins σ tg R) E { s with heap:=s.heap.push { cls:=.type "range",data:=.fields #[.int lo t,.int hi u,.int 1 v] },toks:=tk }:=by
 refine wpAny_pyIter_range (IsRange.new ..) (small_one h1 h2 h3 h4) ?_
 have I1:Inv X pins σ H { s with heap:=s.heap.push { cls:=.type "range",data:=.fields #[.int lo t,.int hi u,.int 1 v] },toks:=tk }:=I.kept fun b o e=>Heap.get?_push_of_some _ e
 refine ⟨(s.heap.push { cls:=.type "range",data:=.fields #[.int lo t,.int hi u,.int 1 v] }).objs.size,[(s.heap.push { cls:=.type "range",data:=.fields #[.int lo t,.int hi u,.int 1 v] }).objs.size],_,_,H,rfl,
  I1.kept (t':=tk) fun b o e=>Heap.get?_push_of_some _ e,jD _ lo (hi - lo).toNat,?_,fun b hb=>?_,q⟩
 ·have e1:lo + ((0:Nat):Int) * 1=lo:=by simp
  have e2:(((hi - lo).toNat:Nat):Int) - ((0:Nat):Int)=Builtin.Range.rangeSize lo hi 1:=by rw [rangeSize_one]; split <;> omega
  show IsRangeIter _ _ (lo + ((0:Nat):Int) * 1) ((((hi - lo).toNat:Nat):Int) - ((0:Nat):Int)) 1
  rw [e1,e2]
  exact Heap.get?_push_size _ rfl
 ·have e:b=(s.heap.push { cls:=.type "range",data:=.fields #[.int lo t,.int hi u,.int 1 v] }).objs.size:=by simpa using hb
  subst e
  exact I1.fpOk (Nat.le_refl _) (I1.hok.fresh (Nat.le_refl _))
def xc (ta:TA):TI:=fun σ H R=>ta σ H fun vs H1=>∃j:Int,vs=[.int j]∧-(2 ^ 62)≤j∧j < 2 ^ 62∧R (Itr 0 j.toNat) H1
theorem eM {a:Expr} {ta:TA} {p pos:Pos} (hg:Gl X "range") (hm:X.mg "range" = none) (ha:PA X [a] ta) (hs:starEach [a] X.env=[(false,eval a X.env)]:=by rfl):PI X tg (.Call (.Name "range" p) [a] [] pos) (xc ta):=by
 intro pins s σ H R I h
 refine Call_ (dI I hg hm boot_range (PyProof.Rows.callWith_type1 (thn (ha pos pins s σ H _ I h) fun us s1 ⟨vs,H1,I1,r1,q1⟩=>?_) hs rfl))
 obtain ⟨j,e,q1,q2,q⟩:=q1
 subst e
 cases r1 with
 | cons r rr =>
  cases rr
  obtain ⟨t,rfl⟩:=r
  exact call_range_1 (nP I1 (by omega) (by omega) q1 q2 (by simpa using q))
def xf (wi:TI) (g:TG) (tb:TS):TS:=fun D σ H=>wi σ H fun J H1=>∃W:Nat→Nat→St→Hp→Prop,(∃m,W 0 m σ H1)∧∀i m σ H,W i m σ H →
 (J.stop i H∧D.nx σ H)∨(J.go i H∧∃N:St→Hp→Prop,(∀σ' H',N σ' H'→∃m',m' < m∧W (i + 1) m' σ' H')∧∀x H',J.yld i H x H'→g x σ H' fun σ2 H2=>tb { D with nx:=N,ct:=N,bk:=D.nx } σ2 H2)
def hI (fp:List Addr) (h:Heap):List (Addr×Obj):=fp.filterMap fun b=>(h.get? b).map fun o=>(b,o)
theorem bN {fp:List Addr} {h:Heap} {b:Addr} {o:Obj} (hb:b∈fp) (e:h.get? b=some o):(b,o)∈hI fp h:=List.mem_filterMap.mpr ⟨b,hb,by rw [e]; rfl⟩
theorem ma {fp:List Addr} {h:Heap} {p:Addr×Obj} (hp:p∈hI fp h):p.1∈fp∧h.get? p.1=some p.2:=by
 obtain ⟨b,hb,e⟩:=List.mem_filterMap.mp hp
 cases q:h.get? b with
 | none=>rw [q] at e; cases e
 | some o =>
  rw [q] at e
  have e':(b,o)=p:=Option.some.inj e
  subst e'
  exact ⟨hb,q⟩
theorem Inv.pinned {pins:List (Addr×Obj)} {σ:St} {H:Hp} {s:Shared} {fp:List Addr} (I:Inv X pins σ H s) (hf:∀b∈fp,dS X pins H b) (ho:∀b∈fp,∃o,s.heap.get? b=some o∧∀v,o.data≠.cell v):Inv X (pins ++ hI fp s.heap) σ H s :=
 I.pins_of fun p hp=>(List.mem_append.mp hp).elim (fun z=>I.pin p (List.mem_append_right _ z)) fun z=>by
  obtain ⟨hb,e⟩:=ma z
  obtain ⟨f0,f1,f2,_⟩:=hf p.1 hb
  obtain ⟨o,e',d⟩:=ho p.1 hb
  rw [e] at e'; cases e'
  exact ⟨e,f0,f1,f2,d⟩
theorem Inv.unpinned {pins pl:List (Addr×Obj)} {σ:St} {H:Hp} {s:Shared} (I:Inv X (pins ++ pl) σ H s):Inv X pins σ H s:=I.pins_of fun p hp=>I.pin p (List.mem_append_right _ (List.mem_append_left _ hp))
theorem ci {iter:Expr} {body:List Stmt} {wi:TI} {g:TG} {tb:TS} {pos:Pos} (hp:PassesOwn (model X.prog X.w) X.A X.env X.xe) (hc:X.calm=true) (hi:PI X tg iter wi) (hg:PG X tg g) (hb:PSs X body tb)
  (hs:∀x,foldedSetIterable iter X.env x=pure x:=by intro _; rfl):PS X (.For tg iter body [] pos) (xf wi g tb):=by
 intro pins s σ H D I h
 refine wpAny_For (thn (hi pins s σ H _ I h) fun v s1 h1=>thn h1 fun itv s2 h2=>?_) hs
 obtain ⟨it,fp,tn,J,H2,e,I2,T,st2,f2,W,⟨m0,w0⟩,turn⟩:=h2
 subst e
 have stat:∀ {H':Hp},(∀b∈fp,H' b=none)→∀b∈fp,dS X pins H' b:=fun hn b hb=>⟨hn b hb,(f2 b hb).2⟩
 refine codeAny_forLoop_any (fun n s'=>∃i σ' H',Inv X pins σ' H' s'∧tn i s'.heap∧(∀b∈fp,H' b=none)∧W i n σ' H') ?_ m0 ⟨0,σ,H2,I2,st2,fun b hb=>(f2 b hb).1,w0⟩
 rintro n s3 ⟨i,σ3,H3,I3,st3,fr3,w3⟩
 rcases turn i n σ3 H3 w3 with ⟨stop,qn⟩ | ⟨go,N,hN,step⟩
 ·refine wpAny_passesOwn hp (thn (T.done X rfl rfl rfl hc i pins s3 σ3 H3 X.xe I3 (stat fr3) st3 stop) fun r s4 ⟨hr,I4⟩=>?_)
  subst hr
  exact wpAny_execs_nil ⟨σ3,H3,I4,qn⟩
 ·refine wpAny_passesOwn hp (thn (T.item X rfl rfl rfl hc i pins s3 σ3 H3 X.xe I3 (stat fr3) st3 go) fun r s4 ⟨u,hr,h4⟩=>?_)
  subst hr
  refine wpAny_passesOwn hp (thn h4 fun _ s5 ⟨x,H5,I5,r5,y5,st5,fr5⟩=>?_)
  have I5':=I5.pinned (stat fr5) (T.obj _ _ st5)
  refine wpAny_passesOwn hp (thn (hg _ s5 σ3 H5 x u _ I5' r5 (step x H5 y5)) fun _ s6 ⟨σ6,H6,I6,q6⟩=>?_)
  refine wpAny_passesOwn hp (thn (hb _ s6 σ6 H6 _ I6 q6) fun f s7 q7=>?_)
  have again:∀ {σ7:St} {H7:Hp},Inv X (pins ++ hI fp s5.heap) σ7 H7 s7→N σ7 H7→∃m,m < n∧∃i σ' H',Inv X pins σ' H' s7∧tn i s7.heap∧(∀b∈fp,H' b=none)∧W i m σ' H':=fun {σ7 H7} I7 n7=>by
   obtain ⟨m',hm,w7⟩:=hN σ7 H7 n7
   refine ⟨m',hm,i + 1,σ7,H7,I7.unpinned,T.keep _ _ _ st5 fun b hb o e=>(I7.pin (b,o) (List.mem_append_right _ (List.mem_append_right _ (bN hb e)))).1,fun b hb=>?_,w7⟩
   obtain ⟨o,e,d⟩:=T.obj _ _ st5 b hb
   exact (I7.pin (b,o) (List.mem_append_right _ (List.mem_append_right _ (bN hb e)))).2.1
  cases f with
  | next=>obtain ⟨σ7,H7,I7,n7⟩:=q7; exact again I7 n7
  | cont=>obtain ⟨σ7,H7,I7,n7⟩:=q7; exact again I7 n7
  | brk=>obtain ⟨σ7,H7,I7,q7⟩:=q7; exact ⟨σ7,H7,I7.unpinned,q7⟩
  | ret v=>obtain ⟨x7,σ7,H7,I7,r7,q7⟩:=q7; exact ⟨x7,σ7,H7,I7.unpinned,r7,q7⟩
end
theorem cZ {K:PySem.W.Frag} {a:Addr} {xs:List V} {g:TG} {tb:TS} {D:Ends} {σ:St} {H:Hp} (Pv:Nat→St→Hp→Prop) (h0:Pv 0 σ H) (hl:∀i σ H,i≤xs.length→Pv i σ H→SqL K H a xs)
  (hs:∀i x σ H,xs[i]? = some x→Pv i σ H→g x σ H fun σ2 H2=>tb { D with nx:=Pv (i + 1),ct:=Pv (i + 1),bk:=D.nx } σ2 H2) (hd:∀σ H,Pv xs.length σ H→D.nx σ H) :
  ∃W:Nat→Nat→St→Hp→Prop,(∃m,W 0 m σ H)∧∀i m σ H,W i m σ H →
   ((Itl K a).stop i H∧D.nx σ H)∨((Itl K a).go i H∧∃N:St→Hp→Prop,(∀σ' H',N σ' H'→∃m',m' < m∧W (i + 1) m' σ' H')∧∀x H',(Itl K a).yld i H x H'→g x σ H' fun σ2 H2=>tb { D with nx:=N,ct:=N,bk:=D.nx } σ2 H2):=by
 refine ⟨fun i m σ H=>m=xs.length - i∧i≤xs.length∧Pv i σ H,⟨xs.length,by simp,Nat.zero_le _,h0⟩,?_⟩
 rintro i m σ H ⟨rfl,hi,p⟩
 have q:=hl i σ H hi p
 by_cases hlt:i < xs.length
 ·refine .inr ⟨⟨xs,xs[i],q,by simp [hlt]⟩,Pv (i + 1),fun σ' H' p'=>⟨xs.length - (i + 1),by omega,rfl,hlt,p'⟩,fun x H' y=>?_⟩
  obtain ⟨e,y⟩:=y
  subst e
  exact hs i x σ _ (y xs q) p
 ·have e:i=xs.length:=by omega
  subst e
  exact .inl ⟨⟨xs,q,Nat.le_refl _⟩,hd σ H p⟩
theorem ql {K:PySem.W.Frag} {a:Addr} {xs:List V} {g:TG} {tb:TS} {D:Ends} {σ:St} {H:Hp} (Pv:Nat→St→Hp→Prop) (h0:Pv 0 σ H) (hl:∀i σ H,i≤xs.length→Pv i σ H→SqT K H a xs)
  (hs:∀i x σ H,xs[i]? = some x→Pv i σ H→g x σ H fun σ2 H2=>tb { D with nx:=Pv (i + 1),ct:=Pv (i + 1),bk:=D.nx } σ2 H2) (hd:∀σ H,Pv xs.length σ H→D.nx σ H) :
  ∃W:Nat→Nat→St→Hp→Prop,(∃m,W 0 m σ H)∧∀i m σ H,W i m σ H →
   ((Itt K a).stop i H∧D.nx σ H)∨((Itt K a).go i H∧∃N:St→Hp→Prop,(∀σ' H',N σ' H'→∃m',m' < m∧W (i + 1) m' σ' H')∧∀x H',(Itt K a).yld i H x H'→g x σ H' fun σ2 H2=>tb { D with nx:=N,ct:=N,bk:=D.nx } σ2 H2):=by
 refine ⟨fun i m σ H=>m=xs.length - i∧i≤xs.length∧Pv i σ H,⟨xs.length,by simp,Nat.zero_le _,h0⟩,?_⟩
 rintro i m σ H ⟨rfl,hi,p⟩
 have q:=hl i σ H hi p
 by_cases hlt:i < xs.length
 ·refine .inr ⟨⟨xs,xs[i],q,by simp [hlt]⟩,Pv (i + 1),fun σ' H' p'=>⟨xs.length - (i + 1),by omega,rfl,hlt,p'⟩,fun x H' y=>?_⟩
  obtain ⟨e,y⟩:=y
  subst e
  exact hs i x σ _ (y xs q) p
 ·have e:i=xs.length:=by omega
  subst e
  exact .inl ⟨⟨xs,q,Nat.le_refl _⟩,hd σ H p⟩
theorem eO {lo:Int} {n:Nat} {g:TG} {tb:TS} {D:Ends} {σ:St} {H:Hp} (Pv:Nat→St→Hp→Prop) (h0:Pv 0 σ H)
  (hs:∀i σ H,i < n→Pv i σ H→g (.int (lo + i)) σ H fun σ2 H2=>tb { D with nx:=Pv (i + 1),ct:=Pv (i + 1),bk:=D.nx } σ2 H2) (hd:∀σ H,Pv n σ H→D.nx σ H) :
  ∃W:Nat→Nat→St→Hp→Prop,(∃m,W 0 m σ H)∧∀i m σ H,W i m σ H →
   ((Itr lo n).stop i H∧D.nx σ H)∨((Itr lo n).go i H∧∃N:St→Hp→Prop,(∀σ' H',N σ' H'→∃m',m' < m∧W (i + 1) m' σ' H')∧∀x H',(Itr lo n).yld i H x H'→g x σ H' fun σ2 H2=>tb { D with nx:=N,ct:=N,bk:=D.nx } σ2 H2):=by
 refine ⟨fun i m σ H=>m=n - i∧i≤n∧Pv i σ H,⟨n,by simp,Nat.zero_le _,h0⟩,?_⟩
 rintro i m σ H ⟨rfl,hi,p⟩
 by_cases hlt:i < n
 ·refine .inr ⟨hlt,Pv (i + 1),fun σ' H' p'=>⟨n - (i + 1),by omega,rfl,hlt,p'⟩,fun x H' y=>?_⟩
  obtain ⟨e,y⟩:=y
  subst e y
  exact hs i σ _ hlt p
 ·have e:i=n:=by omega
  subst e
  exact .inl ⟨Nat.le_refl _,hd σ H p⟩
end L2
namespace L2
open PySem PySem.Spec PyProof.Rows
abbrev R2:=V→V→Hp→VK→Prop
def OpR (X:Cx) (f:Value→Value→Sem Value) (r:R2):Prop :=
 ∀ (pins:List (Addr×Obj)) (s:Shared) (σ:St) (H:Hp) (x y:V) (v u:Value) (Q:VK),Inv X pins σ H s→RelV x v→RelV y u→r x y H Q →
  wpAny (model X.prog X.w) X.A (f v u) (EP X pins σ Q) X.xe s
def UnR (X:Cx) (f:Value→Sem Value) (r:V→Hp→VK→Prop):Prop :=
 ∀ (pins:List (Addr×Obj)) (s:Shared) (σ:St) (H:Hp) (x:V) (v:Value) (Q:VK),Inv X pins σ H s→RelV x v→r x H Q →
  wpAny (model X.prog X.w) X.A (f v) (EP X pins σ Q) X.xe s
def bY (X:Cx) (f:Value) (r:List V→Hp→VK→Prop):Prop :=
 ∀ (pins:List (Addr×Obj)) (s:Shared) (σ:St) (H:Hp) (xs:List V) (us:List Value) (Q:VK),Inv X pins σ H s→Vals xs us→r xs H Q →
  wpAny (model X.prog X.w) X.A (call f us) (EP X pins σ Q) X.xe s
def CW (X:Cx) (r:V→Hp→(Bool→Hp→Prop)→Prop):Prop :=
 ∀ (pins:List (Addr×Obj)) (s:Shared) (σ:St) (H:Hp) (x:V) (v:Value) (Q:Bool→Hp→Prop),Inv X pins σ H s→RelV x v→r x H Q →
  wpAny (model X.prog X.w) X.A (truthy v) (TP X pins σ Q) X.xe s
def tOp (r:R2) (ta tb:TE):TE:=fun σ H Q=>ta σ H fun x H1=>tb σ H1 fun y H2=>r x y H2 Q
def tUn (r:V→Hp→VK→Prop) (ta:TE):TE:=fun σ H Q=>ta σ H fun x H1=>r x H1 Q
def rI (C:Int→Int→Prop) (g:Int→Int→V):R2:=fun x y H Q=>∃i j,x=.int i∧y=.int j∧C i j∧Q (g i j) H
def rI0 (g:Int→Int→V):R2:=fun x y H Q=>∃i j,x=.int i∧y=.int j∧Q (g i j) H
def rU (g:Int→V):V→Hp→VK→Prop:=fun x H Q=>∃i,x=.int i∧Q (g i) H
section
variable {X:Cx} {a b c:Expr} {ta tb tc:TE} {pos:Pos}
theorem sL (ha:PE X a ta) (hb:PE X b tb) {pins:List (Addr×Obj)} {s:Shared} {σ:St} {H:Hp} {R:V→V→Hp→Prop} (I:Inv X pins σ H s)
  (h:ta σ H fun x H1=>tb σ H1 fun y H2=>R x y H2) {Q:Value→Shared→Prop} {f:Value→Value→Sem Value}
  (hf:∀v u s2 x y H2,Inv X pins σ H2 s2→RelV x v→RelV y u→R x y H2→wpAny (model X.prog X.w) X.A (f v u) Q X.xe s2) :
  wpAny (model X.prog X.w) X.A (eval a X.env) (fun v s₁=>wpAny (model X.prog X.w) X.A (eval b X.env) (fun u s₂=>wpAny (model X.prog X.w) X.A (f v u) Q X.xe s₂) X.xe s₁) X.xe s:=by
 refine thn (ha pins s σ H _ I h) fun v s1 ⟨x,H1,I1,r1,q1⟩=>?_
 refine thn (hb pins s1 σ H1 _ I1 q1) fun u s2 ⟨y,H2,I2,r2,q2⟩=>?_
 exact hf v u s2 x y H2 I2 r1 r2 q2
theorem aF {op:Operator} {r:R2} (ho:OpR X (binaryOp op) r) (ha:PE X a ta) (hb:PE X b tb):PE X (.BinOp a op b pos) (tOp r ta tb):=by
 intro pins s σ H Q I h
 exact wpAny_BinOp (sL ha hb I h fun v u s2 x y H2 I2 rx ry q=>ho pins s2 σ H2 x y v u Q I2 rx ry q)
theorem rW {op:UnaryOp} {r:V→Hp→VK→Prop} (ho:UnR X (unaryOp op) r) (ha:PE X a ta):PE X (.UnaryOp op a pos) (tUn r ta):=by
 intro pins s σ H Q I h
 exact UnaryOp_ (thn (ha pins s σ H _ I h) fun v s1 ⟨x,H1,I1,r1,q1⟩=>ho pins s1 σ H1 x v Q I1 r1 q1)
theorem opI {f:Value→Value→Sem Value} {C:Int→Int→Prop} {g:Int→Int→Int}
  (rule:∀ (i j:Int) (t u:Tok) (s:Shared) (Q:Value→Shared→Prop) (E:Value→Shared→Prop),C i j→Q (.int (g i j) s.toks) { s with toks:=s.toks + 1 }→wpAny (model X.prog X.w) X.A (f (.int i t) (.int j u)) Q E s) :
  OpR X f (rI C fun i j=>.int (g i j)):=by
 intro pins s σ H x y v u Q I rx ry h
 obtain ⟨i,j,rfl,rfl,hc,q⟩:=h
 obtain ⟨t,rfl⟩:=rx
 obtain ⟨t',rfl⟩:=ry
 exact rule i j t t' s _ _ hc ⟨.int (g i j),H,I.tok _,⟨_,rfl⟩,q⟩
theorem xg {f:Value→Value→Sem Value} {g:Int→Int→Int}
  (rule:∀ (i j:Int) (t u:Tok) (s:Shared) (Q:Value→Shared→Prop) (E:Value→Shared→Prop),Q (.int (g i j) s.toks) { s with toks:=s.toks + 1 }→wpAny (model X.prog X.w) X.A (f (.int i t) (.int j u)) Q E s) :
  OpR X f (rI0 fun i j=>.int (g i j)):=by
 intro pins s σ H x y v u Q I rx ry h
 obtain ⟨i,j,rfl,rfl,q⟩:=h
 obtain ⟨t,rfl⟩:=rx
 obtain ⟨t',rfl⟩:=ry
 exact rule i j t t' s _ _ ⟨.int (g i j),H,I.tok _,⟨_,rfl⟩,q⟩
theorem qm {f:Value→Value→Sem Value} {g:Int→Int→Bool}
  (rule:∀ (i j:Int) (t u:Tok) (s:Shared) (Q:Value→Shared→Prop) (E:Value→Shared→Prop),Q (.bool (g i j)) s→wpAny (model X.prog X.w) X.A (f (.int i t) (.int j u)) Q E s) :
  OpR X f (rI0 fun i j=>.bl (g i j)):=by
 intro pins s σ H x y v u Q I rx ry h
 obtain ⟨i,j,rfl,rfl,q⟩:=h
 obtain ⟨t,rfl⟩:=rx
 obtain ⟨t',rfl⟩:=ry
 exact rule i j t t' s _ _ ⟨.bl (g i j),H,I,rfl,q⟩
def CY (i j:Int):Prop:=0≤j∧j≤1000000∧i.natAbs < 2 ^ 64
def CMul (i j:Int):Prop:=(-(2 ^ 64) < i∧i < 2 ^ 64)∨(-(2 ^ 64) < j∧j < 2 ^ 64)
theorem CMul.ok {i j:Int} (h:CMul i j):IntMulOk i j:=by
 rcases h with ⟨h1,h2⟩ | ⟨h1,h2⟩
 ·exact .of_left (intBits_le_64 h1 h2)
 ·exact .of_right (intBits_le_64 h1 h2)
theorem aT:OpR X (binaryOp .Add) (rI0 fun i j=>.int (i + j)):=xg fun _ _ _ _ _ _ _ q=>add_int q
theorem de:OpR X (binaryOp .Sub) (rI0 fun i j=>.int (i - j)):=xg fun _ _ _ _ _ _ _ q=>sub_int q
theorem eQ:OpR X (binaryOp .Mult) (rI CMul fun i j=>.int (i * j)):=opI fun _ _ _ _ _ _ _ hc q=>mul_int q hc.ok
theorem dJ:OpR X (binaryOp .Mod) (rI (fun _ j=>0 < j) fun i j=>.int (i % j)):=opI fun i j _ _ _ _ _ hc q=>by
 have h1:(0:Int) < j:=hc
 exact mod_int' (by omega) (by rw [Int.fmod_eq_emod_of_nonneg i (by omega)]; exact q)
theorem dL:OpR X (binaryOp .Pow) (rI CY fun i j=>.int (i ^ j.toNat)):=opI fun _ _ _ _ _ _ _ hc q=>pow_int_small hc.1 hc.2.1 hc.2.2 q
theorem unI {f:Value→Sem Value} {g:Int→Int}
  (rule:∀ (i:Int) (t:Tok) (s:Shared) (Q:Value→Shared→Prop) (E:Value→Shared→Prop),Q (.int (g i) s.toks) { s with toks:=s.toks + 1 }→wpAny (model X.prog X.w) X.A (f (.int i t)) Q E s) :
  UnR X f (rU fun i=>.int (g i)):=by
 intro pins s σ H x v Q I rx h
 obtain ⟨i,rfl,q⟩:=h
 obtain ⟨t,rfl⟩:=rx
 exact rule i t s _ _ ⟨.int (g i),H,I.tok _,⟨_,rfl⟩,q⟩
theorem nQ:UnR X (unaryOp .USub) (rU fun i=>.int (-i)):=unI fun _ _ _ _ _ q=>neg_int q
end
def xh:V→V→Bool
 | .non,.non=>true | .non,.int _=>true | .int _,.non=>true | .non,.bl _=>true | .bl _,.non=>true | .non,.str _=>true | .str _,.non=>true
 | .int _,.int _=>true | .bl _,.bl _=>true | .str _,.str _=>true | .byt _,.byt _=>true
 | .int _,.str _=>true | .str _,.int _=>true | .bl _,.str _=>true | .str _,.bl _=>true
 | _,_=>false
def rEq:R2:=fun x y H Q=>xh x y=true∧Q (.bl (decide (x=y))) H
def rNe:R2:=fun x y H Q=>xh x y=true∧Q (.bl (!decide (x=y))) H
theorem hJ {i j:Int}:decide (V.int i=V.int j)=(i == j):=by
 rw [Bool.eq_iff_iff]
 simp
theorem nR {i j:Bool}:decide (V.bl i=V.bl j)=(i == j):=by
 rw [Bool.eq_iff_iff]
 simp
theorem lr {i j:Str}:decide (V.str i=V.str j)=(i == j):=by
 rw [Bool.eq_iff_iff]
 simp
theorem lu {i j:Array UInt8}:decide (V.byt i=V.byt j)=(i.toList == j.toList):=by
 rw [Bool.eq_iff_iff]
 cases i
 cases j
 simp
section
variable {X:Cx} {a b c:Expr} {ta tb tc:TE} {pos:Pos}
theorem aM {pins:List (Addr×Obj)} {σ:St} {H:Hp} {s:Shared} {Q:VK} {k k':Bool} (I:Inv X pins σ H s) (q:Q (.bl k) H) (e:k=k'):EP X pins σ Q (.bool k') s:=by
 subst e
 exact ⟨.bl k,H,I,rfl,q⟩
theorem fH:OpR X (compareOp .Eq) rEq:=by
 intro pins s σ H x y v u Q I rx ry h
 obtain ⟨hs,q⟩:=h
 cases x with
 | non =>
  cases rx
  cases y with
  | non=>cases ry; exact PySem.EqNone.eq_none_none (aM I q (by simp))
  | bl j=>cases ry; exact PySem.EqNone.eq_none_bool (aM I q (by simp))
  | int j=>obtain ⟨t',rfl⟩:=ry; exact PySem.EqNone.eq_none_int (aM I q (by simp))
  | str j=>obtain ⟨t',rfl⟩:=ry; exact PySem.EqNone.eq_none_str (aM I q (by simp))
  | _=>exact absurd (show false=true from hs) Bool.false_ne_true
 | bl i =>
  cases rx
  cases y with
  | non=>cases ry; exact PySem.EqNone.eq_bool_none (aM I q (by simp))
  | bl j=>cases ry; exact eq_bool (aM I q nR)
  | str j=>obtain ⟨t',rfl⟩:=ry; exact PySem.EqMixed.eq_bool_str (aM I q (by simp))
  | _=>exact absurd (show false=true from hs) Bool.false_ne_true
 | int i =>
  obtain ⟨t,rfl⟩:=rx
  cases y with
  | non=>cases ry; exact PySem.EqNone.eq_int_none (aM I q (by simp))
  | int j=>obtain ⟨t',rfl⟩:=ry; exact eq_int (aM I q hJ)
  | str j=>obtain ⟨t',rfl⟩:=ry; exact PySem.EqMixed.eq_int_str (aM I q (by simp))
  | _=>exact absurd (show false=true from hs) Bool.false_ne_true
 | str i =>
  obtain ⟨t,rfl⟩:=rx
  cases y with
  | non=>cases ry; exact PySem.EqNone.eq_str_none (aM I q (by simp))
  | bl j=>cases ry; exact PySem.EqMixed.eq_str_bool (aM I q (by simp))
  | int j=>obtain ⟨t',rfl⟩:=ry; exact PySem.EqMixed.eq_str_int (aM I q (by simp))
  | str j=>obtain ⟨t',rfl⟩:=ry; exact eq_str (aM I q lr)
  | _=>exact absurd (show false=true from hs) Bool.false_ne_true
 | byt i =>
  obtain ⟨t,rfl⟩:=rx
  cases y with
  | byt j=>obtain ⟨t',rfl⟩:=ry; exact PySem.W.eq_bytes (aM I q lu)
  | _=>exact absurd (show false=true from hs) Bool.false_ne_true
 | _=>cases y <;> exact absurd (show false=true from hs) Bool.false_ne_true
theorem cI:OpR X (compareOp .NotEq) rNe:=by
 intro pins s σ H x y v u Q I rx ry h
 obtain ⟨hs,q⟩:=h
 cases x with
 | non =>
  cases rx
  cases y with
  | non=>cases ry; exact PySem.EqNone.ne_none_none (aM I q (by simp))
  | bl j=>cases ry; exact PySem.EqNone.ne_none_bool (aM I q (by simp))
  | int j=>obtain ⟨t',rfl⟩:=ry; exact PySem.EqNone.ne_none_int (aM I q (by simp))
  | str j=>obtain ⟨t',rfl⟩:=ry; exact PySem.EqNone.ne_none_str (aM I q (by simp))
  | _=>exact absurd (show false=true from hs) Bool.false_ne_true
 | bl i =>
  cases rx
  cases y with
  | non=>cases ry; exact PySem.EqNone.ne_bool_none (aM I q (by simp))
  | bl j=>cases ry; exact ne_bool (aM I q (congrArg not nR))
  | str j=>obtain ⟨t',rfl⟩:=ry; exact PySem.EqMixed.ne_bool_str (aM I q (by simp))
  | _=>exact absurd (show false=true from hs) Bool.false_ne_true
 | int i =>
  obtain ⟨t,rfl⟩:=rx
  cases y with
  | non=>cases ry; exact PySem.EqNone.ne_int_none (aM I q (by simp))
  | int j=>obtain ⟨t',rfl⟩:=ry; exact ne_int (aM I q (congrArg not hJ))
  | str j=>obtain ⟨t',rfl⟩:=ry; exact PySem.EqMixed.ne_int_str (aM I q (by simp))
  | _=>exact absurd (show false=true from hs) Bool.false_ne_true
 | str i =>
  obtain ⟨t,rfl⟩:=rx
  cases y with
  | non=>cases ry; exact PySem.EqNone.ne_str_none (aM I q (by simp))
  | bl j=>cases ry; exact PySem.EqMixed.ne_str_bool (aM I q (by simp))
  | int j=>obtain ⟨t',rfl⟩:=ry; exact PySem.EqMixed.ne_str_int (aM I q (by simp))
  | str j=>obtain ⟨t',rfl⟩:=ry; exact ne_str (aM I q (congrArg not lr))
  | _=>exact absurd (show false=true from hs) Bool.false_ne_true
 | byt i =>
  obtain ⟨t,rfl⟩:=rx
  cases y with
  | byt j=>obtain ⟨t',rfl⟩:=ry; exact PySem.W.ne_bytes (aM I q (congrArg not lu))
  | _=>exact absurd (show false=true from hs) Bool.false_ne_true
 | _=>cases y <;> exact absurd (show false=true from hs) Bool.false_ne_true
theorem lw:OpR X (compareOp .Lt) (rI0 fun i j=>.bl (decide (i < j))):=qm fun _ _ _ _ _ _ _ q=>lt_int q
theorem dU:OpR X (compareOp .LtE) (rI0 fun i j=>.bl (decide (i≤j))):=qm fun _ _ _ _ _ _ _ q=>le_int q
theorem iI:OpR X (compareOp .Gt) (rI0 fun i j=>.bl (decide (j < i))):=qm fun _ _ _ _ _ _ _ q=>gt_int q
theorem lx:OpR X (compareOp .GtE) (rI0 fun i j=>.bl (decide (j≤i))):=qm fun _ _ _ _ _ _ _ q=>ge_int q
theorem sM:OpR X (compareOp .Is) (fun x y H Q=>y=.non∧Q (.bl (decide (x=.non))) H):=by
 intro pins s σ H x y v u Q I rx ry h
 obtain ⟨rfl,q⟩:=h
 cases ry
 refine is_none_gen (aM I q ?_)
 cases x <;> first
  | (cases rx; rfl)
  | (obtain ⟨t,rfl⟩:=rx; rfl)
theorem qo:OpR X (compareOp .IsNot) (fun x y H Q=>y=.non∧Q (.bl (!decide (x=.non))) H):=by
 intro pins s σ H x y v u Q I rx ry h
 obtain ⟨rfl,q⟩:=h
 cases ry
 refine isnot_none_gen (aM I q ?_)
 cases x <;> first
  | (cases rx; rfl)
  | (obtain ⟨t,rfl⟩:=rx; rfl)
theorem aH (b:Expr) {op:CmpOp} (h:op≠.In:=by decide) (h2:op≠.NotIn:=by decide):behindInMarks op b=false:=by
 have e1:(op == CmpOp.In)=false:=by cases op <;> first | rfl | exact absurd rfl h
 have e2:(op == CmpOp.NotIn)=false:=by cases op <;> first | rfl | exact absurd rfl h2
 cases b <;> simp [behindInMarks,e1,e2]
theorem bz {op:CmpOp} {r:R2} (ho:OpR X (compareOp op) r) (ha:PE X a ta) (hb:PE X b tb) (hm:behindInMarks op b=false):PE X (.Compare a [op] [b] pos) (tOp r ta tb):=by
 intro pins s σ H Q I h
 exact wpAny_Compare1 (sL ha hb I h fun v u s2 x y H2 I2 rx ry q=>ho pins s2 σ H2 x y v u Q I2 rx ry q) hm
def rX (t:TE):TT:=fun σ H Q=>t σ H fun x H'=>∃k,x=.bl k∧Q k H'
theorem aI {op:CmpOp} {r:R2} (ho:OpR X (compareOp op) r) (ha:PE X a ta) (hb:PE X b tb) (hm:behindInMarks op b=false):PT X (.Compare a [op] [b] pos) (rX (tOp r ta tb)):=by
 intro pins s σ H Q I h
 refine wpAny_isTrue_Compare1 (thn (ha pins s σ H _ I h) fun v s1 ⟨x,H1,I1,r1,q1⟩=>thn (hb pins s1 σ H1 _ I1 q1) fun u s2 ⟨y,H2,I2,r2,q2⟩ =>
  thn (ho pins s2 σ H2 x y v u _ I2 r1 r2 q2) fun c s3 ⟨z,H3,I3,r3,k,e,q3⟩=>?_) hm
 subst e
 cases r3
 exact wpAny_truthy_bool ⟨H3,I3,q3⟩
def sN (r r':R2) (ta tb tc:TE):TE:=fun σ H Q=>ta σ H fun x H1=>tb σ H1 fun y H2=>r x y H2 fun z H3=>∃k,z=.bl k ∧
 (if k=true then tc σ H3 fun w' H4=>r' y w' H4 Q else Q (.bl false) H3)
theorem nS {op op':CmpOp} {r r':R2} (ho:OpR X (compareOp op) r) (ho':OpR X (compareOp op') r') (ha:PE X a ta) (hb:PE X b tb) (hc:PE X c tc)
  (hm:lastMarks [op,op'] [b,c]=false:=by with_unfolding_all rfl):PT X (.Compare a [op,op'] [b,c] pos) (rX (sN r r' ta tb tc)):=by
 intro pins s σ H Q I h
 refine isTrue_chain (thn (ha pins s σ H _ I h) fun v s1 ⟨x,H1,I1,r1,q1⟩=>test_link (thn (hb pins s1 σ H1 _ I1 q1) fun u s2 ⟨y,H2,I2,r2,q2⟩ =>
  thn (ho pins s2 σ H2 x y v u _ I2 r1 r2 q2) fun d s3 ⟨z,H3,I3,r3,k,e,q3⟩=>?_)) hm
 subst e
 cases r3
 refine wpAny_truthy_bool ?_
 cases k with
 | false =>
  obtain ⟨k',e',q'⟩:=q3
  cases e'
  exact ite_ff ⟨H3,I3,q'⟩
 | true =>
  refine ite_tt (test_last (thn (hc pins s3 σ H3 _ I3 q3) fun w' s4 ⟨z',H4,I4,r4,q4⟩=>thn (ho' pins s4 σ H4 y z' u w' _ I4 r2 r4 q4) fun d' s5 ⟨z2,H5,I5,r5,k2,e2,q5⟩=>?_))
  subst e2
  cases r5
  exact wpAny_truthy_bool ⟨H5,I5,q5⟩
def xi (K:PySem.W.Frag) (x:V) (H:Hp) (k:Bool):Prop :=
 match x with
 | .non=>k=false
 | .bl b=>k=b
 | .int i=>k=(i != 0)
 | .str y=>y.length≤sizeLine∧k=((y.length:Int) != 0)
 | .byt y=>y.size≤sizeLine∧k=((y.size:Int) != 0)
 | .ref p=>(∃xs,SqL K H p xs∧k=!xs.isEmpty)∨(∃xs,SqT K H p xs∧k=!xs.isEmpty)∨∃kvs,H p=some (.dK kvs)∧k=!kvs.isEmpty
 | _=>False
theorem jE {κ:Type} {kvs:List (κ×V)} {vs:List (κ×Value)} (r:KV kvs vs):(!vs.isEmpty)=!kvs.isEmpty:=by
 cases r <;> rfl
theorem fI {xs:List V} {its:List Value} (r:Vals xs its):(!its.toArray.isEmpty)=!xs.isEmpty:=by
 cases r <;> simp
theorem eR:(sizeLine:Nat) < 2 ^ 63:=by rw [sizeLine_eq]; decide
theorem sO:CW X (fun x H Q=>∃k,xi X.K x H k∧Q k H):=by
 intro pins s σ H x v Q I rx h
 obtain ⟨k,e,q⟩:=h
 have hl:=eR
 have hs:sizeLine=16777216:=sizeLine_eq
 cases x with
 | non =>
  cases rx
  have e':k=false:=e
  subst e'
  exact truthy_none ⟨H,I,q⟩
 | bl b =>
  cases rx
  have e':k=b:=e
  subst e'
  exact wpAny_truthy_bool ⟨H,I,q⟩
 | int i =>
  obtain ⟨t,rfl⟩:=rx
  have e':k=(i != 0):=e
  subst e'
  exact PySem.P.truthy_int ⟨H,I,q⟩
 | str y =>
  obtain ⟨t,rfl⟩:=rx
  obtain ⟨hy,e'⟩:y.length≤sizeLine∧k=((y.length:Int) != 0):=e
  subst e'
  exact PySem.P.truthy_str (by omega) ⟨H,I.tok _,q⟩
 | byt y =>
  obtain ⟨t,rfl⟩:=rx
  obtain ⟨hy,e'⟩:y.size≤sizeLine∧k=((y.size:Int) != 0):=e
  subst e'
  exact PySem.W.truthy_bytes (by omega) ⟨H,I.tok _,q⟩
 | ref p =>
  cases rx
  have e':(∃xs,SqL X.K H p xs∧k=!xs.isEmpty)∨(∃xs,SqT X.K H p xs∧k=!xs.isEmpty)∨∃kvs,H p=some (.dK kvs)∧k=!kvs.isEmpty:=e
  rcases e' with ⟨xs,hx,e'⟩ | ⟨xs,hx,e'⟩ | ⟨kvs,hx,e'⟩
  ·subst e'
   obtain ⟨its,r,pl,hz⟩:=I.list hx
   have hlen:=r.length
   exact wpAny_truthy_list pl.isList (by simp only [List.size_toArray]; omega) ⟨H,I.tok _,by rw [fI r]; exact q⟩
  ·subst e'
   obtain ⟨its,r,pl,hz⟩:=I.tuple hx
   have hlen:=r.length
   exact truthy_tuple pl (by simp only [List.size_toArray]; omega) ⟨H,I.tok _,by rw [fI r]; exact q⟩
  ·subst e'
   obtain ⟨hz,hS,vs,r,m⟩:kvs.length≤sizeLine∧(p == sysModules)=false∧∃vs,KV kvs vs∧s.heap.DictOf (fz X.prog X.w) p vs:=I.hok p _ hx
   have hlen:kvs.length=vs.length:=Paired.length r
   exact wpAny_truthy_dict hS m (by omega) ⟨H,I.tok _,by rw [jE r]; exact q⟩
 | _=>exact (show False from e).elim
theorem nT (ha:PE X a ta) (he:∀aD,isTrue a X.env aD=(do let v←aD; standAt a.pos; holding [v] (truthy v))) :
  PT X a (fun σ H Q=>ta σ H fun x H'=>∃k,xi X.K x H' k∧Q k H'):=by
 intro pins s σ H Q I h
 exact isTrue_plain (thn (ha pins s σ H _ I h) fun v s1 ⟨x,H1,I1,r1,q1⟩=>sO pins s1 σ H1 x v Q I1 r1 q1) (he _)
theorem dW {x:V} {us:List Value} (r:Vals [x] us):∃u,us=[u]∧RelV x u:=by
 cases r with
 | cons r1 r2=>cases r2; exact ⟨_,rfl,r1⟩
theorem rY {x y:V} {us:List Value} (r:Vals [x,y] us):∃u w',us=[u,w']∧RelV x u∧RelV y w':=by
 cases r with
 | cons r1 r2 =>
  cases r2 with
  | cons r3 r4=>cases r4; exact ⟨_,_,rfl,r1,r3⟩
theorem iJ:bY X (.builtin "abs") (fun xs H Q=>∃i,xs=[.int i]∧Q (.int (if i < 0 then -i else i)) H):=by
 intro pins s σ H xs us Q I r h
 obtain ⟨i,rfl,q⟩:=h
 obtain ⟨u,rfl,t,rfl⟩:=dW r
 exact call_abs_int fun u tk=>⟨.int (if i < 0 then -i else i),H,I.tok _,⟨_,rfl⟩,q⟩
theorem eS (hc:X.calm=true):bY X (.builtin "max") (fun xs H Q=>∃i j,xs=[.int i,.int j]∧Q (.int (if j > i then j else i)) H):=by
 intro pins s σ H xs us Q I r h
 obtain ⟨i,j,rfl,q⟩:=h
 obtain ⟨u,w',rfl,⟨t,rfl⟩,⟨t',rfl⟩⟩:=rY r
 refine max_two_ints (I.ok.hd hc) fun h' tk k=>⟨_,H,I.kept k,?_,q⟩
 by_cases hj:j > i
 ·rw [if_pos hj,if_pos hj]; exact ⟨_,rfl⟩
 ·rw [if_neg hj,if_neg hj]; exact ⟨_,rfl⟩
theorem md (hc:X.calm=true):bY X (.builtin "min") (fun xs H Q=>∃i j,xs=[.int i,.int j]∧Q (.int (if j < i then j else i)) H):=by
 intro pins s σ H xs us Q I r h
 obtain ⟨i,j,rfl,q⟩:=h
 obtain ⟨u,w',rfl,⟨t,rfl⟩,⟨t',rfl⟩⟩:=rY r
 refine min_two_ints (I.ok.hd hc) fun h' tk k=>⟨_,H,I.kept k,?_,q⟩
 by_cases hj:j < i
 ·rw [if_pos hj,if_pos hj]; exact ⟨_,rfl⟩
 ·rw [if_neg hj,if_neg hj]; exact ⟨_,rfl⟩
theorem eU:bY X (.type "int") (fun xs H Q=>(∃i,xs=[.int i]∧Q (.int i) H)∨∃k,xs=[.bl k]∧Q (.int (if k then 1 else 0)) H):=by
 intro pins s σ H xs us Q I r h
 rcases h with ⟨i,rfl,q⟩ | ⟨k,rfl,q⟩
 ·obtain ⟨u,rfl,t,rfl⟩:=dW r
  exact call_int_int ⟨.int i,H,I,⟨_,rfl⟩,q⟩
 ·obtain ⟨u,rfl,r1⟩:=dW r
  cases r1
  exact call_int_bool ⟨.int (if k then 1 else 0),H,I.tok _,⟨_,rfl⟩,q⟩
end
end L2
namespace L2
open PySem PySem.Spec PyProof.Rows
structure ObjM (h:Heap) (x dx C:Addr) (mA:Str→Option Value):Prop where
 obj:h.get? x=some (PySem.W.instObj C dx)
 ns:h.Ns1 dx mA
 ne:dx≠x
theorem me {h:Heap} {dx:Addr} {mA:Str→Option Value} (n:h.Ns1 dx mA):∃od,h.get? dx=some od∧∀name,PySem.W.lookIn name od=some (mA name):=by
 obtain ⟨o,es,ep,ho,hd,hk,_,hm⟩:=n
 refine ⟨o,ho,fun name=>?_⟩
 have e:=hm name
 unfold nsFind findBy at e
 rw [← Array.find?_toList] at e
 unfold PySem.W.lookIn
 rw [hd]
 dsimp only
 split
 ·rename_i y q
  rw [q] at e
  exact congrArg some e
 ·rename_i q
  rw [q] at e
  have a:es.toList.any (·.refKey)=false:=by
   rw [List.any_eq_false]
   intro y hy
   obtain ⟨z,t,hkey⟩:=hk y (Array.mem_toList_iff.mp hy)
   simp [DictEntry.refKey,hkey]
  have a':¬ es.toList.any (·.refKey)=true:=by rw [a]; exact Bool.false_ne_true
  rw [if_neg a']
  exact congrArg some e
theorem ObjM.look {h:Heap} {x dx C:Addr} {mA:Str→Option Value} (I:ObjM h x dx C mA):∃od,PySem.W.InstAt h x (PySem.W.instObj C dx) C (some od)∧∀name,PySem.W.lookIn name od=some (mA name) :=
 let ⟨od,ho,hl⟩:=me I.ns
 ⟨od,⟨I.obj,rfl,rfl,ho⟩,hl⟩
section
variable {prog:Program} {w:World} {A:Around} {E:Value→Shared→Prop} {s:Shared} {K:PySem.W.Frag} {x dx C f:Addr} {mA:Str→Option Value} {name:Str} {v:Value}
theorem qp {expr:Bool} {Q:Value→Shared→Prop} (X:K.In s.heap) (I:ObjM s.heap x dx C mA) (hg:PySem.W.plainGet K C name=true) (hh:PySem.W.hasDictIn K C=true)
  (ha:PySem.W.findIn K (.ref C) name=some none) (hv:mA name=some v) (hv':PySem.W.handedIn v=true) (h:Q v { s with toks:=s.toks + 1 }) :
  wpAny (model prog w) A (getAttr (.ref x) name expr) Q E s:=by
 obtain ⟨od,J,hl⟩:=I.look
 exact PySem.W.get_value X J (PySem.W.plainGet_of hg).1 (PySem.W.findObj_own hh ha rfl (by rw [hl,hv])) hv' h
theorem nU {pl:Sem Bool} {Q:Value×List Value→Shared→Prop} (X:K.In s.heap) (I:ObjM s.heap x dx C mA) (hg:PySem.W.plainGet K C name=true)
  (hf:PySem.W.findIn K (.ref C) name=some (some (.ref f))) (ht:PySem.W.isFn K (.ref f)=true) (hv:mA name=none) (h:Q (.ref f,[.ref x]) s) :
  wpAny (model prog w) A (getMethod (.ref x) name pl) Q E s:=by
 obtain ⟨od,J,hl⟩:=I.look
 exact PySem.W.method_fn X J (PySem.W.plainGet_of hg).1 (PySem.W.plainGet_of hg).2 hf (beq_iff_eq.mp ht) (by show (PySem.W.lookIn name od).map (·.isSome)=some false; rw [hl,hv]; rfl) h
theorem qq {ns:List Str} {Q:Unit→Shared→Prop} (X:K.In s.heap) (I:ObjM s.heap x dx C mA)
  (hs:PySem.W.findIn K (.ref C) "__setattr__" = some (some (.builtin "object.__setattr__"))) (hp:PySem.W.plainOver K C=true) (ht:PySem.W.takerIn K C name=some none) (hh:PySem.W.hasDictIn K C=true)
  (hw:PySem.Within mA ns) (hsz:ns.length≤sizeLine)
  (h:∀h',ObjM h' x dx C (fun y=>if y=name then some v else mA y)→Heap.SameBut dx s.heap h'→Q () { s with heap:=h',toks:=s.toks + 2 }) :
  wpAny (model prog w) A (setAttr (.ref x) name v) Q E s:=by
 obtain ⟨od,J,hl⟩:=I.look
 refine PySem.W.set_plain X J hs (PySem.W.osa_open (s:={ s with toks:=s.toks + 1 }) (r:=none) X J hp ht fun b=>?_)
 obtain ⟨cd,hc,hd'⟩:=PySem.W.any_some hh
 have hx:s.heap.get? x=some ⟨.ref C,some dx,.plain,#[]⟩:=I.obj
 refine wpAny_bind (wpAny_pure (wpAny_bind (wpAny_bind (wpAny_loadPart hx (wpAny_bind (PySem.W.Looks.here (s:={ s with toks:=s.toks + 1 }) (PySem.W.looks_clsIn X hc) ?_))))))
 rw [hd']
 refine wpAny_pure (a:=some dx) (wpAny_bind (wpAny_pure (wpAny_bind ?_)))
 refine wpAny_nsSet1 (s:={ s with toks:=s.toks + 1 }) I.ns fun h' hn2 hs2=>?_
 obtain ⟨oD,esD,epD,hoD,hdD,hcD⟩:=hn2.count (PySem.Within.cons name v hw)
 refine wpAny_bind (wpAny_lookBehind hoD (by rw [hdD]; exact pastItsLine_dict (Nat.le_trans hcD (by rw [List.length_cons]; omega))) ?_)
 exact wpAny_pure (h _ ⟨(hs2.2 _ (Ne.symm I.ne)).trans I.obj,hn2,I.ne⟩ hs2)
theorem nV {R:Result→Shared→Prop} {vs:List Value} {kw:List (Str×Value)} (X:K.In s.heap) (hm:PySem.W.makesIn K C=true)
  (hi:PySem.W.findIn K (.ref C) "__init__" = some (some (.ref f))) (hf:PySem.W.typeIn K (.ref f)=some (.type "function"))
  (h:codeAny (model prog w) (A.under (.builtin "type.__call__" ⟨.ref C :: vs,kw⟩)) (.call (.ref f) ⟨.ref (s.heap.objs.size + 1) :: vs,kw⟩) (PySem.W.InitBack (s.heap.objs.size + 1) R)
   { s with heap:=(s.heap.push PySem.W.emptyDict).push (PySem.W.instObj C s.heap.objs.size) }) :
  codeAny (model prog w) A (.call (.ref C) ⟨vs,kw⟩) R s:=by
 obtain ⟨hh,g,d,t,os⟩:=s
 exact PySem.W.make_core (PySem.W.makes_of X hm) (PySem.W.looks_findIn X hi) (fun self=>PySem.W.bind_fn X self hf) (.inl rfl) h
end
def cw (f:Str) (v:V):List (Str×V)→List (Str×V)
 | []=>[(f,v)]
 | (g,x) :: r=>if g=f then (g,v) :: r else (g,x) :: cw f v r
theorem bo (f g:Str) (v:V):∀fs:List (Str×V),(cw f v fs).lookup g=if g=f then some v else fs.lookup g
 | []=>by
  show List.lookup g [(f,v)]=_
  by_cases h:g=f
  ·have hb:(g == f)=true:=beq_iff_eq.mpr h
   simp only [List.lookup,hb,if_pos h]
  ·have hb:(g == f)=false:=beq_eq_false_iff_ne.mpr h
   simp only [List.lookup,hb,if_neg h]
 | (k,x) :: r=>by
  have ih:=bo f g v r
  rw [show cw f v ((k,x) :: r)=(if k=f then (k,v) :: r else (k,x) :: cw f v r) from rfl]
  by_cases hk:k=f
  ·rw [if_pos hk]
   by_cases h:g=k
   ·have hb:(g == k)=true:=beq_iff_eq.mpr h
    simp only [List.lookup,hb,if_pos (h.trans hk)]
   ·have hb:(g == k)=false:=beq_eq_false_iff_ne.mpr h
    simp only [List.lookup,hb,if_neg (fun e:g=f=>h (e.trans hk.symm))]
  ·rw [if_neg hk]
   by_cases h:g=k
   ·have hb:(g == k)=true:=beq_iff_eq.mpr h
    simp only [List.lookup,hb,if_neg (fun e:g=f=>hk (h.symm.trans e))]
   ·have hb:(g == k)=false:=beq_eq_false_iff_ne.mpr h
    simp only [List.lookup,hb]
    exact ih
theorem eV (f:Str) (v:V):∀fs:List (Str×V),f∈(cw f v fs).map (·.1)∧∀g,g∈fs.map (·.1)→g∈(cw f v fs).map (·.1)
 | []=>⟨by simp [cw],fun g h=>by simp at h⟩
 | (k,x) :: r=>by
  obtain ⟨i1,i2⟩:=eV f v r
  rw [show cw f v ((k,x) :: r)=(if k=f then (k,v) :: r else (k,x) :: cw f v r) from rfl]
  by_cases hk:k=f
  ·rw [if_pos hk]
   subst hk
   exact ⟨by simp,fun g h=>by simpa using h⟩
  ·rw [if_neg hk]
   refine ⟨?_,fun g h=>?_⟩
   ·rw [List.map_cons]
    exact List.mem_cons_of_mem _ i1
   ·rw [List.map_cons] at h ⊢
    rcases List.mem_cons.mp h with e | e
    ·exact List.mem_cons.mpr (.inl e)
    ·exact List.mem_cons_of_mem _ (i2 g e)
theorem df (f:Str) (v:V):∀fs:List (Str×V),(cw f v fs).length≤fs.length + 1
 | []=>by simp [cw]
 | (k,x) :: r=>by
  have ih:=df f v r
  rw [show cw f v ((k,x) :: r)=(if k=f then (k,v) :: r else (k,x) :: cw f v r) from rfl]
  by_cases hk:k=f
  ·rw [if_pos hk,List.length_cons,List.length_cons]; omega
  ·rw [if_neg hk,List.length_cons,List.length_cons]; omega
theorem RelO.some_of {v:V} {o:Option Value} (r:RelO (some v) o):∃u,o=some u∧RelV v u:=by
 cases o with
 | none=>exact (show False from r).elim
 | some u=>exact ⟨u,rfl,r⟩
theorem RelO.none_of {o:Option Value} (r:RelO none o):o=none:=by
 cases o with
 | none=>rfl
 | some u=>exact (show False from r).elim
theorem mf {v:V} {u:Value} (r:RelV v u):PySem.W.handedIn u=true:=by
 cases v with
 | non=>cases (show u=Value.none from r); rfl
 | bl b=>cases (show u=Value.bool b from r); rfl
 | int i=>obtain ⟨t,e⟩:=(show ∃t,u=Value.int i t from r); cases e; rfl
 | str x=>obtain ⟨t,e⟩:=(show ∃t,u=Value.str x t from r); cases e; rfl
 | byt b=>obtain ⟨t,e⟩:=(show ∃t,u=Value.bytes b t from r); cases e; rfl
 | flt b=>obtain ⟨t,e⟩:=(show ∃t,u=Value.float b t from r); cases e; rfl
 | ref a=>cases (show u=Value.ref a from r); rfl
 | ty n=>cases (show u=Value.type n from r); rfl
section
variable {P:Program} {w:World} {H H':Hp} {h h':Heap} {a C dx:Addr} {fs fs':List (Str×V)}
theorem dX (hok:HOk P w H h) (e:H a=some (.ins C dx fs)):∃mA,ObjM h a dx C mA∧(∀f,RelO (fs.lookup f) (mA f))∧PySem.Within mA (fs.map (·.1))∧fs.length≤1000∧H dx=some (.own a):=by
 obtain ⟨d,z,ne,ob,mA,n,r,q⟩:=(show ObjOk P w H h a (.ins C dx fs) from hok a _ e)
 exact ⟨mA,⟨ob,n,ne⟩,r,q,z,d⟩
end
structure Cls (K:PySem.W.Frag) (C:Addr):Prop where
 pg:PySem.W.plainGet K C Str.empty=true
 hd:PySem.W.hasDictIn K C=true
 po:PySem.W.plainOver K C=true
 sa:PySem.W.findIn K (.ref C) "__setattr__" = some (some (.builtin "object.__setattr__"))
theorem Cls.get {K:PySem.W.Frag} {C:Addr} (c:Cls K C) (f:Str):PySem.W.plainGet K C f=true:=c.pg
def NoAttr (K:PySem.W.Frag) (C:Addr) (f:Str):Prop:=PySem.W.findIn K (.ref C) f=some none
theorem NoAttr.taker {K:PySem.W.Frag} {C:Addr} {f:Str} (n:NoAttr K C f):PySem.W.takerIn K C f=some none:=by
 unfold PySem.W.takerIn
 rw [show PySem.W.findIn K (.ref C) f=some none from n]
 rfl
structure Con (K:PySem.W.Frag) (C:Addr) (f:Str) (v:V) (u:Value):Prop where
 at_:PySem.W.findIn K (.ref C) f=some (some u)
 rel:RelV v u
 get:PySem.W.specialIn K u "__get__" = some none
 cp:PySem.W.copiedNames.contains f=false
structure Meth (K:PySem.W.Frag) (C:Addr) (m:Str) (f:Addr):Prop where
 at_:PySem.W.findIn K (.ref C) m=some (some (.ref f))
 fn:PySem.W.isFn K (.ref f)=true
 kp:PySem.W.keepIn K (.ref f)=true
section
variable {X:Cx} {pins:List (Addr×Obj)} {σ:St} {H:Hp} {s:Shared} {a C dx:Addr} {fs:List (Str×V)} {f:Str} {v:V} {A:Around} {E:Value→Shared→Prop}
theorem jF {b:Bool} {Q:Value→Shared→Prop} (I:Inv X pins σ H s) (e:H a=some (.ins C dx fs)) (c:Cls X.K C) (n:NoAttr X.K C f) (l:fs.lookup f=some v)
  (h:∀u s',Inv X pins σ H s'→RelV v u→Q u s'):wpAny (model X.prog X.w) A (getAttr (.ref a) f b) Q E s:=by
 obtain ⟨mA,O,r,_,_,_⟩:=dX I.hok e
 obtain ⟨u,hu,ru⟩:=RelO.some_of (v:=v) (o:=mA f) (by rw [← l]; exact r f)
 exact qp I.kIn O (c.get f) c.hd n hu (mf ru) (h u _ (I.tok _) ru)
theorem dM {m:Str} {g:Addr} {pl:Sem Bool} {Q:Value×List Value→Shared→Prop} (I:Inv X pins σ H s) (e:H a=some (.ins C dx fs)) (c:Cls X.K C) (k:Meth X.K C m g) (l:fs.lookup m=none)
  (h:Q (.ref g,[.ref a]) s):wpAny (model X.prog X.w) A (getMethod (.ref a) m pl) Q E s:=by
 obtain ⟨mA,O,r,_,_,_⟩:=dX I.hok e
 have hn:mA m=none:=RelO.none_of (by rw [← l]; exact r m)
 exact nU I.kIn O (c.get m) k.at_ k.fn hn h
theorem jG {y:V} {u:Value} {Q:Unit→Shared→Prop} (I:Inv X pins σ H s) (e:H a=some (.ins C dx fs)) (c:Cls X.K C) (n:NoAttr X.K C f) (hl:fs.length < 1000) (ry:RelV y u)
  (h:∀s',Inv X pins σ (upd H a (.ins C dx (cw f y fs))) s'→Q () s'):wpAny (model X.prog X.w) A (setAttr (.ref a) f u) Q E s:=by
 obtain ⟨mA,O,r,wi,_,ho⟩:=dX I.hok e
 have hz:(fs.map (·.1)).length≤sizeLine:=by rw [List.length_map,sizeLine_eq]; omega
 refine qq I.kIn O c.sa c.po n.taker c.hd wi hz fun h' O' sb=>h _ ?_
 have hd:∃o,h'.get? dx=some o:=let ⟨o,_,_,e',_⟩:=O'.ns; ⟨o,e'⟩
 refine I.write (x:=a) (e:=dx) (by rw [e]; exact True.intro) (.inr ho) (fun b q hb z=>(sb.2 b hb).trans z) hd ?_
 refine ⟨by rw [au O.ne]; exact ho,?_,O.ne,O'.obj,_,O'.ns,fun g=>?_,fun g hg=>?_⟩
 ·have:=df f y fs; omega
 ·show RelO ((cw f y fs).lookup g) (if g=f then some u else mA g)
  rw [bo]
  by_cases q:g=f
  ·rw [if_pos q,if_pos q]; exact ry
  ·rw [if_neg q,if_neg q]; exact r g
 ·by_cases q:g=f
  ·rw [q]; exact (eV f y fs).1
  ·refine (eV f y fs).2 g (wi g fun z=>hg ?_)
   show (if g=f then some u else mA g)=none
   rw [if_neg q]; exact z
theorem Inv.made (I:Inv X pins σ H s):Inv X pins σ (upd (upd H s.heap.objs.size (.own (s.heap.objs.size + 1))) (s.heap.objs.size + 1) (.ins C s.heap.objs.size []))
  { s with heap:=(s.heap.push PySem.W.emptyDict).push (PySem.W.instObj C s.heap.objs.size) }:=by
 have e1:(s.heap.push PySem.W.emptyDict).get? s.heap.objs.size=some PySem.W.emptyDict:=Heap.get?_push_size s.heap rfl
 have e2:((s.heap.push PySem.W.emptyDict).push (PySem.W.instObj C s.heap.objs.size)).get? (s.heap.objs.size + 1)=some (PySem.W.instObj C s.heap.objs.size):=by
  have:=Heap.get?_push_size (s.heap.push PySem.W.emptyDict) (o:=PySem.W.instObj C s.heap.objs.size) rfl
  rwa [Heap.size_push] at this
 have e3:(s.heap.push PySem.W.emptyDict).Ns s.heap.objs.size (fun _=>none):=⟨PySem.W.emptyDict,#[],_,e1,rfl,(fun e he=>absurd he (by simp)),fun _=>rfl⟩
 have I1:=I.laid (a:=s.heap.objs.size) (o:=.own (s.heap.objs.size + 1)) (h':=s.heap.push PySem.W.emptyDict) (t':=s.toks) (fun b u q=>Heap.get?_push_of_some _ q) (Nat.le_refl _) ⟨_,e1⟩
 refine I1.laid (a:=s.heap.objs.size + 1) (o:=.ins C s.heap.objs.size []) (t':=s.toks) (fun b u q=>Heap.get?_push_of_some _ q) (Nat.le_of_eq (Heap.size_push _ _)) ?_
 have ne:s.heap.objs.size≠s.heap.objs.size + 1:=Nat.ne_of_lt (Nat.lt_succ_self _)
 refine ⟨by rw [au ne,ag],Nat.zero_le _,ne,e2,fun _=>none,(Heap.Ns1.of_empty e3).at fun o q=>Heap.get?_push_of_some _ q,fun _=>True.intro,fun y hy=>absurd rfl hy⟩
theorem qr {prog:Program} {w:World} {env:Env} {e:Expr} {f:Str} {pos:Pos} {s:Shared} {Q:Value→Shared→Prop} (hb:attributeBase e f env (eval e env)=eval e env)
  (h:wpAny (model prog w) A (eval e env) (fun o s₁=>wpAny (model prog w) A (getAttr o f true) Q E s₁) E s):wpAny (model prog w) A (eval (.Attribute e f pos) env) Q E s :=
 Attribute_any_ h (by rw [arm_eval_Attribute,hb])
end
def CZ (K:PySem.W.Frag) (ta:TE) (f:Str):TE:=fun σ H Q=>ta σ H fun x H1=>∃a C dx fs v,x=.ref a∧H1 a=some (.ins C dx fs)∧Cls K C∧NoAttr K C f∧fs.lookup f=some v∧Q v H1
def xj (K:PySem.W.Frag) (ta tv:TE) (f:Str):TS:=fun D σ H=>tv σ H fun y H1=>ta σ H1 fun x H2=>∃a C dx fs,x=.ref a∧H2 a=some (.ins C dx fs)∧Cls K C∧NoAttr K C f∧fs.length < 1000 ∧
 D.nx σ (upd H2 a (.ins C dx (cw f y fs)))
section
variable {X:Cx} {o e value:Expr} {f:Str} {pos pos' tpos:Pos} {ta tv:TE}
theorem hU (he:PE X e ta) (hb:attributeBase e f X.env (eval e X.env)=eval e X.env):PE X (.Attribute e f pos) (CZ X.K ta f):=by
 intro pins s σ H Q I h
 refine qr hb (thn (he pins s σ H _ I h) fun u s1 ⟨x,H1,I1,rx,a,C,dx,fs,v,ex,ea,c,n,l,q⟩=>?_)
 subst ex
 obtain rfl:u=Value.ref a:=rx
 exact jF I1 ea c n l fun u' s2 I2 ru=>⟨v,H1,I2,ru,q⟩
theorem nW (ha:PE X o ta) (hv:PE X value tv) (hs:swapsWith value (some (.Attribute o f pos')) pos.line X.env=pure false):PS X (.Assign [.Attribute o f pos'] value pos) (xj X.K ta tv f):=by
 intro pins s σ H D I h
 refine plainObj_wpAny_Assign_Attribute (thn (hv pins s σ H _ I h) fun u s1 ⟨y,H1,I1,ry,q⟩=>thn (ha pins s1 σ H1 _ I1 q) fun ov s2 ⟨x,H2,I2,rx,a,C,dx,fs,ex,ea,c,n,l,q2⟩=>?_) hs
 subst ex
 obtain rfl:ov=Value.ref a:=rx
 exact jG I2 ea c n l ry fun s3 I3=>⟨σ,_,I3,q2⟩
theorem rZ {pl:Sem Bool} {m:Str} {apos:Pos} {args:List Expr} {pins:List (Addr×Obj)} {s:Shared} {σ:St} {H:Hp} {Q:Value→Shared→Prop} {te:TE} (he:PE X e te) (I:Inv X pins σ H s)
  (h:te σ H fun x H1=>∃a C dx fs g,x=.ref a∧H1 a=some (.ins C dx fs)∧Cls X.K C∧Meth X.K C m g∧fs.lookup m=none ∧
   ∀s1,Inv X pins σ H1 s1→wpAny (model X.prog X.w) X.A (callWith pos (.ref g) [.ref a] (backTo pos (starEach args X.env)) (backToKw pos (keywordEach [] X.env))) Q X.xe s1)
  (ht:eval (.Call (.Attribute e m apos) args [] pos) X.env=(do
   let ov←eval e X.env
   standAt apos.atName
   let (f,first)←holding [ov] (getMethod ov m pl)
   callWith pos f first (backTo pos (starEach args X.env)) (backToKw pos (keywordEach [] X.env)))) :
  wpAny (model X.prog X.w) X.A (eval (.Call (.Attribute e m apos) args [] pos) X.env) Q X.xe s:=by
 refine PySem.W.methodCall_KW (pl:=pl) (thn (he pins s σ H _ I h) fun u s1 ⟨x,H1,I1,rx,a,C,dx,fs,g,ex,ea,c,k,l,q⟩=>?_) ht
 subst ex
 obtain rfl:u=Value.ref a:=rx
 exact dM I1 ea c k l (q s1 I1)
end
section
variable {X:Cx} {pins:List (Addr×Obj)} {σ:St} {H:Hp} {s:Shared} {A:Around} {E:Value→Shared→Prop} {Q:Value→Shared→Prop} {c:Value} {b:Bool}
inductive TyOf (K:PySem.W.Frag) (H:Hp):V→Value→Prop where
 | non:TyOf K H .non (.type "NoneType")
 | bl (x:Bool):TyOf K H (.bl x) (.type "bool")
 | int (i:Int):TyOf K H (.int i) (.type "int")
 | str (x:Str):TyOf K H (.str x) (.type "str")
 | flt (x:UInt64):TyOf K H (.flt x) (.type "float")
 | lst {a:Addr} {xs:List V} (e:H a=some (.lst xs)):TyOf K H (.ref a) (.type "list")
 | frz {a:Addr} {o:Obj} {xs:List V} (e:H a=some (.frz o (.lst xs))):TyOf K H (.ref a) (.type "list")
 | tup {a:Addr} {xs:List V} (e:H a=some (.tup xs)):TyOf K H (.ref a) (.type "tuple")
 | dK {a:Addr} {kvs:List (Key×V)} (e:H a=some (.dK kvs)):TyOf K H (.ref a) (.type "dict")
 | dT {a:Addr} {kvs:List (List Key×V)} (e:H a=some (.dT kvs)):TyOf K H (.ref a) (.type "dict")
 | ins {a C dx:Addr} {fs:List (Str×V)} (e:H a=some (.ins C dx fs)) (cl:Cls K C) (ha:PySem.W.findIn K (.ref C) "__class__" = some (some (.builtin "object.__class__")))
   (hn:PySem.W.specialIn K (.builtin "object.__class__") "__get__" = some (some (.builtin "getset_descriptor.__get__"))) (htk:PySem.W.takesIn K (.builtin "object.__class__")=some true)
   (hm:PySem.W.mroIn K C (.type "object")=some true):TyOf K H (.ref a) (.ref C)
theorem mh {x:V} {u t:Value} (I:Inv X pins σ H s) (rx:RelV x u) (ty:TyOf X.K H x t) (e:PySem.W.kitOne X.K t c=some b) (h:∀tk,Q (.bool b) { s with toks:=tk }) :
  wpAny (model X.prog X.w) A (call (.builtin "isinstance") [u,c]) Q E s:=by
 cases ty with
 | non=>cases (show u=Value.none from rx); exact PySem.W.kia_one PySem.W.kitx_none I.kIn True.intro e (fun z=>nomatch z) h
 | bl y=>cases (show u=Value.bool y from rx); exact PySem.W.kia_one PySem.W.kitx_bool I.kIn True.intro e (fun z=>nomatch z) h
 | int i=>obtain ⟨t,q⟩:=(show ∃t,u=Value.int i t from rx); cases q; exact PySem.W.kia_one PySem.W.kitx_int I.kIn True.intro e (fun z=>nomatch z) h
 | str y=>obtain ⟨t,q⟩:=(show ∃t,u=Value.str y t from rx); cases q; exact PySem.W.kia_one PySem.W.kitx_str I.kIn True.intro e (fun z=>nomatch z) h
 | flt y=>obtain ⟨t,q⟩:=(show ∃t,u=Value.float y t from rx); cases q; exact PySem.W.kia_one PySem.W.kitx_float I.kIn True.intro e (fun z=>nomatch z) h
 | @lst a xs ea =>
  cases (show u=Value.ref a from rx)
  obtain ⟨_,_,n,_,h1⟩:=(show ObjOk X.prog X.w H s.heap a (.lst xs) from I.hok a _ ea)
  exact PySem.W.kia_one PySem.W.kitx_list I.kIn ⟨_,h1,rfl⟩ e (fun z=>nomatch z) h
 | @frz a ob xs ea =>
  cases (show u=Value.ref a from rx)
  obtain ⟨_,_,_,n,_,h1⟩:=(show ObjOk X.prog X.w H s.heap a (.frz ob (.lst xs)) from I.hok a _ ea)
  exact PySem.W.kia_one PySem.W.kitx_list I.kIn ⟨_,h1,rfl⟩ e (fun z=>nomatch z) h
 | @tup a xs ea =>
  cases (show u=Value.ref a from rx)
  obtain ⟨_,_,_,p⟩:=(show ObjOk X.prog X.w H s.heap a (.tup xs) from I.hok a _ ea)
  obtain ⟨o,h1,h2,_⟩:=p
  exact PySem.W.kia_one PySem.W.kitx_tuple I.kIn ⟨o,h1,h2⟩ e (fun z=>nomatch z) h
 | @dK a kvs ea =>
  cases (show u=Value.ref a from rx)
  obtain ⟨_,_,vs,_,p⟩:=(show ObjOk X.prog X.w H s.heap a (.dK kvs) from I.hok a _ ea)
  obtain ⟨o,es,ep,h1,h2,_⟩:=p
  exact PySem.W.kia_one PySem.W.kitx_dict I.kIn ⟨o,h1,h2.1⟩ e (fun z=>nomatch z) h
 | @dT a kvs ea =>
  cases (show u=Value.ref a from rx)
  obtain ⟨_,_,xs,_,o,es,ep,h1,h2,_⟩:=(show ObjOk X.prog X.w H s.heap a (.dT kvs) from I.hok a _ ea)
  exact PySem.W.kia_one PySem.W.kitx_dict I.kIn ⟨o,h1,h2.1⟩ e (fun z=>nomatch z) h
 | @ins a C dx fs ea cl ha hn htk hm =>
  cases (show u=Value.ref a from rx)
  obtain ⟨mA,O,_⟩:=dX I.hok ea
  obtain ⟨od,J,_⟩:=O.look
  exact PySem.W.kia_one (PySem.W.kitx_own (cl.get _) cl.hd ha hn htk hm) I.kIn J e (fun z=>nomatch z) h
end
end L2
namespace L2
open PySem PySem.Spec PyProof.Rows
structure Room (k:Nat) (A:Around):Prop where
 hd:A.handled=none
 dp:A.depth + 3 * k + 5 < recursionLimit
 un:A.units + 16 * k + 200 < cLine
 gd:A.guards=some []
theorem Room.mono {j k:Nat} {A:Around} (r:Room k A) (h:j≤k):Room j A:=⟨r.hd,by have:=r.dp; omega,by have:=r.un; omega,r.gd⟩
theorem Room.deeper {k:Nat} {A:Around} (r:Room (k + 1) A) (env:Env):Room k (A.deeper env) :=
 ⟨r.hd,by have:=r.dp; show A.depth + 1 + 3 * k + 5 < _; omega,by have:=r.un; show A.units + 3 + 16 * k + 200 < _; omega,r.gd⟩
theorem jH {A:Around} {C:Addr} {us:List Value} {kw:List (Str×Value)}:(A.under (.builtin "type.__call__" ⟨.ref C :: us,kw⟩)).depth=A.depth + 1:=by
 first | rfl | simp [Around.under,Code.weight,Code.isCreation,Code.isGuard,Code.isCaller,Code.frames,Code.isFrame,guardIds]
theorem jI {A:Around} {C:Addr} {us:List Value} {kw:List (Str×Value)}:(A.under (.builtin "type.__call__" ⟨.ref C :: us,kw⟩)).units=A.units + 1:=by
 first | rfl | simp [Around.under,Code.cUnits,Code.frames,Code.isFrame]
theorem iK {A:Around} {C:Addr} {us:List Value} {kw:List (Str×Value)}:(A.under (.builtin "type.__call__" ⟨.ref C :: us,kw⟩)).guards=A.guards:=by
 have e:Code.guards (.builtin "type.__call__" ⟨.ref C :: us,kw⟩)=[]:=by
  have:(Code.builtin "type.__call__" ⟨.ref C :: us,kw⟩).isGuard=false:=by show guardIds.contains "type.__call__" = false; decide +kernel
  simp [Code.guards,this]
 unfold Around.under
 dsimp only
 rw [e]
 rfl
theorem Room.make {k:Nat} {A:Around} (r:Room (k + 1) A) (C:Addr) (us:List Value) (kw:List (Str×Value)):Room k (A.under (.builtin "type.__call__" ⟨.ref C :: us,kw⟩)) :=
 ⟨r.hd,by have:=r.dp; rw [jH]; omega,by have:=r.un; rw [jI]; omega,by rw [iK]; exact r.gd⟩
theorem Room.depth {k:Nat} {A:Around} (r:Room k A):A.depth < recursionLimit:=by have:=r.dp; omega
theorem Room.units {k:Nat} {A:Around} (r:Room k A):A.units + 64 < cLine:=by have:=r.un; omega
def iL:TA:=fun _ H Q=>Q [] H
def lz (ta:TE) (tr:TA):TA:=fun σ H Q=>ta σ H fun x H1=>tr σ H1 fun xs H2=>Q (x :: xs) H2
section
variable {X:Cx} {e:Expr} {es:List Expr} {te:TE} {t:TA} {pos:Pos}
theorem ad:PA X [] iL:=fun _ _ _ _ H Q I h=>Calls.spliced_nil ⟨[],H,I,.nil,h⟩
theorem aa (ha:PE X e te) (hr:PA X es t) (hs:starEach (e :: es) X.env=(false,eval e X.env) :: starEach es X.env:=by rfl):PA X (e :: es) (lz te t):=by
 intro pos pins s σ H Q I h
 rw [hs]
 show wpAny _ _ (spliced ((false,eval e X.env) :: backTo pos (starEach es X.env))) _ _ s
 refine Calls.spliced_cons (thn (ha pins s σ H _ I h) fun u s1 ⟨x,H1,I1,r1,q1⟩=>?_)
 exact thn (hr pos pins s1 σ H1 _ I1 q1) fun us s2 ⟨xs,H2,I2,r2,q2⟩=>⟨x :: xs,H2,I2,.cons r1 r2,q2⟩
def Da (t:TA):TE:=fun σ H Q=>t σ H fun xs H1=>xs.length≤sizeLine∧∀p,H1 p=none→Q (.ref p) (upd H1 p (.tup xs))
def Dc (t:TA):TE:=fun σ H Q=>t σ H fun xs H1=>xs.length≤sizeLine∧∀p,H1 p=none→Q (.ref p) (upd H1 p (.lst xs))
theorem aO {x1} (h:PA X es t):PE X (.Tuple es x1 pos) (Da t):=by
 intro pins s σ H Q I hq
 refine wpAny_Tuple_spliced (thn (h pos pins s σ H _ I hq) fun us s1 ⟨xs,H1,I1,r,z,q⟩=>⟨by rw [← r.length]; exact z,?_⟩)
 have hf:H1 s1.heap.objs.size=none:=I1.hok.fresh (Nat.le_refl _)
 refine ⟨.ref s1.heap.objs.size,upd H1 s1.heap.objs.size (.tup xs),I1.laid (t':=s1.toks) (fun b u e=>Heap.get?_push_of_some _ e) (Nat.le_refl _) ?_,rfl,q _ hf⟩
 exact ⟨z,us,r,⟨_,Heap.get?_push_size _ rfl,rfl,_,rfl⟩⟩
theorem aR (h:PA X es t):PE X (.List es pos) (Dc t):=by
 intro pins s σ H Q I hq
 refine wpAny_List_spliced (thn (h pos pins s σ H _ I hq) fun us s1 ⟨xs,H1,I1,r,z,q⟩=>⟨by rw [← r.length]; exact z,?_⟩)
 have hf:H1 s1.heap.objs.size=none:=I1.hok.fresh (Nat.le_refl _)
 refine ⟨.ref s1.heap.objs.size,upd H1 s1.heap.objs.size (.lst xs),I1.laid (t':=s1.toks) (fun b u e=>Heap.get?_push_of_some _ e) (Nat.le_refl _) ?_,rfl,q _ hf⟩
 exact ⟨z,us,0,r,Heap.get?_push_size _ rfl⟩
end
abbrev Sp:=List V→Hp→VK→XK→Prop
abbrev CXT:=List Env→Hp→Shared→XK→Value→Shared→Prop
structure Env0 (P:Program) (w:World) (K:PySem.W.Frag) (mg:Str→Option Value) (base:Heap) (A:Around) (outer:List Env) (s:Shared) (H:Hp):Prop where
 frames:A.frames=some outer
 mod:Mod K mg base
 bs:∀b o,base.get? b=some o→s.heap.get? b=some o∧H b=none
 bsz:base.objs.size≤s.heap.objs.size
 funs:s.heap.FunFrames base outer
 frf:∀b∈frs outer,H b=none
 hok:HOk P w H s.heap
 bare:AllBare s.gens
def CE (outer:List Env) (P:Program) (w:World) (H:Hp) (s:Shared) (Q:VK) (u:Value) (s':Shared):Prop :=
 ∃v H',s'.os=s.os∧AllBare s'.gens∧Un (frs outer) [] H H' s.heap s'.heap∧HOk P w H' s'.heap∧RelV v u∧Q v H'
def CR (CX:CXT) (outer:List Env) (P:Program) (w:World) (H:Hp) (s:Shared) (Q:VK) (E:XK) (r:Result) (s':Shared):Prop :=
 match r with
 | .ok (.ret u)=>CE outer P w H s Q u s'
 | .ok _=>False
 | .error e=>CX outer H s E e s'
structure FnOk (P:Program) (w:World) (K:PySem.W.Frag) (mg:Str→Option Value) (base:Heap) (CX:CXT) (k:Nat) (f:Addr) (fd:FuncData) (ps:List Str) (sp:Sp):Prop where
 len:∀vs H Q E,sp vs H Q E→vs.length=ps.length
 run:∀ (A:Around) (outer:List Env) (s:Shared) (H:Hp) (args:Args) (us:List Value) (vs:List V) (Q:VK) (E:XK),Room k A→Env0 P w K mg base A outer s H→BindsTo s fd args (ps.zip us)→Vals vs us→sp vs H Q E →
  codeAny (model P w) A (.call (.ref f) args) (CR CX outer P w H s Q E) s
theorem FnOk.mono {P:Program} {w:World} {K:PySem.W.Frag} {mg:Str→Option Value} {base:Heap} {CX:CXT} {j k:Nat} {f:Addr} {fd:FuncData} {ps:List Str} {sp:Sp} (F:FnOk P w K mg base CX j f fd ps sp) (h:j≤k) :
  FnOk P w K mg base CX k f fd ps sp:=⟨F.len,fun A outer s H args us vs Q E hr=>F.run A outer s H args us vs Q E (hr.mono h)⟩
theorem Env0.make {P:Program} {w:World} {K:PySem.W.Frag} {mg:Str→Option Value} {base:Heap} {A:Around} {outer:List Env} {s:Shared} {H:Hp} (e:Env0 P w K mg base A outer s H) (C:Addr) (us:List Value) (kw:List (Str×Value)) :
  Env0 P w K mg base (A.under (.builtin "type.__call__" ⟨.ref C :: us,kw⟩)) outer s H:=⟨by first | exact e.frames | (simpa [Around.under,Code.envs,Code.isFrame,pushEnvs] using e.frames),e.mod,e.bs,e.bsz,e.funs,e.frf,e.hok,e.bare⟩
section
variable {X:Cx} {pins:List (Addr×Obj)} {σ:St} {H:Hp} {s s':Shared}
theorem Inv.env0 (I:Inv X pins σ H s):Env0 X.prog X.w X.K X.mg X.base X.A X.stack s H :=
 ⟨I.ok.frames,I.ok.mod,I.bs,Nat.le_trans I.ok.bsz I.sz,I.stack,I.stkFree,I.hok,I.bare⟩
theorem Inv.after {Q:VK} {u:Value} (I:Inv X pins σ H s) (h:CE X.stack X.prog X.w H s Q u s'):EP X pins σ Q u s':=by
 obtain ⟨v,H',os,bare,un,hok,r,q⟩:=h
 obtain ⟨hh,g,d,t,os'⟩:=s'
 obtain rfl:os'=s.os:=os
 exact ⟨v,H',I.call (h':=hh) (g':=g) (d':=d) (t':=t) (ch:=[]) un hok bare (fun b z=>absurd z (by simp)),r,q⟩
end
def nX (sp:Sp) (dvs:List V) (E:XK) (t:TA):TE:=fun σ H Q=>t σ H fun vs H1=>sp (vs ++ dvs) H1 Q E
def lA (C:Addr) (m:Str) (sp:Sp) (dvs:List V) (E:XK) (ta:TE) (t:TA):TE:=fun σ H Q=>ta σ H fun x H1=>∃a dx fs,x=.ref a∧H1 a=some (.ins C dx fs)∧fs.lookup m=none ∧
 t σ H1 fun vs H2=>sp (x :: (vs ++ dvs)) H2 Q E
def sd (C:Addr) (sp:Sp) (dvs:List V) (E:XK) (t:TA):TE:=fun σ H Q=>t σ H fun vs H1=>∀x dx,H1 x=none→H1 dx=none→dx≠x →
 sp (.ref x :: (vs ++ dvs)) (upd (upd H1 dx (.own x)) x (.ins C dx [])) (fun v H2=>v=.non∧Q (.ref x) H2) E
def Binds (K:PySem.W.Frag) (fd:FuncData) (ps:List Str) (ds:List Value):Prop :=
 ∀ (s:Shared) (us:List Value),K.In s.heap→(us ++ ds).length=ps.length→BindsTo s fd ⟨us,[]⟩ (ps.zip (us ++ ds))
theorem Binds.all {K:PySem.W.Frag} {fd:FuncData} {ps:List Str} (h:∀us:List Value,us.length=ps.length→bindArgs fd ⟨us,[]⟩=pure (ps.zip us)):Binds K fd ps []:=fun s us _ hl=>by
 rw [List.append_nil] at hl ⊢
 exact .of_eq (h us hl)
def dN (CX:CXT) (X:Cx) (E:XK):Prop:=∀ (pins:List (Addr×Obj)) (σ:St) (H:Hp) (s:Shared) (e:Value) (s':Shared),Inv X pins σ H s→CX X.stack H s E e s'→X.xe e s'
section
variable {X:Cx} {CX:CXT} {k:Nat} {f C:Addr} {fd:FuncData} {ps:List Str} {sp:Sp} {dvs:List V} {ds:List Value} {E:XK} {x m:Str} {p pos apos:Pos} {e o:Expr} {es:List Expr} {ta:TE} {t:TA}
theorem jJ {pins:List (Addr×Obj)} {σ:St} {H:Hp} {s:Shared} {Q:VK} {us:List Value} {vs:List V} (F:FnOk X.prog X.w X.K X.mg X.base CX k f fd ps sp) (hr:Room k X.A) (hb:Binds X.K fd ps ds) (hd:Vals dvs ds) (hx:dN CX X E)
  (I:Inv X pins σ H s) (r:Vals vs us) (h:sp (vs ++ dvs) H Q E):wpAny (model X.prog X.w) X.A (call (.ref f) us) (EP X pins σ Q) X.xe s:=by
 have r2:Vals (vs ++ dvs) (us ++ ds):=r.append hd
 have hl:(us ++ ds).length=ps.length:=by rw [← r2.length]; exact F.len _ _ _ _ h
 refine wpAny_call (codeAny_mono (F.run X.A X.stack s H ⟨us,[]⟩ (us ++ ds) (vs ++ dvs) Q E hr I.env0 (hb s us I.kIn hl) r2 h) fun r s' hq=>?_)
 cases r with
 | error e=>exact hx pins σ H s e s' I hq
 | ok fl =>
  cases fl with
  | ret u=>exact I.after hq
  | next=>exact False.elim hq
  | brk=>exact False.elim hq
  | cont=>exact False.elim hq
theorem qt (F:FnOk X.prog X.w X.K X.mg X.base CX k f fd ps sp) (hr:Room k X.A) (hg:Gl X x) (hm:X.mg x=some (.ref f)) (hk:PySem.W.keepIn X.K (.ref f)=true) (hb:Binds X.K fd ps ds) (hd:Vals dvs ds) (hx:dN CX X E)
  (ha:PA X (e :: es) t) (hdb:(x == ("__debug__" : Str))=false:=by decide) (he:starEach (e :: es) X.env=(false,eval e X.env) :: starEach es X.env:=by rfl) (hpl:(backTo pos (starEach es X.env)).any (·.1)=false:=by rfl) :
  PE X (.Call (.Name x p) (e :: es) [] pos) (nX sp dvs E t):=by
 intro pins s σ H Q I h
 refine wpAny_Call_Name_kw (cM I hg hm ?_ hdb)
 refine PySem.W.callWith_K (h₀:=X.base) I.ok.mod.kin hk (thn (ha pos pins s σ H _ I h) fun us s1 ⟨vs,H1,I1,r,q⟩=>⟨I1.kIn,?_⟩) he hpl
 exact jJ F hr hb hd hx I1 r q
theorem qu {pl:Sem Bool} (he:PE X o ta) (c:Cls X.K C) (hm:Meth X.K C m f) (F:FnOk X.prog X.w X.K X.mg X.base CX k f fd ps sp) (hr:Room k X.A) (hb:Binds X.K fd ps ds) (hd:Vals dvs ds) (hx:dN CX X E) (ha:PA X (e :: es) t)
  (hst:starEach (e :: es) X.env=(false,eval e X.env) :: starEach es X.env:=by rfl) (hpl:(backTo pos (starEach es X.env)).any (·.1)=false:=by rfl)
  (ht:eval (.Call (.Attribute o m apos) (e :: es) [] pos) X.env=(do
   let ov←eval o X.env
   standAt apos.atName
   let (f,first)←holding [ov] (getMethod ov m pl)
   callWith pos f first (backTo pos (starEach (e :: es) X.env)) (backToKw pos (keywordEach [] X.env))):=by rfl) :
  PE X (.Call (.Attribute o m apos) (e :: es) [] pos) (lA C m sp dvs E ta t):=by
 intro pins s σ H Q I h
 refine PySem.W.methodCall_KW (pl:=pl) (thn (he pins s σ H _ I h) fun u s1 ⟨x,H1,I1,rx,a,dx,fs,ex,ea,l,q⟩=>?_) ht
 subst ex
 obtain rfl:u=Value.ref a:=rx
 refine dM I1 ea c hm l ?_
 refine PySem.W.callWith_K (first:=[.ref a]) (h₀:=X.base) I.ok.mod.kin hm.kp (thn (ha pos pins s1 σ H1 _ I1 q) fun us s2 ⟨vs,H2,I2,r,q2⟩=>⟨I2.kIn,?_⟩) hst hpl
 exact jJ (us:=.ref a :: us) (vs:=.ref a :: vs) F hr hb hd hx I2 (.cons rfl r) q2
theorem nY {pl:Sem Bool} (he:PE X o ta) (c:Cls X.K C) (hm:Meth X.K C m f) (F:FnOk X.prog X.w X.K X.mg X.base CX k f fd ps sp) (hr:Room k X.A) (hb:Binds X.K fd ps ds) (hd:Vals dvs ds) (hx:dN CX X E)
  (ht:eval (.Call (.Attribute o m apos) [] [] pos) X.env=(do
   let ov←eval o X.env
   standAt apos.atName
   let (f,first)←holding [ov] (getMethod ov m pl)
   callWith pos f first (backTo pos (starEach [] X.env)) (backToKw pos (keywordEach [] X.env))):=by rfl) :
  PE X (.Call (.Attribute o m apos) [] [] pos) (lA C m sp dvs E ta iL):=by
 intro pins s σ H Q I h
 refine PySem.W.methodCall_KW (pl:=pl) (thn (he pins s σ H _ I h) fun u s1 ⟨x,H1,I1,rx,a,dx,fs,ex,ea,l,q⟩=>?_) ht
 subst ex
 obtain rfl:u=Value.ref a:=rx
 refine dM I1 ea c hm l ?_
 exact PySem.W.callWith_K0 (first:=[.ref a]) I1.kIn hm.kp (jJ (us:=[.ref a]) (vs:=[.ref a]) F hr hb hd hx I1 (.cons rfl .nil) q)
structure Mk (K:PySem.W.Frag) (C f:Addr):Prop where
 makes:PySem.W.makesIn K C=true
 init:PySem.W.findIn K (.ref C) "__init__" = some (some (.ref f))
 fn:PySem.W.isFn K (.ref f)=true
 kp:PySem.W.keepIn K (.ref C)=true
theorem nZ {pins:List (Addr×Obj)} {σ:St} {H:Hp} {s:Shared} {Q:VK} {us:List Value} {vs:List V} (M:Mk X.K C f) (F:FnOk X.prog X.w X.K X.mg X.base CX k f fd ps sp) (hr:Room (k + 1) X.A) (hb:Binds X.K fd ps ds) (hd:Vals dvs ds)
  (hx:dN CX X E) (I:Inv X pins σ H s) (r:Vals vs us)
  (h:∀x dx,H x=none→H dx=none→dx≠x→sp (.ref x :: (vs ++ dvs)) (upd (upd H dx (.own x)) x (.ins C dx [])) (fun v H2=>v=.non∧Q (.ref x) H2) E) :
  wpAny (model X.prog X.w) X.A (call (.ref C) us) (EP X pins σ Q) X.xe s:=by
 have hq:=h (s.heap.objs.size + 1) s.heap.objs.size (I.hok.fresh (Nat.le_succ _)) (I.hok.fresh (Nat.le_refl _)) (Nat.ne_of_lt (Nat.lt_succ_self _))
 have I2:=Inv.made (C:=C) I
 have r2:Vals (V.ref (s.heap.objs.size + 1) :: (vs ++ dvs)) (Value.ref (s.heap.objs.size + 1) :: (us ++ ds)):=.cons rfl (r.append hd)
 have hl:(Value.ref (s.heap.objs.size + 1) :: us ++ ds).length=ps.length:=by
  have e:=r2.length
  rw [F.len _ _ _ _ hq] at e
  exact e.symm
 refine wpAny_call (nV (f:=f) I.kIn M.makes M.init (beq_iff_eq.mp M.fn) (codeAny_mono (F.run _ X.stack _ _ ⟨Value.ref (s.heap.objs.size + 1) :: us,[]⟩ (Value.ref (s.heap.objs.size + 1) :: (us ++ ds)) _ _ E (hr.make C us [])
  (I2.env0.make C us []) (hb _ (Value.ref (s.heap.objs.size + 1) :: us) I2.kIn hl) r2 hq) fun r s' hq'=>?_))
 cases r with
 | error e=>exact hx pins σ _ _ e s' I2 hq'
 | ok fl =>
  cases fl with
  | ret u =>
   obtain ⟨v,H',I3,rv,ev,q3⟩:=I2.after hq'
   subst ev
   exact ⟨rv,⟨V.ref (s.heap.objs.size + 1),H',I3,rfl,q3⟩⟩
  | next=>exact False.elim hq'
  | brk=>exact False.elim hq'
  | cont=>exact False.elim hq'
theorem qv (M:Mk X.K C f) (F:FnOk X.prog X.w X.K X.mg X.base CX k f fd ps sp) (hr:Room (k + 1) X.A) (hg:Gl X x) (hm:X.mg x=some (.ref C)) (hb:Binds X.K fd ps ds) (hd:Vals dvs ds) (hx:dN CX X E)
  (ha:PA X (e :: es) t) (hdb:(x == ("__debug__" : Str))=false:=by decide) (he:starEach (e :: es) X.env=(false,eval e X.env) :: starEach es X.env:=by rfl) (hpl:(backTo pos (starEach es X.env)).any (·.1)=false:=by rfl) :
  PE X (.Call (.Name x p) (e :: es) [] pos) (sd C sp dvs E t):=by
 intro pins s σ H Q I h
 refine wpAny_Call_Name_kw (cM I hg hm ?_ hdb)
 refine PySem.W.callWith_K (h₀:=X.base) I.ok.mod.kin M.kp (thn (ha pos pins s σ H _ I h) fun us s1 ⟨vs,H1,I1,r,q⟩=>⟨I1.kIn,?_⟩) he hpl
 exact nZ M F hr hb hd hx I1 r q
end
section
variable {X:Cx} {CX:CXT} {k:Nat} {f C:Addr} {fd:FuncData} {ps ks:List Str} {sp:Sp} {E:XK} {x m:Str} {p pos apos kpos:Pos} {e o:Expr} {es:List Expr} {kws:List Keyword} {te ta:TE} {t tk:TA} {nm:Option Str}
structure KBinds (K:PySem.W.Frag) (fd:FuncData) (ps ks:List Str) (g:List Value→List Value→List Value) (gV:List V→List V→List V):Prop where
 to:∀ (s:Shared) (us ws:List Value),K.In s.heap→(g us ws).length=ps.length→BindsTo s fd ⟨us,ks.zip ws⟩ (ps.zip (g us ws))
 rel:∀ {vs:List V} {us:List Value} {zs:List V} {ws:List Value},Vals vs us→Vals zs ws→Vals (gV vs zs) (g us ws)
variable {g:List Value→List Value→List Value} {gV:List V→List V→List V}
end
structure FnScope (N P:List Str) (sc:Scope):Prop where
 kind:sc.kind=.function
 co:sc.isCoroutine=false
 gen:sc.isGenerator=false
 nd:N.Nodup
 pre:N.take P.length=P
 par:∀x∈P,sc.names.lookup x=some .local∨sc.names.lookup x=some .cell
 nofree:∀y∈sc.names,y.2≠.free
theorem gE {kindOf:Str→Option NameKind} {x:Str}:∀ {binds:List (Str×Value)} {m:Str→Option Value},(∀v,(x,v)∉binds)→bindL kindOf binds m x=m x
 | [],_,_=>rfl
 | (n,v) :: r,m,h=>by
  unfold bindL
  rw [gE fun w hw=>h w (List.mem_cons_of_mem _ hw)]
  split
  ·have:x≠n:=by rintro rfl; exact h v List.mem_cons_self
   simp [this]
  ·rfl
theorem gF {kindOf:Str→Option NameKind} {x:Str}:∀ {binds:List (Str×Value)} {m:Str→Option Value},(∀v,(x,v)∉binds)→bindC kindOf binds m x=m x
 | [],_,_=>rfl
 | (n,v) :: r,m,h=>by
  unfold bindC
  rw [gF fun w hw=>h w (List.mem_cons_of_mem _ hw)]
  split
  ·rfl
  ·have:x≠n:=by rintro rfl; exact h v List.mem_cons_self
   simp [this]
theorem gG {kindOf:Str→Option NameKind} {x:Str} {v:Value}:∀ {P:List Str} {vs:List Value} {i:Nat} {m:Str→Option Value},P.Nodup→P[i]? = some x→vs[i]? = some v→kindOf x=some .local →
  bindL kindOf (P.zip vs) m x=some v
 | [],_,_,_,_,h,_,_=>by simp at h
 | _ :: _,[],_,_,_,_,h,_=>by simp at h
 | p :: P,w :: vs,0,m,nd,h1,h2,hk=>by
  simp at h1 h2; subst h1; subst h2
  show bindL kindOf ((p,w) :: P.zip vs) m p=_
  unfold bindL
  rw [gE fun v hv=>(List.nodup_cons.mp nd).1 (List.of_mem_zip hv).1,if_pos hk]
  simp
 | p :: P,w :: vs,i + 1,m,nd,h1,h2,hk=>by
  show bindL kindOf ((p,w) :: P.zip vs) m x=_
  unfold bindL
  exact gG (i:=i) (List.nodup_cons.mp nd).2 (by simpa using h1) (by simpa using h2) hk
theorem gH {kindOf:Str→Option NameKind} {x:Str} {v:Value}:∀ {P:List Str} {vs:List Value} {i:Nat} {m:Str→Option Value},P.Nodup→P[i]? = some x→vs[i]? = some v→kindOf x≠some .local →
  bindC kindOf (P.zip vs) m x=some v
 | [],_,_,_,_,h,_,_=>by simp at h
 | _ :: _,[],_,_,_,_,h,_=>by simp at h
 | p :: P,w :: vs,0,m,nd,h1,h2,hk=>by
  simp at h1 h2; subst h1; subst h2
  show bindC kindOf ((p,w) :: P.zip vs) m p=_
  unfold bindC
  rw [gF fun v hv=>(List.nodup_cons.mp nd).1 (List.of_mem_zip hv).1,if_neg hk]
  simp
 | p :: P,w :: vs,i + 1,m,nd,h1,h2,hk=>by
  show bindC kindOf ((p,w) :: P.zip vs) m x=_
  unfold bindC
  exact gH (i:=i) (List.nodup_cons.mp nd).2 (by simpa using h1) (by simpa using h2) hk
def start (N:List Str) (vs:List V):St:=vs.map some ++ List.replicate (N.length - vs.length) none
def dE (CX:CXT) (P:Program) (w:World) (K:PySem.W.Frag) (mg:Str→Option Value) (base:Heap) (N:List Str) (qual:Str) (scope:Scope) (f:Addr) (cd:Value) (A:Around) (outer:List Env) (s:Shared) (H:Hp) (E:XK):Cx where
 prog:=P
 w:=w
 K:=K
 mg:=mg
 base:=base
 A:=A.deeper (envOfC qual scope s.heap.objs.size f cd)
 N:=N
 s₀:=s
 H₀:=H
 env:=envOfC qual scope s.heap.objs.size f cd
 outer:=outer
 stack:=envOfC qual scope s.heap.objs.size f cd :: outer
 ex:=[]
 calm:=true
 fn:=fun _=>true
 pn:=[]
 xe:=fun e s'=>wpAny (model P w) (A.deeper (envOfC qual scope s.heap.objs.size f cd)) (leaving (envOfC qual scope s.heap.objs.size f cd) e) (fun _ s''=>CX outer H s E e s'') (fun e' s''=>CX outer H s E e' s'') s'
theorem iM {sc:Scope} {n:Nat} {x:Str} (h:sc.names.lookup x=some .cell):∃c,(cellsFrom n sc.names []).lookup x=some c:=by
 have q:=PySem.W.cellsFrom_some sc.names n [] (.inl h)
 exact Option.isSome_iff_exists.mp q
theorem gI {CX:CXT} {P:Program} {w:World} {K:PySem.W.Frag} {mg:Str→Option Value} {base:Heap} {N ps:List Str} {qual:Str} {scope:Scope} {f:Addr} {cd:Value} {A:Around} {outer:List Env} {s s1:Shared} {H:Hp} {E:XK} {us:List Value} {vs:List V}
  (S:FnScope N ps scope) (hd:A.handled=none) (e0:Env0 P w K mg base A outer s H) (hl:vs.length=ps.length) (r:Vals vs us)
  (x:InCallC s s.heap.objs.size (bindL (envOfC qual scope s.heap.objs.size f cd).kindOf (ps.zip us) fun _=>none) (cellsFrom (s.heap.objs.size + 1) scope.names []) (bindC (envOfC qual scope s.heap.objs.size f cd).kindOf (ps.zip us) fun _=>none) s1) :
  Inv (dE CX P w K mg base N qual scope f cd A outer s H E) [] (start N vs) H s1:=by
 have hpl:ps.length≤N.length:=by have:=congrArg List.length S.pre; rw [List.length_take] at this; omega
 obtain ⟨h1,tk,rfl,hk⟩:=x.done
 have noA:∀b:Addr,b∉(dE CX P w K mg base N qual scope f cd A outer s H E).ex:=fun b z=>absurd (show b∈([]:List Addr) from z) (by simp)
 refine ⟨⟨e0.mod,S.kind,rfl,rfl,Nat.le_refl _,fun y z c h1 h2=>?_,fun y hy=>?_,fun y c _ h=>?_,fun _=>hd,Around.frames_deeper e0.frames,.inr ⟨rfl,rfl⟩,fun b z=>absurd z (noA b),e0.bs,e0.bsz,fun b _ _=>noA b,fun b z=>absurd z (noA b),e0.funs,e0.frf⟩,
  rfl,e0.bare,Un.kept hk,⟨_,x.toInCall.ns,fun i y v h1 h2 h3=>?_⟩,fun y c h=>⟨_,x.cell y c h⟩,e0.hok.fresh (Nat.le_refl _),fun y c h=>?_,fun p hp=>absurd (show p∈([]:List (Addr×Obj)) from hp) (by simp),e0.hok.kept hk,?_⟩
 ·exact name_of_addr x.apart (PySem.mem_of_lookup h1) (PySem.mem_of_lookup h2)
 ·have hy:scope.names.lookup y=some .cell∨scope.names.lookup y=some .free:=hy
  rcases hy with hy | hy
  ·exact iM hy
  ·exact absurd rfl (S.nofree _ (PySem.mem_of_lookup hy))
 ·exact Nat.le_of_lt (x.above y c (PySem.mem_of_lookup h))
 ·have hi:i < vs.length:=by
   unfold start at h2
   by_cases hi:i < vs.length
   ·exact hi
   ·rw [List.getElem?_append_right (by simpa using hi)] at h2
    rw [List.getElem?_replicate] at h2
    split at h2 <;> cases h2
  have ha:vs[i]? = some v:=by
   unfold start at h2
   rw [List.getElem?_append_left (by simpa using hi),List.getElem?_map] at h2
   cases e:vs[i]? with
   | none=>rw [e] at h2; cases h2
   | some a=>rw [e] at h2; cases h2; rfl
  obtain ⟨u,hu,rv⟩:=r.get ha
  have hp:ps[i]? = some y:=by
   rw [← S.pre,List.getElem?_take_of_lt (by omega)]; exact h1
  have ndP:ps.Nodup:=by rw [← S.pre]; exact S.nd.sublist (List.take_sublist _ _)
  refine ⟨u,rv,?_⟩
  rcases S.par y (List.mem_of_getElem? hp) with k | k
  ·exact .inl ⟨k,gG ndP hp hu k⟩
  ·obtain ⟨c,e⟩:=iM (n:=s.heap.objs.size + 1) k
   refine .inr ⟨.inl k,c,e,?_⟩
   have q:=x.cell y c e
   rw [gH ndP hp hu (by show scope.names.lookup y≠_; rw [k]; decide)] at q
   exact q
 ·exact e0.hok.fresh (Nat.le_of_lt (x.above y c (PySem.mem_of_lookup h)))
 ·unfold start
  show _=N.length
  rw [List.length_append,List.length_map,List.length_replicate]
  omega
theorem se {CX:CXT} {P:Program} {w:World} {K:PySem.W.Frag} {mg:Str→Option Value} {base:Heap} {k:Nat} {f:Addr} {name qual:Str} {params:Arguments} {body:List Stmt} {scope:Scope} {dV kV doc pm cdv ct oc:Value} {an od:Option Addr}
  {osl:Array (Option Value)} {N ps:List Str} {sp:Sp} (lk:K.lookup f=some ⟨oc,od,.func (PySem.W.fnOf name qual params body scope dV kV doc pm an cdv ct),osl⟩) (hcd:PySem.W.codeIn K cdv qual=true) (S:FnScope N ps scope)
  (len:∀vs H Q E,sp vs H Q E→vs.length=ps.length)
  (hbody:∀ (A:Around) (outer:List Env) (s:Shared) (H:Hp) (vs:List V) (Q:VK) (E:XK),Room k (A.deeper (envOfC qual scope s.heap.objs.size f cdv))→sp vs H Q E →
   ∃t,PSs (dE CX P w K mg base N qual scope f cdv A outer s H E) body t∧t { nx:=fun _ H'=>Q .non H',rt:=Q } (start N vs) H) :
  FnOk P w K mg base CX (k + 1) f (PySem.W.fnOf name qual params body scope dV kV doc pm an cdv ct) ps sp:=by
 refine ⟨len,fun A outer s H args us vs Q E hr e0 hb r hsp=>?_⟩
 have hl:=len _ _ _ _ hsp
 have KX:K.In s.heap:=e0.mod.kin.keeps fun b o e=>(e0.bs b o e).1
 have lim:s.heap.NoLimit:=e0.mod.nolimit.keeps fun b o e=>(e0.bs b o e).1
 have hkind:∀y∈ps.zip us,scope.names.lookup y.1=some .local∨(scope.names.lookup y.1=some .cell∧((cellsFrom (s.heap.objs.size + 1) scope.names []).lookup y.1).isSome=true):=fun ⟨n,v⟩ hy=>by
  rcases S.par n (List.of_mem_zip hy).1 with q | q
  ·exact .inl q
  ·exact .inr ⟨q,PySem.W.cellsFrom_some _ _ _ (.inl q)⟩
 refine codeAny_call_function hr.depth (KX _ _ lk) rfl S.co S.gen rfl (PySem.W.codeRec_of KX hcd) (hb _ _ _ _ ?_)
 refine wpAny_newFunctionEnv_cells S.kind hkind fun env he s1 x=>?_
 subst he
 refine ⟨lim.keeps x.toInCall.keep,codeAny_func ?_⟩
 obtain ⟨t,ht,hq⟩:=hbody A outer s H vs Q E (hr.deeper _) hsp
 have I:Inv (dE CX P w K mg base N qual scope f cdv A outer s H E) [] (start N vs) H s1:=gI S hr.hd e0 hl r x
 refine wpAny_mono (ht [] s1 (start N vs) H _ I hq) (fun fl s' hs=>?_) fun e s' hs=>hs
 have fin:∀ {σ':St} {H':Hp} {v:V} {u:Value},Inv (dE CX P w K mg base N qual scope f cdv A outer s H E) [] σ' H' s'→RelV v u→Q v H'→CE outer P w H s Q u s' :=
  fun {σ' H' v u} J rv q=>⟨v,H',J.os,J.bare,J.base,J.hok,rv,q⟩
 cases fl with
 | ret u =>
  obtain ⟨v,σ',H',J,rv,q⟩:=hs
  exact fin J rv q
 | next =>
  obtain ⟨σ',H',J,q⟩:=hs
  exact fin (v:=V.non) (u:=Value.none) J rfl q
 | brk =>
  obtain ⟨_,_,_,q⟩:=hs
  exact False.elim q
 | cont =>
  obtain ⟨_,_,_,q⟩:=hs
  exact False.elim q
end L2
namespace L2
open PySem PySem.Spec PyProof.Rows
section
variable {X:Cx} {x:Str} {p pos:Pos} {e:Expr} {es:List Expr} {t:TA} {id T:String} {r:List V→Hp→VK→Prop}
def tCB (r:List V→Hp→VK→Prop) (t:TA):TE:=fun σ H Q=>t σ H fun vs H1=>r vs H1 Q
theorem aA (hc:bY X (.builtin id) r) (hg:Gl X x) (hm:X.mg x=none) (hv:bootBuiltins x=some (.builtin id)) (ha:PA X (e :: es) t) (hn:x ≠ "__name__" := by decide) (hdb:(x == ("__debug__" : Str))=false:=by decide)
  (he:starEach (e :: es) X.env=(false,eval e X.env) :: starEach es X.env:=by rfl) (hpl:(backTo pos (starEach es X.env)).any (·.1)=false:=by rfl):PE X (.Call (.Name x p) (e :: es) [] pos) (tCB r t):=by
 intro pins s σ H Q I h
 refine wpAny_Call_Name_kw (dI I hg hm hv ?_ hn hdb)
 exact PyProof.Rows.callWith_builtin1 (thn (ha pos pins s σ H _ I h) fun us s1 ⟨vs,H1,I1,r1,q1⟩=>hc pins s1 σ H1 vs us Q I1 r1 q1) he hpl
theorem bA (hc:bY X (.type T) r) (hg:Gl X x) (hm:X.mg x=none) (hv:bootBuiltins x=some (.type T)) (ha:PA X (e :: es) t) (hn:x ≠ "__name__" := by decide) (hdb:(x == ("__debug__" : Str))=false:=by decide)
  (he:starEach (e :: es) X.env=(false,eval e X.env) :: starEach es X.env:=by rfl) (hpl:(backTo pos (starEach es X.env)).any (·.1)=false:=by rfl):PE X (.Call (.Name x p) (e :: es) [] pos) (tCB r t):=by
 intro pins s σ H Q I h
 refine wpAny_Call_Name_kw (dI I hg hm hv ?_ hn hdb)
 exact PyProof.Rows.callWith_type1 (thn (ha pos pins s σ H _ I h) fun us s1 ⟨vs,H1,I1,r1,q1⟩=>hc pins s1 σ H1 vs us Q I1 r1 q1) he hpl
end
end L2
namespace HT
open PySem PyProof.Rows
section
open PySem.SeqAt
open PySem.AutoSeq1 (wpAny_loadPart')
open PySem.MeetsSeq PySem.MeetsSeq2 PySem.MeetsSeq3
end
section
variable {prog:Program} {w:World} {A:Around} {E:Value→Shared→Prop} {s:Shared}
theorem cat_tup {t b:Addr} {vs ws:List Value} {Q:Value→Shared→Prop} (ht:IsTup s.heap t vs.toArray) (hb:IsTup s.heap b ws.toArray) (hv:vs≠[])
  (h1:ws=[]→Q (.ref t) s) (h2:ws≠[]→Q (.ref s.heap.objs.size) { s with heap:=s.heap.push { cls:=.type "tuple",data:=.seq (vs ++ ws).toArray } })
  (hsz:vs.length + ws.length≤sizeLine):wpAny (model prog w) A (binaryOp .Add (.ref t) (.ref b)) Q E s:=by
 obtain ⟨⟨cls,dd,data,sl⟩,ho,hc,n,hd⟩:=id ht
 obtain ⟨⟨cls2,dd2,data2,sl2⟩,ho2,hc2,n2,hd2⟩:=id hb
 simp only at hc hd hc2 hd2
 subst hc hd hc2 hd2
 have e:vs.toArray ++ ws.toArray=(vs ++ ws).toArray:=by simp
 by_cases hw:ws=[]
 ·exact concat_meets ⟨_,ho,rfl⟩ ⟨_,ho2,rfl⟩ noFill_tuple_add seq_tuple_add PySem.F.slot_tuple_add PySem.F.entry_tuple_add (PySem.F.args_tuple_add_2 _ _)
   (tuple_addW1 t b vs.toArray ws.toArray n n2 dd dd2 sl sl2 (by simpa using hv) (by simp [hw])) ⟨ho,ho2,h1 hw⟩
 ·refine concat_meets ⟨_,ho,rfl⟩ ⟨_,ho2,rfl⟩ noFill_tuple_add seq_tuple_add PySem.F.slot_tuple_add PySem.F.entry_tuple_add (PySem.F.args_tuple_add_2 _ _)
   (tuple_addW2 t b vs.toArray ws.toArray n n2 dd dd2 sl sl2 (by simpa using hv) (by simpa using hw) (by rw [List.size_toArray,List.size_toArray]; exact hsz)) ⟨ho,ho2,?_⟩
  rw [e]
  exact h2 hw
def sIx (n d:Nat):Option Int→Nat
 | none=>d
 | some v=>if v < 0 then (v + (n:Int)).toNat else min v.toNat n
theorem sIx_none (n d:Nat):sIx n d none=d:=rfl
theorem sIx_nat (n d k:Nat):sIx n d (some (k:Int))=min k n:=by
 show (if (k:Int) < 0 then ((k:Int) + (n:Int)).toNat else min (k:Int).toNat n)=min k n
 rw [if_neg (by omega),Int.toNat_natCast]
theorem sP (n d:Nat) (hd:d≤n) (o:Option Int):sIx n d o≤n:=by
 cases o with
 | none=>exact hd
 | some v =>
  show (if v < 0 then (v + (n:Int)).toNat else min v.toNat n)≤n
  by_cases hv:v < 0
  ·rw [if_pos hv]; omega
  ·rw [if_neg hv]; exact Nat.min_le_right _ _
theorem lB (v:Int) (n d:Nat):(if v < 0 then max (v + (n:Int)) 0 else min v (n:Int))=((sIx n d (some v):Nat):Int):=by
 show (if v < 0 then max (v + (n:Int)) 0 else min v (n:Int))=(((if v < 0 then (v + (n:Int)).toNat else min v.toNat n):Nat):Int)
 by_cases hv:v < 0
 ·simp only [if_pos hv]; omega
 ·simp only [if_neg hv]; omega
theorem jK (lo hi:Option Int) (n:Nat):Builtin.Slice.sliceAdjust lo hi 1 (n:Int)=(((sIx n 0 lo:Nat):Int),((sIx n n hi:Nat):Int)):=by
 have h1:¬ ((1:Int) < 0):=by omega
 unfold Builtin.Slice.sliceAdjust
 simp only [h1,if_false]
 refine Prod.ext ?_ ?_
 ·cases lo with
  | none=>rfl
  | some v=>exact lB v n 0
 ·cases hi with
  | none=>rfl
  | some v=>exact lB v n n
theorem jL (i j:Nat):Builtin.Slice.slicePlaces (i:Int) (j:Int) 1=j - i:=by
 unfold Builtin.Slice.slicePlaces
 have h1:(1:Int) > 0:=by omega
 simp only [h1,if_true,Int.ediv_one]
 split <;> omega
theorem fJ {v:Value} {o:Option Int} {Q:Option Int→Shared→Prop} (p:IsPart v o) (h:Q o s):wpAny (model prog w) A (Builtin.Slice.slicePartIndex v) Q E s:=by
 cases p with
 | none=>exact slicePart_none h
 | int i t=>exact slicePart_int h
theorem eW {sl:Addr} {vl vu:Value} {lo hi:Option Int} {n:Nat} {Q:Int×Int×Nat→Shared→Prop} (hs:s.heap.IsSliceOf sl vl vu .none) (pl:IsPart vl lo) (pu:IsPart vu hi)
  (h:Q (((sIx n 0 lo:Nat):Int),1,sIx n n hi - sIx n 0 lo) s):wpAny (model prog w) A (Builtin.Slice.sliceApplied (.ref sl) (pure (n:Int))) Q E s:=by
 obtain ⟨os,hos,hcs,hds⟩:=id hs
 unfold Builtin.Slice.sliceApplied Builtin.Slice.sliceFields
 refine wpAny_bind (wpAny_bind (wpAny_field hos hds (x:=vl) rfl (wpAny_bind (wpAny_field hos hds (x:=vu) rfl (wpAny_bind (wpAny_field hos hds (x:=.none) rfl (wpAny_pure ?_)))))))
 refine wpAny_bind (slicePart_none ?_)
 show wpAny _ _ (if ((1:Int) == 0)=true then _ else _) _ _ s
 rw [if_neg (by decide)]
 refine wpAny_bind (fJ pl (wpAny_bind (fJ pu (wpAny_bind (wpAny_pure ?_)))))
 show wpAny _ _ (match Builtin.Slice.sliceAdjust lo hi 1 (n:Int) with | (lo,hi)=>pure (lo,(1:Int),Builtin.Slice.slicePlaces lo hi 1)) _ _ s
 rw [jK lo hi n]
 show wpAny _ _ (pure (((sIx n 0 lo:Nat):Int),(1:Int),Builtin.Slice.slicePlaces ((sIx n 0 lo:Nat):Int) ((sIx n n hi:Nat):Int) 1)) _ _ s
 rw [jL]
 exact wpAny_pure h
theorem og (xs:Array Value) (i k:Nat):((List.range k).filterMap fun (m:Nat)=>xs[((i:Int) + (m:Int) * 1).toNat]?).toArray=((xs.toList.drop i).take k).toArray:=by
 have e:(fun (m:Nat)=>xs[((i:Int) + (m:Int) * 1).toNat]?)=fun m=>xs[i + m]? := by
  funext m
  have:((i:Int) + (m:Int) * 1).toNat=i + m:=by omega
  rw [this]
 rw [e]
 have:=pick_run xs i k
 rw [List.filterMap_map] at this
 have e2:((fun x=>xs[x]?)∘fun x=>i + x)=fun m=>xs[i + m]? := rfl
 rw [e2] at this
 rw [this]
theorem getItem_tuple_cut {t sl:Addr} {items:Array Value} {vl vu:Value} {lo hi:Option Int} {Q:Value→Shared→Prop} (ht:IsTup s.heap t items) (hs:s.heap.IsSliceOf sl vl vu .none) (pl:IsPart vl lo) (pu:IsPart vu hi)
  (hw:¬ (sIx items.size 0 lo=0∧sIx items.size items.size hi=items.size))
  (h:Q (.ref s.heap.objs.size) { s with heap:=s.heap.push { cls:=.type "tuple",data:=.seq ((items.toList.drop (sIx items.size 0 lo)).take (sIx items.size items.size hi - sIx items.size 0 lo)).toArray } })
  (hsz:items.size≤sizeLine):wpAny (model prog w) A (getItem (.ref t) (.ref sl)) Q E s:=by
 have htake:sizeOk (.seq ((items.toList.drop (sIx items.size 0 lo)).take (sIx items.size items.size hi - sIx items.size 0 lo)).toArray):=by
  show ((items.toList.drop (sIx items.size 0 lo)).take (sIx items.size items.size hi - sIx items.size 0 lo)).toArray.size≤sizeLine
  rw [List.size_toArray,List.length_take,List.length_drop,Array.length_toList]
  omega
 have hj:sIx items.size items.size hi≤items.size:=sP _ _ (Nat.le_refl _) hi
 obtain ⟨os,hos,hcs,hds⟩:=id hs
 have hTs:s.TypeIs (.ref sl) "slice" := ⟨os,hos,hcs⟩
 unfold getItem
 try with_reducible refine wpAny_holding ?_
 first | refine wpAny_bind (wpAny_pure ?_) | skip
 refine wpAny_bind (wpAny_sequenceKey ht.typeIs (by decide) ?_)
 refine wpAny_bind (wpAny_callSpecial?_slot (name:=Str.ofString "__getitem__") ht.typeIs PyProof.Rows.slot_tuple_getitem
  (wpAny_call_entry PyProof.Rows.slot_tuple_getitem ht.typeIs entry_tuple_getitem ?_ (args_tuple_getitem _ _)))
 show wpAny _ _ (Builtin.Tuple.tupleItemsOf (.ref t) >>= _) _ _ s
 refine wpAny_bind (tupleItemsOf_ ht ?_)
 refine wpAny_bind (wpAny_typeOf hTs ?_)
 rw [if_pos (by decide)]
 refine wpAny_bind (eW hs pl pu ?_)
 have hno:¬ ((((sIx items.size 0 lo:Nat):Int) == 0 && (1:Int) == 1 && (sIx items.size items.size hi - sIx items.size 0 lo) == items.size)=true):=by
  intro q
  rw [Bool.and_eq_true,Bool.and_eq_true] at q
  have q1:((sIx items.size 0 lo:Nat):Int)=0:=eq_of_beq q.1.1
  have q2:sIx items.size items.size hi - sIx items.size 0 lo=items.size:=eq_of_beq q.2
  exact hw ⟨by omega,by omega⟩
 show wpAny _ _ (if (((sIx items.size 0 lo:Nat):Int) == 0 && (1:Int) == 1 && (sIx items.size items.size hi - sIx items.size 0 lo) == items.size)=true then _ else _) _ _ s
 rw [if_neg hno,og]
 first
  | exact wpAny_bind (m:=Builtin.Tuple.tupleExact _) (wpAny_newObj_type (wpAny_pure ⟨_,rfl,wpAny_pure h⟩) htake)
  | exact wpAny_bind (m:=Builtin.Tuple.tupleExact _) (wpAny_newObj_type (wpAny_bind (wpAny_pure (wpAny_pure ⟨_,rfl,wpAny_pure h⟩))) htake)
  | exact wpAny_bind (wpAny_bind (m:=Builtin.Tuple.tupleExact _) (wpAny_newObj_type (wpAny_pure (wpAny_pure ⟨_,rfl,wpAny_pure h⟩)) htake))
  | exact wpAny_bind (wpAny_bind (m:=Builtin.Tuple.tupleExact _) (wpAny_newObj_type (wpAny_pure ⟨_,rfl,wpAny_pure h⟩) htake))
end
end HT
namespace L2
open PySem PySem.Spec PyProof.Rows
abbrev TO:=St→Hp→(Option Int→Hp→Prop)→Prop
def PO (X:Cx) (e:Option Expr) (t:TO):Prop :=
 ∀ (pins:List (Addr×Obj)) (s:Shared) (σ:St) (H:Hp) (Q:Option Int→Hp→Prop),Inv X pins σ H s→t σ H Q →
  wpAny (model X.prog X.w) X.A (evalPart e X.env) (fun u s'=>∃o H',Inv X pins σ H' s'∧IsPart u o∧Q o H') X.xe s
def qw:TO:=fun _ H Q=>Q none H
def xk (t:TE):TO:=fun σ H Q=>t σ H fun x H1=>∃i,x=.int i∧Q (some i) H1
section
variable {X:Cx} {e:Expr} {te:TE} {lo hi:Option Expr} {tl th:TO} {pos p2:Pos}
theorem bF:PO X none qw:=by
 intro pins s σ H Q I h
 rw [evalPart_none]
 exact wpAny_pure ⟨none,H,I,.none,h⟩
theorem bG (h:PE X e te):PO X (some e) (xk te):=by
 intro pins s σ H Q I hw
 rw [evalPart_some]
 refine thn (h pins s σ H _ I hw) fun u s1 ⟨x,H1,I1,r1,q1⟩=>?_
 obtain ⟨i,rfl,q⟩:=q1
 obtain ⟨t,rfl⟩:=r1
 exact ⟨some i,H1,I1,.int i t,q⟩
def SlR (X:Cx) (r:V→Option Int→Option Int→Hp→VK→Prop):Prop :=
 ∀ (pins:List (Addr×Obj)) (s:Shared) (σ:St) (H:Hp) (x:V) (v vl vu:Value) (lo hi:Option Int) (sl:Addr) (Q:VK),Inv X pins σ H s→RelV x v→s.heap.IsSliceOf sl vl vu .none→IsPart vl lo→IsPart vu hi→r x lo hi H Q →
  ∃T id,typeLookup (.type T) "__getitem__" = pure (some (.builtin id))∧s.TypeIs v T∧wpAny (model X.prog X.w) X.A (getItem v (.ref sl)) (EP X pins σ Q) X.xe s
def tSl (r:V→Option Int→Option Int→Hp→VK→Prop) (te:TE) (tl th:TO):TE:=fun σ H Q=>te σ H fun x H1=>tl σ H1 fun l H2=>th σ H2 fun u H3=>r x l u H3 Q
theorem bj {r:V→Option Int→Option Int→Hp→VK→Prop} (hr:SlR X r) (he:PE X e te) (hl:PO X lo tl) (hu:PO X hi th):PE X (.Subscript e (.Slice lo hi none p2) pos) (tSl r te tl th):=by
 intro pins s σ H Q I h
 refine Subscript_ (thn (he pins s σ H _ I h) fun v s1 ⟨x,H1,I1,r1,q1⟩=>?_)
 refine wpAny_Slice (thn (hl pins s1 σ H1 _ I1 q1) fun vl s2 ⟨l,H2,I2,pl,q2⟩=>thn (hu pins s2 σ H2 _ I2 q2) fun vu s3 ⟨u,H3,I3,pu,q3⟩=>?_)
 rw [evalPart_none]
 refine wpAny_pure ?_
 have I4:Inv X pins σ H3 { s3 with heap:=s3.heap.push { cls:=.type "slice", data:=.fields #[vl, vu, .none] } }:=I3.kept (t':=s3.toks) fun b ob q=>Heap.get?_push_of_some _ q
 obtain ⟨T,id,hT,ht,hg⟩:=hr pins { s3 with heap:=s3.heap.push { cls:=.type "slice",data:=.fields #[vl,vu,.none] } } σ H3 x v vl vu l u s3.heap.objs.size Q I4 r1 (Heap.IsSliceOf.new ..) pl pu q3
 show wpAny (model X.prog X.w) X.A (subscriptTail e (.Slice lo hi none p2) v (.ref s3.heap.objs.size)) (EP X pins σ Q) X.xe { s3 with heap:=s3.heap.push { cls:=.type "slice",data:=.fields #[vl,vu,.none] } }
 exact tail_any (ops:=[.ref s3.heap.objs.size,v]) ht hT hg (by with_unfolding_all rfl)
def bO (xs:List V) (lo hi:Option Int):List V:=(xs.drop (HT.sIx xs.length 0 lo)).take (HT.sIx xs.length xs.length hi - HT.sIx xs.length 0 lo)
theorem fj (xs:List V) (lo hi:Option Int):(bO xs lo hi).length≤xs.length:=by
 unfold bO
 rw [List.length_take,List.length_drop]
 omega
def Dd (K:PySem.W.Frag):V→Option Int→Option Int→Hp→VK→Prop:=fun x lo hi H Q=>∃a xs,x=.ref a∧SqT K H a xs ∧
 ¬ (HT.sIx xs.length 0 lo=0∧HT.sIx xs.length xs.length hi=xs.length)∧∀p,H p=none→Q (.ref p) (upd H p (.tup (bO xs lo hi)))
theorem eX:SlR X (Dd X.K):=by
 intro pins s σ H x v vl vu lo hi sl Q I rx hs pl pu h
 obtain ⟨a,xs,rfl,hx,hw,q⟩:=h
 cases rx
 obtain ⟨its,r,ht,hz⟩:=I.tuple hx
 have hlen:its.toArray.size=xs.length:=by rw [List.size_toArray]; exact r.length.symm
 refine ⟨"tuple",_,PyProof.Rows.slot_tuple_getitem.lookup,ht.typeIs,?_⟩
 refine HT.getItem_tuple_cut ht hs pl pu (by rw [hlen]; exact hw) ?_ (by rw [hlen]; exact hz)
 rw [hlen]
 refine ⟨.ref s.heap.objs.size,_,I.laid (t':=s.toks) (o:=.tup (bO xs lo hi)) (fun b ob q=>Heap.get?_push_of_some _ q) (Nat.le_refl _) ?_,rfl,q _ (I.hok.fresh (Nat.le_refl _))⟩
 exact ⟨Nat.le_trans (fj xs lo hi) hz,_,(r.drop (HT.sIx xs.length 0 lo)).take (HT.sIx xs.length xs.length hi - HT.sIx xs.length 0 lo),IsTup.new _ _⟩
def xl (K:PySem.W.Frag):R2:=fun x y H Q=>∃a b xs ys,x=.ref a∧y=.ref b∧SqT K H a xs∧SqT K H b ys∧xs≠[]∧xs.length + ys.length≤sizeLine ∧
 (ys=[]→Q (.ref a) H)∧(ys≠[]→∀p,H p=none→Q (.ref p) (upd H p (.tup (xs ++ ys))))
theorem Vals.nil_iff {xs:List V} {us:List Value} (r:Vals xs us):us=[]↔xs=[]:=by
 cases r with
 | nil=>simp
 | cons _ _=>simp
theorem qx:OpR X (binaryOp .Add) (xl X.K):=by
 intro pins s σ H x y v u Q I rx ry h
 obtain ⟨a,b,xs,ys,rfl,rfl,ha,hb,hx,hz,q1,q2⟩:=h
 cases rx
 cases ry
 obtain ⟨its,r1,p1,_⟩:=I.tuple ha
 obtain ⟨its2,r2,p2,_⟩:=I.tuple hb
 refine HT.cat_tup p1 p2 (fun z=>hx (r1.nil_iff.mp z)) (fun z=>⟨.ref a,H,I,rfl,q1 (r2.nil_iff.mp z)⟩) (fun z=>?_) (by rw [← r1.length,← r2.length]; exact hz)
 refine ⟨.ref s.heap.objs.size,_,I.laid (t':=s.toks) (o:=.tup (xs ++ ys)) (fun b ob q=>Heap.get?_push_of_some _ q) (Nat.le_refl _) ?_,rfl,q2 (fun w=>z (r2.nil_iff.mpr w)) _ (I.hok.fresh (Nat.le_refl _))⟩
 exact ⟨by rw [List.length_append]; exact hz,_,r1.append r2,IsTup.new _ _⟩
end
end L2
namespace L2
open PySem PySem.Spec PyProof.Rows
def ixN (n:Nat) (i:Int):Option Nat:=if 0≤i then (if i < n then some i.toNat else none) else if -(n:Int)≤i then some (i + n).toNat else none
def atI {α:Type} (xs:List α) (i:Int):Option α:=(ixN xs.length i).bind fun j=>xs[j]?
theorem lC {n:Nat} {i:Int} {j:Nat} (h:ixN n i=some j):seqIndex? i n=some j∧j < n∧-(n:Int)≤i∧i < n:=by
 unfold ixN at h
 by_cases h0:0≤i
 ·rw [if_pos h0] at h
  by_cases h1:i < n
  ·rw [if_pos h1] at h
   have e:i.toNat=j:=Option.some.inj h
   exact ⟨by rw [seqIndex_of h0 h1,e],by omega,by omega,h1⟩
  ·rw [if_neg h1] at h; cases h
 ·rw [if_neg h0] at h
  by_cases h1:-(n:Int)≤i
  ·rw [if_pos h1] at h
   have e:(i + n).toNat=j:=Option.some.inj h
   exact ⟨by rw [seqIndex_neg (by omega) h1,e],by omega,h1,by omega⟩
  ·rw [if_neg h1] at h; cases h
theorem hV {α:Type} {xs:List α} {i:Int} {v:α} (h:atI xs i=some v):∃j,seqIndex? i xs.length=some j∧xs[j]? = some v∧j < xs.length∧-(xs.length:Int)≤i∧i < xs.length:=by
 unfold atI at h
 cases e:ixN xs.length i with
 | none=>rw [e] at h; cases h
 | some j =>
  rw [e] at h
  obtain ⟨h1,h2,h3,h4⟩:=lC e
  exact ⟨j,h1,h,h2,h3,h4⟩
theorem qy {α:Type} {xs:List α} {j:Nat} {v:α} (h:xs[j]? = some v):atI xs (j:Int)=some v:=by
 have hj:j < xs.length:=(List.getElem?_eq_some_iff.mp h).1
 have e:ixN xs.length (j:Int)=some j:=by
  unfold ixN
  rw [if_pos (by omega),if_pos (by omega)]; simp
 unfold atI; rw [e]; exact h
def qz (b:Expr):Prop:=∀o i,subscripted b false o i=operate [o,i] (getItem o i)
def IxR (X:Cx) (r:R2):Prop :=
 ∀ (value slice:Expr) (pins:List (Addr×Obj)) (s:Shared) (σ:St) (H:Hp) (x y:V) (v u:Value) (Q:VK),Inv X pins σ H s→RelV x v→RelV y u→r x y H Q →
  subscripted slice false v u=operate [v,u] (getItem v u)→wpAny (model X.prog X.w) X.A (subscriptTail value slice v u) (EP X pins σ Q) X.xe s
def MtR (X:Cx) (id:String) (r:V→List V→Hp→VK→Prop):Prop :=
 ∀ (pins:List (Addr×Obj)) (s:Shared) (σ:St) (H:Hp) (x:V) (xs:List V) (v:Value) (us:List Value) (Q:VK),Inv X pins σ H s→RelV x v→Vals xs us→r x xs H Q →
  wpAny (model X.prog X.w) X.A (call (.builtin id) (v :: us)) (EP X pins σ Q) X.xe s
section
variable {X:Cx} {a b:Expr} {ta tb:TE} {pos:Pos}
theorem IxR.or {r r':R2} (h:IxR X r) (h':IxR X r'):IxR X (fun x y H Q=>r x y H Q∨r' x y H Q):=by
 intro value slice pins s σ H x y v u Q I rx ry q hs
 rcases q with q | q
 ·exact h value slice pins s σ H x y v u Q I rx ry q hs
 ·exact h' value slice pins s σ H x y v u Q I rx ry q hs
theorem ay {r:R2} (hr:IxR X r) (ha:PE X a ta) (hb:PE X b tb) (hs:qz b):PE X (.Subscript a b pos) (tOp r ta tb):=by
 intro pins s σ H Q I h
 exact Subscript_ (sL ha hb I h fun v u s2 x y H2 I2 rx ry q=>hr a b pins s2 σ H2 x y v u Q I2 rx ry q (hs _ _))
def xn (K:PySem.W.Frag):R2:=fun x y H Q=>∃p xs i v,x=.ref p∧y=.int i∧SqL K H p xs∧atI xs i=some v∧Q v H
def jM (K:PySem.W.Frag):R2:=fun x y H Q=>∃p xs i v,x=.ref p∧y=.int i∧SqT K H p xs∧atI xs i=some v∧Q v H
def xo:R2:=fun x y H Q=>∃z i c,x=.str z∧y=.int i∧z.length≤sizeLine∧atI z.cps.toList i=some c∧Q (.str ⟨#[c]⟩) H
theorem ix_list:IxR X (xn X.K):=by
 intro value slice pins s σ H x y v u Q I rx ry h hs
 obtain ⟨p,xs,i,z,rfl,rfl,hq,he,q⟩:=h
 cases rx
 obtain ⟨t,rfl⟩:=ry
 obtain ⟨its,r,pl,hz⟩:=I.list hq
 obtain ⟨j,h1,h2,h3,h4,h5⟩:=hV he
 obtain ⟨w,ew,rw'⟩:=r.get h2
 have hl:=r.length
 have hn:=eR
 have fin:EP X pins σ Q w s:=⟨z,H,I,rw',q⟩
 by_cases h0:0≤i
 ·have hj:i.toNat=j:=by
   rw [seqIndex_of h0 h5] at h1
   exact Option.some.inj h1
  exact item_listR pl.isList h0 (by omega) (by rw [hj]; simpa using ew) fin hs
 ·have hj:(i + (its.toArray.size:Int)).toNat=j:=by
   rw [seqIndex_neg (by omega) h4] at h1
   rw [List.size_toArray,← hl]
   exact Option.some.inj h1
  exact subscriptTail_builtinR (x:=w) pl.isList.typeIs slot_list_getitem.lookup
   (wpAny_getItem_list_neg (Q:=fun r s'=>r=w∧EP X pins σ Q r s') pl.isList (by omega) (by rw [List.size_toArray] <;> omega) (by omega) (by rw [hj]; simpa using ew) ⟨rfl,fin⟩) hs
theorem ix_tup:IxR X (jM X.K):=by
 intro value slice pins s σ H x y v u Q I rx ry h hs
 obtain ⟨p,xs,i,z,rfl,rfl,hq,he,q⟩:=h
 cases rx
 obtain ⟨t,rfl⟩:=ry
 obtain ⟨its,r,pl,hz⟩:=I.tuple hq
 obtain ⟨j,h1,h2,h3,h4,h5⟩:=hV he
 obtain ⟨w,ew,rw'⟩:=r.get h2
 have hl:=r.length
 have hn:=eR
 have fin:EP X pins σ Q w s:=⟨z,H,I,rw',q⟩
 exact subscriptTail_builtinR (x:=w) pl.typeIs slot_tuple_getitem.lookup
  (getItem_tuple (j:=j) (Q:=fun r s'=>r=w∧EP X pins σ Q r s') pl (by omega) (by omega) (by rw [List.size_toArray,← hl]; exact h1) (by simpa using ew) ⟨rfl,fin⟩) hs
theorem sQ:IxR X xo:=by
 intro value slice pins s σ H x y v u Q I rx ry h hs
 obtain ⟨z,i,c,rfl,rfl,hz,he,q⟩:=h
 obtain ⟨t,rfl⟩:=rx
 obtain ⟨t',rfl⟩:=ry
 obtain ⟨j,h1,h2,h3,h4,h5⟩:=hV he
 have hl:z.cps.toList.length=z.length:=by simp [Str.length]
 rw [hl] at h1 h4 h5
 have hn:=eR
 exact tail_any (typeIs_str s z t) slot_str_getitem.lookup (getItem_str (c:=c) (by
  have e1:decide (i < -(2 ^ 63:Int))=false:=decide_eq_false (by omega)
  have e2:decide (i≥2 ^ 63)=false:=decide_eq_false (by omega)
  rw [e1,e2,Bool.or_false]) (by rw [h1]; simpa using h2) ⟨.str ⟨#[c]⟩,H,I.tok _,⟨_,rfl⟩,q⟩) hs
def rIx (K:PySem.W.Frag):R2:=fun x y H Q=>xn K x y H Q∨jM K x y H Q∨xo x y H Q
theorem cC:IxR X (rIx X.K):=ix_list.or (ix_tup.or sQ)
theorem jN (its:List Value) (n j:Nat) (u:Value):Obj.mapSeq (·.setIfInBounds j u) { cls:=.type "list",data:=.seq its.toArray n }={ cls:=.type "list",data:=.seq (its.set j u).toArray n }:=by
 simp [Obj.mapSeq]
theorem Inv.lst {pins:List (Addr×Obj)} {σ:St} {H:Hp} {s:Shared} {p:Addr} {xs:List V} (I:Inv X pins σ H s) (h:H p=some (.lst xs)) :
  ∃ (its:List Value) (n:Nat),Vals xs its∧s.heap.get? p=some { cls:=.type "list",data:=.seq its.toArray n }∧xs.length≤sizeLine:=by
 obtain ⟨z,its,n,r,e⟩:=I.hok p _ h
 exact ⟨its,n,r,e,z⟩
theorem Inv.lstUpd {pins:List (Addr×Obj)} {σ:St} {H:Hp} {s:Shared} {p:Addr} {xs ys:List V} {its its':List Value} {n n':Nat} {f:Obj→Obj} (I:Inv X pins σ H s) (h:H p=some (.lst xs))
  (ho:s.heap.get? p=some { cls:=.type "list", data:=.seq its.toArray n }) (hf:f { cls:=.type "list", data:=.seq its.toArray n }={ cls:=.type "list", data:=.seq its'.toArray n' }) (r:Vals ys its') (hz:ys.length≤sizeLine) (t:Nat) :
  Inv X pins σ (upd H p (.lst ys)) { s with heap:=s.heap.update p f,toks:=t }:=by
 have e:(s.heap.update p f).get? p=some { cls:=.type "list", data:=.seq its'.toArray n' }:=by
  rw [Heap.get?_update_self f ho (by rw [hf] <;> rfl),hf]
 refine I.write (x:=p) (e:=p) (by rw [h]; trivial) (.inl rfl) (fun b u hb q=>(Heap.get?_update_other _ _ (Ne.symm hb)).trans q) ⟨_,e⟩ ?_
 exact ⟨hz,its',n',r,e⟩
def xq:V→V→V→Hp→(Hp→Prop)→Prop:=fun o i v H Q=>∃p xs k j,o=.ref p∧i=.int k∧H p=some (.lst xs)∧ixN xs.length k=some j∧Q (upd H p (.lst (xs.set j v)))
theorem fK:wY X xq:=by
 intro pins s σ H o i v ov iv u Q I ro ri rv h
 obtain ⟨p,xs,k,j,rfl,rfl,hp,hj,q⟩:=h
 cases ro
 obtain ⟨t,rfl⟩:=ri
 obtain ⟨its,n,r,ho,hz⟩:=I.lst hp
 obtain ⟨h1,h2,h3,h4⟩:=lC hj
 have hl:=r.length
 have hn:=eR
 have I':Inv X pins σ (upd H p (.lst (xs.set j v))) { s with heap:=s.heap.update p (Obj.mapSeq (·.setIfInBounds j u)) } :=
  I.lstUpd hp ho (jN its n j u) (r.set rv j) (by rw [List.length_set]; exact hz) s.toks
 by_cases h0:0≤k
 ·have hk:k.toNat=j:=by
   rw [seqIndex_of h0 h4] at h1
   exact Option.some.inj h1
  exact PySem.W.ki_setAt ho h0 (by omega) (by rw [List.size_toArray,← hl]; exact h4) (by rw [hk]; exact ⟨_,I',q⟩)
 ·have hk:(k + (its.toArray.size:Int)).toNat=j:=by
   rw [seqIndex_neg (by omega) h3] at h1
   rw [List.size_toArray,← hl]
   exact Option.some.inj h1
  exact PySem.W.ki_setBack ho (by omega) (by rw [List.size_toArray,← hl]; exact h3) (by omega) (by rw [hk]; exact ⟨_,I',q⟩)
theorem hX (lo hi:Option Int) (n:Nat):(sliceBounds lo hi none n).1=((HT.sIx n 0 lo:Nat):Int)∧(sliceBounds lo hi none n).2.1=((HT.sIx n n hi:Nat):Int)∧(sliceBounds lo hi none n).2.2=1:=by
 refine ⟨?_,?_,rfl⟩
 ·cases lo with
  | none=>simp [sliceBounds,HT.sIx]
  | some i =>
   simp only [sliceBounds,HT.sIx,Option.getD_none,show (1:Int) > 0 by decide,if_true]
   by_cases h:i < 0
   ·simp only [h,if_true] <;> omega
   ·simp only [h,if_false] <;> omega
 ·cases hi with
  | none=>simp [sliceBounds,HT.sIx]
  | some i =>
   simp only [sliceBounds,HT.sIx,Option.getD_none,show (1:Int) > 0 by decide,if_true]
   by_cases h:i < 0
   ·simp only [h,if_true] <;> omega
   ·simp only [h,if_false] <;> omega
theorem gC (its:List Value) (lo hi:Option Int):slicePick its.toArray lo hi none=((its.drop (HT.sIx its.length 0 lo)).take (HT.sIx its.length its.length hi - HT.sIx its.length 0 lo)).toArray:=by
 obtain ⟨h1,h2,h3⟩:=hX lo hi its.toArray.size
 unfold slicePick
 rw [h1,h2,h3]
 simp only [sliceRange_one,pick_run,List.size_toArray] <;> rfl
def De (K:PySem.W.Frag):V→Option Int→Option Int→Hp→VK→Prop:=fun x lo hi H Q=>∃a xs,x=.ref a∧SqL K H a xs∧∀p,H p=none→Q (.ref p) (upd H p (.lst (bO xs lo hi)))
theorem dr:SlR X (De X.K):=by
 intro pins s σ H x v vl vu lo hi sl Q I rx hs pl pu h
 obtain ⟨a,xs,rfl,hx,q⟩:=h
 cases rx
 obtain ⟨its,r,ht,hz⟩:=I.list hx
 have hlen:=r.length
 refine ⟨"list",_,slot_list_getitem.lookup,ht.isList.typeIs,?_⟩
 refine wpAny_getItem_list_slice ht.isList hs pl pu .none (by simp) ?_ (by rw [List.size_toArray] <;> omega)
 rw [gC,← hlen]
 refine ⟨.ref s.heap.objs.size,_,I.laid (t':=s.toks) (o:=.lst (bO xs lo hi)) (fun b ob q=>Heap.get?_push_of_some _ q) (Nat.le_refl _) ?_,rfl,q _ (I.hok.fresh (Nat.le_refl _))⟩
 exact ⟨Nat.le_trans (fj xs lo hi) hz,_,0,(r.drop (HT.sIx xs.length 0 lo)).take (HT.sIx xs.length xs.length hi - HT.sIx xs.length 0 lo),Heap.get?_push_size _ rfl⟩
theorem aS:bY X (.builtin "len") (fun xs H Q=>∃p ys,xs=[.ref p]∧(SqL X.K H p ys∨SqT X.K H p ys)∧Q (.int ys.length) H):=by
 intro pins s σ H xs us Q I r h
 obtain ⟨p,ys,rfl,hq,q⟩:=h
 obtain ⟨u,rfl,rx⟩:=dW r
 cases rx
 have hn:=eR
 rcases hq with hq | hq
 ·obtain ⟨its,r',pl,hz⟩:=I.list hq
  have hlen:=r'.length
  exact Calls.call_len_list pl.isList (by simp only [List.size_toArray] <;> omega) ⟨.int ys.length,H,I.tok _,⟨s.toks + 1,by rw [List.size_toArray,hlen]⟩,q⟩
 ·obtain ⟨its,r',pl,hz⟩:=I.tuple hq
  have hlen:=r'.length
  exact len_tuple pl (by simp only [List.size_toArray] <;> omega) ⟨.int ys.length,H,I.tok _,⟨s.toks + 1,by rw [List.size_toArray,hlen]⟩,q⟩
theorem dY:bY X (.type "list") (fun xs H Q=>∃p ys,xs=[.ref p]∧(SqL X.K H p ys∨SqT X.K H p ys)∧∀l,H l=none→Q (.ref l) (upd H l (.lst ys))):=by
 intro pins s σ H xs us Q I r h
 obtain ⟨p,ys,rfl,hq,q⟩:=h
 obtain ⟨u,rfl,rx⟩:=dW r
 cases rx
 have fin:∀ (its:List Value),Vals ys its→ys.length≤sizeLine→∀ (h':Heap) (c':Nat),(∀b o',s.heap.get? b=some o'→h'.get? b=some o') →
   h'.get? s.heap.objs.size=some { cls:=.type "list", dict:=none, data:=.seq its.toArray c', slots:=#[] }→EP X pins σ Q (.ref s.heap.objs.size) { s with heap:=h' }:=fun its r' hz h' c' kp e =>
  ⟨.ref s.heap.objs.size,_,I.laid (t':=s.toks) kp (Nat.le_refl _) (show ObjOk X.prog X.w _ h' _ (.lst ys) from ⟨hz,its,c',r',e⟩),rfl,q _ (I.hok.fresh (Nat.le_refl _))⟩
 rcases hq with hq | hq
 ·obtain ⟨its,r',pl,hz⟩:=I.list hq
  have hlen:=r'.length
  obtain ⟨o,ho,hc,n,hd⟩:=pl.isList
  exact call_list_seq p (.inl rfl) ho hc hd (fun h' c' kp e=>fin its r' hz h' c' kp e) (by simp only [List.size_toArray] <;> omega)
 ·obtain ⟨its,r',pl,hz⟩:=I.tuple hq
  have hlen:=r'.length
  obtain ⟨o,ho,hc,n,hd⟩:=pl
  exact call_list_seq p (.inr rfl) ho hc hd (fun h' c' kp e=>fin its r' hz h' c' kp e) (by simp only [List.size_toArray] <;> omega)
theorem bR:bY X (.type "tuple") (fun xs H Q=>∃p ys,xs=[.ref p]∧((SqL X.K H p ys∧∀l,H l=none→Q (.ref l) (upd H l (.tup ys)))∨(SqT X.K H p ys∧Q (.ref p) H))):=by
 intro pins s σ H xs us Q I r h
 obtain ⟨p,ys,rfl,h⟩:=h
 obtain ⟨u,rfl,rx⟩:=dW r
 cases rx
 rcases h with ⟨hq,q⟩ | ⟨hq,q⟩
 ·obtain ⟨its,r',pl,hz⟩:=I.list hq
  have hlen:=r'.length
  refine call_tuple_list pl.isList (fun h' kp=>?_) (by simp only [List.size_toArray] <;> omega)
  have I1:Inv X pins σ H { s with heap:=h' }:=I.kept (t':=s.toks) kp
  have I2:Inv X pins σ (upd H h'.objs.size (.tup ys)) { s with heap:=h'.push { cls:=.type "tuple", data:=.seq its.toArray } } :=
   I1.laid (t':=s.toks) (fun b o e=>Heap.get?_push_of_some _ e) (Nat.le_refl _) (show ObjOk X.prog X.w _ _ _ (.tup ys) from ⟨hz,its,r',IsTup.new _ _⟩)
  exact ⟨.ref h'.objs.size,_,I2,rfl,q _ (I1.hok.fresh (Nat.le_refl _))⟩
 ·obtain ⟨its,r',pl,hz⟩:=I.tuple hq
  exact call_tuple_same pl ⟨.ref p,H,I,rfl,q⟩
def tyV (K:PySem.W.Frag) (T:String) (x:V) (H:Hp):Prop:=match x with
 | .str _=>T = "str"
 | .int _=>T = "int"
 | .ref p=>(T = "list" ∧ ∃xs,SqL K H p xs)∨(T = "tuple" ∧ ∃o,K.lookup p=some o∧o.cls=.type "tuple" ∧ o.dict=none) ∨
   (T = "dict" ∧ ((∃kvs,H p=some (.dK kvs))∨∃kvs,H p=some (.dT kvs)))∨(T = "set" ∧ ∃S n,H p=some (.set S n))
 | _=>False
theorem sR {pins:List (Addr×Obj)} {σ:St} {H:Hp} {s:Shared} {T:String} {x:V} {v:Value} (I:Inv X pins σ H s) (r:RelV x v) (ty:tyV X.K T x H) :
  s.TypeIs v T∧∀a,v=.ref a→∃ob,s.heap.get? a=some ob∧ob.dict=none:=by
 cases x with
 | str z =>
  obtain ⟨t,rfl⟩:=r
  cases (show T = "str" from ty)
  exact ⟨typeIs_str s z t,fun _ e=>nomatch e⟩
 | int i =>
  obtain ⟨t,rfl⟩:=r
  cases (show T = "int" from ty)
  exact ⟨typeIs_int s i t,fun _ e=>nomatch e⟩
 | ref p =>
  cases r
  rcases ty with ⟨rfl,xs,hq⟩ | ⟨rfl,o,hk,hc,hd⟩ | ⟨rfl,hk⟩ | ⟨rfl,S,n,hk⟩
  ·obtain ⟨its,_,pl,_⟩:=I.list hq
   refine ⟨pl.isList.typeIs,fun a e=>?_⟩
   cases e
   obtain ⟨o,n,e,c,hd,_⟩:=pl
   exact ⟨o,e,hd⟩
  ·refine ⟨⟨o,I.kIn p o hk,hc⟩,fun a e=>?_⟩
   cases e
   exact ⟨o,I.kIn _ o hk,hd⟩
  ·have z:∃o,s.heap.get? p=some o∧o.ExactDict:=by
    rcases hk with ⟨kvs,hk⟩ | ⟨kvs,hk⟩
    ·obtain ⟨_,_,_,_,o,_,_,e,ex,_⟩:=I.hok p _ hk
     exact ⟨o,e,ex⟩
    ·obtain ⟨_,_,_,_,o,_,_,e,ex,_⟩:=I.hok p _ hk
     exact ⟨o,e,ex⟩
   obtain ⟨o,e,ex⟩:=z
   refine ⟨⟨o,e,ex.1⟩,fun a e2=>?_⟩
   cases e2
   exact ⟨o,e,ex.2.1⟩
  ·obtain ⟨o,_,_,_,e,ex,_⟩:=I.hok p _ hk
   refine ⟨⟨o,e,ex.1⟩,fun a e2=>?_⟩
   cases e2
   exact ⟨o,e,ex.2.1⟩
 | _=>exact False.elim ty
def tBM (K:PySem.W.Frag) (T:String) (r:V→List V→Hp→VK→Prop) (to:TE) (t:TA):TE:=fun σ H Q=>to σ H fun x H1=>tyV K T x H1∧t σ H1 fun xs H2=>r x xs H2 Q
variable {o e:Expr} {es:List Expr} {to:TE} {t:TA} {name:Str} {apos cpos:Pos} {T id:String} {r:V→List V→Hp→VK→Prop}
theorem dZ (pa:PlainAttrs T) (slot:Slot T name id) (hty:typeOf (.builtin id)=pure (.type "method_descriptor")) (hm:MtR X id r) (ho:PE X o to) (ha:PA X (e :: es) t)
  (hbase:attributeBase o name X.env (eval o X.env)=eval o X.env:=by rfl)
  (hfew:((backTo cpos (starEach (e :: es) X.env)).all (fun x=>!x.1) && (backToKw cpos (keywordEach [] X.env)).all (fun x=>x.1.isSome)
   && decide ((e :: es).length + ([]:List Keyword).length + (if ([]:List Keyword).isEmpty then 0 else 1) < 30))=true:=by rfl)
  (hline:(apos.endLine == cpos.line)=true:=by rfl) (hs:starEach (e :: es) X.env=(false,eval e X.env) :: starEach es X.env:=by rfl) (hplain:(backTo cpos (starEach es X.env)).any (·.1)=false:=by rfl) :
  PE X (.Call (.Attribute o name apos) (e :: es) [] cpos) (tBM X.K T r to t):=by
 intro pins s σ H Q I h
 refine wpAny_Call_method_late hbase hfew hline rfl (thn (ho pins s σ H _ I h) fun v s1 ⟨x,H1,I1,r1,ty,q1⟩=>?_)
 obtain ⟨h1,h2⟩:=sR I1 r1 ty
 refine ⟨T,id,pa,slot,hty,h1,h2,?_⟩
 have hA:=ha cpos pins s1 σ H1 _ I1 q1
 rw [hs] at hA ⊢
 refine Calls.callWith_builtin (by show (false || (backTo cpos (starEach es X.env)).any (·.1))=false; rw [hplain] <;> rfl) (Calls.evalArgs_plain ?_)
 exact thn hA fun us s2 ⟨vs,H2,I2,r2,q2⟩=>hm pins s2 σ H2 x vs v us Q I2 r1 r2 q2
/- xs.append(e),list.index on a module's tuple .. are MtR facts of 06m -/
end
end L2
namespace L2
open PySem PySem.Spec PyProof.Rows
def MtM (X:Cx) (id:String) (r:V→List V→Hp→VK→Prop):Prop :=
 ∀ (pins:List (Addr×Obj)) (s:Shared) (σ:St) (H:Hp) (x:V) (xs:List V) (v:Value) (us:List Value) (Q:VK),Inv X pins σ H s→RelV x v→Vals xs us→r x xs H Q →
  wpAny (model X.prog X.w) X.A (call (.builtin id) (v :: us)) (EP X pins σ Q) X.xe s
theorem Vals.one:∀ {x:V} {us:List Value},Vals [x] us→∃u,us=[u]∧RelV x u
 | _,_,.cons r .nil=>⟨_,rfl,r⟩
theorem Vals.dropLast {xs:List V} {us:List Value} (h:Vals xs us):Vals xs.dropLast us.dropLast:=by
 induction h with
 | nil=>exact .nil
 | cons r t ih =>
  cases t with
  | nil=>exact .nil
  | cons q t'=>exact .cons r ih
theorem sS {α:Type} (l:List α):l.eraseIdx (l.length - 1)=l.dropLast:=by
 induction l with
 | nil=>rfl
 | cons a r ih =>
  cases r with
  | nil=>rfl
  | cons b r =>
   have e:(a :: b :: r).length - 1=((b :: r).length - 1) + 1:=by
    have h1:(a :: b :: r).length=r.length + 2:=rfl
    have h2:(b :: r).length=r.length + 1:=rfl
    omega
   rw [e,List.eraseIdx_cons_succ,ih]
   all_goals rfl
section
variable {X:Cx} {pins:List (Addr×Obj)} {σ:St} {H:Hp} {s:Shared} {l b:Addr} {xs ys zs:List V}
theorem Inv.lset {its its':List Value} {n:Nat} {f:Array Value→Array Value} {t':Nat} (I:Inv X pins σ H s) (hH:H l=some (.lst xs))
  (e:s.heap.get? l=some { cls:=.type "list", data:=.seq its.toArray n }) (hf:f its.toArray=its'.toArray) (hv:Vals ys its') (hz:ys.length≤sizeLine) :
  Inv X pins σ (upd H l (.lst ys)) { s with heap:=s.heap.update l (Obj.mapSeq f),toks:=t' }:=by
 have q:=PySem.IsL.update e f
 rw [hf] at q
 refine I.write (x:=l) (e:=l) (by rw [hH]; exact trivial) (.inl rfl) (fun b' u hb hu=>(Heap.get?_update_other s.heap (Obj.mapSeq f) (Ne.symm hb)).trans hu) ⟨_,q⟩ ?_
 exact ⟨hz,its',_,hv,q⟩
theorem Inv.lnew {its:List Value} {t':Nat} (I:Inv X pins σ H s) (hv:Vals ys its) (hz:ys.length≤sizeLine) :
  Inv X pins σ (upd H s.heap.objs.size (.lst ys)) { s with heap:=s.heap.push { cls:=.type "list", data:=.seq its.toArray }, toks:=t' } :=
 I.laid (fun _ _ q=>Heap.get?_push_of_some _ q) (Nat.le_refl _) ⟨hz,its,0,hv,Heap.get?_push_size _ rfl⟩
theorem Inv.fresh (I:Inv X pins σ H s):H s.heap.objs.size=none:=I.hok.fresh (Nat.le_refl _)
theorem Inv.lstM (I:Inv X pins σ H s) (hH:H l=some (.lst xs)):xs.length≤sizeLine∧∃ (its:List Value) (n:Nat),Vals xs its∧xs.length=its.length∧s.heap.get? l=some { cls:=.type "list",data:=.seq its.toArray n }:=by
 obtain ⟨z,its,n,r,e⟩:=I.hok l _ hH
 exact ⟨z,its,n,r,r.length,e⟩
theorem oh {n:Nat} (h:n≤sizeLine):Builtin.List.listTooLong n=false:=by
 unfold Builtin.List.listTooLong
 exact decide_eq_false (by omega)
end
section
variable {X:Cx}
def qA:V→List V→Hp→VK→Prop:=fun x vs H Q=>∃l xs y,x=.ref l∧vs=[y]∧H l=some (.lst xs)∧xs.length < sizeLine∧Q .non (upd H l (.lst (xs ++ [y])))
theorem bP:MtM X "list.append" qA:=by
 intro pins s σ H x vs v us Q I rx rv h
 obtain ⟨l,xs,y,rfl,rfl,hH,hz,q⟩:=h
 cases rx
 obtain ⟨u,rfl,ru⟩:=rv.one
 obtain ⟨z,its,n,r,hl,e⟩:=I.lstM hH
 refine call_meets F.slot_list_append ⟨_,e,rfl⟩ F.entry_list_append (F.args_list_append_2 _ _) (PySem.list_append l its.toArray n u (by rw [List.size_toArray]; omega)) ⟨e,?_⟩
 refine ⟨.non,_,I.lset (its':=its ++ [u]) hH e (by simp) (r.append (.cons ru .nil)) ?_,rfl,q⟩
 rw [List.length_append,List.length_singleton]
 omega
def qB:V→List V→Hp→VK→Prop:=fun x vs H Q=>∃l b xs zs,x=.ref l∧vs=[.ref b]∧H l=some (.lst xs)∧H b=some (.lst zs)∧xs.length + zs.length≤sizeLine∧Q .non (upd H l (.lst (xs ++ zs)))
theorem wR:MtM X "list.extend" qB:=by
 intro pins s σ H x vs v us Q I rx rv h
 obtain ⟨l,b,xs,zs,rfl,rfl,hH,hB,hz,q⟩:=h
 cases rx
 obtain ⟨u,rfl,ru⟩:=rv.one
 cases ru
 obtain ⟨z,its,n,r,hl,e⟩:=I.lstM hH
 obtain ⟨z2,its2,n2,r2,hl2,e2⟩:=I.lstM hB
 have hsz:its.toArray.size + its2.toArray.size≤sizeLine:=by rw [List.size_toArray,List.size_toArray]; omega
 have hlong:¬ (!its.toArray.isEmpty && Builtin.List.listTooLong (its.toArray.size + its2.toArray.size))=true:=by
  rw [oh hsz,Bool.and_false]
  exact Bool.false_ne_true
 refine call_meets F.slot_list_extend ⟨_,e,rfl⟩ F.entry_list_extend (F.args_list_extend_2 _ _)
  (AutoSeq1.list_extend_list_list_0 l its.toArray n b its2.toArray n2 hlong (by rw [List.size_toArray]; omega) (by omega)) ⟨e,e2,?_⟩
 refine ⟨.non,_,I.lset (its':=its ++ its2) hH e (by simp) (r.append r2) ?_,rfl,q⟩
 rw [List.length_append]
 omega
def Df:R2:=fun x y H Q=>∃l b xs zs,x=.ref l∧y=.ref b∧H l=some (.lst xs)∧H b=some (.lst zs)∧xs.length + zs.length≤sizeLine∧∀p,H p=none→Q (.ref p) (upd H p (.lst (xs ++ zs)))
theorem dO:OpR X (binaryOp .Add) Df:=by
 intro pins s σ H x y v u Q I rx ry h
 obtain ⟨l,b,xs,zs,rfl,rfl,hH,hB,hz,q⟩:=h
 cases rx
 cases ry
 obtain ⟨z,its,n,r,hl,e⟩:=I.lstM hH
 obtain ⟨z2,its2,n2,r2,hl2,e2⟩:=I.lstM hB
 refine PySem.P.add_list e e2 ?_ (by rw [List.size_toArray,List.size_toArray]; omega)
 have ea:its.toArray ++ its2.toArray=(its ++ its2).toArray:=by simp
 rw [ea]
 exact ⟨.ref _,_,I.lnew (t':=s.toks) (r.append r2) (by rw [List.length_append]; omega),rfl,q _ I.fresh⟩
end
section
variable {prog:Program} {w:World} {A:Around} {E:Value→Shared→Prop} {s:Shared}
end
section
variable {X:Cx}
end
end L2
namespace Att
open PySem PySem.W PySem.Calls PyProof.Rows
theorem fq {P:Params} {h:Heap}:∀ (ns:List Int) (vs:List Value),WellAll P h vs (ns.map WData.int)→IntsAre vs ns:=by
 intro ns
 induction ns with
 | nil =>
  intro vs w
  rw [List.map_nil] at w
  cases w
  exact .nil
 | cons n ns ih =>
  intro vs w
  rw [List.map_cons] at w
  cases w with
  | cons a b =>
   cases a
   exact .cons _ _ (ih _ b)
theorem mi {l:OpenLaw} {n:Nat} (hn:l.most=some n) {P:Params} {h:Heap} {args:List WData} {vals:List Value}
  (hpre:l.row.toRowW.claim.pre args=true) (hwl:WellAll P h vals args) :
  ∃a vs ns,vals=[Value.ref a]∧args=[WData.list (ns.map WData.int)]∧h.get? a=some { cls:=.type "list",data:=.seq vs.toArray }∧IntsAre vs ns∧ns.length≤n:=by
 have hsh:WShape.hasAll [] args [.list .int]=true:=(pre_splitW hpre).1
 have hc:l.pre.holds [] { args:=args }=true:=(pre_splitW hpre).2
 obtain ⟨d,r,rfl,h1,h2⟩:=hasAllW_cons hsh
 obtain rfl:=hasAllW_nil h2
 obtain ⟨xs,rfl,h3⟩:=hasW_list h1
 obtain ⟨ns,rfl⟩:=items_int h3
 have hlen:ns.length≤n:=by
  unfold OpenLaw.pre at hc
  have h4:(WTm.not (.lt (.lit (.int (n:Int))) (.len (.arg 0)))).holds [] { args:=[.list (ns.map .int)] }=true:=by
   have h4:=(holds_andW hc).1
   rw [hn] at h4
   exact h4
  have h5:=condW_of h4 (w_not (w_lt w_lit (w_len_list (w_arg rfl))))
  rw [List.length_map] at h5
  refine Nat.le_of_not_lt fun q=>?_
  have q':(n:Int) < ((ns.length:Nat):Int):=by omega
  first
   | (rw [decide_eq_true q'] at h5; exact absurd h5 (by decide))
   | (simp at h5; omega)
 cases hwl with
 | cons w1 w2 =>
  cases w2
  cases w1 with
  | list ho hall=>exact ⟨_,_,ns,rfl,rfl,ho,fq ns _ hall,hlen⟩
theorem mj (l:OpenLaw) (args:List WData):l.row.toRowW.claim.post args (.bool true) args=true :=
 postW_of (r:=l.row.toRowW) (X:=(true == true))
  (show WShape.has [] (.bool true) .bool=true by first | rfl | decide | simp [WShape.has,WShape.arms,WShape.armsAll])
  (show (WTm.eq .res (.lit (.bool true))).value [] { args:=args,res:=some (.bool true),after:=args }=some (.bool (true == true)) from w_eq_bool (w_res rfl) w_lit) rfl
theorem attach_call {l:OpenLaw} {n:Nat} {q:Program} {loose:List Str} {XP:(Str→Option Value)→Heap→Prop} {YP:World→Heap→Prop} {d:DefRec}
  (hn:l.most=some n) (hdf:d.params.defaults=[])
  (call:∀ (w:World) (s₀ s₁:Shared) (mg mb:Str→Option Value) (fa:Addr) (o:Obj) (pm cd doc:Value) (a:Addr) (vs:List Value) (ns:List Int),
   Ground q loose [] XP w s₀ mg mb s₁.heap→YP w s₁.heap →
   s₁.heap.get? fa=some o→o.data=.func (docDef d.name d.params d.body d.scope pm cd doc)→s₁.heap.CodeRec cd d.name→mg d.name=some (.ref fa) →
   s₁.heap.get? a=some { cls:=.type "list",data:=.seq vs.toArray }→IntsAre vs ns→ns.length≤n→s₁.gens=#[] →
   codeAny (model l.prog w) callerA (.call (.ref fa) ⟨[.ref a],[]⟩) (fun r s'=>r=.ok (.ret (.bool true))∧OldK s₁.heap s'.heap∧s'.os=s₁.os∧AllBare s'.gens) s₁) :
  WalkO q loose XP YP l.row.toRowW d [] (fun f vs=>PySem.call f vs):=by
 intro w s₀ s₁ mg mb G Y fa o pm cd doc dV kV ho hd hcd hD hmg hg args vals as hpre hlay hrd hwl hlo
 obtain rfl:dV=.none:=Dflts.none hD hdf
 obtain rfl:kV=.none:=Dflts.noKw hD
 obtain ⟨a,vs,ns,rfl,rfl,hobj,hints,hlen⟩:=mi hn hpre hwl
 refine enter_call (codeAny_mono (call w s₀ s₁ mg mb fa o pm cd doc a vs ns G Y ho (fd_plain hd) hcd hmg hobj hints hlen hg) fun r s' hq=>?_)
 obtain ⟨rfl,h2,h3,h4⟩:=hq
 exact ⟨.inl ⟨.bool true,.bool true,[],rfl,fun _=>rfl,.bool true,mj l _,fun _=>⟨List.Pairwise.nil,fun _ hm=>(nomatch hm)⟩⟩,h2,h3,h4⟩
section
variable {prog:Program} {w:World} {A:Around} {E:Value→Shared→Prop} {s:Shared} {K:Frag}
def Dg (h:Heap) (L d:Addr):List (Addr×Obj):=(List.range h.objs.size).filterMap fun a=>if a=L∨a=d then none else (h.get? a).map fun o=>(a,o)
end
end Att
namespace L2
open PySem PySem.Spec PyProof.Rows
theorem gJ:∀ {vs:List Value} {ns:List Int},IntsAre vs ns→Vals (ns.map V.int) vs
 | _,_,.nil=>.nil
 | _,_,.cons n t h=>.cons ⟨t,rfl⟩ (gJ h)
def sT (H:Hp):Prop:=∀b,H b=none∨∃o xs,H b=some (.frz o (.lst xs))
theorem oi {P:Program} {w:World} {K:PySem.W.Frag} {mg mb:Str→Option Value} {CX:CXT} {k:Nat} {fa a:Addr} {fd:FuncData} {x:Str} {sp:Sp} {s₁:Shared} {vs:List Value} {ns:List Int}
  (KX:K.In s₁.heap) (hns:s₁.heap.Ns mainGlobals mg) (hb:s₁.heap.Ns builtinsNs mb) (hbb:∀x:Str,x ≠ "__name__" → mb x=bootBuiltins x) (hlim:s₁.heap.NoLimit) (hg:s₁.gens=#[])
  (ha:s₁.heap.get? a=some { cls:=.type "list",data:=.seq vs.toArray }) (hi:IntsAre vs ns) (hl:ns.length≤sizeLine) (hr:Room k callerA)
  (F:∀base:Heap,K.In base→base.Ns mainGlobals mg→FnOk P w K mg base CX k fa fd [x] sp) (hbind:∀ (s:Shared) (u:Value),BindsTo s fd ⟨[u],[]⟩ [(x,u)])
  (hsp:∀H:Hp,sT H→SqL K H a (ns.map V.int)→sp [.ref a] H (fun v _=>v=.bl true) fun _ _ _=>False)
  (hCX:∀H e s',CX [] H s₁ (fun _ _ _=>False) e s'→False) :
  codeAny (model P w) callerA (.call (.ref fa) ⟨[.ref a],[]⟩) (fun r s'=>r=.ok (.ret (.bool true))∧OldK s₁.heap s'.heap∧s'.os=s₁.os∧AllBare s'.gens) s₁:=by
 have rv:=gJ hi
 have lenV:=hi.length
 have core:∀H:Hp,sT H→SqL K H a (ns.map V.int)→HOk P w H s₁.heap→(∀b,H b≠none→b=a)→(H a≠none→K.lookup a=none) →
   codeAny (model P w) callerA (.call (.ref fa) ⟨[.ref a],[]⟩) (fun r s'=>r=.ok (.ret (.bool true))∧OldK s₁.heap s'.heap∧s'.os=s₁.os∧AllBare s'.gens) s₁:=by
  intro H hO hS hok hA hK
  have base_of:∀ {b:Addr} {o:Obj},s₁.heap.get? b=some o→H b=none→(gZ s₁.heap H).get? b=some o:=fun e n=>nJ e n
  have noA:∀ {b:Addr} {o:Obj} {es:Array DictEntry} {ep:Nat},s₁.heap.get? b=some o→o.data=.dict es ep→H b=none:=fun {b o es ep} e d=>by
   cases q:H b with
   | none=>rfl
   | some u =>
    have e':b=a:=hA b (by rw [q]; simp)
    subst e'
    rw [ha] at e; cases e
    have d':Data.seq vs.toArray _=Data.dict es ep:=d
    cases d'
  have nsK:∀ {b:Addr} {m:Str→Option Value},s₁.heap.Ns b m→(gZ s₁.heap H).Ns b m:=fun {b m} ⟨o,es,ep,e,d,r⟩=>⟨o,es,ep,base_of e (noA e d),d,r⟩
  have hKb:K.In (gZ s₁.heap H):=fun b o e=>base_of (KX b o e) (by
   cases q:H b with
   | none=>rfl
   | some u =>
    have e':b=a:=hA b (by rw [q]; simp)
    subst e'
    rw [hK (by rw [q]; simp)] at e; cases e)
  have hM:Mod K mg (gZ s₁.heap H):=⟨hKb,nsK hns,⟨mb,nsK hb,hbb⟩,let ⟨mc,h1,h2⟩:=hlim; ⟨mc,nsK h1,h2⟩⟩
  have e0:Env0 P w K mg (gZ s₁.heap H) callerA [] s₁ H:=⟨rfl,hM,fun b o e=>qi e,Nat.le_of_eq (lY _ _),trivial,fun b hb=>absurd (show b∈([]:List Addr) from hb) (by simp),hok,.of_eq hg⟩
  refine codeAny_mono ((F _ hKb (nsK hns)).run callerA [] s₁ H ⟨[.ref a],[]⟩ [.ref a] [.ref a] _ _ hr e0 (hbind s₁ (.ref a)) (.cons rfl .nil) (hsp H hO hS)) fun r s' h=>?_
  cases r with
  | error e=>exact (hCX H e s' h).elim
  | ok fl =>
   cases fl with
   | next=>exact False.elim h
   | brk=>exact False.elim h
   | cont=>exact False.elim h
   | ret u =>
    obtain ⟨v,H',os,bare,un,hok',r',q⟩:=h
    have q':v=.bl true:=q
    subst q'
    obtain rfl:u=Value.bool true:=r'
    refine ⟨rfl,OldK.of_keep fun b o e=>?_,os,bare⟩
    cases q:H b with
    | none=>exact un.keep b o e q (by intro z; exact absurd (show b∈([]:List Addr) from z) (by simp)) (by simp)
    | some u =>
     rcases hO b with z | ⟨ob,xs,z⟩
     ·rw [q] at z; cases z
     ·have z2:=un.frzs b ob _ z
      obtain ⟨e1,_⟩:=hok b _ z
      obtain ⟨e2,_⟩:=hok' b _ z2
      rw [e] at e1; cases e1
      exact e2
 cases hk:K.lookup a with
 | some o =>
  have e:=KX a o hk
  rw [ha] at e
  cases e
  refine core (fun _=>none) (fun _=>.inl rfl) (.inr ⟨_,vs.toArray,_,hk,rfl,rfl,rfl,by rw [List.size_toArray,lenV]; exact hl,by simpa using rv⟩) (fun b u z=>by have z':(none:Option HO)=some u:=z; cases z') (fun b z=>absurd rfl z) fun z=>absurd rfl z
 | none =>
  refine core (fun b=>if b=a then some (.frz { cls:=.type "list",data:=.seq vs.toArray } (.lst (ns.map V.int))) else none) (fun b=>?_) (.inl (.inr ⟨{ cls:=.type "list",data:=.seq vs.toArray },if_pos rfl⟩)) (fun b u z=>?_) (fun b z=>?_) fun _=>hk
  ·by_cases hb:b=a
   ·exact .inr ⟨_,_,if_pos hb⟩
   ·exact .inl (if_neg hb)
  ·by_cases hb:b=a
   ·have z':=(if_pos hb).symm.trans z
    cases z'
    subst hb
    exact ⟨ha,by rw [List.length_map]; exact hl,vs,_,rv,ha⟩
   ·have z':=(if_neg hb).symm.trans z
    cases z'
  ·by_cases hb:b=a
   ·exact hb
   ·exact absurd (if_neg hb) z
end L2
namespace L2
open PySem PySem.Spec PyProof.Rows
theorem walk_of {l:PySem.W.OpenLaw} {n k:Nat} {q:Program} {loose:List Str} {XP:(Str→Option Value)→Heap→Prop} {YP:World→Heap→Prop} {d:DefRec} {K:Params→PySem.W.Frag} {CX:World→CXT} {sp:World→Sp} {x:Str}
  (hn:l.most=some n) (hn2:n≤sizeLine) (hdf:d.params.defaults=[]) (hr:Room k callerA)
  (hY:∀ (w:World) (h:Heap),YP w h→(K w.params).In h)
  (F:∀ (w:World) (mg:Str→Option Value) (fa:Addr) (h:Heap),(K w.params).In h→h.Ns mainGlobals mg→mg d.name=some (.ref fa) →
   ∃fd:FuncData,(∀ (s:Shared) (u:Value),BindsTo s fd ⟨[u],[]⟩ [(x,u)]) ∧
    ∀base:Heap,(K w.params).In base→base.Ns mainGlobals mg→FnOk l.prog w (K w.params) mg base (CX w) k fa fd [x] (sp w))
  (hsp:∀ (w:World) (H:Hp) (a:Addr) (ns:List Int),ns.length≤n→sT H→SqL (K w.params) H a (ns.map V.int)→sp w [.ref a] H (fun v _=>v=.bl true) fun _ _ _=>False)
  (hCX:∀ (w:World) (H:Hp) (s:Shared) (e:Value) (s':Shared),CX w [] H s (fun _ _ _=>False) e s'→False) :
  PySem.W.WalkO q loose XP YP l.row.toRowW d [] (fun f vs=>PySem.call f vs):=by
 refine Att.attach_call hn hdf fun w s₀ s₁ mg mb fa o pm cd doc a vs ns G Y ho hd hcd hmg hobj hints hlen hg=>?_
 have KX:=hY w _ Y
 obtain ⟨fd,hb,hF⟩:=F w mg fa _ KX G.T.g hmg
 exact oi KX G.T.g G.T.b G.T.builtins G.T.nolimit hg hobj hints (Nat.le_trans hlen hn2) hr hF hb (fun H hO hS=>hsp w H a ns hlen hO hS) fun H e s'=>hCX w H s₁ e s'
end L2
namespace L2
open PySem PySem.Spec PyProof.Rows
def inClass (s:Stmt) (j:Nat):Stmt:=match s with
 | .ClassDef _ _ _ body _ _ _ _ _ _ _=>body.getD j (.Pass ⟨0,0,0,0⟩)
 | _=>.Pass ⟨0,0,0,0⟩
def defArgs (s:Stmt):Arguments:=match s with
 | .FunctionDef _ a _ _ _ _ _ _ _ _=>a
 | _=>{ posonlyargs:=[],args:=[],vararg:=none,kwonlyargs:=[],kw_defaults:=[],kwarg:=none,defaults:=[] }
def defBody (s:Stmt):List Stmt:=match s with
 | .FunctionDef _ _ b _ _ _ _ _ _ _=>b
 | _=>[]
def defScope (s:Stmt):Scope:=match s with
 | .FunctionDef _ _ _ _ _ _ sc _ _ _=>sc
 | _=>{ kind:=.function,names:=[],isGenerator:=false,isCoroutine:=false }
abbrev CX0:CXT:=fun _ _ _ _ _ _=>False
abbrev E0:XK:=fun _ _ _=>False
theorem lD {X:Cx}:dN CX0 X E0:=fun _ _ _ _ _ _ _ h=>h.elim
structure Fun (K:PySem.W.Frag) (x qual:Str) (st:Stmt) (f:Addr) (fd:FuncData):Prop where
 ex:∃ (oc:Value) (od:Option Addr) (kV doc pm:Value) (an:Option Addr) (cdv ct:Value) (osl:Array (Option Value)),
  fd=PySem.W.fnOf x qual (defArgs st) (defBody st) (defScope st) .none kV doc pm an cdv ct∧K.lookup f=some ⟨oc,od,.func fd,osl⟩∧PySem.W.codeIn K cdv qual=true
 kp:PySem.W.keepIn K (.ref f)=true
section
variable {P:Program} {w:World} {K:PySem.W.Frag} {mg:Str→Option Value} {base:Heap}
theorem Fun.ok {x qual:Str} {st:Stmt} {f:Addr} {fd:FuncData} {N ps:List Str} {k:Nat} {sp:Sp} (F:Fun K x qual st f fd) (S:FnScope N ps (defScope st)) (len:∀vs H Q E,sp vs H Q E→vs.length=ps.length)
  (hbody:∀ (cdv:Value) (A:Around) (outer:List Env) (s:Shared) (H:Hp) (vs:List V) (Q:VK) (E:XK),Room k (A.deeper (envOfC qual (defScope st) s.heap.objs.size f cdv))→sp vs H Q E →
   ∃t,PSs (dE CX0 P w K mg base N qual (defScope st) f cdv A outer s H E).nox (defBody st) t∧t { nx:=fun _ H'=>Q .non H',rt:=Q } (start N vs) H):FnOk P w K mg base CX0 (k + 1) f fd ps sp:=by
 obtain ⟨oc,od,kV,doc,pm,an,cdv,ct,osl,rfl,lk,hcd⟩:=F.ex
 refine se lk hcd S len fun A outer s H vs Q E hr hsp=>?_
 obtain ⟨t,h,q⟩:=hbody cdv A outer s H vs Q E hr hsp
 exact ⟨t,h.nox,q⟩
theorem Fun.binds {x qual:Str} {st:Stmt} {f:Addr} {fd:FuncData} {ps:List Str} (F:Fun K x qual st f fd)
  (h:∀ (kV doc pm:Value) (an:Option Addr) (cdv ct:Value) (us:List Value),us.length=ps.length→bindArgs (PySem.W.fnOf x qual (defArgs st) (defBody st) (defScope st) .none kV doc pm an cdv ct) ⟨us,[]⟩=pure (ps.zip us)):Binds K fd ps []:=by
 obtain ⟨oc,od,kV,doc,pm,an,cdv,ct,osl,rfl,lk,hcd⟩:=F.ex
 exact .all (h kV doc pm an cdv ct)
theorem aJ {x qual:Str} {st:Stmt} {f:Addr} {oc:Value} {od an:Option Addr} {osl:Array (Option Value)} {kV doc pm cdv ct:Value} (l:K.lookup f=some ⟨oc,od,.func (PySem.W.fnOf x qual (defArgs st) (defBody st) (defScope st) .none kV doc pm an cdv ct),osl⟩)
  (c:PySem.W.codeIn K cdv qual=true) (k:PySem.W.keepIn K (.ref f)=true):Fun K x qual st f (PySem.W.fnOf x qual (defArgs st) (defBody st) (defScope st) .none kV doc pm an cdv ct):=⟨⟨oc,od,kV,doc,pm,an,cdv,ct,osl,rfl,l,c⟩,k⟩
end
section
variable {X:Cx}
theorem pv (i:Nat) {x:Str} {pos:Pos} (hN:X.N[i]? = some x:=by rfl) (hv:Vis X.env.scope x:=by first | exact Or.inl rfl | exact Or.inr (Or.inl rfl) | exact Or.inr (Or.inr rfl)) (hd:(x == ("__debug__" : Str))=false:=by decide)
  (hcd:(x == ("__classdict__" : Str))=false:=by decide):PE X (.Name x pos) (qk i):=sH hN hv hd hcd
end
theorem aP {A B:Prop} (h:B):if false=true then A else B:=by
 rw [if_neg Bool.false_ne_true]
 exact h
theorem aX {A B:Prop} (h:A):if true=true then A else B:=by
 rw [if_pos rfl]
 exact h
theorem bQ {c A B:Prop} [Decidable c] (h1:c→A) (h2:¬ c→B):if c then A else B:=by
 by_cases h:c
 ·rw [if_pos h]
  exact h1 h
 ·rw [if_neg h]
  exact h2 h
def Same (H H':Hp):Prop:=∀b o,H b=some o→H' b=some o
theorem Same.refl (H:Hp):Same H H:=fun _ _ h=>h
theorem Same.trans {H H1 H2:Hp} (a:Same H H1) (b:Same H1 H2):Same H H2:=fun c o h=>b c o (a c o h)
theorem Same.free {H H':Hp} (e:Same H H') {l:Addr} (h:H' l=Option.none):H l=Option.none:=by
 cases q:H l with
 | none=>rfl
 | some o =>
  rw [e l o q] at h
  cases h
theorem Same.seq {K:PySem.W.Frag} {H H':Hp} {a:Addr} {xs:List V} (e:Same H H') (h:SqL K H a xs):SqL K H' a xs:=by
 rcases h with (h | ⟨o,h⟩) | h
 ·exact .inl (.inl (e _ _ h))
 ·exact .inl (.inr ⟨o,e _ _ h⟩)
 ·exact .inr h
end L2
set_option Elab.async false
set_option linter.all false
set_option maxRecDepth 100000
namespace L2
open PySem PySem.Spec PyProof.Rows
def bJ (env:Env):List (Str×NameKind)→List (Str×Addr)→List (Str×Addr)
 | [],acc=>acc
 | (n,k) :: r,acc=>bJ env r (if (k == NameKind.free)=true then (n,(env.cells.lookup n).getD 0) :: acc else acc)
theorem cO (env:Env):∀ (names:List (Str×NameKind)) (acc:List (Str×Addr)) (x:Str) (c:Addr),(∀y∈names,y.2=.free→∃c,env.cells.lookup y.1=some c) →
  (∀x c,acc.lookup x=some c→env.cells.lookup x=some c)→(bJ env names acc).lookup x=some c→env.cells.lookup x=some c
 | [],acc,x,c,_,h,e=>h x c e
 | (n,k) :: r,acc,x,c,hf,h,e=>by
  refine cO env r _ x c (fun y hy=>hf y (List.mem_cons_of_mem _ hy)) (fun x c e'=>?_) e
  by_cases hk:(k == NameKind.free)=true
  ·rw [if_pos hk] at e'
   obtain ⟨c0,hc0⟩:=hf (n,k) List.mem_cons_self (by simpa using hk)
   have hc0':env.cells.lookup n=some c0:=hc0
   rw [List.lookup_cons] at e'
   cases hx:x == n with
   | true =>
    rw [hx] at e'
    have:x=n:=by simpa using hx
    subst this
    rw [hc0'] at e' ⊢
    simpa using e'
   | false=>rw [hx] at e'; exact h x c e'
  ·rw [if_neg hk] at e'; exact h x c e'
theorem fL (env:Env):∀ (names:List (Str×NameKind)) (acc:List (Str×Addr)) (x:Str),(∃c,acc.lookup x=some c)→∃c,(bJ env names acc).lookup x=some c
 | [],acc,x,h=>h
 | (n,k) :: r,acc,x,h=>by
  refine fL env r _ x ?_
  by_cases hk:(k == NameKind.free)=true
  ·rw [if_pos hk,List.lookup_cons]
   cases hx:x == n with
   | true=>exact ⟨_,rfl⟩
   | false=>exact h
  ·rw [if_neg hk]; exact h
theorem eY (env:Env):∀ (names:List (Str×NameKind)) (acc:List (Str×Addr)) (x:Str),(x,NameKind.free)∈names→∃c,(bJ env names acc).lookup x=some c
 | [],acc,x,h=>by simp at h
 | (n,k) :: r,acc,x,h=>by
  rcases List.mem_cons.mp h with e | e
  ·have e1:x=n:=congrArg Prod.fst e
   have e2:NameKind.free=k:=congrArg Prod.snd e
   subst e1
   subst e2
   refine fL env r _ x ?_
   rw [if_pos (by simp),List.lookup_cons]
   simp
  ·exact eY env r _ x e
theorem fM {env:Env} {scope:Scope} (hf:∀y∈scope.names,y.2=.free→∃c,env.cells.lookup y.1=some c):closureFor scope env=pure (bJ env scope.names []):=by
 have key:∀ (names:List (Str×NameKind)) (acc:List (Str×Addr)),(∀y∈names,y.2=.free→∃c,env.cells.lookup y.1=some c) →
   (forIn names acc (fun (x:Str×NameKind) (r:List (Str×Addr))=>(if (x.2 == NameKind.free)=true then do
    let a←cellOf env x.1
    pure (ForInStep.yield ((x.1,a) :: r)) else pure (ForInStep.yield r)) ):Sem (List (Str×Addr)))=pure (bJ env names acc):=by
  intro names
  induction names with
  | nil=>intro acc _; rfl
  | cons y r ih =>
   intro acc h
   obtain ⟨n,k⟩:=y
   have ih':=fun acc=>ih acc fun z hz=>h z (List.mem_cons_of_mem _ hz)
   rw [List.forIn_cons]
   by_cases hk:(k == NameKind.free)=true
   ·obtain ⟨c,hc⟩:=h (n,k) List.mem_cons_self (by simpa using hk)
    have hc':env.cells.lookup n=some c:=hc
    have e1:cellOf env n=pure c:=by unfold cellOf; rw [hc']
    have e2:bJ env ((n,k) :: r) acc=bJ env r ((n,c) :: acc):=by
     show bJ env r _=_
     rw [if_pos hk,hc']; rfl
    rw [if_pos hk,e2,← ih']
    show ((cellOf env n >>= fun a=>pure (ForInStep.yield ((n,a) :: acc))) >>= _)=_
    rw [e1]
    rfl
   ·have e2:bJ env ((n,k) :: r) acc=bJ env r acc:=by
     show bJ env r _=_
     rw [if_neg hk]
    rw [if_neg hk,e2,← ih']
    rfl
 have:=key scope.names [] hf
 simp only [closureFor]
 exact (congrArg (fun m=>m >>= fun r=>(pure r:Sem _)) this).trans rfl
theorem hZ {env:Env} {scope:Scope} (hcell:∀y∈scope.names,y.2≠.cell) {x:Str}:((relabel scope env).names.lookup x=some .cell∨(relabel scope env).names.lookup x=some .free)→(x,NameKind.free)∈scope.names:=by
  have key:∀names:List (Str×NameKind),(∀y∈names,y.2≠.cell)→∀k,(names.map fun (n,k)=>if (k == NameKind.free && env.scope.kind == .function && env.kindOf n == some .cell) then (n,NameKind.cell) else (n,k)).lookup x=some k →
      (k=.cell∨k=.free)→(x,NameKind.free)∈names:=by
    intro names
    induction names with
    | nil=>intro _ k h _; simp at h
    | cons y r ih =>
      obtain ⟨n,k'⟩:=y
      intro hc k h hk
      have nc:k'≠.cell:=hc (n,k') List.mem_cons_self
      rw [List.map_cons] at h
      by_cases hb:(k' == NameKind.free && env.scope.kind == .function && env.kindOf n == some .cell)=true
      · have hb':k'=.free:=by simp at hb; exact hb.1.1
        dsimp only at h
        rw [if_pos hb,List.lookup_cons] at h
        cases hx:x == n with
        | true => have : x = n := by simpa using hx
                  subst this; subst hb'; exact List.mem_cons_self
        | false=>rw [hx] at h; exact List.mem_cons_of_mem _ (ih (fun y hy=>hc y (List.mem_cons_of_mem _ hy)) k h hk)
      · dsimp only at h
        rw [if_neg hb,List.lookup_cons] at h
        cases hx:x == n with
        | true =>
          rw [hx] at h
          have:x=n:=by simpa using hx
          subst this
          have e:k'=k:=by simpa using h
          rcases hk with q | q
          · exact absurd (e.trans q) nc
          · rw [e,q]; exact List.mem_cons_self
        | false=>rw [hx] at h; exact List.mem_cons_of_mem _ (ih (fun y hy=>hc y (List.mem_cons_of_mem _ hy)) k h hk)
  rintro (h | h)
  · exact key _ hcell _ h (.inl rfl)
  · exact key _ hcell _ h (.inr rfl)
def bM (X:Cx) (pins:List (Addr×Obj)) (s2:Shared) (H2:Hp) (scope:Scope) (C:Addr) (N':List Str) (fp:List Addr):Cx where
 prog:=X.prog
 w:=X.w
 K:=X.K
 mg:=X.mg
 base:=X.base
 A:=X.A
 N:=N'
 s₀:=s2
 H₀:=H2
 env:=compEnvC scope (bJ X.env scope.names []) C X.env
 outer:=X.stack
 stack:=X.stack
 ex:=fp
 fn:=fun _=>false
 calm:=X.calm
 pn:=X.pn ++ pins
 xe:=fun _ _=>False
def bT (σ:St) (cap:List Nat) (k:Nat):St:=List.replicate k none ++ cap.map fun j=>(σ[j]?).join
def leS (σ σ':St):Prop:=σ'.length=σ.length∧∀ (i:Nat) v,σ[i]? = some (some v)→σ'[i]? = some (some v)
theorem leS.set {σ:St} {i:Nat} {v:V} (h:σ[i]? = some none):leS σ (σ.set i (some v)):=by
 refine ⟨by simp,fun j w e=>?_⟩
 by_cases hj:j=i
 ·subst hj; rw [h] at e; cases e
 ·rw [List.getElem?_set_ne (Ne.symm hj)]; exact e
structure CompOk (X:Cx) (scope:Scope) (own:List Str) (cs:List Str) (cap:List Nat):Prop where
 kind:scope.kind=.function
 cell:∀y∈scope.names,y.2≠.cell
 names:∀y∈scope.names,y.2=.local→scope.names.lookup y.1=some .local
 free:∀y∈scope.names,y.2=.free→X.env.kindOf y.1=some .cell∨X.env.kindOf y.1=some .free
 caps:∀ (i:Nat) y,cs[i]? = some y→∃j,cap[i]? = some j∧X.N[j]? = some y∧(y,NameKind.free)∈scope.names
 ownl:∀y∈own,scope.names.lookup y=some .local
 len:cs.length=cap.length
 free2:∀y,(y,NameKind.free)∈scope.names→scope.names.lookup y=some .local→False
def oj (X:Cx) (ifs:List Expr) (tt:TT):Prop :=
 ∀ (pins:List (Addr×Obj)) (s:Shared) (σ:St) (H:Hp) (Q:Bool→Hp→Prop),Inv X pins σ H s→tt σ H Q →
  wpAny (model X.prog X.w) X.A (forIn ifs true fun c r=>if r=true then do let ok←isTrue c X.env (eval c X.env); pure (ForInStep.yield ok) else pure (ForInStep.yield r)) (TP X pins σ Q) X.xe s
def xt:TT:=fun _ H Q=>Q true H
theorem bU {X:Cx}:oj X [] xt:=fun _ _ _ H _ I h=>wpAny_tests_nil ⟨H,I,h⟩
theorem iN {X:Cx} {c:Expr} {tt:TT} (h:PT X c tt):oj X [c] tt:=fun pins s σ H Q I q=>wpAny_tests_one (h pins s σ H Q I q)
def iO (σ:St) (cap:List Nat) (k:Nat) (J:It) (g:TG) (tt:TT) (te:TE) (Q:List V→Hp→Prop) (W:Nat→Nat→List V→Hp→Prop):Prop :=
 ∀i m ys H,W i m ys H→(J.stop i H∧ys.length≤sizeLine∧Q ys H) ∨
  (J.go i H∧ys.length < sizeLine∧∀x H',J.yld i H x H'→g x (bT σ cap k) H' fun σ2 H2=>leS (bT σ cap k) σ2∧tt σ2 H2 fun ok H3 =>
   if ok=true then te σ2 H3 (fun v H4=>∃m',m' < m∧W (i + 1) m' (ys ++ [v]) H4) else ∃m',m' < m∧W (i + 1) m' ys H3)
theorem HOk.but {P:Program} {w:World} {H:Hp} {h h':Heap} {C:Addr} (x:HOk P w H h) (n:H C=none) (k:Heap.SameBut C h h'):HOk P w H h':=fun b ob e=>by
 refine (x b ob e).stay (fun c w' hc q=>(k.2 c ?_).trans q) (fun _ q=>q) fun _ _ q=>q
 rintro rfl
 rcases hc with rfl | hc
 ·rw [n] at e; cases e
 ·rw [n] at hc; cases hc
theorem HOk.add {P:Program} {w:World} {H:Hp} {h:Heap} {a:Addr} {o:HO} (x:HOk P w H h) (n:H a=none) (new:ObjOk P w (upd H a o) h a o):HOk P w (upd H a o) h:=fun b u e=>by
 by_cases hb:b=a
 ·subst hb; rw [ag] at e; cases e; exact new
 ·rw [au hb] at e
  exact (x b u e).stay (fun c v _ q=>q) (fun c q=>by rw [au (ai q n)]; exact q) fun c xs q=>by rw [au (ai q n)]; exact q
section
variable {X:Cx} {pins:List (Addr×Obj)} {σ:St} {H2:Hp} {s2:Shared} {scope:Scope} {own cs:List Str} {cap:List Nat} {fp:List Addr}
theorem ml {h1:Heap} {C:Addr} {tk:Nat} (I:Inv X pins σ H2 s2) (ok:CompOk X scope own cs cap) (hf:∀b∈fp,dS X pins H2 b) (hfl:∀b∈fp,b < s2.heap.objs.size)
  (hC:s2.heap.objs.size≤C) (hns:h1.Ns C (fun _=>none)) (old:∀b o,s2.heap.get? b=some o→h1.get? b=some o) :
  Inv (bM X pins s2 H2 scope C (own ++ cs) fp) [] (bT σ cap own.length) H2 { s2 with heap:=h1,toks:=tk }:=by
 have hfr:∀y∈scope.names,y.2=.free→∃c,X.env.cells.lookup y.1=some c:=fun y hy e=>I.ok.has y.1 (ok.free y hy e)
 have sub:∀x c,(bJ X.env scope.names []).lookup x=some c→X.env.cells.lookup x=some c:=fun x c e=>cO X.env scope.names [] x c hfr (fun _ _ z=>by simp at z) e
 have clt:∀x c,(bJ X.env scope.names []).lookup x=some c→c < s2.heap.objs.size:=fun x c e=>by
  obtain ⟨v,o,ho,_⟩:=I.cell x c (sub x c e)
  exact Heap.lt_size ho
 refine ⟨⟨I.ok.mod,ok.kind,I.ok.glob,I.ok.blt,hC,fun y z c h1 h2=>I.ok.inj y z c (sub y c h1) (sub z c h2),fun y hy=>?_,fun y c z=>?_,I.ok.hd,I.ok.frames,.inl rfl,fun b hb=>?_,I.bs,Nat.le_trans I.ok.bsz I.sz,fun b o e hb=>?_,fun b hb z=>?_,I.stack,I.stkFree⟩,
  rfl,I.bare,Un.kept old,⟨_,hns,fun i y v e1 e2 e3=>?_⟩,fun y c e=>?_,I.hok.fresh hC,fun y c e=>I.freeC y c (sub y c e),fun p hp=>?_,I.hok.kept old,?_⟩
 ·have hm:=hZ ok.cell hy
  exact eY X.env scope.names [] y hm
 ·exact absurd (show false=true from z) Bool.false_ne_true
 ·exact ⟨Nat.ne_of_lt (Nat.lt_of_lt_of_le (hfl b hb) hC),fun x c e=>(hf b hb).2.2.2.2.1 x c (sub x c e)⟩
 ·rcases (hf b hb).2.2.2.1 with z | z
  ·exact I.ok.noex b o e z
  ·exact absurd (Nat.lt_of_lt_of_le (Heap.lt_size (I.ok.bs b o e).1) z) (Nat.lt_irrefl _)
 ·rcases List.mem_cons.mp (I.stkSub b z) with q | q
  ·exact (hf b hb).2.1 q
  ·exact (hf b hb).2.2.1 q
 ·have hi:own.length≤i:=by
   refine Nat.le_of_not_lt fun q=>?_
   unfold bT at e2
   rw [List.getElem?_append_left (by simpa using q),List.getElem?_replicate] at e2
   split at e2 <;> cases e2
  have e1':cs[i - own.length]? = some y:=by
   have e1:(own ++ cs)[i]? = some y:=e1
   rwa [List.getElem?_append_right hi] at e1
  obtain ⟨j,hj,hN,hm⟩:=ok.caps _ y e1'
  have hk:=ok.free _ hm rfl
  have e2':σ[j]? = some (some v):=by
   unfold bT at e2
   rw [List.getElem?_append_right (by simpa using hi),List.length_replicate,List.getElem?_map,hj] at e2
   have e2:(σ[j]?).join=some v:=by simpa using e2
   cases q:σ[j]? with
   | none=>rw [q] at e2; cases e2
   | some w=>rw [q] at e2; have:w=some v:=e2; rw [this]
  obtain ⟨m,hn,hl⟩:=I.loc
  obtain ⟨u,ru,l⟩:=hl j y v hN e2' (by rcases hk with q | q; exact .inr (.inl q); exact .inr (.inr q))
  refine ⟨u,ru,.inr ?_⟩
  obtain ⟨c,hc⟩:=eY X.env scope.names [] y hm
  have hc':=sub y c hc
  have cellu:h1.IsCell c (some u):=by
   rcases l with ⟨k,_⟩ | ⟨k,c',e,o,ho,hd⟩
   ·rcases hk with q | q <;> (have z:X.env.kindOf y=_:=q; rw [k] at z; cases z)
   ·rw [hc'] at e; cases e
    exact ⟨o,old _ _ ho,hd⟩
  refine ⟨?_,c,hc,cellu⟩
  rcases e3 with z | z | z
  ·exfalso
   have key:∀names:List (Str×NameKind),True:=fun _=>trivial
   have z:(relabel scope X.env).names.lookup y=some .local:=z
   have zz:scope.names.lookup y=some .local:=by
    unfold relabel at z
    dsimp only at z
    revert z
    generalize scope.names=names
    induction names with
    | nil=>intro z; simp at z
    | cons q r ih =>
     obtain ⟨n,k⟩:=q
     intro z
     rw [List.map_cons] at z
     by_cases hb:(k == NameKind.free && X.env.scope.kind == .function && X.env.kindOf n == some .cell)=true
     ·dsimp only at z
      rw [if_pos hb,List.lookup_cons] at z
      rw [List.lookup_cons]
      cases hx:y == n with
      | true=>rw [hx] at z; cases z
      | false=>rw [hx] at z; exact ih z
     ·dsimp only at z
      rw [if_neg hb,List.lookup_cons] at z
      rw [List.lookup_cons]
      cases hx:y == n with
      | true=>rw [hx] at z; exact z
      | false=>rw [hx] at z; exact ih z
   have:=ok.free2 y hm zz
   exact this
  ·exact .inl z
  ·exact .inr z
 ·obtain ⟨v,o,ho,hd⟩:=I.cell y c (sub y c e)
  exact ⟨v,o,old _ _ ho,hd⟩
 ·have hp':p∈X.pn ++ pins:=by
   have:p∈(X.pn ++ pins) ++ []:=hp
   simpa using this
  obtain ⟨e,n,ne,nf,d⟩:=I.pin p hp'
  refine ⟨old _ _ e,n,Nat.ne_of_lt (Nat.lt_of_lt_of_le (Heap.lt_size e) hC),fun z=>?_,d⟩
  rcases List.mem_cons.mp (I.stkSub p.1 z) with q | q
  ·exact ne q
  ·exact nf q
 ·show (bT σ cap own.length).length=(own ++ cs).length
  unfold bT
  rw [List.length_append,List.length_replicate,List.length_map,List.length_append,ok.len]
end
end L2
set_option Elab.async false
set_option linter.all false
set_option maxRecDepth 100000
namespace L2
open PySem PySem.Spec PyProof.Rows
section
variable {X:Cx} {pins:List (Addr×Obj)} {σ:St} {H2:Hp} {s2:Shared} {scope:Scope} {own cs:List Str} {cap:List Nat} {fp:List Addr} {it:Addr} {tn:Nat→Heap→Prop}
 {elt tg iter:Expr} {ifs:List Expr} {pos:Pos} {J:It} {g:TG} {tt:TT} {te:TE} {E:Value→Shared→Prop} {W:Nat→Nat→List V→Hp→Prop} {Qf:List V→Hp→Prop}
structure BlkEnd (X:Cx) (pins:List (Addr×Obj)) (σ:St) (Qf:List V→Hp→Prop) (D C:Addr) (s':Shared):Prop where
 ex:∃ (ys:List V) (H':Hp),H' D=none∧Qf ys H'∧Inv X pins σ (upd H' D (.lst ys)) s'∧dS X pins (upd H' D (.lst ys)) C
 ns:∃m,s'.heap.Ns C m
theorem Inv.bareP {pins':List (Addr×Obj)} {H:Hp} {s:Shared} (I:Inv X pins' σ H s):Inv X [] σ H s:=I.pins_of fun p hp=>absurd hp (by simp)
theorem iP {RR:Value→Addr→Result→Shared→Prop} (I:Inv X pins σ H2 s2) (ok:CompOk X scope own cs cap) (hc:X.calm=true) (T:Turn X.prog X.w X.K tg J fp it tn) (st:tn 0 s2.heap) (hf:∀b∈fp,dS X pins H2 b)
  (hg:∀C,PG (bM X pins s2 H2 scope C (own ++ cs) fp) tg g) (hi:∀C,oj (bM X pins s2 H2 scope C (own ++ cs) fp) ifs tt) (he:∀C,PE (bM X pins s2 H2 scope C (own ++ cs) fp) elt te)
  (w0:∃m,W 0 m [] H2) (turn:iO σ cap own.length J g tt te Qf W)
  (hRR:∀D C s',BlkEnd X pins σ Qf D C s'→RR (.ref D) C (.ok .next) s') :
  wpAny (model X.prog X.w) X.A (newList []) (fun acc s₃=>wpAny (model X.prog X.w) X.A (newFunctionEnv scope X.env.globals (bJ X.env scope.names []) [] X.env.qual none .none (some X.env)) (fun cenv s₄ =>
   codeAny (model X.prog X.w) X.A (.compStart (.ListComp elt [⟨tg,iter,ifs,0⟩] scope pos) 0 (.ref it) acc { cenv with scope:=relabel scope X.env }) (RR acc cenv.locals) s₄) E s₃) E s2:=by
 refine wpAny_newObj_type (wpAny_newFunctionEnv ok.cell (by intro y hy; simp at hy) (fun h₁ hns₁ hsb₁=>?_) ok.kind)
 dsimp only at hns₁ hsb₁ ⊢
 generalize hHH:s2.heap.push { cls:=.type "list",dict:=none,data:=.seq ([]:List Value).toArray }=HH at hns₁ hsb₁ ⊢
 have hCs:HH.objs.size=s2.heap.objs.size + 1:=by rw [← hHH,Heap.size_push]
 have hDC:s2.heap.objs.size≠HH.objs.size:=by rw [hCs]; exact Nat.ne_of_lt (Nat.lt_succ_self _)
 have hCle:s2.heap.objs.size≤HH.objs.size:=by rw [hCs]; exact Nat.le_succ _
 have hfl:∀b∈fp,b < s2.heap.objs.size:=fun b hb=>by
  obtain ⟨o,e,_⟩:=T.obj 0 _ st b hb
  exact Heap.lt_size e
 have old:∀b o,s2.heap.get? b=some o→h₁.get? b=some o:=fun b o e=>hsb₁.extBut b o (by rw [hCs]; exact Nat.ne_of_lt (Nat.lt_succ_of_lt (Heap.lt_size e))) (Heap.get?_push_of_some _ (hHH ▸ Heap.get?_push_of_some _ e))
 have hacc:h₁.PlainList s2.heap.objs.size #[]:=⟨_,hsb₁.extBut _ _ hDC (Heap.get?_push_of_some _ (hHH ▸ Heap.get?_push_size _ rfl))⟩
 generalize hD:s2.heap.objs.size=D at *
 generalize hCC:HH.objs.size=C at *
 have hns₁':h₁.Ns C (fun _=>none):=hns₁
 have I0:Inv (bM X pins s2 H2 scope C (own ++ cs) fp) [] (bT σ cap own.length) H2 { s2 with heap:=h₁,toks:=s2.toks + ([]:List (Str×Value)).length } :=
  ml I ok hf (fun b hb=>by rw [hD]; exact hfl b hb) (by rw [hD]; exact hCle) hns₁' old
 have Dfs:D∉frs X.stack:=fun hb=>by
  obtain ⟨_,o,ho,_⟩:=I.stack.mem hb
  exact absurd (Heap.lt_size ho) (by rw [hD]; exact Nat.lt_irrefl _)
 have Dfp:∀b∈fp,D≠b:=fun b hb z=>absurd (hfl b hb) (by rw [← z]; exact Nat.lt_irrefl _)
 have clt:∀x c,(bJ X.env scope.names []).lookup x=some c→c < D:=fun x c e=>by
  have e':=cO X.env scope.names [] x c (fun y hy e=>I.ok.has y.1 (ok.free y hy e)) (fun _ _ z=>by simp at z) e
  obtain ⟨v,o,ho,_⟩:=I.cell x c e'
  have:=Heap.lt_size ho
  rw [hD] at this; exact this
 have plt:∀p∈X.pn ++ pins,p.1 < D:=fun p hp=>by
  have:=Heap.lt_size (I.pin p hp).1
  rw [hD] at this; exact this
 have stat:∀ {H':Hp} {ob:Obj},(∀b∈fp,H' b=none)→∀b∈fp,dS (bM X pins s2 H2 scope C (own ++ cs) fp) [(D,ob)] H' b:=fun {H' ob} hn b hb=>by
  have q:=I0.ok.exf b hb
  refine ⟨hn b hb,q.1,I0.ok.exfs b hb,.inl hb,q.2,fun p hp=>?_⟩
  rcases List.mem_append.mp hp with z | z
  ·exact (hf b hb).2.2.2.2.2 p z
  ·have:p=(D,ob):=by simpa using z
   subst this
   exact Dfp b hb
 have loop:codeAny (model X.prog X.w) X.A (.compLoop (.ListComp elt [⟨tg,iter,ifs,0⟩] scope pos) 0 (.ref it) (.ref D) (compEnvC scope (bJ X.env scope.names []) C X.env)) (RR (.ref D) C)
   { s2 with heap:=h₁,toks:=s2.toks + ([]:List (Str×Value)).length }:=by
  obtain ⟨m0,w0⟩:=w0
  refine codeAny_loop rfl (fun n s'=>∃i H' its ys,Inv (bM X pins s2 H2 scope C (own ++ cs) fp) [] (bT σ cap own.length) H' s'∧tn i s'.heap∧(∀b∈fp,H' b=none)∧s'.heap.PlainList D its.toArray∧Vals ys its∧H' D=none∧W i n ys H') ?_ m0
   ⟨0,H2,[],[],I0,T.keep 0 _ _ st fun b _ o e=>old b o e,fun b hb=>(hf b hb).1,hacc,.nil,I.hok.fresh (by rw [hD]; exact Nat.le_refl _),w0⟩
  rintro n s3 ⟨i,H3,its,ys,I3,st3,fr3,⟨nn,pl3⟩,rv3,hD3,w3⟩
  show wpAny _ X.A ((compTurn (.ListComp elt [⟨tg,iter,ifs,0⟩] scope pos) 0 (.ref it) (.ref D) (compEnvC scope (bJ X.env scope.names []) C X.env)).onRaise (fun x=>do noteFrame x (compEnvC scope (bJ X.env scope.names []) C X.env); theTreesLotGoes x)) _ _ s3
  refine wpAny_noted ?_
  rw [compTurn_list]
  refine wpAny_bind (wpAny_standAt (wpAny_bind ?_))
  have I3':Inv (bM X pins s2 H2 scope C (own ++ cs) fp) [(D, { cls:=.type "list", data:=.seq its.toArray nn })] (bT σ cap own.length) H3 s3 :=
   I3.pins_of fun p hp=>by
    have:p=(D,{ cls:=.type "list",data:=.seq its.toArray nn }):=by simpa using hp
    subst this
    exact ⟨pl3,hD3,hDC,Dfs,fun v z=>by cases z⟩
  rcases turn i n ys H3 w3 with ⟨stop,hz,qf⟩ | ⟨go,hz,step⟩
  ·refine thn (T.done (bM X pins s2 H2 scope C (own ++ cs) fp) rfl rfl rfl hc i _ s3 _ H3 _ I3' (stat fr3) st3 stop) fun r s4 ⟨hr,I4⟩=>?_
   subst hr
   refine wpAny_pure (hRR D C s4 ⟨⟨ys,H3,hD3,qf,?_,?_⟩,?_⟩)
   ·have pl4:=(I4.pin (D,_) (List.mem_append_right _ (List.mem_singleton.mpr rfl))).1
    have u4:=I4.base
    have Ds2:s2.heap.get? D=none:=Heap.get?_none_of_le (by rw [hD]; exact Nat.le_refl _)
    refine I.call' (s':=s4) (ch:=fp) I4.os ⟨u4.keep,u4.slot,fun b o e n hx=>?_,u4.there,fun b xs e=>?_,fun b o u e=>?_,fun b ps e=>?_⟩ ?_ I4.bare fun b hb=>⟨(hf b hb).2.2.2.1,(hf b hb).2.1,(hf b hb).2.2.2.2.1,(hf b hb).2.2.2.2.2⟩
    ·rw [au (fun z=>by rw [z,Ds2] at e; cases e)]
     exact u4.free b o e n hx
    ·have:=u4.tups b xs e
     rw [au (ai this hD3)]; exact this
    ·have:=u4.frzs b o u e
     rw [au (ai this hD3)]; exact this
    ·obtain ⟨more,e'⟩:=u4.tbls b ps e
     exact ⟨more,by rw [au (ai e' hD3)]; exact e'⟩
    ·exact I4.hok.add hD3 ⟨hz,its,nn,rv3,pl4⟩
   ·have CH:(upd H3 D (.lst ys)) C=none:=by rw [au (Ne.symm hDC)]; exact I4.free
    exact I.fpOk (H':=upd H3 D (.lst ys)) (by rw [hD]; exact hCle) CH
   ·obtain ⟨m,hn,_⟩:=I4.loc
    exact ⟨m,hn⟩
  ·refine thn (T.item (bM X pins s2 H2 scope C (own ++ cs) fp) rfl rfl rfl hc i _ s3 _ H3 _ I3' (stat fr3) st3 go) fun r s4 ⟨u,hr,h4⟩=>?_
   subst hr
   refine wpAny_bind (thn h4 fun _ s5 ⟨x,H5,I5,r5,y5,st5,fr5⟩=>?_)
   have I5':=I5.pinned (stat fr5) (T.obj _ _ st5)
   refine wpAny_bind (wpAny_mono (hg C _ s5 _ H5 x u _ I5' r5 (step x H5 y5)) (fun _ s6 ⟨σ6,H6,I6,le6,q6⟩=>?_) fun _ _ z=>False.elim z)
   refine wpAny_bind (wpAny_mono (hi C _ s6 σ6 H6 _ I6 q6) (fun b s7 ⟨H7,I7,q7⟩=>?_) fun _ _ z=>False.elim z)
   have back:∀ {pins':List (Addr×Obj)} {H8:Hp} {s8:Shared},Inv (bM X pins s2 H2 scope C (own ++ cs) fp) pins' σ6 H8 s8→Inv (bM X pins s2 H2 scope C (own ++ cs) fp) [] (bT σ cap own.length) H8 s8:=fun I8 =>
    I8.bareP.weak le6.1.symm fun i v e=>le6.2 i v e
   cases b with
   | false =>
    rw [if_neg Bool.false_ne_true] at q7
    obtain ⟨m',hm,w7⟩:=q7
    refine wpAny_pure ⟨rfl,m',hm,i + 1,H7,its,ys,back I7,T.keep _ _ _ st5 fun b hb o e=>?_,fun b hb=>?_,⟨nn,?_⟩,rv3,?_,w7⟩
    ·exact (I7.pin (b,o) (List.mem_append_right _ (List.mem_append_right _ (bN hb e)))).1
    ·obtain ⟨o,e,d⟩:=T.obj _ _ st5 b hb
     exact (I7.pin (b,o) (List.mem_append_right _ (List.mem_append_right _ (bN hb e)))).2.1
    ·exact (I7.pin (D,_) (List.mem_append_right _ (List.mem_append_left _ (List.mem_singleton.mpr rfl)))).1
    ·exact (I7.pin (D,_) (List.mem_append_right _ (List.mem_append_left _ (List.mem_singleton.mpr rfl)))).2.1
   | true =>
    rw [if_pos rfl] at q7
    refine wpAny_bind (wpAny_bind (wpAny_mono (he C _ s7 σ6 H7 _ I7 q7) (fun y s8 ⟨v,H8,I8,r8,m',hm,w8⟩=>?_) fun _ _ z=>False.elim z))
    have pD:=I8.pin (D,{ cls:=.type "list",data:=.seq its.toArray nn }) (List.mem_append_right _ (List.mem_append_left _ (List.mem_singleton.mpr rfl)))
    have hlen:=rv3.length
    refine wpAny_bind (wpAny_list_append_plain (hsz:=by rw [List.size_toArray]; omega) ⟨nn,pD.1⟩ fun h9 pl9 sb9=>wpAny_pure (wpAny_pure ?_))
    have I8':=back I8
    refine ⟨rfl,m',hm,i + 1,H8,its ++ [y],ys ++ [v],?_,T.keep _ _ _ st5 fun b hb o e=>?_,fun b hb=>?_,?_,rv3.append (.cons r8 .nil),pD.2.1,w8⟩
    ·exact I8'.turned (t':=s8.toks) (fun b o hb e=>sb9.extBut b o hb e) pD.2.1 hDC (.inr (by show s2.heap.objs.size≤D; rw [hD]; exact Nat.le_refl _)) (fun x c e=>Nat.ne_of_lt (clt x c e)) fun p hp=>by
      have hp':p∈X.pn ++ pins:=by
       have:p∈(X.pn ++ pins) ++ []:=hp
       simpa using this
      exact Nat.ne_of_lt (plt p hp')
    ·exact sb9.extBut b o (Ne.symm (Dfp b hb)) (I8.pin (b,o) (List.mem_append_right _ (List.mem_append_right _ (bN hb e)))).1
    ·obtain ⟨o,e,d⟩:=T.obj _ _ st5 b hb
     exact (I8.pin (b,o) (List.mem_append_right _ (List.mem_append_right _ (bN hb e)))).2.1
    ·have e:its.toArray.push y=(its ++ [y]).toArray:=by simp
     rw [← e]; exact pl9
 exact codeAny_compStart_list loop (T.self _ 0 _ _ _ (T.keep 0 _ _ st fun b _ o e=>old b o e) loop)
def om (wi:TI) (cap:List Nat) (k:Nat) (g:TG) (tt:TT) (te:TE):TE:=fun σ H Q=>wi σ H fun J H1 =>
 ∃W:Nat→Nat→List V→Hp→Prop,(∃m,W 0 m [] H1)∧iO σ cap k J g tt te (fun ys H'=>∀p,H' p=none→Q (.ref p) (upd H' p (.lst ys))) W
theorem du {wi:TI} (hc:X.calm=true) (hit:PI X tg iter wi) (ok:CompOk X scope own cs cap)
  (hg:∀pins s2 H2 C fp,PG (bM X pins s2 H2 scope C (own ++ cs) fp) tg g) (hi:∀pins s2 H2 C fp,oj (bM X pins s2 H2 scope C (own ++ cs) fp) ifs tt) (he:∀pins s2 H2 C fp,PE (bM X pins s2 H2 scope C (own ++ cs) fp) elt te)
  (hs:∀x,foldedSetIterable iter X.env x=pure x:=by intro _; rfl):PE X (.ListComp elt [⟨tg,iter,ifs,0⟩] scope pos) (om wi cap own.length g tt te):=by
 intro pins s σ H Q I h
 rw [eval_ListComp]
 refine wpAny_comprehension_free (use:=none) rfl hs (fM fun y hy e=>I.ok.has y.1 (ok.free y hy e)) ok.kind ok.names (thn (hit pins s σ H _ I h) fun v s1 h1=>thn h1 fun itv s2 h2=>?_)
 obtain ⟨it,fp,tn,J,H2,e,I2,T,st2,f2,W,w0,turn⟩:=h2
 subst e
 refine iP (RR:=fun acc C=>compPost (model X.prog X.w) X.A X.xe none (EP X pins σ Q) acc C) I2 ok hc T st2 f2 (fun C=>hg _ _ _ _ _) (fun C=>hi _ _ _ _ _) (fun C=>he _ _ _ _ _) w0 turn fun D C s' B=>?_
 obtain ⟨⟨ys,H',hD,q,I',fp'⟩,m,hn⟩:=B
 obtain ⟨f0,f1,f2',f3,f4,f5⟩:=fp'
 exact ⟨m,hn,fun h' sb=>⟨.ref D,_,I'.turned (t':=s'.toks) (fun b o hb e=>sb.extBut b o hb e) f0 f1 f3 f4 f5,rfl,q D hD⟩⟩
theorem fA {wi:TI} {i:Nat} {y:Str} {py spos:Pos} (hc:X.calm=true) (hN:X.N.Nodup) (hiy:X.N[i]? = some y) (hy:X.env.scope.names.lookup y=some .local)
  (hsw:swapsWith (.ListComp elt [⟨tg,iter,ifs,0⟩] scope pos) (some (.Name y py)) spos.line X.env=pure true) (hit:PI X tg iter wi) (ok:CompOk X scope own cs cap)
  (hg:∀pins s2 H2 C fp,PG (bM X pins s2 H2 scope C (own ++ cs) fp) tg g) (hi:∀pins s2 H2 C fp,oj (bM X pins s2 H2 scope C (own ++ cs) fp) ifs tt) (he:∀pins s2 H2 C fp,PE (bM X pins s2 H2 scope C (own ++ cs) fp) elt te)
  (hs:∀x,foldedSetIterable iter X.env x=pure x:=by intro _; rfl):PS X (.Assign [.Name y py] (.ListComp elt [⟨tg,iter,ifs,0⟩] scope pos) spos) (sJ (om wi cap own.length g tt te) (iH i)):=by
 intro pins s σ H D0 I h
 rw [exec_Assign_Name_used _ _ _ _ hsw]
 refine wpAny_bind (wpAny_standAt (wpAny_bind ?_))
 show wpAny _ X.A (do let _←comprehension (.ListComp elt [⟨tg,iter,ifs,0⟩] scope pos) scope X.env _ (newList []) false (eval iter X.env) (some (assign (.Name y py) X.env))) _ _ s
 refine wpAny_bind (wpAny_mono (wpAny_comprehension_free (use:=some (assign (.Name y py) X.env)) (Q:=fun _ s'=>SP X pins D0 .next s') rfl hs (fM fun y hy e=>I.ok.has y.1 (ok.free y hy e)) ok.kind ok.names
  (thn (hit pins s σ H _ I h) fun v s1 h1=>thn h1 fun itv s2 h2=>?_)) (fun _ s' hq=>wpAny_pure (wpAny_pure hq)) fun _ _ e=>e)
 obtain ⟨it,fp,tn,J,H2,e,I2,T,st2,f2,W,w0,turn⟩:=h2
 subst e
 refine iP (RR:=fun acc C=>compPost (model X.prog X.w) X.A X.xe (some (assign (.Name y py) X.env)) (fun _ s'=>SP X pins D0 .next s') acc C) I2 ok hc T st2 f2 (fun C=>hg _ _ _ _ _) (fun C=>hi _ _ _ _ _) (fun C=>he _ _ _ _ _) w0 turn fun D C s' B=>?_
 obtain ⟨⟨ys,H',hD,q,I',fp'⟩,m,hn⟩:=B
 obtain ⟨f0,f1,f2',f3,f4,f5⟩:=fp'
 show wpAny _ X.A (assign (.Name y py) X.env (.ref D)) _ _ _
 refine wpAny_assign_Name (gD I' hN hiy (.inl hy) (v:=.ref D) rfl (fun s3 I3 ⟨a,sb,ha⟩=>?_) (.inr hy))
 have hCa:C≠a:=by
  rcases ha with z | z
  ·rw [z]; exact f1
  ·exact fun q=>f4 y a z q.symm
 refine ⟨m,hn.sameBut sb hCa,fun h' sb'=>⟨_,_,I3.turned (t':=s3.toks) (fun b o hb e=>sb'.extBut b o hb e) f0 f1 f3 f4 f5,q D hD⟩⟩
end
end L2
set_option Elab.async false
set_option linter.all false
set_option maxRecDepth 100000
namespace L2
open PySem PySem.Spec PyProof.Rows
def CDivB (i j:Int):Prop:=0 < j∧j≤10 ^ 60
theorem CDivB.np {i j:Int} (h:CDivB i j):Builtin.divisionGoesByPylong i j=false:=by
 refine PyProof.noPylong_of_log2 ?_
 have h1:j.natAbs < 2 ^ 200:=by
  obtain ⟨a,b⟩:=h
  omega
 have h2:j.natAbs.log2 < 200:=(Nat.log2_lt (by have:=h.1; omega)).mpr h1
 omega
section
variable {X:Cx}
theorem iQ:OpR X (binaryOp .FloorDiv) (rI CDivB fun i j=>.int (i / j)):=opI fun i j _ _ _ _ _ hc q=>by
 refine floordiv_int (by have:=hc.1; omega) ?_ (.inl hc.np)
 rw [Int.fdiv_eq_ediv_of_nonneg _ (by have:=hc.1; omega)]
 exact q
theorem Inv.kitx {pins:List (Addr×Obj)} {σ:St} {H:Hp} {s:Shared} {x:V} {u t:Value} (I:Inv X pins σ H s) (rx:RelV x u) (ty:TyOf X.K H x t) :
  ∃P:Heap→Prop,PySem.W.KitX X.K u t P∧P s.heap∧u≠.builtin "__main__.__loader__#opaque" := by
 cases ty with
 | non=>cases (show u=Value.none from rx); exact ⟨_,PySem.W.kitx_none,True.intro,fun z=>nomatch z⟩
 | bl y=>cases (show u=Value.bool y from rx); exact ⟨_,PySem.W.kitx_bool,True.intro,fun z=>nomatch z⟩
 | int i=>obtain ⟨t,q⟩:=(show ∃t,u=Value.int i t from rx); cases q; exact ⟨_,PySem.W.kitx_int,True.intro,fun z=>nomatch z⟩
 | str y=>obtain ⟨t,q⟩:=(show ∃t,u=Value.str y t from rx); cases q; exact ⟨_,PySem.W.kitx_str,True.intro,fun z=>nomatch z⟩
 | flt y=>obtain ⟨t,q⟩:=(show ∃t,u=Value.float y t from rx); cases q; exact ⟨_,PySem.W.kitx_float,True.intro,fun z=>nomatch z⟩
 | @lst a xs ea =>
  cases (show u=Value.ref a from rx)
  obtain ⟨_,_,n,_,h1⟩:=(show ObjOk X.prog X.w H s.heap a (.lst xs) from I.hok a _ ea)
  exact ⟨_,PySem.W.kitx_list,⟨_,h1,rfl⟩,fun z=>nomatch z⟩
 | @frz a ob xs ea =>
  cases (show u=Value.ref a from rx)
  obtain ⟨_,_,_,n,_,h1⟩:=(show ObjOk X.prog X.w H s.heap a (.frz ob (.lst xs)) from I.hok a _ ea)
  exact ⟨_,PySem.W.kitx_list,⟨_,h1,rfl⟩,fun z=>nomatch z⟩
 | @tup a xs ea =>
  cases (show u=Value.ref a from rx)
  obtain ⟨_,_,_,p⟩:=(show ObjOk X.prog X.w H s.heap a (.tup xs) from I.hok a _ ea)
  obtain ⟨o,h1,h2,_⟩:=p
  exact ⟨_,PySem.W.kitx_tuple,⟨o,h1,h2⟩,fun z=>nomatch z⟩
 | @dK a kvs ea =>
  cases (show u=Value.ref a from rx)
  obtain ⟨_,_,vs,_,p⟩:=(show ObjOk X.prog X.w H s.heap a (.dK kvs) from I.hok a _ ea)
  obtain ⟨o,es,ep,h1,h2,_⟩:=p
  exact ⟨_,PySem.W.kitx_dict,⟨o,h1,h2.1⟩,fun z=>nomatch z⟩
 | @dT a kvs ea =>
  cases (show u=Value.ref a from rx)
  obtain ⟨_,_,xs,_,o,es,ep,h1,h2,_⟩:=(show ObjOk X.prog X.w H s.heap a (.dT kvs) from I.hok a _ ea)
  exact ⟨_,PySem.W.kitx_dict,⟨o,h1,h2.1⟩,fun z=>nomatch z⟩
 | @ins a C dx fs ea cl ha hn htk hm =>
  cases (show u=Value.ref a from rx)
  obtain ⟨mA,O,_⟩:=dX I.hok ea
  obtain ⟨od,J,_⟩:=O.look
  exact ⟨_,PySem.W.kitx_own (cl.get _) cl.hd ha hn htk hm,J,fun z=>nomatch z⟩
def clV:V→Option Value
 | .ty T=>some (.type T)
 | .ref C=>some (.ref C)
 | _=>none
theorem clV.rel {v:V} {u c:Value} (e:clV v=some c) (r:RelV v u):u=c:=by
 cases v with
 | ty T=>have e':Value.type T=c:=Option.some.inj e; rw [← e']; exact r
 | ref C=>have e':Value.ref C=c:=Option.some.inj e; rw [← e']; exact r
 | _=>cases e
def clVs:List V→Option (List Value)
 | []=>some []
 | v :: r=>match clV v,clVs r with
  | some c,some cs=>some (c :: cs)
  | _,_=>none
theorem clVs.rel:∀ {vs:List V} {us cs:List Value},clVs vs=some cs→Vals vs us→us=cs
 | [],_,_,e,.nil=>Option.some.inj e
 | v :: r,_,_,e,.cons r1 r2=>by
  unfold clVs at e
  split at e
  ·rename_i c cs' e1 e2
   cases e
   rw [clV.rel e1 r1,clVs.rel e2 r2]
  ·cases e
theorem bc:bY X (.builtin "isinstance") (fun xs H Q=>∃x cv t c b,xs=[x,cv]∧TyOf X.K H x t∧clV cv=some c∧PySem.W.kitOne X.K t c=some b∧Q (.bl b) H):=by
 intro pins s σ H xs us Q I rv h
 obtain ⟨x,cv,t,c,b,rfl,ty,e1,e2,q⟩:=h
 cases rv with
 | cons r1 rr =>
  cases rr with
  | cons r2 rr =>
   cases rr
   rw [clV.rel e1 r2]
   exact mh I r1 ty e2 fun tk=>⟨.bl b,H,I.tok tk,rfl,q⟩
theorem ia:bY X (.builtin "isinstance") (fun xs H Q=>∃x p t cvs cs b,xs=[x,.ref p]∧TyOf X.K H x t∧H p=some (.tup cvs)∧clVs cvs=some cs∧PySem.W.kitAny X.K t cs=some b∧Q (.bl b) H):=by
 intro pins s σ H xs us Q I rv h
 obtain ⟨x,p,t,cvs,cs,b,rfl,ty,hp,e1,e2,q⟩:=h
 cases rv with
 | cons r1 rr =>
  cases rr with
  | cons r2 rr =>
   cases rr
   cases r2
   obtain ⟨_,its,rits,o,ho,hc,n,hd⟩:=I.hok p _ hp
   obtain ⟨P,Z,p1,p2⟩:=I.kitx r1 ty
   obtain ⟨oc,od,dt,osl⟩:=o
   replace hc:oc=.type "tuple" := hc
   replace hd:dt=.seq its.toArray n:=hd
   subst hc hd
   have e3:=clVs.rel e1 rits
   subst e3
   exact PySem.W.kia_tup Z I.kIn p1 ho e2 p2 fun tk=>⟨.bl b,H,I.tok tk,rfl,q⟩
end
mutual
inductive DatV (K:PySem.W.Frag) (H:Hp):V→PyData→Prop
 | non:DatV K H .non .none
 | bl (b:Bool):DatV K H (.bl b) (.bool b)
 | int (i:Int):DatV K H (.int i) (.int i)
 | str (x:Str):DatV K H (.str x) (.str x)
 | lst {a:Addr} {xs:List V} {ds:List PyData}:SqL K H a xs→DatVs K H xs ds→DatV K H (.ref a) (.list ds)
 | tup {a:Addr} {xs:List V} {ds:List PyData}:SqT K H a xs→DatVs K H xs ds→DatV K H (.ref a) (.tuple ds)
inductive DatVs (K:PySem.W.Frag) (H:Hp):List V→List PyData→Prop
 | nil:DatVs K H [] []
 | cons {x:V} {d:PyData} {xs:List V} {ds:List PyData}:DatV K H x d→DatVs K H xs ds→DatVs K H (x :: xs) (d :: ds)
end
section
variable {X:Cx} {pins:List (Addr×Obj)} {σ:St} {H:Hp} {s:Shared}
mutual
theorem Inv.reads (I:Inv X pins σ H s):∀ {v:V} {d:PyData},DatV X.K H v d→∀ {u:Value},RelV v u→∃as,Reads s.heap u d as
 | _,_,.non,u,r=>by cases (show u=Value.none from r); exact ⟨_,.none⟩
 | _,_,.bl b,u,r=>by cases (show u=Value.bool b from r); exact ⟨_,.bool b⟩
 | _,_,.int i,u,r=>by obtain ⟨t,e⟩:=(show ∃t,u=Value.int i t from r); subst e; exact ⟨_,.int i t⟩
 | _,_,.str x,u,r=>by obtain ⟨t,e⟩:=(show ∃t,u=Value.str x t from r); subst e; exact ⟨_,.str x t⟩
 | _,_,.lst (a:=a) h hs,u,r=>by
  cases (show u=Value.ref a from r)
  obtain ⟨its,rv,⟨o,n,e,c,_,d⟩,_⟩:=I.list h
  obtain ⟨as,ra⟩:=I.readsAll hs rv
  exact ⟨_,.list e c d (by simpa using ra)⟩
 | _,_,.tup (a:=a) h hs,u,r=>by
  cases (show u=Value.ref a from r)
  obtain ⟨its,rv,⟨o,e,c,n,d⟩,_⟩:=I.tuple h
  obtain ⟨as,ra⟩:=I.readsAll hs rv
  exact ⟨_,.tuple e c d (by simpa using ra)⟩
theorem Inv.readsAll (I:Inv X pins σ H s):∀ {vs:List V} {ds:List PyData},DatVs X.K H vs ds→∀ {us:List Value},Vals vs us→∃as,ReadsAll s.heap us ds as
 | _,_,.nil,_,.nil=>⟨_,.nil⟩
 | _,_,.cons h hs,_,.cons r rs=>by
  obtain ⟨as,ra⟩:=I.reads h r
  obtain ⟨bs,rb⟩:=I.readsAll hs rs
  exact ⟨_,.cons ra rb⟩
end
end
section
variable {X:Cx}
theorem sU (hu:X.A.units + 64 < cLine):OpR X (compareOp .NotEq) (fun x y H Q=>∃da db,DatV X.K H x da∧DatV X.K H y db∧SeqAt.shaped da=true∧SeqAt.shaped db=true∧Q (.bl (!PyData.eqv da db)) H):=by
 intro pins s σ H x y v u Q I rx ry h
 obtain ⟨da,db,hx,hy,s1,s2,q⟩:=h
 obtain ⟨as,ra⟩:=I.reads hx rx
 obtain ⟨bs,rb⟩:=I.reads hy ry
 exact ne_dataH ra rb s1 s2 hu ⟨.bl _,H,I,rfl,q⟩
theorem sV (hu:X.A.units + 64 < cLine):OpR X (compareOp .Eq) (fun x y H Q=>∃da db,DatV X.K H x da∧DatV X.K H y db∧SeqAt.shaped da=true∧SeqAt.shaped db=true∧Q (.bl (PyData.eqv da db)) H):=by
 intro pins s σ H x y v u Q I rx ry h
 obtain ⟨da,db,hx,hy,s1,s2,q⟩:=h
 obtain ⟨as,ra⟩:=I.reads hx rx
 obtain ⟨bs,rb⟩:=I.reads hy ry
 exact eq_dataH ra rb s1 s2 hu ⟨.bl _,H,I,rfl,q⟩
end
section
variable {prog:Program} {w:World} {A:Around} {E:Value→Shared→Prop}
theorem fN {it l:Addr} {items:Array Value} (hne:l≠it):∀ (n i:Nat) (s:Shared) (Q:List Value→Shared→Prop),s.heap.IsListIter it l i→s.heap.IsList l items→i + n≤items.size →
  (∀h',h'.IsListIter it l (i + n)→Heap.SameBut it s.heap h'→Q ((items.toList.drop i).take n) { s with heap:=h' })→wpAny (model prog w) A (draw (.ref it) n) Q E s
 | 0,i,s,Q,hit,_,_,hQ=>by
  show wpAny _ _ (pure []) Q E s
  exact wpAny_pure (by simpa using hQ s.heap hit (Heap.SameBut.refl ..))
 | n + 1,i,s,Q,hit,ht,hle,hQ=>by
  have hlt:i < items.size:=by omega
  show wpAny _ _ (pyNext (.ref it) >>= _) Q E s
  refine wpAny_bind (wpAny_pyNext_list_item hit ht (x:=items[i]) (by simp [hlt]) fun h₁ hit₁ hs₁=>?_)
  refine wpAny_bind (wpAny_holding (fN hne n (i + 1) _ _ hit₁ (ht.extBut hs₁.extBut hne) (by omega) fun h₂ hit₂ hs₂=>wpAny_pure ?_))
  have hd:items.toList.drop i=items[i] :: items.toList.drop (i + 1):=by simp [List.drop_eq_getElem_cons,hlt]
  have q:=hQ h₂ (by rw [show i + (n + 1)=i + 1 + n by omega]; exact hit₂) (hs₁.trans hs₂)
  rw [hd,List.take_succ_cons] at q
  exact q
theorem ed {s:Shared} {l:Addr} {items:Array Value} {Q:List Value→Shared→Prop} (hh:A.handled=none) (ht:s.heap.IsList l items)
  (hQ:∀h',Heap.ExtBut s.heap.objs.size s.heap h'→Q items.toList { s with heap:=h' }):wpAny (model prog w) A (unpackItems (.ref l) items.size none) Q E s:=by
 have hlt:l≠s.heap.objs.size:=by obtain ⟨o,ho,_⟩:=ht; exact Nat.ne_of_lt (Heap.lt_size ho)
 have hp:(s.heap.push { cls:=.type "list_iterator",data:=.fields #[.ref l,.int 0 0] }).IsList l items:=by
  obtain ⟨o,ho,r⟩:=ht; exact ⟨o,Heap.get?_push_of_some _ ho,r⟩
 unfold unpackItems
 refine wpAny_bind ?_
 ·unfold notIterableAtAll
  refine wpAny_bind (wpAny_specialOf ht.typeIs PySem.slot_list_iter.lookup ?_)
  refine wpAny_pure ?_
  simp only [Bool.false_eq_true,if_false]
  refine wpAny_bind (wpAny_holding (wpAny_pyIter_list ht ?_))
  refine wpAny_bind (wpAny_holding (fN hlt items.size 0 _ _ ⟨_,Heap.get?_push_size _ rfl,rfl,rfl⟩ hp (by omega) fun h₁ hit₁ hs₁=>?_))
  have hall:List.take items.size (List.drop 0 items.toList)=items.toList:=by
   rw [List.drop_zero]; exact List.take_of_length_le (by simp)
  rw [hall]
  rw [if_neg (by simp)]
  have ht₁:h₁.IsList l items:=hp.extBut hs₁.extBut hlt
  refine wpAny_bind (wpAny_holding (wpAny_pyNext_list_end hh hit₁ ht₁ (by simp) fun h₂ he₂=>?_))
  simp only [Option.isSome_none,Bool.false_eq_true,if_false]
  refine wpAny_pure (hQ h₂ fun b o hb e=>he₂ b o hb (hs₁.extBut b o hb (Heap.get?_push_of_some _ e)))
theorem dP {s:Shared} {env:Env} {elts:List Expr} {x1} {pos:Pos} {l:Addr} {items:Array Value} {Q:Unit→Shared→Prop} (hh:A.handled=none) (ht:s.heap.IsList l items)
  (hn:(assignEach elts env).length=items.size) (hstar:(assignEach elts env).findIdx? (·.1)=none)
  (h:∀h',Heap.ExtBut s.heap.objs.size s.heap h'→wpAny (model prog w) A (assignInOrder ((assignEach elts env).map (·.2)) items.toList) Q E { s with heap:=h' }) :
  wpAny (model prog w) A (assign (.Tuple elts x1 pos) env (.ref l)) Q E s:=by
 rw [assign_Tuple]
 refine wpAny_bind (wpAny_standAt ?_)
 unfold unpack
 rw [hn,hstar]
 exact wpAny_bind (wpAny_holding (ed hh ht h))
end
section
variable {X:Cx} {pos:Pos}
def Dh (K:PySem.W.Frag) (n:Nat) (t:TGs):TG:=fun v σ H Q=>∃a xs,v=.ref a∧(SqL K H a xs∨SqT K H a xs)∧xs.length=n∧t xs σ H Q
theorem oo {es:List Expr} {k:Nat} {t:TGs} {n:Nat} (hc:X.calm=true) (h:PGs X es t)
  (hn:(assignEach es X.env).length=n:=by rfl) (hst:(assignEach es X.env).findIdx? (·.1)=none:=by rfl):PG X (.Tuple es k pos) (Dh X.K n t):=by
 intro pins s σ H v u Q I r hw
 obtain ⟨a,xs,e1,hq,hl,hw⟩:=hw
 rcases hq with hq | hq
 ·subst e1
  cases r
  obtain ⟨its,rv,ht,hz⟩:=I.list hq
  refine dP (I.ok.hd hc) ht.isList (by simp [hn,← hl,rv.length]) hst fun h' hx=>?_
  have I1:Inv X pins σ H { s with heap:=h' }:=I.kept (t':=s.toks) fun b o e=>hx b o (Nat.ne_of_lt (Heap.lt_size e)) e
  exact h pins _ σ H xs _ Q I1 (by simpa using rv) hw
 ·exact bH hc h hn hst pins s σ H v u Q I r ⟨a,xs,e1,hq,hl,hw⟩
end
def Itz (l1 l2:Addr):It :=
  ⟨fun i H=>∃xs ys x y,H l1=some (.lst xs)∧H l2=some (.lst ys)∧xs[i]? = some x∧ys[i]? = some y,
   fun i H v H'=>∃p xs ys x y,H p=none∧v=.ref p∧H'=upd H p (.tup [x,y])∧H l1=some (.lst xs)∧H l2=some (.lst ys)∧xs[i]? = some x∧ys[i]? = some y,
   fun i H=>∃xs ys,H l1=some (.lst xs)∧H l2=some (.lst ys)∧(xs.length≤i∨ys.length≤i)⟩
section
variable {X:Cx}
theorem Inv.turnedN {pins:List (Addr×Obj)} {σ:St} {H:Hp} {s:Shared} {h':Heap} {t':Nat} {ch:List Addr} (I:Inv X pins σ H s) (hf:∀b∈ch,dS X pins H b) (k:∀b o,b∉ch→s.heap.get? b=some o→h'.get? b=some o):Inv X pins σ H { s with heap:=h',toks:=t' }:=by
 have hLc:X.env.locals∉ch:=fun z=>(hf _ z).2.1 rfl
 have nt:∀b u,H b=some u→b∉ch:=fun b u e z=>by rw [(hf b z).1] at e; cases e
 refine I.step (g':=s.gens) (d':=s.drawn) (ch:=ch) (fun b hb=>⟨(hf b hb).2.2.2.1,(hf b hb).2.1,(hf b hb).2.2.2.2.1,(hf b hb).2.2.2.2.2⟩) (fun b o _ _ hc e _=>k b o hc e) (fun b o _ _ hc e _=>⟨o.slots,k b o hc e⟩) (fun _ _ _ _ n=>n)
  (fun b o hc e=>⟨o,k b o hc e⟩) (fun _ _ e=>e) (fun _ _ _ e=>e) (fun b ps e=>⟨#[],by rw [e]; simp⟩) (fun m hm=>?_) (fun b u e=>?_) I.bare
 ·obtain ⟨o,es,ep,ho,r⟩:=hm
  exact ⟨o,es,ep,k _ o hLc ho,r⟩
 ·refine (I.hok b u e).stay (fun c v hc q=>k c v ?_ q) (fun _ q=>q) fun _ _ q=>q
  rcases hc with z | z
  ·rw [z]; exact nt b u e
  ·exact nt c _ z
theorem Inv.track {pins:List (Addr×Obj)} {σ:St} {H:Hp} {s:Shared} {a:Addr} {o:HO} (I:Inv X pins σ H s) (hf:dS X pins H a) (fa:X.s₀.heap.objs.size≤a) (new:ObjOk X.prog X.w (upd H a o) s.heap a o):Inv X pins σ (upd H a o) s:=by
 obtain ⟨f0,f1,f2,f3,f4,f5⟩:=hf
 have s0:∀b o,X.s₀.heap.get? b=some o→b≠a:=fun b o e=>Nat.ne_of_lt (Nat.lt_of_lt_of_le (Heap.lt_size e) fa)
 refine ⟨I.ok,I.os,I.bare,⟨I.base.keep,I.base.slot,fun b o e n hx=>?_,I.base.there,fun b xs e=>?_,fun b o u e=>?_,fun b ps e=>?_⟩,I.loc,I.cell,?_,fun x c e=>?_,fun p hp=>?_,I.hok.add f0 new,I.len⟩
 ·rw [au (s0 b o e)]; exact I.base.free b o e n hx
 ·have q:=I.base.tups b xs e
  rw [au (ai q f0)]; exact q
 ·have q:=I.base.frzs b o u e
  rw [au (ai q f0)]; exact q
 ·obtain ⟨more,q⟩:=I.base.tbls b ps e
  exact ⟨more,by rw [au (ai q f0)]; exact q⟩
 ·rw [au (Ne.symm f1)]; exact I.free
 ·rw [au (f4 x c e)]; exact I.freeC x c e
 ·obtain ⟨e,n,r⟩:=I.pin p hp
  exact ⟨e,by rw [au (f5 p hp)]; exact n,r⟩
end
structure ZipAp (z TI TO i1 i2:Addr):Prop where
 nd:[z,TI,TO,i1,i2].Nodup
theorem oq {P:Program} {w:World} {K:PySem.W.Frag} {es:List Expr} {kk:Nat} {tp:Pos} (l1 l2 z TI TO i1 i2:Addr) (D:ZipAp z TI TO i1 i2) :
  Turn P w K (.Tuple es kk tp) (Itz l1 l2) [z,TI,TO,i1,i2] z (fun i h=>IsZip h z TI TO .none∧IsPair h TI (.ref i1) (.ref i2)∧(∃a b,IsPair h TO a b)∧h.IsListIter i1 l1 i∧h.IsListIter i2 l2 i) where
 mem:=by simp
 obj:=fun i h st b hb=>by
  obtain ⟨a1,a2,⟨x,y,a3⟩,⟨o4,a4,_,d4⟩,⟨o5,a5,_,d5⟩⟩:=st
  simp only [List.mem_cons,List.not_mem_nil,or_false] at hb
  rcases hb with rfl | rfl | rfl | rfl | rfl
  ·exact ⟨_,a1,fun v q=>by cases q⟩
  ·exact ⟨_,a2,fun v q=>by cases q⟩
  ·exact ⟨_,a3,fun v q=>by cases q⟩
  ·exact ⟨_,a4,fun v q=>by rw [d4] at q; cases q⟩
  ·exact ⟨_,a5,fun v q=>by rw [d5] at q; cases q⟩
 keep:=fun i h h' st k=>by
  obtain ⟨a1,a2,⟨x,y,a3⟩,a4,a5⟩:=st
  exact ⟨k z (by simp) _ a1,k TI (by simp) _ a2,⟨x,y,k TO (by simp) _ a3⟩,a4.at fun o e=>k i1 (by simp) o e,a5.at fun o e=>k i2 (by simp) o e⟩
 item:=by
  intro X hP hw hK hc i pins s σ H E I hf st hg
  subst hP hw hK
  obtain ⟨a1,a2,⟨x0,y0,a3⟩,a4,a5⟩:=st
  obtain ⟨xs,ys,x,y,e1,e2,ex,ey⟩:=hg
  have tr:∀ {l:Addr} {zs:List V},H l=some (.lst zs)→∀b∈[z,TI,TO,i1,i2],l≠b:=fun e b hb q=>by rw [q,(hf b hb).1] at e; cases e
  have nd:=D.nd
  simp only [List.nodup_cons,List.mem_cons,List.not_mem_nil,or_false,not_or,List.nodup_nil,and_true,not_false_eq_true] at nd
  obtain ⟨⟨n1,n2,n3,n4⟩,⟨n5,n6,n7⟩,⟨n8,n9⟩,n10⟩:=nd
  have A':ZipApart z TI TO i1 i2 l1 l2:=⟨Ne.symm n1,Ne.symm n2,Ne.symm n3,Ne.symm n4,n5,n6,n7,n8,n9,n10,tr e1 z (by simp),tr e1 TO (by simp),tr e1 i1 (by simp),tr e1 i2 (by simp),tr e2 z (by simp),tr e2 TO (by simp),tr e2 i1 (by simp),tr e2 i2 (by simp)⟩
  obtain ⟨its1,rv1,p1,_⟩:=I.list (SqL.of e1)
  obtain ⟨its2,rv2,p2,_⟩:=I.list (SqL.of e2)
  obtain ⟨u1,hu1,r1⟩:=rv1.get ex
  obtain ⟨u2,hu2,r2⟩:=rv2.get ey
  refine wpAny_pyNext_zip_item A' a1 a2 a3 a4 a5 p1.isList p2.isList (x:=u1) (y:=u2) (by simpa using hu1) (by simpa using hu2) fun h' b1 b2 b3 b4 b5 b6 bk=>⟨_,rfl,?_⟩
  refine wpAny_letOwnedTupleGo_zip b1 fun h'' c1 cs=>?_
  have zs:z < s.heap.objs.size:=Heap.lt_size a1
  have k2:∀b o,b∉[z,TI,TO,i1,i2]→s.heap.get? b=some o→h''.get? b=some o:=fun b o hb e=>by
   simp only [List.mem_cons,List.not_mem_nil,or_false,not_or] at hb
   exact cs.extBut b o hb.1 (bk b o hb.1 hb.2.2.1 hb.2.2.2.1 hb.2.2.2.2 e)
  have I1:Inv X pins σ H { s with heap:=h'' }:=I.turnedN (t':=s.toks) hf k2
  have hp:h''.get? s.heap.objs.size=some { cls:=.type "tuple", data:=.seq #[u1, u2] }:=cs.extBut _ _ (Nat.ne_of_gt zs) b5
  have hn:H s.heap.objs.size=none:=I.hok.fresh (Nat.le_refl _)
  have fpk:=I.fpOk (H':=H) (Nat.le_refl _) hn
  have I2:Inv X pins σ (upd H s.heap.objs.size (.tup [x,y])) { s with heap:=h'' }:=I1.track fpk I.sz ⟨by show 2≤sizeLine; decide,[u1,u2],.cons r1 (.cons r2 .nil),_,hp,rfl,_,rfl⟩
  refine ⟨.ref s.heap.objs.size,_,I2,rfl,⟨_,xs,ys,x,y,hn,rfl,rfl,e1,e2,ex,ey⟩,⟨c1,?_,⟨u1,u2,cs.extBut _ _ (Ne.symm n2) b2⟩,b3.extBut cs.extBut (Ne.symm n3),b4.extBut cs.extBut (Ne.symm n4)⟩,fun b hb=>?_⟩
  ·exact cs.extBut _ _ (Ne.symm n1) (bk _ _ (Ne.symm n1) n5 n6 n7 a2)
  ·have hbl:b < s.heap.objs.size:=by
    simp only [List.mem_cons,List.not_mem_nil,or_false] at hb
    obtain ⟨o4,a4',_⟩:=a4
    obtain ⟨o5,a5',_⟩:=a5
    rcases hb with rfl | rfl | rfl | rfl | rfl
    ·exact zs
    ·exact Heap.lt_size a2
    ·exact Heap.lt_size a3
    ·exact Heap.lt_size a4'
    ·exact Heap.lt_size a5'
   rw [au (Nat.ne_of_lt hbl)]
   exact (hf b hb).1
 done:=by
  intro X hP hw hK hc i pins s σ H E I hf st hg
  subst hP hw hK
  obtain ⟨a1,a2,⟨x0,y0,a3⟩,a4,a5⟩:=st
  obtain ⟨xs,ys,e1,e2,ex⟩:=hg
  have tr:∀ {l:Addr} {zs:List V},H l=some (.lst zs)→∀b∈[z,TI,TO,i1,i2],l≠b:=fun e b hb q=>by rw [q,(hf b hb).1] at e; cases e
  have nd:=D.nd
  simp only [List.nodup_cons,List.mem_cons,List.not_mem_nil,or_false,not_or,List.nodup_nil,and_true,not_false_eq_true] at nd
  obtain ⟨⟨n1,n2,n3,n4⟩,⟨n5,n6,n7⟩,⟨n8,n9⟩,n10⟩:=nd
  have A':ZipApart z TI TO i1 i2 l1 l2:=⟨Ne.symm n1,Ne.symm n2,Ne.symm n3,Ne.symm n4,n5,n6,n7,n8,n9,n10,tr e1 z (by simp),tr e1 TO (by simp),tr e1 i1 (by simp),tr e1 i2 (by simp),tr e2 z (by simp),tr e2 TO (by simp),tr e2 i1 (by simp),tr e2 i2 (by simp)⟩
  obtain ⟨its1,rv1,p1,_⟩:=I.list (SqL.of e1)
  obtain ⟨its2,rv2,p2,_⟩:=I.list (SqL.of e2)
  have l1':=rv1.length
  have l2':=rv2.length
  refine wpAny_pyNext_zip_end (I.ok.hd hc) A' a1 a2 a3 a4 a5 p1.isList p2.isList (by rcases ex with q | q; exact .inl (by simp; omega); exact .inr (by simp; omega)) fun h' bk=>⟨rfl,?_⟩
  exact I.turnedN (t':=s.toks) hf fun b o hb e=>by
   simp only [List.mem_cons,List.not_mem_nil,or_false,not_or] at hb
   exact bk b o hb.1 hb.2.2.1 hb.2.2.2.1 hb.2.2.2.2 e
 self:=fun _ _ _ _ _ st h=>wpAny_pyIter_zip st.1 h
def Di (ta:TA):TI:=fun σ H R=>ta σ H fun vs H1=>∃l1 l2 xs ys,vs=[.ref l1,.ref l2]∧H1 l1=some (.lst xs)∧H1 l2=some (.lst ys)∧R (Itz l1 l2) H1
theorem ot {X:Cx} {a b:Expr} {ta:TA} {p pos tp:Pos} {es:List Expr} {kk:Nat} (hg:Gl X "zip") (hm:X.mg "zip" = none) (ha:PA X [a,b] ta)
  (hs:starEach [a,b] X.env=[(false,eval a X.env),(false,eval b X.env)]:=by rfl) (hs2:starEach [b] X.env=[(false,eval b X.env)]:=by rfl) :
  PI X (.Tuple es kk tp) (.Call (.Name "zip" p) [a,b] [] pos) (Di ta):=by
 intro pins s σ H R I h
 refine Call_ (dI I hg hm PyProof.Rows.boot_zip (PyProof.Rows.callWith_type1 (thn (ha pos pins s σ H _ I h) fun us s1 ⟨vs,H1,I1,r1,q1⟩=>?_) (by rw [hs,hs2]) (by rw [hs2]; rfl)))
 obtain ⟨l1,l2,xs,ys,rfl,e1,e2,q⟩:=q1
 cases r1 with
 | cons r rr =>
  cases rr with
  | cons r' rr =>
   cases rr
   cases r
   cases r'
   obtain ⟨its1,rv1,p1,_⟩:=I1.list (SqL.of e1)
   obtain ⟨its2,rv2,p2,_⟩:=I1.list (SqL.of e2)
   refine call_zip_2 p1.isList p2.isList fun h' z1 z2 z3 z4 z5 sz keep=>?_
   have I2:Inv X pins σ H1 { s1 with heap:=h' }:=I1.kept (t':=s1.toks) keep
   refine wpAny_pyIter_zip z1 ⟨s1.heap.objs.size + 4,[s1.heap.objs.size + 4,s1.heap.objs.size + 2,s1.heap.objs.size + 3,s1.heap.objs.size,s1.heap.objs.size + 1],_,_,H1,rfl,I2,oq l1 l2 _ _ _ _ _ ⟨by simp⟩,⟨z1,z2,⟨_,_,z3⟩,z4,z5⟩,fun b hb=>?_,q⟩
   have hb':s1.heap.objs.size≤b:=by
    simp only [List.mem_cons,List.not_mem_nil,or_false] at hb
    rcases hb with rfl | rfl | rfl | rfl | rfl <;> omega
   exact I1.fpOk hb' (I1.hok.fresh hb')
end L2
set_option Elab.async false
set_option linter.all false
set_option maxRecDepth 100000
namespace L2
open PySem PySem.Spec PyProof.Rows
def Dn (P:Program) (w:World) (K:PySem.W.Frag) (mg:Str→Option Value) (base:Heap) (x:Str) (ps:List Str) (k:Nat) (sp:Sp):Prop :=
 ∃ (f:Addr) (fd:FuncData),FnOk P w K mg base CX0 k f fd ps sp∧Binds K fd ps []∧PySem.W.keepIn K (.ref f)=true∧mg x=some (.ref f)
theorem ar {X:Cx} {k:Nat} {ps:List Str} {sp:Sp} {x:Str} {p pos:Pos} {e:Expr} {es:List Expr} {t:TA} (D:Dn X.prog X.w X.K X.mg X.base x ps k sp) (hr:Room k X.A) (hg:Gl X x) (ha:PA X (e :: es) t)
  (hdb:(x == ("__debug__" : Str))=false:=by decide) (he:starEach (e :: es) X.env=(false,eval e X.env) :: starEach es X.env:=by rfl) (hpl:(backTo pos (starEach es X.env)).any (·.1)=false:=by rfl) :
  PE X (.Call (.Name x p) (e :: es) [] pos) (nX sp [] E0 t):=by
 obtain ⟨f,fd,F,hb,hk,hm⟩:=D
 exact qt F hr hg hm hk hb .nil lD ha hdb he hpl
def lE (sc:Scope) (N:List Str) (scope:Scope) (own cs:List Str) (cap:List Nat):Bool :=
 decide (scope.kind=.function) && scope.names.all (fun y=>decide (y.2≠.cell)) && scope.names.all (fun y=>decide (y.2=.local→scope.names.lookup y.1=some .local)) &&
 scope.names.all (fun y=>decide (y.2=.free→sc.names.lookup y.1=some .cell∨sc.names.lookup y.1=some .free)) && own.all (fun y=>decide (scope.names.lookup y=some .local)) &&
 decide (cs.length=cap.length) && (cs.zip cap).all (fun y=>decide (N[y.2]? = some y.1) && decide ((y.1,NameKind.free)∈scope.names)) && scope.names.all (fun y=>decide (y.2=.free→scope.names.lookup y.1≠some .local))
theorem bn {X:Cx} {sc:Scope} {N:List Str} {scope:Scope} {own cs:List Str} {cap:List Nat} (h1:X.env.scope=sc) (h2:X.N=N) (h:lE sc N scope own cs cap=true):CompOk X scope own cs cap:=by
 subst h1 h2
 unfold lE at h
 simp only [Bool.and_eq_true,List.all_eq_true,decide_eq_true_eq] at h
 obtain ⟨⟨⟨⟨⟨⟨⟨a1,a2⟩,a3⟩,a4⟩,a5⟩,a6⟩,a7⟩,a8⟩:=h
 refine ⟨a1,a2,a3,a4,fun i y e=>?_,a5,a6,fun y hy e=>a8 _ hy rfl e⟩
 have hi:i < cs.length:=(List.getElem?_eq_some_iff.mp e).1
 have hj:i < cap.length:=by rw [← a6]; exact hi
 refine ⟨cap[i],List.getElem?_eq_getElem hj,?_⟩
 have hm:(y,cap[i])∈cs.zip cap:=by
  have:(cs.zip cap)[i]? = some (y,cap[i]):=by
   rw [List.getElem?_zip_eq_some]
   exact ⟨e,List.getElem?_eq_getElem hj⟩
  exact List.mem_of_getElem? this
 exact a7 _ hm
theorem bV {σ:St} {H:Hp} {A B:Hp→Prop} (h:A H):xt σ H (fun ok H3=>if ok=true then A H3 else B H3):=by
 show (if (true:Bool)=true then A H else B H)
 rw [if_pos rfl]
 exact h
section
variable {X:Cx} {tg:Expr}
def sW (K:PySem.W.Frag) (tl:TE):TI:=fun σ H R=>rV K tl σ H R∨xb K tl σ H R
theorem fO {l:Expr} {tl:TE} (hl:PE X l tl):PI X tg l (sW X.K tl):=by
 intro pins s σ H R I h
 rcases h with h | h
 ·exact cy hl pins s σ H R I h
 ·exact nO hl pins s σ H R I h
end
def aY:List String:=["NoneType","bool","int","str","list","tuple","dict"]
theorem lF {K:PySem.W.Frag}:∀T∈aY,PySem.W.kitOne K (.type T) (.type "int")=some (T == "int" || T == "bool"):=by
 intro T h
 simp only [aY,List.mem_cons,List.not_mem_nil,or_false] at h
 rcases h with rfl | rfl | rfl | rfl | rfl | rfl | rfl <;> kernel_rfl
theorem dg {K:PySem.W.Frag}:∀T∈aY,PySem.W.kitOne K (.type T) (.type "bool")=some (T == "bool"):=by
 intro T h
 simp only [aY,List.mem_cons,List.not_mem_nil,or_false] at h
 rcases h with rfl | rfl | rfl | rfl | rfl | rfl | rfl <;> kernel_rfl
theorem iR {K:PySem.W.Frag}:∀T∈aY,PySem.W.kitOne K (.type T) (.type "list")=some (T == "list"):=by
 intro T h
 simp only [aY,List.mem_cons,List.not_mem_nil,or_false] at h
 rcases h with rfl | rfl | rfl | rfl | rfl | rfl | rfl <;> kernel_rfl
theorem gK {K:PySem.W.Frag}:∀T∈aY,PySem.W.kitOne K (.type T) (.type "tuple")=some (T == "tuple"):=by
 intro T h
 simp only [aY,List.mem_cons,List.not_mem_nil,or_false] at h
 rcases h with rfl | rfl | rfl | rfl | rfl | rfl | rfl <;> kernel_rfl
theorem qD {K:PySem.W.Frag}:∀T∈aY,PySem.W.kitAny K (.type T) [.type "list",.type "tuple"]=some (T == "list" || T == "tuple"):=by
 intro T h
 have h1:=iR (K:=K) T h
 have h2:=gK (K:=K) T h
 unfold PySem.W.kitAny
 rw [h1]
 cases e:(T == "list") with
 | true=>rfl
 | false =>
  show PySem.W.kitAny K (.type T) [.type "tuple"]=_
  unfold PySem.W.kitAny
  rw [h2]
  cases e2:(T == "tuple") <;> rfl
def Ty (K:PySem.W.Frag) (H:Hp) (x:V) (T:String):Prop:=T∈aY∧TyOf K H x (.type T)
theorem Ty.int {K:PySem.W.Frag} {H:Hp} {i:Int}:Ty K H (.int i) "int" := ⟨by simp [aY],.int i⟩
theorem Ty.bl {K:PySem.W.Frag} {H:Hp} {b:Bool}:Ty K H (.bl b) "bool" := ⟨by simp [aY],.bl b⟩
theorem Ty.non {K:PySem.W.Frag} {H:Hp}:Ty K H .non "NoneType" := ⟨by simp [aY],.non⟩
theorem Ty.str {K:PySem.W.Frag} {H:Hp} {x:Str}:Ty K H (.str x) "str" := ⟨by simp [aY],.str x⟩
theorem Ty.lst {K:PySem.W.Frag} {H:Hp} {a:Addr} {xs:List V} (e:H a=some (.lst xs)):Ty K H (.ref a) "list" := ⟨by simp [aY],.lst e⟩
theorem Ty.tup {K:PySem.W.Frag} {H:Hp} {a:Addr} {xs:List V} (e:H a=some (.tup xs)):Ty K H (.ref a) "tuple" := ⟨by simp [aY],.tup e⟩
theorem Ty.dK {K:PySem.W.Frag} {H:Hp} {a:Addr} {xs:List (Key×V)} (e:H a=some (.dK xs)):Ty K H (.ref a) "dict" := ⟨by simp [aY],.dK e⟩
def aD:V→Int→Bool
 | .int i,l=>decide (l≤i)
 | _,_=>false
def eZ:V→Bool
 | .bl _=>true
 | _=>false
theorem ou {K:PySem.W.Frag} {H:Hp} {x:V} {T:String} (t:TyOf K H x (.type T)) (h:T∈aY):(T == "int")=true→∃i,x=.int i:=by
 intro e
 have e':T = "int" := by simpa using e
 subst e'
 generalize hv:Value.type "int" = tv at t
 cases t with
 | int i=>exact ⟨i,rfl⟩
 | _=>exact absurd hv (by simp)
theorem ee {K:PySem.W.Frag} {H:Hp} {x:V} {T:String} (t:TyOf K H x (.type T)):(T == "bool")=eZ x:=by
 generalize hv:Value.type T=tv at t
 cases t with
 | bl b=>cases hv; rfl
 | non=>cases hv; rfl
 | int i=>cases hv; rfl
 | str i=>cases hv; rfl
 | flt i=>cases hv; rfl
 | lst i=>cases hv; rfl
 | frz i=>cases hv; rfl
 | tup i=>cases hv; rfl
 | dK i=>cases hv; rfl
 | dT i=>cases hv; rfl
 | ins=>cases hv
end L2
namespace Pc
open PySem L2
structure Pot (a b:Int):Prop where
 a0:0≤a
 b0:0≤b
 b1:b < 2147483629
def But (p:Addr) (H H':Hp):Prop:=∀b o,b≠p→H b=some o→H' b=some o
theorem But.trans {p:Addr} {H H1 H2:Hp} (a:But p H H1) (b:But p H1 H2):But p H H2:=fun c o n e=>b c o n (a c o n e)
theorem But.upd {p:Addr} {H:Hp} {o:HO}:But p H (upd H p o):=fun b u n e=>by rw [au n]; exact e
theorem But.new {p q:Addr} {H:Hp} {o:HO} (h:H q=none):But p H (L2.upd H q o):=fun b u n e=>by rw [au (ai e h)]; exact e
structure Kd where
 w:Int
 h:Int
 wo:Int
 wa:Int
 tu:Bool
def kdV (k:Kd):List V:=[.int k.w,.int k.h,.int k.wo,.int k.wa,.bl k.tu]
structure Good (k:Kd):Prop where
 w:1≤k.w
 h:1≤k.h
 wo:0≤k.wo
 wa:0≤k.wa
 w':k.w < 10 ^ 60
 h':k.h < 10 ^ 60
 wo':k.wo < 10 ^ 60
 wa':k.wa < 10 ^ 60
def TupAt (H:Hp) (v:V) (k:Kd):Prop:=∃a,v=.ref a∧H a=some (.tup (kdV k))
def xu (H:Hp) (v:V) (k:Kd):Prop:=∃a,v=.ref a∧H a=some (.lst (kdV k))
def RowAt (H:Hp) (v:V) (k:Kd):Prop:=TupAt H v k∨xu H v k
abbrev Tups (H:Hp):List V→List Kd→Prop:=Paired (TupAt H)
theorem Tups.keep {H H':Hp} (k:∀b xs,H b=some (.tup xs)→H' b=some (.tup xs)):∀ {xs:List V} {ks:List Kd},Tups H xs ks→Tups H' xs ks:=fun r =>
 Paired.mapP r fun v kd ⟨a,e,h⟩=>⟨a,e,k a _ h⟩
structure ToldAt (H:Hp) (t l:Addr) (bl:Int) (xs:List V) (ks:List Kd):Prop where
 t:H t=some (.tup [.int bl,.ref l])
 l:H l=some (.lst xs)
 r:Tups H xs ks
 b0:0≤bl
 b1:bl < 10 ^ 60
 g:∀k∈ks,Good k
 n0:1≤xs.length
 n1:xs.length≤8
def cz (K:PySem.W.Frag):Sp:=fun vs H Q _=>∃ (x:V) (T:String) (l:Int),vs=[x,.int l]∧Ty K H x T∧Q (.bl (aD x l)) H
def fB (K:PySem.W.Frag):Sp:=fun vs H Q _=>∃ (x:V) (T:String),vs=[x]∧Ty K H x T∧Q (.bl (eZ x)) H
def gL (K:PySem.W.Frag):Sp:=fun vs H Q _=>∃ (x:V) (T:String), vs=[x]∧Ty K H x T∧∀H', Same H H'→Q (.bl (T == "list" || T == "tuple")) H'
def gM:List V→Bool
 | [w,h,wo,wa,tu]=>aD w 1 && aD h 1 && aD wo 0 && aD wa 0 && eZ tu
 | _=>false
def ef (K:PySem.W.Frag):Sp:=fun vs H Q _=>∃ (x:V) (T:String),vs=[x]∧Ty K H x T ∧ 
 ((T ≠ "list" ∧ T ≠ "tuple" ∧ ∀H', Same H H'→Q (.bl false) H')∨∃ (a:Addr) (xs:List V), x=.ref a∧(H a=some (.lst xs)∨H a=some (.tup xs))∧(∀y∈xs, ∃U, Ty K H y U)∧∀H', Same H H'→Q (.bl (gM xs)) H')
theorem fP {k:Kd} (g:Good k):gM (kdV k)=true:=by
 show (decide (1≤k.w) && decide (1≤k.h) && decide (0≤k.wo) && decide (0≤k.wa) && true)=true
 rw [decide_eq_true g.w,decide_eq_true g.h,decide_eq_true g.wo,decide_eq_true g.wa]
 rfl
theorem Ty.same {K:PySem.W.Frag} {H H':Hp} {x:V} {T:String} (s:Same H H') (t:Ty K H x T):Ty K H' x T:=by
 refine ⟨t.1,?_⟩
 have t2:=t.2
 generalize hv:Value.type T=tv at t2 ⊢
 cases t2 with
 | non=>exact .non
 | bl b=>exact .bl b
 | int b=>exact .int b
 | str b=>exact .str b
 | flt b=>exact .flt b
 | lst e=>exact .lst (s _ _ e)
 | frz e=>exact .frz (s _ _ e)
 | tup e=>exact .tup (s _ _ e)
 | dK e=>exact .dK (s _ _ e)
 | dT e=>exact .dT (s _ _ e)
 | ins=>cases hv
end Pc
set_option Elab.async false
set_option linter.all false
set_option maxRecDepth 100000
namespace L2
open PySem PySem.Spec PyProof.Rows
def iS (K:PySem.W.Frag):List V→Hp→VK→Prop:=fun xs H Q=>∃p ys,xs=[V.ref p]∧((SqL K H p ys∧∀l,H l=none→Q (.ref l) (upd H l (.tup ys)))∨(SqT K H p ys∧Q (.ref p) H))
def xw (K:PySem.W.Frag):List V→Hp→VK→Prop:=fun xs H Q=>∃x cv t c b,xs=[x,cv]∧TyOf K H x t∧clV cv=some c∧PySem.W.kitOne K t c=some b∧Q (.bl b) H
theorem ow {K:PySem.W.Frag} {j:Nat} {a:Addr} {xs:List V} {g:TG} {tb:TS} {D:Ends} {σ:St} {H:Hp} (hσ:σ[j]? = some (some (.ref a))) (hs:H a=some (.lst xs)∨H a=some (.tup xs)) (Pv:Nat→St→Hp→Prop) (h0:Pv 0 σ H)
  (hk:∀i σ H',i≤xs.length→Pv i σ H'→∀o,H a=some o→H' a=some o)
  (ht:∀i x σ H,xs[i]? = some x→Pv i σ H→g x σ H fun σ2 H2=>tb { D with nx:=Pv (i + 1),ct:=Pv (i + 1),bk:=D.nx } σ2 H2) (hd:∀σ H,Pv xs.length σ H→D.nx σ H):xf (sW K (qk j)) g tb D σ H:=by
 rcases hs with z | z
 ·exact .inl ⟨_,hσ,a,rfl,⟨xs,SqL.of z⟩,cZ (xs:=xs) Pv h0 (fun i σ H' hi p=>SqL.of (hk i σ H' hi p _ z)) ht hd⟩
 ·exact .inr ⟨_,hσ,a,rfl,⟨xs,SqT.of z⟩,ql (xs:=xs) Pv h0 (fun i σ H' hi p=>SqT.of (hk i σ H' hi p _ z)) ht hd⟩
def Nx (n:Nat) (Pv:Nat→List V→Hp→Prop) (i:Nat) (ys:List V) (H:Hp):Prop:=∃m',m' < n - i∧m'=n - (i + 1)∧i + 1≤n∧Pv (i + 1) ys H
theorem Nx.of {n:Nat} {Pv:Nat→List V→Hp→Prop} {i:Nat} {ys:List V} {H:Hp} (h:i < n) (p:Pv (i + 1) ys H):Nx n Pv i ys H:=⟨n - (i + 1),by omega,rfl,h,p⟩
theorem dh {K:PySem.W.Frag} {a:Addr} {xs:List V} {σ:St} {cap:List Nat} {k:Nat} {g:TG} {tt:TT} {te:TE} {Q:List V→Hp→Prop} {H:Hp} (hs:H a=some (.lst xs)∨H a=some (.tup xs)) (Pv:Nat→List V→Hp→Prop)
  (hk:∀i ys H',i≤xs.length→Pv i ys H'→∀o,H a=some o→H' a=some o) (h0:Pv 0 [] H)
  (ht:∀i x ys H',xs[i]? = some x→Pv i ys H'→ys.length < sizeLine∧g x (bT σ cap k) H' fun σ2 H2=>leS (bT σ cap k) σ2∧tt σ2 H2 fun ok H3=>if ok=true then te σ2 H3 (fun v H4=>Nx xs.length Pv i (ys ++ [v]) H4) else Nx xs.length Pv i ys H3)
  (hd:∀ys H',Pv xs.length ys H'→ys.length≤sizeLine∧Q ys H') :
  (H a=some (.lst xs)→∃W,(∃m,W 0 m [] H)∧iO σ cap k (Itl K a) g tt te Q W)∧(H a=some (.tup xs)→∃W,(∃m,W 0 m [] H)∧iO σ cap k (Itt K a) g tt te Q W):=by
 refine ⟨fun z=>⟨fun i m ys H'=>m=xs.length - i∧i≤xs.length∧Pv i ys H',⟨_,rfl,Nat.zero_le _,h0⟩,?_⟩,fun z=>⟨fun i m ys H'=>m=xs.length - i∧i≤xs.length∧Pv i ys H',⟨_,rfl,Nat.zero_le _,h0⟩,?_⟩⟩
 ·rintro i m ys H' ⟨rfl,hi,p⟩
  have z':=hk i ys H' hi p _ z
  by_cases hin:i < xs.length
  ·obtain ⟨e,hg⟩:=ht i xs[i] ys H' (by simp [hin]) p
   refine .inr ⟨⟨xs,xs[i],SqL.of z',by simp [hin]⟩,e,fun x H2 yl=>?_⟩
   obtain ⟨e1,e2⟩:=yl
   have e3:=e2 xs (SqL.of z')
   have e4:x=xs[i]:=by simpa [hin] using e3.symm
   subst e1 e4
   exact hg
  ·have e:i=xs.length:=by omega
   subst e
   obtain ⟨a1,a2⟩:=hd ys H' p
   exact .inl ⟨⟨xs,SqL.of z',Nat.le_refl _⟩,a1,a2⟩
 ·rintro i m ys H' ⟨rfl,hi,p⟩
  have z':=hk i ys H' hi p _ z
  by_cases hin:i < xs.length
  ·obtain ⟨e,hg⟩:=ht i xs[i] ys H' (by simp [hin]) p
   refine .inr ⟨⟨xs,xs[i],SqT.of z',by simp [hin]⟩,e,fun x H2 yl=>?_⟩
   obtain ⟨e1,e2⟩:=yl
   have e3:=e2 xs (SqT.of z')
   have e4:x=xs[i]:=by simpa [hin] using e3.symm
   subst e1 e4
   exact hg
  ·have e:i=xs.length:=by omega
   subst e
   obtain ⟨a1,a2⟩:=hd ys H' p
   exact .inl ⟨⟨xs,SqT.of z',Nat.le_refl _⟩,a1,a2⟩
theorem dv {K:PySem.W.Frag} {j:Nat} {a:Addr} {xs:List V} {σ:St} {cap:List Nat} {k:Nat} {g:TG} {tt:TT} {te:TE} {Q:VK} {H:Hp} (hσ:σ[j]? = some (some (.ref a))) (hs:H a=some (.lst xs)∨H a=some (.tup xs)) (Pv:Nat→List V→Hp→Prop)
  (hk:∀i ys H',i≤xs.length→Pv i ys H'→∀o,H a=some o→H' a=some o) (h0:Pv 0 [] H)
  (ht:∀i x ys H',xs[i]? = some x→Pv i ys H'→ys.length < sizeLine∧g x (bT σ cap k) H' fun σ2 H2=>leS (bT σ cap k) σ2∧tt σ2 H2 fun ok H3=>if ok=true then te σ2 H3 (fun v H4=>Nx xs.length Pv i (ys ++ [v]) H4) else Nx xs.length Pv i ys H3)
  (hd:∀ys H',Pv xs.length ys H'→ys.length≤sizeLine∧∀p,H' p=none→Q (.ref p) (upd H' p (.lst ys))):om (sW K (qk j)) cap k g tt te σ H Q:=by
 obtain ⟨c1,c2⟩:=dh (K:=K) (σ:=σ) (cap:=cap) (k:=k) (g:=g) (tt:=tt) (te:=te) hs Pv hk h0 ht hd
 rcases hs with z | z
 ·exact .inl ⟨_,hσ,a,rfl,⟨xs,SqL.of z⟩,c1 z⟩
 ·exact .inr ⟨_,hσ,a,rfl,⟨xs,SqT.of z⟩,c2 z⟩
end L2
namespace Pc
open PySem L2
def jO (b:Int) (r:Addr):List (Str×V):=cw "kind_rows" (.ref r) (cw "blade_width" (.int b) [])
theorem kbw:¬ (("blade_width" : Str) = "kind_rows"):=by decide +kernel
theorem jP (b:Int) (r:Addr):(jO b r).lookup ("blade_width" : Str)=some (.int b):=by
 unfold jO
 rw [bo,if_neg kbw,bo,if_pos rfl]
theorem fb (b:Int) (r:Addr):(jO b r).lookup ("kind_rows" : Str)=some (.ref r):=by
 unfold jO
 rw [bo,if_pos rfl]
theorem dw (b:Int) (r:Addr) {m:Str} (h1:¬ m = "kind_rows") (h2:¬ m = "blade_width"):(jO b r).lookup m=none:=by
 unfold jO
 rw [bo,if_neg h1,bo,if_neg h2]
 all_goals rfl
def ShopAt (C:Addr) (H:Hp) (x:Addr) (b:Int) (ks:List Kd):Prop:=∃dx r rs,H x=some (.ins C dx (jO b r))∧H r=some (.tup rs)∧Tups H rs ks
theorem ShopAt.keep {C:Addr} {H H':Hp} {x:Addr} {b:Int} {ks:List Kd} (s:ShopAt C H x b ks) (k1:∀b xs,H b=some (.tup xs)→H' b=some (.tup xs)) (k2:∀b C dx fs,H b=some (.ins C dx fs)→H' b=some (.ins C dx fs)):ShopAt C H' x b ks:=by
 obtain ⟨dx,r,rs,h1,h2,h3⟩:=s
 exact ⟨dx,r,rs,k2 _ _ _ _ h1,k1 _ _ h2,Tups.keep k1 h3⟩
def jQ (C:Addr):Sp:=fun vs H Q _=>∃ (x dx ks:Addr) (b:Int) (rs:List V) (kds:List Kd),vs=[.ref x,.int b,.ref ks]∧H x=some (.ins C dx [])∧0≤b∧(H ks=some (.lst rs)∨H ks=some (.tup rs))∧Paired (RowAt H) rs kds∧(∀k∈kds,Good k)∧1≤rs.length∧rs.length≤8 ∧
 ∀H':Hp,ShopAt C H' x b kds→(∀c o,c≠x→H c=some o→H' c=some o)→Q .non H'
def eg (C:Addr):Sp:=fun vs H Q _=>∃ (x:Addr) (b:Int) (ks:List Kd),vs=[.ref x]∧ShopAt C H x b ks∧Q (.int b) H
theorem lG {K:PySem.W.Frag} {H:Hp} {k:Kd}:∀y∈kdV k,∃U,Ty K H y U:=by
 intro y hy
 simp only [kdV,List.mem_cons,List.not_mem_nil,or_false] at hy
 rcases hy with rfl | rfl | rfl | rfl | rfl
 ·exact ⟨_,.int⟩
 ·exact ⟨_,.int⟩
 ·exact ⟨_,.int⟩
 ·exact ⟨_,.int⟩
 ·exact ⟨_,.bl⟩
theorem Paired.getR {α β:Type} {F:α→β→Prop}:∀ {l₁:List α} {l₂:List β} {i:Nat} {x:α},Paired F l₁ l₂→l₁[i]? = some x→∃y,l₂[i]? = some y∧F x y
 | _,_,_,_,.nil,e=>by simp at e
 | _,_,0,_,.cons h _,e=>by simp at e; subst e; exact ⟨_,rfl,h⟩
 | _,_,i + 1,x,.cons _ t,e=>by
  obtain ⟨y,h1,h2⟩:=Paired.getR (i:=i) (x:=x) t (by simpa using e)
  exact ⟨y,by simpa using h1,h2⟩
theorem RowAt.same {H H':Hp} {v:V} {k:Kd} (s:Same H H') (r:RowAt H v k):RowAt H' v k:=by
 rcases r with ⟨a,e,h⟩ | ⟨a,e,h⟩
 ·exact .inl ⟨a,e,s _ _ h⟩
 ·exact .inr ⟨a,e,s _ _ h⟩
theorem mn {K:PySem.W.Frag} {H:Hp} {v:V} {k:Kd} {Q:VK} {E:XK} (r:RowAt H v k) (g:Good k) (q:∀H',Same H H'→Q (.bl true) H'):ef K [v] H Q E:=by
 rcases r with ⟨a,rfl,h⟩ | ⟨a,rfl,h⟩
 ·exact ⟨_,_,rfl,.tup h,.inr ⟨a,_,rfl,.inr h,lG,fun H' s=>by rw [fP g]; exact q H' s⟩⟩
 ·exact ⟨_,_,rfl,.lst h,.inr ⟨a,_,rfl,.inl h,lG,fun H' s=>by rw [fP g]; exact q H' s⟩⟩
structure ShopTxt (K:PySem.W.Frag) (C:Addr):Prop where
 cl:Cls K C
 nB:NoAttr K C "blade_width"
 nK:NoAttr K C "kind_rows"
end Pc
set_option Elab.async false
set_option linter.all false
set_option maxRecDepth 100000
namespace L2
open PySem PySem.Spec PyProof.Rows
def Mn (P:Program) (w:World) (K:PySem.W.Frag) (mg:Str→Option Value) (base:Heap) (C:Addr) (m:Str) (ps:List Str) (k:Nat) (sp:Sp):Prop :=
 ∃ (f:Addr) (fd:FuncData),FnOk P w K mg base CX0 k f fd ps sp∧Binds K fd ps []∧Meth K C m f
theorem oz {X:Cx} {k:Nat} {C:Addr} {ps:List Str} {sp:Sp} {m:Str} {o:Expr} {ta:TE} {apos pos:Pos} {pl:Sem Bool} (he:PE X o ta) (c:Cls X.K C) (D:Mn X.prog X.w X.K X.mg X.base C m ps k sp) (hr:Room k X.A)
  (ht:eval (.Call (.Attribute o m apos) [] [] pos) X.env=(do
   let ov←eval o X.env
   standAt apos.atName
   let (f,first)←holding [ov] (getMethod ov m pl)
   callWith pos f first (backTo pos (starEach [] X.env)) (backToKw pos (keywordEach [] X.env))):=by rfl):PE X (.Call (.Attribute o m apos) [] [] pos) (lA C m sp [] E0 ta iL):=by
 obtain ⟨f,fd,F,hb,hm⟩:=D
 exact nY he c hm F hr hb .nil lD ht
def Kn (P:Program) (w:World) (K:PySem.W.Frag) (mg:Str→Option Value) (base:Heap) (x:Str) (C:Addr) (ps:List Str) (k:Nat) (sp:Sp):Prop :=
 ∃ (f:Addr) (fd:FuncData),Mk K C f∧FnOk P w K mg base CX0 k f fd ps sp∧Binds K fd ps []∧mg x=some (.ref C)
theorem xy {X:Cx} {k:Nat} {C:Addr} {ps:List Str} {sp:Sp} {x:Str} {p pos:Pos} {e:Expr} {es:List Expr} {t:TA} (D:Kn X.prog X.w X.K X.mg X.base x C ps k sp) (hr:Room (k + 1) X.A) (hg:Gl X x) (ha:PA X (e :: es) t)
  (hdb:(x == ("__debug__" : Str))=false:=by decide) (he:starEach (e :: es) X.env=(false,eval e X.env) :: starEach es X.env:=by rfl) (hpl:(backTo pos (starEach es X.env)).any (·.1)=false:=by rfl) :
  PE X (.Call (.Name x p) (e :: es) [] pos) (sd C sp [] E0 t):=by
 obtain ⟨f,fd,M,F,hb,hm⟩:=D
 exact qv M F hr hg hm hb .nil lD ha hdb he hpl
theorem cJ (xs:List V) (k:Nat):bO xs none (some (k:Int))=xs.take k:=by
 unfold bO
 rw [HT.sIx_none,HT.sIx_nat]
 simp only [List.drop_zero,Nat.sub_zero]
 rcases Nat.le_total k xs.length with h | h
 ·rw [Nat.min_eq_left h]
 ·rw [Nat.min_eq_right h,List.take_of_length_le (Nat.le_refl _),List.take_of_length_le h]
end L2
namespace Pc
open PySem L2
theorem Paired.takeP {α β:Type} {F:α→β→Prop}:∀ {l₁:List α} {l₂:List β} (n:Nat),Paired F l₁ l₂→Paired F (l₁.take n) (l₂.take n)
 | _,_,0,_=>.nil
 | _,_,_ + 1,.nil=>.nil
 | _,_,n + 1,.cons r t=>.cons r (Paired.takeP n t)
theorem Same.but {p:Addr} {H H':Hp} (s:Same H H'):But p H H':=fun b o _ e=>s b o e
theorem Same.new {q:Addr} {H:Hp} {o:HO} (h:H q=none):Same H (upd H q o):=fun b u e=>by rw [au (ai e h)]; exact e
end Pc
set_option Elab.async false
set_option linter.all false
set_option maxRecDepth 100000
namespace L2
open PySem PySem.Spec PyProof.Rows
def RI (M:Model) (Γ:PySem.Ctx) (p:Pos) (s:Shared) (e:End) (s':Shared):Sem Fin→Prop
 | .pure (.done f)=>e=.ret (.ok f)∧s=s'
 | .pure (.again c)=>Runs M (Γ.goto c) p (M.den c) [] s e s'
 | .raise x=>e=.ret (.error x)∧s=s'
 | .rule _ k=>Runs M Γ p (k ()) [] s e s'
 | .at p' k=>Runs M Γ p' (k ()) [] s e s'
 | .load a _ k=>∃o,s.heap.get? a=some o∧Runs M Γ p (k o) [] s e s'
 | .update a _ f k=>Runs M Γ p (k ()) [] { s with heap:=s.heap.update a f } e s'
 | .loadIfAlive a k=>Runs M Γ p (k (s.heap.get? a)) [] s e s'
 | .point _ k=>Runs M Γ p (k ()) [] s e s'
 | .alloc o k=>Runs M Γ p (k s.heap.objs.size) [] { s with heap:=s.heap.push o } e s'
 | .fresh k=>Runs M Γ p (k s.toks) [] { s with toks:=s.toks + 1 } e s'
 | .ask k=>Runs M Γ p (k ⟨M.prog,M.w.params⟩) [] s e s'
 | .choose src n k=>Runs M Γ p (k (M.w.draws src (s.drawn.get src) % n)) [] { s with drawn:=s.drawn.bump src } e s'
 | .os q _ k=>Runs M Γ p (k (Os.step s.os q).2) [] { s with os:=(Os.step s.os q).1 } e s'
 | .handled own k=>Runs M Γ p (k (if own then Γ.own else Γ.handled)) [] s e s'
 | .genState g k=>∃st,s.gens[g]? = some st∧Runs M Γ p (k st.seen) [] s e s'
 | .stack k=>Runs M Γ p (k ((Γ.code,p) :: Γ.below)) [] s e s'
 | .thread k=>Runs M Γ p (k 0) [] s e s'
 | .newGen c k=>Runs M Γ p (k s.gens.size) [] { s with gens:=s.gens.push (.fresh c) } e s'
 | .yield v g l k=>e=.susp v g l k Γ.code p []∧s=s'
 | .call c h g l k=>(∃r s₁,Runs M (Γ.enter c h p) p (M.den c) [] s (.ret r) s₁∧Runs M Γ p (k r) [] s₁ e s') ∨
   (∃v g₀ l₀ k₀ c₀ p₀ fs,Runs M (Γ.enter c h p) p (M.den c) [] s (.susp v g₀ l₀ k₀ c₀ p₀ fs) s'∧e=.susp v g₀ l₀ k₀ c₀ p₀ (fs ++ [.ret k h g l Γ.code p []]))
 | .resume g r _ k=>(∃c e₁ s₁,r=.send .none∧s.gens[g]? = some (.fresh c)∧Runs M (Γ.wake c p) p (M.den c) [] (s.setGen g .running) e₁ s₁∧Runs M Γ p (k e₁.result) [] (s₁.setGen g e₁.genState) e s') ∨
   (∃k₀ l₀ c₀ p₀ fs cl e₁ s₁,s.gens[g]? = some (.suspended k₀ l₀ c₀ p₀ fs cl)∧Runs M (Γ.wake c₀ p) p₀ (k₀ r) fs (s.setGen g .running) e₁ s₁∧Runs M Γ p (k e₁.result) [] (s₁.setGen g e₁.genState) e s') ∨
   (∃c v,r=.send v∧v≠.none∧s.gens[g]? = some (.fresh c)∧Runs M Γ p (k .justStarted) [] s e s') ∨
   (∃c x,r=.throw x∧s.gens[g]? = some (.fresh c)∧Runs M Γ p (k (.raised x)) [] (s.setGen g .finished) e s') ∨
   (s.gens[g]? = some .running∧Runs M Γ p (k .running) [] s e s')∨(s.gens[g]? = some .finished∧Runs M Γ p (k .finished) [] s e s')
 | _=>True
def RJ (M:Model) (Γ:PySem.Ctx) (p:Pos) (t:Sem Fin) (s:Shared) (e:End) (s':Shared):List Frame→Prop
 | []=>RI M Γ p s e s' t
 | F :: fs=>(∃k h g l c₁ p₁ kp r s₁,F=.ret k h g l c₁ p₁ kp∧Runs M (Γ.over (F :: fs)) p t [] s (.ret r) s₁∧Runs M (Γ.goto c₁) p₁ (k r) fs s₁ e s') ∨
   (∃g k l c₁ p₁ r s₁,F=.gen g k l c₁ p₁∧Runs M (Γ.over (F :: fs)) p t [] s (.ret r) s₁∧Runs M (Γ.goto c₁) p₁ (k (End.ret r).result) fs (s₁.setGen g .finished) e s') ∨
   (∃v g₀ l₀ k₀ c₀ p₀ fs₀,splitAtGen (F :: fs)=none∧Runs M (Γ.over (F :: fs)) p t [] s (.susp v g₀ l₀ k₀ c₀ p₀ fs₀) s'∧e=.susp v g₀ l₀ k₀ c₀ p₀ (fs₀ ++ F :: fs)) ∨
   (∃pre g k c₁ p₁ rest v g₀ l₀ k₀ c₀ p₀ fs₀ s₁,splitAtGen (F :: fs)=some (pre,(g,k,c₁,p₁),rest)∧Runs M (Γ.over (F :: fs)) p t [] s (.susp v g₀ l₀ k₀ c₀ p₀ fs₀) s₁∧Runs M (Γ.goto c₁) p₁ (k (.yielded v)) rest (s₁.setGen g (End.susp v g₀ l₀ k₀ c₀ p₀ (fs₀ ++ pre)).genState) e s')
theorem bp {M:Model} {Γ:PySem.Ctx} {p:Pos} {t:Sem Fin} {fs:List Frame} {s s':Shared} {e:End} (h:Runs M Γ p t fs s e s'):RJ M Γ p t s e s' fs:=by
 cases h with
 | done=>exact ⟨rfl,rfl⟩
 | raise=>exact ⟨rfl,rfl⟩
 | again _ b=>exact b
 | rule b=>exact b
 | «at» b=>exact b
 | load a b=>exact ⟨_,a,b⟩
 | update _ b=>exact b
 | loadIfAlive b=>exact b
 | point b=>exact b
 | alloc b=>exact b
 | fresh b=>exact b
 | ask b=>exact b
 | choose _ b=>exact b
 | os b=>exact b
 | handled b=>exact b
 | genState a b=>exact ⟨_,a,b⟩
 | stack b=>exact b
 | thread b=>exact b
 | newGen b=>exact b
 | call a b=>exact .inl ⟨_,_,a,b⟩
 | callSusp a=>exact .inr ⟨_,_,_,_,_,_,_,a,rfl⟩
 | yield=>exact ⟨rfl,rfl⟩
 | resumeFresh a b _ c=>exact .inl ⟨_,_,_,rfl,a,b,c⟩
 | resumeSuspended a b _ c=>exact .inr (.inl ⟨_,_,_,_,_,_,_,_,a,b,c⟩)
 | resumeJustStarted a b c=>exact .inr (.inr (.inl ⟨_,_,rfl,b,a,c⟩))
 | resumeThrowFresh a b=>exact .inr (.inr (.inr (.inl ⟨_,_,rfl,a,b⟩)))
 | resumeRunning a b=>exact .inr (.inr (.inr (.inr (.inl ⟨a,b⟩))))
 | resumeFinished a b=>exact .inr (.inr (.inr (.inr (.inr ⟨a,b⟩))))
 | segRet a b=>exact .inl ⟨_,_,_,_,_,_,_,_,_,rfl,a,b⟩
 | segGen a b=>exact .inr (.inl ⟨_,_,_,_,_,_,_,rfl,a,b⟩)
 | segSuspOut a b=>exact .inr (.inr (.inl ⟨_,_,_,_,_,_,_,a,b,rfl⟩))
 | segSuspGen a b _ c=>exact .inr (.inr (.inr ⟨_,_,_,_,_,_,_,_,_,_,_,_,_,_,a,b,c⟩))
theorem fQ {M:Model} {Γ:PySem.Ctx} {p:Pos} {t:Sem Fin} {fs:List Frame} {s s':Shared} {e:End} (h:Runs M Γ p t fs s e s'):∀ {e2:End} {s2:Shared},Runs M Γ p t fs s e2 s2→e=e2∧s'=s2:=by
 induction h with
 | done=>exact fun h2=>⟨(bp h2).1.symm,(bp h2).2⟩
 | raise=>exact fun h2=>⟨(bp h2).1.symm,(bp h2).2⟩
 | again _ _ ih=>exact fun h2=>ih (bp h2)
 | rule _ ih=>exact fun h2=>ih (bp h2)
 | «at» _ ih=>exact fun h2=>ih (bp h2)
 | load he _ ih =>
  intro e2 s2 h2
  obtain ⟨o,b1,b2⟩:=bp h2
  rw [he] at b1; cases b1; exact ih b2
 | update _ _ ih=>exact fun h2=>ih (bp h2)
 | loadIfAlive _ ih=>exact fun h2=>ih (bp h2)
 | point _ ih=>exact fun h2=>ih (bp h2)
 | alloc _ ih=>exact fun h2=>ih (bp h2)
 | fresh _ ih=>exact fun h2=>ih (bp h2)
 | ask _ ih=>exact fun h2=>ih (bp h2)
 | choose _ _ ih=>exact fun h2=>ih (bp h2)
 | os _ ih=>exact fun h2=>ih (bp h2)
 | handled _ ih=>exact fun h2=>ih (bp h2)
 | genState he _ ih =>
  intro e2 s2 h2
  obtain ⟨o,b1,b2⟩:=bp h2
  rw [he] at b1; cases b1; exact ih b2
 | stack _ ih=>exact fun h2=>ih (bp h2)
 | thread _ ih=>exact fun h2=>ih (bp h2)
 | newGen _ ih=>exact fun h2=>ih (bp h2)
 | call _ _ ih1 ih2 =>
  intro e2 s2 h2
  rcases bp h2 with ⟨r,s1,a,b⟩ | ⟨_,_,_,_,_,_,_,a,_⟩
  ·obtain ⟨q1,q2⟩:=ih1 a; cases q1; subst q2; exact ih2 b
  ·obtain ⟨q1,_⟩:=ih1 a; cases q1
 | callSusp _ ih1 =>
  intro e2 s2 h2
  rcases bp h2 with ⟨r,s1,a,b⟩ | ⟨_,_,_,_,_,_,_,a,b⟩
  ·obtain ⟨q1,_⟩:=ih1 a; cases q1
  ·obtain ⟨q1,q2⟩:=ih1 a; cases q1; exact ⟨b.symm,q2⟩
 | yield=>exact fun h2=>⟨(bp h2).1.symm,(bp h2).2⟩
 | resumeFresh hg _ _ _ ih1 ih2 =>
  intro e2 s2 h2
  rcases bp h2 with ⟨_,_,_,_,g,a,b⟩ | ⟨_,_,_,_,_,_,_,_,g,_⟩ | ⟨_,v,rv,n,_⟩ | ⟨_,_,rv,_⟩ | ⟨g,_⟩ | ⟨g,_⟩
  ·rw [hg] at g; cases g; obtain ⟨q1,q2⟩:=ih1 a; subst q1 q2; exact ih2 b
  ·rw [hg] at g; cases g
  ·cases rv; exact absurd rfl n
  ·cases rv
  ·rw [hg] at g; cases g
  ·rw [hg] at g; cases g
 | resumeSuspended hg _ _ _ ih1 ih2 =>
  intro e2 s2 h2
  rcases bp h2 with ⟨_,_,_,_,g,a,b⟩ | ⟨_,_,_,_,_,_,_,_,g,a,b⟩ | ⟨_,v,rv,n,g,_⟩ | ⟨_,_,rv,g,_⟩ | ⟨g,_⟩ | ⟨g,_⟩
  ·rw [hg] at g; cases g
  ·rw [hg] at g; cases g; obtain ⟨q1,q2⟩:=ih1 a; subst q1 q2; exact ih2 b
  ·rw [hg] at g; cases g
  ·rw [hg] at g; cases g
  ·rw [hg] at g; cases g
  ·rw [hg] at g; cases g
 | resumeJustStarted hg n _ ih =>
  intro e2 s2 h2
  rcases bp h2 with ⟨_,_,_,rv,_⟩ | ⟨_,_,_,_,_,_,_,_,g,a,b⟩ | ⟨_,v,rv,_,g,b⟩ | ⟨_,_,rv,g,_⟩ | ⟨g,_⟩ | ⟨g,_⟩
  ·cases rv; exact absurd rfl n
  ·rw [hg] at g; cases g
  ·exact ih b
  ·cases rv
  ·rw [hg] at g; cases g
  ·rw [hg] at g; cases g
 | resumeThrowFresh hg _ ih =>
  intro e2 s2 h2
  rcases bp h2 with ⟨_,_,_,rv,_⟩ | ⟨_,_,_,_,_,_,_,_,g,a,b⟩ | ⟨_,v,rv,_,g,b⟩ | ⟨_,_,rv,g,b⟩ | ⟨g,_⟩ | ⟨g,_⟩
  ·cases rv
  ·rw [hg] at g; cases g
  ·cases rv
  ·cases rv; exact ih b
  ·rw [hg] at g; cases g
  ·rw [hg] at g; cases g
 | resumeRunning hg _ ih =>
  intro e2 s2 h2
  rcases bp h2 with ⟨_,_,_,_,g,_⟩ | ⟨_,_,_,_,_,_,_,_,g,a,b⟩ | ⟨_,v,rv,_,g,b⟩ | ⟨_,_,rv,g,b⟩ | ⟨g,b⟩ | ⟨g,_⟩
  ·rw [hg] at g; cases g
  ·rw [hg] at g; cases g
  ·rw [hg] at g; cases g
  ·rw [hg] at g; cases g
  ·exact ih b
  ·rw [hg] at g; cases g
 | resumeFinished hg _ ih =>
  intro e2 s2 h2
  rcases bp h2 with ⟨_,_,_,_,g,_⟩ | ⟨_,_,_,_,_,_,_,_,g,a,b⟩ | ⟨_,v,rv,_,g,b⟩ | ⟨_,_,rv,g,b⟩ | ⟨g,b⟩ | ⟨g,b⟩
  ·rw [hg] at g; cases g
  ·rw [hg] at g; cases g
  ·rw [hg] at g; cases g
  ·rw [hg] at g; cases g
  ·rw [hg] at g; cases g
  ·exact ih b
 | segRet _ _ ih1 ih2 =>
  intro e2 s2 h2
  rcases bp h2 with ⟨_,_,_,_,_,_,_,_,_,z,a,b⟩ | ⟨_,_,_,_,_,_,_,z,_⟩ | ⟨_,_,_,_,_,_,_,_,a,_⟩ | ⟨_,_,_,_,_,_,_,_,_,_,_,_,_,_,_,a,_⟩
  ·cases z; obtain ⟨q1,q2⟩:=ih1 a; cases q1; subst q2; exact ih2 b
  ·cases z
  ·obtain ⟨q1,_⟩:=ih1 a; cases q1
  ·obtain ⟨q1,_⟩:=ih1 a; cases q1
 | segGen _ _ ih1 ih2 =>
  intro e2 s2 h2
  rcases bp h2 with ⟨_,_,_,_,_,_,_,_,_,z,a,b⟩ | ⟨_,_,_,_,_,_,_,z,a,b⟩ | ⟨_,_,_,_,_,_,_,_,a,_⟩ | ⟨_,_,_,_,_,_,_,_,_,_,_,_,_,_,_,a,_⟩
  ·cases z
  ·cases z; obtain ⟨q1,q2⟩:=ih1 a; cases q1; subst q2; exact ih2 b
  ·obtain ⟨q1,_⟩:=ih1 a; cases q1
  ·obtain ⟨q1,_⟩:=ih1 a; cases q1
 | segSuspOut hn _ ih1 =>
  intro e2 s2 h2
  rcases bp h2 with ⟨_,_,_,_,_,_,_,_,_,z,a,b⟩ | ⟨_,_,_,_,_,_,_,z,a,b⟩ | ⟨_,_,_,_,_,_,_,_,a,z⟩ | ⟨_,_,_,_,_,_,_,_,_,_,_,_,_,_,hs,a,_⟩
  ·obtain ⟨q1,_⟩:=ih1 a; cases q1
  ·obtain ⟨q1,_⟩:=ih1 a; cases q1
  ·obtain ⟨q1,q2⟩:=ih1 a; cases q1; exact ⟨z.symm,q2⟩
  ·rw [hn] at hs; cases hs
 | segSuspGen hs _ _ _ ih1 ih2 =>
  intro e2 s2 h2
  rcases bp h2 with ⟨_,_,_,_,_,_,_,_,_,z,a,b⟩ | ⟨_,_,_,_,_,_,_,z,a,b⟩ | ⟨_,_,_,_,_,_,_,hn,a,z⟩ | ⟨_,_,_,_,_,_,_,_,_,_,_,_,_,_,hs',a,b⟩
  ·obtain ⟨q1,_⟩:=ih1 a; cases q1
  ·obtain ⟨q1,_⟩:=ih1 a; cases q1
  ·rw [hn] at hs; cases hs
  ·rw [hs] at hs'; cases hs'; obtain ⟨q1,q2⟩:=ih1 a; cases q1; subst q2; exact ih2 b
theorem qE {α:Type} (M:Model) (Γ:PySem.Ctx) (t:Sem α):∀ (Q Q':α→Pos→Shared→Prop) (E E':Value→Pos→Shared→Prop) (p:Pos) (s:Shared),Sem.wp M Γ t Q E p s→Sem.wp M Γ t Q' E' p s →
  Sem.wp M Γ t (fun a p' s'=>Q a p' s'∧Q' a p' s') (fun e p' s'=>E e p' s'∧E' e p' s') p s:=by
 have det:∀ {Δ:PySem.Ctx} {p:Pos} {s:Shared} {r r':Result} {s1 s2:Shared},Returns M Δ p s r s1→Returns M Δ p s r' s2→r=r'∧s1=s2:=by
  intro Δ p s r r' s1 s2 h1 h2
  obtain ⟨q1,q2⟩:=fQ h1 h2
  cases q1
  exact ⟨rfl,q2⟩
 have detW:∀ {Δ:PySem.Ctx} {p:Pos} {g:Nat} {r:Resume} {s:Shared} {x x':GenResult} {s1 s2:Shared},Wakes M Δ p g r s x s1→Wakes M Δ p g r s x' s2→x=x'∧s1=s2:=by
  intro Δ p g r s x x' s1 s2 h1 h2
  unfold Wakes at h1 h2
  split at h1
  ·exact h1.elim
  ·split at h1
   ·obtain ⟨e1,t1,a1,_,rfl,rfl⟩:=h1
    rename_i hg _ _
    simp only [hg] at h2
    obtain ⟨e2,t2,a2,_,rfl,rfl⟩:=h2
    obtain ⟨q1,q2⟩:=fQ a1 a2
    subst q1 q2
    exact ⟨rfl,rfl⟩
   ·rename_i hg _ _ hn
    simp only [hg] at h2
    obtain ⟨rfl,rfl⟩:=h1
    obtain ⟨rfl,rfl⟩:=h2
    exact ⟨rfl,rfl⟩
   ·rename_i hg _ _
    simp only [hg] at h2
    obtain ⟨rfl,rfl⟩:=h1
    obtain ⟨rfl,rfl⟩:=h2
    exact ⟨rfl,rfl⟩
  ·rename_i hg
   simp only [hg] at h2
   obtain ⟨e1,t1,a1,_,rfl,rfl⟩:=h1
   obtain ⟨e2,t2,a2,_,rfl,rfl⟩:=h2
   obtain ⟨q1,q2⟩:=fQ a1 a2
   subst q1 q2
   exact ⟨rfl,rfl⟩
  ·rename_i hg
   simp only [hg] at h2
   obtain ⟨rfl,rfl⟩:=h1
   obtain ⟨rfl,rfl⟩:=h2
   exact ⟨rfl,rfl⟩
  ·rename_i hg
   simp only [hg] at h2
   obtain ⟨rfl,rfl⟩:=h1
   obtain ⟨rfl,rfl⟩:=h2
   exact ⟨rfl,rfl⟩
 induction t with
 | pure a=>intro Q Q' E E' p s h h'; exact ⟨h,h'⟩
 | raise e=>intro Q Q' E E' p s h h'; exact ⟨h,h'⟩
 | unsupported _=>intro Q Q' E E' p s h _; exact h
 | finish _=>intro Q Q' E E' p s h _; exact h
 | rule _ k ih=>intro Q Q' E E' p s h h'; exact ih () _ _ _ _ p s h h'
 | «at» p' k ih=>intro Q Q' E E' p s h h'; exact ih () _ _ _ _ p' s h h'
 | load a _ k ih =>
  intro Q Q' E E' p s h h'; obtain ⟨o,ho,h⟩:=h; obtain ⟨o',ho',h'⟩:=h'
  rw [ho] at ho'; cases ho'; exact ⟨o,ho,ih o _ _ _ _ p s h h'⟩
 | update a _ f k ih=>intro Q Q' E E' p s h h'; exact ⟨h.1,ih () _ _ _ _ p _ h.2 h'.2⟩
 | loadIfAlive a k ih=>intro Q Q' E E' p s h h'; exact ih _ _ _ _ _ p s h h'
 | point _ k ih=>intro Q Q' E E' p s h h'; exact ih () _ _ _ _ p s h h'
 | register _ _=>intro Q Q' E E' p s h _; exact h
 | alloc o k ih=>intro Q Q' E E' p s h h'; exact ih _ _ _ _ _ p _ h h'
 | fresh k ih=>intro Q Q' E E' p s h h'; exact ih _ _ _ _ _ p _ h h'
 | ask k ih=>intro Q Q' E E' p s h h'; exact ih _ _ _ _ _ p s h h'
 | choose src m k ih=>intro Q Q' E E' p s h h'; exact ⟨h.1,ih _ _ _ _ _ p _ h.2 h'.2⟩
 | os q _ k ih=>intro Q Q' E E' p s h h'; exact ih _ _ _ _ _ p _ h h'
 | call c hd _ _ k ih =>
  intro Q Q' E E' p s h h'; obtain ⟨r,s',hr,h⟩:=h; obtain ⟨r',s'',hr',h'⟩:=h'
  obtain ⟨rfl,rfl⟩:=det hr hr'
  exact ⟨r,s',hr,ih r _ _ _ _ p s' h h'⟩
 | handled own k ih=>intro Q Q' E E' p s h h'; exact ih _ _ _ _ _ p s h h'
 | genState g k ih =>
  intro Q Q' E E' p s h h'; obtain ⟨st,hs,h⟩:=h; obtain ⟨st',hs',h'⟩:=h'
  rw [hs] at hs'; cases hs'; exact ⟨st,hs,ih _ _ _ _ _ p s h h'⟩
 | newGen c k ih=>intro Q Q' E E' p s h h'; exact ih _ _ _ _ _ p _ h h'
 | resume g r _ k ih =>
  intro Q Q' E E' p s h h'; obtain ⟨x,s',hw,h⟩:=h; obtain ⟨x',s'',hw',h'⟩:=h'
  obtain ⟨rfl,rfl⟩:=detW hw hw'
  exact ⟨x,s',hw,ih x _ _ _ _ p s' h h'⟩
 | yield _ _ _ _=>intro Q Q' E E' p s h _; exact h
 | stack k ih=>intro Q Q' E E' p s h h'; exact ih _ _ _ _ _ p s h h'
 | fork _ _=>intro Q Q' E E' p s h _; exact h
 | thread k ih=>intro Q Q' E E' p s h h'; exact ih _ _ _ _ _ p s h h'
 | await _ _ _ _ _=>intro Q Q' E E' p s h _; exact h
theorem cj {α:Type} {M:Model} {A:Around} {t:Sem α} {Q Q':α→Shared→Prop} {E E':Value→Shared→Prop} {s:Shared} (h:wpAny M A t Q E s) (h':wpAny M A t Q' E' s) :
  wpAny M A t (fun a s'=>Q a s'∧Q' a s') (fun e s'=>E e s'∧E' e s') s:=fun Γ p hΓ=>qE M Γ t _ _ _ _ p s (h Γ p hΓ) (h' Γ p hΓ)
def Q2 (e:Addr) (h:Heap):Prop:=∃oe vs,h.get? e=some oe∧oe.data=.fields vs∧vs[2]? = some .none
section
variable {M:Model} {A:Around} {E:Value→Shared→Prop} {s:Shared} {base:Heap} {env:Env} {outer l:List Env} {L e:Addr} {cls a0 fl:Value} {Q:Unit→Shared→Prop}
theorem Q2.set {e c:Addr} {h:Heap} {i:Nat} {v:Value} (hi:i≠2) (q:Q2 e h):Q2 e (h.update c (Obj.mapFields (·.setIfInBounds i v))):=by
 obtain ⟨oe,vs,he,hd,h2⟩:=q
 by_cases z:c=e
 ·subst z
  have hd':=Obj.data_mapFields hd (·.setIfInBounds i v)
  exact ⟨_,_,Heap.get?_update_self _ he (Obj.isFreed_of_fields hd'),hd',by rw [Array.getElem?_setIfInBounds_ne hi]; exact h2⟩
 ·exact ⟨oe,vs,(Heap.get?_update_other _ _ z).trans he,hd,h2⟩
theorem Q2.push {e:Addr} {h:Heap} {o:Obj} (q:Q2 e h):Q2 e (h.push o):=let ⟨oe,vs,he,r⟩:=q; ⟨oe,vs,Heap.get?_push_of_some _ he,r⟩
theorem oA {head:Value} {nx:Bool} (hfr:A.frames=some (env :: outer)) (hl:s.heap.FunFrames base (env :: outer)) (hf:env.frame=some L) (q:Q2 e s.heap)
  (h:∀h₁ o ts,Q2 e h₁→o.data=.fields ts→3 < ts.size→Q () { s with heap:=(h₁.push o).update e (Obj.mapFields (·.setIfInBounds 1 (Value.ref h₁.objs.size))) }) :
  wpAny M A (do let a←frameOf env; let pl←entryPlaceOf L nx; let b←EntryCells.newEntry head a .none (rawInt L) .none pl; setField (.ref e) 1 b) Q E s:=by
 obtain ⟨oe,vs,he,hd,h2⟩:=q
 have hene:e∉(env :: outer).filterMap (·.frame):=fun hm=>by
  obtain ⟨_,o,ho,hnf⟩:=hl.mem hm
  rw [he] at ho; injection ho with ho; subst ho; exact hnf vs hd
 refine wpAny_bind (wpAny_frameOf_fun hfr hl hf fun h₁ hs₁=>?_)
 refine wpAny_bind (wpAny_entryPlaceOf fun pl hpl=>?_)
 unfold EntryCells.newEntry newFields
 refine wpAny_bind (wpAny_newObj_type ?_ (hpl.sizeOk5 _ _ _ _ _))
 have he₁:h₁.get? e=some oe:=(hs₁.2.1 e hene).trans he
 have h2s:2 < vs.size:=(Array.getElem?_eq_some_iff.mp h2).1
 exact wpAny_setField (Heap.get?_push_of_some _ he₁) hd (by omega) (h h₁ _ _ ⟨oe,vs,he₁,hd,h2⟩ rfl (by simp only [List.size_toArray,List.length_append,List.length_cons,List.length_nil]; omega))
theorem ib (tr:s.heap.TracedAtW base e cls a0 fl) (q:Q2 e s.heap):wpAny M A (setFlight (.ref e) none) (fun _ s'=>Q2 e s'.heap) E s:=by
 obtain ⟨oe,vs,T,oT,ts,he,hcls,hd,h1,hnT,hTe,hT,hdT,h3⟩:=tr
 unfold setFlight
 refine wpAny_bind (wpAny_field he hd h1 ?_)
 rw [if_pos (show (Value.ref T != Value.none)=true from by simp)]
 exact wpAny_setField hT hdT (Array.getElem?_eq_some_iff.mp h3).1 (q.set (by decide))
theorem xz (hfr:A.frames=some (env :: outer)) (hf:env.frame=some L) (f:Heap.FlyingW base (env :: outer) e cls a0 s.heap) (q:Q2 e s.heap):wpAny M A (noteFrame (.ref e) env) (fun _ s'=>Q2 e s'.heap) E s:=by
 obtain ⟨hkb,hen,hl,oe,vs,T,oT,ts,he,hcls,hd,h1,hnT,hTe,hT,hdT,h3⟩:=f
 unfold noteFrame
 simp only [hf]
 refine wpAny_bind (wpAny_field he hd h1 ?_)
 rw [if_pos (show (Value.ref T != Value.none)=true from by simp)]
 refine wpAny_bind (wpAny_field hT hdT h3 ?_)
 rw [if_neg (show ¬ ((Value.none == rawInt L)=true) from by simp [rawInt])]
 refine wpAny_bind (wpAny_setField hT hdT (Array.getElem?_eq_some_iff.mp h3).1 ?_)
 refine oA (s:={ s with heap:=s.heap.update T (Obj.mapFields (·.setIfInBounds 3 Value.none)) }) hfr (hl.of_keeps fun b o hb hnf=>⟨o,(Heap.get?_update_other _ _ (fun z=>?_)).trans hb,rfl⟩) hf (q.set (by decide)) fun h₁ o _ q1 _ _=>q1.push.set (by decide)
 rw [← z,hT] at hb; injection hb with hb; subst hb; exact hnf ts hdT
theorem sX {h:Heap} {args:List Value} (hfr:A.frames=some (env :: outer)) (hf:env.frame=some L) (hl:h.FunFrames base (env :: outer)) (hx:Heap.MadeExcOf h s.heap e cls args):wpAny M A (leaving env (.ref e)) (fun _ s'=>Q2 e s'.heap) E s:=by
 obtain ⟨t,he,htn,ht⟩:=hx.there
 have q:Q2 e s.heap:=⟨_,_,he,rfl,rfl⟩
 unfold leaving noteFrame
 simp only [hf]
 refine wpAny_bind (wpAny_bind (wpAny_field he rfl (x:=.none) rfl ?_))
 rw [if_neg (by decide)]
 refine oA (base:=base) hfr (hl.of_keeps fun b o hb _=>⟨o,hx.keeps b o hb,rfl⟩) hf q fun h₁ o ts q1 ho h3=>?_
 obtain ⟨oe1,vs1,he1,hd1,h21⟩:=q1
 have hTe:h₁.objs.size≠e:=Nat.ne_of_gt (Heap.lt_size he1)
 have hd3:=Obj.data_mapFields hd1 (·.setIfInBounds 1 (Value.ref h₁.objs.size))
 have he3:=Heap.get?_update_self (Obj.mapFields (·.setIfInBounds 1 (Value.ref h₁.objs.size))) (Heap.get?_push_of_some o he1) (Obj.isFreed_of_fields hd3)
 have h2s:2 < vs1.size:=(Array.getElem?_eq_some_iff.mp h21).1
 have hT:=(Heap.get?_update_other (h₁.push o) (Obj.mapFields (·.setIfInBounds 1 (Value.ref h₁.objs.size))) (Ne.symm hTe)).trans (Heap.get?_push_size h₁ (Obj.isFreed_of_fields ho))
 unfold setFlight
 refine wpAny_bind (wpAny_field he3 hd3 (x:=.ref h₁.objs.size) (by rw [Array.getElem?_setIfInBounds_self_of_lt (by omega)]) ?_)
 rw [if_pos (show (Value.ref h₁.objs.size != Value.none)=true from by simp)]
 exact wpAny_setField hT ho h3 ((Q2.push (o:=o) ⟨oe1,vs1,he1,hd1,h21⟩).set (i:=1) (by decide) |>.set (by decide))
end
section
variable {M:Model} {A:Around} {E:Value→Shared→Prop} {s:Shared} {base:Heap} {env:Env} {outer l:List Env} {L e:Addr} {cls a0 fl:Value} {Q:Unit→Shared→Prop}
theorem ic {h:Heap} {args:List Value} (hfr:A.frames=some (env :: outer)) (hf:env.frame=some L) (hkb:base.StaysIn h) (hl:h.FunFrames base (env :: outer)) (hx:Heap.MadeExcOf h s.heap e cls args)
  (hQ:∀h' t,Heap.FlyingW base outer e cls (.ref t) h'→h'.TupAt t args→base.get? t=none→s.heap.UpToSlots h'→Q2 e h'→Q () { s with heap:=h' }):wpAny M A (leaving env (.ref e)) Q E s :=
 wpAny_mono (cj (sX (E:=E) hfr hf hl hx) (wpAny_leaves_madeW (Q:=fun _ s'=>Q2 e s'.heap→Q () s') (E:=E) hfr hf hkb hl hx fun h' t a b c d q=>hQ h' t a b c d q)) (fun _ _ z=>z.2 z.1) fun _ _ z=>z.1
theorem gN (hfr:A.frames=some (env :: outer)) (hf:env.frame=some L) (f:Heap.FlyingW base (env :: outer) e cls a0 s.heap) (q:Q2 e s.heap)
  (hQ:∀h',Heap.HeldW base (env :: outer) e cls a0 L h'→s.heap.UpToSlots h'→Q2 e h'→Q () { s with heap:=h' }):wpAny M A (noteFrame (.ref e) env) Q E s :=
 wpAny_mono (cj (xz (E:=E) hfr hf f q) (wpAny_looks_onW (Q:=fun _ s'=>Q2 e s'.heap→Q () s') (E:=E) hfr hf f fun h' a b q=>hQ h' a b q)) (fun _ _ z=>z.2 z.1) fun _ _ z=>z.1
theorem sY (hh:Heap.HeldW base l e cls a0 L s.heap) (q:Q2 e s.heap) (hQ:∀h',Heap.FlyingW base l e cls a0 h'→s.heap.UpToSlots h'→Q2 e h'→Q () { s with heap:=h' }):wpAny M A (setFlight (.ref e) none) Q E s :=
 wpAny_mono (cj (ib (E:=E) hh.2.2.2 q) (wpAny_landsW (Q:=fun _ s'=>Q2 e s'.heap→Q () s') (E:=E) hh fun h' a b q=>hQ h' a b q)) (fun _ _ z=>z.2 z.1) fun _ _ z=>z.1
theorem ie (hh:Heap.FlyingW base l e cls a0 s.heap) (q:Q2 e s.heap) (hQ:∀h',Heap.FlyingW base l e cls a0 h'→s.heap.UpToSlots h'→Q2 e h'→Q () { s with heap:=h' }):wpAny M A (setFlight (.ref e) none) Q E s :=
 wpAny_mono (cj (ib (E:=E) hh.2.2.2.at q) (lands_againW (Q:=fun _ s'=>Q2 e s'.heap→Q () s') (E:=E) hh fun h' a b q=>hQ h' a b q)) (fun _ _ z=>z.2 z.1) fun _ _ z=>z.1
end
end L2
set_option Elab.async false
set_option linter.all false
set_option maxRecDepth 100000
namespace L2
open PySem PySem.Spec PyProof.Rows
theorem ObjOk.ex {P:Program} {w:World} {H:Hp} {h:Heap} {a:Addr} {o:HO} (x:ObjOk P w H h a o):∃ob,h.get? a=some ob:=by
 cases o with
 | lst xs=>obtain ⟨_,_,_,_,e⟩:=x; exact ⟨_,e⟩
 | tup xs=>obtain ⟨_,_,_,o,e,_⟩:=x; exact ⟨_,e⟩
 | dK kvs=>obtain ⟨_,_,_,_,o,_,_,e,_⟩:=x; exact ⟨_,e⟩
 | dT kvs=>obtain ⟨_,_,_,_,o,_,_,e,_⟩:=x; exact ⟨_,e⟩
 | set S n=>obtain ⟨o,_,_,_,e,_⟩:=x; exact ⟨_,e⟩
 | ins C dx fs=>obtain ⟨_,_,_,e,_⟩:=x; exact ⟨_,e⟩
 | own y=>exact x
 | xd fs=>obtain ⟨_,⟨_,_,_,e,_⟩,_⟩:=x; exact ⟨_,e⟩
 | rng lo hi=>obtain ⟨_,_,_,e⟩:=x; exact ⟨_,e⟩
 | frz ob u=>exact ⟨_,x.1⟩
 | tbl ps=>exact ⟨_,(show h.get? a=some _ from x)⟩
 | met f y=>exact ⟨_,(show h.get? a=some _ from x)⟩
 | ext φ=>exact x.2.1
structure Flew (P:Program) (w:World) (outer:List Env) (H:Hp) (s:Shared) (ea:Addr) (C:Value) (H':Hp) (B:Heap) (s':Shared):Prop where
 os:s'.os=s.os
 bare:AllBare s'.gens
 un:Un (frs outer) [] H H' s.heap s'.heap
 hok:HOk P w H' s'.heap
 fly:∃a0,Heap.FlyingW B outer ea C a0 s'.heap
 ctx:Q2 ea s'.heap
 cov:∀b o,b∉frs outer→(H' b≠none∨∃o',s.heap.get? b=some o')→s'.heap.get? b=some o→B.get? b=some o
 new:s.heap.get? ea=none∧H' ea=none
def CXx (P:Program) (w:World):CXT:=fun outer H s E e s'=>∃ea C H' B,e=Value.ref ea∧Flew P w outer H s ea C H' B s'∧E C none H'
section
variable {X:Cx} {pins:List (Addr×Obj)} {σ:St} {H:Hp} {s:Shared}
theorem Inv.raised {h2:Heap} {ea:Addr} {C:Value} {vs:List Value} {M:Model} {E:Value→Shared→Prop} {Q:Unit→Shared→Prop} (I:Inv X pins σ H s) (hst:X.stack=X.env :: X.outer) (hfr:X.env.frame=some X.env.locals) (hex:X.ex=[])
  (hx:Heap.MadeExcOf s.heap h2 ea C vs) (hQ:∀B h',Flew X.prog X.w X.outer X.H₀ X.s₀ ea C H B { s with heap:=h' }→Q () { s with heap:=h' }) :
  wpAny M X.A (leaving X.env (.ref ea)) Q E { s with heap:=h2 }:=by
 have fS:frs X.stack=X.env.locals :: X.fs:=by rw [hst]; unfold frs; rw [List.filterMap_cons,hfr]; rfl
 have st:s.heap.FunFrames X.base (X.env :: X.outer):=by rw [← hst]; exact I.stack
 have hin:∀env∈(X.env :: X.outer),∀b,env.frame=some b→b∈frs X.stack:=fun env he b hb=>by rw [hst]; exact List.mem_filterMap.mpr ⟨env,he,hb⟩
 have s0L:∀b o,X.s₀.heap.get? b=some o→b≠X.env.locals:=fun b o e=>Nat.ne_of_lt (Nat.lt_of_lt_of_le (Heap.lt_size e) I.ok.above)
 have Ubase:Un X.fs [] X.H₀ H X.s₀.heap s.heap:=by have:=I.base; rw [hex] at this; exact this
 have trk:∀b u,H b=some u→b∉frs X.stack:=fun b u e hb=>by rw [I.stkFree b hb] at e; cases e
 have ofd:∀b,b∈X.fs→∃o,s.heap.get? b=some o∧∀vs,o.data≠.fields vs:=fun b hb=>by
  obtain ⟨_,o,ho,hd⟩:=I.funs.mem hb
  exact ⟨o,ho,hd⟩
 refine ic (base:=PySem.W.hideAll s.heap (frs X.stack)) (h:=s.heap) (by rw [← hst]; exact I.ok.frames) hfr (fun b o q=>PySem.W.of_hideAll _ q) (PySem.W.funFrames_hide st hin) hx fun h' t fl tup hbt sm q2=>hQ (PySem.W.hideAll s.heap (frs X.stack)) h' ?_
 have toB:∀b o,b∉frs X.stack→s.heap.get? b=some o→h'.get? b=some o:=fun b o nb e=>fl.1 _ _ (PySem.W.hideAll_get _ e nb)
 have nfs:∀b o,X.s₀.heap.get? b=some o→b∉X.fs→b∉frs X.stack:=fun b o e nb z=>by
  rw [fS] at z
  rcases List.mem_cons.mp z with q | q
  ·exact s0L b o e q
  ·exact nb q
 have slot1:∀b o,b∈X.fs→s.heap.get? b=some o→∃sl,h'.get? b=some { o with slots:=sl }:=fun b o hb e=>by
  obtain ⟨o',e',hd⟩:=ofd b hb
  rw [e] at e'; cases e'
  exact sm b o (hx.keeps _ _ e) hd
 refine ⟨I.os,I.bare,⟨fun b o e n hb _=>?_,fun b o e n hb _=>?_,fun b o e n _=>Ubase.free b o e n (by simp),fun b o e _=>?_,Ubase.tups,Ubase.frzs,Ubase.tbls⟩,fun b u e=>?_,⟨_,fl⟩,q2,fun b o nb hh e=>?_,?_,?_⟩
 ·exact toB b o (nfs b o e hb) (Ubase.keep b o e n hb (by simp))
 ·obtain ⟨sl,e1⟩:=Ubase.slot b o e n hb (by simp)
  obtain ⟨sl',e2⟩:=slot1 b _ hb e1
  exact ⟨sl',e2⟩
 ·obtain ⟨o',e1⟩:=Ubase.there b o e (by simp)
  by_cases hb:b∈X.fs
  ·obtain ⟨sl,e2⟩:=slot1 b _ hb e1
   exact ⟨_,e2⟩
  ·exact ⟨o',toB b o' (nfs b o e hb) e1⟩
 ·refine (I.hok b u e).stay (fun c v hc q=>toB c v ?_ q) (fun _ q=>q) fun _ _ q=>q
  rcases hc with z | z
  ·rw [z]; exact trk b u e
  ·exact trk c _ z
 ·rcases hh with z | ⟨o',z⟩
  ·cases q:H b with
   | none=>exact absurd q z
   | some u =>
    obtain ⟨ob,eb⟩:=(I.hok b u q).ex
    have eB:=PySem.W.hideAll_get _ eb (trk b u q)
    have:=fl.1 _ _ eB
    rw [e] at this; cases this
    exact eB
  ·obtain ⟨o'',e1⟩:=Ubase.there b o' z (by simp)
   have eB:=PySem.W.hideAll_get _ e1 (nfs b o' z nb)
   have:=fl.1 _ _ eB
   rw [e] at this; cases this
   exact eB
 ·cases q:X.s₀.heap.get? ea with
  | none=>rfl
  | some o =>
   obtain ⟨o',e1⟩:=Ubase.there ea o q (by simp)
   rw [hx.new] at e1; cases e1
 ·cases q:H ea with
  | none=>rfl
  | some u =>
   obtain ⟨ob,eb⟩:=(I.hok ea u q).ex
   rw [hx.new] at eb; cases eb
theorem Flew.inv {ea:Addr} {C:Value} {H':Hp} {B h6:Heap} {s':Shared} {t:Nat} (I:Inv X pins σ H s) (f:Flew X.prog X.w X.stack H s ea C H' B s') (hB:B.StaysIn h6) (sm:s'.heap.UpToSlots h6):Inv X pins σ H' { s' with heap:=h6,toks:=t }:=by
 have trk:∀b u,H' b=some u→b∉frs X.stack:=fun b u e hb=>by
  obtain ⟨o,ho⟩:∃o,s.heap.get? b=some o:=let ⟨_,o,ho,_⟩:=I.stack.mem hb; ⟨o,ho⟩
  have:=f.un.free b o ho (I.stkFree b hb) (by simp)
  rw [this] at e; cases e
 have slot1:∀b o,b∈frs X.stack→s'.heap.get? b=some o→∃sl,h6.get? b=some { o with slots:=sl }:=fun b o hb e=>by
  obtain ⟨a0,fl⟩:=f.fly
  obtain ⟨_,o',e',hd⟩:=fl.2.2.1.mem hb
  rw [e] at e'; cases e'
  exact sm b o e hd
 refine I.call' (ch:=[]) f.os ⟨fun b o e n hb _=>?_,fun b o e n hb _=>?_,fun b o e n _=>f.un.free b o e n (by simp),fun b o e _=>?_,f.un.tups,f.un.frzs,f.un.tbls⟩ (fun b u e=>?_) f.bare (fun b z=>absurd z (by simp))
 ·exact hB _ _ (f.cov b o hb (.inr ⟨o,e⟩) (f.un.keep b o e n hb (by simp)))
 ·obtain ⟨sl,e1⟩:=f.un.slot b o e n hb (by simp)
  obtain ⟨sl',e2⟩:=slot1 b _ hb e1
  exact ⟨sl',e2⟩
 ·obtain ⟨o',e1⟩:=f.un.there b o e (by simp)
  by_cases hb:b∈frs X.stack
  ·obtain ⟨sl,e2⟩:=slot1 b _ hb e1
   exact ⟨_,e2⟩
  ·exact ⟨o',hB _ _ (f.cov b o' hb (.inr ⟨o,e⟩) e1)⟩
 ·refine (f.hok b u e).stay (fun c v hc q=>?_) (fun _ q=>q) fun _ _ q=>q
  have hc':H' c≠none:=by
   rcases hc with z | z
   ·rw [z,e]; exact fun z=>nomatch z
   ·rw [z]; exact fun z=>nomatch z
  have nc:c∉frs X.stack:=by
   cases q':H' c with
   | none=>exact absurd q' hc'
   | some u'=>exact trk c u' q'
  exact hB _ _ (f.cov c v nc (.inl hc') q)
end
def bmVE:List Value:=[.type "ValueError",.type "Exception",.type "BaseException",.type "object"]
def ExcC (K:PySem.W.Frag) (C:Addr):Prop:=PySem.W.excIn K C bmVE "ValueError.__new__" = true
theorem ExcC.obj {K:PySem.W.Frag} {C:Addr} {h:Heap} (X:K.In h) (q:ExcC K C):∃bm N nm qn bs hdct sn sub ab col dd k0 k1 k2 k3 k5 mN,
  h.get? C=some (excClassObj nm qn C N bs bm hdct sn sub ab col dd k0 k1 k2 k3 k5 "ValueError.__new__")∧h.Ns N mN∧mN "__init__" = none∧OwnTail h bmVE bm:=by
 unfold ExcC PySem.W.excIn at q
 split at q
 ·rename_i dd cd sl ho
  split at q
  ·rename_i C' bm k0 k1 k2 k3 n k5 hm hs
   simp only [Bool.and_eq_true,beq_iff_eq,Bool.not_eq_true'] at q
   obtain ⟨⟨⟨⟨⟨e1,e2⟩,e3⟩,e4⟩,e5⟩,e6⟩:=q
   obtain ⟨nm,bs,mro,ns,qn,hd,sn,sub,ab,col,del⟩:=cd
   dsimp only at hm e3 e5 e6
   subst e1 e2 hm e3
   obtain ⟨l⟩:=sl
   simp only at hs
   subst hs
   exact ⟨bm,ns,nm,qn,bs,hd,sn,sub,ab,col,dd,k0,k1,k2,k3,k5,_,X _ _ ho,.of_isNs (PySem.W.isNs_of_in X e5),PySem.W.nsMap_none_of_in X e5 e6,PySem.W.tail_of_in X e4⟩
  ·cases q
 ·cases q
section
variable {X:Cx} {x:Str} {C:Addr} {e0:Expr} {np cpos pos:Pos} {t:TA}
def td (R:Value→Hp→Prop) (C:Addr) (t:TA):TS:=fun _ σ H=>t σ H fun vs H1=>vs.length≤sizeLine∧R (.ref C) H1
theorem iT {R:Value→Hp→Prop} (hc:X.calm=true) (hg:Gl X x) (hm:X.mg x=some (.ref C)) (ec:ExcC X.K C) (ha:PA X [e0] t)
  (hR:∀pins σ H s h2 ea vs,Inv X pins σ H s→Heap.MadeExcOf s.heap h2 ea (.ref C) vs→R (.ref C) H→X.xe (.ref ea) { s with heap:=h2 })
  (he:starEach [e0] X.env=[(false,eval e0 X.env)]:=by rfl) (hd:(x == ("__debug__" : Str))=false:=by decide) :
  PS X (.Raise (some (.Call (.Name x np) [e0] [] cpos)) none pos) (td R C t):=by
 intro pins s σ H D I h
 obtain ⟨bm,N,nm,qn,bs,hdct,sn,sub,ab,col,dd,k0,k1,k2,k3,k5,mN,hC,hN,hni,T⟩:=ec.obj I.ok.mod.kin
 refine wpAny_Raise_call_subT (C:=C) (nm:=nm) (q:=qn) (N:=N) (bs:=bs) (bm:=bm) (hdct:=hdct) (sn:=sn) (sub:=sub) (ab:=ab) (col:=col) (dd:=dd) (k0:=k0) (k1:=k1) (k2:=k2) (k3:=k3) (k5:=k5)
  PySem.F.excBase_ValueError (mN:=mN) (T.hasType PySem.F.excBase_ValueError.hasBase) (I.ok.hd hc) (by rw [he]; rfl) hni (cM I hg hm ⟨rfl,?_⟩ hd)
 have h2:=ha cpos pins s σ H _ I h
 rw [he] at h2 ⊢
 refine Calls.evalArgs_plain (thn h2 fun us s2 ⟨vs,H1,I1,rv,hl,q⟩=>⟨rfl,by rw [← rv.length]; exact hl,I1.bk _ _ hC,hN.keeps I1.bk,T.keeps I1.bk,fun h' ea hx=>?_⟩)
 exact hR pins σ H1 s2 h' ea us I1 hx q
end
section
variable {P:Program} {w:World} {K:PySem.W.Frag} {mg:Str→Option Value} {base:Heap}
theorem fR {N:List Str} {qual:Str} {scope:Scope} {f:Addr} {cd:Value} {A:Around} {outer:List Env} {s₀:Shared} {H₀:Hp} {E:XK} {C:Addr} :
  ∀pins σ H s h2 ea vs,Inv (dE (CXx P w) P w K mg base N qual scope f cd A outer s₀ H₀ E) pins σ H s→Heap.MadeExcOf s.heap h2 ea (.ref C) vs→(fun c H=>E c none H) (Value.ref C) H →
   (dE (CXx P w) P w K mg base N qual scope f cd A outer s₀ H₀ E).xe (.ref ea) { s with heap:=h2 }:=fun pins σ H s h2 ea vs I hx q =>
 I.raised (E:=fun e' s''=>CXx P w outer H₀ s₀ E e' s'') rfl rfl rfl hx fun B h' f=>⟨ea,_,H,B,rfl,f,q⟩
theorem Fun.okX {x qual:Str} {st:Stmt} {f:Addr} {fd:FuncData} {N ps:List Str} {k:Nat} {sp:Sp} (F:Fun K x qual st f fd) (S:FnScope N ps (defScope st)) (len:∀vs H Q E,sp vs H Q E→vs.length=ps.length)
  (hbody:∀ (cdv:Value) (A:Around) (outer:List Env) (s:Shared) (H:Hp) (vs:List V) (Q:VK) (E:XK),Room k (A.deeper (envOfC qual (defScope st) s.heap.objs.size f cdv))→sp vs H Q E →
   ∃t,PSs (dE (CXx P w) P w K mg base N qual (defScope st) f cdv A outer s H E) (defBody st) t∧t { nx:=fun _ H'=>Q .non H',rt:=Q } (start N vs) H):FnOk P w K mg base (CXx P w) (k + 1) f fd ps sp:=by
 obtain ⟨oc,od,kV,doc,pm,an,cdv,ct,osl,rfl,lk,hcd⟩:=F.ex
 exact se lk hcd S len fun A outer s H vs Q E hr hsp=>hbody cdv A outer s H vs Q E hr hsp
end
def XP (X:Cx) (pins:List (Addr×Obj)) (σ:St) (E:XK) (v:Value) (s':Shared):Prop:=∃ea C H H' B s0,v=Value.ref ea∧Inv X pins σ H s0∧Flew X.prog X.w X.stack H s0 ea C H' B s'∧E C none H'
abbrev TX:=St→Hp→VK→XK→Prop
def PEx (X:Cx) (e:Expr) (t:TX):Prop :=
 ∀ (pins:List (Addr×Obj)) (s:Shared) (σ:St) (H:Hp) (Q:VK) (E:XK),Inv X pins σ H s→t σ H Q E→wpAny (model X.prog X.w) X.A (eval e X.env) (EP X pins σ Q) (XP X pins σ E) s
section
variable {X:Cx} {k:Nat} {f C:Addr} {fd:FuncData} {ps:List Str} {sp:Sp} {x m:Str} {p pos apos:Pos} {e o:Expr} {es:List Expr} {ta:TE} {t:TA}
theorem qF {pins:List (Addr×Obj)} {σ:St} {H:Hp} {s:Shared} {Q:VK} {E:XK} {us:List Value} {vs:List V} (F:FnOk X.prog X.w X.K X.mg X.base (CXx X.prog X.w) k f fd ps sp) (hr:Room k X.A) (hb:Binds X.K fd ps [])
  (I:Inv X pins σ H s) (r:Vals vs us) (h:sp vs H Q E):wpAny (model X.prog X.w) X.A (call (.ref f) us) (EP X pins σ Q) (XP X pins σ E) s:=by
 have hl:(us ++ []).length=ps.length:=by rw [List.append_nil,← r.length]; exact F.len _ _ _ _ h
 have b:=hb s us I.kIn hl
 rw [List.append_nil] at b
 refine wpAny_call (codeAny_mono (F.run X.A X.stack s H ⟨us,[]⟩ us vs Q E hr I.env0 b r h) fun r s' hq=>?_)
 cases r with
 | error e =>
  obtain ⟨ea,C,H',B,e1,fl,q⟩:=hq
  exact ⟨ea,C,H,H',B,s,e1,I,fl,q⟩
 | ok fl =>
  cases fl with
  | ret u=>exact I.after hq
  | next=>exact False.elim hq
  | brk=>exact False.elim hq
  | cont=>exact False.elim hq
end
end L2
set_option Elab.async false
set_option linter.all false
set_option maxRecDepth 100000
namespace L2
open PySem PySem.Spec PyProof.Rows
def Cx.marked (X:Cx) (ea:Addr):Cx:={ X with A:=X.A.mark (some (.ref ea)),calm:=false,xe:=fun _ _=>False }
section
variable {X:Cx} {pins:List (Addr×Obj)} {σ:St} {H:Hp} {s:Shared}
theorem Inv.mark (I:Inv X pins σ H s) (ea:Addr):Inv (X.marked ea) pins σ H s :=
 ⟨⟨I.ok.mod,I.ok.kind,I.ok.glob,I.ok.blt,I.ok.above,I.ok.inj,I.ok.has,I.ok.cab,fun z=>absurd (show false=true from z) Bool.false_ne_true,I.ok.frames,I.ok.stk,I.ok.exf,I.ok.bs,I.ok.bsz,I.ok.noex,I.ok.exfs,I.ok.funs,I.ok.frf⟩,
  I.os,I.bare,I.base,I.loc,I.cell,I.free,I.freeC,I.pin,I.hok,I.len⟩
theorem Inv.unmark {ea:Addr} (ok:X.Ok) (I:Inv (X.marked ea) pins σ H s):Inv X pins σ H s :=
 ⟨ok,I.os,I.bare,I.base,I.loc,I.cell,I.free,I.freeC,I.pin,I.hok,I.len⟩
theorem Inv.track2 {a:Addr} {o:HO} (I:Inv X pins σ H s) (f0:H a=none) (f1:a≠X.env.locals) (hna:X.s₀.heap.get? a=none) (f4:∀x c,X.env.cells.lookup x=some c→c≠a) (f5:∀p∈X.pn ++ pins,p.1≠a)
  (new:ObjOk X.prog X.w (upd H a o) s.heap a o):Inv X pins σ (upd H a o) s:=by
 have s0:∀b o,X.s₀.heap.get? b=some o→b≠a:=fun b o e z=>by rw [z,hna] at e; cases e
 refine ⟨I.ok,I.os,I.bare,⟨I.base.keep,I.base.slot,fun b o e n hx=>?_,I.base.there,fun b xs e=>?_,fun b o u e=>?_,fun b ps e=>?_⟩,I.loc,I.cell,?_,fun x c e=>?_,fun p hp=>?_,I.hok.add f0 new,I.len⟩
 ·rw [au (s0 b o e)]; exact I.base.free b o e n hx
 ·have q:=I.base.tups b xs e
  rw [au (ai q f0)]; exact q
 ·have q:=I.base.frzs b o u e
  rw [au (ai q f0)]; exact q
 ·obtain ⟨more,q⟩:=I.base.tbls b ps e
  exact ⟨more,by rw [au (ai q f0)]; exact q⟩
 ·rw [au (Ne.symm f1)]; exact I.free
 ·rw [au (f4 x c e)]; exact I.freeC x c e
 ·obtain ⟨e,n,r⟩:=I.pin p hp
  exact ⟨e,by rw [au (f5 p hp)]; exact n,r⟩
theorem dA {M:Model} {A:Around} {E:Value→Shared→Prop} {i:Nat} {x:Str} {pos:Pos} {Q:Unit→Shared→Prop} (I:Inv X pins σ H s) (hN:X.N.Nodup) (hi:X.N[i]? = some x) (hk:X.env.scope.names.lookup x=some .local)
  (h:∀s',Inv X pins (σ.set i none) H s'→Q () s'):wpAny M A (do bindName X.env x .none; unbindBehindTheSuite X.env x pos) Q E s:=by
 obtain ⟨m,hn,hl⟩:=id I.loc
 have hcls:(X.env.scope.kind == .class || (X.env.scope.kind == .module && X.env.locals != X.env.globals))=false:=by rw [I.ok.kind]; rfl
 refine wpAny_nameGoes_keeps hk hn hcls fun h' v hn' hs=>h _ ?_
 obtain ⟨oL,_,_,hoL,_⟩:=id hn
 have cne:=I.cne
 have hok:HOk X.prog X.w H h':=I.hok.but I.free hs
 refine ⟨I.ok,I.os,I.bare,⟨fun b o e n hb hx=>?_,fun b o e n hb hx=>?_,I.base.free,fun b o e hx=>?_,I.base.tups,I.base.frzs,I.base.tbls⟩,⟨_,hn',fun j y v' e1 e2 e3=>?_⟩,fun y c e=>?_,I.free,I.freeC,fun p hp=>?_,hok,by simpa using I.len⟩
 ·exact (hs.2 b (Nat.ne_of_lt (Nat.lt_of_lt_of_le (Heap.lt_size e) I.ok.above))).trans (I.base.keep b o e n hb hx)
 ·obtain ⟨sl,e1⟩:=I.base.slot b o e n hb hx
  exact ⟨sl,(hs.2 b (Nat.ne_of_lt (Nat.lt_of_lt_of_le (Heap.lt_size e) I.ok.above))).trans e1⟩
 ·obtain ⟨o',e1⟩:=I.base.there b o e hx
  exact ⟨o',(hs.2 b (Nat.ne_of_lt (Nat.lt_of_lt_of_le (Heap.lt_size e) I.ok.above))).trans e1⟩
 ·have hj:j≠i:=fun z=>by
   subst z
   have hiσ:j < σ.length:=by rw [I.len]; exact (List.getElem?_eq_some_iff.mp hi).1
   rw [List.getElem?_set_self hiσ] at e2
   cases e2
  rw [List.getElem?_set_ne (Ne.symm hj)] at e2
  obtain ⟨u',r',q⟩:=hl j y v' e1 e2 e3
  refine ⟨u',r',?_⟩
  rcases q with ⟨k,e⟩ | ⟨k,c,e,z⟩
  ·refine .inl ⟨k,?_⟩
   have:y≠x:=fun e=>hj (fG hN e1 (e ▸ hi))
   simp [this,e]
  ·exact .inr ⟨k,c,e,z.sameBut hs (cne y c e)⟩
 ·obtain ⟨v',z⟩:=I.cell y c e
  exact ⟨v',z.sameBut hs (cne y c e)⟩
 ·obtain ⟨e,n,ne,nf,d⟩:=I.pin p hp
  exact ⟨(hs.2 p.1 ne).trans e,n,ne,nf,d⟩
end
def IsA (a:Addr) (C:Value) (h:Heap):Prop:=∃o,h.get? a=some o∧o.cls=C∧∃vs,o.data=.fields vs∧vs[2]? = some .none
theorem IsA.of {a:Addr} {C:Value} {h:Heap} (x:∃o,h.get? a=some o∧o.cls=C) (q:Q2 a h):IsA a C h:=by
 obtain ⟨o,e,c⟩:=x
 obtain ⟨o',vs,e',d,n⟩:=q
 rw [e] at e'
 cases e'
 exact ⟨o,e,c,vs,d,n⟩
theorem IsA.obj {P:Program} {w:World} {H:Hp} {h:Heap} {a:Addr} {C:Value} (x:IsA a C h):ObjOk P w H h a (.ext (IsA a C)):=by
 obtain ⟨o,e,c⟩:=id x
 exact ⟨x,⟨o,e⟩,fun h1 h2 ⟨o',e',c'⟩ k=>⟨o',k o' e',c'⟩⟩
section
variable {X:Cx} {e:Expr} {tx:TX} {ts:TS} {i:Nat} {n y:Str} {CE:Addr} {b₀:Stmt} {suite:List Stmt} {np hpos epos pos:Pos}
end
structure RoomH (k:Nat) (A:Around):Prop where
 dp:A.depth + 3 * k + 5 < recursionLimit
 un:A.units + 16 * k + 200 < cLine
theorem Room.h {k:Nat} {A:Around} (r:Room k A) (v:Option Value):RoomH k (A.mark v):=⟨r.dp,r.un⟩
theorem RoomH.deeper {k:Nat} {A:Around} (r:RoomH (k + 1) A) (env:Env):RoomH k (A.deeper env) :=
 ⟨by have:=r.dp; show A.depth + 1 + 3 * k + 5 < _; omega,by have:=r.un; show A.units + 3 + 16 * k + 200 < _; omega⟩
structure FnH (P:Program) (w:World) (K:PySem.W.Frag) (mg:Str→Option Value) (base:Heap) (k:Nat) (f:Addr) (fd:FuncData) (ps:List Str) (sp:Sp):Prop where
 len:∀vs H Q E,sp vs H Q E→vs.length=ps.length
 run:∀ (A:Around) (outer:List Env) (s:Shared) (H:Hp) (args:Args) (us:List Value) (vs:List V) (Q:VK) (E:XK),RoomH k A→Env0 P w K mg base A outer s H→BindsTo s fd args (ps.zip us)→Vals vs us→sp vs H Q E →
  codeAny (model P w) A (.call (.ref f) args) (CR CX0 outer P w H s Q E) s
def cxH (P:Program) (w:World) (K:PySem.W.Frag) (mg:Str→Option Value) (base:Heap) (N:List Str) (qual:Str) (scope:Scope) (f:Addr) (cd:Value) (A:Around) (outer:List Env) (s:Shared) (H:Hp):Cx :=
 { dE CX0 P w K mg base N qual scope f cd A outer s H E0 with calm:=false,xe:=fun _ _=>False }
theorem tf {P:Program} {w:World} {K:PySem.W.Frag} {mg:Str→Option Value} {base:Heap} {k:Nat} {f:Addr} {x qual:Str} {st:Stmt} {fd:FuncData} {N ps:List Str} {sp:Sp} (F:Fun K x qual st f fd) (S:FnScope N ps (defScope st))
  (len:∀vs H Q E,sp vs H Q E→vs.length=ps.length)
  (hbody:∀ (cdv:Value) (A:Around) (outer:List Env) (s:Shared) (H:Hp) (vs:List V) (Q:VK) (E:XK),RoomH k (A.deeper (envOfC qual (defScope st) s.heap.objs.size f cdv))→sp vs H Q E →
   ∃t,PSs (cxH P w K mg base N qual (defScope st) f cdv A outer s H) (defBody st) t∧t { nx:=fun _ H'=>Q .non H',rt:=Q } (start N vs) H):FnH P w K mg base (k + 1) f fd ps sp:=by
 obtain ⟨oc,od,kV,doc,pm,an,cdv,ct,osl,rfl,lk,hcd⟩:=F.ex
 refine ⟨len,fun A outer s H args us vs Q E hr e0 hb r hsp=>?_⟩
 have hl:=len _ _ _ _ hsp
 have KX:K.In s.heap:=e0.mod.kin.keeps fun b o e=>(e0.bs b o e).1
 have lim:s.heap.NoLimit:=e0.mod.nolimit.keeps fun b o e=>(e0.bs b o e).1
 have hkind:∀y∈ps.zip us,(defScope st).names.lookup y.1=some .local∨((defScope st).names.lookup y.1=some .cell∧((cellsFrom (s.heap.objs.size + 1) (defScope st).names []).lookup y.1).isSome=true):=fun ⟨n,v⟩ hy=>by
  rcases S.par n (List.of_mem_zip hy).1 with q | q
  ·exact .inl q
  ·exact .inr ⟨q,PySem.W.cellsFrom_some _ _ _ (.inl q)⟩
 have dep:A.depth < recursionLimit:=by have:=hr.dp; omega
 refine codeAny_call_function dep (KX _ _ lk) rfl S.co S.gen rfl (PySem.W.codeRec_of KX hcd) (hb _ _ _ _ ?_)
 refine wpAny_newFunctionEnv_cells S.kind hkind fun env he s1 x=>?_
 subst he
 refine ⟨lim.keeps x.toInCall.keep,codeAny_func ?_⟩
 obtain ⟨t,ht,hq⟩:=hbody cdv A outer s H vs Q E (hr.deeper _) hsp
 have e0':Env0 P w K mg base { A with handled:=none } outer s H:=⟨e0.frames,e0.mod,e0.bs,e0.bsz,e0.funs,e0.frf,e0.hok,e0.bare⟩
 have J:Inv (dE CX0 P w K mg base N qual (defScope st) f cdv { A with handled:=none } outer s H E0) [] (start N vs) H s1:=gI S rfl e0' hl r x
 have I:Inv (cxH P w K mg base N qual (defScope st) f cdv A outer s H) [] (start N vs) H s1 :=
  ⟨⟨J.ok.mod,J.ok.kind,J.ok.glob,J.ok.blt,J.ok.above,J.ok.inj,J.ok.has,J.ok.cab,fun z=>absurd (show false=true from z) Bool.false_ne_true,Around.frames_deeper e0.frames,J.ok.stk,J.ok.exf,J.ok.bs,J.ok.bsz,J.ok.noex,J.ok.exfs,J.ok.funs,J.ok.frf⟩,
   J.os,J.bare,J.base,J.loc,J.cell,J.free,J.freeC,J.pin,J.hok,J.len⟩
 refine wpAny_mono (ht [] s1 (start N vs) H _ I hq) (fun fl s' hs=>?_) fun e s' hs=>False.elim hs
 have fin:∀ {σ':St} {H':Hp} {v:V} {u:Value},Inv (cxH P w K mg base N qual (defScope st) f cdv A outer s H) [] σ' H' s'→RelV v u→Q v H'→CE outer P w H s Q u s' :=
  fun {σ' H' v u} J rv q=>⟨v,H',J.os,J.bare,J.base,J.hok,rv,q⟩
 cases fl with
 | ret u =>
  obtain ⟨v,σ',H',J,rv,q⟩:=hs
  exact fin J rv q
 | next =>
  obtain ⟨σ',H',J,q⟩:=hs
  exact fin (v:=V.non) (u:=Value.none) J rfl q
 | brk =>
  obtain ⟨_,_,_,q⟩:=hs
  exact False.elim q
 | cont =>
  obtain ⟨_,_,_,q⟩:=hs
  exact False.elim q
def DnH (P:Program) (w:World) (K:PySem.W.Frag) (mg:Str→Option Value) (base:Heap) (x:Str) (ps:List Str) (k:Nat) (sp:Sp):Prop :=
 ∃ (f:Addr) (fd:FuncData),FnH P w K mg base k f fd ps sp∧Binds K fd ps []∧PySem.W.keepIn K (.ref f)=true∧mg x=some (.ref f)
theorem sf {X:Cx} {k:Nat} {ps:List Str} {sp:Sp} {x:Str} {p pos:Pos} {e:Expr} {es:List Expr} {t:TA} (D:DnH X.prog X.w X.K X.mg X.base x ps k sp) (hr:RoomH k X.A) (hg:Gl X x) (ha:PA X (e :: es) t)
  (hdb:(x == ("__debug__" : Str))=false:=by decide) (he:starEach (e :: es) X.env=(false,eval e X.env) :: starEach es X.env:=by rfl) (hpl:(backTo pos (starEach es X.env)).any (·.1)=false:=by rfl) :
  PE X (.Call (.Name x p) (e :: es) [] pos) (nX sp [] E0 t):=by
 obtain ⟨f,fd,F,hb,hk,hm⟩:=D
 intro pins s σ H Q I h
 refine wpAny_Call_Name_kw (cM I hg hm ?_ hdb)
 refine PySem.W.callWith_K (h₀:=X.base) I.ok.mod.kin hk (thn (ha pos pins s σ H _ I h) fun us s1 ⟨vs,H1,I1,r,q⟩=>⟨I1.kIn,?_⟩) he hpl
 have q:sp (vs ++ []) H1 Q E0:=q
 rw [List.append_nil] at q
 have hl:(us ++ []).length=ps.length:=by rw [List.append_nil,← r.length]; exact F.len _ _ _ _ q
 have b:=hb s1 us I1.kIn hl
 rw [List.append_nil] at b
 refine wpAny_call (codeAny_mono (F.run X.A X.stack s1 H1 ⟨us,[]⟩ us vs Q E0 hr I1.env0 b r q) fun r s' hq=>?_)
 cases r with
 | error e=>exact False.elim hq
 | ok fl =>
  cases fl with
  | ret u=>exact I1.after hq
  | next=>exact False.elim hq
  | brk=>exact False.elim hq
  | cont=>exact False.elim hq
end L2
set_option maxRecDepth 100000
namespace PySem
open Sem (wp)
open PySem.W (Frag Looks looks_findIn looks_subIn)
structure ExK (K:Frag) (C:Addr):Prop where
 lkC:PySem.W.findIn K (.ref C) "__class__" = some (some (.builtin "object.__class__"))
 lkG:PySem.W.findIn K (.ref C) "__getattribute__" = some (some (.builtin "BaseException.__getattribute__"))
 lkA:PySem.W.findIn K (.ref C) "__getattr__" = some none
 subB:PySem.W.subIn K (.ref C) (.type "BaseException")=some true
 subO:PySem.W.subIn K (.ref C) (.type "object")=some true
 cls:(PySem.W.clsIn K C).isSome=true
section
variable {prog:Program} {w:World} {A:Around} {E:Value→Shared→Prop} {h:Heap} {g:Array GenState} {d:Drawn} {t:Nat} {os:OsState} {a:Addr} {o:Obj} {K:Frag} {C:Addr}
theorem jR {R:Result→Shared→Prop} (X:K.In h) (F0:ExK K C) (hx:h.get? a=some o) (hc:o.cls=.ref C) (hq:R (.ok (.ret (.ref C))) ⟨h,g,d,t,os⟩) :
  codeAny (model prog w) A (.call (.builtin "getset_descriptor.__get__") ⟨[.builtin "object.__class__",.ref a,.ref C],[]⟩) R ⟨h,g,d,t,os⟩:=by
 have hT5:(⟨h,g,d,t,os⟩:Shared).TypeIs (.builtin "object.__class__") "getset_descriptor" := F.typeOf_object_class
 have L:Looks (model prog w) h (isSubtype (.ref C) (.type (".".intercalate ("object.__class__".cutAt '.').dropLast))) true:=by
  rw [F.owner_object_class]; exact looks_subIn X F0.subO
 refine codeAny_call_builtin F.slot_gs_get.plain F.entry_gs_get (F.slot_gs_get.check _ _ _ _ _ _ _ _ hT5 (F.args_gs_get _ _ _) ?_)
 repeat (any_goals (first | assumption | (with_reducible refine wpAny_loadPart_at hx ?_; rw [hc]) | (with_reducible refine Looks.at L ?_) | wp_step))
 refine ⟨Code.quiet_builtin _ (by decide +kernel),codeAny_builtin F.entry_object_class ?_⟩
 repeat (any_goals (first | assumption | (with_reducible refine wpAny_loadPart_at hx ?_; rw [hc]) | wp_step))
theorem ig {tk:Tok} {Q:Fin→Shared→Prop} (X:K.In h) (F0:ExK K C) (hx:h.get? a=some o) (hc:o.cls=.ref C) (hq:Q (.done (.ret (.ref C))) ⟨h,g,d,t,os⟩) :
  wpAny (model prog w) A (Builtin.«object.__getattribute__» ⟨[.ref a,.str "__class__" tk],[]⟩) Q E ⟨h,g,d,t,os⟩:=by
 have hT5:(⟨h,g,d,t,os⟩:Shared).TypeIs (.builtin "object.__class__") "getset_descriptor" := F.typeOf_object_class
 have f5:=F.typeOf_object_class
 have f6:=F.slot_gs_get.lookup
 have f7:=F.slot_gs_set.lookup
 have L:Looks (model prog w) h (typeLookup (.ref C) "__class__") _:=looks_findIn X F0.lkC
 repeat (any_goals (first | assumption | (with_reducible refine wpAny_loadPart_at hx ?_; rw [hc]) | (with_reducible refine Looks.at L ?_) | wp_step))
 refine jR X F0 hx hc ?_
 repeat (any_goals (first | assumption | wp_step))
theorem mq {nameV:Value} {Q:Unit→Shared→Prop} (X:K.In h) (F0:ExK K C) (hx:h.get? a=some o) (hc:o.cls=.ref C) (hq:Q () ⟨h,g,d,t,os⟩) :
  wpAny (model prog w) A (checkBuiltinCall "BaseException.__getattribute__" ⟨[.ref a,nameV],[]⟩) Q E ⟨h,g,d,t,os⟩:=by
 have hk:builtinKind "BaseException.__getattribute__" = some .slot:=by decide +kernel
 have hsplit:splitId "BaseException.__getattribute__" = some ("BaseException","__getattribute__"):=by decide +kernel
 have L:Looks (model prog w) h (isSubtype (.ref C) (.type "BaseException")) true:=looks_subIn X F0.subB
 have ha:=F.args_bexc_ga (.ref a) nameV
 simp only [checkBuiltinCall,hk,hsplit]
 refine wpAny_bind ?_
 ·unfold isInstance
  repeat (first | (with_reducible refine wpAny_loadPart_at hx ?_; rw [hc]) | (with_reducible refine Looks.at L ?_) | wp_step)
  exact hq
theorem iU {tk:Tok} {R:Result→Shared→Prop} (X:K.In h) (F0:ExK K C) (hx:h.get? a=some o) (hc:o.cls=.ref C) (hq:R (.ok (.ret (.ref C))) ⟨h,g,d,t,os⟩) :
  codeAny (model prog w) A (.call (.builtin "BaseException.__getattribute__") ⟨[.ref a,.str "__class__" tk],[]⟩) R ⟨h,g,d,t,os⟩ :=
 codeAny_call_builtin F.attrBase_ValueError.ga.plain F.entry_bexc_ga (mq X F0 hx hc (ig X F0 hx hc hq))
theorem mr {tk:Tok} {Q:Value→Shared→Prop} (X:K.In h) (F0:ExK K C) (hx:h.get? a=some o) (hc:o.cls=.ref C) (hq:Q (.ref C) ⟨h,g,d,t,os⟩) :
  wpAny (model prog w) A (getAttrBy (.ref a) (.str "__class__" tk) false) Q E ⟨h,g,d,t,os⟩:=by
 have LG:Looks (model prog w) h (typeLookup (.ref C) "__getattribute__") _:=looks_findIn X F0.lkG
 have LA:Looks (model prog w) h (typeLookup (.ref C) "__getattr__") _:=looks_findIn X F0.lkA
 have f3:=F.attrBase_ValueError.ga.bind (.ref a)
 have hx2:(Value.builtin "BaseException.__getattribute__" == Value.builtin "object.__getattribute__")=false:=by decide +kernel
 have hx1:(onTheHeap (Value.ref C) && Value.builtin "BaseException.__getattribute__" == Value.builtin "object.__getattribute__")=false:=by rw [hx2]; rfl
 repeat (any_goals (first | assumption | (with_reducible refine wpAny_loadPart_at hx ?_; rw [hc]) | (with_reducible refine Looks.at LG ?_) | (with_reducible refine Looks.at LA ?_) | wp_step))
 refine iU X F0 hx hc ?_
 repeat (any_goals (first | assumption | wp_step))
theorem iV {Q:Option Value→Shared→Prop} (X:K.In h) (F0:ExK K C) (hx:h.get? a=some o) (hc:o.cls=.ref C) (hq:Q (some (.ref C)) ⟨h,g,d,t + 1,os⟩) :
  wpAny (model prog w) A (getAttr? (.ref a) "__class__") Q E ⟨h,g,d,t,os⟩:=by
 unfold getAttr? getAttrBy?
 repeat (any_goals (first | assumption | with_reducible apply mr X F0 hx hc | wp_step))
end
end PySem
namespace L2
open PySem PySem.Spec PyProof.Rows
theorem lH {K:PySem.W.Frag} {x C:Addr} (F0:ExK K C):PySem.W.KitX K (.ref x) (.ref C) (IsA x (.ref C)) where
 ty:=fun M h _ ⟨o,e,c,_⟩=>by
  have L:PySem.W.Looks M h (typeOf (.ref x)) o.cls:=(PySem.W.Looks.ld e).andThen .now
  rw [c] at L
  exact L
 it:=fun _ _ X _=>by
  have z:=F0.cls
  unfold PySem.W.clsIn at z
  split at z
  ·rename_i c' d' cd' sl' ho
   intro A' Q' E' s' k q
   unfold isType loadHead
   exact wpAny_bind (wpAny_loadPart (k _ _ (X _ _ ho)) (wpAny_pure q))
  ·cases z
 ne:=fun h tp dd its n sl X htp=>by
  have z:=F0.cls
  refine Bool.eq_false_iff.mpr fun q=>?_
  have e:C=tp:=Value.ref.inj (beq_iff_eq.mp q)
  subst e
  unfold PySem.W.clsIn at z
  split at z
  ·rename_i c' d' cd' sl' ho
   have z:=(X _ _ ho).symm.trans htp
   cases z
  ·cases z
 ca:=fun {_ _ _ _ _ s} X p k=>by
  obtain ⟨h,g,d,t,os⟩:=s
  obtain ⟨o,e,c,_⟩:=p
  exact iV X F0 e c k
section
variable {X:Cx}
theorem cP {C:Addr} (F0:ExK X.K C):bY X (.builtin "isinstance") (fun xs H Q=>∃a cv c b,xs=[.ref a,cv]∧H a=some (.ext (IsA a (.ref C)))∧clV cv=some c∧PySem.W.kitOne X.K (.ref C) c=some b∧Q (.bl b) H):=by
 intro pins s σ H xs us Q I rv h
 obtain ⟨a,cv,c,b,rfl,ha,e1,e2,q⟩:=h
 cases rv with
 | cons r1 rr =>
  cases rr with
  | cons r2 rr =>
   cases rr
   cases r1
   rw [clV.rel e1 r2]
   exact PySem.W.kia_one (lH F0) I.kIn (I.hok a _ ha).1 e2 (fun z=>nomatch z) fun tk=>⟨.bl b,H,I.tok tk,rfl,q⟩
theorem dF {C:Addr} (F0:ExK X.K C):bY X (.builtin "isinstance") (fun xs H Q=>∃a p cvs cs b,xs=[.ref a,.ref p]∧H a=some (.ext (IsA a (.ref C)))∧H p=some (.tup cvs)∧clVs cvs=some cs∧PySem.W.kitAny X.K (.ref C) cs=some b∧Q (.bl b) H):=by
 intro pins s σ H xs us Q I rv h
 obtain ⟨a,p,cvs,cs,b,rfl,ha,hp,e1,e2,q⟩:=h
 cases rv with
 | cons r1 rr =>
  cases rr with
  | cons r2 rr =>
   cases rr
   cases r1
   cases r2
   obtain ⟨_,its,rits,o,ho,hc,n,hd⟩:=I.hok p _ hp
   obtain ⟨oc,od,dt,osl⟩:=o
   replace hc:oc=.type "tuple" := hc
   replace hd:dt=.seq its.toArray n:=hd
   subst hc hd
   have e3:=clVs.rel e1 rits
   subst e3
   exact PySem.W.kia_tup (lH F0) I.kIn (I.hok a _ ha).1 ho e2 (fun z=>nomatch z) fun tk=>⟨.bl b,H,I.tok tk,rfl,q⟩
end
end L2
set_option Elab.async false
set_option linter.all false
set_option maxRecDepth 100000
namespace PySem
open Sem (wp)
open AutoSeq1 (wpAny_loadPart')
section
variable {prog:Program} {w:World} {A:Around} {E:Value→Shared→Prop} {s:Shared}
theorem ft {it t:Addr} {i:Nat} {items} {x:Value} {Q:Value→Shared→Prop} (hit:s.heap.IsTupleIter it t i)
  (ht:s.heap.IsTuple t items) (hx:items[i]? = some x)
  (hQ:∀h',h'.IsTupleIter it t (i + 1)→Heap.SameBut it s.heap h'→Q x { s with heap:=h' }) :
  wpAny (model prog w) A (Builtin.SmallTypes.nextOf (.ref it)) Q E s:=by
 obtain ⟨o,ho,hc,hd⟩:=id hit
 obtain ⟨ol,hol,_,nl,hdl⟩:=ht
 unfold Builtin.SmallTypes.nextOf
 refine wpAny_bind (wpAny_callSpecial?_slot (name:=Str.ofString "__next__") hit.typeIs F.slot_tuple_iterator_next
  (wpAny_call_entry F.slot_tuple_iterator_next hit.typeIs F.entry_tuple_iterator_next ?_ (F.args_tuple_iterator_next_1 _)))
 show wpAny _ _ (field (.ref it) 0 >>= _) _ _ s
 refine wpAny_bind (wpAny_field ho hd (x:=.ref t) rfl ?_)
 show wpAny _ _ (if (Value.ref t == Value.none)=true then _ else _) _ _ s
 rw [if_neg (show ¬ ((Value.ref t == Value.none)=true) from Bool.false_ne_true)]
 show wpAny _ _ (field (.ref it) 1 >>= _) _ _ s
 refine wpAny_bind (wpAny_field ho hd (x:=.int i 0) rfl ?_)
 show wpAny _ _ (seqItems? (.ref t) >>= _) _ _ s
 refine wpAny_bind (wpAny_seqItems hol hdl ?_)
 simp only [Int.toNat_natCast,hx]
 refine wpAny_bind (wpAny_setField ho hd (by simp) (wpAny_pure ⟨x,rfl,wpAny_pure (hQ _ ?_ (Heap.SameBut.update ..))⟩))
 exact ⟨_,Heap.get?_update_self _ ho (Obj.isFreed_of_fields (Obj.data_mapFields hd _)),(Obj.cls_mapFields ..).trans hc,by
  rw [Obj.data_mapFields hd]; simp [rawInt]⟩
theorem ck {it t:Addr} {i:Nat} {items} {Q:Value→Shared→Prop} (hh:A.handled=none)
  (hit:s.heap.IsTupleIter it t i) (ht:s.heap.IsTuple t items) (hx:items[i]? = none)
  (hE:∀h' e, Heap.ExtBut it s.heap h'→(∃o, h'.get? e=some o∧o.cls=.type "StopIteration")→E (.ref e) { s with heap:=h' }) :
  wpAny (model prog w) A (Builtin.SmallTypes.nextOf (.ref it)) Q E s:=by
 obtain ⟨o,ho,hc,hd⟩:=id hit
 obtain ⟨ol,hol,_,nl,hdl⟩:=ht
 unfold Builtin.SmallTypes.nextOf
 refine wpAny_bind (wpAny_callSpecial?_slot (name:=Str.ofString "__next__") hit.typeIs F.slot_tuple_iterator_next
  (wpAny_call_entry F.slot_tuple_iterator_next hit.typeIs F.entry_tuple_iterator_next ?_ (F.args_tuple_iterator_next_1 _)))
 show wpAny _ _ (field (.ref it) 0 >>= _) _ _ s
 refine wpAny_bind (wpAny_field ho hd (x:=.ref t) rfl ?_)
 show wpAny _ _ (if (Value.ref t == Value.none)=true then _ else _) _ _ s
 rw [if_neg (show ¬ ((Value.ref t == Value.none)=true) from Bool.false_ne_true)]
 show wpAny _ _ (field (.ref it) 1 >>= _) _ _ s
 refine wpAny_bind (wpAny_field ho hd (x:=.int i 0) rfl ?_)
 show wpAny _ _ (seqItems? (.ref t) >>= _) _ _ s
 refine wpAny_bind (wpAny_seqItems hol hdl ?_)
 simp only [Int.toNat_natCast,hx]
 refine wpAny_bind (wpAny_rule (wpAny_bind (wpAny_setField ho hd (by simp) ?_)))
 show wpAny _ _ (newExc (.type "StopIteration") [] >>= _) _ _ _
 refine wpAny_bind ?_
 simp only [newExc,newTuple]
 refine wpAny_bind (wpAny_newObj_type ?_ (by size_fits))
 refine wpAny_bind (m:=firstArgMember _ _) (wpAny_of_eq (a:=Value.none) (by first | rfl | (simp only [firstArgMember]; rfl)) ?_)
 refine wpAny_newObj_type ?_ (by size_fits)
 simp only [raiseNew]
 refine wpAny_bind (wpAny_handled ?_)
 first | rw [show A.in1.handled=none from hh] | rw [hh]
 refine wpAny_bind (wpAny_pure (wpAny_throw ?_))
 exact hE _ _ (((Heap.SameBut.update ..).extBut.push _).push _) ⟨_,Heap.get?_push_size _ rfl,rfl⟩
end
theorem iW {prog:Program} {w:World} {A:Around} (hh:A.handled=none) (it l:Addr) (hne:l≠it) (items:Array Value) :
  Draws prog w A it [it,l] items.size (fun i v=>items[i]? = some v) (fun i h=>h.IsTupleIter it l i∧h.IsTuple l items) where
 live:=fun _ _ st=>let ⟨o,ho,_⟩:=st.1; ⟨o,ho⟩
 frame:=fun _ _ _ st hk=>⟨st.1.at fun o e=>hk it (by simp) o e,let ⟨o,ho,r⟩:=st.2; ⟨o,hk l (by simp) o ho,r⟩⟩
 item:=fun i s Q E hi st hQ=>by
  refine ft st.1 st.2 (x:=items[i]) (by simp [hi]) fun h' hit' hs'=>?_
  exact hQ _ h' s.toks (by simp [hi]) ⟨hit',st.2.extBut hs'.extBut hne⟩ hs'
 done:=fun s Q E st hE=>ck hh st.1 st.2 (by simp) hE
theorem fT (l:Addr) (items:Array Value) (n:Nat) (dct:Option Addr) (sl:Array (Option Value)) :
  Meets (Builtin.«enumerate.__new__» ⟨[.type "enumerate",.ref l],[]⟩) (fun _ R s=>s.heap.get? l=some { cls:=.type "tuple",dict:=dct,data:=.seq items n,slots:=sl } ∧
   R (.ok (.ret (.ref (s.heap.push { cls:=.type "tuple_iterator",data:=.fields #[.ref l,.int 0 0] }).objs.size)))
    { s with heap:=(s.heap.push { cls:=.type "tuple_iterator",data:=.fields #[.ref l,.int 0 0] }).push { cls:=.type "enumerate",data:=.fields #[.none,.bool false,.ref s.heap.objs.size,rawInt 0,.none,.none] } }) :=
 .of_wp fun prog w A R s h=>by
  obtain ⟨hp,g,d,tk,os⟩:=s; obtain ⟨hl,h⟩:=h
  have hsub:=sub_enumerate
  have hL:Heap.IsTuple (Shared.heap ⟨hp,g,d,tk,os⟩) l items:=⟨_,hl,rfl,n,rfl⟩
  wp_walk using wpAny_loadPart' hl
  refine wpAny_stack_any fun st=>wpAny_pure ?_
  split
  ·rename_i c _ _ _ _ _
   cases (c == Value.type "enumerate")
   ·wp_walk using wpAny_loadPart' hl,wpAny_pyIter_tuple hL
    exact ⟨_,rfl,h⟩
   ·wp_walk using wpAny_loadPart' hl,wpAny_pyIter_tuple hL
    exact ⟨_,rfl,h⟩
  ·wp_walk using wpAny_loadPart' hl,wpAny_pyIter_tuple hL
   exact ⟨_,rfl,h⟩
section
variable {prog:Program} {w:World} {A:Around} {E:Value→Shared→Prop} {s:Shared}
theorem cm {l:Addr} {items:Array Value} {Q:Value→Shared→Prop} (hL:s.heap.IsTuple l items)
  (h:∀h',IsEnum h' (s.heap.objs.size + 1) s.heap.objs.size 0 .none→h'.IsTupleIter s.heap.objs.size l 0→h'.objs.size=s.heap.objs.size + 2 →
   (∀b o,s.heap.get? b=some o→h'.get? b=some o)→Q (.ref (s.heap.objs.size + 1)) { s with heap:=h' }) :
  wpAny (model prog w) A (call (.type "enumerate") [.ref l]) Q E s:=by
 obtain ⟨⟨c,dct,dt,sl⟩,hl,hc,n,hd⟩:=hL
 replace hc:c=.type "tuple" := hc
 replace hd:dt=.seq items n:=hd
 subst hc hd
 refine callType_new F.called_enumerate (by decide) (F.typeCall_enumerate_1 _) (F.newCall_enumerate_1 _) (fun obj=>F.args_object_init_2 obj _) F.entry_enumerate_new
  (fT l items n dct sl) ⟨hl,?_⟩
 have hz:(s.heap.push { cls:=.type "tuple_iterator",data:=.fields #[.ref l,.int 0 0] }).objs.size=s.heap.objs.size + 1:=Heap.size_push ..
 show _∧_
 rw [hz]
 have he:IsEnum ((s.heap.push { cls:=.type "tuple_iterator",data:=.fields #[.ref l,.int 0 0] }).push
   { cls:=.type "enumerate",data:=.fields #[.none,.bool false,.ref s.heap.objs.size,rawInt 0,.none,.none] }) (s.heap.objs.size + 1) s.heap.objs.size 0 .none:=by
  have:=Heap.get?_push_size (s.heap.push { cls:=.type "tuple_iterator",data:=.fields #[.ref l,.int 0 0] })
   (o:={ cls:=.type "enumerate",data:=.fields #[.none,.bool false,.ref s.heap.objs.size,rawInt 0,.none,.none] }) rfl
  rw [hz] at this; exact this
 refine ⟨⟨_,he,rfl⟩,h _ he ⟨_,Heap.get?_push_of_some _ (Heap.get?_push_size _ rfl),rfl,rfl⟩ (by rw [Heap.size_push,hz]) fun b o x=>Heap.get?_push_of_some _ (Heap.get?_push_of_some _ x)⟩
end
end PySem
set_option Elab.async false
set_option linter.all false
set_option maxRecDepth 100000
namespace L2
open PySem PySem.Spec PyProof.Rows
def Ite (f:List V→HO) (l:Addr):It :=
  ⟨fun i H=>∃xs x,H l=some (f xs)∧xs[i]? = some x,
   fun i H v H'=>∃p xs x,H p=none∧v=.ref p∧H'=upd H p (.tup [.int i,x])∧H l=some (f xs)∧xs[i]? = some x,
   fun i H=>∃xs,H l=some (f xs)∧xs.length≤i⟩
section
variable {X:Cx} {pins:List (Addr×Obj)} {σ:St} {H:Hp} {s:Shared}
theorem gO {f:List V→HO} {tn:Nat→Heap→Prop} {es:List Expr} {kk:Nat} {tp:Pos} {e it l:Addr} {i:Nat} {xs:List V} {x:V} {u:Value} {tk:Nat} {h':Heap} {E:Value→Shared→Prop} (hne:e≠it) (I:Inv X pins σ H s) (hf:∀b∈[e,it],dS X pins H b) (hl:H l=some (f xs)) (hx:xs[i]? = some x)
  (ho:∀b∈[e, it], b < s.heap.objs.size) (r:RelV x u) (b1:IsEnumOut h' e it ((i:Int) + 1) u s.heap.objs.size) (b3:h'.get? s.heap.objs.size=some { cls:=.type "tuple", data:=.seq #[.int i tk, u] })
  (bk:∀b o,b≠e→b≠it→s.heap.get? b=some o→h'.get? b=some o) (hn:∀h'',IsEnum h'' e it ((i + 1:Nat):Int) u→Heap.SameBut e h' h''→tn (i + 1) h'') :
  wpAny (model X.prog X.w) X.A (letOwnedTupleGo (.Tuple es kk tp) (.ref e) (.ref s.heap.objs.size)) (fun _ s2=>∃x H',Inv X pins σ H' s2∧RelV x (.ref s.heap.objs.size)∧(Ite f l).yld i H x H'∧tn (i + 1) s2.heap∧∀b∈[e,it],H' b=none) E { s with heap:=h',toks:=tk + 1 }:=by
 refine wpAny_letOwnedTupleGo_enum b1 fun h'' c1 cs=>?_
 have es':e < s.heap.objs.size:=ho e (by simp)
 have k2:∀b o,b∉[e,it]→s.heap.get? b=some o→h''.get? b=some o:=fun b o hb q=>by
  simp only [List.mem_cons,List.not_mem_nil,or_false,not_or] at hb
  exact cs.extBut b o hb.1 (bk b o hb.1 hb.2 q)
 have I1:Inv X pins σ H { s with heap:=h'',toks:=tk + 1 }:=I.turnedN (t':=tk + 1) hf k2
 have hp:h''.get? s.heap.objs.size=some { cls:=.type "tuple", data:=.seq #[.int i tk, u] }:=cs.extBut _ _ (Nat.ne_of_gt es') b3
 have hn0:H s.heap.objs.size=none:=I.hok.fresh (Nat.le_refl _)
 have fpk:=I.fpOk (H':=H) (Nat.le_refl _) hn0
 have I2:Inv X pins σ (upd H s.heap.objs.size (.tup [.int i,x])) { s with heap:=h'',toks:=tk + 1 }:=I1.track fpk I.sz ⟨by show 2≤sizeLine; decide,[.int i tk,u],.cons ⟨tk,rfl⟩ (.cons r .nil),_,hp,rfl,_,rfl⟩
 refine ⟨.ref s.heap.objs.size,_,I2,rfl,⟨_,xs,x,hn0,rfl,rfl,hl,hx⟩,hn h'' c1 cs,fun b hb=>?_⟩
 rw [au (Nat.ne_of_lt (ho b hb))]
 exact (hf b hb).1
end
theorem jS {P:Program} {w:World} {K:PySem.W.Frag} {es:List Expr} {kk:Nat} {tp:Pos} (l e it:Addr) (hne:e≠it) :
  Turn P w K (.Tuple es kk tp) (Ite .lst l) [e,it] e (fun i h=>(∃old,IsEnum h e it i old)∧h.IsListIter it l i) where
 mem:=by simp
 obj:=fun i h st b hb=>by
  obtain ⟨⟨old,a1⟩,⟨o2,a2,_,d2⟩⟩:=st
  simp only [List.mem_cons,List.not_mem_nil,or_false] at hb
  rcases hb with rfl | rfl
  ·exact ⟨_,a1,fun v q=>by cases q⟩
  ·exact ⟨_,a2,fun v q=>by rw [d2] at q; cases q⟩
 keep:=fun i h h' st k=>by
  obtain ⟨⟨old,a1⟩,a2⟩:=st
  exact ⟨⟨old,k e (by simp) _ a1⟩,a2.at fun o q=>k it (by simp) o q⟩
 item:=by
  intro X hP hw hK hc i pins s σ H E I hf st hg
  subst hP hw hK
  obtain ⟨⟨old,a1⟩,a2⟩:=st
  obtain ⟨xs,x,e1,ex⟩:=hg
  obtain ⟨its,rv,p1,_⟩:=I.list (SqL.of e1)
  obtain ⟨u,hu,r⟩:=rv.get ex
  have ho:∀b∈[e,it],b < s.heap.objs.size:=fun b hb=>by
   obtain ⟨o2,a2',_⟩:=a2
   simp only [List.mem_cons,List.not_mem_nil,or_false] at hb
   rcases hb with rfl | rfl
   ·exact Heap.lt_size a1
   ·exact Heap.lt_size a2'
  refine wpAny_pyNext_enum_item a1 a2 p1.isList (x:=u) (by simpa using hu) hne fun h' b1 b2 b3 b4 bk=>⟨_,rfl,?_⟩
  exact gO (tn:=fun i h=>(∃old,IsEnum h e it i old)∧h.IsListIter it l i) hne I hf e1 ex ho r b1 b3 bk fun h'' c1 cs=>⟨⟨u,c1⟩,b2.extBut cs.extBut (Ne.symm hne)⟩
 done:=by
  intro X hP hw hK hc i pins s σ H E I hf st hg
  subst hP hw hK
  obtain ⟨⟨old,a1⟩,a2⟩:=st
  obtain ⟨xs,e1,ex⟩:=hg
  obtain ⟨its,rv,p1,_⟩:=I.list (SqL.of e1)
  have lv:=rv.length
  refine wpAny_pyNext_enum_end (I.ok.hd hc) a1 a2 p1.isList (by simp; omega) fun h' bk=>⟨rfl,?_⟩
  exact I.turnedN (t':=s.toks) hf fun b o hb q=>by
   simp only [List.mem_cons,List.not_mem_nil,or_false,not_or] at hb
   exact bk b o hb.2 q
 self:=fun _ _ _ _ _ st h=>by obtain ⟨⟨old,a1⟩,_⟩:=st; exact wpAny_pyIter_enum a1 h
theorem jT {P:Program} {w:World} {K:PySem.W.Frag} {es:List Expr} {kk:Nat} {tp:Pos} (l e it:Addr) (hne:e≠it) :
  Turn P w K (.Tuple es kk tp) (Ite .tup l) [e,it] e (fun i h=>(∃old,IsEnum h e it i old)∧h.IsTupleIter it l i) where
 mem:=by simp
 obj:=fun i h st b hb=>by
  obtain ⟨⟨old,a1⟩,⟨o2,a2,_,d2⟩⟩:=st
  simp only [List.mem_cons,List.not_mem_nil,or_false] at hb
  rcases hb with rfl | rfl
  ·exact ⟨_,a1,fun v q=>by cases q⟩
  ·exact ⟨_,a2,fun v q=>by rw [d2] at q; cases q⟩
 keep:=fun i h h' st k=>by
  obtain ⟨⟨old,a1⟩,a2⟩:=st
  exact ⟨⟨old,k e (by simp) _ a1⟩,a2.at fun o q=>k it (by simp) o q⟩
 item:=by
  intro X hP hw hK hc i pins s σ H E I hf st hg
  subst hP hw hK
  obtain ⟨⟨old,a1⟩,a2⟩:=st
  obtain ⟨xs,x,e1,ex⟩:=hg
  obtain ⟨its,rv,p1,_⟩:=I.tuple (SqT.of e1)
  obtain ⟨u,hu,r⟩:=rv.get ex
  have lt:i < its.toArray.size:=by simp; exact (List.getElem?_eq_some_iff.mp hu).1
  have ho:∀b∈[e,it],b < s.heap.objs.size:=fun b hb=>by
   obtain ⟨o2,a2',_⟩:=a2
   simp only [List.mem_cons,List.not_mem_nil,or_false] at hb
   rcases hb with rfl | rfl
   ·exact Heap.lt_size a1
   ·exact Heap.lt_size a2'
  have nl:∀b∈[e,it],l≠b:=fun b hb q=>by rw [q,(hf b hb).1] at e1; cases e1
  have p1':s.heap.IsTuple l its.toArray:=p1
  have DD:Draws X.prog X.w X.A.in1 it [it,l] its.toArray.size (fun i v=>its.toArray[i]? = some v) (fun i h=>h.IsTupleIter it l i∧h.IsTuple l its.toArray):=iW (show X.A.in1.handled=none from I.ok.hd hc) it l (nl it (by simp)) its.toArray
  refine wpAny_pyNext_enum_itemD DD a1 ⟨a2,p1'⟩ lt hne (by simp only [List.mem_cons,List.not_mem_nil,or_false,not_or]; exact ⟨hne,Ne.symm (nl e (by simp))⟩) fun x' h' tk px b1 b2 b3 b4 bk=>⟨_,rfl,?_⟩
  have hu':its.toArray[i]? = some u:=by simpa using hu
  have eu:u=x':=Option.some.inj (hu'.symm.trans px)
  subst eu
  exact gO (tn:=fun i h=>(∃old,IsEnum h e it i old)∧h.IsTupleIter it l i) hne I hf e1 ex ho r b1 b3 bk fun h'' c1 cs=>⟨⟨u,c1⟩,b2.1.extBut cs.extBut (Ne.symm hne)⟩
 done:=by
  intro X hP hw hK hc i pins s σ H E I hf st hg
  subst hP hw hK
  obtain ⟨⟨old,a1⟩,a2⟩:=st
  obtain ⟨xs,e1,ex⟩:=hg
  obtain ⟨its,rv,p1,_⟩:=I.tuple (SqT.of e1)
  have lv:=rv.length
  have p1':s.heap.IsTuple l its.toArray:=p1
  have hT:s.TypeIs (.ref e) "enumerate" := ⟨_,a1,rfl⟩
  unfold pyNext
  refine wpAny_bind (wpAny_attempt (wpAny_callSpecial?_slot (name:=Str.ofString "__next__") hT F.slot_enumerate_next
   (wpAny_call_entry F.slot_enumerate_next hT F.entry_enumerate_next ?_ (F.args_enumerate_next_1 _))))
  show wpAny _ _ (field (.ref e) 2 >>= _) _ _ _
  refine wpAny_bind (wpAny_field a1 rfl (x:=.ref it) rfl ?_)
  refine wpAny_bind (ck (I.ok.hd hc) a2 p1' (by simp; omega) fun h' x he' hx'=>?_)
  obtain ⟨o,ho,hc⟩:=hx'
  refine wpAny_bind (wpAny_isInstance (T := "StopIteration") (b:=true) ⟨o,ho,hc⟩ isSubtype_stop ?_)
  refine wpAny_pure ⟨rfl,?_⟩
  exact I.turnedN (t':=s.toks) hf fun b o hb q=>by
   simp only [List.mem_cons,List.not_mem_nil,or_false,not_or] at hb
   exact he' b o hb.2 q
 self:=fun _ _ _ _ _ st h=>by obtain ⟨⟨old,a1⟩,_⟩:=st; exact wpAny_pyIter_enum a1 h
def xA (ta:TA):TI:=fun σ H R=>ta σ H fun vs H1=>∃l xs,vs=[.ref l]∧((H1 l=some (.lst xs)∧R (Ite .lst l) H1)∨(H1 l=some (.tup xs)∧R (Ite .tup l) H1))
theorem lI {X:Cx} {a:Expr} {ta:TA} {p pos tp:Pos} {es:List Expr} {kk:Nat} (hg:Gl X "enumerate") (hm:X.mg "enumerate" = none) (ha:PA X [a] ta)
  (hs:starEach [a] X.env=[(false,eval a X.env)]:=by rfl) :
  PI X (.Tuple es kk tp) (.Call (.Name "enumerate" p) [a] [] pos) (xA ta):=by
 intro pins s σ H R I h
 refine Call_ (dI I hg hm PyProof.Rows.boot_enumerate (PyProof.Rows.callWith_type1 (thn (ha pos pins s σ H _ I h) fun us s1 ⟨vs,H1,I1,r1,q1⟩=>?_) (by rw [hs]; rfl) (by rfl)))
 obtain ⟨l,xs,rfl,q⟩:=q1
 cases r1 with
 | cons r rr =>
  cases rr
  cases r
  rcases q with ⟨e1,q⟩ | ⟨e1,q⟩
  ·obtain ⟨its1,rv1,p1,_⟩:=I1.list (SqL.of e1)
   refine call_enumerate_list p1.isList fun h' z1 z2 sz keep=>?_
   have I2:Inv X pins σ H1 { s1 with heap:=h' }:=I1.kept (t':=s1.toks) keep
   refine wpAny_pyIter_enum z1 ⟨s1.heap.objs.size + 1,[s1.heap.objs.size + 1,s1.heap.objs.size],_,_,H1,rfl,I2,jS l _ _ (Nat.succ_ne_self _),⟨⟨_,z1⟩,z2⟩,fun b hb=>?_,q⟩
   have hb':s1.heap.objs.size≤b:=by
    simp only [List.mem_cons,List.not_mem_nil,or_false] at hb
    rcases hb with rfl | rfl <;> omega
   exact I1.fpOk hb' (I1.hok.fresh hb')
  ·obtain ⟨its1,rv1,p1,_⟩:=I1.tuple (SqT.of e1)
   have p1':s1.heap.IsTuple l its1.toArray:=p1
   refine cm p1' fun h' z1 z2 sz keep=>?_
   have I2:Inv X pins σ H1 { s1 with heap:=h' }:=I1.kept (t':=s1.toks) keep
   refine wpAny_pyIter_enum z1 ⟨s1.heap.objs.size + 1,[s1.heap.objs.size + 1,s1.heap.objs.size],_,_,H1,rfl,I2,jT l _ _ (Nat.succ_ne_self _),⟨⟨_,z1⟩,z2⟩,fun b hb=>?_,q⟩
   have hb':s1.heap.objs.size≤b:=by
    simp only [List.mem_cons,List.not_mem_nil,or_false] at hb
    rcases hb with rfl | rfl <;> omega
   exact I1.fpOk hb' (I1.hok.fresh hb')
theorem iX {f:List V→HO} (hf:∀xs ys,f xs=f ys→xs=ys) {l:Addr} {xs:List V} {g:TG} {tb:TS} {D:Ends} {σ:St} {H:Hp} (Pv:Nat→St→Hp→Prop) (h0:Pv 0 σ H) (hk:∀i σ H',Pv i σ H'→H' l=some (f xs))
  (ht:∀i x p σ H,xs[i]? = some x→H p=none→Pv i σ H→g (.ref p) σ (upd H p (.tup [.int i,x])) fun σ2 H2=>tb { D with nx:=Pv (i + 1),ct:=Pv (i + 1),bk:=D.nx } σ2 H2) (hd:∀σ H,Pv xs.length σ H→D.nx σ H) :
  ∃W:Nat→Nat→St→Hp→Prop,(∃m,W 0 m σ H)∧∀i m σ H,W i m σ H →
   ((Ite f l).stop i H∧D.nx σ H)∨((Ite f l).go i H∧∃N:St→Hp→Prop,(∀σ' H',N σ' H'→∃m',m' < m∧W (i + 1) m' σ' H')∧∀x H',(Ite f l).yld i H x H'→g x σ H' fun σ2 H2=>tb { D with nx:=N,ct:=N,bk:=D.nx } σ2 H2):=by
 refine ⟨fun i m σ H=>m=xs.length - i∧i≤xs.length∧Pv i σ H,⟨xs.length,by simp,Nat.zero_le _,h0⟩,?_⟩
 rintro i m σ H ⟨rfl,hi,p⟩
 have e1:=hk i σ H p
 by_cases hlt:i < xs.length
 ·refine .inr ⟨⟨xs,xs[i],e1,by simp [hlt]⟩,Pv (i + 1),fun σ' H' p'=>⟨xs.length - (i + 1),by omega,rfl,hlt,p'⟩,fun v H' y=>?_⟩
  obtain ⟨q,xs',x,hq,rfl,rfl,e1',ex⟩:=y
  rw [e1] at e1'
  cases hf _ _ (Option.some.inj e1')
  exact ht i x q σ H ex hq p
 ·have e:i=xs.length:=by omega
  subst e
  exact .inl ⟨⟨xs,e1,Nat.le_refl _⟩,hd σ H p⟩
end L2
set_option Elab.async false
set_option linter.all false
set_option maxRecDepth 100000
namespace Pc
open PySem L2
def aU (k:Kd):Bool:=k.tu && !decide (k.w=k.h)
def lyT (i:Nat) (k:Kd):List (Nat×Bool):=(i,false) :: if aU k=true then [(i,true)] else []
def lyK:List Kd→Nat→List (Nat×Bool)
 | [],_=>[]
 | k :: r,i=>lyT i k ++ lyK r (i + 1)
theorem iY (k:Kd):∀ (ks:List Kd) (i:Nat),lyK (ks ++ [k]) i=lyK ks i ++ lyT (i + ks.length) k
 | [],i=>by simp [lyK]
 | c :: r,i=>by
  show lyT i c ++ lyK (r ++ [k]) (i + 1)=(lyT i c ++ lyK r (i + 1)) ++ _
  rw [iY k r (i + 1),List.append_assoc]
  congr 2
  simp only [List.length_cons]
  congr 1
  omega
theorem qG (i:Nat) (k:Kd):(lyT i k).length≤2:=by unfold lyT; split <;> simp
theorem ii:∀ (ks:List Kd) (i:Nat),(lyK ks i).length≤2 * ks.length
 | [],i=>by simp [lyK]
 | c :: r,i=>by
  have:=ii r (i + 1)
  have:=qG i c
  simp only [lyK,List.length_append,List.length_cons]
  omega
def fU (K:PySem.W.Frag):Sp:=fun vs H Q _=>∃ (a:Addr) (k:Kd),vs=[.ref a]∧H a=some (.tup (kdV k))∧Q (.bl (aU k)) H
def cn (ks:List Kd) (x t:V):Bool:=match x,t with
 | .int i,.bl b=>decide (0≤i) && match ks[i.toNat]? with
  | some k=>!b || aU k
  | none=>false
 | _,_=>false
def dB (K:PySem.W.Frag) (C:Addr):Sp:=fun vs H Q _=>∃ (s:Addr) (b:Int) (ks:List Kd) (x t:V) (T U:String),vs=[.ref s,x,t]∧ShopAt C H s b ks∧Ty K H x T∧Ty K H t U∧Q (.bl (cn ks x t)) H
end Pc
set_option Elab.async false
set_option linter.all false
set_option maxRecDepth 100000
namespace L2
open PySem PySem.Spec PyProof.Rows
section
variable {X:Cx}
theorem lJ {k:Nat} {C:Addr} {ps:List Str} {sp:Sp} {m:Str} {o:Expr} {e:Expr} {es:List Expr} {ta:TE} {t:TA} {apos pos:Pos} {pl:Sem Bool} (he:PE X o ta) (c:Cls X.K C) (D:Mn X.prog X.w X.K X.mg X.base C m ps k sp) (hr:Room k X.A) (ha:PA X (e :: es) t)
  (hst:starEach (e :: es) X.env=(false,eval e X.env) :: starEach es X.env:=by rfl) (hpl:(backTo pos (starEach es X.env)).any (·.1)=false:=by rfl)
  (ht:eval (.Call (.Attribute o m apos) (e :: es) [] pos) X.env=(do
   let ov←eval o X.env
   standAt apos.atName
   let (f,first)←holding [ov] (getMethod ov m pl)
   callWith pos f first (backTo pos (starEach (e :: es) X.env)) (backToKw pos (keywordEach [] X.env))):=by rfl):PE X (.Call (.Attribute o m apos) (e :: es) [] pos) (lA C m sp [] E0 ta t):=by
 obtain ⟨f,fd,F,hb,hm⟩:=D
 exact qu he c hm F hr hb .nil lD ha hst hpl ht
end
end L2
set_option Elab.async false
set_option linter.all false
set_option maxRecDepth 100000
namespace L2
open PySem PySem.Spec PyProof.Rows
section
variable {X:Cx}
theorem dQ {pos:Pos}:PE X (.Dict [] [] pos) (fun _ H Q=>∀p,H p=none→Q (.ref p) (upd H p (.dK []))):=by
 intro pins s σ H Q I h
 have hb:sysModules < s.heap.objs.size:=Nat.lt_trans (show sysModules < mainGlobals by decide) (I.mod.glob.keeps I.bk).lt
 refine wpAny_Dict_empty ⟨.ref s.heap.objs.size,_,?_,rfl,h _ (I.hok.fresh (Nat.le_refl _))⟩
 refine I.laid (a:=s.heap.objs.size) (o:=.dK []) (t':=s.toks) (fun _ _ q=>Heap.get?_push_of_some _ q) (Nat.le_refl _) ?_
 exact ⟨Nat.zero_le _,beq_eq_false_iff_ne.mpr (Nat.ne_of_gt hb),[],.nil,Heap.DictOf.new _⟩
end
end L2
namespace Pc
open PySem L2
end Pc
namespace Pc
open PySem PySem.Spec L2
end Pc
set_option Elab.async false
set_option linter.all false
set_option maxRecDepth 100000
namespace L2
open PySem PySem.Spec PyProof.Rows
section
variable {K:PySem.W.Frag} {C X:Addr}
theorem ij (h:ExcC K C):(PySem.W.clsIn K C).isSome=true∧PySem.W.typeIn K (.ref C)=some (.type "type"):=by
 unfold ExcC PySem.W.excIn at h
 split at h
 ·rename_i e
  refine ⟨?_,?_⟩
  ·unfold PySem.W.clsIn
   rw [e]
   rfl
  ·show Option.map (fun x=>x.cls) (List.lookup C K)=_
   rw [e]
   rfl
 ·cases h
theorem gP {t:Value} {b:Bool} (hx:ExcC K X) (s:PySem.W.subIn K t (.ref X)=some b):PySem.W.kitCls K t (.ref X)=some b:=by
 obtain ⟨h1,h2⟩:=ij hx
 unfold PySem.W.kitCls
 simp only [h1,h2,s]
 rfl
theorem iZ:PySem.W.kitOne K (.ref C) (.ref C)=some true:=by
 unfold PySem.W.kitOne
 rw [if_pos (by simp)]
theorem tj {b:Bool} (hx:ExcC K X) (ne:¬ X=C) (s:PySem.W.subIn K (.ref C) (.ref X)=some b):PySem.W.kitOne K (.ref C) (.ref X)=some b:=by
 unfold PySem.W.kitOne
 rw [if_neg (fun z=>ne (Value.ref.inj (beq_iff_eq.mp z)).symm)]
 exact gP hx s
theorem aV (s0:PySem.W.subIn K (.ref C) (.ref C)=some true) (hx:ExcC K X) (s:PySem.W.subIn K (.ref C) (.ref X)=some false):PySem.W.kitOne K (.ref C) (.ref X)=some false :=
 tj hx (fun z=>by rw [z,s0] at s; cases s) s
theorem oB (s:PySem.W.subIn K (.ref C) (.type "ValueError")=some true):PySem.W.kitOne K (.ref C) (.type "ValueError")=some true:=by
 unfold PySem.W.kitOne
 rw [if_neg (fun z=>by cases (beq_iff_eq.mp z))]
 show (if PySem.W.kitMeta "ValueError" = true then PySem.W.subIn K (.ref C) (.type "ValueError") else none)=_
 rw [if_pos (show PySem.W.kitMeta "ValueError" = true by decide +kernel)]
 exact s
theorem cQ {t:Value}:PySem.W.kitAny K t []=some false:=rfl
theorem aE {t c:Value} {cs:List Value} (h:PySem.W.kitOne K t c=some false) (r:PySem.W.kitAny K t cs=some false):PySem.W.kitAny K t (c :: cs)=some false:=by
 show (match PySem.W.kitOne K t c with | some true=>some true | some false=>PySem.W.kitAny K t cs | none=>none)=_
 rw [h]
 exact r
theorem oC (hx:ExcC K X) (b:PySem.W.subIn K (.ref X) (.type "BaseException")=some true) (s:PySem.W.subIn K (.ref C) (.ref X)=some true):PySem.W.exmOne K (.ref C) (.ref X)=some true:=by
 unfold PySem.W.exmOne
 rw [b,if_pos (show ((some true == some true)=true) from rfl)]
 exact gP hx s
end
end L2
set_option Elab.async false
set_option linter.all false
set_option maxRecDepth 100000
namespace L2
open PySem PySem.Spec PyProof.Rows
section
variable {X:Cx} {k:Nat} {f C:Addr} {fd:FuncData} {ps:List Str} {sp:Sp} {x:Str} {p pos:Pos} {e:Expr} {es:List Expr} {t:TA}
end
section
variable {X:Cx}
theorem oE:OpR X (binaryOp .Add) (fun x y H Q=>∃a b ys,x=.ref a∧y=.ref b∧SqT X.K H a []∧SqT X.K H b ys∧Q (.ref b) H):=by
 intro pins s σ H x y v u Q I rx ry h
 obtain ⟨a,b,ys,rfl,rfl,ha,hb,q⟩:=h
 cases rx
 cases ry
 obtain ⟨its,r1,p1,_⟩:=I.tuple ha
 obtain ⟨its2,r2,p2,_⟩:=I.tuple hb
 cases r1
 obtain ⟨⟨cls,dd,data,sl⟩,ho,hc,n,hd⟩:=p1
 obtain ⟨⟨cls2,dd2,data2,sl2⟩,ho2,hc2,n2,hd2⟩:=p2
 simp only at hc hd hc2 hd2
 subst hc hd hc2 hd2
 exact concat_meets ⟨_,ho,rfl⟩ ⟨_,ho2,rfl⟩ noFill_tuple_add seq_tuple_add PySem.F.slot_tuple_add PySem.F.entry_tuple_add (PySem.F.args_tuple_add_2 _ _)
   (tuple_addW0 a b _ _ n n2 dd dd2 sl sl2 rfl) ⟨ho,ho2,⟨.ref b,H,I,rfl,q⟩⟩
end
end L2
namespace Pc
open PySem L2
end Pc
namespace Pc
open PySem L2
end Pc
set_option Elab.async false
set_option linter.all false
set_option maxRecDepth 100000
namespace L2
open PySem PySem.Spec PyProof.Rows
section
variable {X:Cx}
def xB:R2:=fun x y H Q=>∃a b xs ys,x=.ref a∧y=.ref b∧H a=some (.tup xs)∧H b=some (.tup ys)∧xs.length + ys.length≤sizeLine ∧
 ∀m H',(H'=H∧(m=a∨m=b))∨(H m=none∧H'=upd H m (.tup (xs ++ ys)))→H' m=some (.tup (xs ++ ys))→Q (.ref m) H'
theorem ik:OpR X (binaryOp .Add) xB:=by
 intro pins s σ H x y v u Q I rx ry h
 obtain ⟨a,b,xs,ys,rfl,rfl,ha,hb,hz,q⟩:=h
 by_cases hx:xs=[]
 ·subst hx
  exact oE pins s σ H _ _ v u Q I rx ry ⟨a,b,ys,rfl,rfl,SqT.of ha,SqT.of hb,q b H (.inl ⟨rfl,.inr rfl⟩) hb⟩
 ·refine qx pins s σ H _ _ v u Q I rx ry ⟨a,b,xs,ys,rfl,rfl,SqT.of ha,SqT.of hb,hx,hz,fun e=>?_,fun e p hp=>q p _ (.inr ⟨hp,rfl⟩) ag⟩
  subst e
  exact q a H (.inl ⟨rfl,.inl rfl⟩) (by rw [List.append_nil]; exact ha)
end
theorem dC (xs:List V) (k:Nat):bO xs (some (k:Int)) none=xs.drop k:=by
 unfold bO
 rw [HT.sIx_none,HT.sIx_nat]
 rcases Nat.le_total k xs.length with h | h
 ·rw [Nat.min_eq_left h,List.take_of_length_le (by rw [List.length_drop]; exact Nat.le_refl _)]
 ·rw [Nat.min_eq_right h,List.drop_of_length_le (Nat.le_refl _),List.drop_of_length_le h,List.take_nil]
end L2
namespace Pc
open PySem L2
end Pc
set_option Elab.async false
set_option linter.all false
set_option maxRecDepth 100000
namespace L2
open PySem PySem.Spec PyProof.Rows
section
variable {X:Cx}
theorem ja:∀ {bs:List Bool} {its:List Value},Vals (bs.map V.bl) its→its=bs.map Value.bool
 | [],_,r=>by cases r; rfl
 | b :: bs,_,r=>by
  cases r with
  | cons r1 r2 =>
   have e:_=Value.bool b:=r1
   subst e
   rw [List.map_cons,ja r2]
theorem mt (bs:List Bool):(List.range bs.length).all (fun i=>bs.getD i false)=bs.all id:=by
 rw [Bool.eq_iff_iff,List.all_eq_true,List.all_eq_true]
 constructor
 ·intro h b hb
  obtain ⟨i,hi,e⟩:=List.getElem_of_mem hb
  have:=h i (List.mem_range.mpr hi)
  rw [List.getD_eq_getElem?_getD,List.getElem?_eq_getElem hi] at this
  simpa [e] using this
 ·intro h i hi
  have hi':=List.mem_range.mp hi
  rw [List.getD_eq_getElem?_getD,List.getElem?_eq_getElem hi']
  exact h _ (List.getElem_mem hi')
theorem fc (hc:X.calm=true):bY X (.builtin "all") (fun xs H Q=>∃ (p:Addr) (bs:List Bool),xs=[.ref p]∧SqL X.K H p (bs.map V.bl)∧Q (.bl (bs.all id)) H):=by
 intro pins s σ H xs us Q I r h
 obtain ⟨p,bs,rfl,hs,q⟩:=h
 obtain ⟨u,rfl,rfl⟩:=dW r
 obtain ⟨its,rv,pl,_⟩:=I.list hs
 have e:=ja rv
 subst e
 have hlt:p < s.heap.objs.size:=by obtain ⟨_,_,e,_⟩:=pl; exact Heap.lt_size e
 refine call_all_walk (wpAny_pyIter_list pl.isList ?_)
 refine ⟨_,_,_,_,_,_,fun i=>bs.getD i false,rfl,Walks.list (A:=X.A.in1) (I.ok.hd hc) _ p (Nat.ne_of_lt hlt) _,⟨⟨_,Heap.get?_push_size _ rfl,rfl,rfl⟩,pl.isList.push _⟩,fun i v s' Q' E' hP hQ'=>?_,fun h' tk hk=>?_⟩
 ·have hP':(bs.map Value.bool)[i]? = some v:=by simpa using hP
  rw [List.getElem?_map] at hP'
  cases hb:bs[i]? with
  | none=>rw [hb] at hP'; cases hP'
  | some b =>
   rw [hb] at hP'
   cases hP'
   have hQ2:Q' (bs.getD i false) s':=hQ'
   rw [List.getD_eq_getElem?_getD,hb] at hQ2
   exact wpAny_truthy_bool hQ2
 ·have e2:((bs.map Value.bool).toArray.size)=bs.length:=by simp
  rw [e2,mt]
  refine ⟨.bl (bs.all id),H,I.kept (h':=h') (t':=tk) (fun b o e=>hk b o ?_ (Heap.get?_push_of_some _ e)),rfl,q⟩
  intro z
  rw [List.mem_singleton.mp z] at e
  exact absurd (Heap.lt_size e) (Nat.lt_irrefl _)
end
end L2
set_option Elab.async false
set_option linter.all false
set_option maxRecDepth 100000
namespace L2
open PySem PySem.Spec PyProof.Rows
section
variable {X:Cx}
end
theorem cA {α:Type} {xs:List α} {i:Int} {v:α} (h0:0≤i) (h:xs[i.toNat]? = some v):atI xs i=some v:=by
 have e:i=((i.toNat:Nat):Int):=by omega
 have z:atI xs ((i.toNat:Nat):Int)=some v:=qy h
 rw [← e] at z; exact z
end L2
namespace Pc
open PySem L2
def jU (K:PySem.W.Frag):Sp:=fun vs H Q _=>∃ (a:Addr) (ns:List Int) (n:Int),vs=[.ref a,.int n]∧SqL K H a (ns.map V.int)∧0≤n∧∀c:Int,Q (.int c) H
end Pc
set_option Elab.async false
set_option linter.all false
set_option maxRecDepth 100000
namespace L2
open PySem
theorem Room.units66 {k:Nat} {A:Around} (r:Room k A):A.units + 66 < cLine:=by have:=r.un; omega
end L2
namespace Pc
open PySem L2
def Short (i:Int):Prop:=i.natAbs < 10 ^ 62
theorem Short.log {i:Int} (h:Short i):i.natAbs.log2 < 1920:=by
 unfold Short at h
 rcases Nat.eq_zero_or_pos i.natAbs with h0 | hp
 ·rw [h0]; decide
 ·refine (Nat.log2_lt (Nat.ne_of_gt hp)).mpr (Nat.lt_trans h ?_)
  decide +kernel
theorem Short.len {i:Int} (h:Short i):(PyData.shown (.int i)).length≤63:=by
 show (Str.ofString (toString i)).length≤63
 rw [ofString_length]
 exact int_text_length_le10 (by decide) h
end Pc
set_option Elab.async false
set_option linter.all false
set_option maxRecDepth 100000
namespace L2
open PySem PySem.Spec PyProof.Rows
mutual
inductive DatD (K:PySem.W.Frag) (H:Hp):V→PyData→Prop
 | non:DatD K H .non .none
 | bl (b:Bool):DatD K H (.bl b) (.bool b)
 | int (i:Int):DatD K H (.int i) (.int i)
 | str (x:Str):DatD K H (.str x) (.str x)
 | lst {a:Addr} {xs:List V} {ds:List PyData}:SqL K H a xs→DatDs K H xs ds→DatD K H (.ref a) (.list ds)
 | tup {a:Addr} {xs:List V} {ds:List PyData}:SqT K H a xs→DatDs K H xs ds→DatD K H (.ref a) (.tuple ds)
 | dct {a:Addr} {kv:List (Int×Int)}:H a=some (.dK (kv.map fun p=>(Sum.inl p.1,V.int p.2)))→DatD K H (.ref a) (.dict (kv.map fun p=>(.int p.1,.int p.2)))
inductive DatDs (K:PySem.W.Frag) (H:Hp):List V→List PyData→Prop
 | nil:DatDs K H [] []
 | cons {x:V} {d:PyData} {xs:List V} {ds:List PyData}:DatD K H x d→DatDs K H xs ds→DatDs K H (x :: xs) (d :: ds)
end
def SysIn (K:PySem.W.Frag):Prop:=∃o,K.lookup sysModules=some o∧o.cls=.type "dict"
section
variable {X:Cx} {pins:List (Addr×Obj)} {σ:St} {H:Hp} {s:Shared}
theorem fV {h:Heap} {P:Program} {w:World}:∀ {es:List DictEntry} {kv:List (Int×Int)} {vs:List (Key×Value)},KV (kv.map fun p=>((Sum.inl p.1:Key),V.int p.2)) vs→Pairs (fz P w) es vs →
  ReadsAll h (es.map (·.key)) ((kv.map fun p=>(PyData.int p.1,PyData.int p.2)).map (·.1)) []∧ReadsAll h (es.map (·.val)) ((kv.map fun p=>(PyData.int p.1,PyData.int p.2)).map (·.2)) []
 | es,[],vs,k,p=>by
  cases k
  cases p
  exact ⟨.nil,.nil⟩
 | es,(i,j) :: kv,vs,k,p=>by
  cases k with
  | @cons _ q _ l2 k1 k2 =>
   obtain ⟨e1,t,e2⟩:=k1
   cases p with
   | @cons e _ es' vs' p1 p2 p3 =>
    obtain ⟨q1,q2⟩:=q
    have e1':(Sum.inl i:Key)=q1:=e1
    subst e1'
    obtain ⟨t',ek⟩:=Value.isInt_shape (k:=i) (v:=e.key) p1
    have e2':q2=Value.int j t:=e2
    obtain ⟨r1,r2⟩:=fV (h:=h) k2 p3
    have ev:e.val=Value.int j t:=by rw [p2]; exact e2'
    refine ⟨?_,?_⟩
    ·simp only [List.map_cons]
     rw [ek]
     exact .cons (as:=[]) (.int i t') r1
    ·simp only [List.map_cons]
     rw [ev]
     exact .cons (as:=[]) (.int j t) r2
mutual
theorem Inv.readsD (I:Inv X pins σ H s) (sm:SysIn X.K):∀ {v:V} {d:PyData},DatD X.K H v d→∀ {u:Value},RelV v u→∃as,Reads s.heap u d as∧sysModules∉as
 | _,_,.non,u,r=>by cases (show u=Value.none from r); exact ⟨_,.none,by simp⟩
 | _,_,.bl b,u,r=>by cases (show u=Value.bool b from r); exact ⟨_,.bool b,by simp⟩
 | _,_,.int i,u,r=>by obtain ⟨t,e⟩:=(show ∃t,u=Value.int i t from r); subst e; exact ⟨_,.int i t,by simp⟩
 | _,_,.str x,u,r=>by obtain ⟨t,e⟩:=(show ∃t,u=Value.str x t from r); subst e; exact ⟨_,.str x t,by simp⟩
 | _,_,.lst (a:=a) h hs,u,r=>by
  cases (show u=Value.ref a from r)
  obtain ⟨its,rv,⟨o,n,e,c,_,d⟩,_⟩:=I.list h
  obtain ⟨as,ra,na⟩:=I.readsAllD sm hs rv
  refine ⟨_,.list e c d (by simpa using ra),?_⟩
  intro z
  rcases List.mem_cons.mp z with z | z
  ·obtain ⟨o',k1,k2⟩:=sm
   have k3:=I.kIn _ _ k1
   rw [z,e] at k3
   cases k3
   rw [c] at k2
   simp at k2
  ·exact na z
 | _,_,.tup (a:=a) h hs,u,r=>by
  cases (show u=Value.ref a from r)
  obtain ⟨its,rv,⟨o,e,c,n,d⟩,_⟩:=I.tuple h
  obtain ⟨as,ra,na⟩:=I.readsAllD sm hs rv
  exact ⟨_,.tuple e c d (by simpa using ra),na⟩
 | _,_,.dct (a:=a) (kv:=kv) h,u,r=>by
  cases (show u=Value.ref a from r)
  obtain ⟨_,ne,vs,kv',o,es,ep,h1,h2,h3,_,h5,_⟩:=I.hok a _ h
  obtain ⟨r1,r2⟩:=fV (h:=s.heap) kv' h5
  refine ⟨_,.dict h1 h2.1 h3 r1 r2,?_⟩
  intro z
  have z':sysModules=a:=by simpa using z
  rw [z'] at ne
  simp at ne
theorem Inv.readsAllD (I:Inv X pins σ H s) (sm:SysIn X.K):∀ {vs:List V} {ds:List PyData},DatDs X.K H vs ds→∀ {us:List Value},Vals vs us→∃as,ReadsAll s.heap us ds as∧sysModules∉as
 | _,_,.nil,_,.nil=>⟨_,.nil,by simp⟩
 | _,_,.cons h hs,_,.cons r rs=>by
  obtain ⟨as,ra,na⟩:=I.readsD sm h r
  obtain ⟨bs,rb,nb⟩:=I.readsAllD sm hs rs
  exact ⟨_,.cons ra rb,fun z=>(List.mem_append.mp z).elim na nb⟩
end
theorem fW (sm:SysIn X.K) (hg:X.A.guards=some []) (hu:X.A.units + 66 < cLine):bY X (.builtin "repr") (fun xs H Q=>∃a d,xs=[.ref a]∧DatD X.K H (.ref a) d∧d.showable=true∧d.depth≤64∧d.shown.length≤sizeLine∧Q (.str d.shown) H):=by
 intro pins s σ H xs us Q I r h
 obtain ⟨a,d,rfl,hd,h1,h3,h4,q⟩:=h
 obtain ⟨u,rfl,rfl⟩:=dW r
 obtain ⟨as,ra,na⟩:=I.readsD sm hd (u:=.ref a) rfl
 exact repr_of_reads' ra h1 (fun _=>na) hg (by omega) (fun _ _ e=>e) (fun h' u tk hk=>⟨.str d.shown,H,I.kept hk,⟨_,rfl⟩,q⟩) h4
end
end L2
set_option Elab.async false
set_option linter.all false
set_option maxRecDepth 100000
namespace L2
open PySem PySem.Spec PyProof.Rows
section
variable {X:Cx} {k:Nat} {ps:List Str} {sp:Sp} {x:Str} {p pos:Pos} {e:Expr} {es:List Expr} {t:TA}
def DnX (P:Program) (w:World) (K:PySem.W.Frag) (mg:Str→Option Value) (base:Heap) (x:Str) (ps:List Str) (k:Nat) (sp:Sp):Prop :=
 ∃ (f:Addr) (fd:FuncData),FnOk P w K mg base (CXx P w) k f fd ps sp∧Binds K fd ps []∧PySem.W.keepIn K (.ref f)=true∧mg x=some (.ref f)
def tm (sp:Sp) (t:TA):TX:=fun σ H Q E=>t σ H fun vs H1=>sp vs H1 Q E
theorem il (D:DnX X.prog X.w X.K X.mg X.base x ps k sp) (hr:Room k X.A) (hg:Gl X x) (ha:PA X.nox (e :: es) t)
  (hdb:(x == ("__debug__" : Str))=false:=by decide) (he:starEach (e :: es) X.env=(false,eval e X.env) :: starEach es X.env:=by rfl) (hpl:(backTo pos (starEach es X.env)).any (·.1)=false:=by rfl) :
  PEx X (.Call (.Name x p) (e :: es) [] pos) (tm sp t):=by
 obtain ⟨f,fd,F,hb,hk,hm⟩:=D
 intro pins s σ H Q E I h
 refine wpAny_Call_Name_kw (cM I hg hm ?_ hdb)
 refine PySem.W.callWith_K (h₀:=X.base) I.ok.mod.kin hk (wpAny_mono (ha pos pins s σ H _ (I.wish _) h) (fun us s1 ⟨vs,H1,I1,r,q⟩=>⟨I1.kIn,?_⟩) fun _ _ z=>False.elim z) he hpl
 exact qF F hr hb I1.unwish r q
end
section
variable {X:Cx} {e:Expr} {tx:TX} {ts:TS} {i j:Nat} {n m y:Str} {CE:Addr} {b₀:Stmt} {suite:List Stmt} {np mp hpos epos pos:Pos}
end
end L2
set_option Elab.async false
set_option linter.all false
set_option maxRecDepth 100000
namespace L2
open PySem PySem.Spec PyProof.Rows
theorem oF {X:Cx} (K:PySem.W.Frag) {x y:Str} {px py pos:Pos} {k:Nat} (hK:X.K=K) (hc:X.calm=true) (hN:X.N.Nodup) (h0:X.N[0]? = some x) (h1:X.N[1]? = some y) (l0:X.env.scope.names.lookup x=some .local) (l1:X.env.scope.names.lookup y=some .local) :
  PG X (.Tuple [.Name x px,.Name y py] k pos) (xa K 2 (nM (iH 0) (nM (iH 1) wZ))) :=
 hK ▸ bH hc (az (aw hN h0 (.inl l0) (.inr l0)) (az (aw hN h1 (.inl l1) (.inr l1)) bf))
theorem jb {l1 l2:Addr} {xs ys:List V} {σ:St} {cap:List Nat} {k:Nat} {g:TG} {tt:TT} {te:TE} {Q:List V→Hp→Prop} {H:Hp} (Pv:Nat→List V→Hp→Prop) (hn:xs.length=ys.length)
  (hk:∀i zs H',Pv i zs H'→H' l1=some (.lst xs)∧H' l2=some (.lst ys)) (h0:Pv 0 [] H)
  (hz:∀i zs H',i < xs.length→Pv i zs H'→zs.length < sizeLine)
  (ht:∀i x y p zs H',xs[i]? = some x→ys[i]? = some y→H' p=none→Pv i zs H'→g (.ref p) (bT σ cap k) (upd H' p (.tup [x,y])) fun σ2 H2=>leS (bT σ cap k) σ2∧tt σ2 H2 fun ok H3=>if ok=true then te σ2 H3 (fun v H4=>Nx xs.length Pv i (zs ++ [v]) H4) else Nx xs.length Pv i zs H3)
  (hd:∀zs H',Pv xs.length zs H'→zs.length≤sizeLine∧Q zs H'):∃W,(∃m,W 0 m [] H)∧iO σ cap k (Itz l1 l2) g tt te Q W:=by
 refine ⟨fun i m zs H'=>m=xs.length - i∧i≤xs.length∧Pv i zs H',⟨_,rfl,Nat.zero_le _,h0⟩,?_⟩
 rintro i m zs H' ⟨rfl,hi,p⟩
 obtain ⟨e1,e2⟩:=hk i zs H' p
 by_cases hlt:i < xs.length
 ·have hx:xs[i]? = some xs[i]:=by simp [hlt]
  have hy:ys[i]? = some (ys[i]'(by omega)):=by simp [show i < ys.length by omega]
  refine .inr ⟨⟨xs,ys,_,_,e1,e2,hx,hy⟩,hz i zs H' hlt p,fun v H2 yl=>?_⟩
  ·obtain ⟨q,xs',ys',x,y,hq,rfl,rfl,e1',e2',ex,ey⟩:=yl
   rw [e1] at e1'; cases e1'
   rw [e2] at e2'; cases e2'
   exact ht i x y q zs H' ex ey hq p
 ·have e:i=xs.length:=by omega
  subst e
  obtain ⟨a1,a2⟩:=hd zs H' p
  exact .inl ⟨⟨xs,ys,e1,e2,.inl (Nat.le_refl _)⟩,a1,a2⟩
end L2
namespace L2
open PySem PySem.Spec PyProof.Rows
section
variable {X:Cx}
end
end L2
set_option Elab.async false
set_option linter.all false
set_option maxRecDepth 100000
namespace L2
open PySem PySem.Spec PyProof.Rows
abbrev TXS:=St→Hp→(Hp→Prop)→XK→Prop
def PSx (X:Cx) (b:List Stmt) (t:TXS):Prop :=
 ∀ (pins:List (Addr×Obj)) (s:Shared) (σ:St) (H:Hp) (N:Hp→Prop) (E:XK),Inv X pins σ H s→t σ H N E→wpAny (model X.prog X.w) X.A (execs b X.env) (fun fl s'=>fl=Flow.next∧∃H',Inv X pins σ H' s'∧N H') (XP X pins σ E) s
section
variable {X:Cx} {e c:Expr} {a b:List Stmt} {tx:TX} {ta tb:TXS} {tt:TT} {pos:Pos}
theorem jc (he:PEx X e tx) (hs:swapsWith e none pos.line X.env=pure false:=by rfl):PSx X [.Expr e pos] (fun σ H N E=>tx σ H (fun _ H1=>N H1) E):=by
 intro pins s σ H N E I h
 exact wpAny_execs_cons (wpAny_Expr_any (wpAny_mono (he pins s σ H _ _ I h) (fun v s1 ⟨x,H1,I1,r1,q1⟩=>wpAny_execs_nil ⟨rfl,H1,I1,q1⟩) fun v s1 hx=>hx) I.quiet hs)
end
def xC (K:PySem.W.Frag) (i:Nat) (CE:Addr) (tx:TXS) (ts:Addr→TS):TS:=fun D σ H=>tx σ H (fun H1=>D.nx σ H1) (fun c _ H1=>PySem.W.exmOne K c (.ref CE)=some true∧∀ea,H1 ea=none →
 ts ea { nx:=fun σ2 H2=>D.nx (σ2.set i none) H2,rt:=D.rt,bk:=fun σ2 H2=>D.bk (σ2.set i none) H2,ct:=fun σ2 H2=>D.ct (σ2.set i none) H2 } (σ.set i (some (.ref ea))) (upd H1 ea (.ext (IsA ea c))))
section
variable {X:Cx} {body:List Stmt} {tx:TXS} {ts:Addr→TS} {i:Nat} {n y:Str} {CE:Addr} {b₀:Stmt} {suite:List Stmt} {np hpos epos pos:Pos}
theorem lK (hst:X.stack=X.env :: X.outer) (hfr:X.env.frame=some X.env.locals) (hex:X.ex=[]) (he:PSx X body tx) (hN:X.N.Nodup) (hi:X.N[i]? = some n) (hk:X.env.scope.names.lookup n=some .local) (hg:Gl X y) (hm:X.mg y=some (.ref CE))
  (hsu:∀ea,PSs (X.marked ea) (b₀ :: suite) (ts ea)) (hd:(y == ("__debug__" : Str))=false:=by decide) :
  PS X (.Try body [.ExceptHandler (some (.Name y np)) (some n) (b₀ :: suite) hpos] [] [] pos) (xC X.K i CE tx ts):=by
 intro pins s σ H D I h
 refine wpAny_Try_except (wpAny_mono (he pins s σ H _ _ I h) (fun fl s1 ⟨e1,H1,I1,q1⟩=>?_) fun v s1 hx=>?_)
 ·subst e1
  exact wpAny_execs_nil ⟨σ,H1,I1,q1⟩
 obtain ⟨ea,c,H0,H',B,s0,rfl,I0,f,hm1,q⟩:=hx
 obtain ⟨a0,fl⟩:=f.fly
 rw [hst] at fl
 refine gN (by rw [← hst]; exact I.ok.frames) hfr fl f.ctx fun h4 held4 sm4 q4=>?_
 refine sY held4 q4 fun h5 fl5 sm5 q5=>?_
 have I5:Inv X pins σ H' { s1 with heap:=h5 }:=f.inv (t:=s1.toks) I0 fl5.1 (sm4.trans sm5)
 obtain ⟨ob,hob,hobc⟩:=fl5.there
 refine wpAny_handleBy_cons (codeAny_handlers_test (cM (X:=X.marked ea) (I5.mark ea) hg hm ?_ hd)) (by intro q; cases q)
 have LT:PySem.W.Looks (model X.prog X.w) h5 (typeOf (.ref ea)) c:=hobc ▸ (PySem.W.Looks.ld hob).andThen .now
 refine (PySem.W.exm_one (M:=model X.prog X.w) I5.kIn LT hm1).here ?_
 show codeAny _ _ _ _ _
 refine codeAny_handlers_suite_as ?_
 refine ie fl5 q5 fun h6 fl6 sm6 q6=>?_
 have I6:Inv X pins σ H' { s1 with heap:=h6 }:=f.inv (t:=s1.toks) I0 fl6.1 ((sm4.trans sm5).trans sm6)
 have I7:Inv X pins σ (upd H' ea (.ext (IsA ea c))) { s1 with heap:=h6 }:=by
  refine I6.track2 f.new.2 (fun z=>?_) ?_ (fun x c' e z=>?_) (fun p hp z=>?_) (IsA.obj (IsA.of fl6.there q6))
  ·obtain ⟨m,⟨o,_,_,ho,_⟩,_⟩:=I0.loc
   have:=f.new.1
   rw [z,ho] at this; cases this
  ·cases q':X.s₀.heap.get? ea with
   | none=>rfl
   | some o =>
    obtain ⟨o',e1⟩:=I0.base.there ea o q' (by rw [hex]; simp)
    have:=f.new.1
    rw [e1] at this; cases this
  ·obtain ⟨v,o,ho,_⟩:=I0.cell x c' e
   have:=f.new.1
   rw [← z,ho] at this; cases this
  ·have:=(I0.pin p hp).1
   rw [z,f.new.1] at this; cases this
 refine cW (X:=X.marked ea) (I7.mark ea) hN hi (.inl hk) (v:=.ref ea) rfl (fun s7 I8=>?_) (.inr hk)
 refine wpAny_mono (hsu ea pins s7 _ _ _ I8 (q ea f.new.2)) (fun fl s8 hq=>?_) fun _ _ z=>False.elim z
 cases fl with
 | next =>
  obtain ⟨σ',H'',J,q'⟩:=hq
  exact dA (J.unmark I.ok) hN hi hk fun s9 J9=>⟨_,_,J9,q'⟩
 | brk =>
  obtain ⟨σ',H'',J,q'⟩:=hq
  exact dA (J.unmark I.ok) hN hi hk fun s9 J9=>⟨_,_,J9,q'⟩
 | cont =>
  obtain ⟨σ',H'',J,q'⟩:=hq
  exact dA (J.unmark I.ok) hN hi hk fun s9 J9=>⟨_,_,J9,q'⟩
 | ret u =>
  obtain ⟨v,σ',H'',J,r,q'⟩:=hq
  exact dA (J.unmark I.ok) hN hi hk fun s9 J9=>⟨_,_,_,J9,r,q'⟩
end
end L2
set_option Elab.async false
set_option linter.all false
set_option maxRecDepth 100000
namespace L2
open PySem PySem.Spec PyProof.Rows
section
variable {M:Model} {A:Around} {E:Value→Shared→Prop} {s:Shared} {base:Heap} {env:Env} {outer:List Env} {L e:Addr} {cls a0:Value} {Q:Unit→Shared→Prop}
theorem tq (hfr:A.frames=some (env :: outer)) (hf:env.frame=some L) (f:Heap.FlyingW base (env :: outer) e cls a0 s.heap) (q:Q2 e s.heap):wpAny M A (leaving env (.ref e)) (fun _ s'=>Q2 e s'.heap) E s:=by
 unfold leaving
 exact wpAny_bind (gN hfr hf f q fun h4 held4 sm4 q4=>ib held4.2.2.2 q4)
theorem jV (hfr:A.frames=some (env :: outer)) (hf:env.frame=some L) (f:Heap.FlyingW base (env :: outer) e cls a0 s.heap) (q:Q2 e s.heap)
  (hQ:∀h',Heap.FlyingW base outer e cls a0 h'→s.heap.UpToSlots h'→Q2 e h'→Q () { s with heap:=h' }):wpAny M A (leaving env (.ref e)) Q E s :=
 wpAny_mono (cj (tq (E:=E) hfr hf f q) (wpAny_leaves_onW (Q:=fun _ s'=>Q2 e s'.heap→Q () s') (E:=E) hfr hf f fun h' a b q=>hQ h' a b q)) (fun _ _ z=>z.2 z.1) fun _ _ z=>z.1
end
section
variable {P:Program} {w:World} {K:PySem.W.Frag} {mg:Str→Option Value} {base:Heap} {N:List Str} {qual:Str} {scope:Scope} {f:Addr} {cd:Value} {A:Around} {outer:List Env} {s₀:Shared} {H₀:Hp} {E:XK}
theorem qH {pins:List (Addr×Obj)} {σ:St} {v:Value} {s1:Shared} (hx:XP (dE (CXx P w) P w K mg base N qual scope f cd A outer s₀ H₀ E) pins σ E v s1):(dE (CXx P w) P w K mg base N qual scope f cd A outer s₀ H₀ E).xe v s1:=by
 obtain ⟨ea,C,H0,H',B,s0,rfl,I0,fl,q⟩:=hx
 obtain ⟨a0,fw⟩:=fl.fly
 have I0':=I0
 show wpAny (model P w) (A.deeper (envOfC qual scope s₀.heap.objs.size f cd)) (leaving (envOfC qual scope s₀.heap.objs.size f cd) (.ref ea)) _ _ s1
 refine jV I0.ok.frames rfl fw fl.ctx fun h' fw' sm q2=>⟨ea,C,H',B,rfl,?_,q⟩
 have J:Inv (dE (CXx P w) P w K mg base N qual scope f cd A outer s₀ H₀ E) pins σ H' { s1 with heap:=h' }:=fl.inv (t:=s1.toks) I0 fw'.1 sm
 have newE:s₀.heap.get? ea=none:=by
  cases z:s₀.heap.get? ea with
  | none=>rfl
  | some o =>
   obtain ⟨o',e1⟩:=I0.base.there ea o z (by show ea∉([]:List Addr); simp)
   have:=fl.new.1
   rw [e1] at this; cases this
 refine ⟨J.os,J.bare,J.base,J.hok,⟨a0,fw'⟩,q2,fun b o nb hh e=>?_,⟨newE,fl.new.2⟩⟩
 have nbs:b∉frs (envOfC qual scope s₀.heap.objs.size f cd :: outer):=fun z=>by
  have z':b=s₀.heap.objs.size∨b∈frs outer:=by
   unfold frs at z ⊢
   rw [List.filterMap_cons] at z
   exact List.mem_cons.mp z
  rcases z' with z | z
  ·subst z
   rcases hh with hh | ⟨o',hh⟩
   ·exact hh J.free
   ·exact absurd (Heap.lt_size hh) (Nat.lt_irrefl _)
  ·exact nb z
 have key:∃o1,s1.heap.get? b=some o1∧(H' b≠none∨∃o',s0.heap.get? b=some o'):=by
  rcases hh with hh | ⟨o',hh⟩
  ·cases z:H' b with
   | none=>exact absurd z hh
   | some u =>
    obtain ⟨ob,eb⟩:=(fl.hok b u z).ex
    exact ⟨ob,eb,.inl (by rw [← z] at *; exact hh)⟩
  ·obtain ⟨o1,e1⟩:=I0.base.there b o' hh (by show b∉([]:List Addr); simp)
   obtain ⟨o2,e2⟩:=fl.un.there b o1 e1 (by simp)
   exact ⟨o2,e2,.inr ⟨o1,e1⟩⟩
 obtain ⟨o1,e1,hh'⟩:=key
 have eB:=fl.cov b o1 nbs hh' e1
 have:=fw'.1 b o1 eB
 rw [e] at this
 cases this
 exact eB
end
end L2
set_option Elab.async false
set_option linter.all false
set_option maxRecDepth 100000
namespace PyProof.Rows
set_option autoImplicit false
open PySem
structure SBaseT (κ0:SortKind) (a₀:Array Keyed) (st:SortSt):Prop where
 perm:(arrOf st).Perm a₀
 kind:kindOf st=κ0
 failed:failedOf st=none
 pend:pendingOf st=#[]
theorem SBaseT.size {κ0:SortKind} {a₀:Array Keyed} {st:SortSt} (h:SBaseT κ0 a₀ st):(arrOf st).size=a₀.size:=h.perm.size_eq
theorem SBaseT.setArr {κ0:SortKind} {a₀:Array Keyed} {st:SortSt} (h:SBaseT κ0 a₀ st) {xs:Array Keyed} (hp:xs.Perm (arrOf st)):SBaseT κ0 a₀ (setArr st xs) :=
 ⟨hp.trans h.perm,h.kind,h.failed,h.pend⟩
theorem SBaseT.atK {κ:KeyKind} {κ0:SortKind} {a₀:Array Keyed} {st:SortSt} (h:SBaseT κ0 a₀ st) (h0:KeysOf κ a₀) {i:Nat} (hi:i < a₀.size) :
  ∃x p a,(arrOf st)[i]? = some (x,p)∧κ.keyOf x=some a∧KK κ (arrOf st) i=a:=by
 have hi':i < (arrOf st).size:=by rw [h.size]; exact hi
 have hm:(arrOf st)[i]∈a₀.toList:=(Array.perm_iff_toList_perm.mp h.perm).mem_iff.mp (by simp)
 obtain ⟨a,ha⟩:=h0 _ hm
 have e:(arrOf st)[i]? = some (arrOf st)[i]:=getElem?_pos _ i hi'
 refine ⟨(arrOf st)[i].1,(arrOf st)[i].2,a,by rw [e],ha,?_⟩
 unfold KK; rw [e]; simp [ha]
def bX (prog:Program) (w:World) (A:Around) (s:Shared) (κ0:SortKind) (κ:KeyKind):Prop :=
 ∀ (E:Value→Shared→Prop) (x y:Value) (a b:κ.α) (Q:Bool→Shared→Prop),κ.keyOf x=some a→κ.keyOf y=some b→Q (κ.blt a b) s→wpAny (model prog w) A (keyLt' κ0 x y) Q E s
section
variable {prog:Program} {w:World} {A:Around} {E:Value→Shared→Prop} {s:Shared} {a₀:Array Keyed} {κ:KeyKind} {κ0:SortKind}
theorem jW (hO:bX prog w A s κ0 κ) {st:SortSt} {i j:Nat} {x y:Value} {a b:κ.α} {p q:Value} {Q:Option Bool→SortSt→Prop} (hk:kindOf st=κ0)
  (hi:(arrOf st)[i]? = some (x,p)) (hj:(arrOf st)[j]? = some (y,q)) (ha:κ.keyOf x=some a) (hb:κ.keyOf y=some b) (h:Q (some (κ.blt a b)) st) :
  wpS (model prog w) A E s (ltAt' i j) Q st:=by
 rw [ltAt'_eq]
 refine wpS_bind (wpS_get ?_)
 show wpS _ _ _ _ (do let x←elem' (arrOf st) i; let y←elem' (arrOf st) j; lt' x y) Q st
 rw [elem'_eq,elem'_eq,hi,hj]
 refine wpS_bind (wpS_pure (wpS_bind (wpS_pure ?_)))
 rw [lt'_eq]
 refine wpS_bind (wpS_get ?_)
 rw [hk]
 refine wpS_bind (wpS_lift (wpAny_attempt (hO _ x y a b _ ha hb ⟨rfl,?_⟩)))
 exact wpS_pure h
theorem cK {st:SortSt} {i j:Nat} {Q:Option Bool→SortSt→Prop} (hO:bX prog w A s κ0 κ) (hB:SBaseT κ0 a₀ st) (h0:KeysOf κ a₀) (hi:i < a₀.size) (hj:j < a₀.size)
  (h:Q (some (κ.blt (KK κ (arrOf st) i) (KK κ (arrOf st) j))) st):wpS (model prog w) A E s (ltAt' i j) Q st:=by
 obtain ⟨x,p,a,e1,ha,ka⟩:=hB.atK h0 hi
 obtain ⟨y,q,b,e2,hb,kb⟩:=hB.atK h0 hj
 rw [ka,kb] at h
 exact jW hO hB.kind e1 e2 ha hb h
theorem fe {st:SortSt} {n ok:Nat} {Q:Bool→SortSt→Prop} (hO:bX prog w A s κ0 κ) (h0:KeysOf κ a₀) (hn:n≤a₀.size) (hok:ok≤n) (hB:SBaseT κ0 a₀ st) (hs:SortedToK κ (arrOf st) ok)
  (h:∀st',SBaseT κ0 a₀ st'→SortedToK κ (arrOf st') n→Q true st'):wpS (model prog w) A E s (binarySort' 0 n ok) Q st:=by
 rw [binarySort'_eq]
 simp only [Nat.zero_add]
 refine wpS_bind (wpS_mono (wpS_forRange (I:=fun k c st'=>c=(none,())∧SBaseT κ0 a₀ st'∧SortedToK κ (arrOf st') (min k n))
  (Q:=fun c st'=>c=(none,())∧SBaseT κ0 a₀ st'∧SortedToK κ (arrOf st') n) ?step ?fin ?init) ?post)
 case post =>
  rintro c st' ⟨rfl,hB',hs'⟩
  exact wpS_pure (h st' hB' hs')
 case init =>
  refine ⟨rfl,hB,fun i j hij hj=>?_⟩
  by_cases h1:ok=0
  ·have:i=j:=by omega
   subst this; exact KeyOrd.kle_refl _
  ·exact hs i j hij (by omega)
 case fin =>
  rintro c st' ⟨hc,hB',hs'⟩
  refine ⟨hc,hB',?_⟩
  rwa [show min (max (max ok 1) n) n=n by omega] at hs'
 case step =>
  rintro k c st' hak hkn ⟨rfl,hB',hs'⟩
  rw [show min k n=k by omega] at hs'
  have hk:k < a₀.size:=by omega
  refine wpS_bind (wpS_mono (wpS_forRange (I:=fun x c st''=>st''=st'∧∃l r,c=(none,l,r)∧l≤r∧r≤k∧r - l≤k - x ∧
    (∀i,i < l→κ.kle (KK κ (arrOf st') i) (KK κ (arrOf st') k))∧(∀i,r≤i→i < k→κ.klt (KK κ (arrOf st') k) (KK κ (arrOf st') i)))
   (Q:=fun c st''=>st''=st'∧∃l r,c=(none,l,r)∧l≤k ∧
    (∀i,i < l→κ.kle (KK κ (arrOf st') i) (KK κ (arrOf st') k))∧(∀i,l≤i→i < k→κ.klt (KK κ (arrOf st') k) (KK κ (arrOf st') i))) ?istep ?ifin ?iinit) ?ipost)
  case iinit=>exact ⟨rfl,0,k,rfl,by omega,by omega,by omega,fun i hi=>by omega,fun i h1 h2=>by omega⟩
  case ifin =>
   rintro c st'' ⟨rfl,l,r,rfl,hlr,hrk,hm,hlo,hhi⟩
   have:l=r:=by omega
   subst this
   exact ⟨rfl,l,l,rfl,hrk,hlo,hhi⟩
  case istep =>
   rintro x c st'' _ hxk ⟨rfl,l,r,rfl,hlr,hrk,hm,hlo,hhi⟩
   dsimp only
   by_cases hge:l≥r
   ·rw [if_pos hge]
    have:l=r:=by omega
    subst this
    exact wpS_pure ⟨rfl,l,l,rfl,hrk,hlo,hhi⟩
   ·rw [if_neg hge]
    refine wpS_bind (cK hO hB' h0 hk (by omega) ?_)
    cases hless:κ.blt (KK κ (arrOf st'') k) (KK κ (arrOf st'') ((l + r) / 2))
    case true =>
     simp only [if_true]
     refine wpS_pure ⟨rfl,l,(l + r) / 2,rfl,by omega,by omega,by omega,hlo,fun i h1 h2=>?_⟩
     exact KeyOrd.klt_of_klt_of_kle hless (hs' _ _ h1 h2)
    case false =>
     simp only [Bool.false_eq_true,if_false]
     refine wpS_pure ⟨rfl,(l + r) / 2 + 1,r,rfl,by omega,by omega,by omega,fun i h1=>?_,hhi⟩
     exact KeyOrd.kle_trans (hs' i ((l + r) / 2) (by omega) (by omega)) (show κ.kle _ _ from hless)
  case ipost =>
   rintro c st'' ⟨rfl,l,r,rfl,hlk,hlo,hhi⟩
   show wpS _ _ _ _ (do moveDown' k l; pure (ForInStep.yield (none,()))) _ _
   rw [moveDown'_eq]
   refine wpS_bind (wpS_modify (wpS_pure ⟨rfl,hB'.setArr (bubble_perm _ _ _),?_⟩))
   rw [show min (k + 1) n=k + 1 by omega]
   have hks:k < (arrOf st'').size:=by rw [hB'.size]; exact hk
   intro i j hij hj
   show κ.kle (KK κ (bubble (arrOf st'') k (k - l)) i) (KK κ (bubble (arrOf st'') k (k - l)) j)
   rw [KK_bubble hks (by omega),KK_bubble hks (by omega),show k - (k - l)=l by omega]
   repeat' split
   all_goals first
    | (exfalso; omega)
    | exact KeyOrd.kle_refl _
    | exact hlo _ (by omega)
    | exact KeyOrd.kle_of_klt (hhi _ (by omega) (by omega))
    | exact hs' _ _ (by omega) (by omega)
theorem dG {st:SortSt} {a nrem:Nat} {Q:AscSt→SortSt→Prop} (hO:bX prog w A s κ0 κ) (h0:KeysOf κ a₀) (hn:nrem≤a₀.size) (ha:1≤a) (han:a≤nrem) (hB:SBaseT κ0 a₀ st)
  (hs:SortedToK κ (arrOf st) a)
  (h:∀n,a≤n→n≤nrem→SortedToK κ (arrOf st) n→(n=nrem∨κ.klt (KK κ (arrOf st) n) (KK κ (arrOf st) (n - 1)))→Q (none,n) st) :
  wpS (model prog w) A E s (ascLoop a nrem) Q st:=by
 unfold ascLoop
 refine wpS_forRange (I:=fun x c st'=>st'=st∧c=(none,x)∧SortedToK κ (arrOf st) x) ?step ?fin ⟨rfl,rfl,hs⟩
 case fin =>
  rintro c st' ⟨rfl,rfl,hs'⟩
  rw [show max a nrem=nrem by omega] at hs' ⊢
  exact h nrem han (Nat.le_refl _) hs' (.inl rfl)
 case step =>
  rintro x c st' hax hxn ⟨rfl,rfl,hs'⟩
  dsimp only
  refine wpS_bind (cK hO hB h0 (by omega) (by omega) ?_)
  cases hless:κ.blt (KK κ (arrOf st') x) (KK κ (arrOf st') (x - 1))
  case true =>
   simp only [if_true]
   exact wpS_pure (h x hax (by omega) hs' (.inr hless))
  case false =>
   simp only [Bool.false_eq_true,if_false]
   refine wpS_pure ⟨rfl,rfl,fun i j hij hj=>?_⟩
   by_cases hjx:j < x
   ·exact hs' i j hij hjx
   ·have hj':j=x:=by omega
    subst hj'
    by_cases hi':i=j
    ·subst hi'; exact KeyOrd.kle_refl _
    ·exact KeyOrd.kle_trans (hs' i (j - 1) (by omega) (by omega)) hless
theorem fk {st:SortSt} {n nrem:Nat} {Q:Option Nat→SortSt→Prop} (hO:bX prog w A s κ0 κ) (h0:KeysOf κ a₀) (hn:nrem≤a₀.size) (h1:1≤n) (hnn:n≤nrem) (hB:SBaseT κ0 a₀ st)
  (hs:NonIncK κ (arrOf st) n) (h:∀m st',SBaseT κ0 a₀ st'→1≤m→m≤nrem→SortedToK κ (arrOf st') m→Q (some m) st') :
  wpS (model prog w) A E s (tail3 n nrem) Q st:=by
 unfold tail3
 have hsz:n≤(arrOf st).size:=by rw [hB.size]; omega
 refine wpS_bind (wpS_reverse ?_)
 have hB':SBaseT κ0 a₀ (setArr st (mirror (arrOf st) 0 n ((n - 0) / 2))):=hB.setArr (mirror_perm _ _ _ _)
 refine wpS_bind (dG hO h0 hn h1 hnn hB' ?_ fun m hm1 hm2 hsm _=>wpS_pure (h m _ hB' (by omega) hm2 hsm))
 intro i j hij hj
 show κ.kle (KK κ (mirror (arrOf st) 0 n ((n - 0) / 2)) i) (KK κ (mirror (arrOf st) 0 n ((n - 0) / 2)) j)
 rw [KK_mirror hsz,KK_mirror hsz,if_pos (by omega),if_pos (by omega)]
 exact hs _ _ (by omega) (by omega)
theorem fX {st:SortSt} {n nrem:Nat} {Q:DescSt→SortSt→Prop} (hO:bX prog w A s κ0 κ) (h0:KeysOf κ a₀) (hn:nrem≤a₀.size) (h1:1≤n) (hnn:n≤nrem) (hB:SBaseT κ0 a₀ st)
  (hs:NonIncK κ (arrOf st) n)
  (h:∀m neq st',SBaseT κ0 a₀ st'→n≤m→m≤nrem→NonIncK κ (arrOf st') m→neq + 1≤m→(∀i,m - (neq + 1)≤i→i < m→KK κ (arrOf st') i=KK κ (arrOf st') (m - 1))→Q (none,m,neq) st') :
  wpS (model prog w) A E s (descLoop n nrem) Q st:=by
 unfold descLoop
 refine wpS_forRange (I:=fun x c st'=>∃neq,c=(none,x,neq)∧SBaseT κ0 a₀ st'∧NonIncK κ (arrOf st') x∧neq + 1≤x ∧
   (∀i,x - (neq + 1)≤i→i < x→KK κ (arrOf st') i=KK κ (arrOf st') (x - 1))) ?step ?fin ⟨0,rfl,hB,hs,by omega,fun i h1 h2=>by congr 1; omega⟩
 case fin =>
  rintro c st' ⟨neq,rfl,hB',hs',hq,he⟩
  rw [show max n nrem=nrem by omega] at hs' hq he ⊢
  exact h nrem neq st' hB' hnn (Nat.le_refl _) hs' hq he
 case step =>
  rintro x c st' hax hxn ⟨neq,rfl,hB',hs',hq,he⟩
  dsimp only
  have hsz:x≤(arrOf st').size:=by rw [hB'.size]; omega
  refine wpS_bind (cK hO hB' h0 (by omega) (by omega) ?_)
  cases hless:κ.blt (KK κ (arrOf st') x) (KK κ (arrOf st') (x - 1))
  case true =>
   simp only [if_true]
   have step1:∀xs:Array Keyed,(∀k,KK κ xs k=KK κ (arrOf st') k)→NonIncK κ xs (x + 1):=by
    intro xs hk i j hij hj
    rw [hk,hk]
    by_cases hjx:j < x
    ·exact hs' i j hij hjx
    ·have hj':j=x:=by omega
     subst hj'
     by_cases hi':i=j
     ·subst hi'; exact KeyOrd.kle_refl _
     ·exact KeyOrd.kle_trans (KeyOrd.kle_of_klt hless) (hs' i (j - 1) (by omega) (by omega))
   by_cases hneq:neq > 0
   ·rw [if_pos hneq]
    refine wpS_bind (wpS_reverse (wpS_pure ⟨0,rfl,hB'.setArr (mirror_perm _ _ _ _),step1 _ (KK_mirror_equal hsz he),by omega,fun i h1 h2=>by congr 1; omega⟩))
   ·rw [if_neg hneq]
    exact wpS_pure ⟨0,rfl,hB',step1 _ (fun _=>rfl),by omega,fun i h1 h2=>by congr 1; omega⟩
  case false =>
   simp only [Bool.false_eq_true,if_false]
   refine wpS_bind (cK hO hB' h0 (by omega) (by omega) ?_)
   cases hlarger:κ.blt (KK κ (arrOf st') (x - 1)) (KK κ (arrOf st') x)
   case true =>
    simp only [if_true]
    exact wpS_pure (h x neq st' hB' hax (by omega) hs' hq he)
   case false =>
    simp only [Bool.false_eq_true,if_false]
    have heqx:KK κ (arrOf st') x=KK κ (arrOf st') (x - 1):=KeyOrd.kle_antisymm hlarger hless
    refine wpS_pure ⟨neq + 1,rfl,hB',fun i j hij hj=>?_,by omega,fun i h1 h2=>?_⟩
    ·by_cases hjx:j < x
     ·exact hs' i j hij hjx
     ·have hj':j=x:=by omega
      subst hj'
      by_cases hi':i=j
      ·subst hi'; exact KeyOrd.kle_refl _
      ·rw [heqx]; exact hs' i (j - 1) (by omega) (by omega)
    ·rw [show x + 1 - 1=x by omega]
     by_cases hix:i=x
     ·subst hix; rfl
     ·rw [heqx]; exact he i (by omega) (by omega)
theorem di {st:SortSt} {n nrem:Nat} {Q:Option Nat→SortSt→Prop} (hO:bX prog w A s κ0 κ) (h0:KeysOf κ a₀) (hn:nrem≤a₀.size) (hnn:n + 1≤nrem) (hB:SBaseT κ0 a₀ st)
  (hs:NonIncK κ (arrOf st) (n + 1)) (h:∀m st',SBaseT κ0 a₀ st'→1≤m→m≤nrem→SortedToK κ (arrOf st') m→Q (some m) st') :
  wpS (model prog w) A E s (descPart n nrem) Q st:=by
 unfold descPart
 refine wpS_bind (wpS_lift (wpAny_rule ⟨rfl,?_⟩))
 refine wpS_bind (fX hO h0 hn (by omega) hnn hB hs fun m neq st' hB' hm1 hm2 hs' hq he=>?_)
 dsimp only
 have hsz:m≤(arrOf st').size:=by rw [hB'.size]; omega
 by_cases hneq:neq > 0
 ·rw [if_pos hneq]
  refine wpS_bind (wpS_reverse (fk hO h0 hn (by omega) hm2 (hB'.setArr (mirror_perm _ _ _ _)) ?_ h))
  intro i j hij hj
  show κ.kle (KK κ (mirror (arrOf st') _ _ _) j) (KK κ (mirror (arrOf st') _ _ _) i)
  rw [KK_mirror_equal hsz he,KK_mirror_equal hsz he]
  exact hs' i j hij hj
 ·rw [if_neg hneq]
  exact fk hO h0 hn (by omega) hm2 hB' hs' h
theorem fY {st:SortSt} {nrem:Nat} {Q:Option Nat→SortSt→Prop} (hO:bX prog w A s κ0 κ) (h0:KeysOf κ a₀) (hn:nrem≤a₀.size) (h1:1≤nrem) (hB:SBaseT κ0 a₀ st)
  (h:∀m st',SBaseT κ0 a₀ st'→1≤m→m≤nrem→SortedToK κ (arrOf st') m→Q (some m) st') :
  wpS (model prog w) A E s (countRun' 0 nrem) Q st:=by
 rw [countRun0_eq]
 refine wpS_bind (dG hO h0 hn (Nat.le_refl 1) h1 hB (fun i j hij hj=>by have:i=j:=(by omega); subst this; exact KeyOrd.kle_refl _) fun n hn1 hn2 hsn hor=>?_)
 dsimp only
 by_cases hnn:n=nrem
 ·rw [if_pos (by simpa using hnn)]
  exact wpS_pure (h n st hB hn1 hn2 hsn)
 ·rw [if_neg (by simpa using hnn)]
  have hlt:κ.klt (KK κ (arrOf st) n) (KK κ (arrOf st) (n - 1)):=hor.resolve_left hnn
  by_cases hgt:n > 1
  ·rw [if_pos hgt]
   refine wpS_bind (cK hO hB h0 (by omega) (by omega) ?_)
   cases hrose:κ.blt (KK κ (arrOf st) 0) (KK κ (arrOf st) (n - 1))
   case true =>
    simp only [if_true]
    exact wpS_pure (h n st hB hn1 hn2 hsn)
   case false =>
    simp only [Bool.false_eq_true,if_false]
    have hsz:n≤(arrOf st).size:=by rw [hB.size]; omega
    have hall:∀k,0≤k→k < n→KK κ (arrOf st) k=KK κ (arrOf st) (n - 1):=by
     intro k _ hk
     have a1:=hsn 0 k (by omega) hk
     have a2:=hsn k (n - 1) (by omega) (by omega)
     exact KeyOrd.kle_antisymm a2 (KeyOrd.kle_trans hrose a1)
    refine wpS_bind (wpS_reverse (di hO h0 hn (by omega) (hB.setArr (mirror_perm _ _ _ _)) ?_ h))
    intro i j hij hj
    show κ.kle (KK κ (mirror (arrOf st) _ _ _) j) (KK κ (mirror (arrOf st) _ _ _) i)
    rw [KK_mirror_equal hsz hall,KK_mirror_equal hsz hall]
    by_cases hjn:j < n
    ·rw [hall i (by omega) (by omega),hall j (by omega) hjn]; exact KeyOrd.kle_refl _
    ·have hj':j=n:=by omega
     subst hj'
     by_cases hi':i=j
     ·subst hi'; exact KeyOrd.kle_refl _
     ·rw [hall i (by omega) (by omega)]; exact KeyOrd.kle_of_klt hlt
  ·rw [if_neg hgt]
   have hn1':n=1:=by omega
   subst hn1'
   refine di hO h0 hn (by omega) hB ?_ h
   intro i j hij hj
   by_cases hi':i=j
   ·subst hi'; exact KeyOrd.kle_refl _
   ·have hi0:i=0:=by omega
    have hj1:j=1:=by omega
    subst hi0; subst hj1
    exact KeyOrd.kle_of_klt hlt
theorem SBaseT.doneK {st:SortSt} (hB:SBaseT κ0 a₀ st) (hs:SortedToK κ (arrOf st) a₀.size):SDoneK κ a₀ (setPending st ((pendingOf st).push (0,a₀.size,0))) :=
 ⟨hB.perm,hB.failed,by show (pendingOf st).push _=_; rw [hB.pend]; rfl,hs⟩
theorem fZ {st:SortSt} {Q:Unit→SortSt→Prop} (hO:bX prog w A s κ0 κ) (h0:KeysOf κ a₀) (hB:SBaseT κ0 a₀ st) (h2:2≤a₀.size) (h64:a₀.size < 64)
  (h:∀st',(arrOf st').Perm a₀→failedOf st'=none→SortedToK κ (arrOf st') a₀.size→Q () st'):wpS (model prog w) A E s sortRuns' Q st:=by
 rw [sortRuns'_eq]
 refine wpS_bind (wpS_get ?_)
 dsimp only
 have hmr:minRun' a₀.size a₀.size 0=a₀.size:=by
  obtain ⟨f,hf⟩:∃f,a₀.size=f + 1:=⟨a₀.size - 1,by omega⟩
  have:minRun' (f + 1) a₀.size 0=a₀.size:=by rw [minRun'_succ,if_pos h64]; rfl
  rwa [← hf] at this
 simp only [hB.size,hmr]
 refine wpS_bind (wpS_mono (wpS_forRange
  (I:=fun x c st'=>(x=0∧c=(none,0)∧SBaseT κ0 a₀ st')∨(1≤x∧c=(none,a₀.size)∧SDoneK κ a₀ st'))
  (Q:=fun c st'=>c=(none,a₀.size)∧SDoneK κ a₀ st') ?step ?fin (.inl ⟨rfl,rfl,hB⟩)) ?post)
 case fin =>
  rintro c st' (⟨hx,_,_⟩ | ⟨_,hc,hD⟩)
  ·omega
  ·exact ⟨hc,hD⟩
 case step =>
  rintro x c st' _ hx (⟨rfl,rfl,hB'⟩ | ⟨hx1,rfl,hD⟩)
  ·dsimp only
   rw [if_neg (by omega)]
   simp only [Nat.sub_zero,Nat.min_self,Nat.zero_add]
   refine wpS_bind (fY hO h0 (Nat.le_refl _) (by omega) hB' fun m st2 hB2 hm1 hm2 hs2=>?_)
   dsimp only
   by_cases hlt:m < a₀.size
   ·rw [if_pos hlt]
    refine wpS_bind (wpS_lift (wpAny_rule ⟨rfl,?_⟩))
    refine wpS_bind (fe hO h0 (Nat.le_refl _) hm2 hB2 hs2 fun st3 hB3 hs3=>?_)
    simp only [Bool.not_true,Bool.false_eq_true,if_false]
    refine wpS_bind (wpS_get ?_)
    have hb:(pendingOf st3).back? = none:=by rw [hB3.pend]; rfl
    rw [hb]
    dsimp only
    exact wpS_bind (wpS_modify (wpS_pure (.inr ⟨by omega,rfl,hB3.doneK hs3⟩)))
   ·rw [if_neg hlt]
    have hm:m=a₀.size:=by omega
    subst hm
    refine wpS_bind (wpS_get ?_)
    have hb:(pendingOf st2).back? = none:=by rw [hB2.pend]; rfl
    rw [hb]
    dsimp only
    exact wpS_bind (wpS_modify (wpS_pure (.inr ⟨by omega,rfl,hB2.doneK hs2⟩)))
  ·dsimp only
   rw [if_pos (Nat.le_refl _)]
   exact wpS_pure ⟨rfl,hD⟩
 case post =>
  rintro c st' ⟨rfl,hD⟩
  dsimp only
  refine wpS_bind (wpS_mono (wpS_forRange (I:=fun _ c st''=>st''=st'∧c=(none,())) (Q:=fun c st''=>st''=st'∧c=(none,())) ?_ (fun _ _ hh=>hh) ⟨rfl,rfl⟩) ?_)
  ·rintro x c st'' _ _ ⟨rfl,rfl⟩
   refine wpS_bind (wpS_get ?_)
   rw [if_pos (by rw [hD.2.2.1]; exact Nat.le_refl 1)]
   exact wpS_pure ⟨rfl,rfl⟩
  ·rintro c st'' ⟨rfl,rfl⟩
   exact wpS_pure (h _ hD.1 hD.2.1 hD.2.2.2)
end
section
variable {prog:Program} {w:World} {A:Around} {E:Value→Shared→Prop} {s:Shared}
theorem fu {κ:KeyKind} {κ0:SortKind} {a:Addr} {vs:List Value} {n:Nat} {P:Fin→Shared→Prop} (ho:s.heap.get? a=some (seqObj "list" vs.toArray n))
  (h0:KeysOf κ (pairsOf vs)) (hkk:∀s':Shared,(∀b o,b≠a→s.heap.get? b=some o→s'.heap.get? b=some o)→bX prog w A s' κ0 κ∧∀v₁ v₂ rest,vs=v₁ :: v₂ :: rest→∀ (Q:SortKind→Shared→Prop),Q κ0 s'→wpAny (model prog w) A (keyKind' (v₁ :: v₂ :: rest).toArray) Q E s') (h64:vs.length < 64)
  (h:∀st':SortSt,(arrOf st').Perm (pairsOf vs)→SortedToK κ (arrOf st') (pairsOf vs).size→P (.done (.ret .none)) { s with heap:=sortedHeap s.heap a vs ((arrOf st').map (·.2)) }) :
  wpAny (model prog w) A (Builtin.«list.sort» ⟨[.ref a],[]⟩) P E s:=by
 rw [list_sort_plain]
 have ha:a < s.heap.objs.size:=Heap.lt_size ho
 refine wpAny_bind (listItems_at ho rfl ?_)
 refine wpAny_bind (listUpdate_at ho rfl ?_)
 obtain ⟨e1,ho1⟩:∃e1,(s.heap.update a (Obj.mapSeq fun _=>#[])).get? a=some (seqObj "list" #[] e1):=⟨_,get?_update_seq ho (fun _=>#[])⟩
 refine wpAny_bind (seqEpoch_at ho1 rfl ?_)
 refine wpAny_bind (wpAny_newTuple ?_)
 refine wpAny_bind (wpAny_newList ?_)
 refine wpAny_holding ?_
 have ho6:(((s.heap.update a (Obj.mapSeq fun _=>#[])).push (seqObj "tuple" vs.toArray 0)).push (seqObj "list" #[] 0)).get? a=some (seqObj "list" #[] e1):=by
  rw [Heap.get?_push_ne _ _ _ (by rw [size_push',Heap.size_update]; exact Nat.ne_of_lt (Nat.lt_succ_of_lt ha)),Heap.get?_push_ne _ _ _ (by rw [Heap.size_update]; exact Nat.ne_of_lt ha)]
  exact ho1
 show wpAny (model prog w) A _ P E { s with heap:=((s.heap.update a (Obj.mapSeq fun _=>#[])).push (seqObj "tuple" vs.toArray 0)).push (seqObj "list" #[] 0) }
 dsimp only
 have hsz:vs.toArray.size=vs.length:=by simp
 have fin:=h
 by_cases h2:vs.toArray.size < 2
 ·rw [if_pos h2,if_pos h2]
  refine wpAny_bind (wpAny_pure ?_)
  rw [StateT.run_pure]
  refine wpAny_bind (wpAny_pure ?_)
  dsimp only
  refine wpAny_bind (seqEpoch_at ho6 rfl ?_)
  refine wpAny_bind (listUpdate_at ho6 rfl ?_ (hsz2:=by rw [Array.size_map]; show (pairsOf vs).size≤_; rw [pairsOf_size,sizeLine_eq]; omega))
  simp only [bne_self_eq_false,Bool.false_eq_true,if_false]
  refine wpAny_pure (fin (SortSt.mk' general' (vs.toArray.zip vs.toArray) #[] 7 none) (Array.Perm.refl _) ?_)
  intro i j hij hj
  have:i=j:=by rw [pairsOf_size] at hj; omega
  subst this; exact KeyOrd.kle_refl _
 ·rw [if_neg h2,if_neg h2]
  obtain ⟨v₁,v₂,rest,rfl⟩:∃v₁ v₂ rest,vs=v₁ :: v₂ :: rest:=by
   match vs,hsz,h2 with
   | [],_,h2=>simp at h2
   | [_],_,h2=>simp at h2
   | v₁ :: v₂ :: rest,_,_=>exact ⟨v₁,v₂,rest,rfl⟩
  have kp:∀b o,b≠a→s.heap.get? b=some o→(((s.heap.update a (Obj.mapSeq fun _=>#[])).push (seqObj "tuple" (v₁ :: v₂ :: rest).toArray 0)).push (seqObj "list" #[] 0)).get? b=some o:=fun b o nb e =>
   Heap.get?_push_of_some _ (Heap.get?_push_of_some _ (by rw [Heap.get?_update_ne _ _ _ _ nb]; exact e))
  obtain ⟨hO,hK⟩:=hkk { s with heap:=((s.heap.update a (Obj.mapSeq fun _=>#[])).push (seqObj "tuple" (v₁ :: v₂ :: rest).toArray 0)).push (seqObj "list" #[] 0) } kp
  refine wpAny_bind (hK _ _ _ rfl _ ?_)
  refine wpAny_bind (wpAny_mono (fZ (κ:=κ) (κ0:=κ0) hO (a₀:=pairsOf (v₁ :: v₂ :: rest)) (st:=SortSt.mk' κ0 ((v₁ :: v₂ :: rest).toArray.zip (v₁ :: v₂ :: rest).toArray) #[] 7 none)
   (Q:=fun _ st'=>(arrOf st').Perm (pairsOf (v₁ :: v₂ :: rest))∧failedOf st'=none∧SortedToK κ (arrOf st') (pairsOf (v₁ :: v₂ :: rest)).size)
   h0 ⟨Array.Perm.refl _,rfl,rfl,rfl⟩ (by rw [pairsOf_size]; simp) (by rw [pairsOf_size]; exact h64) fun st' a1 a2 a3=>⟨a1,a2,a3⟩) ?_ fun _ _ e=>e)
  rintro ⟨⟨⟩,st'⟩ s' ⟨rfl,hp,hf,hs⟩
  dsimp only
  refine wpAny_bind (seqEpoch_at ho6 rfl ?_)
  refine wpAny_bind (listUpdate_at ho6 rfl ?_ (hsz2:=by refine Nat.le_trans (Nat.le_of_eq ((Array.size_map ..).trans (hp.size_eq.trans (pairsOf_size _)))) ?_; rw [sizeLine_eq]; omega))
  rw [hf]
  simp only [bne_self_eq_false,Bool.false_eq_true,if_false]
  exact wpAny_pure (fin st' hp hs)
theorem qI {κ:KeyKind} {κ0:SortKind} {l:Addr} {vs:List Value} {Q:Value→Shared→Prop} (hl:s.heap.IsList l vs.toArray) (h0:KeysOf κ (pairsOf vs)) (hkk:∀ (A':Around) (s':Shared),(∀b o,s.heap.get? b=some o→s'.heap.get? b=some o)→bX prog w A' s' κ0 κ∧∀v₁ v₂ rest,vs=v₁ :: v₂ :: rest→∀ (Q:SortKind→Shared→Prop) (E':Value→Shared→Prop),Q κ0 s'→wpAny (model prog w) A' (keyKind' (v₁ :: v₂ :: rest).toArray) Q E' s') (h64:vs.length < 64)
  (h:∀st':SortSt,(arrOf st').Perm (pairsOf vs)→SortedToK κ (arrOf st') (pairsOf vs).size→Q (.ref (s.heap.objs.size + 1)) { s with heap:=sortedAll s.heap vs ((arrOf st').map (·.2)) }) :
  wpAny (model prog w) A (call (.builtin "sorted") [.ref l]) Q E s:=by
 refine Calls.call_function_entry kind_sorted plain_sorted entry_sorted (args_sorted1 _) ?_
 unfold Builtin.«sorted»
 refine wpAny_bind (m:=checkCount "sorted" 1 1 _) (wpAny_pure ?_)
 refine wpAny_bind (collect_list hl ?_)
 refine wpAny_bind (wpAny_newList ?_)
 have hsz:((s.heap.push (seqObj "list" #[] 0)).update s.heap.objs.size (Obj.mapSeq (· ++ vs.toArray))).objs.size=s.heap.objs.size + 1:=by
  rw [Heap.size_update,size_push']
 have hoL:(((s.heap.push (seqObj "list" #[] 0)).update s.heap.objs.size (Obj.mapSeq (· ++ vs.toArray))).push (seqObj "list" vs.toArray 0)).get? (s.heap.objs.size + 1)=some (seqObj "list" vs.toArray 0):=by
  rw [← hsz]; exact Heap.get?_push_size _ rfl
 show wpAny _ _ _ _ _ { s with heap:=((s.heap.push (seqObj "list" #[] 0)).update s.heap.objs.size (Obj.mapSeq (· ++ vs.toArray))).push (seqObj "list" vs.toArray 0) }
 rw [hsz]
 refine wpAny_bind (wpAny_holding (wpAny_call_entry slot_list_sort ⟨_,hoL,rfl⟩ entry_list_sort (fu hoL h0 (fun s' k=>by obtain ⟨a1,a2⟩:=hkk _ s' (fun b o e=>k b o (Nat.ne_of_lt (Nat.lt_succ_of_lt (Heap.lt_size e))) (Heap.get?_push_of_some _ (by rw [Heap.get?_update_ne _ _ _ _ (Nat.ne_of_lt (Heap.lt_size e))]; exact Heap.get?_push_of_some _ e))); exact ⟨a1,fun v1 v2 r e Q q=>a2 v1 v2 r e Q _ q⟩) h64 fun st' a1 a2=>⟨_,rfl,?_⟩) (args_list_sort _)))
 exact wpAny_pure ⟨_,rfl,h st' a1 a2⟩
end
end PyProof.Rows
set_option Elab.async false
set_option linter.all false
set_option maxRecDepth 100000
namespace L2
open PySem PySem.Spec PyProof.Rows
def bK:List Bool→List Value→Option (List Int)
 | [],[]=>some []
 | false :: r,.int i _ :: vs=>(bK r vs).map (i :: ·)
 | true :: r,.bool b :: vs=>(bK r vs).map ((if b=true then 1 else 0) :: ·)
 | _,_=>none
def jd:List Bool→List V→Option (List Int)
 | [],[]=>some []
 | false :: r,.int i :: vs=>(jd r vs).map (i :: ·)
 | true :: r,.bl b :: vs=>(jd r vs).map ((if b=true then 1 else 0) :: ·)
 | _,_=>none
theorem jX:∀ {sh:List Bool} {vs:List V} {us:List Value} {k:List Int},Vals vs us→jd sh vs=some k→bK sh us=some k
 | [],[],_,_,r,h=>by cases r; exact h
 | [],_ :: _,_,_,_,h=>by cases h
 | false :: r,v :: vs,us,k,rv,h=>by
  cases rv with
  | cons r1 r2 =>
   cases v with
   | int i =>
    obtain ⟨t,rfl⟩:=r1
    have h:(jd r vs).map (i :: ·)=some k:=h
    show (bK r _).map (i :: ·)=some k
    cases e:jd r vs with
    | none=>rw [e] at h; cases h
    | some k'=>rw [e] at h; rw [jX r2 e]; exact h
   | _=>cases h
 | true :: r,v :: vs,us,k,rv,h=>by
  cases rv with
  | cons r1 r2 =>
   cases v with
   | bl b =>
    cases (show _=Value.bool b from r1)
    have h:(jd r vs).map ((if b=true then 1 else 0) :: ·)=some k:=h
    show (bK r _).map ((if b=true then 1 else 0) :: ·)=some k
    cases e:jd r vs with
    | none=>rw [e] at h; cases h
    | some k'=>rw [e] at h; rw [jX r2 e]; exact h
   | _=>cases h
 | false :: _,[],_,_,_,h=>by cases h
 | true :: _,[],_,_,_,h=>by cases h
def cD:List Int→List Int→Bool
 | [],[]=>false
 | [],_ :: _=>true
 | _ :: _,[]=>false
 | a :: r,b :: t=>if a=b then cD r t else decide (a < b)
theorem ge:∀a,cD a a=false
 | []=>rfl
 | a :: r=>by rw [cD,if_pos rfl]; exact ge r
theorem gQ:∀a b c,cD a b=true→cD b c=true→cD a c=true
 | [],[],_,h,_=>by cases h
 | [],_ :: _,[],_,h=>by cases h
 | [],_ :: _,_ :: _,_,_=>rfl
 | _ :: _,[],_,h,_=>by cases h
 | _ :: _,_ :: _,[],_,h=>by cases h
 | a :: r,b :: t,c :: u,h1,h2=>by
  rw [cD] at h1 h2 ⊢
  by_cases e1:a=b
  ·rw [if_pos e1] at h1
   by_cases e2:b=c
   ·rw [if_pos e2] at h2
    rw [if_pos (e1.trans e2)]
    exact gQ r t u h1 h2
   ·rw [if_neg e2] at h2
    rw [if_neg (by rw [e1]; exact e2),e1]; exact h2
  ·rw [if_neg e1] at h1
   have h1:=of_decide_eq_true h1
   by_cases e2:b=c
   ·rw [if_neg (by omega)]; exact decide_eq_true (by omega)
   ·rw [if_neg e2] at h2
    have h2:=of_decide_eq_true h2
    rw [if_neg (by omega)]; exact decide_eq_true (by omega)
theorem lL:∀a b c,cD a c=true→cD a b=true∨cD b c=true
 | [],[],_,h=>.inr h
 | [],_ :: _,_,_=>.inl rfl
 | _ :: _,_,[],h=>by cases h
 | _ :: _,[],_ :: _,_=>.inr rfl
 | a :: r,b :: t,c :: u,h=>by
  rw [cD] at h
  rw [cD,cD]
  by_cases e1:a=b
  ·rw [if_pos e1]
   by_cases e2:b=c
   ·rw [if_pos (e1.trans e2)] at h
    rw [if_pos e2]
    exact lL r t u h
   ·rw [if_neg (by rw [e1]; exact e2)] at h
    rw [if_neg e2]
    exact .inr (by rw [← e1]; exact h)
  ·rw [if_neg e1]
   by_cases e3:a=c
   ·rw [if_neg (by omega)]
    by_cases z:a < b
    ·exact .inl (decide_eq_true z)
    ·exact .inr (decide_eq_true (by omega))
   ·rw [if_neg e3] at h
    have h:=of_decide_eq_true h
    by_cases z:a < b
    ·exact .inl (decide_eq_true z)
    ·rw [if_neg (by omega)]; exact .inr (decide_eq_true (by omega))
theorem gR:∀a b,cD a b=false→cD b a=false→a=b
 | [],[],_,_=>rfl
 | [],_ :: _,h,_=>by cases h
 | _ :: _,[],_,h=>by cases h
 | a :: r,b :: t,h1,h2=>by
  rw [cD] at h1 h2
  by_cases e:a=b
  ·rw [if_pos e] at h1
   rw [if_pos e.symm] at h2
   rw [e,gR r t h1 h2]
  ·rw [if_neg e] at h1
   rw [if_neg (Ne.symm e)] at h2
   have:=of_decide_eq_false h1
   have:=of_decide_eq_false h2
   exact absurd (show a=b by omega) e
def mw (h:Heap) (sh:List Bool):KeyKind where
 α:=List Int
 blt:=cD
 irrefl:=ge
 trans:=gQ
 negTrans:=lL
 total:=gR
 keyOf:=fun v=>match v with
  | .ref a=>match h.get? a with
   | some o=>match o.data with
    | .seq xs _=>bK sh xs.toList
    | _=>none
   | none=>none
  | _=>none
 dflt:=[]
theorem lM {h:Heap} {sh:List Bool} {v:Value} {k:List Int} (e:(mw h sh).keyOf v=some k):∃a o xs n,v=.ref a∧h.get? a=some o∧o.data=.seq xs n∧bK sh xs.toList=some k:=by
 cases v with
 | ref a =>
  have e:(match h.get? a with
   | some o=>match o.data with
    | .seq xs _=>bK sh xs.toList
    | _=>none
   | none=>none)=some k:=e
  cases h1:h.get? a with
  | none=>rw [h1] at e; cases e
  | some o =>
   rw [h1] at e
   cases h2:o.data with
   | seq xs n =>
    have e:(match o.data with
     | .seq xs _=>bK sh xs.toList
     | _=>none)=some k:=e
    rw [h2] at e
    exact ⟨a,o,xs,n,rfl,h1,h2,e⟩
   | _ =>
    have e:(match o.data with
     | .seq xs _=>bK sh xs.toList
     | _=>none)=some k:=e
    rw [h2] at e; cases e
 | _=>cases e
theorem eh:∀ {sh:List Bool} {us:List Value} {k:List Int},bK sh us=some k→us.length=sh.length
 | [],[],_,_=>rfl
 | [],_ :: _,_,h=>by cases h
 | false :: r,[],_,h=>by cases h
 | true :: r,[],_,h=>by cases h
 | false :: r,v :: vs,k,h=>by
  cases v with
  | int i t =>
   have h:(bK r vs).map (i :: ·)=some k:=h
   cases e:bK r vs with
   | none=>rw [e] at h; cases h
   | some k'=>rw [List.length_cons,List.length_cons,eh e]
  | _=>cases h
 | true :: r,v :: vs,k,h=>by
  cases v with
  | bool b =>
   have h:(bK r vs).map ((if b=true then 1 else 0) :: ·)=some k:=h
   cases e:bK r vs with
   | none=>rw [e] at h; cases h
   | some k'=>rw [List.length_cons,List.length_cons,eh e]
  | _=>cases h
section
variable {prog:Program} {w:World} {A:Around} {E:Value→Shared→Prop} {s:Shared}
theorem je {a b:Bool} {Q:Bool→Shared→Prop} (h:Q (a == b) s):wpAny (model prog w) A (eqBool (.bool a) (.bool b)) Q E s:=by
 unfold eqBool
 show wpAny _ _ (if (Value.bool a == Value.bool b)=true then _ else _) Q E s
 by_cases hab:(Value.bool a == Value.bool b)=true
 ·rw [if_pos hab]
  have e:a=b:=by have:=eq_of_beq hab; injection this
  subst e
  exact wpAny_bind (wpAny_rule (wpAny_pure (by simpa using h)))
 ·rw [if_neg hab]
  exact wpAny_bind (eq_bool (wpAny_truthy_bool h))
theorem im {bb:Bool} {Q:Bool→Shared→Prop}:∀ (sh:List Bool) (xs ys:List Value) (a c:List Int) (i:Nat),bK sh xs=some a→bK sh ys=some c→((bb && i == 0)=true→sh.head? = some false∨sh=[])→Q (cD a c) s→PySem.W.KatLex prog w A bb false Q (xs.zip ys) i s
 | [],[],[],a,c,i,h1,h2,_,q=>by cases h1; cases h2; exact PySem.W.kat_nil q
 | [],_ :: _,_,_,_,_,h,_,_,_=>by cases h
 | [],[],_ :: _,_,_,_,_,h,_,_=>by cases h
 | false :: r,[],_,_,_,_,h,_,_,_=>by cases h
 | true :: r,[],_,_,_,_,h,_,_,_=>by cases h
 | false :: r,_ :: _,[],_,_,_,_,h,_,_=>by cases h
 | true :: r,_ :: _,[],_,_,_,_,h,_,_=>by cases h
 | false :: r,v :: vs,u :: us,a,c,i,h1,h2,hb,q=>by
  cases v with
  | int p t=>cases u with
   | int p' t' =>
    have h1:(bK r vs).map (p :: ·)=some a:=h1
    have h2:(bK r us).map (p' :: ·)=some c:=h2
    cases e1:bK r vs with
    | none=>rw [e1] at h1; cases h1
    | some a' =>
     cases e2:bK r us with
     | none=>rw [e2] at h2; cases h2
     | some c' =>
      rw [e1] at h1; rw [e2] at h2
      cases h1; cases h2
      rw [cD] at q
      refine PySem.W.kat_cons (wpAny_eqBool_int (PySem.W.kat_go (fun e=>PySem.W.kat_yes ?_) (fun e=>PySem.W.kat_no ?_)))
      ·rw [if_pos (by simpa using e)] at q
       exact im r vs us a' c' (i + 1) e1 e2 (fun z=>by simp at z) q
      ·rw [if_neg (by simpa using e)] at q
       cases z:(bb && i == 0) with
       | true=>exact oneLt_int q
       | false=>exact PySem.W.kat_one _ _ (PyProof.Rows.lt_int q)
   | _=>cases h2
  | _=>cases h1
 | true :: r,v :: vs,u :: us,a,c,i,h1,h2,hb,q=>by
  cases v with
  | bool p=>cases u with
   | bool p' =>
    have h1:(bK r vs).map ((if p=true then 1 else 0) :: ·)=some a:=h1
    have h2:(bK r us).map ((if p'=true then 1 else 0) :: ·)=some c:=h2
    cases e1:bK r vs with
    | none=>rw [e1] at h1; cases h1
    | some a' =>
     cases e2:bK r us with
     | none=>rw [e2] at h2; cases h2
     | some c' =>
      rw [e1] at h1; rw [e2] at h2
      cases h1; cases h2
      rw [cD] at q
      refine PySem.W.kat_cons (je (PySem.W.kat_go (fun e=>PySem.W.kat_yes ?_) (fun e=>PySem.W.kat_no ?_)))
      ·have e:p=p':=by simpa using e
       rw [if_pos (by rw [e])] at q
       exact im r vs us a' c' (i + 1) e1 e2 (fun z=>by simp at z) q
      ·have e:p≠p':=by simpa using e
       rw [if_neg (by cases p <;> cases p' <;> simp_all)] at q
       cases z:(bb && i == 0) with
       | true=>rcases hb z with z | z <;> cases z
       | false =>
        refine PySem.W.kat_one _ _ (PyProof.Rows.lt_bool ?_)
        show Q (decide (b2i p < b2i p')) s
        rw [show decide (b2i p < b2i p')=decide ((if p=true then (1:Int) else 0) < (if p'=true then 1 else 0)) by cases p <;> cases p' <;> rfl]
        exact q
   | _=>cases h2
  | _=>cases h1
theorem mx {h:Heap} {sh:List Bool} (h0:sh.head? = some false) (k:∀b o,h.get? b=some o→s.heap.get? b=some o):bX prog w A s (tuples' true) (mw h sh):=by
 intro E x y a b Q ha hb q
 obtain ⟨x',ox,xs,n,rfl,hx,dx,fx⟩:=lM ha
 obtain ⟨y',oy,ys,m,rfl,hy,dy,fy⟩:=lM hb
 have l1:=eh fx
 have l2:=eh fy
 refine PySem.W.kat_lt (k _ _ hx) dx (k _ _ hy) dy ?_
 rw [show decide (xs.size < ys.size)=false from decide_eq_false (by rw [← Array.length_toList,← Array.length_toList]; omega)]
 exact im sh _ _ a b 0 fx fy (fun _=>.inl h0) q
end
theorem gS:∀ {as:List Addr} {its:List Value},Vals (as.map V.ref) its→its=as.map Value.ref
 | [],_,r=>by cases r; rfl
 | a :: as,_,r=>by
  cases r with
  | cons r1 r2 =>
   have e:_=Value.ref a:=r1
   subst e
   rw [List.map_cons,gS r2]
theorem gT:∀as:List Addr,Vals (as.map V.ref) (as.map Value.ref)
 | []=>.nil
 | a :: as=>.cons rfl (gT as)
theorem oG {α β:Type} {f:α→β} (g:β→Option α) (hg:∀a,g (f a)=some a) {l:List β} {as:List α} (h:l.Perm (as.map f)):∃as':List α,l=as'.map f∧as'.Perm as:=by
 refine ⟨l.filterMap g,?_,?_⟩
 ·have all:∀x∈l,∃a,f a=x:=fun x hx=>by
   obtain ⟨a,_,e⟩:=List.mem_map.mp (h.mem_iff.mp hx)
   exact ⟨a,e⟩
  clear h
  induction l with
  | nil=>rfl
  | cons x r ih =>
   obtain ⟨a,rfl⟩:=all x List.mem_cons_self
   rw [List.filterMap_cons,hg a,List.map_cons,← ih fun y hy=>all y (List.mem_cons_of_mem _ hy)]
 ·have:=h.filterMap g
  rw [List.filterMap_map,show (g∘f)=some from funext hg,List.filterMap_some] at this
  exact this
theorem fm {h:Heap} {sh:List Bool} {key:Addr→List Int} (h0:sh.head? = some false):∀ (as:List Addr),(∀a∈as,∃o us n,h.get? a=some o∧o.cls=.type "tuple" ∧ o.data=.seq (List.toArray us) n∧bK sh us=some (key a))→∃fs,PySem.W.KatTups h (as.map Value.ref) fs∧fs.length=as.length∧∀v∈fs,∃i t,v=Value.int i t
 | [],_=>⟨[],trivial,rfl,fun v hv=>by cases hv⟩
 | a :: as,H=>by
  obtain ⟨fs,h1,h2,h3⟩:=fm h0 as fun b hb=>H b (List.mem_cons_of_mem _ hb)
  obtain ⟨o,us,n,e,c,d,f⟩:=H a List.mem_cons_self
  obtain ⟨r,hr⟩:∃r,sh=false :: r:=by
   cases sh with
   | nil=>cases h0
   | cons x r=>cases h0; exact ⟨r,rfl⟩
  subst hr
  cases us with
  | nil=>cases f
  | cons u us =>
   cases u with
   | int i t=>exact ⟨.int i t :: fs,PySem.W.KatTups.cons e c d (by simp) h1,by rw [List.length_cons,List.length_cons,h2],fun v hv=>(List.mem_cons.mp hv).elim (fun z=>⟨i,t,z⟩) (h3 v)⟩
   | _=>cases f
section
variable {X:Cx}
def tD (K:PySem.W.Frag) (xs:List V) (H:Hp) (Q:VK):Prop:=∃ (p:Addr) (as:List Addr) (sh:List Bool) (key:Addr→List Int),xs=[.ref p]∧SqL K H p (as.map V.ref)∧as.length < 64∧sh.head? = some false∧(∀a∈as,∃vs,SqT K H a vs∧jd sh vs=some (key a)) ∧
 ∀ (l:Addr) (as':List Addr),H l=none→as'.Perm as→(as'.map key).Pairwise (fun x y=>cD y x=false)→Q (.ref l) (upd H l (.lst (as'.map V.ref)))
theorem ej:bY X (.builtin "sorted") (tD X.K):=by
 intro pins s σ H xs us Q I r h
 obtain ⟨p,as,sh,key,rfl,hs,h64,h0,hk,q⟩:=h
 obtain ⟨u,rfl,rfl⟩:=dW r
 obtain ⟨its,rv,pl,_⟩:=I.list hs
 have ei:=gS rv
 subst ei
 have tu:∀a∈as,∃o us n,s.heap.get? a=some o∧o.cls=.type "tuple" ∧ o.data=.seq (List.toArray us) n∧bK sh us=some (key a):=fun a ha=>by
  obtain ⟨vs,hv,hf⟩:=hk a ha
  obtain ⟨us,r,⟨o,e,c,n,d⟩,_⟩:=I.tuple hv
  exact ⟨o,us,n,e,c,d,jX r hf⟩
 have kof:∀a∈as,(mw s.heap sh).keyOf (.ref a)=some (key a):=fun a ha=>by
  obtain ⟨o,us,n,e,c,d,f⟩:=tu a ha
  show (match s.heap.get? a with
   | some o=>match o.data with
    | .seq xs _=>bK sh xs.toList
    | _=>none
   | none=>none)=some (key a)
  rw [e]
  show (match o.data with
    | .seq xs _=>bK sh xs.toList
    | _=>none)=some (key a)
  rw [d]
  exact f
 refine qI (κ:=mw s.heap sh) (κ0:=tuples' true) pl.isList ?keys ?kk (by rw [List.length_map]; exact h64) fun st' hp hs'=>?_
 case keys =>
  intro pr hpr
  rw [pairsOf_toList] at hpr
  obtain ⟨a,ha,e⟩:=List.mem_map.mp (List.of_mem_zip (show (pr.1,pr.2)∈_ from hpr)).1
  exact ⟨key a,by rw [← e]; exact kof a ha⟩
 case kk =>
  intro A' s' k
  refine ⟨mx h0 k,fun v1 v2 rest e Q E' q=>?_⟩
  obtain ⟨fs,f1,f2,f3⟩:=fm (h:=s'.heap) (key:=key) h0 as fun a ha=>by
   obtain ⟨o,us,n,e,c,d,f⟩:=tu a ha
   exact ⟨o,us,n,k _ _ e,c,d,f⟩
  rw [e] at f1
  have:(as.map Value.ref).length=rest.length + 2:=by rw [e]; rfl
  rw [List.length_map] at this
  refine PySem.W.kat_kind (T:=.type "int") f1 (by omega) (fun v hv=>?_) rfl q
  obtain ⟨i,t,rfl⟩:=f3 v hv
  exact PySem.W.Looks.of_pure rfl
 have pz:∀l:List Addr,(l.map Value.ref).zip (l.map Value.ref)=l.map fun a=>(Value.ref a,Value.ref a):=fun l=>by
  induction l with
  | nil=>rfl
  | cons a l ih=>rw [List.map_cons,List.zip_cons_cons,ih,List.map_cons]
 have hp':=Array.perm_iff_toList_perm.mp hp
 rw [pairsOf_toList,pz] at hp'
 obtain ⟨as',ea,pa⟩:=oG (f:=fun a=>(Value.ref a,Value.ref a)) (fun pr=>match pr.1 with
  | .ref a=>some a
  | _=>none) (fun a=>rfl) hp'
 have eo:((arrOf st').map (·.2)).toList=as'.map Value.ref:=by
  rw [Array.toList_map,ea,List.map_map]; rfl
 obtain ⟨e,he⟩:=sortedAll_at s.heap (as.map Value.ref) ((arrOf st').map (·.2))
 have hn:H (s.heap.objs.size + 1)=none:=I.hok.fresh (Nat.le_succ _)
 refine ⟨.ref (s.heap.objs.size + 1),upd H (s.heap.objs.size + 1) (.lst (as'.map V.ref)),I.laid (o:=.lst (as'.map V.ref)) (t':=s.toks) (fun _ _=>sortedAll_old) (Nat.le_succ _) (show ObjOk _ _ _ _ _ (.lst _) from ⟨?_,((arrOf st').map (·.2)).toList,e,?_,?_⟩),rfl,q _ as' hn pa ?_⟩
 ·rw [List.length_map,pa.length_eq]
  have:(64:Nat)≤sizeLine:=by decide
  omega
 ·rw [eo]; exact gT as'
 ·rw [he]
 ·rw [List.pairwise_iff_getElem]
  intro i j hi hj hij
  rw [List.length_map] at hi hj
  have sz:(pairsOf (as.map Value.ref)).size=as.length:=by rw [pairsOf_size,List.length_map]
  have kk:∀i (hi:i < as'.length),KK (mw s.heap sh) (arrOf st') i=key as'[i]:=fun i hi=>by
   have e:(arrOf st')[i]? = some (Value.ref as'[i],Value.ref as'[i]):=by
    rw [← Array.getElem?_toList,ea,List.getElem?_map,List.getElem?_eq_getElem hi]; rfl
   unfold KK
   rw [e]
   show ((mw s.heap sh).keyOf (.ref as'[i])).getD _=_
   rw [kof _ (pa.mem_iff.mp (List.getElem_mem hi))]; rfl
  have:=hs' i j (by omega) (by rw [sz,← pa.length_eq]; exact hj)
  rw [kk i hi,kk j hj] at this
  rw [List.getElem_map,List.getElem_map]
  exact this
end
end L2
set_option Elab.async false
set_option linter.all false
set_option maxRecDepth 100000
namespace PySem
open Spec
section
variable {prog:Program} {w:World} {A:Around} {E:Value→Shared→Prop} {s:Shared} {l:Addr} {xs:Array (Int×Tok)}
end
end PySem
namespace L2
open PySem PySem.Spec PyProof.Rows
section
variable {X:Cx}
end
end L2
namespace PySem
theorem Paired.getL {α β:Type} {F:α→β→Prop}:∀ {l₁:List α} {l₂:List β} {i:Nat} {y:β},Paired F l₁ l₂→l₂[i]? = some y→∃x,l₁[i]? = some x∧F x y
 | _,_,_,_,.nil,e=>by simp at e
 | _,_,0,_,.cons h _,e=>by simp at e; subst e; exact ⟨_,rfl,h⟩
 | _,_,i + 1,y,.cons _ t,e=>by
  obtain ⟨x,h1,h2⟩:=Paired.getL (i:=i) t (by simpa using e)
  exact ⟨x,by simpa using h1,h2⟩
end PySem
set_option Elab.async false
set_option linter.all false
set_option maxRecDepth 100000
namespace L2
open PySem PySem.Spec PyProof.Rows
section
variable {P:Program} {w:World} {K:PySem.W.Frag} {mg:Str→Option Value} {base:Heap}
theorem FnOk.weak {k:Nat} {f:Addr} {fd:FuncData} {ps:List Str} {sp:Sp} (F:FnOk P w K mg base CX0 k f fd ps sp):FnOk P w K mg base (CXx P w) k f fd ps sp :=
 ⟨F.len,fun A outer s H args us vs Q E hr he hb hv hs=>codeAny_mono (F.run A outer s H args us vs Q E hr he hb hv hs) fun r s' h=>by
  cases r with
  | ok r=>cases r <;> exact h
  | error e=>exact False.elim h⟩
theorem FnOk.or {CX:CXT} {k:Nat} {f:Addr} {fd:FuncData} {ps:List Str} {sp sp':Sp} (F:FnOk P w K mg base CX k f fd ps sp) (G:FnOk P w K mg base CX k f fd ps sp'):FnOk P w K mg base CX k f fd ps (fun vs H Q E=>sp vs H Q E∨sp' vs H Q E) :=
 ⟨fun vs H Q E h=>h.elim (F.len vs H Q E) (G.len vs H Q E),fun A outer s H args us vs Q E hr he hb hv hs=>hs.elim (F.run A outer s H args us vs Q E hr he hb hv) (G.run A outer s H args us vs Q E hr he hb hv)⟩
variable {N:List Str} {qual:Str} {scope:Scope} {f:Addr} {cd:Value} {A:Around} {outer:List Env} {s₀:Shared} {H₀:Hp} {E:XK}
theorem lN {e:Expr} {tx:TX} (he:PEx (dE (CXx P w) P w K mg base N qual scope f cd A outer s₀ H₀ E) e tx):PE (dE (CXx P w) P w K mg base N qual scope f cd A outer s₀ H₀ E) e (fun σ H Q=>tx σ H Q E) :=
 fun pins s σ H Q I h=>wpAny_mono (he pins s σ H Q E I h) (fun _ _ z=>z) fun v s1 hx=>qH hx
end
end L2
set_option Elab.async false
set_option linter.all false
set_option maxRecDepth 100000
namespace L2
open PySem PySem.Spec PyProof.Rows
def ItE (K:PySem.W.Frag) (l:Addr):It :=
  ⟨fun i H=>∃xs x,SqT K H l xs∧xs[i]? = some x,
   fun i H v H'=>∃p x,H p=none∧v=.ref p∧H'=upd H p (.tup [.int i,x])∧∀xs,SqT K H l xs→xs[i]? = some x,
   fun i H=>∃xs,SqT K H l xs∧xs.length≤i⟩
section
variable {X:Cx} {pins:List (Addr×Obj)} {σ:St} {H:Hp} {s:Shared}
theorem jY {tn:Nat→Heap→Prop} {es:List Expr} {kk:Nat} {tp:Pos} {e it l:Addr} {i:Nat} {xs:List V} {x:V} {u:Value} {tk:Nat} {h':Heap} {E:Value→Shared→Prop} (hne:e≠it) (I:Inv X pins σ H s) (hf:∀b∈[e,it],dS X pins H b) (hl:SqT X.K H l xs) (hx:xs[i]? = some x)
  (ho:∀b∈[e, it], b < s.heap.objs.size) (r:RelV x u) (b1:IsEnumOut h' e it ((i:Int) + 1) u s.heap.objs.size) (b3:h'.get? s.heap.objs.size=some { cls:=.type "tuple", data:=.seq #[.int i tk, u] })
  (bk:∀b o,b≠e→b≠it→s.heap.get? b=some o→h'.get? b=some o) (hn:∀h'',IsEnum h'' e it ((i + 1:Nat):Int) u→Heap.SameBut e h' h''→tn (i + 1) h'') :
  wpAny (model X.prog X.w) X.A (letOwnedTupleGo (.Tuple es kk tp) (.ref e) (.ref s.heap.objs.size)) (fun _ s2=>∃x H',Inv X pins σ H' s2∧RelV x (.ref s.heap.objs.size)∧(ItE X.K l).yld i H x H'∧tn (i + 1) s2.heap∧∀b∈[e,it],H' b=none) E { s with heap:=h',toks:=tk + 1 }:=by
 refine wpAny_letOwnedTupleGo_enum b1 fun h'' c1 cs=>?_
 have es':e < s.heap.objs.size:=ho e (by simp)
 have k2:∀b o,b∉[e,it]→s.heap.get? b=some o→h''.get? b=some o:=fun b o hb q=>by
  simp only [List.mem_cons,List.not_mem_nil,or_false,not_or] at hb
  exact cs.extBut b o hb.1 (bk b o hb.1 hb.2 q)
 have I1:Inv X pins σ H { s with heap:=h'',toks:=tk + 1 }:=I.turnedN (t':=tk + 1) hf k2
 have hp:h''.get? s.heap.objs.size=some { cls:=.type "tuple", data:=.seq #[.int i tk, u] }:=cs.extBut _ _ (Nat.ne_of_gt es') b3
 have hn0:H s.heap.objs.size=none:=I.hok.fresh (Nat.le_refl _)
 have fpk:=I.fpOk (H':=H) (Nat.le_refl _) hn0
 have I2:Inv X pins σ (upd H s.heap.objs.size (.tup [.int i,x])) { s with heap:=h'',toks:=tk + 1 }:=I1.track fpk I.sz ⟨by show 2≤sizeLine; decide,[.int i tk,u],.cons ⟨tk,rfl⟩ (.cons r .nil),_,hp,rfl,_,rfl⟩
 refine ⟨.ref s.heap.objs.size,_,I2,rfl,⟨_,x,hn0,rfl,rfl,fun ys hy=>by rw [I.tuple_inj hy hl]; exact hx⟩,hn h'' c1 cs,fun b hb=>?_⟩
 rw [au (Nat.ne_of_lt (ho b hb))]
 exact (hf b hb).1
end
theorem jZ {P:Program} {w:World} {K:PySem.W.Frag} {es:List Expr} {kk:Nat} {tp:Pos} (l e it:Addr) (hne:e≠it) :
  Turn P w K (.Tuple es kk tp) (ItE K l) [e,it] e (fun i h=>(∃old,IsEnum h e it i old)∧h.IsTupleIter it l i) where
 mem:=by simp
 obj:=fun i h st b hb=>by
  obtain ⟨⟨old,a1⟩,⟨o2,a2,_,d2⟩⟩:=st
  simp only [List.mem_cons,List.not_mem_nil,or_false] at hb
  rcases hb with rfl | rfl
  ·exact ⟨_,a1,fun v q=>by cases q⟩
  ·exact ⟨_,a2,fun v q=>by rw [d2] at q; cases q⟩
 keep:=fun i h h' st k=>by
  obtain ⟨⟨old,a1⟩,a2⟩:=st
  exact ⟨⟨old,k e (by simp) _ a1⟩,a2.at fun o q=>k it (by simp) o q⟩
 item:=by
  intro X hP hw hK hc i pins s σ H E I hf st hg
  subst hP hw hK
  obtain ⟨⟨old,a1⟩,a2⟩:=st
  obtain ⟨xs,x,e1,ex⟩:=hg
  obtain ⟨its,rv,p1,_⟩:=I.tuple e1
  obtain ⟨u,hu,r⟩:=rv.get ex
  have lt:i < its.toArray.size:=by simp; exact (List.getElem?_eq_some_iff.mp hu).1
  have ho:∀b∈[e,it],b < s.heap.objs.size:=fun b hb=>by
   obtain ⟨o2,a2',_⟩:=a2
   simp only [List.mem_cons,List.not_mem_nil,or_false] at hb
   rcases hb with rfl | rfl
   ·exact Heap.lt_size a1
   ·exact Heap.lt_size a2'
  have p1':s.heap.IsTuple l its.toArray:=p1
  have nl:∀b∈[e,it],l≠b:=fun b hb q=>by
   obtain ⟨o1,g1,g2,_⟩:=p1'
   simp only [List.mem_cons,List.not_mem_nil,or_false] at hb
   rcases hb with rfl | rfl
   ·rw [q,a1] at g1; cases g1; exact absurd (Value.type.inj g2) (by decide)
   ·obtain ⟨o2,g3,g4,_⟩:=a2
    rw [q,g3] at g1; cases g1; rw [g4] at g2; exact absurd (Value.type.inj g2) (by decide)
  have DD:Draws X.prog X.w X.A.in1 it [it,l] its.toArray.size (fun i v=>its.toArray[i]? = some v) (fun i h=>h.IsTupleIter it l i∧h.IsTuple l its.toArray):=iW (show X.A.in1.handled=none from I.ok.hd hc) it l (nl it (by simp)) its.toArray
  refine wpAny_pyNext_enum_itemD DD a1 ⟨a2,p1'⟩ lt hne (by simp only [List.mem_cons,List.not_mem_nil,or_false,not_or]; exact ⟨hne,Ne.symm (nl e (by simp))⟩) fun x' h' tk px b1 b2 b3 b4 bk=>⟨_,rfl,?_⟩
  have hu':its.toArray[i]? = some u:=by simpa using hu
  have eu:u=x':=Option.some.inj (hu'.symm.trans px)
  subst eu
  exact jY (tn:=fun i h=>(∃old,IsEnum h e it i old)∧h.IsTupleIter it l i) hne I hf e1 ex ho r b1 b3 bk fun h'' c1 cs=>⟨⟨u,c1⟩,b2.1.extBut cs.extBut (Ne.symm hne)⟩
 done:=by
  intro X hP hw hK hc i pins s σ H E I hf st hg
  subst hP hw hK
  obtain ⟨⟨old,a1⟩,a2⟩:=st
  obtain ⟨xs,e1,ex⟩:=hg
  obtain ⟨its,rv,p1,_⟩:=I.tuple e1
  have lv:=rv.length
  have p1':s.heap.IsTuple l its.toArray:=p1
  have hT:s.TypeIs (.ref e) "enumerate" := ⟨_,a1,rfl⟩
  unfold pyNext
  refine wpAny_bind (wpAny_attempt (wpAny_callSpecial?_slot (name:=Str.ofString "__next__") hT F.slot_enumerate_next
   (wpAny_call_entry F.slot_enumerate_next hT F.entry_enumerate_next ?_ (F.args_enumerate_next_1 _))))
  show wpAny _ _ (field (.ref e) 2 >>= _) _ _ _
  refine wpAny_bind (wpAny_field a1 rfl (x:=.ref it) rfl ?_)
  refine wpAny_bind (ck (I.ok.hd hc) a2 p1' (by simp; omega) fun h' x he' hx'=>?_)
  obtain ⟨o,ho,hc⟩:=hx'
  refine wpAny_bind (wpAny_isInstance (T := "StopIteration") (b:=true) ⟨o,ho,hc⟩ isSubtype_stop ?_)
  refine wpAny_pure ⟨rfl,?_⟩
  exact I.turnedN (t':=s.toks) hf fun b o hb q=>by
   simp only [List.mem_cons,List.not_mem_nil,or_false,not_or] at hb
   exact he' b o hb.2 q
 self:=fun _ _ _ _ _ st h=>by obtain ⟨⟨old,a1⟩,_⟩:=st; exact wpAny_pyIter_enum a1 h
def tE (K:PySem.W.Frag) (ta:TA):TI:=fun σ H R=>ta σ H fun vs H1=>∃l xs,vs=[.ref l]∧SqT K H1 l xs∧R (ItE K l) H1
theorem oH {X:Cx} {a:Expr} {ta:TA} {p pos tp:Pos} {es:List Expr} {kk:Nat} (hg:Gl X "enumerate") (hm:X.mg "enumerate" = none) (ha:PA X [a] ta)
  (hs:starEach [a] X.env=[(false,eval a X.env)]:=by rfl) :
  PI X (.Tuple es kk tp) (.Call (.Name "enumerate" p) [a] [] pos) (tE X.K ta):=by
 intro pins s σ H R I h
 refine Call_ (dI I hg hm PyProof.Rows.boot_enumerate (PyProof.Rows.callWith_type1 (thn (ha pos pins s σ H _ I h) fun us s1 ⟨vs,H1,I1,r1,q1⟩=>?_) (by rw [hs]; rfl) (by rfl)))
 obtain ⟨l,xs,rfl,e1,q⟩:=q1
 cases r1 with
 | cons r rr =>
  cases rr
  cases r
  obtain ⟨its1,rv1,p1,_⟩:=I1.tuple e1
  have p1':s1.heap.IsTuple l its1.toArray:=p1
  refine cm p1' fun h' z1 z2 sz keep=>?_
  have I2:Inv X pins σ H1 { s1 with heap:=h' }:=I1.kept (t':=s1.toks) keep
  refine wpAny_pyIter_enum z1 ⟨s1.heap.objs.size + 1,[s1.heap.objs.size + 1,s1.heap.objs.size],_,_,H1,rfl,I2,jZ l _ _ (Nat.succ_ne_self _),⟨⟨_,z1⟩,z2⟩,fun b hb=>?_,q⟩
  have hb':s1.heap.objs.size≤b:=by
   simp only [List.mem_cons,List.not_mem_nil,or_false] at hb
   rcases hb with rfl | rfl <;> omega
  exact I1.fpOk hb' (I1.hok.fresh hb')
theorem my {K:PySem.W.Frag} {l:Addr} {xs:List V} {g:TG} {tb:TS} {D:Ends} {σ:St} {H:Hp} (Pv:Nat→St→Hp→Prop) (h0:Pv 0 σ H) (hk:∀i σ H',Pv i σ H'→SqT K H' l xs)
  (ht:∀i x p σ H,xs[i]? = some x→H p=none→Pv i σ H→g (.ref p) σ (upd H p (.tup [.int i,x])) fun σ2 H2=>tb { D with nx:=Pv (i + 1),ct:=Pv (i + 1),bk:=D.nx } σ2 H2) (hd:∀σ H,Pv xs.length σ H→D.nx σ H) :
  ∃W:Nat→Nat→St→Hp→Prop,(∃m,W 0 m σ H)∧∀i m σ H,W i m σ H →
   ((ItE K l).stop i H∧D.nx σ H)∨((ItE K l).go i H∧∃N:St→Hp→Prop,(∀σ' H',N σ' H'→∃m',m' < m∧W (i + 1) m' σ' H')∧∀x H',(ItE K l).yld i H x H'→g x σ H' fun σ2 H2=>tb { D with nx:=N,ct:=N,bk:=D.nx } σ2 H2):=by
 refine ⟨fun i m σ H=>m=xs.length - i∧i≤xs.length∧Pv i σ H,⟨xs.length,by simp,Nat.zero_le _,h0⟩,?_⟩
 rintro i m σ H ⟨rfl,hi,p⟩
 have e1:=hk i σ H p
 by_cases hlt:i < xs.length
 ·refine .inr ⟨⟨xs,xs[i],e1,by simp [hlt]⟩,Pv (i + 1),fun σ' H' p'=>⟨xs.length - (i + 1),by omega,rfl,hlt,p'⟩,fun v H' y=>?_⟩
  obtain ⟨q,x,hq,rfl,rfl,ex⟩:=y
  exact ht i x q σ H (ex _ e1) hq p
 ·have e:i=xs.length:=by omega
  subst e
  exact .inl ⟨⟨xs,e1,Nat.le_refl _⟩,hd σ H p⟩
end L2
set_option Elab.async false
set_option linter.all false
set_option maxRecDepth 100000
namespace L2
open PySem PySem.Spec PyProof.Rows PySem.SeqAt
section
variable {X:Cx}
def mz:Value→Bool
 | .bool b=>b
 | _=>false
theorem oI {b c:Bool} {its:List Value} (r:Vals [V.bl b,V.bl c] its):its=[.bool b,.bool c]:=by
 cases r with
 | cons r1 r2 =>
  cases r2 with
  | cons r3 r4 =>
   cases r4
   cases r1
   cases r3
   rfl
theorem io {A:Around} {s:Shared} {b c:Bool}:∀y,y∈[Value.bool b,Value.bool c].toArray→EqAt A s y (.bool true) (mz y):=fun y hy=>by
 have hy:y∈[Value.bool b,Value.bool c]:=by simpa using hy
 have t:∀d:Bool,EqAt A s (.bool d) (.bool true) (mz (.bool d)):=fun d=>by
  have:=EqAt.bool_bool (A:=A) (s:=s) d true
  rwa [show (d == true)=d by cases d <;> rfl] at this
 rcases List.mem_cons.mp hy with rfl | hy
 ·exact t b
 ·rw [List.mem_singleton.mp hy]; exact t c
theorem mB:MtR X "list.count" (fun x vs H Q=>∃l b c,x=.ref l∧vs=[.bl true]∧H l=some (.lst [.bl b,.bl c])∧Q (.int ((if b=true then 1 else 0) + (if c=true then 1 else 0))) H):=by
 intro pins s σ H x vs v us Q I rx rv h
 obtain ⟨l,b,c,rfl,rfl,hH,q⟩:=h
 cases rx
 obtain ⟨u,rfl,ru⟩:=rv.one
 cases ru
 obtain ⟨z,its,n,r,hl,e⟩:=I.lstM hH
 obtain rfl:=oI r
 refine call_meets F.slot_list_count ⟨_,e,rfl⟩ F.entry_list_count (F.args_list_count_2 _ _) (list_countAt l _ n none #[] (.bool true) mz) ⟨e,io,?_⟩
 refine ⟨.int ((if b=true then 1 else 0) + (if c=true then 1 else 0)),H,I.tok _,⟨s.toks,?_⟩,q⟩
 cases b <;> cases c <;> rfl
theorem lt1 {c:Bool} {m:Nat} (hm:m < [Value.bool false,Value.bool c].toArray.size) (h:m < 1):mz [Value.bool false,Value.bool c].toArray[m]=false:=by
 have:m=0:=Nat.lt_one_iff.mp h
 subst this
 rfl
theorem mC:MtR X "list.index" (fun x vs H Q=>∃l b c,x=.ref l∧vs=[.bl true]∧H l=some (.lst [.bl b,.bl c])∧((b=true∧Q (.int 0) H)∨(b=false∧c=true∧Q (.int 1) H))):=by
 intro pins s σ H x vs v us Q I rx rv h
 obtain ⟨l,b,c,rfl,rfl,hH,q⟩:=h
 cases rx
 obtain ⟨u,rfl,ru⟩:=rv.one
 cases ru
 obtain ⟨z,its,n,r,hl,e⟩:=I.lstM hH
 obtain rfl:=oI r
 rcases q with ⟨rfl,q⟩ | ⟨rfl,rfl,q⟩
 ·exact call_meets F.slot_list_index ⟨_,e,rfl⟩ F.entry_list_index (F.args_list_index_2 _ _) (list_indexAt l _ n none #[] (.bool true) mz 0 (by show 0 < 2; decide) (by decide) rfl (fun m _ h=>absurd h (Nat.not_lt_zero _))) ⟨e,io,⟨.int 0,H,I.tok _,⟨_,rfl⟩,q⟩⟩
 ·exact call_meets F.slot_list_index ⟨_,e,rfl⟩ F.entry_list_index (F.args_list_index_2 _ _) (list_indexAt l _ n none #[] (.bool true) mz 1 (by show 1 < 2; decide) (by decide) rfl (fun m hm h=>lt1 hm h)) ⟨e,io,⟨.int 1,H,I.tok _,⟨_,rfl⟩,q⟩⟩
end
end L2
set_option Elab.async false
set_option linter.all false
set_option maxRecDepth 100000
namespace L2
open PySem PySem.Spec PyProof.Rows PySem.SeqAt
open PySem.AutoSeq1 (wpAny_loadPart')
theorem dj (l:Addr) (es:Array DictEntry) (n:Nat) (dd:Option Addr) (sl:Array (Option Value)) (b:Int) (u:Tok) :
  Meets (Builtin.«dict.__eq__» ⟨[.ref l,.int b u],[]⟩) (fun _ R s=>s.heap.get? l=some { cls:=.type "dict",dict:=dd,data:=.dict es n,slots:=sl }∧R (.ok (.ret .notImplemented)) s) :=
 .of_wp fun prog w A R s h=>by obtain ⟨hp,g,d,tk,os⟩:=s; obtain ⟨hl,h⟩:=h; have f1:=F.sub_int_dict; wp_walk using wpAny_loadPart' hl,wpAny_load hl; exact ⟨_,rfl,h⟩
theorem cT (l:Addr) (es:Array DictEntry) (n:Nat) (dd:Option Addr) (sl:Array (Option Value)) (b:Bool) :
  Meets (Builtin.«dict.__eq__» ⟨[.ref l,.bool b],[]⟩) (fun _ R s=>s.heap.get? l=some { cls:=.type "dict",dict:=dd,data:=.dict es n,slots:=sl }∧R (.ok (.ret .notImplemented)) s) :=
 .of_wp fun prog w A R s h=>by obtain ⟨hp,g,d,tk,os⟩:=s; obtain ⟨hl,h⟩:=h; have f1:=F.sub_bool_dict; wp_walk using wpAny_loadPart' hl,wpAny_load hl; exact ⟨_,rfl,h⟩
theorem cx (b:Bool) (l:Addr) (c:Value) (es:Array DictEntry) (n:Nat) (dd:Option Addr) (sl:Array (Option Value)) :
  Meets (Builtin.«int.__eq__» ⟨[.bool b,.ref l],[]⟩) (fun _ R s=>s.heap.get? l=some { cls:=c,dict:=dd,data:=.dict es n,slots:=sl }∧R (.ok (.ret .notImplemented)) s) :=
 .of_wp fun prog w A R s h=>by obtain ⟨hp,g,d,tk,os⟩:=s; obtain ⟨hl,h⟩:=h; wp_walk using wpAny_loadPart' hl,wpAny_load hl; exact ⟨_,rfl,h⟩
theorem cF (b:Int) (u:Tok) (l:Addr) (c:Value) (es:Array DictEntry) (n:Nat) (dd:Option Addr) (sl:Array (Option Value)) :
  Meets (Builtin.«int.__eq__» ⟨[.int b u,.ref l],[]⟩) (fun _ R s=>s.heap.get? l=some { cls:=c,dict:=dd,data:=.dict es n,slots:=sl }∧R (.ok (.ret .notImplemented)) s) :=
 .of_wp fun prog w A R s h=>by obtain ⟨hp,g,d,tk,os⟩:=s; obtain ⟨hl,h⟩:=h; wp_walk using wpAny_loadPart' hl,wpAny_load hl; exact ⟨_,rfl,h⟩
section
variable {A:Around} {s:Shared}
theorem EqAt.int_dict {l:Addr} {o:Obj} {es:Array DictEntry} {n:Nat} (b:Int) (u:Tok) (ho:s.heap.get? l=some o) (hc:o.cls=.type "dict") (hd:o.data=.dict es n) (hu:A.units < cLine):EqAt A s (.int b u) (.ref l) false:=fun prog w E Q h=>by
 obtain ⟨cls,dd,data,sl⟩:=o
 simp only at hc hd
 subst hc hd
 unfold eqBool
 refine wpAny_holding ?_
 refine wpAny_ite_split (fun hab=>absurd (eq_of_beq hab) nofun) (fun _=>?_)
 exact wpAny_bind (rc_eq_decline_or (k:=false) (typeIs_int s b u) ⟨_,ho,rfl⟩ (by decide) F.sub_dict_int F.slot_int_eq F.slot_dict_eq_refl
  (fun _ hq=>call_meets F.slot_int_eq (typeIs_int s b u) F.entry_int_eq (F.args_int_eq_2 _ _) (cF b u l (.type "dict") es n dd sl) ⟨ho,hq⟩)
  (fun _ hq=>call_meets F.slot_dict_eq_refl ⟨_,ho,rfl⟩ F.entry_dict_eq (F.args_dict_eq_2 _ _) (dj l es n dd sl b u) ⟨ho,hq⟩)
  (fun _ hq=>wpAny_of_eq (rfl:isSame (.int b u) (.ref l)=pure false) hq) (.inr hu) (wpAny_truthy_bool h))
theorem EqAt.bool_dict {l:Addr} {o:Obj} {es:Array DictEntry} {n:Nat} (b:Bool) (ho:s.heap.get? l=some o) (hc:o.cls=.type "dict") (hd:o.data=.dict es n) (hu:A.units < cLine):EqAt A s (.bool b) (.ref l) false:=fun prog w E Q h=>by
 obtain ⟨cls,dd,data,sl⟩:=o
 simp only at hc hd
 subst hc hd
 unfold eqBool
 refine wpAny_holding ?_
 refine wpAny_ite_split (fun hab=>absurd (eq_of_beq hab) nofun) (fun _=>?_)
 exact wpAny_bind (rc_eq_decline_or (k:=false) rfl ⟨_,ho,rfl⟩ (by decide) F.sub_dict_bool F.slot_bool_eq F.slot_dict_eq_refl
  (fun _ hq=>call_meets F.slot_bool_eq rfl F.entry_int_eq (F.args_int_eq_2 _ _) (cx b l (.type "dict") es n dd sl) ⟨ho,hq⟩)
  (fun _ hq=>call_meets F.slot_dict_eq_refl ⟨_,ho,rfl⟩ F.entry_dict_eq (F.args_dict_eq_2 _ _) (cT l es n dd sl b) ⟨ho,hq⟩)
  (fun _ hq=>wpAny_of_eq (rfl:isSame (.bool b) (.ref l)=pure false) hq) (.inr hu) (wpAny_truthy_bool h))
end
section
variable {X:Cx} {pins:List (Addr×Obj)} {σ:St} {H:Hp} {s:Shared}
def eI:V→Int→Bool
 | .int j,i=>i == j
 | .bl b,i=>i == (if b=true then 1 else 0)
 | _,_=>false
def eB:V→Bool→Bool
 | .bl b,c=>c == b
 | .int j,c=>(if c=true then 1 else 0) == j
 | _,_=>false
def OdV (K:PySem.W.Frag) (H:Hp) (v:V):Prop:=v=.non∨(∃b,v=.bl b)∨(∃i,v=.int i)∨(∃z,v=.str z)∨∃a,v=.ref a∧((∃xs,SqL K H a xs)∨(∃xs,SqT K H a xs)∨H a=some (.dK []))
theorem Inv.dct (I:Inv X pins σ H s) {a:Addr} (h:H a=some (.dK [])):∃o es n,s.heap.get? a=some o∧o.cls=.type "dict" ∧ o.data=.dict es n:=by
 obtain ⟨_,ne,vs,kv',o,es,ep,h1,h2,h3,_⟩:=I.hok a _ h
 exact ⟨o,es,ep,h1,h2.1,h3⟩
theorem Inv.eqI (I:Inv X pins σ H s) {A:Around} (hu:A.units < cLine) {v:V} (h:OdV X.K H v) {u:Value} (r:RelV v u) (i:Int) (t:Tok):EqAt A s (.int i t) u (eI v i):=by
 rcases h with rfl | ⟨b,rfl⟩ | ⟨j,rfl⟩ | ⟨z,rfl⟩ | ⟨a,rfl,h⟩
 ·cases (show u=Value.none from r); exact EqAt.int_none i t
 ·cases (show u=Value.bool b from r); exact EqAt.int_bool i t b
 ·obtain ⟨t',e⟩:=(show ∃t,u=Value.int j t from r); subst e; exact EqAt.int_int i t j t'
 ·obtain ⟨t',e⟩:=(show ∃t,u=Value.str z t from r); subst e; exact EqAt.int_str i t z t'
 ·cases (show u=Value.ref a from r)
  rcases h with ⟨xs,h⟩ | ⟨xs,h⟩ | h
  ·obtain ⟨its,rv,⟨o,n,e,c,_,d⟩,_⟩:=I.list h
   exact EqAt.int_list i t ⟨o,e,c,n,d⟩ hu
  ·obtain ⟨its,rv,⟨o,e,c,n,d⟩,_⟩:=I.tuple h
   exact EqAt.int_tuple i t ⟨o,e,c,n,d⟩ hu
  ·obtain ⟨o,es,n,e,c,d⟩:=I.dct h
   exact EqAt.int_dict i t e c d hu
theorem Inv.eqB (I:Inv X pins σ H s) {A:Around} (hu:A.units < cLine) {v:V} (h:OdV X.K H v) {u:Value} (r:RelV v u) (c:Bool):EqAt A s (.bool c) u (eB v c):=by
 rcases h with rfl | ⟨b,rfl⟩ | ⟨j,rfl⟩ | ⟨z,rfl⟩ | ⟨a,rfl,h⟩
 ·cases (show u=Value.none from r); exact EqAt.bool_none c
 ·cases (show u=Value.bool b from r); exact EqAt.bool_bool c b
 ·obtain ⟨t',e⟩:=(show ∃t,u=Value.int j t from r); subst e; exact EqAt.bool_int c j t'
 ·obtain ⟨t',e⟩:=(show ∃t,u=Value.str z t from r); subst e; exact EqAt.bool_str c z t'
 ·cases (show u=Value.ref a from r)
  rcases h with ⟨xs,h⟩ | ⟨xs,h⟩ | h
  ·obtain ⟨its,rv,⟨o,n,e,c',_,d⟩,_⟩:=I.list h
   exact EqAt.bool_list c ⟨o,e,c',n,d⟩ hu
  ·obtain ⟨its,rv,⟨o,e,c',n,d⟩,_⟩:=I.tuple h
   exact EqAt.bool_tuple c ⟨o,e,c',n,d⟩ hu
  ·obtain ⟨o,es,n,e,c',d⟩:=I.dct h
   exact EqAt.bool_dict c e c' d hu
def PrB (H:Hp) (z:V) (q:Int×Bool):Prop:=∃b,z=.ref b∧H b=some (.tup [.int q.1,.bl q.2])
def eP (H:Hp) (v1 v2:V):Value→Bool
 | .ref b=>match H b with
  | some (.tup [.int i,.bl c])=>eI v1 i && eB v2 c
  | _=>false
 | _=>false
theorem sg {b:Addr} {v1 v2:V} {i:Int} {c:Bool} (h:H b=some (.tup [.int i,.bl c])):eP H v1 v2 (.ref b)=(eI v1 i && eB v2 c):=by
 show (match H b with
  | some (.tup [.int i,.bl c])=>eI v1 i && eB v2 c
  | _=>false)=_
 rw [h]
theorem oJ {v1 v2:V}:∀ {zs:List V} {qs:List (Int×Bool)} {its:List Value},Paired (PrB H) zs qs→Vals zs its→its.any (eP H v1 v2)=qs.any fun q=>eI v1 q.1 && eB v2 q.2
 | _,_,_,.nil,.nil=>rfl
 | _,_,_,.cons ⟨b,e,h⟩ r,.cons r1 rs=>by
  subst e
  cases r1
  rw [List.any_cons,List.any_cons,sg h,oJ r rs]
theorem lO {i:Int}:eI (.int i) i=true:=by show (i == i)=true; simp
theorem lP {c:Bool}:eB (.bl c) c=true:=by show (c == c)=true; simp
theorem mD (hu:X.A.units + 65 < cLine):OpR X (compareOp .NotIn) (fun x y H Q=>∃a l v1 v2 zs qs,x=.ref a∧y=.ref l∧H a=some (.tup [v1,v2])∧OdV X.K H v1∧OdV X.K H v2∧H l=some (.lst zs)∧Paired (PrB H) zs qs∧Q (.bl (!qs.any fun q=>eI v1 q.1 && eB v2 q.2)) H):=by
 intro pins s σ H x y v u Q I rx ry h
 obtain ⟨a,l,v1,v2,zs,qs,rfl,rfl,ha,o1,o2,hl,pq,q⟩:=h
 cases rx
 cases ry
 obtain ⟨its,rv,⟨o,n,e,c,_,d⟩,_⟩:=I.list (SqL.of hl)
 obtain ⟨ias,rva,⟨oa,ea,ca,na,da⟩,_⟩:=I.tuple (SqT.of ha)
 refine notIn_listAt (eP H v1 v2) ⟨o,e,c,n,d⟩ (fun y hy=>?_) ?_
 ·have hy:y∈its:=by simpa using hy
  obtain ⟨j,hj⟩:=List.mem_iff_getElem?.mp hy
  obtain ⟨z,hz⟩:∃z,zs[j]? = some z:=⟨_,List.getElem?_eq_getElem (by have:=rv.length; have:=(List.getElem?_eq_some_iff.mp hj).1; omega)⟩
  obtain ⟨y',hy',rz⟩:=rv.get hz
  obtain rfl:y'=y:=by rw [hj] at hy'; exact (Option.some.inj hy').symm
  obtain ⟨q',hq,b,rfl,hb⟩:=Pc.Paired.getR pq hz
  cases rz
  rw [sg hb]
  obtain ⟨ibs,rvb,⟨ob,eb,cb,nb,db⟩,_⟩:=I.tuple (SqT.of hb)
  cases rva with
  | cons ra1 ra=>cases ra with
   | cons ra2 ra=>cases ra with
    | nil =>
     cases rvb with
     | cons rb1 rb=>cases rb with
      | cons rb2 rb=>cases rb with
       | nil =>
        obtain ⟨t,et⟩:=(show ∃t,_=Value.int q'.1 t from rb1)
        subst et
        cases rb2
        by_cases hab:b=a
        ·subst hab
         obtain ⟨k1,k2⟩:V.int q'.1=v1∧V.bl q'.2=v2:=by
          rw [ha] at hb
          cases hb
          exact ⟨rfl,rfl⟩
         subst k1
         subst k2
         rw [lO,lP]
         exact EqAt.same _
        ·refine EqAt.of_refs hab ?_
         have:=RcAt.tuples (A:=X.A.in1) (s:=s) (e:=fun j=>if j=0 then eI v1 q'.1 else eB v2 q'.2) ⟨ob,eb,cb,nb,db⟩ ⟨oa,ea,ca,na,da⟩ (show X.A.units + 1 < cLine by omega) (fun j h1 h2=>?_)
         ·have hh:∀p r:Bool,(((List.range (min 2 2)).all fun j=>if j=0 then p else r) && (2 == 2))=(p && r):=fun p r=>by cases p <;> cases r <;> rfl
          rw [← hh]
          exact this
         ·have:j=0∨j=1:=by have:j < 2:=h1; omega
          rcases this with rfl | rfl
          ·exact I.eqI (show X.A.units + 1 + 1 < cLine by omega) o1 ra1 _ _
          ·exact I.eqB (show X.A.units + 1 + 1 < cLine by omega) o2 ra2 _
 ·rw [List.any_toArray,oJ pq rv]
  exact ⟨.bl _,H,I,rfl,q⟩
end
end L2
set_option Elab.async false
set_option linter.all false
set_option maxRecDepth 100000
namespace Pc
open PySem L2
def top (i:Nat):Stmt:=PySem.Challenge.pw_platecuts_k36_layings_refused.main.body.getD i (.Pass ⟨0,0,0,0⟩)
abbrev xD:Stmt:=top 0
abbrev gf:Stmt:=top 17
abbrev gg:Stmt:=top 18
abbrev oK:Stmt:=top 19
abbrev br:Stmt:=top 20
abbrev el:Stmt:=top 25
abbrev cL:Stmt:=top 28
abbrev dk:Stmt:=top 29
abbrev jf:Stmt:=top 30
abbrev bB:Stmt:=top 31
abbrev bD:Stmt:=top 37
abbrev bd:Stmt:=top 38
abbrev ez:Stmt:=top 39
abbrev bu:Stmt:=top 40
abbrev bh:Stmt:=top 41
abbrev eA:Stmt:=top 45
abbrev eC:Stmt:=top 46
abbrev cf:Stmt:=inClass (top 47) 0
abbrev cq:Stmt:=inClass (top 47) 1
abbrev ke:Stmt:=inClass (top 47) 2
abbrev jg:Stmt:=inClass (top 47) 3
abbrev jh:Stmt:=inClass (top 47) 4
abbrev bL:Stmt:=inClass (top 47) 5
abbrev cr:Stmt:=inClass (top 47) 6
abbrev ji:Stmt:=top 49
abbrev oM:Stmt:=top 50
abbrev jj:Stmt:=top 51
abbrev jk:Stmt:=top 52
abbrev jl:Stmt:=top 53
abbrev gh:Stmt:=top 54
abbrev jm:Stmt:=top 55
abbrev gi:Stmt:=top 56
abbrev eD:Stmt:=top 57
abbrev oN:Stmt:=top 58
abbrev gj:Stmt:=top 59
abbrev gU:Stmt:=top 60
abbrev cu:Stmt:=top 61
abbrev gm:Stmt:=top 62
abbrev jn:Stmt:=top 63
abbrev eE:Stmt:=top 64
abbrev oO:Stmt:=top 65
abbrev ff:Stmt:=top 66
abbrev eF:Stmt:=top 67
abbrev jo:Stmt:=top 68
section
variable {P:Program} {w:World} {K:PySem.W.Frag} {mg:Str→Option Value} {base:Heap}
structure Blt (mg:Str→Option Value):Prop where
 isi:mg "isinstance" = none
 int:mg "int" = none
 bool:mg "bool" = none
 list:mg "list" = none
 tuple:mg "tuple" = none
 len:mg "len" = none
 range:mg "range" = none
 max:mg "max" = none
 min:mg "min" = none
 abs:mg "abs" = none
 divmod:mg "divmod" = none
 sum:mg "sum" = none
 sorted:mg "sorted" = none
 all:mg "all" = none
 repr:mg "repr" = none
 zip:mg "zip" = none
 enumerate:mg "enumerate" = none
 mostk:∃t,mg "MOST_KINDS" = some (.int 8 t)
 fivek:∃t,mg "THINGS_OF_A_KIND" = some (.int 5 t)
end
theorem aj {t u:TS} {D:Ends} {σ:St} {H:Hp} (J:St→Hp→Prop) (h1:∀R:St→Hp→Prop,(∀σ' H',J σ' H'→R σ' H')→t { D with nx:=R } σ H) (h2:∀σ' H',J σ' H'→u D σ' H'):wW t u D σ H:=h1 _ h2
section
variable {P:Program} {w:World} {K:PySem.W.Frag} {mg:Str→Option Value} {base:Heap}
theorem qJ:FnScope ["thing","least"] ["thing","least"] (defScope gf):=⟨rfl,rfl,rfl,by decide +kernel,rfl,by decide +kernel,by decide +kernel⟩
theorem oP {f:Addr} {fd:FuncData} (F:Fun K "is_whole" "is_whole" gf f fd) (B:Blt mg):FnOk P w K mg base CX0 1 f fd ["thing","least"] (cz K):=by
 refine F.ok qJ (fun vs H Q E h=>?_) (fun cdv A outer s H vs Q E hr h=>?_)
 ·obtain ⟨x,T,l,rfl,_⟩:=h
  rfl
 obtain ⟨x,T,l,rfl,⟨tn,ty⟩,q⟩:=h
 refine ⟨_,ah (av (cN (aA bc rfl B.isi PyProof.Rows.boot_isinstance (aa (pv 0) (aa (bE (v:=.ty "int") rfl B.int PyProof.Rows.boot_int rfl) ad)))
  (cN (jA (aA bc rfl B.isi PyProof.Rows.boot_isinstance (aa (pv 0) (aa (bE (v:=.ty "bool") rfl B.bool PyProof.Rows.boot_bool rfl) ad))))
  (cY (bz lx (pv 0) (pv 1) (aH _)))))),?_⟩
 refine ⟨_,rfl,x,_,_,_,_,rfl,ty,rfl,lF T tn,_,rfl,?_⟩
 have tb:=ee ty
 refine bQ (fun c=>?_) (fun c=>?_)
 ·refine ⟨_,rfl,x,_,_,_,_,rfl,ty,rfl,dg T tn,_,rfl,_,rfl,?_⟩
  refine bQ (fun c2=>?_) (fun c2=>?_)
  ·have hT:(T == "int")=true:=by
    have:(T == "bool")=false:=by simpa using c2
    rw [this,Bool.or_false] at c; exact c
   obtain ⟨i,rfl⟩:=ou ty tn hT
   exact ⟨_,rfl,_,rfl,_,_,rfl,rfl,q⟩
  ·have hT:eZ x=true:=by
    rw [← tb]
    cases e:(T == "bool") with
    | true=>rfl
    | false=>rw [e] at c2; exact absurd rfl c2
   cases x <;> first | exact q | (exact absurd hT Bool.false_ne_true)
 ·have hx:aD x l=false:=by
   cases x with
   | int i =>
    exfalso
    have ty':=ty
    generalize hv:Value.type T=tv at ty'
    cases ty' with
    | int=>cases hv; exact c rfl
   | _=>rfl
  rw [hx] at q
  exact q
theorem qK:FnScope ["thing"] ["thing"] (defScope gg):=⟨rfl,rfl,rfl,by decide +kernel,rfl,by decide +kernel,by decide +kernel⟩
theorem oQ {f:Addr} {fd:FuncData} (F:Fun K "is_truth" "is_truth" gg f fd) (B:Blt mg):FnOk P w K mg base CX0 1 f fd ["thing"] (fB K):=by
 refine F.ok qK (fun vs H Q E h=>?_) (fun cdv A outer s H vs Q E hr h=>?_)
 ·obtain ⟨x,T,rfl,_⟩:=h
  rfl
 obtain ⟨x,T,rfl,⟨tn,ty⟩,q⟩:=h
 refine ⟨_,ah (av (aA bc rfl B.isi PyProof.Rows.boot_isinstance (aa (pv 0) (aa (bE (v:=.ty "bool") rfl B.bool PyProof.Rows.boot_bool rfl) ad)))),?_⟩
 refine ⟨_,rfl,x,_,_,_,_,rfl,ty,rfl,dg T tn,?_⟩
 rw [ee ty]
 exact q
theorem xE:FnScope ["thing"] ["thing"] (defScope oK):=⟨rfl,rfl,rfl,by decide +kernel,rfl,by decide +kernel,by decide +kernel⟩
theorem tF {f:Addr} {fd:FuncData} (F:Fun K "is_row" "is_row" oK f fd) (B:Blt mg):FnOk P w K mg base CX0 1 f fd ["thing"] (gL K):=by
 refine F.ok xE (fun vs H Q E h=>?_) (fun cdv A outer s H vs Q E hr h=>?_)
 ·obtain ⟨x,T,rfl,_⟩:=h
  rfl
 obtain ⟨x,T,rfl,ty,q⟩:=h
 refine ⟨_,ah (av (aA ia rfl B.isi PyProof.Rows.boot_isinstance (aa (pv 0) (aa (aO (aa (bE (v:=.ty "list") rfl B.list PyProof.Rows.boot_list rfl) (aa (bE (v:=.ty "tuple") rfl B.tuple PyProof.Rows.boot_tuple rfl) ad))) ad)))),?_⟩
 refine ⟨_,rfl,(by show 2≤sizeLine; decide),fun p hp=>?_⟩
 have s1:Same H (upd H p (.tup [.ty "list",.ty "tuple"])):=fun b o e=>by rw [au (ai e hp)]; exact e
 have t2:=Ty.same s1 ty
 exact ⟨x,p,_,_,_,_,rfl,t2.2,ag,rfl,qD T ty.1,q _ s1⟩
theorem scIsKind:FnScope ["thing","wide","high","worth","wanted","turns"] ["thing"] (defScope eA):=⟨rfl,rfl,rfl,by decide +kernel,rfl,by decide +kernel,by decide +kernel⟩
theorem mE {f:Addr} {fd:FuncData} (F:Fun K "is_kind" "is_kind" eA f fd) (B:Blt mg) (DW:Dn P w K mg base "is_whole" ["thing","least"] 1 (cz K)) (DT:Dn P w K mg base "is_truth" ["thing"] 1 (fB K)) (DR:Dn P w K mg base "is_row" ["thing"] 1 (gL K)) :
  FnOk P w K mg base CX0 2 f fd ["thing"] (ef K):=by
 refine F.ok scIsKind (fun vs H Q E h=>?_) (fun cdv A outer s H vs Q E hr h=>?_)
 ·obtain ⟨x,T,rfl,_⟩:=h
  rfl
 obtain ⟨x,T,rfl,ty,q⟩:=h
 obtain ⟨tk,htk⟩:=B.fivek
 have nd:=scIsKind.nd
 refine ⟨_,af (aN (PW.pt (bI (aQ (aK (ar DR hr rfl (aa (pv 0) ad)))) (bC (aI cI (aA aS rfl B.len PySem.boot_len (aa (pv 0) ad)) (aL (v:=.int 5) rfl htk ⟨tk,rfl⟩) (aH _))))) (ah (av be)) aB)
  (af (cg (pv 0) (oo rfl (az (aw (i:=1) nd rfl (Or.inl rfl)) (az (aw (i:=2) nd rfl (Or.inl rfl)) (az (aw (i:=3) nd rfl (Or.inl rfl)) (az (aw (i:=4) nd rfl (Or.inl rfl)) (az (aw (i:=5) nd rfl (Or.inl rfl)) bf)))))))
  (af (aN (PW.pt (bI (aQ (aK (ar DW hr rfl (aa (pv 1) (aa ae ad))))) (bC (aQ (aK (ar DW hr rfl (aa (pv 2) (aa ae ad)))))))) (ah (av be)) aB)
  (ah (av (cN (ar DW hr rfl (aa (pv 3) (aa ae ad))) (cN (ar DW hr rfl (aa (pv 4) (aa ae ad))) (cY (ar DT hr rfl (aa (pv 5) ad))))))))),?_⟩
 refine ⟨_,rfl,x,T,rfl,ty,fun H1 s1=>⟨_,rfl,?_⟩⟩
 rcases q with ⟨n1,n2,q⟩ | ⟨a,xs,rfl,hx,its,q⟩
 ·have e:(T == "list" || T == "tuple")=false:=by simp [n1,n2]
  rw [e]
  refine aX (aX ?_)
  exact q H1 s1
 ·have e:(T == "list" || T == "tuple")=true:=by
   have t2:=ty.2
   generalize hv:Value.type T=tv at t2
   generalize hr:V.ref a=rv at t2
   cases t2 with
   | lst _=>cases hv; rfl
   | frz _=>cases hv; rfl
   | tup _=>cases hv; rfl
   | dK e=>cases hr; rcases hx with z | z <;> (rw [z] at e; cases e)
   | dT e=>cases hr; rcases hx with z | z <;> (rw [z] at e; cases e)
   | ins=>cases hv
   | _=>cases hr
  rw [e]
  have sq:SqL K H1 a xs∨SqT K H1 a xs:=by
   rcases hx with z | z
   ·exact .inl (SqL.of (s1 _ _ z))
   ·exact .inr (SqT.of (s1 _ _ z))
  refine aP ⟨_,rfl,a,xs,rfl,sq,rfl,_,rfl,?_⟩
  refine bQ (fun c=>?_) (fun c=>?_)
  ·have hl:xs.length≠5:=fun z=>by rw [z] at c; exact absurd c (by decide)
   have:gM xs=false:=by
    unfold gM
    split
    ·exact absurd rfl hl
    ·rfl
   rw [this] at q
   exact q H1 s1
  ·have hl:xs.length=5:=by
    by_cases z:xs.length=5
    ·exact z
    ·exfalso
     apply c
     have:¬ (V.int (xs.length:Int)=V.int 5):=fun h=>z (by have:=V.int.inj h; omega)
     rw [decide_eq_false this]; rfl
   obtain ⟨x1,x2,x3,x4,x5,rfl⟩:∃x1 x2 x3 x4 x5,xs=[x1,x2,x3,x4,x5]:=by
    match xs,hl with
    | [a,b,c,d,e],_=>exact ⟨a,b,c,d,e,rfl⟩
   obtain ⟨T1,t1⟩:=its x1 (by simp)
   obtain ⟨T2,t2⟩:=its x2 (by simp)
   obtain ⟨T3,t3⟩:=its x3 (by simp)
   obtain ⟨T4,t4⟩:=its x4 (by simp)
   obtain ⟨T5,t5⟩:=its x5 (by simp)
   refine ⟨_,rfl,a,_,rfl,sq,rfl,x1,_,rfl,x2,_,rfl,x3,_,rfl,x4,_,rfl,x5,_,rfl,rfl,?_⟩
   refine ⟨_,rfl,x1,T1,1,rfl,Ty.same s1 t1,_,rfl,?_⟩
   have q':∀b,gM [x1,x2,x3,x4,x5]=b→Q (.bl b) H1:=fun b e=>by rw [← e]; exact q H1 s1
   have k5:gM [x1,x2,x3,x4,x5]=(aD x1 1 && aD x2 1 && aD x3 0 && aD x4 0 && eZ x5):=rfl
   cases w1:aD x1 1 with
   | false =>
    refine aX (aX ?_)
    exact q' false (by rw [k5,w1]; rfl)
   | true =>
    refine aP ⟨_,rfl,x2,T2,1,rfl,Ty.same s1 t2,_,rfl,?_⟩
    cases w2:aD x2 1 with
    | false =>
     refine aX ?_
     exact q' false (by rw [k5,w1,w2]; rfl)
    | true =>
     refine aP ⟨_,rfl,x3,T3,0,rfl,Ty.same s1 t3,_,rfl,?_⟩
     cases w3:aD x3 0 with
     | false =>
      refine aP ?_
      exact q' false (by rw [k5,w1,w2,w3]; rfl)
     | true =>
      refine aX ⟨_,rfl,x4,T4,0,rfl,Ty.same s1 t4,_,rfl,?_⟩
      cases w4:aD x4 0 with
      | false =>
       refine aP ?_
       exact q' false (by rw [k5,w1,w2,w3,w4]; rfl)
      | true =>
       refine aX ⟨_,rfl,x5,T5,rfl,Ty.same s1 t5,?_⟩
       exact q' _ (by rw [k5,w1,w2,w3,w4]; rfl)
end
section
variable {P:Program} {w:World} {K:PySem.W.Frag} {mg:Str→Option Value} {base:Heap}
theorem scInit:FnScope ["self","blade","kinds","kind"] ["self","blade","kinds"] (defScope cf):=⟨rfl,rfl,rfl,by decide +kernel,rfl,by decide +kernel,by decide +kernel⟩
theorem qL {f C:Addr} {fd:FuncData} (F:Fun K "__init__" "Shop.__init__" cf f fd) (B:Blt mg) (T:ShopTxt K C) (DW:Dn P w K mg base "is_whole" ["thing","least"] 1 (cz K)) (DR:Dn P w K mg base "is_row" ["thing"] 1 (gL K))
  (DK:Dn P w K mg base "is_kind" ["thing"] 2 (ef K)):FnOk P w K mg base CX0 3 f fd ["self","blade","kinds"] (jQ C):=by
 refine F.ok scInit (fun vs H Q E h=>?_) (fun cdv A outer s H vs Q E hr h=>?_)
 ·obtain ⟨x,dx,ks,b,rs,kds,rfl,_⟩:=h
  rfl
 obtain ⟨x,dx,ks,b,rs,kds,rfl,hx,b0,hks,hrs,hgd,n1,n8,q⟩:=h
 have hr1:=hr.mono (show 1≤2 by decide)
 obtain ⟨tk,htk⟩:=B.mostk
 have nd:=scInit.nd
 have n8':(8:Nat) < sizeLine:=by decide
 refine ⟨_,af (aN (aQ (aK (ar DW hr1 rfl (aa (pv 1) (aa ae ad))))) eL aB)
  (af (aN (PW.pt (bI (aQ (aK (ar DR hr1 rfl (aa (pv 2) ad)))) (bC (aQ (nS dU dU ae (aA aS rfl B.len PySem.boot_len (aa (pv 2) ad)) (aL (v:=.int 8) rfl htk ⟨tk,rfl⟩)))))) eL aB)
  (af (ci PassesOwn.never rfl (fO (pv 2)) (aw (i:=3) nd rfl (Or.inl rfl)) (ah (aN (aQ (aK (ar DK hr rfl (aa (pv 3) ad)))) eL aB)))
  (af (nW (pv 0) (pv 1) rfl)
  (ah (nW (pv 0) (bA bR rfl B.tuple PyProof.Rows.boot_tuple (aa (du (own:=["kind"]) (cs:=[]) (cap:=[]) rfl (fO (pv 2))
   (bn (sc:=defScope cf) (N:=["self","blade","kinds","kind"]) rfl rfl (by decide +kernel))
   (fun _ _ _ _ _=>aw (i:=0) (by show List.Nodup (["kind"]:List Str); decide +kernel) rfl (Or.inl rfl) (Or.inr rfl)) (fun _ _ _ _ _=>bU)
   (fun _ _ _ _ _=>bA (r:=iS K) bR rfl B.tuple PyProof.Rows.boot_tuple (aa (pv 0) ad))) ad)) rfl))))),?_⟩
 refine ⟨_,rfl,.int b,_,0,rfl,.int,_,rfl,?_⟩
 have wb:aD (.int b) 0=true:=decide_eq_true b0
 rw [wb]
 refine aP ?_
 have tyk:∃T,Ty K H (.ref ks) T∧(T == "list" || T == "tuple")=true:=by
  rcases hks with e | e
  ·exact ⟨_,.lst e,rfl⟩
  ·exact ⟨_,.tup e,rfl⟩
 obtain ⟨T0,ty0,te0⟩:=tyk
 refine ⟨_,rfl,.ref ks,T0,rfl,ty0,fun H1 s1=>⟨_,rfl,?_⟩⟩
 rw [te0]
 have sq:∀ {H2:Hp},Same H H2→SqL K H2 ks rs∨SqT K H2 ks rs:=fun s2=>by
  rcases hks with z | z
  ·exact .inl (SqL.of (s2 _ _ z))
  ·exact .inr (SqT.of (s2 _ _ z))
 refine aP ⟨_,rfl,ks,rs,rfl,sq s1,_,_,rfl,rfl,_,rfl,?_⟩
 rw [decide_eq_true (show (1:Int)≤(rs.length:Int) by omega)]
 refine aX ⟨_,_,rfl,rfl,_,rfl,?_⟩
 rw [decide_eq_true (show (rs.length:Int)≤8 by omega)]
 refine aP ?_
 have dR:=Paired.length hrs
 refine ow (j:=2) (a:=ks) (xs:=rs) rfl (hks.imp (fun z=>s1 _ _ z) fun z=>s1 _ _ z) (fun i σ H2=>∃v,σ=[some (.ref x),some (.int b),some (.ref ks),v]∧Same H1 H2) ⟨none,rfl,Same.refl _⟩ (fun i σ H2 _ ⟨_,_,s2⟩ o e=>s2 _ _ e) ?_ ?_
 ·rintro i y σ H2 hi ⟨v,rfl,s2⟩
  obtain ⟨k,hk,rk⟩:=Paired.getR hrs hi
  refine ⟨_,rfl,?_⟩
  simp only [iL,List.append_nil]
  refine mn ((rk.same s1).same s2) (hgd k (List.mem_of_getElem? hk)) fun H3 s3=>⟨_,rfl,aP ?_⟩
  exact ⟨_,rfl,s2.trans s3⟩
 rintro σ H2 ⟨v,rfl,s12⟩
 have s2:Same H H2:=s1.trans s12
 refine ⟨_,rfl,_,rfl,x,C,dx,[],rfl,s2 _ _ hx,T.cl,T.nB,(by show 0 < 1000; decide),?_⟩
 have k3:∀c o,c≠x→H c=some o→(upd H2 x (.ins C dx (cw "blade_width" (.int b) []))) c=some o:=fun c o n e=>by rw [au n]; exact s2 c o e
 have x3:(upd H2 x (.ins C dx (cw "blade_width" (.int b) []))) x=some (.ins C dx (cw "blade_width" (.int b) [])):=ag
 generalize upd H2 x (.ins C dx (cw "blade_width" (.int b) []))=H3 at k3 x3 ⊢
 have rx:∀c xs,H c=some (.lst xs)∨H c=some (.tup xs)→c≠x:=fun c xs e z=>by
  subst z
  rcases e with e | e <;> (rw [hx] at e; cases e)
 dsimp only [xj,tCB,lz]
 refine dv (j:=2) (a:=ks) (xs:=rs) rfl (hks.imp (fun z=>k3 _ _ (rx _ _ (.inl z)) z) fun z=>k3 _ _ (rx _ _ (.inr z)) z) (fun i ys H4=>ys.length=i∧Same H3 H4∧Tups H4 ys (kds.take i)) (fun i ys H4 _ ⟨_,s4,_⟩ o e=>s4 _ _ e) ⟨rfl,Same.refl _,.nil⟩ ?_ ?_
 ·rintro i y ys H4 hi ⟨hy,s4,ty4⟩
  have hin:i < rs.length:=(List.getElem?_eq_some_iff.mp hi).1
  obtain ⟨k,hk,rk⟩:=Paired.getR hrs hi
  have tk1:kds.take (i + 1)=kds.take i ++ [k]:=by rw [List.take_add_one,hk]; rfl
  refine ⟨by omega,leS.set rfl,bV ?_⟩
  rcases rk with ⟨a,rfl,h⟩ | ⟨a,rfl,h⟩
  ·have h4:=s4 _ _ (k3 _ _ (rx _ _ (.inr h)) h)
   exact ⟨_,rfl,a,_,rfl,.inr ⟨SqT.of h4,Nx.of hin ⟨by rw [List.length_append,hy]; rfl,s4,by rw [tk1]; exact Paired.snoc ty4 ⟨a,rfl,h4⟩⟩⟩⟩
  ·have h4:=s4 _ _ (k3 _ _ (rx _ _ (.inl h)) h)
   refine ⟨_,rfl,a,_,rfl,.inl ⟨SqL.of h4,fun l hl=>Nx.of hin ⟨by rw [List.length_append,hy]; rfl,fun c o e=>?_,?_⟩⟩⟩
   ·have e4:=s4 c o e
    rw [au (ai e4 hl)]; exact e4
   ·rw [tk1]
    exact Paired.snoc (Tups.keep (fun c xs e=>by rw [au (ai e hl)]; exact e) ty4) ⟨l,rfl,ag⟩
 rintro ys H4 ⟨hy,s4,ty4⟩
 refine ⟨by omega,fun p hp=>?_⟩
 refine ⟨p,ys,rfl,.inl ⟨SqL.of ag,fun r hr'=>?_⟩⟩
 have hpr:r≠p:=fun z=>by rw [z,ag] at hr'; cases hr'
 have hr4:H4 r=none:=by rw [au hpr] at hr'; exact hr'
 have x4:=s4 _ _ x3
 have xp:x≠p:=ai x4 hp
 have xr:x≠r:=ai x4 hr4
 refine ⟨_,rfl,x,C,dx,_,rfl,(by rw [au xr,au xp]; exact x4),T.cl,T.nK,(Nat.lt_of_le_of_lt (df _ _ _) (by decide)),?_⟩
 rw [dR,List.take_length] at ty4
 refine q _ ⟨dx,r,ys,ag,by rw [au (Ne.symm xr),ag],?_⟩ fun c o n e=>?_
 ·refine Tups.keep (fun c xs e=>?_) ty4
  rw [au (fun z=>by rw [z,x4] at e; cases e),au (ai e hr4),au (ai e hp)]
  exact e
 ·have e4:=s4 _ _ (k3 c o n e)
  rw [au n,au (ai e4 hr4),au (ai e4 hp)]
  exact e4
theorem qM:FnScope ["self"] ["self"] (defScope cq):=⟨rfl,rfl,rfl,by decide +kernel,rfl,by decide +kernel,by decide +kernel⟩
theorem oR {f C:Addr} {fd:FuncData} (F:Fun K "blade" "Shop.blade" cq f fd) (T:ShopTxt K C):FnOk P w K mg base CX0 1 f fd ["self"] (eg C):=by
 refine F.ok qM (fun vs H Q E h=>?_) (fun cdv A outer s H vs Q E hr h=>?_)
 ·obtain ⟨x,b,ks,rfl,_⟩:=h
  rfl
 obtain ⟨x,b,ks,rfl,⟨dx,r,rs,h1,h2,h3⟩,q⟩:=h
 exact ⟨_,ah (av (hU (pv 0) rfl)),_,rfl,x,C,dx,_,_,rfl,h1,T.cl,T.nB,jP _ _,q⟩
end
section
variable {P:Program} {w:World} {K:PySem.W.Frag} {mg:Str→Option Value} {base:Heap}
theorem oS:FnScope ["kind"] ["kind"] (defScope eC):=⟨rfl,rfl,rfl,by decide +kernel,rfl,by decide +kernel,by decide +kernel⟩
theorem mF {f:Addr} {fd:FuncData} (F:Fun K "can_lie_turned" "can_lie_turned" eC f fd):FnOk P w K mg base CX0 1 f fd ["kind"] (fU K):=by
 refine F.ok oS (fun vs H Q E h=>?_) (fun cdv A outer s H vs Q E hr h=>?_)
 ·obtain ⟨a,k,rfl,_⟩:=h
  rfl
 obtain ⟨a,k,rfl,ha,q⟩:=h
 refine ⟨_,ah (av (cN (ay ix_tup (pv 0) ae (fun _ _=>rfl)) (cY (bz cI (ay ix_tup (pv 0) ae (fun _ _=>rfl)) (ay ix_tup (pv 0) ae (fun _ _=>rfl)) (aH _))))),?_⟩
 refine ⟨_,rfl,a,_,4,_,rfl,rfl,SqT.of ha,rfl,_,rfl,?_⟩
 unfold aU at q
 refine bQ (fun c=>?_) (fun c=>?_)
 ·rw [c,Bool.true_and] at q
  refine ⟨_,rfl,a,_,0,_,rfl,rfl,SqT.of ha,rfl,_,rfl,a,_,1,_,rfl,rfl,SqT.of ha,rfl,rfl,?_⟩
  rw [hJ]
  rw [show (decide (k.w=k.h))=(k.w == k.h) from rfl] at q
  exact q
 ·have c':k.tu=false:=by simpa using c
  rw [c',Bool.false_and] at q
  exact q
theorem mG:FnScope ["self","kind","turned"] ["self","kind","turned"] (defScope bL):=⟨rfl,rfl,rfl,by decide +kernel,rfl,by decide +kernel,by decide +kernel⟩
theorem kf {f C:Addr} {fd:FuncData} (F:Fun K "is_lying" "Shop.is_lying" bL f fd) (B:Blt mg) (T:ShopTxt K C) (DW:Dn P w K mg base "is_whole" ["thing","least"] 1 (cz K)) (DU:Dn P w K mg base "is_truth" ["thing"] 1 (fB K)) (DT:Dn P w K mg base "can_lie_turned" ["kind"] 1 (fU K)) :
  FnOk P w K mg base CX0 2 f fd ["self","kind","turned"] (dB K C):=by
 refine F.ok mG (fun vs H Q E h=>?_) (fun cdv A outer s H vs Q E hr h=>?_)
 ·obtain ⟨s,b,ks,x,t,T0,U,rfl,_⟩:=h
  rfl
 obtain ⟨s,b,ks,x,t,T0,U,rfl,⟨dx,r,rs,h1,h2,h3⟩,tx,tt,q⟩:=h
 have jw:=Paired.length h3
 refine ⟨_,af (aN (PW.pt (bI (aQ (aK (ar DW hr rfl (aa (pv 1) (aa ae ad))))) (bI (aI lx (pv 1) (aA aS rfl B.len PySem.boot_len (aa (hU (pv 0) rfl) ad)) (aH _))
   (bC (aQ (aK (ar DU hr rfl (aa (pv 2) ad)))))))) (ah (av be)) aB)
  (ah (av (lp (jA (pv 2)) (cY (ar DT hr rfl (aa (ay ix_tup (hU (pv 0) rfl) (pv 1) (fun _ _=>rfl)) ad)))))),?_⟩
 refine ⟨_,rfl,x,_,0,rfl,tx,_,rfl,?_⟩
 cases hw:aD x 0 with
 | false =>
  have e:cn ks x t=false:=by
   cases x with
   | int i =>
    have h0:decide (0≤i)=false:=hw
    cases t <;> first | rfl | (show (decide (0≤i) && _)=false; rw [h0,Bool.false_and])
   | _=>rfl
  rw [e] at q
  exact aX (aX q)
 | true =>
  have ex:∃i,x=.int i∧0≤i:=by
   cases x with
   | int i=>exact ⟨i,rfl,of_decide_eq_true hw⟩
   | _=>cases hw
  obtain ⟨i,rfl,i0⟩:=ex
  refine aP ⟨_,rfl,_,rfl,s,C,dx,_,_,rfl,h1,T.cl,T.nK,fb _ _,r,rs,rfl,.inr (SqT.of h2),i,_,rfl,rfl,_,rfl,?_⟩
  by_cases hi:(rs.length:Int)≤i
  ·rw [decide_eq_true hi]
   have e:cn ks (.int i) t=false:=by
    have hn:ks[i.toNat]? = none:=List.getElem?_eq_none (by omega)
    cases t <;> first | rfl | (show (decide (0≤i) && match ks[i.toNat]? with | some k=>_ | none=>false)=false; rw [hn,Bool.and_false])
   rw [e] at q
   exact aX (aX q)
  ·rw [decide_eq_false hi]
   refine aP ⟨_,rfl,t,_,rfl,tt,_,rfl,?_⟩
   have hlt:i.toNat < ks.length:=by omega
   cases hb:eZ t with
   | false =>
    have e:cn ks (.int i) t=false:=by cases t <;> first | rfl | cases hb
    rw [e] at q
    exact aX q
   | true =>
    have ex:∃c,t=.bl c:=by cases t <;> first | exact ⟨_,rfl⟩ | cases hb
    obtain ⟨c,rfl⟩:=ex
    obtain ⟨y,hy⟩:∃y,rs[i.toNat]? = some y:=⟨rs[i.toNat]'(by omega),by simp [show i.toNat < rs.length by omega]⟩
    obtain ⟨k,hk,a,rfl,ha⟩:=Paired.getR h3 hy
    have e:cn ks (.int i) (.bl c)=(!c || aU k):=by
     show (decide (0≤i) && match ks[i.toNat]? with | some k=>(!c || aU k) | none=>false)=_
     rw [hk,decide_eq_true i0,Bool.true_and]
    rw [e] at q
    refine aP ⟨_,rfl,c,rfl,_,rfl,?_⟩
    refine bQ (fun d=>?_) (fun d=>?_)
    ·rw [d,Bool.true_or] at q
     exact q
    ·have d':(!c)=false:=by simpa using d
     rw [d',Bool.false_or] at q
     have at':atI rs i=some (.ref a):=by
      have en:ixN rs.length i=some i.toNat:=by
       unfold ixN
       rw [if_pos i0,if_pos (by omega)]
      unfold atI
      rw [en]
      exact hy
     exact ⟨_,rfl,s,C,dx,_,_,rfl,h1,T.cl,T.nK,fb _ _,_,rfl,r,rs,i,_,rfl,rfl,SqT.of h2,at',a,k,rfl,ha,q⟩
end
def ip (k:Kd) (c:Bool):List V:=if c=true then [.int k.h,.int k.w] else [.int k.w,.int k.h]
def fC (K:PySem.W.Frag) (C:Addr):Sp:=fun vs H Q _=>∃ (s:Addr) (b:Int) (ks:List Kd) (x t:V) (T U:String),vs=[.ref s,x,t]∧ShopAt C H s b ks∧Ty K H x T∧Ty K H t U ∧
 cn ks x t=true∧∀ (i:Int) (c:Bool) (k:Kd) (p:Addr),x=.int i→t=.bl c→ks[i.toNat]? = some k→cn ks x t=true→H p=none→Q (.ref p) (upd H p (.tup (ip k c)))
theorem fg {ks:List Kd} {x t:V} (h:cn ks x t=true):∃ (i:Int) (c:Bool) (k:Kd),x=.int i∧t=.bl c∧0≤i∧ks[i.toNat]? = some k:=by
 unfold cn at h
 split at h
 ·rename_i i c
  rw [Bool.and_eq_true] at h
  obtain ⟨h1,h2⟩:=h
  split at h2
  ·rename_i k hk
   exact ⟨i,c,k,rfl,rfl,of_decide_eq_true h1,hk⟩
  ·cases h2
 ·cases h
theorem tG {rs:List V} {i:Int} {v:V} (i0:0≤i) (h:rs[i.toNat]? = some v):atI rs i=some v:=by
 have en:ixN rs.length i=some i.toNat:=by
  unfold ixN
  have:=(List.getElem?_eq_some_iff.mp h).1
  rw [if_pos i0,if_pos (by omega)]
 unfold atI
 rw [en]
 exact h
section
variable {P:Program} {w:World} {K:PySem.W.Frag} {mg:Str→Option Value} {base:Heap}
theorem scSides:FnScope ["self","kind","turned","row"] ["self","kind","turned"] (defScope cr):=⟨rfl,rfl,rfl,by decide +kernel,rfl,by decide +kernel,by decide +kernel⟩
theorem oU {f C:Addr} {fd:FuncData} (F:Fun K "sides" "Shop.sides" cr f fd) (T:ShopTxt K C) (ML:Mn P w K mg base C "is_lying" ["self","kind","turned"] 2 (dB K C)) :
  FnOk P w K mg base CX0 3 f fd ["self","kind","turned"] (fC K C):=by
 refine F.ok scSides (fun vs H Q E h=>?_) (fun cdv A outer s H vs Q E hr h=>?_)
 ·obtain ⟨s,b,ks,x,t,T0,U,rfl,_⟩:=h
  rfl
 obtain ⟨s,b,ks,x,t,T0,U,rfl,S,tx,tt,he,hq⟩:=h
 have nd:=scSides.nd
 refine ⟨_,af (aN (aQ (aK (lJ (pv 0) T.cl ML hr (aa (pv 1) (aa (pv 2) ad))))) (ah bS) aB)
  (af (aG (i:=3) nd rfl (Or.inl rfl) (ay ix_tup (hU (pv 0) rfl) (pv 1) (fun _ _=>rfl)))
  (af (aN (aK (pv 2)) (ah (av (aO (aa (ay ix_tup (pv 3) ae (fun _ _=>rfl)) (aa (ay ix_tup (pv 3) ae (fun _ _=>rfl)) ad))))) aB)
  (ah (av (aO (aa (ay ix_tup (pv 3) ae (fun _ _=>rfl)) (aa (ay ix_tup (pv 3) ae (fun _ _=>rfl)) ad))))))),?_⟩
 obtain ⟨dx,r,rs,h1,h2,h3⟩:=id S
 refine ⟨_,rfl,s,dx,_,rfl,h1,dw _ _ (by decide +kernel) (by decide +kernel),_,rfl,_,rfl,s,b,ks,x,t,T0,U,rfl,S,tx,tt,_,rfl,?_⟩
 cases hl:cn ks x t with
 | false=>rw [hl] at he; cases he
 | true =>
  obtain ⟨i,c,k,rfl,rfl,i0,hk⟩:=fg hl
  have jw:=Paired.length h3
  have hik:=(List.getElem?_eq_some_iff.mp hk).1
  obtain ⟨y,hy⟩:∃y,rs[i.toNat]? = some y:=⟨rs[i.toNat]'(by omega),by simp [show i.toNat < rs.length by omega]⟩
  obtain ⟨k',hk',a,rfl,ha⟩:=Paired.getR h3 hy
  rw [hk] at hk'
  obtain rfl:=Option.some.inj hk'
  refine aP ?_
  refine ⟨_,rfl,s,C,dx,_,_,rfl,h1,T.cl,T.nK,fb _ _,_,rfl,r,rs,i,_,rfl,rfl,SqT.of h2,tG i0 hy,?_⟩
  refine ⟨_,rfl,_,rfl,?_⟩
  cases c with
  | true =>
   refine aX ?_
   refine ⟨_,rfl,a,_,1,_,rfl,rfl,SqT.of ha,rfl,_,rfl,a,_,0,_,rfl,rfl,SqT.of ha,rfl,(by show 2≤sizeLine; decide),fun p hp=>?_⟩
   exact hq i true k p rfl rfl hk hl hp
  | false =>
   refine aP ?_
   refine ⟨_,rfl,a,_,0,_,rfl,rfl,SqT.of ha,rfl,_,rfl,a,_,1,_,rfl,rfl,SqT.of ha,rfl,(by show 2≤sizeLine; decide),fun p hp=>?_⟩
   exact hq i false k p rfl rfl hk hl hp
end
mutual
inductive Dt (p:Addr) (H:Hp):V→PyData→Prop
 | non:Dt p H .non .none
 | bl (b:Bool):Dt p H (.bl b) (.bool b)
 | int (i:Int):Dt p H (.int i) (.int i)
 | str (z:Str):Dt p H (.str z) (.str z)
 | lst {a:Addr} {xs:List V} {ds:List PyData}:a≠p→H a=some (.lst xs)→Dts p H xs ds→Dt p H (.ref a) (.list ds)
 | tup {a:Addr} {xs:List V} {ds:List PyData}:H a=some (.tup xs)→Dts p H xs ds→Dt p H (.ref a) (.tuple ds)
 | emp {a:Addr}:H a=some (.dK [])→Dt p H (.ref a) (.dict [])
inductive Dts (p:Addr) (H:Hp):List V→List PyData→Prop
 | nil:Dts p H [] []
 | cons {x:V} {d:PyData} {xs:List V} {ds:List PyData}:Dt p H x d→Dts p H xs ds→Dts p H (x :: xs) (d :: ds)
end
mutual
theorem Dt.same {p:Addr} {H H':Hp} (s:Same H H'):∀ {v:V} {d:PyData},Dt p H v d→Dt p H' v d
 | _,_,.non=>.non
 | _,_,.bl b=>.bl b
 | _,_,.int i=>.int i
 | _,_,.str z=>.str z
 | _,_,.lst n h r=>.lst n (s _ _ h) (r.same s)
 | _,_,.tup h r=>.tup (s _ _ h) (r.same s)
 | _,_,.emp h=>.emp (s _ _ h)
theorem Dts.same {p:Addr} {H H':Hp} (s:Same H H'):∀ {vs:List V} {ds:List PyData},Dts p H vs ds→Dts p H' vs ds
 | _,_,.nil=>.nil
 | _,_,.cons a r=>.cons (a.same s) (r.same s)
end
theorem Dts.length {p:Addr} {H:Hp}:∀ {vs:List V} {ds:List PyData},Dts p H vs ds→vs.length=ds.length
 | _,_,.nil=>rfl
 | _,_,.cons _ r=>by rw [List.length_cons,List.length_cons,r.length]
theorem Dt.ty {K:PySem.W.Frag} {p:Addr} {H:Hp} {v:V} {d:PyData} (h:Dt p H v d):∃T,Ty K H v T:=by
 cases h with
 | non=>exact ⟨_,Ty.non⟩
 | bl b=>exact ⟨_,Ty.bl⟩
 | int i=>exact ⟨_,Ty.int⟩
 | str z=>exact ⟨_,Ty.str⟩
 | lst _ h _=>exact ⟨_,Ty.lst h⟩
 | tup h _=>exact ⟨_,Ty.tup h⟩
 | emp h=>exact ⟨_,Ty.dK h⟩
mutual
theorem Dt.but {p:Addr} {H H':Hp} (hp:∃xs,H p=some (.lst xs)) (b:But p H H'):∀ {v:V} {d:PyData},Dt p H v d→Dt p H' v d
 | _,_,.non=>.non
 | _,_,.bl b=>.bl b
 | _,_,.int i=>.int i
 | _,_,.str z=>.str z
 | _,_,.lst n h r=>.lst n (b _ _ n h) (r.but hp b)
 | _,_,.tup h r=>.tup (b _ _ (fun z=>by obtain ⟨_,e⟩:=hp; rw [z,e] at h; cases h) h) (r.but hp b)
 | _,_,.emp h=>.emp (b _ _ (fun z=>by obtain ⟨_,e⟩:=hp; rw [z,e] at h; cases h) h)
theorem Dts.but {p:Addr} {H H':Hp} (hp:∃xs,H p=some (.lst xs)) (b:But p H H'):∀ {vs:List V} {ds:List PyData},Dts p H vs ds→Dts p H' vs ds
 | _,_,.nil=>.nil
 | _,_,.cons a r=>.cons (a.but hp b) (r.but hp b)
end
mutual
def wt:PyData→Nat
 | .str z=>z.length + 1
 | .list ds=>wts ds + 1
 | .tuple ds=>wts ds + 1
 | _=>1
def wts:List PyData→Nat
 | []=>0
 | d :: r=>wt d + wts r
end
theorem xF (d:PyData):1≤wt d:=by cases d <;> simp only [wt] <;> omega
def bv:PyData→Option (List PyData)
 | .list ds=>some ds
 | .tuple ds=>some ds
 | _=>none
theorem Dt.row {K:PySem.W.Frag} {p:Addr} {H:Hp} {v:V} {d:PyData} (h:Dt p H v d):(bv d=none∧∃T,Ty K H v T∧(T == "list" || T == "tuple")=false)∨∃a xs ds T,bv d=some ds∧v=.ref a∧(H a=some (.lst xs)∨H a=some (.tup xs))∧Dts p H xs ds∧Ty K H v T∧(T == "list" || T == "tuple")=true:=by
 cases h with
 | non=>exact .inl ⟨rfl,_,Ty.non,rfl⟩
 | bl b=>exact .inl ⟨rfl,_,Ty.bl,rfl⟩
 | int i=>exact .inl ⟨rfl,_,Ty.int,rfl⟩
 | str z=>exact .inl ⟨rfl,_,Ty.str,rfl⟩
 | lst _ h r=>exact .inr ⟨_,_,_,_,rfl,rfl,.inl h,r,Ty.lst h,rfl⟩
 | tup h r=>exact .inr ⟨_,_,_,_,rfl,rfl,.inr h,r,Ty.tup h,rfl⟩
 | emp h=>exact .inl ⟨rfl,_,Ty.dK h,rfl⟩
def bw (d:PyData) (z:Str) (n:Nat):Bool:=match bv d with
 | some (.str y :: r)=>decide (r.length + 1=n) && decide (y=z)
 | _=>false
section
variable {P:Program} {w:World} {K:PySem.W.Frag} {mg:Str→Option Value} {base:Heap}
def sd1 (k:Kd) (c:Bool):Int:=if c=true then k.h else k.w
def sd2 (k:Kd) (c:Bool):Int:=if c=true then k.w else k.h
theorem oV (k:Kd) (c:Bool):ip k c=[.int (sd1 k c),.int (sd2 k c)]:=by cases c <;> rfl
def eG (ks:List Kd) (w h:Int) (kv tv xv yv:V):Bool:=cn ks kv tv && aD xv 0 && aD yv 0 && (match kv,tv,xv,yv with
 | .int i,.bl c,.int x,.int y=>(match ks[i.toNat]? with
  | some k=>decide (x + sd1 k c≤w) && decide (y + sd2 k c≤h)
  | none=>false)
 | _,_,_,_=>false)
def iq (K:PySem.W.Frag) (C:Addr):Sp:=fun vs H Q _=>∃ (s:Addr) (b:Int) (ks:List Kd) (w h:Int) (kv tv xv yv:V) (T1 T2 T3 T4:String),vs=[.ref s,.int w,.int h,kv,tv,xv,yv]∧ShopAt C H s b ks∧Ty K H kv T1∧Ty K H tv T2∧Ty K H xv T3∧Ty K H yv T4∧∀H',Same H H'→Q (.bl (eG ks w h kv tv xv yv)) H'
theorem scliesG:FnScope ["shop","wide","high","kind","turned","x","y","piece_wide","piece_high"] ["shop","wide","high","kind","turned","x","y"] (defScope el):=⟨rfl,rfl,rfl,by decide +kernel,rfl,by decide +kernel,by decide +kernel⟩
theorem oW {f C:Addr} {fd:FuncData} (F:Fun K "lies_in" "lies_in" el f fd) (T:ShopTxt K C) (DW:Dn P w K mg base "is_whole" ["thing","least"] 1 (cz K)) (MI:Mn P w K mg base C "is_lying" ["self","kind","turned"] 2 (dB K C)) (MS:Mn P w K mg base C "sides" ["self","kind","turned"] 3 (fC K C)):FnOk P w K mg base CX0 4 f fd ["shop","wide","high","kind","turned","x","y"] (iq K C):=by
 refine F.ok scliesG (fun vs H Q E h=>?_) (fun cdv A outer s H vs Q E hr h=>?_)
 ·obtain ⟨s,b,ks,w1,h1,kv,tv,xv,yv,T1,T2,T3,T4,rfl,_⟩:=h
  rfl
 obtain ⟨s,b,ks,w1,h1',kv,tv,xv,yv,T1,T2,T3,T4,rfl,S,t1,t2,t3,t4,q⟩:=h
 have nd:=scliesG.nd
 have hr1:=hr.mono (show 1≤3 by decide)
 have hr2:=hr.mono (show 2≤3 by decide)
 refine ⟨_,(@af _ _ _ _ _ (@aN _ _ _ _ _ _ _ _ (PW.pt (bI (@aQ _ _ _ _ (@aK _ _ _ (lJ (pv 0) T.cl MI hr2 (@aa _ _ _ _ _ (pv 3) (@aa _ _ _ _ _ (pv 4) ad rfl) rfl)) (by intro _; rfl))) (bI (@aQ _ _ _ _ (@aK _ _ _ (@ar _ _ _ _ _ _ _ _ _ _ DW hr1 rfl (@aa _ _ _ _ _ (pv 5) (@aa _ _ _ _ _ ae ad rfl) rfl) (by decide) rfl rfl) (by intro _; rfl))) (bC (@aQ _ _ _ _ (@aK _ _ _ (@ar _ _ _ _ _ _ _ _ _ _ DW hr1 rfl (@aa _ _ _ _ _ (pv 6) (@aa _ _ _ _ _ ae ad rfl) rfl) (by decide) rfl rfl) (by intro _; rfl))))))) (@ah _ _ _ (@av _ _ _ _ be)) aB) (@af _ _ _ _ _ (@cg _ _ _ _ _ _ (lJ (pv 0) T.cl MS hr (@aa _ _ _ _ _ (pv 3) (@aa _ _ _ _ _ (pv 4) ad rfl) rfl)) (bH rfl (az (aw (i:=7) nd rfl (Or.inl rfl)) (az (aw (i:=8) nd rfl (Or.inl rfl)) bf))) rfl rfl rfl) (@ah _ _ _ (@av _ _ _ _ (cN (@bz _ _ _ _ _ _ _ _ dU (@aF _ _ _ _ _ _ _ _ aT (pv 5) (pv 7)) (pv 1) (aH _)) (cY (@bz _ _ _ _ _ _ _ _ dU (@aF _ _ _ _ _ _ _ _ aT (pv 6) (pv 8)) (pv 2) (aH _)))))))),?_⟩
 obtain ⟨dx,r,rs,h1,h2,h3⟩:=id S
 refine ⟨_,rfl,s,dx,_,rfl,h1,(dw _ _ (by decide +kernel) (by decide +kernel)),_,rfl,_,rfl,s,b,ks,kv,tv,T1,T2,rfl,S,t1,t2,_,rfl,?_⟩
 cases ly:cn ks kv tv with
 | false =>
  have q1:=q H (Same.refl _)
  unfold eG at q1
  rw [ly] at q1
  exact aX (aX q1)
 | true =>
 refine aP ⟨_,rfl,xv,T3,0,rfl,t3,_,rfl,?_⟩
 cases hx:aD xv 0 with
 | false =>
  have q1:=q H (Same.refl _)
  unfold eG at q1
  rw [ly,hx] at q1
  exact aX (aX q1)
 | true =>
 refine aP ⟨_,rfl,yv,T4,0,rfl,t4,_,rfl,?_⟩
 cases hy:aD yv 0 with
 | false =>
  have q1:=q H (Same.refl _)
  unfold eG at q1
  rw [ly,hx,hy] at q1
  exact aX q1
 | true =>
 refine aP ?_
 obtain ⟨i,c,k,rfl,rfl,i0,hk⟩:=fg ly
 obtain ⟨x1,rfl⟩:∃i,xv=.int i:=by cases xv <;> first | exact ⟨_,rfl⟩ | cases hx
 obtain ⟨y1,rfl⟩:∃i,yv=.int i:=by cases yv <;> first | exact ⟨_,rfl⟩ | cases hy
 refine ⟨_,rfl,s,dx,_,rfl,h1,(dw _ _ (by decide +kernel) (by decide +kernel)),_,rfl,_,rfl,s,b,ks,.int i,.bl c,T1,T2,rfl,S,t1,t2,ly,fun i' c' k' p e1 e2 hk' _ hp=>?_⟩
 cases e1
 cases e2
 rw [hk] at hk'
 cases hk'
 rw [oV]
 have q1:=q _ (Same.new hp (o:=.tup [.int (sd1 k c),.int (sd2 k c)]))
 refine ⟨p,_,rfl,SqT.of ag,rfl,_,_,rfl,_,_,rfl,rfl,?_⟩
 refine ⟨_,rfl,_,rfl,_,_,rfl,rfl,_,rfl,_,_,rfl,rfl,_,rfl,?_⟩
 unfold eG at q1
 rw [ly,hx,hy] at q1
 simp only [hk,Bool.true_and] at q1
 refine bQ (fun cc=>?_) (fun cc=>?_)
 ·refine ⟨_,rfl,_,rfl,_,_,rfl,rfl,_,rfl,_,_,rfl,rfl,?_⟩
  rw [cc,Bool.true_and] at q1
  exact q1
 ·rw [show decide (x1 + sd1 k c≤w1)=false by simpa using cc,Bool.false_and] at q1
  exact q1
end
def PotC (H:Hp) (p:Addr):Prop:=∃a b:Int,0≤a∧0≤b∧b < 4294967296∧H p=some (.lst [.int a,.int b])
theorem PotC.same {H H':Hp} {p:Addr} (x:PotC H p) (s:Same H H'):PotC H' p:=by
 obtain ⟨a,b,h1,h2,h3,e⟩:=x
 exact ⟨a,b,h1,h2,h3,s _ _ e⟩
theorem PotC.new {H:Hp} {p q:Addr} {o:HO} (x:PotC H p) (h:H q=none):PotC (upd H q o) p:=x.same (Same.new h)
theorem PotC.some {H:Hp} {p:Addr} (x:PotC H p):H p≠none:=by
 obtain ⟨a,b,h1,h2,h3,e⟩:=x
 rw [e]; exact fun z=>by cases z
theorem PotC.ne {H:Hp} {p q:Addr} (x:PotC H p) (h:H q=none):p≠q:=fun z=>x.some (z ▸ h)
theorem fv {H:Hp} {p:Addr} (h:PotC H p):∃xs,H p=some (.lst xs):=by
 obtain ⟨_,_,_,_,_,e⟩:=h
 exact ⟨_,e⟩
theorem PotC.put {H:Hp} {p l:Addr} {o:HO} (x:PotC H p) (n:p≠l):PotC (upd H l o) p:=by
 obtain ⟨a,b,h1,h2,h3,e⟩:=x
 exact ⟨a,b,h1,h2,h3,by rw [au n]; exact e⟩
theorem But.freeC {p q:Addr} {H H':Hp} (b:But p H H') (x:PotC H' p) (h:H' q=none):q≠p∧H q=none:=by
 have n:q≠p:=fun z=>x.some (z ▸ h)
 refine ⟨n,?_⟩
 cases e:H q with
 | none=>rfl
 | some o=>rw [b q o n e] at h; cases h
theorem aW {p c:Addr} {H0 H:Hp} {o:HO} (b:But p H0 H) (pt:PotC H p) (h:H c=none):∃H',upd H c o=H'∧H' c=some o∧c≠p∧Same H H'∧But p H0 H'∧PotC H' p :=
 ⟨_,rfl,ag,Ne.symm (pt.ne h),Same.new h,b.trans (But.new h),pt.new h⟩
theorem fh {p:Addr} {H H':Hp} (b:But p H H') (pt:PotC H p) {c:Addr} {xs:List V} (e:H c=some (.tup xs)):H' c=some (.tup xs):=by
 obtain ⟨_,hp⟩:=fv pt
 exact b _ _ (fun z=>by rw [z,hp] at e; cases e) e
theorem si {p:Addr} {rs:List V} {ks:List Kd} {H H':Hp} (b:But p H H') (pt:PotC H p) (h:Tups H rs ks):Tups H' rs ks:=Tups.keep (fun x xs e=>fh b pt e) h
theorem But.refl' {p:Addr} {H:Hp}:But p H H:=fun _ _ _ e=>e
section
variable {P:Program} {w:World} {K:PySem.W.Frag} {mg:Str→Option Value} {base:Heap}
def kg:Sp:=fun vs H Q _=>∃ (c k:Int),vs=[.int c,.int k]∧0≤k∧k≤63∧∀ (p:Addr) (H':Hp),H p=none→PotC H' p→Same H H'→Q (.ref p) H'
def cG:Sp:=fun vs H Q _=>∃ (p:Addr) (m:Int),vs=[.ref p,.int m]∧PotC H p∧0 < m∧m≤10 ^ 60∧∀ (r:Int) (H':Hp),0≤r→r < m→PotC H' p→But p H H'→Q (.int r) H'
def kh:Sp:=fun vs H Q _=>∃ (p:Addr),vs=[.ref p]∧PotC H p∧∀ (r:Int) (H':Hp),1≤r→r < 2 * 10 ^ 56→PotC H' p→But p H H'→Q (.int r) H'
def fD:Sp:=fun vs H Q _=>∃ (p:Addr) (u m:Int),vs=[.ref p,.int u,.int m]∧PotC H p∧1≤u∧u < 2 * 10 ^ 56∧1≤m∧m≤40∧∀ (r:Int) (H':Hp),1≤r→r < 10 ^ 58→PotC H' p→But p H H'→Q (.int r) H'
def gn:Sp:=fun vs H Q _=>∃ (p:Addr),vs=[.ref p]∧PotC H p∧∀ (r:Int) (H':Hp),0≤r→r < 10 ^ 60→PotC H' p→But p H H'→Q (.int r) H'
theorem sccell:FnScope ["_law_script","_law_k"] ["_law_script","_law_k"] (defScope ji):=⟨rfl,rfl,rfl,by decide +kernel,rfl,by decide +kernel,by decide +kernel⟩
theorem qN {f:Addr} {fd:FuncData} (F:Fun K "_law_cell" "_law_cell" ji f fd) (B:Blt mg):FnOk P w K mg base CX0 1 f fd ["_law_script","_law_k"] (jU K):=by
 refine F.ok sccell (fun vs H Q E h=>?_) (fun cdv A outer s H vs Q E hr h=>?_)
 ·obtain ⟨a,ns,n,rfl,_⟩:=h
  rfl
 obtain ⟨a,ns,n,rfl,hS,n0,q⟩:=h
 have nd:=sccell.nd
 refine ⟨_,(@af _ _ _ _ _ (@aN _ _ _ _ _ _ _ _ (@aI _ _ _ _ _ _ _ _ lw (pv 1) (@aA _ _ _ _ _ _ _ _ _ aS rfl B.len PySem.boot_len (@aa _ _ _ _ _ (pv 0) ad rfl) (by decide) (by decide) rfl rfl) (aH _)) (@ah _ _ _ (@av _ _ _ _ (@ay _ _ _ _ _ _ _ ix_list (pv 0) (pv 1) (fun _ _=>rfl)))) aB) (@ah _ _ _ (@av _ _ _ _ ae))),?_⟩
 have hl:(ns.map V.int).length=ns.length:=List.length_map _
 refine ⟨_,rfl,_,rfl,a,_,rfl,.inl hS,_,_,rfl,rfl,_,rfl,?_⟩
 refine bQ (fun c=>?_) (fun c=>?_)
 ·have c':n < ((ns.map V.int).length:Int):=of_decide_eq_true c
  rw [hl] at c'
  have hk:n.toNat < ns.length:=by omega
  have hv:atI (ns.map V.int) n=some (.int ns[n.toNat]):=cA n0 (by rw [List.getElem?_map,List.getElem?_eq_getElem hk]; rfl)
  exact ⟨_,rfl,_,rfl,a,_,_,_,rfl,rfl,hS,hv,q _⟩
 ·exact q _
theorem scpotc:FnScope ["_law_cell_here","_law_k"] ["_law_cell_here","_law_k"] (defScope oM):=⟨rfl,rfl,rfl,by decide +kernel,rfl,by decide +kernel,by decide +kernel⟩
theorem qO {f:Addr} {fd:FuncData} (F:Fun K "_law_pot" "_law_pot" oM f fd) (B:Blt mg):FnOk P w K mg base CX0 1 f fd ["_law_cell_here","_law_k"] (kg):=by
 refine F.ok scpotc (fun vs H Q E h=>?_) (fun cdv A outer s H vs Q E hr h=>?_)
 ·obtain ⟨c,k,rfl,_⟩:=h
  rfl
 obtain ⟨c,k,rfl,k0,k1,q⟩:=h
 have nd:=scpotc.nd
 refine ⟨_,(@ah _ _ _ (@av _ _ _ _ (@aR _ _ _ _ (@aa _ _ _ _ _ (@aA _ _ _ _ _ _ _ _ _ (eS rfl) rfl B.max PyProof.Rows.boot_max (@aa _ _ _ _ _ ae (@aa _ _ _ _ _ (@aF _ _ _ _ _ _ _ _ de (@aA _ _ _ _ _ _ _ _ _ iJ rfl B.abs PyProof.Rows.boot_abs (@aa _ _ _ _ _ (pv 0) ad rfl) (by decide) (by decide) rfl rfl) (@aF _ _ _ _ _ _ _ _ dL ae ae)) ad rfl) rfl) (by decide) (by decide) rfl rfl) (@aa _ _ _ _ _ (@aF _ _ _ _ _ _ _ _ aT (@aF _ _ _ _ _ _ _ _ aT (@aF _ _ _ _ _ _ _ _ dJ (@aA _ _ _ _ _ _ _ _ _ iJ rfl B.abs PyProof.Rows.boot_abs (@aa _ _ _ _ _ (pv 0) ad rfl) (by decide) (by decide) rfl rfl) ae) (@aF _ _ _ _ _ _ _ _ eQ ae (pv 1))) ae) ad rfl) rfl)))),?_⟩
 refine ⟨_,rfl,_,rfl,_,_,rfl,rfl,⟨by decide,by decide,by decide⟩,_,_,rfl,rfl,_,_,rfl,_,rfl,_,rfl,_,_,rfl,rfl,(by show (0:Int) < 2147483563; decide),_,rfl,_,_,rfl,rfl,.inl ⟨by decide,by decide⟩,_,_,rfl,rfl,_,_,rfl,rfl,(by show 2≤sizeLine; decide),fun p hp=>?_⟩
 have e1:=Int.emod_nonneg (if c < 0 then -c else c) (show (2147483563:Int)≠0 by decide)
 have e2:=Int.emod_lt_of_pos (if c < 0 then -c else c) (show (0:Int) < 2147483563 by decide)
 refine q p _ hp ⟨_,_,?_,?_,?_,ag⟩ (Same.new hp)
 ·split <;> omega
 ·omega
 ·omega
theorem sctake:FnScope ["_law_pot_here","_law_many","_law_digit"] ["_law_pot_here","_law_many"] (defScope jj):=⟨rfl,rfl,rfl,by decide +kernel,rfl,by decide +kernel,by decide +kernel⟩
theorem qQ {f:Addr} {fd:FuncData} (F:Fun K "_law_take" "_law_take" jj f fd) (B:Blt mg):FnOk P w K mg base CX0 1 f fd ["_law_pot_here","_law_many"] (cG):=by
 refine F.ok sctake (fun vs H Q E h=>?_) (fun cdv A outer s H vs Q E hr h=>?_)
 ·obtain ⟨p,m,rfl,_⟩:=h
  rfl
 obtain ⟨p,m,rfl,⟨a,b,a0,b0,b1,hp⟩,m0,m1,q⟩:=h
 have nd:=sctake.nd
 refine ⟨_,(@af _ _ _ _ _ (@aN _ _ _ _ _ _ _ _ (@aI _ _ _ _ _ _ _ _ iI (@ay _ _ _ _ _ _ _ ix_list (pv 0) ae (fun _ _=>rfl)) ae (aH _)) (@af _ _ _ _ _ (@aG _ _ 2 _ _ _ _ nd rfl (Or.inl rfl) (@aF _ _ _ _ _ _ _ _ dJ (@ay _ _ _ _ _ _ _ ix_list (pv 0) ae (fun _ _=>rfl)) (pv 1)) rfl (Or.inl rfl)) (@af _ _ _ _ _ (@cg _ _ _ _ _ _ (@aF _ _ _ _ _ _ _ _ iQ (@ay _ _ _ _ _ _ _ ix_list (pv 0) ae (fun _ _=>rfl)) (pv 1)) (jB (pv 0) ae fK) rfl rfl rfl) (@ah _ _ _ (@av _ _ _ _ (pv 2))))) aB) (@af _ _ _ _ _ (@cg _ _ _ _ _ _ (@aF _ _ _ _ _ _ _ _ dJ (@aF _ _ _ _ _ _ _ _ aT (@aF _ _ _ _ _ _ _ _ eQ (@ay _ _ _ _ _ _ _ ix_list (pv 0) ae (fun _ _=>rfl)) ae) ae) ae) (jB (pv 0) ae fK) rfl rfl rfl) (@ah _ _ _ (@av _ _ _ _ (@aF _ _ _ _ _ _ _ _ dJ (@aF _ _ _ _ _ _ _ _ iQ (@aF _ _ _ _ _ _ _ _ dJ (@aF _ _ _ _ _ _ _ _ eQ (@ay _ _ _ _ _ _ _ ix_list (pv 0) ae (fun _ _=>rfl)) (@ay _ _ _ _ _ _ _ ix_list (pv 0) ae (fun _ _=>rfl))) ae) ae) (pv 1)))))),?_⟩
 have at0:atI [V.int a,V.int b] 0=some (.int a):=rfl
 have at1:atI [V.int a,V.int b] 1=some (.int b):=rfl
 refine ⟨_,rfl,p,_,_,_,rfl,rfl,SqL.of hp,at0,_,_,rfl,rfl,_,rfl,?_⟩
 refine bQ (fun c=>?_) (fun c=>?_)
 ·have c':0 < a:=of_decide_eq_true c
  refine ⟨_,rfl,p,_,_,_,rfl,rfl,SqL.of hp,at0,_,rfl,_,_,rfl,rfl,m0,?_⟩
  refine ⟨_,rfl,p,_,_,_,rfl,rfl,SqL.of hp,at0,_,rfl,_,_,rfl,rfl,⟨m0,m1⟩,_,rfl,p,_,_,_,rfl,rfl,hp,rfl,?_⟩
  refine ⟨_,rfl,q _ _ (Int.emod_nonneg _ (by omega)) (Int.emod_lt_of_pos _ m0) ⟨a / m,b,Int.ediv_nonneg a0 (by omega),b0,b1,ag⟩ But.upd⟩
 ·refine ⟨_,rfl,p,_,_,_,rfl,rfl,SqL.of hp,at1,_,_,rfl,rfl,.inr ⟨by decide,by decide⟩,_,_,rfl,rfl,_,_,rfl,rfl,(by show (0:Int) < 2147483629; decide),_,rfl,p,_,_,_,rfl,rfl,hp,rfl,?_⟩
  have n0:0≤(b * 39373 + 7919) % 2147483629:=Int.emod_nonneg _ (by decide)
  have n1:(b * 39373 + 7919) % 2147483629 < 2147483629:=Int.emod_lt_of_pos _ (by decide)
  refine ⟨_,rfl,p,_,_,_,rfl,rfl,SqL.of ag,rfl,_,rfl,p,_,_,_,rfl,rfl,SqL.of ag,rfl,_,_,rfl,rfl,.inl ⟨by omega,by omega⟩,_,_,rfl,rfl,(by show (0:Int) < 2147483563; decide),_,_,rfl,rfl,⟨by decide,by decide⟩,_,rfl,_,_,rfl,rfl,m0,?_⟩
  exact q _ _ (Int.emod_nonneg _ (by omega)) (Int.emod_lt_of_pos _ m0) ⟨a,_,a0,n0,by omega,ag⟩ But.upd
theorem scunit:FnScope ["_law_pot_here","_law_some"] ["_law_pot_here"] (defScope jk):=⟨rfl,rfl,rfl,by decide +kernel,rfl,by decide +kernel,by decide +kernel⟩
theorem qR {f:Addr} {fd:FuncData} (F:Fun K "_law_unit" "_law_unit" jk f fd) (B:Blt mg) (DD:Dn P w K mg base "_law_take" ["_law_pot_here","_law_many"] 1 (cG)):FnOk P w K mg base CX0 2 f fd ["_law_pot_here"] (kh):=by
 refine F.ok scunit (fun vs H Q E h=>?_) (fun cdv A outer s H vs Q E hr h=>?_)
 ·obtain ⟨p,rfl,_⟩:=h
  rfl
 obtain ⟨p,rfl,pt,q⟩:=h
 have nd:=scunit.nd
 refine ⟨_,(@af _ _ _ _ _ (@aG _ _ 1 _ _ _ _ nd rfl (Or.inl rfl) (@aR _ _ _ _ (@aa _ _ _ _ _ ae (@aa _ _ _ _ _ ae (@aa _ _ _ _ _ (@aF _ _ _ _ _ _ _ _ aT ae (@ar _ _ _ _ _ _ _ _ _ _ DD hr rfl (@aa _ _ _ _ _ (pv 0) (@aa _ _ _ _ _ (@aF _ _ _ _ _ _ _ _ dL ae ae) ad rfl) rfl) (by decide) rfl rfl)) (@aa _ _ _ _ _ (@aF _ _ _ _ _ _ _ _ aT (@aF _ _ _ _ _ _ _ _ dL ae ae) (@ar _ _ _ _ _ _ _ _ _ _ DD hr rfl (@aa _ _ _ _ _ (pv 0) (@aa _ _ _ _ _ (@aF _ _ _ _ _ _ _ _ dL ae ae) ad rfl) rfl) (by decide) rfl rfl)) ad rfl) rfl) rfl) rfl)) rfl (Or.inl rfl)) (@ah _ _ _ (@av _ _ _ _ (@ay _ _ _ _ _ _ _ ix_list (pv 1) (@ar _ _ _ _ _ _ _ _ _ _ DD hr rfl (@aa _ _ _ _ _ (pv 0) (@aa _ _ _ _ _ ae ad rfl) rfl) (by decide) rfl rfl) (fun _ _=>rfl))))),?_⟩
 have e56:(10:Int) ^ (56:Int).toNat=10 ^ 56:=rfl
 have e66:(10:Int) ^ 6 < 10 ^ 56:=by decide
 refine aj (fun σ' H'=>∃ (l:Addr) (c d:Int),σ'=[some (.ref p),some (.ref l)]∧l≠p∧H' l=some (.lst [.int 1,.int 1,.int c,.int d])∧1≤c∧c < 2 * 10 ^ 56∧1≤d∧d < 2 * 10 ^ 56∧PotC H' p∧But p H H') (fun R hR=>?_) ?_
 ·refine ⟨_,rfl,_,_,rfl,rfl,⟨by decide,by decide,by decide⟩,p,_,rfl,pt,(by show (0:Int) < 10 ^ (6:Int).toNat; decide),(by show (10:Int) ^ (6:Int).toNat≤10 ^ 60; decide),fun r H1 r0 r1 pt1 b1=>⟨_,_,rfl,rfl,_,_,rfl,rfl,⟨by decide,by decide,by decide⟩,_,rfl,_,_,rfl,rfl,⟨by decide,by decide,by decide⟩,p,_,rfl,pt1,(by show (0:Int) < 10 ^ (56:Int).toNat; decide),(by show (10:Int) ^ (56:Int).toNat≤10 ^ 60; decide),fun r2 H2 r20 r21 pt2 b2=>⟨_,_,rfl,rfl,(by show 4≤sizeLine; decide),fun l hl=>?_⟩⟩⟩
  have r1:r < 10 ^ 6:=r1
  rw [e56] at r21
  obtain ⟨H3,e3,k3,n3,s3,b3,pt3⟩:=aW (o:=.lst [.int 1,.int 1,.int (1 + r),.int (10 ^ (56:Int).toNat + r2)]) (b1.trans b2) pt2 hl
  rw [show upd H2 l _=H3 from e3]
  exact hR _ _ ⟨l,_,_,rfl,n3,k3,by omega,by omega,by rw [e56]; omega,by rw [e56]; omega,pt3,b3⟩
 rintro _ H1 ⟨l,c,d,rfl,nlp,hl1,c0,c1,d0,d1,pt1,b1⟩
 refine ⟨_,rfl,_,rfl,p,4,rfl,pt1,by decide,by decide,fun r H2 r0 r1 pt2 b2=>?_⟩
 have hl2:=b2 _ _ nlp hl1
 have one:(1:Int) < 2 * 10 ^ 56:=by decide
 obtain ⟨x,hx,x0,x1⟩:∃x:Int,atI [V.int 1,V.int 1,V.int c,V.int d] r=some (.int x)∧1≤x∧x < 2 * 10 ^ 56:=by
  have:r=0∨r=1∨r=2∨r=3:=by omega
  rcases this with rfl | rfl | rfl | rfl
  ·exact ⟨1,rfl,by decide,one⟩
  ·exact ⟨1,rfl,by decide,one⟩
  ·exact ⟨c,rfl,c0,c1⟩
  ·exact ⟨d,rfl,d0,d1⟩
 exact ⟨l,_,_,_,rfl,rfl,SqL.of hl2,hx,q x H2 x0 x1 pt2 (b1.trans b2)⟩
theorem scsidecc:FnScope ["_law_pot_here","_law_unit_here","_law_most"] ["_law_pot_here","_law_unit_here","_law_most"] (defScope jl):=⟨rfl,rfl,rfl,by decide +kernel,rfl,by decide +kernel,by decide +kernel⟩
theorem mH {f:Addr} {fd:FuncData} (F:Fun K "_law_side" "_law_side" jl f fd) (B:Blt mg) (DD:Dn P w K mg base "_law_take" ["_law_pot_here","_law_many"] 1 (cG)):FnOk P w K mg base CX0 2 f fd ["_law_pot_here","_law_unit_here","_law_most"] (fD):=by
 refine F.ok scsidecc (fun vs H Q E h=>?_) (fun cdv A outer s H vs Q E hr h=>?_)
 ·obtain ⟨p,u,m,rfl,_⟩:=h
  rfl
 obtain ⟨p,u,m,rfl,pt,u0,u1,m1,m40,q⟩:=h
 have nd:=scsidecc.nd
 refine ⟨_,(@af _ _ _ _ _ (@aN _ _ _ _ _ _ _ _ (@aI _ _ _ _ _ _ _ _ fH (@ar _ _ _ _ _ _ _ _ _ _ DD hr rfl (@aa _ _ _ _ _ (pv 0) (@aa _ _ _ _ _ ae ad rfl) rfl) (by decide) rfl rfl) ae (aH _)) (@ah _ _ _ (@av _ _ _ _ (@aF _ _ _ _ _ _ _ _ eQ (pv 1) (@aF _ _ _ _ _ _ _ _ aT ae (@ar _ _ _ _ _ _ _ _ _ _ DD hr rfl (@aa _ _ _ _ _ (pv 0) (@aa _ _ _ _ _ (pv 2) ad rfl) rfl) (by decide) rfl rfl))))) aB) (@ah _ _ _ (@av _ _ _ _ (@aF _ _ _ _ _ _ _ _ aT ae (@ar _ _ _ _ _ _ _ _ _ _ DD hr rfl (@aa _ _ _ _ _ (pv 0) (@aa _ _ _ _ _ (@aF _ _ _ _ _ _ _ _ eQ (pv 2) (pv 1)) ad rfl) rfl) (by decide) rfl rfl))))),?_⟩
 have e58:40 * (2 * 10 ^ 56) < (10:Int) ^ 58:=by decide
 have e60:40 * (2 * 10 ^ 56) < (10:Int) ^ 60:=by decide
 have mu:m * u≤40 * (2 * 10 ^ 56):=Int.mul_le_mul m40 (Int.le_of_lt u1) (by omega) (by decide)
 have mu1:1≤m * u:=by have:=Int.mul_le_mul m1 u0 (by decide) (by omega); omega
 refine aj (fun σ' H'=>σ'=[some (.ref p),some (.int u),some (.int m)]∧PotC H' p∧But p H H') (fun R hR=>?_) ?_
 ·refine ⟨_,rfl,p,2,rfl,pt,by decide,by decide,fun z H1 z0 z1 pt1 b1=>⟨rfl,_,rfl,?_⟩⟩
  refine bQ (fun cc=>?_) (fun cc=>hR _ _ ⟨rfl,pt1,b1⟩)
  refine ⟨_,rfl,_,rfl,_,rfl,p,m,rfl,pt1,by omega,by omega,fun r H2 r0 r1 pt2 b2=>⟨_,_,rfl,rfl,_,_,rfl,rfl,.inr ⟨by omega,by omega⟩,q _ H2 ?_ ?_ pt2 (b1.trans b2)⟩⟩
  ·have:=Int.mul_le_mul u0 (show (1:Int)≤1 + r by omega) (by decide) (by omega)
   omega
  ·have:u * (1 + r)≤u * m:=Int.mul_le_mul_of_nonneg_left (by omega) (by omega)
   rw [Int.mul_comm u m] at this
   omega
 rintro _ H1 ⟨rfl,pt1,b1⟩
 exact ⟨_,rfl,_,rfl,_,rfl,_,_,rfl,rfl,.inl ⟨by omega,by omega⟩,p,m * u,rfl,pt1,by omega,by omega,fun r H2 r0 r1 pt2 b2=>⟨_,_,rfl,rfl,q _ H2 (by omega) (by omega) pt2 (b1.trans b2)⟩⟩
theorem scworthc:FnScope ["_law_pot_here","_law_some"] ["_law_pot_here"] (defScope gh):=⟨rfl,rfl,rfl,by decide +kernel,rfl,by decide +kernel,by decide +kernel⟩
theorem mI {f:Addr} {fd:FuncData} (F:Fun K "_law_worth" "_law_worth" gh f fd) (B:Blt mg) (DD:Dn P w K mg base "_law_take" ["_law_pot_here","_law_many"] 1 (cG)):FnOk P w K mg base CX0 2 f fd ["_law_pot_here"] (gn):=by
 refine F.ok scworthc (fun vs H Q E h=>?_) (fun cdv A outer s H vs Q E hr h=>?_)
 ·obtain ⟨p,rfl,_⟩:=h
  rfl
 obtain ⟨p,rfl,pt,q⟩:=h
 have nd:=scworthc.nd
 refine ⟨_,(@af _ _ _ _ _ (@aG _ _ 1 _ _ _ _ nd rfl (Or.inl rfl) (@aR _ _ _ _ (@aa _ _ _ _ _ (@ar _ _ _ _ _ _ _ _ _ _ DD hr rfl (@aa _ _ _ _ _ (pv 0) (@aa _ _ _ _ _ ae ad rfl) rfl) (by decide) rfl rfl) (@aa _ _ _ _ _ (@ar _ _ _ _ _ _ _ _ _ _ DD hr rfl (@aa _ _ _ _ _ (pv 0) (@aa _ _ _ _ _ (@aF _ _ _ _ _ _ _ _ dL ae ae) ad rfl) rfl) (by decide) rfl rfl) (@aa _ _ _ _ _ (@aF _ _ _ _ _ _ _ _ de (@aF _ _ _ _ _ _ _ _ de (@aF _ _ _ _ _ _ _ _ dL ae ae) ae) (@ar _ _ _ _ _ _ _ _ _ _ DD hr rfl (@aa _ _ _ _ _ (pv 0) (@aa _ _ _ _ _ ae ad rfl) rfl) (by decide) rfl rfl)) ad rfl) rfl) rfl)) rfl (Or.inl rfl)) (@ah _ _ _ (@av _ _ _ _ (@ay _ _ _ _ _ _ _ ix_list (pv 1) (@ar _ _ _ _ _ _ _ _ _ _ DD hr rfl (@aa _ _ _ _ _ (pv 0) (@aa _ _ _ _ _ ae ad rfl) rfl) (by decide) rfl rfl) (fun _ _=>rfl))))),?_⟩
 have e60:(10:Int) ^ (60:Int).toNat=10 ^ 60:=rfl
 have e100:(100:Int) < 10 ^ 60:=by decide
 refine aj (fun σ' H'=>∃ (l:Addr) (c d e:Int),σ'=[some (.ref p),some (.ref l)]∧l≠p∧H' l=some (.lst [.int c,.int d,.int e])∧0≤c∧c < 10 ^ 60∧0≤d∧d < 10 ^ 60∧0≤e∧e < 10 ^ 60∧PotC H' p∧But p H H') (fun R hR=>?_) ?_
 ·refine ⟨_,rfl,p,10,rfl,pt,by decide,by decide,fun r H1 r0 r1 pt1 b1=>⟨_,rfl,_,_,rfl,rfl,⟨by decide,by decide,by decide⟩,p,_,rfl,pt1,(by show (0:Int) < 10 ^ (60:Int).toNat; decide),(by show (10:Int) ^ (60:Int).toNat≤10 ^ 60; decide),fun r2 H2 r20 r21 pt2 b2=>⟨_,_,rfl,rfl,⟨by decide,by decide,by decide⟩,_,_,rfl,rfl,_,rfl,p,10,rfl,pt2,by decide,by decide,fun r3 H3 r30 r31 pt3 b3=>⟨_,_,rfl,rfl,(by show 3≤sizeLine; decide),fun l hl=>?_⟩⟩⟩⟩
  rw [e60] at r21
  obtain ⟨H4,e4,k4,n4,s4,b4,pt4⟩:=aW (o:=.lst [.int r,.int r2,.int (10 ^ (60:Int).toNat - 1 - r3)]) (b1.trans (b2.trans b3)) pt3 hl
  rw [show upd H3 l _=H4 from e4]
  exact hR _ _ ⟨l,_,_,_,rfl,n4,k4,r0,by omega,r20,r21,by rw [e60]; omega,by rw [e60]; omega,pt4,b4⟩
 rintro _ H1 ⟨l,c,d,e,rfl,nlp,hl1,c0,c1,d0,d1,e0,e1,pt1,b1⟩
 refine ⟨_,rfl,_,rfl,p,3,rfl,pt1,by decide,by decide,fun r H2 r0 r1 pt2 b2=>?_⟩
 have hl2:=b2 _ _ nlp hl1
 obtain ⟨x,hx,x0,x1⟩:∃x:Int,atI [V.int c,V.int d,V.int e] r=some (.int x)∧0≤x∧x < 10 ^ 60:=by
  have:r=0∨r=1∨r=2:=by omega
  rcases this with rfl | rfl | rfl
  ·exact ⟨c,rfl,c0,c1⟩
  ·exact ⟨d,rfl,d0,d1⟩
  ·exact ⟨e,rfl,e0,e1⟩
 exact ⟨l,_,_,_,rfl,rfl,SqL.of hl2,hx,q x H2 x0 x1 pt2 (b1.trans b2)⟩
end
def LS (H:Hp) (t:Addr) (b:Int) (ks:List Kd) (kl:Addr):Prop:=∃rs,H t=some (.tup [.int b,.ref kl])∧H kl=some (.lst rs)∧Tups H rs ks
theorem LS.same {H H':Hp} {t kl:Addr} {b:Int} {ks:List Kd} (x:LS H t b ks kl) (s:Same H H'):LS H' t b ks kl:=by
 obtain ⟨rs,h1,h2,h3⟩:=x
 exact ⟨rs,s _ _ h1,s _ _ h2,Tups.keep (fun c xs e=>s _ _ e) h3⟩
theorem LS.but {p:Addr} {H H':Hp} {t kl:Addr} {b:Int} {ks:List Kd} (x:LS H t b ks kl) (n:kl≠p) (pt:PotC H p) (bt:But p H H'):LS H' t b ks kl:=by
 obtain ⟨rs,h1,h2,h3⟩:=x
 exact ⟨rs,fh bt pt h1,bt _ _ n h2,si bt pt h3⟩
def LyC (H:Hp) (v:V) (q:Nat×Bool):Prop:=∃a,v=.ref a∧H a=some (.tup [.int q.1,.bl q.2])
theorem LyC.keep {H H':Hp} (k:∀a xs,H a=some (.tup xs)→H' a=some (.tup xs)) {v:V} {q:Nat×Bool} (h:LyC H v q):LyC H' v q:=by
 obtain ⟨a,e,h⟩:=h
 exact ⟨a,e,k _ _ h⟩
structure Pq where
 k:Nat
 c:Bool
 x:Int
 y:Int
def pqV (p:Pq):List V:=[.int p.k,.bl p.c,.int p.x,.int p.y]
structure Bx where
 a:Int
 b:Int
 c:Int
 d:Int
def bxV (x:Bx):List V:=[.int x.a,.int x.b,.int x.c,.int x.d]
def ki (k:Kd) (p:Pq):Bx:=⟨p.x,p.y,p.x + sd1 k p.c,p.y + sd2 k p.c⟩
def apB (o r:Bx):Bool:=decide (o.c≤r.a) || decide (r.c≤o.a) || decide (o.d≤r.b) || decide (r.d≤o.b)
def Sq (H:Hp) (a:Addr) (xs:List V):Prop:=H a=some (.lst xs)∨H a=some (.tup xs)
theorem Sq.same {H H':Hp} {a:Addr} {xs:List V} (h:Sq H a xs) (s:Same H H'):Sq H' a xs:=h.imp (fun e=>s _ _ e) (fun e=>s _ _ e)
theorem ixS {K:PySem.W.Frag} {H:Hp} {a:Addr} {xs:List V} {i:Int} {v:V} {R:VK} (h:Sq H a xs) (e:atI xs i=some v) (r:R v H):rIx K (.ref a) (.int i) H R :=
 h.elim (fun z=>.inl ⟨a,xs,i,v,rfl,rfl,SqL.of z,e,r⟩) (fun z=>.inr (.inl ⟨a,xs,i,v,rfl,rfl,SqT.of z,e,r⟩))
theorem jp {α β:Type} {R:α→β→Prop}:∀ {xs:List α} {ys:List β} {xs':List α} {ys':List β},Paired R xs ys→Paired R xs' ys'→Paired R (xs ++ xs') (ys ++ ys')
 | _,_,_,_,.nil,h=>h
 | _,_,_,_,.cons a r,h=>.cons a (jp r h)
section
variable {P:Program} {w:World} {K:PySem.W.Frag} {mg:Str→Option Value} {base:Heap}
def ir:Sp:=fun vs H Q _=>∃ (p:Addr) (u:Int),vs=[.ref p,.int u]∧PotC H p∧1≤u∧u < 2 * 10 ^ 56∧∀ (t kl:Addr) (b:Int) (ks:List Kd) (H':Hp),LS H' t b ks kl→kl≠p→H kl=none→(∀k∈ks,Good k)→1≤ks.length→ks.length≤8→0≤b→b < 10 ^ 60→PotC H' p→But p H H'→Q (.ref t) H'
def gq:Sp:=fun vs H Q _=>∃ (t kl:Addr) (b:Int) (ks:List Kd) (i:Nat) (c:Bool) (k:Kd),vs=[.ref t,.int i,.bl c]∧LS H t b ks kl∧ks[i]? = some k∧∀ (r:Addr) (H':Hp),H' r=some (.tup [.int (sd1 k c),.int (sd2 k c)])→Same H H'→Q (.ref r) H'
def dD:Sp:=fun vs H Q _=>∃ (t kl:Addr) (b:Int) (ks:List Kd),vs=[.ref t]∧LS H t b ks kl∧ks.length≤8∧∀ (l:Addr) (ys:List V) (H':Hp),H' l=some (.lst ys)→H l=none→Paired (LyC H') ys (lyK ks 0)→Same H H'→Q (.ref l) H'
def lQ:Sp:=fun vs H Q _=>∃ (t kl a:Addr) (b:Int) (ks:List Kd) (p:Pq) (k:Kd),vs=[.ref t,.ref a]∧LS H t b ks kl∧Sq H a (pqV p)∧ks[p.k]? = some k∧∀ (r:Addr) (H':Hp),H' r=some (.tup (bxV (ki k p)))→Same H H'→Q (.ref r) H'
def iu:Sp:=fun vs H Q _=>∃ (a1 a2:Addr) (o r:Bx),vs=[.ref a1,.ref a2]∧H a1=some (.tup (bxV o))∧H a2=some (.tup (bxV r))∧Q (.bl (apB o r)) H
theorem scshopc:FnScope ["_law_pot_here","_law_unit_here","_law_blade","_law_kinds","_law_k","_law_wide","_law_high"] ["_law_pot_here","_law_unit_here"] (defScope jm):=⟨rfl,rfl,rfl,by decide +kernel,rfl,by decide +kernel,by decide +kernel⟩
theorem oX {f:Addr} {fd:FuncData} (F:Fun K "_law_shop" "_law_shop" jm f fd) (B:Blt mg) (DD:Dn P w K mg base "_law_take" ["_law_pot_here","_law_many"] 1 (cG)) (DSi:Dn P w K mg base "_law_side" ["_law_pot_here","_law_unit_here","_law_most"] 2 (fD)) (DWo:Dn P w K mg base "_law_worth" ["_law_pot_here"] 2 (gn)):FnOk P w K mg base CX0 3 f fd ["_law_pot_here","_law_unit_here"] (ir):=by
 refine F.ok scshopc (fun vs H Q E h=>?_) (fun cdv A outer s H vs Q E hr h=>?_)
 ·obtain ⟨p,u,rfl,_⟩:=h
  rfl
 obtain ⟨p,u,rfl,pt,u0,u1,q⟩:=h
 have nd:=scshopc.nd
 refine ⟨_,(@af _ _ _ _ _ (@aG _ _ 2 _ _ _ _ nd rfl (Or.inl rfl) (@ay _ _ _ _ _ _ _ ix_list (@aR _ _ _ _ (@aa _ _ _ _ _ ae (@aa _ _ _ _ _ (pv 1) (@aa _ _ _ _ _ (@ar _ _ _ _ _ _ _ _ _ _ DD (hr.mono (by decide)) rfl (@aa _ _ _ _ _ (pv 0) (@aa _ _ _ _ _ ae ad rfl) rfl) (by decide) rfl rfl) (@aa _ _ _ _ _ (@ar _ _ _ _ _ _ _ _ _ _ DD (hr.mono (by decide)) rfl (@aa _ _ _ _ _ (pv 0) (@aa _ _ _ _ _ (@aF _ _ _ _ _ _ _ _ aT (@aF _ _ _ _ _ _ _ _ eQ ae (pv 1)) ae) ad rfl) rfl) (by decide) rfl rfl) ad rfl) rfl) rfl) rfl)) (@ar _ _ _ _ _ _ _ _ _ _ DD (hr.mono (by decide)) rfl (@aa _ _ _ _ _ (pv 0) (@aa _ _ _ _ _ ae ad rfl) rfl) (by decide) rfl rfl) (fun _ _=>rfl)) rfl (Or.inl rfl)) (@af _ _ _ _ _ (@aG _ _ 3 _ _ _ _ nd rfl (Or.inl rfl) (@aR _ _ _ _ ad) rfl (Or.inl rfl)) (@af _ _ _ _ _ (@ci _ _ _ _ _ _ _ _ PassesOwn.never rfl (eM rfl B.range (@aa _ _ _ _ _ (@aF _ _ _ _ _ _ _ _ aT ae (@ar _ _ _ _ _ _ _ _ _ _ DD (hr.mono (by decide)) rfl (@aa _ _ _ _ _ (pv 0) (@aa _ _ _ _ _ ae ad rfl) rfl) (by decide) rfl rfl)) ad rfl)) (aw (i:=4) nd rfl (Or.inl rfl)) (@af _ _ _ _ _ (@aG _ _ 5 _ _ _ _ nd rfl (Or.inl rfl) (@ar _ _ _ _ _ _ _ _ _ _ DSi hr rfl (@aa _ _ _ _ _ (pv 0) (@aa _ _ _ _ _ (pv 1) (@aa _ _ _ _ _ ae ad rfl) rfl) rfl) (by decide) rfl rfl) rfl (Or.inl rfl)) (@af _ _ _ _ _ (@aG _ _ 6 _ _ _ _ nd rfl (Or.inl rfl) (@ay _ _ _ _ _ _ _ ix_list (@aR _ _ _ _ (@aa _ _ _ _ _ (pv 5) (@aa _ _ _ _ _ (@ar _ _ _ _ _ _ _ _ _ _ DSi hr rfl (@aa _ _ _ _ _ (pv 0) (@aa _ _ _ _ _ (pv 1) (@aa _ _ _ _ _ ae ad rfl) rfl) rfl) (by decide) rfl rfl) ad rfl) rfl)) (@bA _ _ _ _ _ _ _ _ _ eU rfl B.int PyProof.Rows.boot_int (@aa _ _ _ _ _ (@bz _ _ _ _ _ _ _ _ iI (@ar _ _ _ _ _ _ _ _ _ _ DD (hr.mono (by decide)) rfl (@aa _ _ _ _ _ (pv 0) (@aa _ _ _ _ _ ae ad rfl) rfl) (by decide) rfl rfl) ae (aH _)) ad rfl) (by decide) (by decide) rfl rfl) (fun _ _=>rfl)) rfl (Or.inl rfl)) (@ah _ _ _ (@ce _ _ _ _ (@dZ _ _ _ _ _ _ _ _ _ _ _ _ PySem.F.plainAttrs_list PySem.F.slot_list_append PySem.F.type_list_append bP (pv 3) (@aa _ _ _ _ _ (@aO _ _ _ _ _ (@aa _ _ _ _ _ (pv 5) (@aa _ _ _ _ _ (pv 6) (@aa _ _ _ _ _ (@ar _ _ _ _ _ _ _ _ _ _ DWo hr rfl (@aa _ _ _ _ _ (pv 0) ad rfl) (by decide) rfl rfl) (@aa _ _ _ _ _ (@ar _ _ _ _ _ _ _ _ _ _ DWo hr rfl (@aa _ _ _ _ _ (pv 0) ad rfl) (by decide) rfl rfl) (@aa _ _ _ _ _ (@bz _ _ _ _ _ _ _ _ fH (@ar _ _ _ _ _ _ _ _ _ _ DD (hr.mono (by decide)) rfl (@aa _ _ _ _ _ (pv 0) (@aa _ _ _ _ _ ae ad rfl) rfl) (by decide) rfl rfl) ae (aH _)) ad rfl) rfl) rfl) rfl) rfl)) ad rfl) rfl rfl rfl rfl rfl) rfl)))) (by intro _; rfl)) (@ah _ _ _ (@av _ _ _ _ (@aO _ _ _ _ _ (@aa _ _ _ _ _ (pv 2) (@aa _ _ _ _ _ (pv 3) ad rfl) rfl))))))),?_⟩
 have e60:(100:Int) < 10 ^ 60:=by decide
 have e58:(10:Int) ^ 58 < 10 ^ 60:=by decide
 have e57:2 * (2 * 10 ^ 56) + 1 < (10:Int) ^ 60:=by decide
 have sz:(100:Nat) < sizeLine:=by decide
 refine aj (fun σ' H'=>∃b:Int,σ'=[some (.ref p),some (.int u),some (.int b),none,none,none,none]∧0≤b∧b < 10 ^ 60∧PotC H' p∧But p H H') (fun R hR=>?_) ?_
 ·refine ⟨_,rfl,_,rfl,p,3,rfl,pt,by decide,by decide,fun r1 H1 r10 r11 pt1 b1=>⟨_,rfl,_,rfl,_,_,rfl,rfl,.inl ⟨by decide,by decide⟩,_,_,rfl,rfl,p,_,rfl,pt1,by omega,by omega,fun r2 H2 r20 r21 pt2 b2=>⟨(by show 4≤sizeLine; decide),fun l hl=>?_⟩⟩⟩
  obtain ⟨H3,e3,k3,n3,s3,b3,pt3⟩:=aW (o:=.lst [.int 0,.int u,.int r1,.int r2]) (b1.trans b2) pt2 hl
  rw [show upd H2 l _=H3 from e3]
  refine ⟨_,rfl,p,4,rfl,pt3,by decide,by decide,fun r H4 r0 r1' pt4 b4=>?_⟩
  have hl4:=b4 _ _ n3 k3
  obtain ⟨x,hx,x0,x1⟩:∃x:Int,atI [V.int 0,V.int u,V.int r1,V.int r2] r=some (.int x)∧0≤x∧x < 10 ^ 60:=by
   have:r=0∨r=1∨r=2∨r=3:=by omega
   rcases this with rfl | rfl | rfl | rfl
   ·exact ⟨0,rfl,by decide,by omega⟩
   ·exact ⟨u,rfl,by omega,by omega⟩
   ·exact ⟨r1,rfl,r10,by omega⟩
   ·exact ⟨r2,rfl,r20,by omega⟩
  exact ⟨l,_,_,_,rfl,rfl,SqL.of hl4,hx,hR _ _ ⟨x,rfl,x0,x1,pt4,b3.trans b4⟩⟩
 rintro _ H1 ⟨b,rfl,b0,b1',pt1,b1⟩
 refine aj (fun σ' H'=>∃l:Addr,σ'=[some (.ref p),some (.int u),some (.int b),some (.ref l),none,none,none]∧l≠p∧H1 l=none∧H' l=some (.lst [])∧PotC H' p∧But p H H') (fun R hR=>?_) ?_
 ·refine ⟨by decide,fun l hl=>?_⟩
  obtain ⟨H2,e2,k2,n2,s2,b2,pt2⟩:=aW (o:=.lst []) b1 pt1 hl
  rw [show upd H1 l _=H2 from e2]
  exact hR _ _ ⟨l,rfl,n2,hl,k2,pt2,b2⟩
 rintro _ H2 ⟨l,rfl,nlp,hl1,hl2,pt2,b2⟩
 have hl0:H l=none:=(b1.freeC pt1 hl1).2
 refine aj (fun σ' H'=>(∃ (v4 v5 v6:Option V) (rs:List V) (ks:List Kd),σ'=[some (.ref p),some (.int u),some (.int b),some (.ref l),v4,v5,v6]∧H' l=some (.lst rs)∧Tups H' rs ks∧(∀k∈ks,Good k)∧(1≤rs.length∧rs.length≤8)∧PotC H' p∧But p H H')) (fun R hR=>?_) ?_
 ·refine ⟨_,rfl,p,8,rfl,pt2,by decide,by decide,fun m H3 m0 m1 pt3 b3=>⟨_,_,rfl,rfl,_,rfl,by omega,by omega,?_⟩⟩
  refine eO (n:=(1 + m).toNat) (fun i σ' H'=>(∃ (v4 v5 v6:Option V) (rs:List V) (ks:List Kd),σ'=[some (.ref p),some (.int u),some (.int b),some (.ref l),v4,v5,v6]∧H' l=some (.lst rs)∧Tups H' rs ks∧(∀k∈ks,Good k)∧rs.length=i∧PotC H' p∧But p H H')) ⟨_,_,_,[],[],rfl,b3 _ _ nlp hl2,.nil,fun k hk=>by simp at hk,rfl,pt3,b2.trans b3⟩ ?_ ?_
  ·rintro i _ H4 hi ⟨v4,v5,v6,rs,ks,rfl,hl4,tp4,gk4,rl4,pt4,bt4⟩
   refine ⟨_,rfl,_,rfl,p,u,6,rfl,pt4,u0,u1,by decide,by decide,fun w1 H5 w0 w1' pt5 b5=>?_⟩
   refine ⟨_,rfl,_,rfl,_,rfl,p,u,6,rfl,pt5,u0,u1,by decide,by decide,fun h1 H6 h0 h1' pt6 b6=>⟨(by show 2≤sizeLine; decide),fun l2 hl2'=>?_⟩⟩
   obtain ⟨H7,e7,k7,n7,s7,b7,pt7⟩:=aW (o:=.lst [.int w1,.int h1]) (b5.trans b6) pt6 hl2'
   rw [show upd H6 l2 _=H7 from e7]
   refine ⟨_,rfl,p,5,rfl,pt7,by decide,by decide,fun z H8 z0 z1 pt8 b8=>⟨_,_,rfl,rfl,.inr ⟨_,rfl,?_⟩⟩⟩
   have l28:=b8 _ _ n7 k7
   obtain ⟨nn,hnn,nn0,nn1⟩:∃nn:Int,atI [V.int w1,V.int h1] (if decide (0 < z)=true then (1:Int) else 0)=some (.int nn)∧1≤nn∧nn < 10 ^ 58:=by
    by_cases c:(0:Int) < z
    ·exact ⟨h1,by rw [decide_eq_true c]; rfl,h0,h1'⟩
    ·exact ⟨w1,by rw [decide_eq_false c]; rfl,w0,w1'⟩
   refine ⟨l2,_,_,_,rfl,rfl,SqL.of l28,hnn,?_⟩
   have b48:=b7.trans b8
   have hl8:=b48 _ _ nlp hl4
   refine ⟨_,rfl,.inl ⟨rfl,_,SqL.of hl8⟩,_,rfl,_,rfl,_,rfl,p,rfl,pt8,fun wo H9 wo0 wo1 pt9 b9=>?_⟩
   refine ⟨_,rfl,p,rfl,pt9,fun wa Ha wa0 wa1 pta ba=>?_⟩
   refine ⟨_,rfl,p,2,rfl,pta,by decide,by decide,fun tu Hb tu0 tu1 ptb bb=>⟨rfl,(by show 5≤sizeLine; decide),fun t ht=>?_⟩⟩
   have b4b:=b48.trans (b9.trans (ba.trans bb))
   obtain ⟨H12,e12,k12,n12,s12,b12,pt12⟩:=aW (o:=.tup [.int w1,.int nn,.int wo,.int wa,.bl (decide (V.int tu=V.int 0))]) (bt4.trans b4b) ptb ht
   rw [show upd Hb t _=H12 from e12]
   have k12:H12 t=some (.tup (kdV ⟨w1,nn,wo,wa,decide (V.int tu=V.int 0)⟩)):=k12
   have hlc:=s12 _ _ (b4b _ _ nlp hl4)
   refine ⟨l,_,_,rfl,rfl,hlc,(by have:i < (1 + m).toNat:=hi; omega),?_⟩
   have kt:∀ {c:Addr} {xs:List V},H12 c=some (.tup xs)→(upd H12 l (.lst (rs ++ [.ref t]))) c=some (.tup xs):=fun {c xs} e=>by
    rw [au (fun z=>by rw [z,hlc] at e; cases e)]; exact e
   refine ⟨_,_,_,rs ++ [.ref t],ks ++ [⟨w1,nn,wo,wa,decide (V.int tu=V.int 0)⟩],rfl,ag,?_,fun k hk=>?_,by rw [List.length_append,rl4]; rfl,pt12.put (Ne.symm nlp),fun c o n e=>?_⟩
   ·exact jp (Tups.keep (fun c xs e=>kt (s12 _ _ e)) (si b4b pt4 tp4)) (.cons ⟨t,rfl,kt k12⟩ .nil)
   ·rcases List.mem_append.mp hk with hk | hk
    ·exact gk4 k hk
    ·rw [List.mem_singleton.mp hk]
     exact ⟨by show (1:Int)≤w1; omega,by show (1:Int)≤nn; omega,wo0,wa0,by show w1 < _; omega,by show nn < _; omega,wo1,wa1⟩
   ·rw [au (fun z=>by rw [z,hl0] at e; cases e)]
    exact b12 _ _ n e
  ·rintro _ H4 ⟨v4,v5,v6,rs,ks,rfl,hl4,tp4,gk4,rl4,pt4,bt4⟩
   exact hR _ _ ⟨_,_,_,rs,ks,rfl,hl4,tp4,gk4,⟨by omega,by omega⟩,pt4,bt4⟩
 rintro _ H3 ⟨v4,v5,v6,rs,ks,rfl,hl3,tp3,gk3,⟨r1,r8⟩,pt3,bt3⟩
 refine ⟨_,rfl,_,rfl,(by show 2≤sizeLine; decide),fun t ht=>?_⟩
 obtain ⟨H6,e6,k6,n6,s6,b6,pt6⟩:=aW (o:=.tup [.int b,.ref l]) bt3 pt3 ht
 rw [show upd H3 t _=H6 from e6]
 have rl:=Paired.length tp3
 exact q t l b ks H6 ⟨rs,k6,s6 _ _ hl3,Tups.keep (fun c xs e=>s6 _ _ e) tp3⟩ nlp hl0 gk3 (by omega) (by omega) b0 b1' pt6 b6
theorem scsidesc:FnScope ["_law_shop_here","_law_kind","_law_turned","_law_wide","_law_high"] ["_law_shop_here","_law_kind","_law_turned"] (defScope gi):=⟨rfl,rfl,rfl,by decide +kernel,rfl,by decide +kernel,by decide +kernel⟩
theorem mJ {f:Addr} {fd:FuncData} (F:Fun K "_law_sides" "_law_sides" gi f fd) (B:Blt mg):FnOk P w K mg base CX0 1 f fd ["_law_shop_here","_law_kind","_law_turned"] (gq):=by
 refine F.ok scsidesc (fun vs H Q E h=>?_) (fun cdv A outer s H vs Q E hr h=>?_)
 ·obtain ⟨t,kl,b,ks,i,c,k,rfl,_⟩:=h
  rfl
 obtain ⟨t,kl,b,ks,i,c,k,rfl,sh,hi,q⟩:=h
 have nd:=scsidesc.nd
 refine ⟨_,(@af _ _ _ _ _ (@cg _ _ _ _ _ _ (@bj _ _ _ _ _ _ _ _ _ _ eX (@ay _ _ _ _ _ _ _ ix_list (@ay _ _ _ _ _ _ _ ix_tup (pv 0) ae (fun _ _=>rfl)) (pv 1) (fun _ _=>rfl)) bF (bG ae)) (bH rfl (az (aw (i:=3) nd rfl (Or.inl rfl)) (az (aw (i:=4) nd rfl (Or.inl rfl)) bf))) rfl rfl rfl) (@ah _ _ _ (@av _ _ _ _ (@ay _ _ _ _ _ _ _ ix_list (@aR _ _ _ _ (@aa _ _ _ _ _ (@aO _ _ _ _ _ (@aa _ _ _ _ _ (pv 3) (@aa _ _ _ _ _ (pv 4) ad rfl) rfl)) (@aa _ _ _ _ _ (@aO _ _ _ _ _ (@aa _ _ _ _ _ (pv 4) (@aa _ _ _ _ _ (pv 3) ad rfl) rfl)) ad rfl) rfl)) (@bA _ _ _ _ _ _ _ _ _ eU rfl B.int PyProof.Rows.boot_int (@aa _ _ _ _ _ (pv 2) ad rfl) (by decide) (by decide) rfl rfl) (fun _ _=>rfl))))),?_⟩
 have sz:(100:Nat) < sizeLine:=by decide
 obtain ⟨rs,h1,h2,h3⟩:=id sh
 obtain ⟨vv,hvv,ak,rfl,hak⟩:=Paired.getL h3 hi
 have hak:H ak=some (.tup [.int k.w,.int k.h,.int k.wo,.int k.wa,.bl k.tu]):=hak
 have hat:atI rs (i:Int)=some (.ref ak):=cA (by omega) (by rw [Int.toNat_natCast]; exact hvv)
 refine aj (fun σ' H'=>σ'=[some (.ref t),some (.int i),some (.bl c),some (.int k.w),some (.int k.h)]∧Same H H') (fun R hR=>?_) ?_
 ·refine ⟨_,rfl,t,_,1,_,rfl,rfl,SqT.of h1,rfl,_,rfl,kl,_,_,_,rfl,rfl,SqL.of h2,hat,_,rfl,ak,_,rfl,SqT.of hak,(fun z=>absurd z.2 (show ¬ HT.sIx 5 5 (some 2)=5 by decide)),fun a ha=>?_⟩
  obtain ⟨H1,e1,k1,s1⟩:∃H',upd H a (.tup (bO [.int k.w,.int k.h,.int k.wo,.int k.wa,.bl k.tu] none (some 2)))=H'∧H' a=some (.tup (bO [.int k.w,.int k.h,.int k.wo,.int k.wa,.bl k.tu] none (some 2)))∧Same H H':=⟨_,rfl,ag,Same.new ha⟩
  rw [show upd H a _=H1 from e1]
  exact ⟨a,_,rfl,SqT.of (show H1 a=some (.tup [.int k.w,.int k.h]) from k1),rfl,_,_,rfl,_,_,rfl,rfl,hR _ _ ⟨rfl,s1⟩⟩
 rintro _ H1 ⟨rfl,s1⟩
 refine ⟨_,rfl,_,rfl,(by show 2≤sizeLine; decide),fun a ha=>?_⟩
 obtain ⟨H2,e2,k2,s2⟩:∃H',upd H1 a (.tup [.int k.w,.int k.h])=H'∧H' a=some (.tup [.int k.w,.int k.h])∧Same H1 H':=⟨_,rfl,ag,Same.new ha⟩
 rw [show upd H1 a _=H2 from e2]
 refine ⟨_,rfl,_,rfl,(by show 2≤sizeLine; decide),fun a2 ha2=>?_⟩
 obtain ⟨H3,e3,k3,s3⟩:∃H',upd H2 a2 (.tup [.int k.h,.int k.w])=H'∧H' a2=some (.tup [.int k.h,.int k.w])∧Same H2 H':=⟨_,rfl,ag,Same.new ha2⟩
 rw [show upd H2 a2 _=H3 from e3]
 refine ⟨(by show 2≤sizeLine; decide),fun l hl=>?_⟩
 obtain ⟨H4,e4,k4,s4⟩:∃H',upd H3 l (.lst [.ref a,.ref a2])=H'∧H' l=some (.lst [.ref a,.ref a2])∧Same H3 H':=⟨_,rfl,ag,Same.new hl⟩
 rw [show upd H3 l _=H4 from e4]
 refine ⟨_,rfl,.inr ⟨_,rfl,?_⟩⟩
 cases c with
 | true=>exact ⟨l,_,_,_,rfl,rfl,SqL.of k4,rfl,q a2 H4 (s4 _ _ k3) (s1.trans (s2.trans (s3.trans s4)))⟩
 | false=>exact ⟨l,_,_,_,rfl,rfl,SqL.of k4,rfl,q a H4 (s4 _ _ (s3 _ _ k2)) (s1.trans (s2.trans (s3.trans s4)))⟩
theorem sclyingsc:FnScope ["_law_shop_here","_law_found","_law_k","_law_kind"] ["_law_shop_here"] (defScope eD):=⟨rfl,rfl,rfl,by decide +kernel,rfl,by decide +kernel,by decide +kernel⟩
theorem kj {f:Addr} {fd:FuncData} (F:Fun K "_law_lyings" "_law_lyings" eD f fd) (B:Blt mg):FnOk P w K mg base CX0 1 f fd ["_law_shop_here"] (dD):=by
 refine F.ok sclyingsc (fun vs H Q E h=>?_) (fun cdv A outer s H vs Q E hr h=>?_)
 ·obtain ⟨t,kl,b,ks,rfl,_⟩:=h
  rfl
 obtain ⟨t,kl,b,ks,rfl,sh,k8,q⟩:=h
 have nd:=sclyingsc.nd
 refine ⟨_,(@af _ _ _ _ _ (@aG _ _ 1 _ _ _ _ nd rfl (Or.inl rfl) (@aR _ _ _ _ ad) rfl (Or.inl rfl)) (@af _ _ _ _ _ (@ci _ _ _ _ _ _ _ _ PassesOwn.never rfl (lI rfl B.enumerate (@aa _ _ _ _ _ (@ay _ _ _ _ _ _ _ ix_tup (pv 0) ae (fun _ _=>rfl)) ad rfl)) (bH rfl (az (aw (i:=2) nd rfl (Or.inl rfl)) (az (aw (i:=3) nd rfl (Or.inl rfl)) bf))) (@af _ _ _ _ _ (@ce _ _ _ _ (@dZ _ _ _ _ _ _ _ _ _ _ _ _ PySem.F.plainAttrs_list PySem.F.slot_list_append PySem.F.type_list_append bP (pv 1) (@aa _ _ _ _ _ (@aO _ _ _ _ _ (@aa _ _ _ _ _ (pv 2) (@aa _ _ _ _ _ be ad rfl) rfl)) ad rfl) rfl rfl rfl rfl rfl) rfl) (@ah _ _ _ (@aN _ _ _ _ _ _ _ _ (PW.pt (jz (@aK _ _ _ (@ay _ _ _ _ _ _ _ ix_tup (pv 3) ae (fun _ _=>rfl)) (by intro _; rfl)) (hG (@aI _ _ _ _ _ _ _ _ cI (@ay _ _ _ _ _ _ _ ix_tup (pv 3) ae (fun _ _=>rfl)) (@ay _ _ _ _ _ _ _ ix_tup (pv 3) ae (fun _ _=>rfl)) (aH _))))) (@ah _ _ _ (@ce _ _ _ _ (@dZ _ _ _ _ _ _ _ _ _ _ _ _ PySem.F.plainAttrs_list PySem.F.slot_list_append PySem.F.type_list_append bP (pv 1) (@aa _ _ _ _ _ (@aO _ _ _ _ _ (@aa _ _ _ _ _ (pv 2) (@aa _ _ _ _ _ be ad rfl) rfl)) ad rfl) rfl rfl rfl rfl rfl) rfl)) aB))) (by intro _; rfl)) (@ah _ _ _ (@av _ _ _ _ (pv 1))))),?_⟩
 have sz:(100:Nat) < sizeLine:=by decide
 obtain ⟨rs,h1,h2,h3⟩:=id sh
 have rl:=Paired.length h3
 refine aj (fun σ' H'=>∃l:Addr,σ'=[some (.ref t),some (.ref l),none,none]∧H l=none∧H' l=some (.lst [])∧Same H H') (fun R hR=>?_) ?_
 ·refine ⟨by decide,fun l hl=>?_⟩
  obtain ⟨H1,e1,k1,s1⟩:∃H',upd H l (.lst [])=H'∧H' l=some (.lst [])∧Same H H':=⟨_,rfl,ag,Same.new hl⟩
  rw [show upd H l _=H1 from e1]
  exact hR _ _ ⟨l,rfl,hl,k1,s1⟩
 rintro _ H1 ⟨l,rfl,hl,hl1,s1⟩
 have nkl:kl≠l:=ai h2 hl
 refine aj (fun σ' H'=>(∃v2 v3:Option V,σ'=[some (.ref t),some (.ref l),v2,v3])∧(∃ys,H' l=some (.lst ys)∧Paired (LyC H') ys (lyK ks 0))∧But l H1 H') (fun R hR=>?_) ?_
 ·refine ⟨_,rfl,t,_,1,_,rfl,rfl,SqT.of (s1 _ _ h1),rfl,kl,rs,rfl,.inl ⟨s1 _ _ h2,iX (f:=.lst) (fun _ _ e=>by cases e; rfl) (l:=kl) (xs:=rs) (fun i σ' H'=>(∃ (v2 v3:Option V) (ys:List V),σ'=[some (.ref t),some (.ref l),v2,v3]∧H' l=some (.lst ys)∧Paired (LyC H') ys (lyK (ks.take i) 0)∧But l H1 H')) ⟨_,_,[],rfl,hl1,.nil,fun _ _ _ e=>e⟩ (fun i σ Hx ⟨v2,v3,ys,_,_,_,b⟩=>b _ _ nkl (s1 _ _ h2)) ?_ (fun σ Hx ⟨v2,v3,ys,e,hy,py,b⟩=>hR _ _ ⟨⟨v2,v3,e⟩,⟨ys,hy,by rw [rl,List.take_length] at py; exact py⟩,b⟩)⟩⟩
  rintro i x pp σ H2 hx hp ⟨v2,v3,ys,rfl,l2,py,b2⟩
  obtain ⟨k,hk',ka,rfl,hka⟩:=Paired.getR h3 hx
  have hin:i < rs.length:=(List.getElem?_eq_some_iff.mp hx).1
  obtain ⟨H3,e3,k3,s3⟩:∃H',upd H2 pp (.tup [.int i,.ref ka])=H'∧H' pp=some (.tup [.int i,.ref ka])∧Same H2 H':=⟨_,rfl,ag,Same.new hp⟩
  rw [show upd H2 pp _=H3 from e3]
  have nka:ka≠l:=ai hka hl
  have ka3:H3 ka=some (.tup [.int k.w,.int k.h,.int k.wo,.int k.wa,.bl k.tu]):=s3 _ _ (b2 _ _ nka (s1 _ _ hka))
  have yl:=Paired.length py
  have yl2:=ii (ks.take i) 0
  rw [List.length_take] at yl2
  have lt:lyK (ks.take (i + 1)) 0=lyK (ks.take i) 0 ++ lyT i k:=by
   rw [List.take_add_one,hk']
   show lyK (ks.take i ++ [k]) 0=_
   rw [iY,List.length_take,Nat.zero_add,Nat.min_eq_left (by omega)]
  refine ⟨pp,_,rfl,SqT.of k3,rfl,_,_,rfl,_,_,rfl,rfl,?_⟩
  have app:∀ (Hx:Hp) (a:Addr) (zs:List V) (q:Nat×Bool) (L:List (Nat×Bool)),Hx l=some (.lst zs)→Paired (LyC Hx) zs L→Hx a=some (.tup [.int q.1,.bl q.2])→But l H1 Hx→Paired (LyC (upd Hx l (.lst (zs ++ [.ref a])))) (zs ++ [.ref a]) (L ++ [q])∧But l H1 (upd Hx l (.lst (zs ++ [.ref a]))):=fun Hx a zs q L hx pz ha bx=>by
   have kt:∀c xs,Hx c=some (.tup xs)→(upd Hx l (.lst (zs ++ [.ref a]))) c=some (.tup xs):=fun c xs e=>by
    rw [au (fun z=>by rw [z,hx] at e; cases e)]; exact e
   exact ⟨jp (Paired.mapP pz fun v q h=>h.keep kt) (.cons ⟨a,rfl,kt _ _ ha⟩ .nil),fun c o n e=>by rw [au n]; exact bx _ _ n e⟩
  refine aj (fun σ' H'=>σ'=[some (.ref t),some (.ref l),some (.int i),some (.ref ka)]∧(∃ys,H' l=some (.lst ys)∧ys.length≤2 * i + 1∧Paired (LyC H') ys (lyK (ks.take i) 0 ++ [(i,false)]))∧But l H1 H') (fun R hR=>?_) ?_
  ·refine ⟨_,rfl,.inl ⟨rfl,_,SqL.of (s3 _ _ l2)⟩,_,rfl,(by show 2≤sizeLine; decide),fun a ha=>?_⟩
   obtain ⟨H4,e4,k4,s4⟩:∃H',upd H3 a (.tup [.int i,.bl false])=H'∧H' a=some (.tup [.int i,.bl false])∧Same H3 H':=⟨_,rfl,ag,Same.new ha⟩
   rw [show upd H3 a _=H4 from e4]
   have l4:=s4 _ _ (s3 _ _ l2)
   obtain ⟨a1,a2⟩:=app H4 a ys (i,false) _ l4 (Paired.mapP py fun v q h=>h.keep fun c xs e=>s4 _ _ (s3 _ _ e)) k4 (fun c o n e=>s4 _ _ (s3 _ _ (b2 _ _ n e)))
   exact ⟨l,_,_,rfl,rfl,l4,by omega,hR _ _ ⟨rfl,⟨_,ag,by rw [List.length_append]; show ys.length + 1≤_; omega,a1⟩,a2⟩⟩
  rintro _ H4 ⟨rfl,⟨zs,l4,zl,py4⟩,b4⟩
  have ka4:H4 ka=some (.tup [.int k.w,.int k.h,.int k.wo,.int k.wa,.bl k.tu]):=b4 _ _ nka (s1 _ _ hka)
  have no:aU k=false→(∃ (v2 v3:Option V) (ys:List V),([some (.ref t),some (.ref l),some (.int i),some (.ref ka)]:St)=[some (.ref t),some (.ref l),v2,v3]∧H4 l=some (.lst ys)∧Paired (LyC H4) ys (lyK (ks.take (i + 1)) 0)∧But l H1 H4):=fun ht=>⟨_,_,zs,rfl,l4,by rw [lt]; unfold lyT; rw [ht]; exact py4,b4⟩
  refine ⟨_,rfl,ka,_,4,_,rfl,rfl,SqT.of ka4,rfl,_,rfl,?_⟩
  cases htu:k.tu with
  | false=>exact aP (no (by unfold aU; rw [htu]; rfl))
  | true =>
   refine aX ⟨_,rfl,ka,_,0,_,rfl,rfl,SqT.of ka4,rfl,_,rfl,ka,_,1,_,rfl,rfl,SqT.of ka4,rfl,rfl,_,rfl,?_⟩
   by_cases hwh:k.w=k.h
   ·rw [show (!decide (V.int k.w=V.int k.h))=false by rw [decide_eq_true (by rw [hwh])]; rfl]
    exact aP (no (by unfold aU; rw [decide_eq_true hwh]; simp))
   ·rw [show (!decide (V.int k.w=V.int k.h))=true by rw [decide_eq_false (fun z=>hwh (V.int.inj z))]; rfl]
    have ht:aU k=true:=by unfold aU; rw [htu,decide_eq_false hwh]; rfl
    refine aX ⟨_,rfl,.inl ⟨rfl,_,SqL.of l4⟩,_,rfl,(by show 2≤sizeLine; decide),fun a ha=>?_⟩
    obtain ⟨H5,e5,k5,s5⟩:∃H',upd H4 a (.tup [.int i,.bl true])=H'∧H' a=some (.tup [.int i,.bl true])∧Same H4 H':=⟨_,rfl,ag,Same.new ha⟩
    rw [show upd H4 a _=H5 from e5]
    have l5:=s5 _ _ l4
    obtain ⟨a1,a2⟩:=app H5 a zs (i,true) _ l5 (Paired.mapP py4 fun v q h=>h.keep fun c xs e=>s5 _ _ e) k5 (fun c o n e=>s5 _ _ (b4 _ _ n e))
    exact ⟨l,_,_,rfl,rfl,l5,by omega,_,_,_,rfl,ag,by rw [lt]; unfold lyT; rw [if_pos ht]; rw [List.append_assoc] at a1; exact a1,a2⟩
 rintro _ H2 ⟨⟨v2,v3,rfl⟩,⟨ys,hy,py⟩,b2⟩
 exact ⟨_,rfl,q l ys H2 hy hl py (fun c o e=>b2 _ _ (ai e hl) (s1 _ _ e))⟩
theorem scbox:FnScope ["_law_shop_here","_law_piece","_law_own"] ["_law_shop_here","_law_piece"] (defScope oN):=⟨rfl,rfl,rfl,by decide +kernel,rfl,by decide +kernel,by decide +kernel⟩
theorem tH {f:Addr} {fd:FuncData} (F:Fun K "_law_box" "_law_box" oN f fd) (B:Blt mg) (DSd:Dn P w K mg base "_law_sides" ["_law_shop_here","_law_kind","_law_turned"] 1 (gq)):FnOk P w K mg base CX0 2 f fd ["_law_shop_here","_law_piece"] (lQ):=by
 refine F.ok scbox (fun vs H Q E h=>?_) (fun cdv A outer s H vs Q E hr h=>?_)
 ·obtain ⟨t,kl,a,b,ks,p,k,rfl,_⟩:=h
  rfl
 obtain ⟨t,kl,a,b,ks,p,k,rfl,sh,hp,hk,q⟩:=h
 have nd:=scbox.nd
 refine ⟨_,(@af _ _ _ _ _ (@aG _ _ 2 _ _ _ _ nd rfl (Or.inl rfl) (@ar _ _ _ _ _ _ _ _ _ _ DSd hr rfl (@aa _ _ _ _ _ (pv 0) (@aa _ _ _ _ _ (@ay _ _ _ _ _ _ _ cC (pv 1) ae (fun _ _=>rfl)) (@aa _ _ _ _ _ (@ay _ _ _ _ _ _ _ cC (pv 1) ae (fun _ _=>rfl)) ad rfl) rfl) rfl) (by decide) rfl rfl) rfl (Or.inl rfl)) (@ah _ _ _ (@av _ _ _ _ (@aO _ _ _ _ _ (@aa _ _ _ _ _ (@ay _ _ _ _ _ _ _ cC (pv 1) ae (fun _ _=>rfl)) (@aa _ _ _ _ _ (@ay _ _ _ _ _ _ _ cC (pv 1) ae (fun _ _=>rfl)) (@aa _ _ _ _ _ (@aF _ _ _ _ _ _ _ _ aT (@ay _ _ _ _ _ _ _ cC (pv 1) ae (fun _ _=>rfl)) (@ay _ _ _ _ _ _ _ ix_tup (pv 2) ae (fun _ _=>rfl))) (@aa _ _ _ _ _ (@aF _ _ _ _ _ _ _ _ aT (@ay _ _ _ _ _ _ _ cC (pv 1) ae (fun _ _=>rfl)) (@ay _ _ _ _ _ _ _ ix_tup (pv 2) ae (fun _ _=>rfl))) ad rfl) rfl) rfl) rfl))))),?_⟩
 have SS:Sq H a (pqV p):=hp
 refine aj (fun σ' H'=>∃o:Addr,σ'=[some (.ref t),some (.ref a),some (.ref o)]∧H' o=some (.tup [.int (sd1 k p.c),.int (sd2 k p.c)])∧Same H H') (fun R hR=>?_) ?_
 ·exact ⟨_,rfl,_,rfl,ixS SS rfl ⟨_,rfl,ixS SS rfl ⟨t,kl,b,ks,p.k,p.c,k,rfl,sh,hk,fun r H1 h1 s1=>hR _ _ ⟨r,rfl,h1,s1⟩⟩⟩⟩
 rintro _ H1 ⟨o,rfl,ho,s1⟩
 have S1:=SS.same s1
 refine ⟨_,rfl,ixS S1 rfl ⟨_,rfl,ixS S1 rfl ⟨_,rfl,ixS S1 rfl ⟨_,rfl,o,_,0,_,rfl,rfl,SqT.of ho,rfl,_,_,rfl,rfl,_,rfl,ixS S1 rfl ⟨_,rfl,o,_,1,_,rfl,rfl,SqT.of ho,rfl,_,_,rfl,rfl,(by show 4≤sizeLine; decide),fun r hr'=>?_⟩⟩⟩⟩⟩
 obtain ⟨H2,e2,k2,s2⟩:∃H',upd H1 r (.tup [.int p.x,.int p.y,.int (p.x + sd1 k p.c),.int (p.y + sd2 k p.c)])=H'∧H' r=some (.tup [.int p.x,.int p.y,.int (p.x + sd1 k p.c),.int (p.y + sd2 k p.c)])∧Same H1 H':=⟨_,rfl,ag,Same.new hr'⟩
 rw [show upd H1 r _=H2 from e2]
 exact q r H2 k2 (s1.trans s2)
theorem scapart:FnScope ["_law_one","_law_other"] ["_law_one","_law_other"] (defScope gj):=⟨rfl,rfl,rfl,by decide +kernel,rfl,by decide +kernel,by decide +kernel⟩
theorem oY {f:Addr} {fd:FuncData} (F:Fun K "_law_apart" "_law_apart" gj f fd)  : FnOk P w K mg base CX0 1 f fd ["_law_one","_law_other"] (iu):=by
 refine F.ok scapart (fun vs H Q E h=>?_) (fun cdv A outer s H vs Q E hr h=>?_)
 ·obtain ⟨a1,a2,o,r,rfl,_⟩:=h
  rfl
 obtain ⟨a1,a2,o,r,rfl,h1,h2,q⟩:=h
 have nd:=scapart.nd
 refine ⟨_,(@ah _ _ _ (@av _ _ _ _ (lp (@bz _ _ _ _ _ _ _ _ dU (@ay _ _ _ _ _ _ _ ix_tup (pv 0) ae (fun _ _=>rfl)) (@ay _ _ _ _ _ _ _ ix_tup (pv 1) ae (fun _ _=>rfl)) (aH _)) (lp (@bz _ _ _ _ _ _ _ _ dU (@ay _ _ _ _ _ _ _ ix_tup (pv 1) ae (fun _ _=>rfl)) (@ay _ _ _ _ _ _ _ ix_tup (pv 0) ae (fun _ _=>rfl)) (aH _)) (lp (@bz _ _ _ _ _ _ _ _ dU (@ay _ _ _ _ _ _ _ ix_tup (pv 0) ae (fun _ _=>rfl)) (@ay _ _ _ _ _ _ _ ix_tup (pv 1) ae (fun _ _=>rfl)) (aH _)) (cY (@bz _ _ _ _ _ _ _ _ dU (@ay _ _ _ _ _ _ _ ix_tup (pv 1) ae (fun _ _=>rfl)) (@ay _ _ _ _ _ _ _ ix_tup (pv 0) ae (fun _ _=>rfl)) (aH _)))))))),?_⟩
 unfold apB at q
 have tru:∀ {z:Bool},z=true→z=true:=fun h=>h
 refine ⟨_,rfl,a1,_,2,_,rfl,rfl,SqT.of h1,rfl,_,rfl,a2,_,0,_,rfl,rfl,SqT.of h2,rfl,_,_,rfl,rfl,_,rfl,?_⟩
 refine bQ (fun c1=>?_) (fun c1=>?_)
 ·rw [c1] at q; exact q
 rw [show decide (o.c≤r.a)=false by simpa using c1] at q
 refine ⟨_,rfl,a2,_,2,_,rfl,rfl,SqT.of h2,rfl,_,rfl,a1,_,0,_,rfl,rfl,SqT.of h1,rfl,_,_,rfl,rfl,_,rfl,?_⟩
 refine bQ (fun c2=>?_) (fun c2=>?_)
 ·rw [c2] at q; exact q
 rw [show decide (r.c≤o.a)=false by simpa using c2] at q
 refine ⟨_,rfl,a1,_,3,_,rfl,rfl,SqT.of h1,rfl,_,rfl,a2,_,1,_,rfl,rfl,SqT.of h2,rfl,_,_,rfl,rfl,_,rfl,?_⟩
 refine bQ (fun c3=>?_) (fun c3=>?_)
 ·rw [c3] at q; exact q
 rw [show decide (o.d≤r.b)=false by simpa using c3] at q
 exact ⟨_,rfl,a2,_,3,_,rfl,rfl,SqT.of h2,rfl,_,rfl,a1,_,1,_,rfl,rfl,SqT.of h1,rfl,_,_,rfl,rfl,q⟩
end
def km (ks:List Kd) (w h:Int):PyData→PyData→PyData→PyData→Bool
 | .int i,.bool c,.int x,.int y=>eG ks w h (.int i) (.bl c) (.int x) (.int y)
 | _,_,_,_=>false
theorem Dts.one {p:Addr} {H:Hp} {xs:List V} {ds:List PyData} {n:Nat} (h:Dts p H xs ds) (hl:ds.length=n + 1):∃x d xs' ds',xs=x :: xs'∧ds=d :: ds'∧Dt p H x d∧Dts p H xs' ds'∧ds'.length=n:=by
 cases h with
 | nil=>cases hl
 | cons a r=>exact ⟨_,_,_,_,rfl,rfl,a,r,Nat.succ.inj hl⟩
theorem Dts.zero {p:Addr} {H:Hp} {xs:List V} {ds:List PyData} (h:Dts p H xs ds) (hl:ds.length=0):xs=[]∧ds=[]:=by
 cases h with
 | nil=>exact ⟨rfl,rfl⟩
 | cons a r=>cases hl
theorem Dts.four {p:Addr} {H:Hp} {xs:List V} {ds:List PyData} (h:Dts p H xs ds) (hl:ds.length=4):∃x1 x2 x3 x4 d1 d2 d3 d4,xs=[x1,x2,x3,x4]∧ds=[d1,d2,d3,d4]∧Dt p H x1 d1∧Dt p H x2 d2∧Dt p H x3 d3∧Dt p H x4 d4:=by
 obtain ⟨x1,d1,xs,ds,rfl,rfl,h1,h,hl⟩:=h.one hl
 obtain ⟨x2,d2,xs,ds,rfl,rfl,h2,h,hl⟩:=h.one hl
 obtain ⟨x3,d3,xs,ds,rfl,rfl,h3,h,hl⟩:=h.one hl
 obtain ⟨x4,d4,xs,ds,rfl,rfl,h4,h,hl⟩:=h.one hl
 obtain ⟨rfl,rfl⟩:=h.zero hl
 exact ⟨_,_,_,_,_,_,_,_,rfl,rfl,h1,h2,h3,h4⟩
theorem cS {C:Addr} {H H':Hp} {s:Addr} {b:Int} {ks:List Kd} (k:Same H H') (h:ShopAt C H s b ks):ShopAt C H' s b ks:=h.keep (fun c o e=>k _ _ e) (fun c C' d fs e=>k _ _ e)
def bg (ks:List Kd) (p:Pq):Bx:=match ks[p.k]? with
 | some k=>ki k p
 | none=>⟨0,0,0,0⟩
theorem cB {ks:List Kd} {p:Pq} {k:Kd} (h:ks[p.k]? = some k):bg ks p=ki k p:=by unfold bg; rw [h]
def onB (ks:List Kd) (W h:Int) (p:Pq):Bool:=!(decide (W < (bg ks p).c) || decide (h < (bg ks p).d))
def bW (ks:List Kd) (W h:Int) (ps:List Pq) (p:Pq):Bool:=onB ks W h p && (ps.map fun o=>apB (bg ks p) (bg ks o)).all id
def PqS (ks:List Kd) (H:Hp) (v:V) (q:Pq):Prop:=∃a k,v=.ref a∧Sq H a (pqV q)∧ks[q.k]? = some k
def bZ (ks:List Kd) (w h:Int) (d:PyData):Bool:=match bv d with
 | some [k,t,x,y]=>km ks w h k t x y
 | _=>false
theorem tI (k:Kd) (c:Bool):ip k c=[V.int (sd1 k c),V.int (sd2 k c)]:=by
 unfold ip sd1 sd2
 cases c <;> rfl
section
variable {P:Program} {w:World} {K:PySem.W.Frag} {mg:Str→Option Value} {base:Heap}
def fE:Sp:=fun vs H Q _=>∃ (t kl pl a:Addr) (b W h:Int) (ks:List Kd) (ys:List V) (ps:List Pq) (p:Pq) (k:Kd),vs=[.ref t,.int W,.int h,.ref pl,.ref a]∧LS H t b ks kl∧H pl=some (.lst ys)∧Paired (PqS ks H) ys ps∧ys.length≤100∧Sq H a (pqV p)∧ks[p.k]? = some k∧∀H',Same H H'→Q (.bl (bW ks W h ps p)) H'
def kn:Sp:=fun vs H Q _=>∃ (a1 a2:Addr) (i j k l:Int),vs=[.ref a1,.ref a2]∧H a1=some (.tup [.int i,.int j])∧H a2=some (.tup [.int k,.int l])∧Q (.bl (decide (i < l) && decide (k < j))) H
def fF (C:Addr):Sp:=fun vs H Q _=>∃ (s a:Addr) (b:Int) (ks:List Kd) (p:Pq) (k:Kd),vs=[.ref s,.ref a]∧ShopAt C H s b ks∧Sq H a (pqV p)∧cn ks (.int p.k) (.bl p.c)=true∧ks[p.k]? = some k∧∀ (r r1 r2:Addr) (H':Hp),H' r=some (.tup [.ref r1,.ref r2])→H' r1=some (.tup [.int p.x,.int (p.x + sd1 k p.c)])→H' r2=some (.tup [.int p.y,.int (p.y + sd2 k p.c)])→Same H H'→Q (.ref r) H'
def gr (C:Addr):Sp:=fun vs H Q _=>∃ (pp s:Addr) (b w h:Int) (ks:List Kd) (v:V) (d:PyData),vs=[.ref s,.int w,.int h,v]∧ShopAt C H s b ks∧Dt pp H v d∧∀H',Same H H'→Q (.bl (bZ ks w h d)) H'
theorem scfitsc:FnScope ["_law_shop_here","_law_wide","_law_high","_law_pieces","_law_piece","_law_box_here"] ["_law_shop_here","_law_wide","_law_high","_law_pieces","_law_piece"] (defScope gU):=⟨rfl,rfl,rfl,by decide +kernel,rfl,by decide +kernel,by decide +kernel⟩
theorem oZ {f:Addr} {fd:FuncData} (F:Fun K "_law_fits" "_law_fits" gU f fd) (B:Blt mg) (DBx:Dn P w K mg base "_law_box" ["_law_shop_here","_law_piece"] 2 (lQ)) (DAp:Dn P w K mg base "_law_apart" ["_law_one","_law_other"] 1 (iu)):FnOk P w K mg base CX0 3 f fd ["_law_shop_here","_law_wide","_law_high","_law_pieces","_law_piece"] (fE):=by
 refine F.ok scfitsc (fun vs H Q E h=>?_) (fun cdv A outer s H vs Q E hr h=>?_)
 ·obtain ⟨t,kl,pl,a,b,W,h1,ks,ys,ps,p,k,rfl,_⟩:=h
  rfl
 obtain ⟨t,kl,pl,a,b,W,h1,ks,ys,ps,p,k,rfl,sh,hpl,py,y100,hp,hk,q⟩:=h
 have nd:=scfitsc.nd
 refine ⟨_,(@af _ _ _ _ _ (@aG _ _ 5 _ _ _ _ nd rfl (Or.inr rfl) (@ar _ _ _ _ _ _ _ _ _ _ DBx hr rfl (@aa _ _ _ _ _ (pv 0) (@aa _ _ _ _ _ (pv 4) ad rfl) rfl) (by decide) rfl rfl) rfl (Or.inl rfl)) (@af _ _ _ _ _ (@aN _ _ _ _ _ _ _ _ (PW.pt (bI (@aI _ _ _ _ _ _ _ _ iI (@ay _ _ _ _ _ _ _ ix_tup (pv 5) ae (fun _ _=>rfl)) (pv 1) (aH _)) (bC (@aI _ _ _ _ _ _ _ _ iI (@ay _ _ _ _ _ _ _ ix_tup (pv 5) ae (fun _ _=>rfl)) (pv 2) (aH _))))) (@ah _ _ _ (@av _ _ _ _ be)) aB) (@ah _ _ _ (@av _ _ _ _ (@aA _ _ _ _ _ _ _ _ _ (fc rfl) rfl B.all PyProof.Rows.boot_all (@aa _ _ _ _ _ (du (own:=["_law_other"]) (cs:=["_law_shop_here","_law_box_here"]) (cap:=[0,5]) rfl (cy (pv 3)) (bn (sc:=defScope gU) (N:=["_law_shop_here","_law_wide","_law_high","_law_pieces","_law_piece","_law_box_here"]) rfl rfl (by decide +kernel)) (fun _ _ _ _ _=>aw (i:=0) (by show List.Nodup (["_law_other","_law_shop_here","_law_box_here"]:List Str) ; decide +kernel) rfl (Or.inl rfl) (Or.inr rfl)) (fun _ _ _ _ _=>bU) (fun _ _ _ _ _=>(@ar _ _ _ _ _ _ _ _ _ _ DAp (hr.mono (by decide)) rfl (@aa _ _ _ _ _ (pv 2) (@aa _ _ _ _ _ (@ar _ _ _ _ _ _ _ _ _ _ DBx hr rfl (@aa _ _ _ _ _ (pv 1) (@aa _ _ _ _ _ (pv 0) ad rfl) rfl) (by decide) rfl rfl) ad rfl) rfl) (by decide) rfl rfl))) ad rfl) (by decide) (by decide) rfl rfl))))),?_⟩
 have sz:(1000:Nat) < sizeLine:=by decide
 have eb:=cB hk
 have yl:=Paired.length py
 refine aj (fun σ' H'=>∃r:Addr,σ'=[some (.ref t),some (.int W),some (.int h1),some (.ref pl),some (.ref a),some (.ref r)]∧H' r=some (.tup (bxV (bg ks p)))∧Same H H') (fun R hR=>?_) ?_
 ·exact ⟨_,rfl,_,rfl,t,kl,a,b,ks,p,k,rfl,sh,hp,hk,fun r H1 h1 s1=>hR _ _ ⟨r,rfl,by rw [eb]; exact h1,s1⟩⟩
 rintro _ H1 ⟨r,rfl,hr1,s1⟩
 refine aj (fun σ' H'=>σ'=[some (.ref t),some (.int W),some (.int h1),some (.ref pl),some (.ref a),some (.ref r)]∧H1=H'∧onB ks W h1 p=true) (fun R hR=>?_) ?_
 ·refine ⟨_,rfl,r,_,2,_,rfl,rfl,SqT.of hr1,rfl,_,rfl,_,_,rfl,rfl,_,rfl,?_⟩
  refine bQ (fun c1=>?_) (fun c1=>?_)
  ·have:=q H1 s1
   rw [show bW ks W h1 ps p=false by unfold bW onB; rw [show decide (W < (bg ks p).c)=true from c1]; rfl] at this
   exact this
  ·refine ⟨_,rfl,r,_,3,_,rfl,rfl,SqT.of hr1,rfl,_,rfl,_,_,rfl,rfl,_,rfl,?_⟩
   refine bQ (fun c2=>?_) (fun c2=>?_)
   ·have:=q H1 s1
    rw [show bW ks W h1 ps p=false by unfold bW onB; rw [show decide (h1 < (bg ks p).d)=true from c2,Bool.or_true]; rfl] at this
    exact this
   ·exact hR _ _ ⟨rfl,rfl,by unfold onB; rw [show decide (W < (bg ks p).c)=false by simpa using c1,show decide (h1 < (bg ks p).d)=false by simpa using c2]; rfl⟩
 rintro _ _ ⟨rfl,rfl,on⟩
 have hpl1:=s1 _ _ hpl
 refine ⟨_,rfl,pl,rfl,⟨_,SqL.of hpl1⟩,(dh (K:=K) (.inl hpl1) (fun i us Hx=>Same H1 Hx∧us=((ps.take i).map fun o=>apB (bg ks p) (bg ks o)).map V.bl) (fun i us Hx _ ⟨sx,_⟩ o e=>sx _ _ e) ⟨Same.refl _,rfl⟩ ?_ ?_).1 hpl1⟩
 ·rintro i x us Hx hi ⟨sx,rfl⟩
  have hin:i < ys.length:=(List.getElem?_eq_some_iff.mp hi).1
  obtain ⟨o,ho,ao,ko,rfl,hao,hko⟩:=Paired.getR py hi
  have s0x:=s1.trans sx
  refine ⟨by rw [List.length_map,List.length_map,List.length_take]; omega,leS.set rfl,bV ?_⟩
  refine ⟨_,rfl,_,rfl,_,rfl,t,kl,ao,b,ks,o,ko,rfl,sh.same s0x,hao.same s0x,hko,fun r2 H3 h2 s3=>⟨r,r2,_,_,rfl,s3 _ _ (sx _ _ hr1),h2,Nx.of hin ⟨sx.trans s3,?_⟩⟩⟩
  rw [List.take_add_one,ho,← cB hko]
  simp only [Option.toList_some,List.map_append,List.map_cons,List.map_nil]
 ·rintro us Hx ⟨sx,rfl⟩
  rw [yl,List.take_length]
  refine ⟨by rw [List.length_map,List.length_map]; omega,fun l hl=>⟨l,_,rfl,SqL.of ag,?_⟩⟩
  have:=q _ (s1.trans (sx.trans (Same.new hl (o:=.lst ((ps.map fun o=>apB (bg ks p) (bg ks o)).map V.bl)))))
  unfold bW at this
  rw [on,Bool.true_and] at this
  exact this
theorem scmeet:FnScope ["one","other"] ["one","other"] (defScope jf):=⟨rfl,rfl,rfl,by decide +kernel,rfl,by decide +kernel,by decide +kernel⟩
theorem qS {f:Addr} {fd:FuncData} (F:Fun K "meet" "meet" jf f fd)  : FnOk P w K mg base CX0 1 f fd ["one","other"] (kn):=by
 refine F.ok scmeet (fun vs H Q E h=>?_) (fun cdv A outer s H vs Q E hr h=>?_)
 ·obtain ⟨a1,a2,i,j,k,l,rfl,_⟩:=h
  rfl
 obtain ⟨a1,a2,i,j,k,l,rfl,h1,h2,q⟩:=h
 have nd:=scmeet.nd
 refine ⟨_,(@ah _ _ _ (@av _ _ _ _ (cN (@bz _ _ _ _ _ _ _ _ lw (@ay _ _ _ _ _ _ _ ix_tup (pv 0) ae (fun _ _=>rfl)) (@ay _ _ _ _ _ _ _ ix_tup (pv 1) ae (fun _ _=>rfl)) (aH _)) (cY (@bz _ _ _ _ _ _ _ _ lw (@ay _ _ _ _ _ _ _ ix_tup (pv 1) ae (fun _ _=>rfl)) (@ay _ _ _ _ _ _ _ ix_tup (pv 0) ae (fun _ _=>rfl)) (aH _)))))),?_⟩
 refine ⟨_,rfl,a1,_,0,_,rfl,rfl,SqT.of h1,rfl,_,rfl,a2,_,1,_,rfl,rfl,SqT.of h2,rfl,_,_,rfl,rfl,_,rfl,?_⟩
 refine bQ (fun c=>?_) (fun c=>?_)
 ·rw [show decide (i < l)=true from c] at q
  exact ⟨_,rfl,a2,_,0,_,rfl,rfl,SqT.of h2,rfl,_,rfl,a1,_,1,_,rfl,rfl,SqT.of h1,rfl,_,_,rfl,rfl,q⟩
 ·rw [show decide (i < l)=false by simpa using c] at q
  exact q
theorem scspans:FnScope ["shop","piece","kind","turned","x","y","wide","high"] ["shop","piece"] (defScope dk):=⟨rfl,rfl,rfl,by decide +kernel,rfl,by decide +kernel,by decide +kernel⟩
theorem pb {f C:Addr} {fd:FuncData} (F:Fun K "spans_of" "spans_of" dk f fd) (T:ShopTxt K C) (MS:Mn P w K mg base C "sides" ["self","kind","turned"] 3 (fC K C)):FnOk P w K mg base CX0 4 f fd ["shop","piece"] (fF C):=by
 refine F.ok scspans (fun vs H Q E h=>?_) (fun cdv A outer s H vs Q E hr h=>?_)
 ·obtain ⟨s,a,b,ks,p,k,rfl,_⟩:=h
  rfl
 obtain ⟨s,a,b,ks,p,k,rfl,S0,hp,ly,hk,q⟩:=h
 have nd:=scspans.nd
 refine ⟨_,(@af _ _ _ _ _ (@cg _ _ _ _ _ _ (pv 1) (oo rfl (az (aw (i:=2) nd rfl (Or.inl rfl)) (az (aw (i:=3) nd rfl (Or.inl rfl)) (az (aw (i:=4) nd rfl (Or.inl rfl)) (az (aw (i:=5) nd rfl (Or.inl rfl)) bf))))) rfl rfl rfl) (@af _ _ _ _ _ (@cg _ _ _ _ _ _ (lJ (pv 0) T.cl MS hr (@aa _ _ _ _ _ (pv 2) (@aa _ _ _ _ _ (pv 3) ad rfl) rfl)) (bH rfl (az (aw (i:=6) nd rfl (Or.inl rfl)) (az (aw (i:=7) nd rfl (Or.inl rfl)) bf))) rfl rfl rfl) (@ah _ _ _ (@av _ _ _ _ (@aO _ _ _ _ _ (@aa _ _ _ _ _ (@aO _ _ _ _ _ (@aa _ _ _ _ _ (pv 4) (@aa _ _ _ _ _ (@aF _ _ _ _ _ _ _ _ aT (pv 4) (pv 6)) ad rfl) rfl)) (@aa _ _ _ _ _ (@aO _ _ _ _ _ (@aa _ _ _ _ _ (pv 5) (@aa _ _ _ _ _ (@aF _ _ _ _ _ _ _ _ aT (pv 5) (pv 7)) ad rfl) rfl)) ad rfl) rfl)))))),?_⟩
 refine aj (fun σ' H'=>σ'=[some (.ref s),some (.ref a),some (.int p.k),some (.bl p.c),some (.int p.x),some (.int p.y),none,none]∧H=H') (fun R hR=>?_) ?_
 ·exact ⟨_,rfl,a,_,rfl,hp.imp (fun z=>SqL.of z) (fun z=>SqT.of z),rfl,_,_,rfl,_,_,rfl,_,_,rfl,_,_,rfl,rfl,hR _ _ ⟨rfl,rfl⟩⟩
 rintro _ _ ⟨rfl,rfl⟩
 obtain ⟨dx,r0,rs,h1,h2,h3⟩:=id S0
 refine aj (fun σ' H'=>σ'=[some (.ref s),some (.ref a),some (.int p.k),some (.bl p.c),some (.int p.x),some (.int p.y),some (.int (sd1 k p.c)),some (.int (sd2 k p.c))]∧Same H H') (fun R hR=>?_) ?_
 ·refine ⟨_, rfl, s, dx, _, rfl, h1, dw _ _ (by decide +kernel) (by decide +kernel), _, rfl, _, rfl, s, b, ks, .int p.k, .bl p.c, "int", "bool", rfl, S0, Ty.int, Ty.bl, ly, fun i' c' k' r e1 e2 hk' _ hr=>?_⟩
  cases e1
  cases e2
  rw [Int.toNat_natCast,hk] at hk'
  cases hk'
  rw [tI]
  exact ⟨r,_,rfl,SqT.of ag,rfl,_,_,rfl,_,_,rfl,rfl,hR _ _ ⟨rfl,Same.new hr⟩⟩
 rintro _ H1 ⟨rfl,s1⟩
 refine ⟨_,rfl,_,rfl,_,rfl,_,_,rfl,rfl,(by show 2≤sizeLine; decide),fun r1 hr1=>?_⟩
 obtain ⟨H2,e2,k2,s2⟩:∃H',upd H1 r1 (.tup [.int p.x,.int (p.x + sd1 k p.c)])=H'∧H' r1=some (.tup [.int p.x,.int (p.x + sd1 k p.c)])∧Same H1 H':=⟨_,rfl,ag,Same.new hr1⟩
 rw [show upd H1 r1 _=H2 from e2]
 refine ⟨_,rfl,_,rfl,_,rfl,_,_,rfl,rfl,(by show 2≤sizeLine; decide),fun r2 hr2=>?_⟩
 obtain ⟨H3,e3,k3,s3⟩:∃H',upd H2 r2 (.tup [.int p.y,.int (p.y + sd2 k p.c)])=H'∧H' r2=some (.tup [.int p.y,.int (p.y + sd2 k p.c)])∧Same H2 H':=⟨_,rfl,ag,Same.new hr2⟩
 rw [show upd H2 r2 _=H3 from e3]
 refine ⟨(by show 2≤sizeLine; decide),fun r hr'=>?_⟩
 obtain ⟨H4,e4,k4,s4⟩:∃H',upd H3 r (.tup [.ref r1,.ref r2])=H'∧H' r=some (.tup [.ref r1,.ref r2])∧Same H3 H':=⟨_,rfl,ag,Same.new hr'⟩
 rw [show upd H3 r _=H4 from e4]
 exact q r r1 r2 H4 k4 (s4 _ _ (s3 _ _ k2)) (s4 _ _ k3) (s1.trans (s2.trans (s3.trans s4)))
theorem scplaced:FnScope ["shop","wide","high","thing"] ["shop","wide","high","thing"] (defScope cL):=⟨rfl,rfl,rfl,by decide +kernel,rfl,by decide +kernel,by decide +kernel⟩
theorem mK {f C:Addr} {tn4:Tok} {fd:FuncData} (F:Fun K "is_placed" "is_placed" cL f fd) (B:Blt mg) (n4:mg "THINGS_OF_A_PIECE" = some (.int 4 tn4)) (DR:Dn P w K mg base "is_row" ["thing"] 1 (gL K)) (DL:Dn P w K mg base "lies_in" ["shop","wide","high","kind","turned","x","y"] 4 (iq K C)):FnOk P w K mg base CX0 5 f fd ["shop","wide","high","thing"] (gr C):=by
 refine F.ok scplaced (fun vs H Q E h=>?_) (fun cdv A outer s H vs Q E hr h=>?_)
 ·obtain ⟨pp,s,b',w1,h1,ks,v,d,rfl,_⟩:=h
  rfl
 obtain ⟨pp,s,b',w1,h1,ks,v,d,rfl,S,hd,q⟩:=h
 have nd:=scplaced.nd
 refine ⟨_,(@af _ _ _ _ _ (@aN _ _ _ _ _ _ _ _ (PW.pt (bI (@aQ _ _ _ _ (@aK _ _ _ (@ar _ _ _ _ _ _ _ _ _ _ DR (hr.mono (by decide)) rfl (@aa _ _ _ _ _ (pv 3) ad rfl) (by decide) rfl rfl) (by intro _; rfl))) (bC (@aI _ _ _ _ _ _ _ _ cI (@aA _ _ _ _ _ _ _ _ _ aS rfl B.len PySem.boot_len (@aa _ _ _ _ _ (pv 3) ad rfl) (by decide) (by decide) rfl rfl) (aL (v:=.int 4) rfl n4 ⟨tn4,rfl⟩) (aH _))))) (@ah _ _ _ (@av _ _ _ _ be)) aB) (@ah _ _ _ (@av _ _ _ _ (@ar _ _ _ _ _ _ _ _ _ _ DL hr rfl (@aa _ _ _ _ _ (pv 0) (@aa _ _ _ _ _ (pv 1) (@aa _ _ _ _ _ (pv 2) (@aa _ _ _ _ _ (@ay _ _ _ _ _ _ _ cC (pv 3) ae (fun _ _=>rfl)) (@aa _ _ _ _ _ (@ay _ _ _ _ _ _ _ cC (pv 3) ae (fun _ _=>rfl)) (@aa _ _ _ _ _ (@ay _ _ _ _ _ _ _ cC (pv 3) ae (fun _ _=>rfl)) (@aa _ _ _ _ _ (@ay _ _ _ _ _ _ _ cC (pv 3) ae (fun _ _=>rfl)) ad rfl) rfl) rfl) rfl) rfl) rfl) rfl) (by decide) rfl rfl)))),?_⟩
 refine aj (fun σ' H'=>σ'=[some (.ref s),some (.int w1),some (.int h1),some v]∧Same H H'∧∃ (a:Addr) (xs:List V) (ds:List PyData),v=.ref a∧Sq H a xs∧Dts pp H xs ds∧bv d=some ds∧ds.length=4) (fun R hR=>?_) ?_
 ·have no:∀H',Same H H'→(∀a b c e,bv d≠some [a,b,c,e])→Q (.bl false) H':=fun H' s hn=>by
   have:=q H' s
   rw [show bZ ks w1 h1 d=false by
    unfold bZ
    split
    ·exact absurd ‹_› (hn _ _ _ _)
    ·rfl] at this
   exact this
  rcases hd.row (K:=K) with ⟨er,T1,t1,e1⟩ | ⟨a,xs,ds,T1,er,rfl,hx,dx,t1,e1⟩
  ·refine ⟨_,rfl,v,T1,rfl,t1,fun H1 s1=>⟨_,rfl,?_⟩⟩
   rw [e1]
   exact aX (no H1 s1 (fun a b c e z=>by rw [er] at z; cases z))
  ·refine ⟨_,rfl,.ref a,T1,rfl,t1,fun H1 s1=>⟨_,rfl,?_⟩⟩
   rw [e1]
   refine aP ⟨_,rfl,a,_,rfl,(Sq.same hx s1).imp (fun z=>SqL.of z) (fun z=>SqT.of z),rfl,_,rfl,?_⟩
   have dl:=dx.length
   by_cases h4:ds.length=4
   ·rw [show (!decide (V.int (xs.length:Int)=V.int 4))=false by rw [decide_eq_true (by rw [dl,h4]; rfl)]; rfl]
    exact aP (hR _ _ ⟨rfl,s1,a,xs,ds,rfl,hx,dx,er,h4⟩)
   ·rw [show (!decide (V.int (xs.length:Int)=V.int 4))=true by rw [decide_eq_false (fun z=>h4 (by have:=V.int.inj z; omega))]; rfl]
    exact aX (no H1 s1 (fun a b c e z=>h4 (by rw [er] at z; cases z; rfl)))
 rintro _ H1 ⟨rfl,s1,a,xs,ds,rfl,hx,dx,er,h4⟩
 obtain ⟨x1,x2,x3,x4,d1,d2,d3,d4,rfl,rfl,hd1,hd2,hd3,hd4⟩:=dx.four h4
 obtain ⟨T2,t2⟩:=(hd1.same s1).ty (K:=K)
 obtain ⟨T3,t3⟩:=(hd2.same s1).ty (K:=K)
 obtain ⟨T4,t4⟩:=(hd3.same s1).ty (K:=K)
 obtain ⟨T5,t5⟩:=(hd4.same s1).ty (K:=K)
 have hx1:Sq H1 a [x1,x2,x3,x4]:=Sq.same hx s1
 refine ⟨_,rfl,_,rfl,_,rfl,_,rfl,ixS hx1 rfl ⟨_,rfl,ixS hx1 rfl ⟨_,rfl,ixS hx1 rfl ⟨_,rfl,ixS hx1 rfl ?_⟩⟩⟩⟩
 refine ⟨s,b',ks,w1,h1,x1,x2,x3,x4,T2,T3,T4,T5,rfl,cS s1 S,t2,t3,t4,t5,fun H2 s2=>?_⟩
 have q1:=q H2 (s1.trans s2)
 unfold bZ at q1
 rw [er] at q1
 have e:km ks w1 h1 d1 d2 d3 d4=eG ks w1 h1 x1 x2 x3 x4:=by
  cases hd1 with
  | int i=>cases hd2 with
   | bl c=>cases hd3 with
    | int x=>cases hd4 with
     | int y=>rfl
     | _=>simp [km,eG,aD]
    | _=>simp [km,eG,aD]
   | _=>simp [km,eG,cn]
  | _=>simp [km,eG,cn]
 rw [← e]
 exact q1
end
def PqT (ks:List Kd) (H:Hp) (v:V) (q:Pq):Prop:=∃a,v=.ref a∧H a=some (.tup (pqV q))∧(q.k,q.c)∈lyK ks 0∧0≤q.x∧0≤q.y
theorem PqT.keep {ks:List Kd} {H H':Hp} (k:∀a xs,H a=some (.tup xs)→H' a=some (.tup xs)) {v:V} {q:Pq} (h:PqT ks H v q):PqT ks H' v q:=by
 obtain ⟨a,e,h,r⟩:=h
 exact ⟨a,e,k _ _ h,r⟩
theorem gt:∀ {ks:List Kd} {i:Nat} {q:Nat×Bool},q∈lyK ks i→i≤q.1∧∃k,ks[q.1 - i]? = some k∧(q.2=false∨aU k=true)
 | [],_,_,h=>by simp [lyK] at h
 | x :: ks,i,q,h=>by
  rcases List.mem_append.mp (show q∈lyT i x ++ lyK ks (i + 1) from h) with h | h
  ·unfold lyT at h
   rcases List.mem_cons.mp h with rfl | h
   ·exact ⟨Nat.le_refl _,x,by simp,.inl rfl⟩
   ·split at h
    ·rename_i ht
     rw [List.mem_singleton.mp h]
     exact ⟨Nat.le_refl _,x,by simp,.inr ht⟩
    ·simp at h
  ·obtain ⟨h1,k,h2,h3⟩:=gt h
   exact ⟨by omega,k,by rw [show q.1 - i=(q.1 - (i + 1)) + 1 by omega,List.getElem?_cons_succ]; exact h2,h3⟩
theorem PqT.s {ks:List Kd} {H:Hp} {v:V} {q:Pq} (h:PqT ks H v q):PqS ks H v q:=by
 obtain ⟨a,e,h,r,_⟩:=h
 obtain ⟨_,k,hk,_⟩:=gt r
 exact ⟨a,k,e,.inr h,by simpa using hk⟩
def Laid (ks:List Kd) (W h:Int) (ps:List Pq):Prop:=∀i p,ps[i]? = some p→bW ks W h (ps.take i) p=true
theorem Laid.snoc {ks:List Kd} {W h:Int} {ps:List Pq} {p:Pq} (x:Laid ks W h ps) (f:bW ks W h ps p=true):Laid ks W h (ps ++ [p]):=fun i q hq=>by
 by_cases hi:i < ps.length
 ·rw [List.getElem?_append_left hi] at hq
  rw [List.take_append_of_le_length (by omega)]
  exact x i q hq
 ·have:i=ps.length:=by
   have:=(List.getElem?_eq_some_iff.mp hq).1
   rw [List.length_append] at this
   have e:[p].length=1:=rfl
   omega
  subst this
  rw [List.getElem?_append_right (Nat.le_refl _),Nat.sub_self] at hq
  cases hq
  rw [List.take_left']
  ·exact f
  ·rfl
theorem tJ {K:PySem.W.Frag} {ks:List Kd} {H:Hp}:∀ {ys:List V} {ps:List Pq},Paired (PqT ks H) ys ps→∃ds,DatVs K H ys ds∧ds.length=ys.length∧PyData.canLayAll0 ds=true∧PyData.depthAll ds≤1
 | _,_,.nil=>⟨[],.nil,rfl,rfl,Nat.zero_le _⟩
 | _,_,.cons ⟨a,e,ha,_⟩ r=>by
  subst e
  obtain ⟨ds,d1,d2,d3,d4⟩:=tJ (K:=K) r
  refine ⟨_ :: ds,.cons (.tup (SqT.of ha) (.cons (.int _) (.cons (.bl _) (.cons (.int _) (.cons (.int _) .nil))))) d1,by rw [List.length_cons,List.length_cons,d2],?_,?_⟩
  ·simp [PyData.canLayAll0,PyData.canLay0,d3]
  ·simp only [PyData.depthAll,PyData.depth]; omega
theorem pc {ds:List PyData} (d3:PyData.canLayAll0 ds=true) (d4:PyData.depthAll ds≤1):SeqAt.shaped (.list ds)=true∧(ds=[]→PyData.eqv (.list ds) (.list [])=true)∧(ds≠[]→PyData.eqv (.list ds) (.list [])=false):=by
 refine ⟨?_,fun e=>by subst e; exact PySem.SeqAt.eqv_refl _ rfl,fun e=>?_⟩
 ·unfold SeqAt.shaped
  rw [PyData.canLay0,d3,PyData.depth,decide_eq_true (show PyData.depthAll ds + 1≤64 by omega)]; rfl
 ·cases ds with
  | nil=>exact absurd rfl e
  | cons d r=>rfl
theorem Paired.impS {α β:Type} {R S:α→β→Prop} (k:∀a b,R a b→S a b):∀ {xs:List α} {ys:List β},Paired R xs ys→Paired S xs ys
 | _,_,.nil=>.nil
 | _,_,.cons a r=>.cons (k _ _ a) (Paired.impS k r)
section
variable {P:Program} {w:World} {K:PySem.W.Frag} {mg:Str→Option Value} {base:Heap}
def kq:Sp:=fun vs H Q _=>∃ (p t kl pl:Addr) (b W h m:Int) (ks:List Kd) (ys:List V) (ps:List Pq),vs=[.ref p,.ref t,.int W,.int h,.ref pl,.int m]∧PotC H p∧LS H t b ks kl∧kl≠p∧1≤ks.length∧ks.length≤8∧(∀k∈ks,Good k)∧0≤b∧1≤W∧W < 10 ^ 58∧1≤h∧h < 10 ^ 58∧0≤m∧m≤20∧pl≠p∧H pl=some (.lst ys)∧Paired (PqT ks H) ys ps∧ys.length≤4∧Laid ks W h ps ∧
 ∀ (l:Addr) (zs:List V) (qs:List Pq) (H':Hp),H l=none→l≠p→H' l=some (.lst zs)→Paired (PqT ks H') zs qs→Laid ks W h qs→(zs.length:Int)≤ys.length + m→PotC H' p→But p H H'→Q (.ref l) H'
theorem scscat:FnScope ["_law_pot_here","_law_shop_here","_law_wide","_law_high","_law_pieces","_law_many","_law_some","_law_found","_law_k","_law_kind","_law_turned","_law_x","_law_y","_law_box_here"] ["_law_pot_here","_law_shop_here","_law_wide","_law_high","_law_pieces","_law_many"] (defScope cu):=⟨rfl,rfl,rfl,by decide +kernel,rfl,by decide +kernel,by decide +kernel⟩
theorem qT {f:Addr} {fd:FuncData} (F:Fun K "_law_scattered" "_law_scattered" cu f fd) (B:Blt mg) (DD:Dn P w K mg base "_law_take" ["_law_pot_here","_law_many"] 1 (cG)) (DLy:Dn P w K mg base "_law_lyings" ["_law_shop_here"] 1 (dD)) (DBx:Dn P w K mg base "_law_box" ["_law_shop_here","_law_piece"] 2 (lQ)) (DFi:Dn P w K mg base "_law_fits" ["_law_shop_here","_law_wide","_law_high","_law_pieces","_law_piece"] 3 (fE)):FnOk P w K mg base CX0 4 f fd ["_law_pot_here","_law_shop_here","_law_wide","_law_high","_law_pieces","_law_many"] (kq):=by
 refine F.ok scscat (fun vs H Q E h=>?_) (fun cdv A outer s H vs Q E hr h=>?_)
 ·obtain ⟨p,t,kl,pl,b,W,h1,m,ks,ys,ps,rfl,_⟩:=h
  rfl
 obtain ⟨p,t,kl,pl,b,W,h1,m,ks,ys,ps,rfl,pt,sh,nkp,k1,k08,gk,b0,w1,w58,h0,h58,m0,m20,npl,hpl,py,y4,ld,q⟩:=h
 have nd:=scscat.nd
 have hu:=hr.units
 refine ⟨_,(@af _ _ _ _ _ (@aG _ _ 6 _ _ _ _ nd rfl (Or.inl rfl) (@ar _ _ _ _ _ _ _ _ _ _ DLy (hr.mono (by decide)) rfl (@aa _ _ _ _ _ (pv 1) ad rfl) (by decide) rfl rfl) rfl (Or.inl rfl)) (@af _ _ _ _ _ (@aG _ _ 7 _ _ _ _ nd rfl (Or.inl rfl) (@bA _ _ _ _ _ _ _ _ _ dY rfl B.list PyProof.Rows.boot_list (@aa _ _ _ _ _ (pv 4) ad rfl) (by decide) (by decide) rfl rfl) rfl (Or.inl rfl)) (@af _ _ _ _ _ (@ci _ _ _ _ _ _ _ _ PassesOwn.never rfl (eM rfl B.range (@aa _ _ _ _ _ (pv 5) ad rfl)) (aw (i:=8) nd rfl (Or.inl rfl)) (@af _ _ _ _ _ (@cg _ _ _ _ _ _ (@ay _ _ _ _ _ _ _ ix_list (pv 6) (@ar _ _ _ _ _ _ _ _ _ _ DD (hr.mono (by decide)) rfl (@aa _ _ _ _ _ (pv 0) (@aa _ _ _ _ _ (@aA _ _ _ _ _ _ _ _ _ aS rfl B.len PySem.boot_len (@aa _ _ _ _ _ (pv 6) ad rfl) (by decide) (by decide) rfl rfl) ad rfl) rfl) (by decide) rfl rfl) (fun _ _=>rfl)) (bH rfl (az (aw (i:=9) nd rfl (Or.inl rfl)) (az (aw (i:=10) nd rfl (Or.inl rfl)) bf))) rfl rfl rfl) (@af _ _ _ _ _ (@aG _ _ 11 _ _ _ _ nd rfl (Or.inl rfl) (@ar _ _ _ _ _ _ _ _ _ _ DD (hr.mono (by decide)) rfl (@aa _ _ _ _ _ (pv 0) (@aa _ _ _ _ _ (pv 2) ad rfl) rfl) (by decide) rfl rfl) rfl (Or.inl rfl)) (@af _ _ _ _ _ (@aG _ _ 12 _ _ _ _ nd rfl (Or.inl rfl) (@ar _ _ _ _ _ _ _ _ _ _ DD (hr.mono (by decide)) rfl (@aa _ _ _ _ _ (pv 0) (@aa _ _ _ _ _ (pv 3) ad rfl) rfl) (by decide) rfl rfl) rfl (Or.inl rfl)) (@af _ _ _ _ _ (@aN _ _ _ _ _ _ _ _ (PW.pt (jz (@aI _ _ _ _ _ _ _ _ (sU hu) (pv 7) (@aR _ _ _ _ ad) (aH _)) (hG (@aI _ _ _ _ _ _ _ _ fH (@ar _ _ _ _ _ _ _ _ _ _ DD (hr.mono (by decide)) rfl (@aa _ _ _ _ _ (pv 0) (@aa _ _ _ _ _ ae ad rfl) rfl) (by decide) rfl rfl) ae (aH _))))) (@af _ _ _ _ _ (@aG _ _ 13 _ _ _ _ nd rfl (Or.inl rfl) (@ar _ _ _ _ _ _ _ _ _ _ DBx (hr.mono (by decide)) rfl (@aa _ _ _ _ _ (pv 1) (@aa _ _ _ _ _ (@ay _ _ _ _ _ _ _ ix_list (pv 7) (@ar _ _ _ _ _ _ _ _ _ _ DD (hr.mono (by decide)) rfl (@aa _ _ _ _ _ (pv 0) (@aa _ _ _ _ _ (@aA _ _ _ _ _ _ _ _ _ aS rfl B.len PySem.boot_len (@aa _ _ _ _ _ (pv 7) ad rfl) (by decide) (by decide) rfl rfl) ad rfl) rfl) (by decide) rfl rfl) (fun _ _=>rfl)) ad rfl) rfl) (by decide) rfl rfl) rfl (Or.inl rfl)) (@af _ _ _ _ _ (@aG _ _ 11 _ _ _ _ nd rfl (Or.inl rfl) (@ay _ _ _ _ _ _ _ ix_list (@aR _ _ _ _ (@aa _ _ _ _ _ (@ay _ _ _ _ _ _ _ ix_tup (pv 13) ae (fun _ _=>rfl)) (@aa _ _ _ _ _ (@ay _ _ _ _ _ _ _ ix_tup (pv 13) ae (fun _ _=>rfl)) (@aa _ _ _ _ _ (@aF _ _ _ _ _ _ _ _ aT (@ay _ _ _ _ _ _ _ ix_tup (pv 13) ae (fun _ _=>rfl)) (@ay _ _ _ _ _ _ _ ix_tup (pv 1) ae (fun _ _=>rfl))) ad rfl) rfl) rfl)) (@ar _ _ _ _ _ _ _ _ _ _ DD (hr.mono (by decide)) rfl (@aa _ _ _ _ _ (pv 0) (@aa _ _ _ _ _ ae ad rfl) rfl) (by decide) rfl rfl) (fun _ _=>rfl)) rfl (Or.inl rfl)) (@ah _ _ _ (@aG _ _ 12 _ _ _ _ nd rfl (Or.inl rfl) (@ay _ _ _ _ _ _ _ ix_list (@aR _ _ _ _ (@aa _ _ _ _ _ (@ay _ _ _ _ _ _ _ ix_tup (pv 13) ae (fun _ _=>rfl)) (@aa _ _ _ _ _ (@ay _ _ _ _ _ _ _ ix_tup (pv 13) ae (fun _ _=>rfl)) (@aa _ _ _ _ _ (@aF _ _ _ _ _ _ _ _ aT (@ay _ _ _ _ _ _ _ ix_tup (pv 13) ae (fun _ _=>rfl)) (@ay _ _ _ _ _ _ _ ix_tup (pv 1) ae (fun _ _=>rfl))) ad rfl) rfl) rfl)) (@ar _ _ _ _ _ _ _ _ _ _ DD (hr.mono (by decide)) rfl (@aa _ _ _ _ _ (pv 0) (@aa _ _ _ _ _ ae ad rfl) rfl) (by decide) rfl rfl) (fun _ _=>rfl)) rfl (Or.inl rfl))))) aB) (@ah _ _ _ (@aN _ _ _ _ _ _ _ _ (@aK _ _ _ (@ar _ _ _ _ _ _ _ _ _ _ DFi hr rfl (@aa _ _ _ _ _ (pv 1) (@aa _ _ _ _ _ (pv 2) (@aa _ _ _ _ _ (pv 3) (@aa _ _ _ _ _ (pv 7) (@aa _ _ _ _ _ (@aO _ _ _ _ _ (@aa _ _ _ _ _ (pv 9) (@aa _ _ _ _ _ (pv 10) (@aa _ _ _ _ _ (pv 11) (@aa _ _ _ _ _ (pv 12) ad rfl) rfl) rfl) rfl)) ad rfl) rfl) rfl) rfl) rfl) (by decide) rfl rfl) (by intro _; rfl)) (@ah _ _ _ (@ce _ _ _ _ (@dZ _ _ _ _ _ _ _ _ _ _ _ _ PySem.F.plainAttrs_list PySem.F.slot_list_append PySem.F.type_list_append bP (pv 7) (@aa _ _ _ _ _ (@aO _ _ _ _ _ (@aa _ _ _ _ _ (pv 9) (@aa _ _ _ _ _ (pv 10) (@aa _ _ _ _ _ (pv 11) (@aa _ _ _ _ _ (pv 12) ad rfl) rfl) rfl) rfl)) ad rfl) rfl rfl rfl rfl rfl) rfl)) aB)))))) (by intro _; rfl)) (@ah _ _ _ (@av _ _ _ _ (pv 7)))))),?_⟩
 have sz:(1000:Nat) < sizeLine:=by decide
 have e58:(10:Int) ^ 58 < 10 ^ 60:=by decide
 have e3:(100:Int) < 10 ^ 60:=by decide
 refine aj (fun σ' H'=>∃ (so:Addr) (ss:List V),σ'=[some (.ref p),some (.ref t),some (.int W),some (.int h1),some (.ref pl),some (.int m),some (.ref so),none,none,none,none,none,none,none]∧so≠p∧H' so=some (.lst ss)∧Paired (LyC H') ss (lyK ks 0)∧Same H H') (fun R hR=>?_) ?_
 ·exact ⟨_,rfl,t,kl,b,ks,rfl,sh,k08,fun l ss H1 hl hl0 pl1 s1=>hR _ _ ⟨l,ss,rfl,Ne.symm (pt.ne hl0),hl,pl1,s1⟩⟩
 rintro _ H1 ⟨so,ss,rfl,nsp,hso,pso,s1⟩
 have pt1:=pt.same s1
 refine aj (fun σ' H'=>∃fo:Addr,σ'=[some (.ref p),some (.ref t),some (.int W),some (.int h1),some (.ref pl),some (.int m),some (.ref so),some (.ref fo),none,none,none,none,none,none]∧H1 fo=none∧H' fo=some (.lst ys)∧Same H1 H') (fun R hR=>?_) ?_
 ·refine ⟨_,rfl,pl,_,rfl,.inl (SqL.of (s1 _ _ hpl)),fun fo hfo=>?_⟩
  obtain ⟨H2,e2,k2,s2⟩:∃H',upd H1 fo (.lst ys)=H'∧H' fo=some (.lst ys)∧Same H1 H':=⟨_,rfl,ag,Same.new hfo⟩
  rw [show upd H1 fo _=H2 from e2]
  exact hR _ _ ⟨fo,rfl,hfo,k2,s2⟩
 rintro _ H2 ⟨fo,rfl,hfo1,hfo2,s12⟩
 have s02:=s1.trans s12
 have pt2:=pt.same s02
 have hfo0:H fo=none:=s1.free hfo1
 have nfp:fo≠p:=Ne.symm (pt1.ne hfo1)
 have nso:so≠fo:=ai hso hfo1
 obtain ⟨kr,lst1,lst2,lst3⟩:=id sh
 have nkf:kl≠fo:=ai lst2 hfo0
 have lyl:=Paired.length pso
 have ly8:=ii ks 0
 have ly1:1≤(lyK ks 0).length:=by
  cases ks with
  | nil=>exact absurd k1 (by simp)
  | cons k r=>exact Nat.succ_le_of_lt (Nat.zero_lt_succ _)
 obtain ⟨_,hp2⟩:=fv pt2
 have tk:∀ {Hx:Hp},(∀c o,c≠p→c≠fo→H2 c=some o→Hx c=some o)→∀a xs,H2 a=some (.tup xs)→Hx a=some (.tup xs):=fun bx a xs e=>bx _ _ (fun z=>by rw [z,hp2] at e; cases e) (fun z=>by rw [z,hfo2] at e; cases e) e
 have bt:∀ {Hx Hy:Hp},(∀c o,c≠p→c≠fo→H2 c=some o→Hx c=some o)→But p Hx Hy→∀c o,c≠p→c≠fo→H2 c=some o→Hy c=some o:=fun b1 b2 c o n1 n2 e=>b2 _ _ n1 (b1 _ _ n1 n2 e)
 have shx:∀ {Hx:Hp},(∀c o,c≠p→c≠fo→H2 c=some o→Hx c=some o)→LS Hx t b ks kl:=fun bx=>⟨kr,tk bx _ _ (s02 _ _ lst1),bx _ _ nkp nkf (s02 _ _ lst2),Tups.keep (fun a xs e=>tk bx _ _ (s02 _ _ e)) lst3⟩
 refine aj (fun σ' H'=>(∃ (v8 v9 v10 v11 v12 v13:Option V) (zs:List V) (qs:List Pq),σ'=[some (.ref p),some (.ref t),some (.int W),some (.int h1),some (.ref pl),some (.int m),some (.ref so),some (.ref fo),v8,v9,v10,v11,v12,v13]∧H' fo=some (.lst zs)∧Paired (PqT ks H') zs qs∧Laid ks W h1 qs∧zs.length≤ys.length + m.toNat∧PotC H' p∧∀c o,c≠p→c≠fo→H2 c=some o→H' c=some o)) (fun R hR=>?_) ?_
 ·refine ⟨_,rfl,_,rfl,by omega,by omega,?_⟩
  refine eO (n:=m.toNat) (fun i σ' H'=>(∃ (v8 v9 v10 v11 v12 v13:Option V) (zs:List V) (qs:List Pq),σ'=[some (.ref p),some (.ref t),some (.int W),some (.int h1),some (.ref pl),some (.int m),some (.ref so),some (.ref fo),v8,v9,v10,v11,v12,v13]∧H' fo=some (.lst zs)∧Paired (PqT ks H') zs qs∧Laid ks W h1 qs∧zs.length≤ys.length + i∧PotC H' p∧∀c o,c≠p→c≠fo→H2 c=some o→H' c=some o)) ⟨_,_,_,_,_,_,ys,ps,rfl,hfo2,Paired.mapP py fun v q h=>h.keep fun a xs e=>s02 _ _ e,ld,Nat.le_refl _,pt2,fun _ _ _ _ e=>e⟩ ?_ (fun σ Hx h=>hR _ _ h)
  rintro i _ H4 hi ⟨v8,v9,v10,v11,v12,v13,zs,qs,rfl,hz4,pz4,ld4,zl4,pt4,b4⟩
  have zq:=Paired.length pz4
  refine aj (fun σ' H'=>∃ (lk:Nat) (lc:Bool),σ'=[some (.ref p),some (.ref t),some (.int W),some (.int h1),some (.ref pl),some (.int m),some (.ref so),some (.ref fo),some (.int (0 + (i:Int))),some (.int lk),some (.bl lc),v11,v12,v13]∧(lk,lc)∈lyK ks 0∧PotC H' p∧But p H4 H') (fun R hR=>?_) ?_
  ·have hso4:=b4 _ _ nsp nso (s12 _ _ hso)
   refine ⟨_,rfl,_,rfl,_,rfl,so,_,rfl,.inl (SqL.of hso4),p,_,rfl,pt4,by omega,by omega,fun r H5 r0 r1 pt5 b5=>?_⟩
   obtain ⟨v,hv⟩:∃v,ss[r.toNat]? = some v:=⟨_,List.getElem?_eq_getElem (show r.toNat < ss.length by omega)⟩
   obtain ⟨q0,hq0,aq,rfl,haq⟩:=Paired.getR pso hv
   have haq5:=tk (bt b4 b5) _ _ (s12 _ _ haq)
   exact ⟨so,_,_,_,rfl,rfl,SqL.of (b5 _ _ nsp hso4),cA r0 hv,aq,_,rfl,SqT.of haq5,rfl,_,_,rfl,_,_,rfl,rfl,hR _ _ ⟨q0.1,q0.2,rfl,List.mem_of_getElem? hq0,pt5,b5⟩⟩
  rintro _ H5 ⟨lk,lc,rfl,hly,pt5,b45⟩
  refine aj (fun σ' H'=>∃x:Int,σ'=[some (.ref p),some (.ref t),some (.int W),some (.int h1),some (.ref pl),some (.int m),some (.ref so),some (.ref fo),some (.int (0 + (i:Int))),some (.int lk),some (.bl lc),some (.int x),v12,v13]∧0≤x∧PotC H' p∧But p H4 H') (fun R hR=>?_) ?_
  ·exact ⟨_,rfl,_,rfl,p,W,rfl,pt5,by omega,by omega,fun x H6 x0 x1 pt6 b6=>hR _ _ ⟨x,rfl,x0,pt6,b45.trans b6⟩⟩
  rintro _ H6 ⟨x,rfl,x0,pt6,b46⟩
  refine aj (fun σ' H'=>∃y:Int,σ'=[some (.ref p),some (.ref t),some (.int W),some (.int h1),some (.ref pl),some (.int m),some (.ref so),some (.ref fo),some (.int (0 + (i:Int))),some (.int lk),some (.bl lc),some (.int x),some (.int y),v13]∧0≤y∧PotC H' p∧But p H4 H') (fun R hR=>?_) ?_
  ·exact ⟨_,rfl,_,rfl,p,h1,rfl,pt6,by omega,by omega,fun y H7 y0 y1 pt7 b7=>hR _ _ ⟨y,rfl,y0,pt7,b46.trans b7⟩⟩
  rintro _ H7 ⟨y,rfl,y0,pt7,b47⟩
  refine aj (fun σ' H'=>∃ (x y:Int) (v13:Option V),σ'=[some (.ref p),some (.ref t),some (.int W),some (.int h1),some (.ref pl),some (.int m),some (.ref so),some (.ref fo),some (.int (0 + (i:Int))),some (.int lk),some (.bl lc),some (.int x),some (.int y),v13]∧0≤x∧0≤y∧PotC H' p∧But p H4 H') (fun R hR=>?_) ?_
  ·have hz7:=b47 _ _ nfp hz4
   have pz7:Paired (PqT ks H7) zs qs:=Paired.mapP pz4 fun v q h=>h.keep fun a xs e=>fh b47 pt4 e
   refine ⟨_,rfl,by decide,fun e he=>?_⟩
   obtain ⟨H8,e8,k8,n8,s8,b8,pt8⟩:=aW (o:=.lst []) b47 pt7 he
   rw [show upd H7 e _=H8 from e8]
   obtain ⟨ds,d1,d2,d3,d4⟩:=tJ (K:=K) (Paired.mapP pz7 fun v q h=>h.keep fun a xs e=>s8 _ _ e)
   obtain ⟨sh1,sh2,sh3⟩:=pc d3 d4
   refine ⟨.list ds,.list [],.lst (SqL.of (s8 _ _ hz7)) d1,.lst (SqL.of k8) .nil,sh1,by decide +kernel,_,rfl,?_⟩
   by_cases hz0:zs=[]
   ·rw [sh2 (by rw [hz0] at d2; exact List.eq_nil_of_length_eq_zero d2)]
    exact aP (hR _ _ ⟨x,y,v13,rfl,x0,y0,pt8,b8⟩)
   rw [sh3 (fun z=>hz0 (by rw [z] at d2; exact List.eq_nil_of_length_eq_zero d2.symm))]
   have zpos:1≤zs.length:=Nat.pos_of_ne_zero (fun z=>hz0 (List.eq_nil_of_length_eq_zero z))
   refine aX ⟨_,rfl,p,2,rfl,pt8,by decide,by decide,fun z H9 z0 z1 pt9 b9=>⟨rfl,_,rfl,?_⟩⟩
   refine bQ (fun cc=>?_) (fun cc=>hR _ _ ⟨x,y,v13,rfl,x0,y0,pt9,b8.trans b9⟩)
   have b49:=b8.trans b9
   have hz9:=b9 _ _ nfp (s8 _ _ hz7)
   refine aj (fun σ' H'=>∃ (bx:Addr) (g:Bx),σ'=[some (.ref p),some (.ref t),some (.int W),some (.int h1),some (.ref pl),some (.int m),some (.ref so),some (.ref fo),some (.int (0 + (i:Int))),some (.int lk),some (.bl lc),some (.int x),some (.int y),some (.ref bx)]∧H' bx=some (.tup (bxV g))∧0≤g.a∧0≤g.b∧0≤g.c∧0≤g.d∧PotC H' p∧But p H4 H') (fun R2 hR2=>?_) ?_
   ·refine ⟨_,rfl,_,rfl,_,rfl,_,rfl,fo,_,rfl,.inl (SqL.of hz9),p,_,rfl,pt9,by omega,by omega,fun r H10 r0 r1 pt10 b10=>?_⟩
    obtain ⟨v,hv⟩:∃v,zs[r.toNat]? = some v:=⟨_,List.getElem?_eq_getElem (show r.toNat < zs.length by omega)⟩
    obtain ⟨q0,hq0,aq,rfl,haq,hqly,q0x,q0y⟩:=Paired.getR pz4 hv
    obtain ⟨_,k0,hk0,_⟩:=gt hqly
    have hk0:ks[q0.k]? = some k0:=by simpa using hk0
    have g0:=gk k0 (List.mem_of_getElem? hk0)
    have b410:=b49.trans b10
    refine ⟨fo,_,_,_,rfl,rfl,SqL.of (b10 _ _ nfp hz9),cA r0 hv,t,kl,aq,b,ks,q0,k0,rfl,shx (bt b4 b410),.inr (fh b410 pt4 haq),hk0,fun bx H11 hbx s11=>hR2 _ _ ⟨bx,ki k0 q0,rfl,hbx,q0x,q0y,?_,?_,pt10.same s11,fun c o n e=>s11 _ _ (b410 _ _ n e)⟩⟩
    ·show 0≤q0.x + sd1 k0 q0.c
     have g1:=g0.w; have g2:=g0.h
     unfold sd1; split <;> omega
    ·show 0≤q0.y + sd2 k0 q0.c
     have g1:=g0.w; have g2:=g0.h
     unfold sd2; split <;> omega
   rintro _ Hq ⟨bx,g,rfl,hb,ga,gb,gc,gd,ptq,bq⟩
   have ht:Hq t=some (.tup [.int b,.ref kl]):=(shx (bt b4 bq)).choose_spec.1
   refine aj (fun σ' H'=>∃x:Int,σ'=[some (.ref p),some (.ref t),some (.int W),some (.int h1),some (.ref pl),some (.int m),some (.ref so),some (.ref fo),some (.int (0 + (i:Int))),some (.int lk),some (.bl lc),some (.int x),some (.int y),some (.ref bx)]∧0≤x∧H' bx=some (.tup (bxV g))∧PotC H' p∧But p H4 H') (fun R3 hR3=>?_) ?_
   ·skip
    refine ⟨_,rfl,bx,_,0,_,rfl,rfl,SqT.of hb,rfl,_,rfl,bx,_,2,_,rfl,rfl,SqT.of hb,rfl,_,rfl,bx,_,2,_,rfl,rfl,SqT.of hb,rfl,_,rfl,t,_,0,_,rfl,rfl,SqT.of ht,rfl,_,_,rfl,rfl,(by show 3≤sizeLine; decide),fun l3 hl3=>?_⟩
    obtain ⟨H20,e20,k20,n20,s20,b20,pt20⟩:=aW (o:=.lst [.int g.a,.int g.c,.int (g.c + b)]) bq ptq hl3
    rw [show upd Hq l3 _=H20 from e20]
    refine ⟨_,rfl,p,3,rfl,pt20,by decide,by decide,fun z H21 z0 z1 pt21 b21=>?_⟩
    obtain ⟨xx,hxx,xx0⟩:∃xx:Int,atI [V.int g.a,V.int g.c,V.int (g.c + b)] z=some (.int xx)∧0≤xx:=by
     have:z=0∨z=1∨z=2:=by omega
     rcases this with rfl | rfl | rfl
     ·exact ⟨_,rfl,by omega⟩
     ·exact ⟨_,rfl,by omega⟩
     ·exact ⟨_,rfl,by omega⟩
    exact ⟨l3,_,_,_,rfl,rfl,SqL.of (b21 _ _ n20 k20),hxx,hR3 _ _ ⟨xx,rfl,xx0,fh b21 pt20 (s20 _ _ hb),pt21,b20.trans b21⟩⟩
   clear hb ht ptq bq
   clear Hq
   rintro _ Hq ⟨x,rfl,x0,hb,ptq,bq⟩
   have ht:Hq t=some (.tup [.int b,.ref kl]):=(shx (bt b4 bq)).choose_spec.1
   refine ⟨_,rfl,bx,_,1,_,rfl,rfl,SqT.of hb,rfl,_,rfl,bx,_,3,_,rfl,rfl,SqT.of hb,rfl,_,rfl,bx,_,3,_,rfl,rfl,SqT.of hb,rfl,_,rfl,t,_,0,_,rfl,rfl,SqT.of ht,rfl,_,_,rfl,rfl,(by show 3≤sizeLine; decide),fun l3 hl3=>?_⟩
   obtain ⟨H20,e20,k20,n20,s20,b20,pt20⟩:=aW (o:=.lst [.int g.b,.int g.d,.int (g.d + b)]) bq ptq hl3
   rw [show upd Hq l3 _=H20 from e20]
   refine ⟨_,rfl,p,3,rfl,pt20,by decide,by decide,fun z H21 z0 z1 pt21 b21=>?_⟩
   obtain ⟨xx,hxx,xx0⟩:∃xx:Int,atI [V.int g.b,V.int g.d,V.int (g.d + b)] z=some (.int xx)∧0≤xx:=by
    have:z=0∨z=1∨z=2:=by omega
    rcases this with rfl | rfl | rfl
    ·exact ⟨_,rfl,by omega⟩
    ·exact ⟨_,rfl,by omega⟩
    ·exact ⟨_,rfl,by omega⟩
   exact ⟨l3,_,_,_,rfl,rfl,SqL.of (b21 _ _ n20 k20),hxx,hR _ _ ⟨x,xx,some (.ref bx),rfl,x0,xx0,pt21,b20.trans b21⟩⟩
  clear b45 b46 b47 pt5 pt6 pt7 x0 y0
  clear H5 H6 H7 x y v13
  rintro _ H7 ⟨x,y,v13,rfl,x0,y0,pt7,b47⟩
  have hz7:=b47 _ _ nfp hz4
  have pz7:Paired (PqT ks H7) zs qs:=Paired.mapP pz4 fun v q h=>h.keep fun a xs e=>fh b47 pt4 e
  obtain ⟨_,kk,hkk,_⟩:=gt hly
  have hkk:ks[lk]? = some kk:=by simpa using hkk
  refine ⟨_,rfl,_,rfl,_,rfl,_,rfl,_,rfl,_,rfl,_,rfl,_,rfl,(by show 4≤sizeLine; decide),fun a ha=>?_⟩
  obtain ⟨H8,e8,k8,n8,s8,b8,pt8⟩:=aW (o:=.tup [.int lk,.bl lc,.int x,.int y]) b47 pt7 ha
  rw [show upd H7 a _=H8 from e8]
  refine ⟨t,kl,fo,a,b,W,h1,ks,zs,qs,⟨lk,lc,x,y⟩,kk,rfl,shx (bt b4 b8),s8 _ _ hz7,Paired.impS (fun v q h=>(PqT.keep (fun a xs e=>s8 _ _ e) h).s) pz7,by omega,.inr k8,hkk,fun H9 s9=>⟨_,rfl,?_⟩⟩
  have s79:=s8.trans s9
  have b49:But p H4 H9:=fun c o n e=>s79 _ _ (b47 _ _ n e)
  refine bQ (fun cc=>?_) (fun cc=>?_)
  ·have hz9:=s79 _ _ hz7
   refine ⟨_,rfl,.inl ⟨rfl,_,SqL.of hz9⟩,_,rfl,_,rfl,_,rfl,_,rfl,(by show 4≤sizeLine; decide),fun a2 ha2=>?_⟩
   obtain ⟨H10,e10,k10,n10,s10,b10,pt10⟩:=aW (o:=.tup [.int lk,.bl lc,.int x,.int y]) b49 (pt8.same s9) ha2
   rw [show upd H9 a2 _=H10 from e10]
   have hz10:=s10 _ _ hz9
   have kt:∀c xs,H10 c=some (.tup xs)→(upd H10 fo (.lst (zs ++ [.ref a2]))) c=some (.tup xs):=fun c xs e=>by
    rw [au (fun z=>by rw [z,hz10] at e; cases e)]; exact e
   refine ⟨fo,_,_,rfl,rfl,hz10,by omega,_,_,_,_,_,_,zs ++ [.ref a2],qs ++ [⟨lk,lc,x,y⟩],rfl,ag,?_,ld4.snoc cc,by rw [List.length_append]; show zs.length + 1≤_; omega,pt10.put (Ne.symm nfp),fun c o n n2 e=>by rw [au n2]; exact b10 _ _ n (b4 _ _ n n2 e)⟩
   exact jp (Paired.mapP pz7 fun v q h=>h.keep fun a xs e=>kt _ _ (s10 _ _ (s79 _ _ e))) (.cons ⟨a2,rfl,kt _ _ k10,hly,x0,y0⟩ .nil)
  ·exact ⟨_,_,_,_,_,_,zs,qs,rfl,s79 _ _ hz7,Paired.mapP pz7 fun v q h=>h.keep fun a xs e=>s79 _ _ e,ld4,by omega,pt8.same s9,bt b4 b49⟩
 rintro _ H3 ⟨v8,v9,v10,v11,v12,v13,zs,qs,rfl,hz3,pz3,ld3,zl3,pt3,b3⟩
 exact ⟨_,rfl,q fo zs qs H3 hfo0 nfp hz3 pz3 ld3 (by omega) pt3 (fun c o n e=>b3 _ _ n (ai e hfo0) (s02 _ _ e))⟩
end
theorem Dt.ref_row {p:Addr} {H:Hp} {v:V} {d:PyData} {ds:List PyData} (h:Dt p H v d) (e:bv d=some ds):∃a xs,v=.ref a∧(H a=some (.lst xs)∨H a=some (.tup xs))∧Dts p H xs ds:=by
 cases h <;> simp only [bv,Option.some.injEq,reduceCtorEq] at e
 ·subst e; exact ⟨_,_,rfl,.inl ‹_›,‹_›⟩
 ·subst e; exact ⟨_,_,rfl,.inr ‹_›,‹_›⟩
theorem iw:∀ds:List PyData,ds.length≤wts ds
 | []=>Nat.le_refl _
 | d :: r=>by have:=iw r; have:=xF d; rw [List.length_cons,wts]; omega
theorem Dts.get {p:Addr} {H:Hp}:∀ {vs:List V} {ds:List PyData} {i:Nat} {x:V},Dts p H vs ds→vs[i]? = some x→∃d,ds[i]? = some d∧Dt p H x d
 | _,_,0,_,.cons a _,e=>⟨_,rfl,by cases e; exact a⟩
 | _,_,i + 1,_,.cons _ r,e=>by
  obtain ⟨d,h1,h2⟩:=r.get (i:=i) (by simpa using e)
  exact ⟨d,by simpa using h1,h2⟩
theorem jq {d:PyData} {ds:List PyData} (h:bv d=some ds):wt d=wts ds + 1:=by
 cases d <;> simp only [bv,Option.some.injEq,reduceCtorEq] at h
 ·subst h; rw [wt]
 ·subst h; rw [wt]
def dH (o r:Bx):Bool:=(decide (o.a < r.c) && decide (r.a < o.c)) && (decide (o.b < r.d) && decide (r.b < o.d))
def PqD (d:PyData) (p:Pq):Prop:=bv d=some [.int p.k,.bool p.c,.int p.x,.int p.y]
def gW (ks:List Kd) (ps:List Pq):Prop:=∀i p,ps[i]? = some p→∀q∈ps.take i,dH (bg ks p) (bg ks q)=false
def cU (ks:List Kd) (w h:Int) (d:PyData):Prop:=∃ds ps,bv d=some ds∧Paired PqD ds ps∧(∀x∈ds,bZ ks w h x=true)∧gW ks ps
theorem Paired.uniq {α β:Type} {R:α→β→Prop} (u:∀a b c,R a b→R a c→b=c):∀ {xs:List α} {ys zs:List β},Paired R xs ys→Paired R xs zs→ys=zs
 | _,_,_,.nil,.nil=>rfl
 | _,_,_,.cons a r,.cons b s=>by rw [u _ _ _ a b,Paired.uniq u r s]
theorem PqD.uniq (d:PyData) (p q:Pq) (h:PqD d p) (h':PqD d q):p=q:=by
 unfold PqD at h h'
 rw [h] at h'
 obtain ⟨a,b,c,e⟩:=p
 obtain ⟨a',b',c',e'⟩:=q
 simp only [Option.some.injEq,List.cons.injEq,PyData.int.injEq,PyData.bool.injEq,and_true] at h'
 obtain ⟨h1,h2,h3,h4⟩:=h'
 have h1:(a:Int)=(a':Int):=h1
 have h1:a=a':=by omega
 subst h1
 have h2:b=b':=h2
 have h3:c=c':=h3
 have h4:e=e':=h4
 subst h2; subst h3; subst h4
 rfl
theorem lR {ks:List Kd} {w h:Int} {d:PyData} (x:bZ ks w h d=true):∃p k,PqD d p∧cn ks (.int p.k) (.bl p.c)=true∧ks[p.k]? = some k∧0≤p.x∧0≤p.y∧p.x + sd1 k p.c≤w∧p.y + sd2 k p.c≤h:=by
 unfold bZ at x
 split at x
 ·rename_i d1 d2 d3 d4 er
  unfold km at x
  split at x
  ·rename_i i c xx yy
   unfold eG at x
   simp only [Bool.and_eq_true] at x
   obtain ⟨⟨⟨x1,x2⟩,x3⟩,x4⟩:=x
   obtain ⟨i',c',k',e1,e2,i0,hk⟩:=fg x1
   cases e1
   cases e2
   rw [hk] at x4
   have ei:((i.toNat:Nat):Int)=i:=by omega
   have x4:=Bool.and_eq_true_iff.mp x4
   have w1:aD (.int xx) 0=decide (0≤xx):=rfl
   have w2:aD (.int yy) 0=decide (0≤yy):=rfl
   rw [w1] at x2; rw [w2] at x3
   exact ⟨⟨i.toNat,c,xx,yy⟩,k',by unfold PqD; rw [er]; show some [PyData.int i,_,_,_]=some [PyData.int ((i.toNat:Nat):Int),_,_,_]; rw [ei],by show cn ks (.int ((i.toNat:Nat):Int)) _=true; rw [ei]; exact x1,hk,of_decide_eq_true x2,of_decide_eq_true x3,of_decide_eq_true x4.1,of_decide_eq_true x4.2⟩
  ·cases x
 ·cases x
theorem gu {ks:List Kd} {w h:Int}:∀ {ds:List PyData},(∀x∈ds,bZ ks w h x=true)→∃ps,Paired PqD ds ps∧∀p∈ps,∃k,cn ks (.int p.k) (.bl p.c)=true∧ks[p.k]? = some k∧0≤p.x∧0≤p.y∧p.x + sd1 k p.c≤w∧p.y + sd2 k p.c≤h
 | [],_=>⟨[],.nil,fun p hp=>by simp at hp⟩
 | d :: ds,hh=>by
  obtain ⟨p,k,h1,h2⟩:=lR (hh d List.mem_cons_self)
  obtain ⟨ps,g1,g2⟩:=gu (fun x hx=>hh x (List.mem_cons_of_mem _ hx))
  refine ⟨p :: ps,.cons h1 g1,fun q hq=>?_⟩
  rcases List.mem_cons.mp hq with rfl | hq
  ·exact ⟨k,h2⟩
  ·exact g2 q hq
theorem Dt.pq {p:Addr} {H:Hp} {v:V} {d:PyData} {q:Pq} (h:Dt p H v d) (e:PqD d q):∃a,v=.ref a∧Sq H a (pqV q):=by
 obtain ⟨a,xs,rfl,hx,dx⟩:=h.ref_row e
 obtain ⟨x1,x2,x3,x4,d1,d2,d3,d4,rfl,e2,h1,h2,h3,h4⟩:=dx.four rfl
 cases e2
 cases h1; cases h2; cases h3; cases h4
 exact ⟨a,rfl,hx⟩
def SpAt (H:Hp) (v:V) (g:Bx):Prop:=∃r r1 r2,v=.ref r∧H r=some (.tup [.ref r1,.ref r2])∧H r1=some (.tup [.int g.a,.int g.c])∧H r2=some (.tup [.int g.b,.int g.d])
theorem SpAt.same {H H':Hp} (s:Same H H') {v:V} {g:Bx} (h:SpAt H v g):SpAt H' v g:=by
 obtain ⟨r,r1,r2,e,h1,h2,h3⟩:=h
 exact ⟨r,r1,r2,e,s _ _ h1,s _ _ h2,s _ _ h3⟩
section
variable {P:Program} {w:World} {K:PySem.W.Frag} {mg:Str→Option Value} {base:Heap}
def tK:Sp:=fun vs H Q _=>∃ (w h:Int),vs=[.int w,.int h]∧1≤w∧1≤h∧Q .non H
def eH (C:Addr):Sp:=fun vs H Q _=>∃ (pp s:Addr) (b w h:Int) (ks:List Kd) (v:V) (d:PyData),vs=[.ref s,.int w,.int h,v]∧ShopAt C H s b ks∧1≤w∧1≤h∧Dt pp H v d∧wt d≤30000∧∀ (r:Bool) (H':Hp),(r=true↔cU ks w h d)→Same H H'→Q (.bl r) H'
theorem sccplate:FnScope ["wide","high"] ["wide","high"] (defScope br):=⟨rfl,rfl,rfl,by decide +kernel,rfl,by decide +kernel,by decide +kernel⟩
theorem mL {f:Addr} {fd:FuncData} (F:Fun K "check_plate" "check_plate" br f fd) (DW:Dn P w K mg base "is_whole" ["thing","least"] 1 (cz K)):FnOk P w K mg base CX0 2 f fd ["wide","high"] (tK):=by
 refine F.ok sccplate (fun vs H Q E h=>?_) (fun cdv A outer s H vs Q E hr h=>?_)
 ·obtain ⟨w1,h1,rfl,_⟩:=h
  rfl
 obtain ⟨w1,h1,rfl,w0,h0,q⟩:=h
 have nd:=sccplate.nd
 refine ⟨_,(@ah _ _ _ (@aN _ _ _ _ _ _ _ _ (PW.pt (bI (@aQ _ _ _ _ (@aK _ _ _ (@ar _ _ _ _ _ _ _ _ _ _ DW hr rfl (@aa _ _ _ _ _ (pv 0) (@aa _ _ _ _ _ ae ad rfl) rfl) (by decide) rfl rfl) (by intro _; rfl))) (bC (@aQ _ _ _ _ (@aK _ _ _ (@ar _ _ _ _ _ _ _ _ _ _ DW hr rfl (@aa _ _ _ _ _ (pv 1) (@aa _ _ _ _ _ ae ad rfl) rfl) (by decide) rfl rfl) (by intro _; rfl)))))) (@ah _ _ _ bS) aB)),?_⟩
 refine ⟨_,rfl,.int w1,"int",1,rfl,Ty.int,_,rfl,?_⟩
 rw [show aD (.int w1) 1=true from decide_eq_true w0]
 refine aP ⟨_,rfl,.int h1,"int",1,rfl,Ty.int,_,rfl,?_⟩
 rw [show aD (.int h1) 1=true from decide_eq_true h0]
 exact aP q
theorem scislay:FnScope ["shop","wide","high","thing","spans","at","columns","rows","other_columns","other_rows"] ["shop","wide","high","thing"] (defScope bB):=⟨rfl,rfl,rfl,by decide +kernel,rfl,by decide +kernel,by decide +kernel⟩
set_option maxHeartbeats 1000000 in
theorem jr {f C:Addr} {fd:FuncData} (F:Fun K "is_laying" "is_laying" bB f fd) (B:Blt mg) (DCP:Dn P w K mg base "check_plate" ["wide","high"] 2 (tK)) (DR:Dn P w K mg base "is_row" ["thing"] 1 (gL K)) (DPl:Dn P w K mg base "is_placed" ["shop","wide","high","thing"] 5 (gr C)) (DSn:Dn P w K mg base "spans_of" ["shop","piece"] 4 (fF C)) (DM:Dn P w K mg base "meet" ["one","other"] 1 (kn)):FnOk P w K mg base CX0 6 f fd ["shop","wide","high","thing"] (eH C):=by
 refine F.ok scislay (fun vs H Q E h=>?_) (fun cdv A outer s H vs Q E hr h=>?_)
 ·obtain ⟨pp,s,b',w1,h1,ks,v,d,rfl,_⟩:=h
  rfl
 obtain ⟨pp,s,b',w1,h1,ks,v,d,rfl,S,hw,hh,hd,wd,q⟩:=h
 have nd:=scislay.nd
 refine ⟨_,(@af _ _ _ _ _ (@ce _ _ _ _ (@ar _ _ _ _ _ _ _ _ _ _ DCP (hr.mono (by decide)) rfl (@aa _ _ _ _ _ (pv 1) (@aa _ _ _ _ _ (pv 2) ad rfl) rfl) (by decide) rfl rfl) rfl) (@af _ _ _ _ _ (@aN _ _ _ _ _ _ _ _ (PW.pt (bI (@aQ _ _ _ _ (@aK _ _ _ (@ar _ _ _ _ _ _ _ _ _ _ DR (hr.mono (by decide)) rfl (@aa _ _ _ _ _ (pv 3) ad rfl) (by decide) rfl rfl) (by intro _; rfl))) (bC (@aQ _ _ _ _ (@aK _ _ _ (@aA _ _ _ _ _ _ _ _ _ (fc rfl) rfl B.all PyProof.Rows.boot_all (@aa _ _ _ _ _ (du (own:=["piece"]) (cs:=["shop","wide","high"]) (cap:=[0,1,2]) rfl (fO (pv 3)) (bn (sc:=defScope bB) (N:=["shop","wide","high","thing","spans","at","columns","rows","other_columns","other_rows"]) rfl rfl (by decide +kernel)) (fun _ _ _ _ _=>aw (i:=0) (by show List.Nodup (["piece","shop","wide","high"]:List Str) ; decide +kernel) rfl (Or.inl rfl) (Or.inr rfl)) (fun _ _ _ _ _=>bU) (fun _ _ _ _ _=>(@ar _ _ _ _ _ _ _ _ _ _ DPl hr rfl (@aa _ _ _ _ _ (pv 1) (@aa _ _ _ _ _ (pv 2) (@aa _ _ _ _ _ (pv 3) (@aa _ _ _ _ _ (pv 0) ad rfl) rfl) rfl) rfl) (by decide) rfl rfl))) ad rfl) (by decide) (by decide) rfl rfl) (by intro _; rfl)))))) (@ah _ _ _ (@av _ _ _ _ be)) aB) (@af _ _ _ _ _ (fA (i:=4) (own:=["piece"]) (cs:=["shop"]) (cap:=[0]) rfl nd rfl rfl rfl (fO (pv 3)) (bn (sc:=defScope bB) (N:=["shop","wide","high","thing","spans","at","columns","rows","other_columns","other_rows"]) rfl rfl (by decide +kernel)) (fun _ _ _ _ _=>aw (i:=0) (by show List.Nodup (["piece","shop"]:List Str) ; decide +kernel) rfl (Or.inl rfl) (Or.inr rfl)) (fun _ _ _ _ _=>bU) (fun _ _ _ _ _=>(@ar _ _ _ _ _ _ _ _ _ _ DSn (hr.mono (by decide)) rfl (@aa _ _ _ _ _ (pv 1) (@aa _ _ _ _ _ (pv 0) ad rfl) rfl) (by decide) rfl rfl))) (@af _ _ _ _ _ (@ci _ _ _ _ _ _ _ _ PassesOwn.never rfl (lI rfl B.enumerate (@aa _ _ _ _ _ (pv 4) ad rfl)) (bH rfl (az (aw (i:=5) nd rfl (Or.inl rfl)) (az (bH rfl (az (aw (i:=6) nd rfl (Or.inl rfl)) (az (aw (i:=7) nd rfl (Or.inl rfl)) bf))) bf))) (@ah _ _ _ (@ci _ _ _ _ _ _ _ _ PassesOwn.never rfl (cy (@bj _ _ _ _ _ _ _ _ _ _ dr (pv 4) bF (bG (pv 5)))) (bH rfl (az (aw (i:=8) nd rfl (Or.inl rfl)) (az (aw (i:=9) nd rfl (Or.inl rfl)) bf))) (@ah _ _ _ (@aN _ _ _ _ _ _ _ _ (PW.pt (jz (@aK _ _ _ (@ar _ _ _ _ _ _ _ _ _ _ DM (hr.mono (by decide)) rfl (@aa _ _ _ _ _ (pv 6) (@aa _ _ _ _ _ (pv 8) ad rfl) rfl) (by decide) rfl rfl) (by intro _; rfl)) (hG (@aK _ _ _ (@ar _ _ _ _ _ _ _ _ _ _ DM (hr.mono (by decide)) rfl (@aa _ _ _ _ _ (pv 7) (@aa _ _ _ _ _ (pv 9) ad rfl) rfl) (by decide) rfl rfl) (by intro _; rfl))))) (@ah _ _ _ (@av _ _ _ _ be)) aB)) (by intro _; rfl))) (by intro _; rfl)) (@ah _ _ _ (@av _ _ _ _ be)))))),?_⟩
 have sz:(40000:Nat) < sizeLine:=by decide
 refine aj (fun σ' H'=>σ'=[some (.ref s),some (.int w1),some (.int h1),some v,none,none,none,none,none,none]∧H=H') (fun R hR=>?_) ?_
 ·exact ⟨_,rfl,_,rfl,w1,h1,rfl,hw,hh,hR _ _ ⟨rfl,rfl⟩⟩
 rintro _ _ ⟨rfl,rfl⟩
 refine aj (fun σ' H'=>∃ (a:Addr) (xs:List V) (ds:List PyData) (ps:List Pq),v=.ref a∧σ'=[some (.ref s),some (.int w1),some (.int h1),some (.ref a),none,none,none,none,none,none]∧Same H H'∧Sq H a xs∧Dts pp H xs ds∧bv d=some ds∧Paired PqD ds ps∧(∀x∈ds,bZ ks w1 h1 x=true)∧∀p∈ps,∃k,cn ks (.int p.k) (.bl p.c)=true∧ks[p.k]? = some k∧0≤p.x∧0≤p.y∧p.x + sd1 k p.c≤w1∧p.y + sd2 k p.c≤h1) (fun R hR=>?_) ?_
 ·rcases hd.row (K:=K) with ⟨er,T1,t1,e1⟩ | ⟨a,xs,ds,T1,er,rfl,hx,dx,t1,e1⟩
  ·refine ⟨_,rfl,v,T1,rfl,t1,fun H1 s1=>⟨_,rfl,?_⟩⟩
   rw [e1]
   exact aX (q false H1 ⟨fun z=>(by cases z),fun ⟨ds,_,e,_⟩=>by rw [er] at e; cases e⟩ s1)
  ·refine ⟨_,rfl,.ref a,T1,rfl,t1,fun H1 s1=>⟨_,rfl,?_⟩⟩
   rw [e1]
   have dl:=dx.length
   have wl:=iw ds
   have wd':wts ds + 1=wt d:=(jq er).symm
   refine aP ?_
   dsimp only [wS,tB,tCB,lz,iL]
   refine dv (j:=3) (a:=a) (xs:=xs) rfl (Sq.same hx s1) (fun i us Hx=>Same H1 Hx∧us=((ds.take i).map (bZ ks w1 h1)).map V.bl) (fun i us Hx _ ⟨sx,_⟩ o e=>sx _ _ e) ⟨Same.refl _,rfl⟩ ?_ ?_
   ·rintro i x us Hx hi ⟨sx,rfl⟩
    have hin:i < xs.length:=(List.getElem?_eq_some_iff.mp hi).1
    obtain ⟨dd,hdd,hxx⟩:=dx.get hi
    refine ⟨by rw [List.length_map,List.length_map,List.length_take]; omega,leS.set rfl,bV ?_⟩
    refine ⟨_,rfl,_,rfl,_,rfl,_,rfl,pp,s,b',w1,h1,ks,x,dd,rfl,cS (s1.trans sx) S,hxx.same (s1.trans sx),fun H3 s3=>Nx.of hin ⟨sx.trans s3,?_⟩⟩
    rw [List.take_add_one,hdd]
    simp only [Option.toList_some,List.map_append,List.map_cons,List.map_nil]
   ·rintro us Hx ⟨sx,rfl⟩
    rw [dl,List.take_length]
    refine ⟨by rw [List.length_map,List.length_map]; omega,fun l hl=>⟨l,_,rfl,SqL.of ag,_,rfl,?_⟩⟩
    have sl:=s1.trans (sx.trans (Same.new hl (o:=.lst ((ds.map (bZ ks w1 h1)).map V.bl))))
    cases ha:(ds.map (bZ ks w1 h1)).all id with
    | false =>
     refine aX (q false _ ⟨fun z=>(by cases z),fun ⟨ds',_,e,_,hp,_⟩=>?_⟩ sl)
     rw [er] at e
     cases e
     rw [List.all_eq_false] at ha
     obtain ⟨z,hz,hz2⟩:=ha
     obtain ⟨x,hx,rfl⟩:=List.mem_map.mp hz
     exact absurd (hp x hx) hz2
    | true =>
     have hall:∀x∈ds,bZ ks w1 h1 x=true:=fun x hx=>(List.all_eq_true.mp ha) _ (List.mem_map.mpr ⟨x,hx,rfl⟩)
     obtain ⟨ps,g1,g2⟩:=gu hall
     exact aP (hR _ _ ⟨a,xs,ds,ps,rfl,rfl,sl,hx,dx,er,g1,hall,g2⟩)
 rintro _ H1 ⟨a,xs,ds,ps,rfl,rfl,s1,hx,dx,er,pd,hall,hps⟩
 have dl:=dx.length
 have wl:=iw ds
 have wd':wts ds + 1=wt d:=(jq er).symm
 have pl:=Paired.length pd
 have lay_iff:cU ks w1 h1 d↔gW ks ps:=⟨fun ⟨ds',ps',e,pd',_,ok⟩=>by
  rw [er] at e
  cases e
  rw [Paired.uniq PqD.uniq pd pd']
  exact ok,fun ok=>⟨ds,ps,er,pd,hall,ok⟩⟩
 refine aj (fun σ' H'=>∃ (sl:Addr) (ss:List V),σ'=[some (.ref s),some (.int w1),some (.int h1),some (.ref a),some (.ref sl),none,none,none,none,none]∧H' sl=some (.lst ss)∧Paired (SpAt H') ss (ps.map (bg ks))∧Same H H') (fun R hR=>?_) ?_
 ·refine dv (K:=K) (j:=3) rfl (Sq.same hx s1) (fun i us Hx=>Same H1 Hx∧Paired (SpAt Hx) us ((ps.take i).map (bg ks))) (fun i us Hx _ ⟨sx,_⟩ o e=>sx _ _ e) ⟨Same.refl _,.nil⟩ ?_ ?_
  ·rintro i x us Hx hi ⟨sx,pu⟩
   have hin:i < xs.length:=(List.getElem?_eq_some_iff.mp hi).1
   obtain ⟨dd,hdd,hxx⟩:=dx.get hi
   obtain ⟨p0,hp0,hpq⟩:=Paired.getR pd hdd
   obtain ⟨ap,rfl,hap⟩:=hxx.pq hpq
   obtain ⟨k0,g1,g2,g3⟩:=hps p0 (List.mem_of_getElem? hp0)
   have ul:=Paired.length pu
   rw [List.length_map,List.length_take] at ul
   refine ⟨by omega,leS.set rfl,bV ?_⟩
   refine ⟨_,rfl,_,rfl,s,ap,b',ks,p0,k0,rfl,cS (s1.trans sx) S,hap.same (s1.trans sx),g1,g2,fun r r1 r2 H3 e1 e2 e3 s3=>Nx.of hin ⟨sx.trans s3,?_⟩⟩
   rw [List.take_add_one,hp0]
   simp only [Option.toList_some,List.map_append,List.map_cons,List.map_nil]
   refine jp (Paired.mapP pu fun v g h=>h.same s3) (.cons ⟨r,r1,r2,rfl,e1,?_,?_⟩ .nil)
   ·rw [cB g2]; exact e2
   ·rw [cB g2]; exact e3
  ·rintro us Hx ⟨sx,pu⟩
   have ul:=Paired.length pu
   rw [List.length_map,List.length_take] at ul
   rw [show xs.length=ps.length by omega,List.take_length] at pu
   refine ⟨by omega,fun l hl=>?_⟩
   obtain ⟨Hy,e2,k2,s2⟩:∃H',upd Hx l (.lst us)=H'∧H' l=some (.lst us)∧Same Hx H':=⟨_,rfl,ag,Same.new hl⟩
   rw [show upd Hx l _=Hy from e2]
   exact hR _ _ ⟨l,us,rfl,k2,Paired.mapP pu fun v g h=>h.same s2,s1.trans (sx.trans s2)⟩
 rintro _ H2 ⟨sl,ss,rfl,hsl,pss,s02⟩
 have ssl:=Paired.length pss
 rw [List.length_map] at ssl
 have z4:ss.length < sizeLine:=by omega
 refine aj (fun σ' H'=>∃v5 v6 v7 v8 v9:Option V,σ'=[some (.ref s),some (.int w1),some (.int h1),some (.ref a),some (.ref sl),v5,v6,v7,v8,v9]∧Same H2 H'∧gW ks ps) (fun R hR=>?_) ?_
 ·refine ⟨_,rfl,sl,ss,rfl,.inl ⟨hsl,iX (f:=.lst) (fun _ _ e=>by cases e; rfl) (l:=sl) (xs:=ss) (fun i σ' H'=>∃v5 v6 v7 v8 v9:Option V,σ'=[some (.ref s),some (.int w1),some (.int h1),some (.ref a),some (.ref sl),v5,v6,v7,v8,v9]∧Same H2 H'∧∀j p,j < i→ps[j]? = some p→∀q∈ps.take j,dH (bg ks p) (bg ks q)=false) ⟨_,_,_,_,_,rfl,Same.refl _,fun j p hj=>absurd hj (Nat.not_lt_zero _)⟩ (fun i σ Hx ⟨_,_,_,_,_,_,sx,_⟩=>sx _ _ hsl) ?_ (fun σ Hx ⟨v5,v6,v7,v8,v9,e,sx,ok⟩=>hR _ _ ⟨v5,v6,v7,v8,v9,e,sx,fun j p hp=>ok j p (by rw [ssl]; exact (List.getElem?_eq_some_iff.mp hp).1) hp⟩)⟩⟩
  rintro i x pt σ Hx hx' hp' ⟨v5,v6,v7,v8,v9,rfl,sx,okj⟩
  obtain ⟨g,hg,r,r1,r2,rfl,u1,u2,u3⟩:=Paired.getR pss hx'
  rw [List.getElem?_map] at hg
  obtain ⟨p0,hp0,rfl⟩:=Option.map_eq_some_iff.mp hg
  obtain ⟨Hy,e3,k3,s3⟩:∃H',upd Hx pt (.tup [.int i,.ref r])=H'∧H' pt=some (.tup [.int i,.ref r])∧Same Hx H':=⟨_,rfl,ag,Same.new hp'⟩
  rw [show upd Hx pt _=Hy from e3]
  have s2y:=sx.trans s3
  refine ⟨pt,_,rfl,SqT.of k3,rfl,_,_,rfl,_,_,rfl,r,_,rfl,SqT.of (s2y _ _ u1),rfl,_,_,rfl,_,_,rfl,rfl,rfl,?_⟩
  refine ⟨_,rfl,_,rfl,_,rfl,sl,_,rfl,SqL.of (s2y _ _ hsl),fun l hl=>?_⟩
  obtain ⟨Hz,e4,k4,s4⟩:∃H',upd Hy l (.lst (bO ss none (some (i:Int))))=H'∧H' l=some (.lst (bO ss none (some (i:Int))))∧Same Hy H':=⟨_,rfl,ag,Same.new hl⟩
  rw [show upd Hy l _=Hz from e4]
  have ec:bO ss none (some (i:Int))=ss.take i:=cJ ss i
  have k4:Hz l=some (.lst (ss.take i)):=by rw [k4,ec]
  have s2z:=s2y.trans s4
  refine ⟨l,rfl,⟨_,SqL.of k4⟩,cZ (xs:=ss.take i) (fun j σ' H'=>∃v8 v9:Option V,σ'=[some (.ref s),some (.int w1),some (.int h1),some (.ref a),some (.ref sl),some (.int i),some (.ref r1),some (.ref r2),v8,v9]∧Same Hz H'∧∀q∈ps.take j,dH (bg ks p0) (bg ks q)=false) ⟨_,_,rfl,Same.refl _,fun q hq=>by simp at hq⟩ (fun j σ Hw _ ⟨_,_,_,sw,_⟩=>SqL.of (sw _ _ k4)) ?_ ?_⟩
  ·rintro j x σ Hw hj ⟨v8,v9,rfl,sw,okq⟩
   have hjl:j < (ss.take i).length:=(List.getElem?_eq_some_iff.mp hj).1
   rw [List.length_take] at hjl
   have hj':ss[j]? = some x:=by rw [List.getElem?_take_of_lt (by omega)] at hj; exact hj
   obtain ⟨g,hg,o,o1,o2,rfl,f1,f2,f3⟩:=Paired.getR pss hj'
   rw [List.getElem?_map] at hg
   obtain ⟨q0,hq0,rfl⟩:=Option.map_eq_some_iff.mp hg
   have s2w:=s2z.trans sw
   refine ⟨o,_,rfl,SqT.of (s2w _ _ f1),rfl,_,_,rfl,_,_,rfl,rfl,?_⟩
   have stepOk:dH (bg ks p0) (bg ks q0)=false→∀q∈ps.take (j + 1),dH (bg ks p0) (bg ks q)=false:=fun hov q hq=>by
    rw [List.take_add_one,hq0] at hq
    rcases List.mem_append.mp hq with hq | hq
    ·exact okq q hq
    ·rw [List.mem_singleton.mp hq]; exact hov
   refine ⟨_,rfl,_,rfl,r1,o1,_,_,_,_,rfl,s2w _ _ u2,s2w _ _ f2,_,rfl,?_⟩
   cases c1:(decide ((bg ks p0).a < (bg ks q0).c) && decide ((bg ks q0).a < (bg ks p0).c)) with
   | false =>
    exact aP (aP ⟨_,_,rfl,sw,stepOk (by unfold dH; rw [c1]; rfl)⟩)
   | true =>
    refine aX ⟨_,rfl,_,rfl,r2,o2,_,_,_,_,rfl,s2w _ _ u3,s2w _ _ f3,_,rfl,?_⟩
    cases c2:(decide ((bg ks p0).b < (bg ks q0).d) && decide ((bg ks q0).b < (bg ks p0).d)) with
    | false=>exact aP ⟨_,_,rfl,sw,stepOk (by unfold dH; rw [c1,c2]; rfl)⟩
    | true =>
     refine aX (q false _ ⟨fun z=>(by cases z),fun ld=>?_⟩ (s02.trans s2w))
     have:=(lay_iff.mp ld) i p0 hp0 q0 (List.mem_of_getElem? (show (ps.take i)[j]? = some q0 by rw [List.getElem?_take_of_lt (by omega)]; exact hq0))
     unfold dH at this
     rw [c1,c2] at this
     cases this
  ·rintro σ Hw ⟨v8,v9,rfl,sw,okq⟩
   refine ⟨_,_,_,_,_,rfl,s2z.trans sw,fun j p hj hp=>?_⟩
   rcases Nat.lt_or_eq_of_le (Nat.le_of_lt_succ hj) with hj | rfl
   ·exact okj j p hj hp
   ·rw [hp0] at hp
    cases hp
    have:(ss.take j).length=j:=by rw [List.length_take]; have:=(List.getElem?_eq_some_iff.mp hx').1; omega
    rw [this] at okq
    exact okq
 rintro _ H3 ⟨v5,v6,v7,v8,v9,rfl,s23,ok⟩
 exact q true H3 ⟨fun _=>lay_iff.mpr ok,fun _=>rfl⟩ (s02.trans s23)
end
def PzP (ks:List Kd) (H:Hp) (a:Addr):Prop:=∃p k,H a=some (.tup (pqV p))∧cn ks (.int p.k) (.bl p.c)=true∧ks[p.k]? = some k
theorem PzP.same {ks:List Kd} {H H':Hp} {a:Addr} (s:Same H H') (h:PzP ks H a):PzP ks H' a:=by
 obtain ⟨p,k,h1,h2⟩:=h
 exact ⟨p,k,s _ _ h1,h2⟩
section
variable {P:Program} {w:World} {K:PySem.W.Frag} {mg:Str→Option Value} {base:Heap}
def ix:Sp:=fun vs H Q _=>∃ (b:Int) (l:Addr) (as:List Addr) (g:Addr→Int×Int),vs=[.int b,.ref l]∧H l=some (.lst (as.map V.ref))∧as≠[]∧as.length < 64∧(∀a∈as,H a=some (.tup [.int (g a).1,.int (g a).2]))∧∀H',Same H H'→Q .non H'∧∀r,(∃a∈as,(g a).2≤r)→(∃a∈as,r + b≤(g a).1)→Q (.int r) H'
def eJ:Sp:=fun vs H Q _=>∃ (x y:Int) (l:Addr) (as:List Addr),vs=[.int x,.int y,.ref l]∧H l=some (.lst (as.map V.ref))∧(∀a∈as,∃p,H a=some (.tup (pqV p)))∧∀ (r:Addr) (xs:List V) (H':Hp),H' r=some (.tup xs)→Same H H'→Q (.ref r) H'
theorem scplace:FnScope ["blade","spans","ordered","reach","start","end"] ["blade","spans"] (defScope bD):=⟨rfl,rfl,rfl,by decide +kernel,rfl,by decide +kernel,by decide +kernel⟩
theorem pe {f:Addr} {fd:FuncData} (F:Fun K "parting_place" "parting_place" bD f fd) (B:Blt mg):FnOk P w K mg base CX0 1 f fd ["blade","spans"] (ix):=by
 refine F.ok scplace (fun vs H Q E h=>?_) (fun cdv A outer s H vs Q E hr h=>?_)
 ·obtain ⟨b,l,as,g,rfl,_⟩:=h
  rfl
 obtain ⟨b,l,as,g,rfl,hl,ne,l64,hg,q⟩:=h
 have nd:=scplace.nd
 refine ⟨_,(@af _ _ _ _ _ (@aG _ _ 2 _ _ _ _ nd rfl (Or.inl rfl) (@aA _ _ _ _ _ _ _ _ _ ej rfl B.sorted PyProof.Rows.boot_sorted (@aa _ _ _ _ _ (pv 1) ad rfl) (by decide) (by decide) rfl rfl) rfl (Or.inl rfl)) (@af _ _ _ _ _ (@aG _ _ 3 _ _ _ _ nd rfl (Or.inl rfl) (@ay _ _ _ _ _ _ _ ix_tup (@ay _ _ _ _ _ _ _ ix_list (pv 2) ae (fun _ _=>rfl)) ae (fun _ _=>rfl)) rfl (Or.inl rfl)) (@af _ _ _ _ _ (@ci _ _ _ _ _ _ _ _ PassesOwn.never rfl (cy (@bj _ _ _ _ _ _ _ _ _ _ dr (pv 2) (bG ae) bF)) (bH rfl (az (aw (i:=4) nd rfl (Or.inl rfl)) (az (aw (i:=5) nd rfl (Or.inl rfl)) bf))) (@af _ _ _ _ _ (@aN _ _ _ _ _ _ _ _ (@aI _ _ _ _ _ _ _ _ lx (pv 4) (@aF _ _ _ _ _ _ _ _ aT (pv 3) (pv 0)) (aH _)) (@ah _ _ _ (@av _ _ _ _ (pv 3))) aB) (@ah _ _ _ (@aG _ _ 3 _ _ _ _ nd rfl (Or.inl rfl) (@aA _ _ _ _ _ _ _ _ _ (eS rfl) rfl B.max PyProof.Rows.boot_max (@aa _ _ _ _ _ (pv 3) (@aa _ _ _ _ _ (pv 5) ad rfl) rfl) (by decide) (by decide) rfl rfl) rfl (Or.inl rfl)))) (by intro _; rfl)) (@ah _ _ _ (@av _ _ _ _ cX))))),?_⟩
 have sz:(1000:Nat) < sizeLine:=by decide
 refine aj (fun σ' H'=>∃ (lo:Addr) (as':List Addr),σ'=[some (.int b),some (.ref l),some (.ref lo),none,none,none]∧H' lo=some (.lst (as'.map V.ref))∧as'.Perm as∧Same H H') (fun R hR=>?_) ?_
 ·exact ⟨_,rfl,l,as,[false,false],fun a=>[(g a).1,(g a).2],rfl,SqL.of hl,by omega,rfl,fun a ha=>⟨_,SqT.of (hg a ha),rfl⟩,fun lo as' hlo pa so=>hR _ _ ⟨lo,as',rfl,ag,pa,Same.new hlo⟩⟩
 rintro _ H1 ⟨lo,as',rfl,hlo,pa,s1⟩
 obtain ⟨a0,r0,rfl⟩:∃a0 r0,as'=a0 :: r0:=by
  cases as' with
  | nil=>exact absurd (List.nil_perm.mp pa) ne
  | cons a r=>exact ⟨a,r,rfl⟩
 have mem:∀a∈a0 :: r0,a∈as:=fun a ha=>pa.mem_iff.mp ha
 have hg1:∀a∈a0 :: r0,H1 a=some (.tup [.int (g a).1,.int (g a).2]):=fun a ha=>s1 _ _ (hg a (mem a ha))
 refine aj (fun σ' H'=>σ'=[some (.int b),some (.ref l),some (.ref lo),some (.int (g a0).2),none,none]∧H1=H') (fun R hR=>?_) ?_
 ·exact ⟨_,rfl,lo,_,0,_,rfl,rfl,SqL.of hlo,cA (Int.le_refl _) rfl,a0,_,1,_,rfl,rfl,SqT.of (hg1 a0 List.mem_cons_self),rfl,hR _ _ ⟨rfl,rfl⟩⟩
 rintro _ _ ⟨rfl,rfl⟩
 refine aj (fun σ' H'=>(∃ (z:Int) (v4 v5:Option V),σ'=[some (.int b),some (.ref l),some (.ref lo),some (.int z),v4,v5])∧Same H H') (fun R hR=>?_) ?_
 ·refine ⟨_,rfl,_,rfl,lo,_,rfl,SqL.of hlo,fun sl hsl=>?_⟩
  obtain ⟨H2,e2,k2,s2⟩:∃H',upd H1 sl (.lst (bO ((a0 :: r0).map V.ref) (some 1) none))=H'∧H' sl=some (.lst (bO ((a0 :: r0).map V.ref) (some 1) none))∧Same H1 H':=⟨_,rfl,ag,Same.new hsl⟩
  rw [show upd H1 sl _=H2 from e2]
  have k2:H2 sl=some (.lst (r0.map V.ref)):=by rw [k2,show bO ((a0 :: r0).map V.ref) (some 1) none=r0.map V.ref from dC _ 1]
  refine ⟨sl,rfl,⟨_,SqL.of k2⟩,cZ (xs:=r0.map V.ref) (fun i σ' H'=>(∃ (z:Int) (v4 v5:Option V),σ'=[some (.int b),some (.ref l),some (.ref lo),some (.int z),v4,v5]∧(g a0).2≤z)∧Same H2 H') ⟨⟨_,_,_,rfl,Int.le_refl _⟩,Same.refl _⟩ (fun i σ Hx _ ⟨_,sx⟩=>SqL.of (sx _ _ k2)) ?_ (fun σ Hx ⟨⟨z,v4,v5,e,_⟩,sx⟩=>hR _ _ ⟨⟨z,v4,v5,e⟩,s1.trans (s2.trans sx)⟩)⟩
  rintro i x σ Hx hi ⟨⟨z,v4,v5,rfl,hz⟩,sx⟩
  rw [List.getElem?_map] at hi
  obtain ⟨a,ha,rfl⟩:=Option.map_eq_some_iff.mp hi
  have am:a∈a0 :: r0:=List.mem_cons_of_mem _ (List.mem_of_getElem? ha)
  refine ⟨a,_,rfl,SqT.of (sx _ _ (s2 _ _ (hg1 a am))),rfl,_,_,rfl,_,_,rfl,rfl,?_⟩
  refine ⟨_,rfl,_,rfl,_,rfl,_,_,rfl,rfl,_,_,rfl,rfl,_,rfl,?_⟩
  refine bQ (fun cc=>?_) (fun cc=>?_)
  ·exact ⟨_,rfl,(q Hx (s1.trans (s2.trans sx))).2 z ⟨a0,mem a0 List.mem_cons_self,hz⟩ ⟨a,mem a am,of_decide_eq_true cc⟩⟩
  ·refine ⟨_,rfl,_,rfl,_,_,rfl,⟨_,_,_,rfl,?_⟩,sx⟩
   split <;> omega
 rintro _ H2 ⟨⟨z,v4,v5,rfl⟩,s2⟩
 exact (q H2 s2).1
theorem scleafof:FnScope ["x","y","pieces","kind","turned","piece_x","piece_y"] ["x","y","pieces"] (defScope ez):=⟨rfl,rfl,rfl,by decide +kernel,rfl,by decide +kernel,by decide +kernel⟩
theorem mM {f:Addr} {trs tpc:Tok} {fd:FuncData} (F:Fun K "leaf_of" "leaf_of" ez f fd) (hrs:mg "REST" = some (.str "rest" trs)) (hpc:mg "PIECE" = some (.str "piece" tpc)):FnOk P w K mg base CX0 1 f fd ["x","y","pieces"] (eJ):=by
 refine F.ok scleafof (fun vs H Q E h=>?_) (fun cdv A outer s H vs Q E hr h=>?_)
 ·obtain ⟨x,y,l,as,rfl,_⟩:=h
  rfl
 obtain ⟨x,y,l,as,rfl,hl,hp,q⟩:=h
 have nd:=scleafof.nd
 refine ⟨_,(@af _ _ _ _ _ (@aN _ _ _ _ _ _ _ _ (aQ (nT (pv 2) (fun _=>rfl))) (@ah _ _ _ (@av _ _ _ _ (@aO _ _ _ _ _ (@aa _ _ _ _ _ (aL (v:=.str "rest") rfl hrs ⟨trs,rfl⟩) ad rfl)))) aB) (@af _ _ _ _ _ (@cg _ _ _ _ _ _ (@ay _ _ _ _ _ _ _ ix_list (pv 2) ae (fun _ _=>rfl)) (bH rfl (az (aw (i:=3) nd rfl (Or.inl rfl)) (az (aw (i:=4) nd rfl (Or.inl rfl)) (az (aw (i:=5) nd rfl (Or.inl rfl)) (az (aw (i:=6) nd rfl (Or.inl rfl)) bf))))) rfl rfl rfl) (@ah _ _ _ (@av _ _ _ _ (@aO _ _ _ _ _ (@aa _ _ _ _ _ (aL (v:=.str "piece") rfl hpc ⟨tpc,rfl⟩) (@aa _ _ _ _ _ (pv 3) (@aa _ _ _ _ _ (pv 4) (@aa _ _ _ _ _ (@aF _ _ _ _ _ _ _ _ de (pv 5) (pv 0)) (@aa _ _ _ _ _ (@aF _ _ _ _ _ _ _ _ de (pv 6) (pv 1)) ad rfl) rfl) rfl) rfl) rfl)))))),?_⟩
 refine aj (fun σ' H'=>σ'=[some (.int x),some (.int y),some (.ref l),none,none,none,none]∧H=H'∧as≠[]) (fun R hR=>?_) ?_
 ·refine ⟨_,rfl,_,.inl ⟨_,SqL.of hl,rfl⟩,?_⟩
  cases as with
  | nil=>exact aX ⟨(by show 1≤sizeLine; decide),fun r hr=>q r _ _ ag (Same.new hr)⟩
  | cons a r=>exact aP (hR _ _ ⟨rfl,rfl,List.cons_ne_nil _ _⟩)
 rintro _ _ ⟨rfl,rfl,ne⟩
 obtain ⟨a0,r0,rfl⟩:∃a0 r0,as=a0 :: r0:=by
  cases as with
  | nil=>exact absurd rfl ne
  | cons a r=>exact ⟨a,r,rfl⟩
 obtain ⟨p,ha⟩:=hp a0 List.mem_cons_self
 refine aj (fun σ' H'=>σ'=[some (.int x),some (.int y),some (.ref l),some (.int p.k),some (.bl p.c),some (.int p.x),some (.int p.y)]∧H=H') (fun R hR=>?_) ?_
 ·exact ⟨_,rfl,l,_,0,_,rfl,rfl,SqL.of hl,cA (Int.le_refl _) rfl,a0,_,rfl,SqT.of ha,rfl,_,_,rfl,_,_,rfl,_,_,rfl,_,_,rfl,rfl,hR _ _ ⟨rfl,rfl⟩⟩
 rintro _ _ ⟨rfl,rfl⟩
 exact ⟨_,rfl,_,rfl,_,rfl,_,rfl,_,_,rfl,rfl,_,rfl,_,rfl,_,_,rfl,rfl,(by show 5≤sizeLine; decide),fun r hr=>q r _ _ ag (Same.new hr)⟩
end
def SpA (H:Hp) (r:Addr) (g:Bx):Prop:=∃r1 r2,H r=some (.tup [.ref r1,.ref r2])∧H r1=some (.tup [.int g.a,.int g.c])∧H r2=some (.tup [.int g.b,.int g.d])
theorem SpA.same {H H':Hp} (s:Same H H') {r:Addr} {g:Bx} (h:SpA H r g):SpA H' r g:=by
 obtain ⟨r1,r2,h1,h2,h3⟩:=h
 exact ⟨r1,r2,s _ _ h1,s _ _ h2,s _ _ h3⟩
def axA (H:Hp) (i:Nat) (sp:Addr):Addr:=match H sp with
 | some (.tup [.ref r1,.ref r2])=>if i=0 then r1 else r2
 | _=>sp
def ivA (H:Hp) (a:Addr):Int×Int:=match H a with
 | some (.tup [.int x,.int y])=>(x,y)
 | _=>(0,0)
theorem pf {H:Hp} {sp r1 r2:Addr} (h:H sp=some (.tup [.ref r1,.ref r2])) (i:Nat):axA H i sp=if i=0 then r1 else r2:=by unfold axA; rw [h]
theorem ph {H:Hp} {a:Addr} {x y:Int} (h:H a=some (.tup [.int x,.int y])):ivA H a=(x,y):=by unfold ivA; rw [h]
theorem SpA.ax {H:Hp} {r:Addr} {g:Bx} (h:SpA H r g) (hg:g.a < g.c∧g.b < g.d) (i:Nat):∃x y,H (axA H i r)=some (.tup [.int x,.int y])∧ivA H (axA H i r)=(x,y)∧x < y:=by
 obtain ⟨r1,r2,h1,h2,h3⟩:=h
 rw [pf h1]
 split
 ·exact ⟨_,_,h2,ph h2,hg.1⟩
 ·exact ⟨_,_,h3,ph h3,hg.2⟩
theorem xG {a b c:St} (h1:leS a b) (h2:leS b c):leS a c:=⟨h2.1.trans h1.1,fun i v e=>h2.2 i v (h1.2 i v e)⟩
theorem gv {α:Type} (f:α→Bool):∀l:List α,(l.filter f).length + (l.filter fun x=>!f x).length=l.length
 | []=>rfl
 | x :: l=>by
  have:=gv f l
  rw [List.filter_cons,List.filter_cons]
  cases f x <;> simp <;> omega
theorem gw {α:Type} {f:α→Bool} {l:List α} {x:α} (hx:x∈l) (h:f x=true):1≤(l.filter f).length:=List.length_pos_of_mem (List.mem_filter.mpr ⟨hx,h⟩)
theorem lS {as ss:List Addr} (h:as.length=ss.length) {s:Addr} (hs:s∈ss):∃a,(a,s)∈as.zip ss:=by
 obtain ⟨i,hi,e⟩:=List.getElem_of_mem hs
 exact ⟨as[i]'(by omega),by rw [← e,← List.getElem_zip (h:=by rw [List.length_zip]; omega)]; exact List.getElem_mem _⟩
section
variable {P:Program} {w:World} {K:PySem.W.Frag} {mg:Str→Option Value} {base:Heap}
def iy (C:Addr):Sp:=fun vs H Q _=>∃ (s l:Addr) (b:Int) (ks:List Kd) (as:List Addr),vs=[.ref s,.ref l]∧ShopAt C H s b ks∧0≤b∧(∀k∈ks,Good k)∧H l=some (.lst (as.map V.ref))∧(∀a∈as,PzP ks H a)∧2≤as.length∧as.length < 64 ∧
 (∀H',Same H H'→Q .non H')∧∀ (t la lb:Addr) (wy:Str) (r:Int) (as1 as2:List Addr) (H':Hp),H' t=some (.tup [.str wy,.int r,.ref la,.ref lb])→H' la=some (.lst (as1.map V.ref))→H' lb=some (.lst (as2.map V.ref))→(∀a∈as1,a∈as)→(∀a∈as2,a∈as)→1≤as1.length→1≤as2.length→as1.length + as2.length=as.length→Same H H'→Q (.ref t) H'
theorem scpcut:FnScope ["shop","pieces","spans","axis","way","place","ahead","behind"] ["shop","pieces"] (defScope bd):=⟨rfl,rfl,rfl,by decide +kernel,rfl,by decide +kernel,by decide +kernel⟩
set_option maxHeartbeats 1000000 in
theorem qU {f C wa:Addr} {fd:FuncData} (F:Fun K "parting_cut" "parting_cut" bd f fd) (B:Blt mg) (T:ShopTxt K C) (wy:mg "WAYS" = some (.ref wa)) (wq:∀H,SqT K H wa [.str "down",.str "across"]) (MB:Mn P w K mg base C "blade" ["self"] 1 (eg C)) (DSn:Dn P w K mg base "spans_of" ["shop","piece"] 4 (fF C)) (DPp:Dn P w K mg base "parting_place" ["blade","spans"] 1 (ix)):FnOk P w K mg base CX0 5 f fd ["shop","pieces"] (iy C):=by
 refine F.ok scpcut (fun vs H Q E h=>?_) (fun cdv A outer s H vs Q E hr h=>?_)
 ·obtain ⟨s,l,b,ks,as,rfl,_⟩:=h
  rfl
 obtain ⟨s,l,b,ks,as,rfl,S0,b0,gk,hl,hp,l2,l64,q1',q2'⟩:=h
 have nd:=scpcut.nd
 refine ⟨_,(@af _ _ _ _ _ (fA (i:=2) (own:=["piece"]) (cs:=["shop"]) (cap:=[0]) rfl nd rfl rfl rfl (cy (pv 1)) (bn (sc:=defScope bd) (N:=["shop","pieces","spans","axis","way","place","ahead","behind"]) rfl rfl (by decide +kernel)) (fun _ _ _ _ _=>aw (i:=0) (by show List.Nodup (["piece","shop"]:List Str) ; decide +kernel) rfl (Or.inl rfl) (Or.inr rfl)) (fun _ _ _ _ _=>bU) (fun _ _ _ _ _=>(@ar _ _ _ _ _ _ _ _ _ _ DSn hr rfl (@aa _ _ _ _ _ (pv 1) (@aa _ _ _ _ _ (pv 0) ad rfl) rfl) (by decide) rfl rfl))) (@af _ _ _ _ _ (@ci _ _ _ _ _ _ _ _ PassesOwn.never rfl (oH rfl B.enumerate (@aa _ _ _ _ _ (aL (v:=.ref wa) rfl wy rfl) ad rfl)) (bH rfl (az (aw (i:=3) nd rfl (Or.inr rfl)) (az (aw (i:=4) nd rfl (Or.inl rfl)) bf))) (@af _ _ _ _ _ (@aG _ _ 5 _ _ _ _ nd rfl (Or.inr rfl) (@ar _ _ _ _ _ _ _ _ _ _ DPp (hr.mono (by decide)) rfl (@aa _ _ _ _ _ (oz (pv 0) T.cl MB (hr.mono (by decide))) (@aa _ _ _ _ _ (du (own:=["both"]) (cs:=["axis"]) (cap:=[3]) rfl (cy (pv 2)) (bn (sc:=defScope bd) (N:=["shop","pieces","spans","axis","way","place","ahead","behind"]) rfl rfl (by decide +kernel)) (fun _ _ _ _ _=>aw (i:=0) (by show List.Nodup (["both","axis"]:List Str) ; decide +kernel) rfl (Or.inl rfl) (Or.inr rfl)) (fun _ _ _ _ _=>bU) (fun _ _ _ _ _=>(ay (r:=jM K) ix_tup (pv 0) (pv 1) (fun _ _=>rfl)))) ad rfl) rfl) (by decide) rfl rfl) rfl (Or.inl rfl)) (@ah _ _ _ (@aN _ _ _ _ _ _ _ _ (@aI _ _ _ _ _ _ _ _ qo (pv 5) cX (aH _)) (@af _ _ _ _ _ (fA (i:=6) (own:=["piece","both"]) (cs:=["axis","place"]) (cap:=[3,5]) rfl nd rfl rfl rfl (ot rfl B.zip (@aa _ _ _ _ _ (pv 1) (@aa _ _ _ _ _ (pv 2) ad rfl) rfl)) (bn (sc:=defScope bd) (N:=["shop","pieces","spans","axis","way","place","ahead","behind"]) rfl rfl (by decide +kernel)) (fun _ _ _ _ _=>oF K rfl rfl (by show List.Nodup (["piece","both","axis","place"]:List Str) ; decide +kernel) rfl rfl rfl rfl) (fun _ _ _ _ _=>(iN (@aI _ _ _ _ _ _ _ _ dU (ay (r:=jM K) ix_tup (ay (r:=jM K) ix_tup (pv 1) (pv 2) (fun _ _=>rfl)) ae (fun _ _=>rfl)) (pv 3) (aH _)))) (fun _ _ _ _ _=>(pv 0))) (@af _ _ _ _ _ (fA (i:=7) (own:=["piece","both"]) (cs:=["axis","place"]) (cap:=[3,5]) rfl nd rfl rfl rfl (ot rfl B.zip (@aa _ _ _ _ _ (pv 1) (@aa _ _ _ _ _ (pv 2) ad rfl) rfl)) (bn (sc:=defScope bd) (N:=["shop","pieces","spans","axis","way","place","ahead","behind"]) rfl rfl (by decide +kernel)) (fun _ _ _ _ _=>oF K rfl rfl (by show List.Nodup (["piece","both","axis","place"]:List Str) ; decide +kernel) rfl rfl rfl rfl) (fun _ _ _ _ _=>(iN (@aI _ _ _ _ _ _ _ _ iI (ay (r:=jM K) ix_tup (ay (r:=jM K) ix_tup (pv 1) (pv 2) (fun _ _=>rfl)) ae (fun _ _=>rfl)) (pv 3) (aH _)))) (fun _ _ _ _ _=>(pv 0))) (@ah _ _ _ (@av _ _ _ _ (@aO _ _ _ _ _ (@aa _ _ _ _ _ (pv 4) (@aa _ _ _ _ _ (pv 5) (@aa _ _ _ _ _ (pv 6) (@aa _ _ _ _ _ (pv 7) ad rfl) rfl) rfl) rfl)))))) aB))) (by intro _; rfl)) (@ah _ _ _ (@av _ _ _ _ cX)))),?_⟩
 have sz:(1000:Nat) < sizeLine:=by decide
 obtain ⟨dx,r0,rs,h1,h2,h3⟩:=id S0
 refine aj (fun σ' H'=>∃ (sl:Addr) (ss:List Addr) (gs:List Bx),σ'=[some (.ref s),some (.ref l),some (.ref sl),none,none,none,none,none]∧H' sl=some (.lst (ss.map V.ref))∧Paired (SpA H') ss gs∧(∀g∈gs,g.a < g.c∧g.b < g.d)∧gs.length=as.length∧Same H H') (fun R hR=>?_) ?_
 ·refine ⟨_,rfl,l,rfl,⟨_,SqL.of hl⟩,(dh (K:=K) (.inl hl) (fun i us Hx=>Same H Hx∧∃ (ss:List Addr) (gs:List Bx),us=ss.map V.ref∧Paired (SpA Hx) ss gs∧(∀g∈gs,g.a < g.c∧g.b < g.d)∧gs.length=i) (fun i us Hx _ ⟨sx,_⟩ o e=>sx _ _ e) ⟨Same.refl _,[],[],rfl,.nil,fun g hg=>by simp at hg,rfl⟩ ?_ ?_).1 hl⟩
  ·rintro i x us Hx hi ⟨sx,ss,gs,rfl,pg,hgs,gl⟩
   have hin:i < (as.map V.ref).length:=(List.getElem?_eq_some_iff.mp hi).1
   rw [List.getElem?_map] at hi
   obtain ⟨a,ha,rfl⟩:=Option.map_eq_some_iff.mp hi
   obtain ⟨p,k,e1,e2,e3⟩:=hp a (List.mem_of_getElem? ha)
   have g0:=gk k (List.mem_of_getElem? e3)
   have sl:=Paired.length pg
   rw [List.length_map] at hin
   refine ⟨by rw [List.length_map]; omega,leS.set rfl,bV ?_⟩
   refine ⟨_,rfl,_,rfl,s,a,b,ks,p,k,rfl,cS sx S0,.inr (sx _ _ e1),e2,e3,fun r r1 r2 H3 f1 f2 f3 s3=>Nx.of (by rw [List.length_map]; exact hin) ⟨sx.trans s3,ss ++ [r],gs ++ [ki k p],by rw [List.map_append]; rfl,jp (Paired.mapP pg fun v g h=>h.same s3) (.cons ⟨r1,r2,f1,f2,f3⟩ .nil),fun g hg=>?_,by rw [List.length_append,gl]; rfl⟩⟩
   rcases List.mem_append.mp hg with hg | hg
   ·exact hgs g hg
   ·rw [List.mem_singleton.mp hg]
    have w1:=g0.w; have w2:=g0.h
    constructor
    ·show p.x < p.x + sd1 k p.c
     unfold sd1; split <;> omega
    ·show p.y < p.y + sd2 k p.c
     unfold sd2; split <;> omega
  ·rintro us Hx ⟨sx,ss,gs,rfl,pg,hgs,gl⟩
   have sl:=Paired.length pg
   rw [List.length_map] at gl
   refine ⟨by rw [List.length_map]; omega,fun lo hlo=>?_⟩
   obtain ⟨Hy,e1,k1,s1⟩:∃H',upd Hx lo (.lst (ss.map V.ref))=H'∧H' lo=some (.lst (ss.map V.ref))∧Same Hx H':=⟨_,rfl,ag,Same.new hlo⟩
   rw [show upd Hx lo _=Hy from e1]
   exact hR _ _ ⟨lo,ss,gs,rfl,k1,Paired.mapP pg fun v g h=>h.same s1,hgs,gl,sx.trans s1⟩
 rintro _ H2 ⟨sl,ss,gs,rfl,hsl,pg,hgs,gl,s02⟩
 have ssl:=Paired.length pg
 have asl:as.length=ss.length:=by omega
 have axf:∀ (i:Nat) (sp:Addr),sp∈ss→∃x y,H2 (axA H2 i sp)=some (.tup [.int x,.int y])∧ivA H2 (axA H2 i sp)=(x,y)∧x < y:=fun i sp hsp=>by
  obtain ⟨j,hj,e⟩:=List.getElem_of_mem hsp
  obtain ⟨g,hg,h⟩:=Paired.getR pg (show ss[j]? = some sp by rw [List.getElem?_eq_getElem hj,e])
  exact h.ax (hgs g (List.mem_of_getElem? hg)) i
 have axt:∀ (i:Nat) (sp:Addr),i < 2→sp∈ss→∃r1 r2:Addr,H2 sp=some (.tup [.ref r1,.ref r2])∧atI [V.ref r1,V.ref r2] (i:Int)=some (.ref (axA H2 i sp)):=fun i sp hi hsp=>by
  obtain ⟨j,hj,e⟩:=List.getElem_of_mem hsp
  obtain ⟨g,hg,r1,r2,f1,_⟩:=Paired.getR pg (show ss[j]? = some sp by rw [List.getElem?_eq_getElem hj,e])
  refine ⟨r1,r2,f1,?_⟩
  rw [pf f1]
  match i,hi with
  | 0,_=>rfl
  | 1,_=>rfl
 refine aj (fun σ' H'=>(∃v3 v4 v5 v6 v7:Option V,σ'=[some (.ref s),some (.ref l),some (.ref sl),v3,v4,v5,v6,v7])∧Same H2 H') (fun R hR=>?_) ?_
 ·refine ⟨wa, _, rfl, wq _, my (K:=K) (l:=wa) (xs:=[.str "down", .str "across"]) (fun i σ' H'=>(∃v3 v4 v5 v6 v7:Option V, σ'=[some (.ref s), some (.ref l), some (.ref sl), v3, v4, v5, v6, v7])∧Same H2 H') ⟨⟨_, _, _, _, _, rfl⟩, Same.refl _⟩ (fun i σ Hx _=>wq Hx) ?_ (fun σ Hx h=>hR _ _ h)⟩
  rintro i x pt σ Hx hi hpt ⟨⟨v3,v4,v5,v6,v7,rfl⟩,sx⟩
  have i2:i < 2:=(List.getElem?_eq_some_iff.mp hi).1
  obtain ⟨wy,rfl⟩:∃wy:Str,x=.str wy:=by
   match i,i2,hi with
   | 0,_,hi=>exact ⟨_,(Option.some.inj hi).symm⟩
   | 1,_,hi=>exact ⟨_,(Option.some.inj hi).symm⟩
  obtain ⟨Hy,e3,k3,s3⟩:∃H',upd Hx pt (.tup [.int i,.str wy])=H'∧H' pt=some (.tup [.int i,.str wy])∧Same Hx H':=⟨_,rfl,ag,Same.new hpt⟩
  rw [show upd Hx pt _=Hy from e3]
  have s2y:=sx.trans s3
  refine ⟨pt,_,rfl,SqT.of k3,rfl,_,_,rfl,_,_,rfl,rfl,?_⟩
  refine aj (fun σ' H'=>∃pv:V,σ'=[some (.ref s),some (.ref l),some (.ref sl),some (.int i),some (.str wy),some pv,v6,v7]∧(pv=.non∨∃r,pv=.int r∧(∃sp∈ss,(ivA H2 (axA H2 i sp)).2≤r)∧∃sp∈ss,r + b≤(ivA H2 (axA H2 i sp)).1)∧Same H2 H') (fun R hR=>?_) ?_
  ·refine ⟨_,rfl,s,dx,_,rfl,s2y _ _ (s02 _ _ h1),dw _ _ (by decide +kernel) (by decide +kernel),s,b,ks,rfl,cS (s02.trans s2y) S0,_,rfl,sl,rfl,⟨_,SqL.of (s2y _ _ hsl)⟩,(dh (K:=K) (.inl (s2y _ _ hsl)) (fun j us Hz=>Same Hy Hz∧us=((ss.take j).map (axA H2 i)).map V.ref) (fun j us Hz _ ⟨sz,_⟩ o e=>sz _ _ e) ⟨Same.refl _,rfl⟩ ?_ ?_).1 (s2y _ _ hsl)⟩
   ·rintro j x us Hz hj ⟨syz,rfl⟩
    have hjn:j < (ss.map V.ref).length:=(List.getElem?_eq_some_iff.mp hj).1
    rw [List.getElem?_map] at hj
    obtain ⟨sp,hsp,rfl⟩:=Option.map_eq_some_iff.mp hj
    obtain ⟨r1,r2,f1,f2⟩:=axt i sp i2 (List.mem_of_getElem? hsp)
    rw [List.length_map] at hjn
    refine ⟨by rw [List.length_map,List.length_map,List.length_take]; omega,leS.set rfl,bV ?_⟩
    refine ⟨_,rfl,_,rfl,sp,_,_,_,rfl,rfl,SqT.of (syz _ _ (s2y _ _ f1)),f2,Nx.of (by rw [List.length_map]; exact hjn) ⟨syz,?_⟩⟩
    rw [List.take_add_one,hsp]
    simp only [Option.toList_some,List.map_append,List.map_cons,List.map_nil]
   ·rintro us Hz ⟨syz,rfl⟩
    rw [show (ss.map V.ref).length=ss.length from List.length_map _,List.take_length]
    refine ⟨by rw [List.length_map,List.length_map]; omega,fun lo hlo=>?_⟩
    obtain ⟨Hw,e4,k4,s4⟩:∃H',upd Hz lo (.lst ((ss.map (axA H2 i)).map V.ref))=H'∧H' lo=some (.lst ((ss.map (axA H2 i)).map V.ref))∧Same Hz H':=⟨_,rfl,ag,Same.new hlo⟩
    rw [show upd Hz lo _=Hw from e4]
    have s2w:=s2y.trans (syz.trans s4)
    refine ⟨b,lo,ss.map (axA H2 i),ivA H2,rfl,k4,fun z=>?_,by rw [List.length_map]; omega,fun a ha=>?_,fun H' s'=>⟨hR _ _ ⟨.non,rfl,.inl rfl,s2w.trans s'⟩,fun r ⟨a1,m1,g1⟩ ⟨a2,m2,g2⟩=>?_⟩⟩
    ·have z0:=congrArg List.length z
     rw [List.length_map] at z0
     have z0:ss.length=0:=z0
     omega
    ·obtain ⟨sp,hsp,rfl⟩:=List.mem_map.mp ha
     obtain ⟨x,y,f1,f2,_⟩:=axf i sp hsp
     rw [f2]; exact s2w _ _ f1
    ·obtain ⟨p1,q1,rfl⟩:=List.mem_map.mp m1
     obtain ⟨p2,q2,rfl⟩:=List.mem_map.mp m2
     exact hR _ _ ⟨.int r,rfl,.inr ⟨r,rfl,⟨p1,q1,g1⟩,p2,q2,g2⟩,s2w.trans s'⟩
  rintro _ H4 ⟨pv,rfl,hpv,s24⟩
  refine ⟨_,rfl,rfl,_,rfl,?_⟩
  rcases hpv with rfl | ⟨r,rfl,⟨p1,q1,g1⟩,p2,q2,g2⟩
  ·exact aP ⟨⟨_,_,_,_,_,rfl⟩,s24⟩
  refine aX ?_
  have s04:=s02.trans s24
  refine aj (fun σ' H'=>∃la:Addr,σ'=[some (.ref s),some (.ref l),some (.ref sl),some (.int i),some (.str wy),some (.int r),some (.ref la),v7]∧H' la=some (.lst ((((as.zip ss).filter fun z=>decide ((ivA H2 (axA H2 i z.2)).2≤r)).map (·.1)).map V.ref))∧Same H4 H') (fun R hR=>?_) ?_
  ·refine ⟨_,rfl,_,rfl,l,sl,_,_,rfl,s04 _ _ hl,s24 _ _ hsl,jb (xs:=as.map V.ref) (ys:=ss.map V.ref) (fun j zs Hz=>Same H4 Hz∧zs=((((as.zip ss).take j).filter fun z=>decide ((ivA H2 (axA H2 i z.2)).2≤r)).map (·.1)).map V.ref) (by rw [List.length_map,List.length_map,asl]) (fun j zs Hz ⟨sz,_⟩=>⟨sz _ _ (s04 _ _ hl),sz _ _ (s24 _ _ hsl)⟩) ⟨Same.refl _,rfl⟩ (fun j zs Hz hj ⟨_,e⟩=>?_) ?_ ?_⟩
   ·rw [e,List.length_map,List.length_map]
    refine Nat.lt_of_le_of_lt (List.length_filter_le _ _) ?_
    rw [List.length_take,List.length_zip]; omega
   ·rintro j x y tz zs Hz hx hy htz ⟨sz,rfl⟩
    rw [List.getElem?_map] at hx hy
    obtain ⟨a,ha,rfl⟩:=Option.map_eq_some_iff.mp hx
    obtain ⟨sp,hsp,rfl⟩:=Option.map_eq_some_iff.mp hy
    have hjn:j < as.length:=(List.getElem?_eq_some_iff.mp ha).1
    obtain ⟨r1,r2,f1,f2⟩:=axt i sp i2 (List.mem_of_getElem? hsp)
    obtain ⟨xx,yy,f3,f4,_⟩:=axf i sp (List.mem_of_getElem? hsp)
    obtain ⟨Hw,e8,k8,s8⟩:∃H',upd Hz tz (.tup [.ref a,.ref sp])=H'∧H' tz=some (.tup [.ref a,.ref sp])∧Same Hz H':=⟨_,rfl,ag,Same.new htz⟩
    rw [show upd Hz tz _=Hw from e8]
    have szw:=sz.trans s8
    refine ⟨tz,_,rfl,SqT.of k8,rfl,_,_,rfl,_,_,rfl,rfl,xG (leS.set rfl) (leS.set rfl),?_⟩
    refine ⟨_,rfl,_,rfl,sp,_,_,_,rfl,rfl,SqT.of (szw _ _ (s24 _ _ f1)),f2,_,_,1,_,rfl,rfl,SqT.of (szw _ _ (s24 _ _ f3)),rfl,_,rfl,_,_,rfl,rfl,_,rfl,?_⟩
    have hzz:(as.zip ss)[j]? = some (a,sp):=List.getElem?_zip_eq_some.mpr ⟨ha,hsp⟩
    have ey:(ivA H2 (axA H2 i sp)).2=yy:=by rw [f4]
    have nx:∀us:List V,us=(((((as.zip ss).take (j + 1)).filter fun z=>decide ((ivA H2 (axA H2 i z.2)).2≤r)).map (·.1)).map V.ref)→Nx (as.map V.ref).length (fun j zs Hz=>Same H4 Hz∧zs=((((as.zip ss).take j).filter fun z=>decide ((ivA H2 (axA H2 i z.2)).2≤r)).map (·.1)).map V.ref) j us Hw:=fun us e=>Nx.of (by rw [List.length_map]; exact hjn) ⟨szw,e⟩
    rw [List.take_add_one,hzz,Option.toList_some,List.filter_append] at nx
    refine bQ (fun cc=>?_) (fun cc=>?_)
    ·refine ⟨_,rfl,nx _ ?_⟩
     rw [show [(a,sp)].filter (fun z:Addr×Addr=>decide ((ivA H2 (axA H2 i z.2)).2≤r))=[(a,sp)] by rw [List.filter_cons_of_pos (by show decide _=true; rw [ey]; exact cc)]; rfl,List.map_append,List.map_append]
     rfl
    ·refine nx _ ?_
     rw [show [(a,sp)].filter (fun z:Addr×Addr=>decide ((ivA H2 (axA H2 i z.2)).2≤r))=[] by rw [List.filter_cons_of_neg (by show ¬ decide _=true; rw [ey]; exact cc)]; rfl,List.append_nil]
   ·rintro zs Hz ⟨sz,rfl⟩
    rw [show (as.map V.ref).length=(as.zip ss).length by rw [List.length_map,List.length_zip]; omega,List.take_length]
    refine ⟨by rw [List.length_map,List.length_map]; exact Nat.le_trans (List.length_filter_le _ _) (by rw [List.length_zip]; omega),fun lo hlo=>?_⟩
    obtain ⟨Hw,e9,k9,s9⟩:∃H',upd Hz lo (.lst ((((as.zip ss).filter fun z=>decide ((ivA H2 (axA H2 i z.2)).2≤r)).map (·.1)).map V.ref))=H'∧H' lo=some (.lst ((((as.zip ss).filter fun z=>decide ((ivA H2 (axA H2 i z.2)).2≤r)).map (·.1)).map V.ref))∧Same Hz H':=⟨_,rfl,ag,Same.new hlo⟩
    rw [show upd Hz lo _=Hw from e9]
    exact hR _ _ ⟨lo,rfl,k9,sz.trans s9⟩
  rintro _ H5 ⟨la,rfl,hla,s45⟩
  refine aj (fun σ' H'=>∃lb:Addr,σ'=[some (.ref s),some (.ref l),some (.ref sl),some (.int i),some (.str wy),some (.int r),some (.ref la),some (.ref lb)]∧H' lb=some (.lst ((((as.zip ss).filter fun z=>decide (r < (ivA H2 (axA H2 i z.2)).2)).map (·.1)).map V.ref))∧Same H5 H') (fun R hR=>?_) ?_
  ·refine ⟨_,rfl,_,rfl,l,sl,_,_,rfl,(s04.trans s45) _ _ hl,(s24.trans s45) _ _ hsl,jb (xs:=as.map V.ref) (ys:=ss.map V.ref) (fun j zs Hz=>Same H5 Hz∧zs=((((as.zip ss).take j).filter fun z=>decide (r < (ivA H2 (axA H2 i z.2)).2)).map (·.1)).map V.ref) (by rw [List.length_map,List.length_map,asl]) (fun j zs Hz ⟨sz,_⟩=>⟨sz _ _ ((s04.trans s45) _ _ hl),sz _ _ ((s24.trans s45) _ _ hsl)⟩) ⟨Same.refl _,rfl⟩ (fun j zs Hz hj ⟨_,e⟩=>?_) ?_ ?_⟩
   ·rw [e,List.length_map,List.length_map]
    refine Nat.lt_of_le_of_lt (List.length_filter_le _ _) ?_
    rw [List.length_take,List.length_zip]; omega
   ·rintro j x y tz zs Hz hx hy htz ⟨sz,rfl⟩
    rw [List.getElem?_map] at hx hy
    obtain ⟨a,ha,rfl⟩:=Option.map_eq_some_iff.mp hx
    obtain ⟨sp,hsp,rfl⟩:=Option.map_eq_some_iff.mp hy
    have hjn:j < as.length:=(List.getElem?_eq_some_iff.mp ha).1
    obtain ⟨r1,r2,f1,f2⟩:=axt i sp i2 (List.mem_of_getElem? hsp)
    obtain ⟨xx,yy,f3,f4,_⟩:=axf i sp (List.mem_of_getElem? hsp)
    obtain ⟨Hw,e8,k8,s8⟩:∃H',upd Hz tz (.tup [.ref a,.ref sp])=H'∧H' tz=some (.tup [.ref a,.ref sp])∧Same Hz H':=⟨_,rfl,ag,Same.new htz⟩
    rw [show upd Hz tz _=Hw from e8]
    have szw:=sz.trans s8
    refine ⟨tz,_,rfl,SqT.of k8,rfl,_,_,rfl,_,_,rfl,rfl,xG (leS.set rfl) (leS.set rfl),?_⟩
    refine ⟨_,rfl,_,rfl,sp,_,_,_,rfl,rfl,SqT.of (szw _ _ ((s24.trans s45) _ _ f1)),f2,_,_,1,_,rfl,rfl,SqT.of (szw _ _ ((s24.trans s45) _ _ f3)),rfl,_,rfl,_,_,rfl,rfl,_,rfl,?_⟩
    have hzz:(as.zip ss)[j]? = some (a,sp):=List.getElem?_zip_eq_some.mpr ⟨ha,hsp⟩
    have ey:(ivA H2 (axA H2 i sp)).2=yy:=by rw [f4]
    have nx:∀us:List V,us=(((((as.zip ss).take (j + 1)).filter fun z=>decide (r < (ivA H2 (axA H2 i z.2)).2)).map (·.1)).map V.ref)→Nx (as.map V.ref).length (fun j zs Hz=>Same H5 Hz∧zs=((((as.zip ss).take j).filter fun z=>decide (r < (ivA H2 (axA H2 i z.2)).2)).map (·.1)).map V.ref) j us Hw:=fun us e=>Nx.of (by rw [List.length_map]; exact hjn) ⟨szw,e⟩
    rw [List.take_add_one,hzz,Option.toList_some,List.filter_append] at nx
    refine bQ (fun cc=>?_) (fun cc=>?_)
    ·refine ⟨_,rfl,nx _ ?_⟩
     rw [show [(a,sp)].filter (fun z:Addr×Addr=>decide (r < (ivA H2 (axA H2 i z.2)).2))=[(a,sp)] by rw [List.filter_cons_of_pos (by show decide _=true; rw [ey]; exact cc)]; rfl,List.map_append,List.map_append]
     rfl
    ·refine nx _ ?_
     rw [show [(a,sp)].filter (fun z:Addr×Addr=>decide (r < (ivA H2 (axA H2 i z.2)).2))=[] by rw [List.filter_cons_of_neg (by show ¬ decide _=true; rw [ey]; exact cc)]; rfl,List.append_nil]
   ·rintro zs Hz ⟨sz,rfl⟩
    rw [show (as.map V.ref).length=(as.zip ss).length by rw [List.length_map,List.length_zip]; omega,List.take_length]
    refine ⟨by rw [List.length_map,List.length_map]; exact Nat.le_trans (List.length_filter_le _ _) (by rw [List.length_zip]; omega),fun lo hlo=>?_⟩
    obtain ⟨Hw,e9,k9,s9⟩:∃H',upd Hz lo (.lst ((((as.zip ss).filter fun z=>decide (r < (ivA H2 (axA H2 i z.2)).2)).map (·.1)).map V.ref))=H'∧H' lo=some (.lst ((((as.zip ss).filter fun z=>decide (r < (ivA H2 (axA H2 i z.2)).2)).map (·.1)).map V.ref))∧Same Hz H':=⟨_,rfl,ag,Same.new hlo⟩
    rw [show upd Hz lo _=Hw from e9]
    exact hR _ _ ⟨lo,rfl,k9,sz.trans s9⟩
  rintro _ H6 ⟨lb,rfl,hlb,s56⟩
  refine ⟨_,rfl,_,rfl,_,rfl,_,rfl,(by show 4≤sizeLine; decide),fun t ht=>?_⟩
  obtain ⟨H7,e7,k7,s7⟩:∃H',upd H6 t (.tup [.str wy,.int r,.ref la,.ref lb])=H'∧H' t=some (.tup [.str wy,.int r,.ref la,.ref lb])∧Same H6 H':=⟨_,rfl,ag,Same.new ht⟩
  rw [show upd H6 t _=H7 from e7]
  have fs:=gv (fun z:Addr×Addr=>decide ((ivA H2 (axA H2 i z.2)).2≤r)) (as.zip ss)
  rw [List.length_zip] at fs
  have eqn:(fun z:Addr×Addr=>decide (r < (ivA H2 (axA H2 i z.2)).2))=fun z=>!decide ((ivA H2 (axA H2 i z.2)).2≤r):=by
   funext z
   by_cases c:(ivA H2 (axA H2 i z.2)).2≤r
   ·rw [decide_eq_true c,decide_eq_false (by omega)]; rfl
   ·rw [decide_eq_false c,decide_eq_true (by omega)]; rfl
  obtain ⟨x1,m1⟩:=lS asl q1
  obtain ⟨x2,m2⟩:=lS asl q2
  refine q2' t la lb wy r _ _ H7 k7 (s7 _ _ (s56 _ _ hla)) (s7 _ _ hlb) (fun a ha=>?_) (fun a ha=>?_) ?_ ?_ ?_ (s04.trans (s45.trans (s56.trans s7)))
  ·obtain ⟨z,hz,rfl⟩:=List.mem_map.mp ha
   exact (List.of_mem_zip (List.mem_filter.mp hz).1).1
  ·obtain ⟨z,hz,rfl⟩:=List.mem_map.mp ha
   exact (List.of_mem_zip (List.mem_filter.mp hz).1).1
  ·rw [List.length_map]
   exact gw m1 (decide_eq_true g1)
  ·rw [List.length_map]
   refine gw m2 (decide_eq_true ?_)
   obtain ⟨x,y,_,f2,f3⟩:=axf i p2 q2
   show r < (ivA H2 (axA H2 i p2)).2
   rw [f2] at g2 ⊢
   have g2:r + b≤x:=g2
   show r < y
   omega
  ·rw [List.length_map,List.length_map,eqn]; omega
 rintro _ H3 ⟨⟨v3,v4,v5,v6,v7,rfl⟩,s23⟩
 exact q1' H3 (s02.trans s23)
end
def tL (H:Hp) (a:Addr):List Int:=match H a with
 | some (.tup [.int i,.bl c,.int x,.int y])=>[i,if c=true then 1 else 0,x,y]
 | _=>[]
theorem qV {H:Hp} {a:Addr} {p:Pq} (h:H a=some (.tup (pqV p))):tL H a=[(p.k:Int),if p.c=true then 1 else 0,p.x,p.y]:=by
 unfold tL
 rw [h]
 rfl
section
variable {P:Program} {w:World} {K:PySem.W.Frag} {mg:Str→Option Value} {base:Heap}
def dm (C:Addr) (n:Nat):Sp:=fun vs H Q _=>∃ (s l:Addr) (x y b:Int) (ks:List Kd) (as:List Addr),vs=[.ref s,.int x,.int y,.ref l]∧ShopAt C H s b ks∧0≤b∧(∀k∈ks,Good k)∧H l=some (.lst (as.map V.ref))∧(∀a∈as,PzP ks H a)∧as.length < 64∧as.length < n∧∀ (t:Addr) (z:Str) (u:V) (H':Hp),H' t=some (.tup [.str z,u])→Same H H'→Q (.ref t) H'
theorem scpart:FnScope ["shop","x","y","pieces","cut","way","place","ahead","behind","first","step","second"] ["shop","x","y","pieces"] (defScope bu):=⟨rfl,rfl,rfl,by decide +kernel,rfl,by decide +kernel,by decide +kernel⟩
set_option maxHeartbeats 1000000 in
theorem qW {f C:Addr} {ttr tkn tdn:Tok} {fd:FuncData} (F:Fun K "part_pieces" "part_pieces" bu f fd) (n:Nat) (B:Blt mg) (T:ShopTxt K C) (htr:mg "TREE" = some (.str "tree" ttr)) (hkn:mg "KNOT" = some (.str "knot" tkn)) (hdn:mg "DOWN" = some (.str "down" tdn)) (MB:Mn P w K mg base C "blade" ["self"] 1 (eg C)) (DLf:Dn P w K mg base "leaf_of" ["x","y","pieces"] 1 (eJ)) (DCu:Dn P w K mg base "parting_cut" ["shop","pieces"] 5 (iy C)) (DPt:Dn P w K mg base "part_pieces" ["shop","x","y","pieces"] (5 + n) (dm C n)):FnOk P w K mg base CX0 (5 + (n + 1)) f fd ["shop","x","y","pieces"] (dm C (n + 1)):=by
 refine F.ok scpart (fun vs H Q E h=>?_) (fun cdv A outer s H vs Q E hr h=>?_)
 ·obtain ⟨s,l,x,y,b,ks,as,rfl,_⟩:=h
  rfl
 obtain ⟨s,l,x,y,b,ks,as,rfl,S0,b0,gk,hl,hp,l64,ln,q⟩:=h
 have nd:=scpart.nd
 refine ⟨_,(@af _ _ _ _ _ (@aN _ _ _ _ _ _ _ _ (@aI _ _ _ _ _ _ _ _ lw (@aA _ _ _ _ _ _ _ _ _ aS rfl B.len PySem.boot_len (@aa _ _ _ _ _ (pv 3) ad rfl) (by decide) (by decide) rfl rfl) ae (aH _)) (@ah _ _ _ (@av _ _ _ _ (@aO _ _ _ _ _ (@aa _ _ _ _ _ (aL (v:=.str "tree") rfl htr ⟨ttr,rfl⟩) (@aa _ _ _ _ _ (@ar _ _ _ _ _ _ _ _ _ _ DLf (hr.mono (show 1≤5 + n by omega)) rfl (@aa _ _ _ _ _ (pv 1) (@aa _ _ _ _ _ (pv 2) (@aa _ _ _ _ _ (pv 3) ad rfl) rfl) rfl) (by decide) rfl rfl) ad rfl) rfl)))) aB) (@af _ _ _ _ _ (@aG _ _ 4 _ _ _ _ nd rfl (Or.inl rfl) (@ar _ _ _ _ _ _ _ _ _ _ DCu (hr.mono (show 5≤5 + n by omega)) rfl (@aa _ _ _ _ _ (pv 0) (@aa _ _ _ _ _ (pv 3) ad rfl) rfl) (by decide) rfl rfl) rfl (Or.inl rfl)) (@af _ _ _ _ _ (@aN _ _ _ _ _ _ _ _ (@aI _ _ _ _ _ _ _ _ sM (pv 4) cX (aH _)) (@ah _ _ _ (@av _ _ _ _ (@aO _ _ _ _ _ (@aa _ _ _ _ _ (aL (v:=.str "knot") rfl hkn ⟨tkn,rfl⟩) (@aa _ _ _ _ _ (@aA _ _ _ _ _ _ _ _ _ ej rfl B.sorted PyProof.Rows.boot_sorted (@aa _ _ _ _ _ (pv 3) ad rfl) (by decide) (by decide) rfl rfl) ad rfl) rfl)))) aB) (@af _ _ _ _ _ (@cg _ _ _ _ _ _ (pv 4) (bH rfl (az (aw (i:=5) nd rfl (Or.inl rfl)) (az (aw (i:=6) nd rfl (Or.inl rfl)) (az (aw (i:=7) nd rfl (Or.inl rfl)) (az (aw (i:=8) nd rfl (Or.inl rfl)) bf))))) rfl rfl rfl) (@af _ _ _ _ _ (@aG _ _ 9 _ _ _ _ nd rfl (Or.inl rfl) (@ar _ _ _ _ _ _ _ _ _ _ DPt hr rfl (@aa _ _ _ _ _ (pv 0) (@aa _ _ _ _ _ (pv 1) (@aa _ _ _ _ _ (pv 2) (@aa _ _ _ _ _ (pv 7) ad rfl) rfl) rfl) rfl) (by decide) rfl rfl) rfl (Or.inl rfl)) (@af _ _ _ _ _ (@aN _ _ _ _ _ _ _ _ (@aI _ _ _ _ _ _ _ _ fH (@ay _ _ _ _ _ _ _ ix_tup (pv 9) ae (fun _ _=>rfl)) (aL (v:=.str "knot") rfl hkn ⟨tkn,rfl⟩) (aH _)) (@ah _ _ _ (@av _ _ _ _ (pv 9))) aB) (@af _ _ _ _ _ (@aG _ _ 10 _ _ _ _ nd rfl (Or.inl rfl) (@aF _ _ _ _ _ _ _ _ aT (pv 6) (oz (pv 0) T.cl MB (hr.mono (show 1≤5 + n by omega)))) rfl (Or.inl rfl)) (@af _ _ _ _ _ (@aG _ _ 11 _ _ _ _ nd rfl (Or.inl rfl) (iG (@aI _ _ _ _ _ _ _ _ fH (pv 5) (aL (v:=.str "down") rfl hdn ⟨tdn,rfl⟩) (aH _)) (@ar _ _ _ _ _ _ _ _ _ _ DPt hr rfl (@aa _ _ _ _ _ (pv 0) (@aa _ _ _ _ _ (pv 10) (@aa _ _ _ _ _ (pv 2) (@aa _ _ _ _ _ (pv 8) ad rfl) rfl) rfl) rfl) (by decide) rfl rfl) (@ar _ _ _ _ _ _ _ _ _ _ DPt hr rfl (@aa _ _ _ _ _ (pv 0) (@aa _ _ _ _ _ (pv 1) (@aa _ _ _ _ _ (pv 10) (@aa _ _ _ _ _ (pv 8) ad rfl) rfl) rfl) rfl) (by decide) rfl rfl)) rfl (Or.inl rfl)) (@af _ _ _ _ _ (@aN _ _ _ _ _ _ _ _ (@aI _ _ _ _ _ _ _ _ fH (@ay _ _ _ _ _ _ _ ix_tup (pv 11) ae (fun _ _=>rfl)) (aL (v:=.str "knot") rfl hkn ⟨tkn,rfl⟩) (aH _)) (@ah _ _ _ (@av _ _ _ _ (pv 11))) aB) (@ah _ _ _ (@av _ _ _ _ (@aO _ _ _ _ _ (@aa _ _ _ _ _ (aL (v:=.str "tree") rfl htr ⟨ttr,rfl⟩) (@aa _ _ _ _ _ (@aO _ _ _ _ _ (@aa _ _ _ _ _ (pv 5) (@aa _ _ _ _ _ (iG (@aI _ _ _ _ _ _ _ _ fH (pv 5) (aL (v:=.str "down") rfl hdn ⟨tdn,rfl⟩) (aH _)) (@aF _ _ _ _ _ _ _ _ de (pv 6) (pv 1)) (@aF _ _ _ _ _ _ _ _ de (pv 6) (pv 2))) (@aa _ _ _ _ _ (@ay _ _ _ _ _ _ _ ix_tup (pv 9) ae (fun _ _=>rfl)) (@aa _ _ _ _ _ (@ay _ _ _ _ _ _ _ ix_tup (pv 11) ae (fun _ _=>rfl)) ad rfl) rfl) rfl) rfl)) ad rfl) rfl))))))))))))),?_⟩
 have sz:(1000:Nat) < sizeLine:=by decide
 obtain ⟨dx,r0,rs,h1,h2,h3⟩:=id S0
 refine aj (fun σ' H'=>σ'=[some (.ref s),some (.int x),some (.int y),some (.ref l),none,none,none,none,none,none,none,none]∧H=H'∧2≤as.length) (fun R hR=>?_) ?_
 ·refine ⟨_,rfl,l,_,rfl,.inl (SqL.of hl),_,_,rfl,rfl,_,rfl,?_⟩
  refine bQ (fun cc=>?_) (fun cc=>hR _ _ ⟨rfl,rfl,?_⟩)
  ·exact ⟨_,rfl,_,rfl,_,rfl,x,y,l,as,rfl,hl,fun a ha=>let ⟨p,_,e,_⟩:=hp a ha; ⟨p,e⟩,fun r xs H1 hr s1=>⟨(by show 2≤sizeLine; decide),fun t ht=>q t _ _ _ ag (s1.trans (Same.new ht))⟩⟩
  ·have cc:¬ (((as.map V.ref).length:Int) < 2):=fun z=>cc (decide_eq_true z)
   rw [List.length_map] at cc
   omega
 rintro _ _ ⟨rfl,rfl,l2⟩
 refine aj (fun σ' H'=>∃cv:V,σ'=[some (.ref s),some (.int x),some (.int y),some (.ref l),some cv,none,none,none,none,none,none,none]∧Same H H'∧(cv=.non∨∃ (t0 la lb:Addr) (wy:Str) (r:Int) (as1 as2:List Addr),cv=.ref t0∧H' t0=some (.tup [.str wy,.int r,.ref la,.ref lb])∧H' la=some (.lst (as1.map V.ref))∧H' lb=some (.lst (as2.map V.ref))∧(∀a∈as1,a∈as)∧(∀a∈as2,a∈as)∧1≤as1.length∧1≤as2.length∧as1.length + as2.length=as.length)) (fun R hR=>?_) ?_
 ·exact ⟨_,rfl,_,rfl,s,l,b,ks,as,rfl,S0,b0,gk,hl,hp,l2,l64,fun H1 s1=>hR _ _ ⟨.non,rfl,s1,.inl rfl⟩,fun t la lb wy r as1 as2 H1 e1 e2 e3 e4 e5 e6 e7 e8 s1=>hR _ _ ⟨.ref t,rfl,s1,.inr ⟨t,la,lb,wy,r,as1,as2,rfl,e1,e2,e3,e4,e5,e6,e7,e8⟩⟩⟩
 rintro _ H1 ⟨cv,rfl,s1,hcv⟩
 refine aj (fun σ' H'=>σ'=[some (.ref s),some (.int x),some (.int y),some (.ref l),some cv,none,none,none,none,none,none,none]∧H1=H'∧cv≠.non) (fun R hR=>?_) ?_
 ·refine ⟨_,rfl,rfl,_,rfl,?_⟩
  by_cases hc:cv=.non
  ·rw [decide_eq_true hc]
   refine aX ⟨_,rfl,l,as,[false,true,false,false],tL H1,rfl,SqL.of (s1 _ _ hl),l64,rfl,fun a ha=>?_,fun lo as' hlo pa so=>⟨(by show 2≤sizeLine; decide),fun t ht=>q t _ _ _ ag (s1.trans ((Same.new hlo).trans (Same.new ht)))⟩⟩
   obtain ⟨p,k,e1,_⟩:=hp a ha
   exact ⟨_,SqT.of (s1 _ _ e1),by rw [qV (s1 _ _ e1)]; rfl⟩
  ·rw [decide_eq_false hc]
   exact aP (hR _ _ ⟨rfl,rfl,hc⟩)
 rintro _ _ ⟨rfl,rfl,hc⟩
 obtain ⟨t0,la,lb,wy,r,as1,as2,rfl,ht0,hla,hlb,m1,m2,n1,n2,n12⟩:=hcv.resolve_left hc
 refine aj (fun σ' H'=>σ'=[some (.ref s),some (.int x),some (.int y),some (.ref l),some (.ref t0),some (.str wy),some (.int r),some (.ref la),some (.ref lb),none,none,none]∧H1=H') (fun R hR=>?_) ?_
 ·exact ⟨_,rfl,t0,_,rfl,SqT.of ht0,rfl,_,_,rfl,_,_,rfl,_,_,rfl,_,_,rfl,rfl,hR _ _ ⟨rfl,rfl⟩⟩
 rintro _ _ ⟨rfl,rfl⟩
 refine aj (fun σ' H'=>∃ (t1:Addr) (z:Str) (u:V),σ'=[some (.ref s),some (.int x),some (.int y),some (.ref l),some (.ref t0),some (.str wy),some (.int r),some (.ref la),some (.ref lb),some (.ref t1),none,none]∧H' t1=some (.tup [.str z,u])∧Same H1 H') (fun R hR=>?_) ?_
 ·exact ⟨_,rfl,_,rfl,_,rfl,_,rfl,s,la,x,y,b,ks,as1,rfl,cS s1 S0,b0,gk,hla,fun a ha=>(hp a (m1 a ha)).same s1,by omega,by omega,fun t z u H2 ht s2=>hR _ _ ⟨t,z,u,rfl,ht,s2⟩⟩
 rintro _ H2 ⟨t1,z1,u1,rfl,ht1,s12⟩
 have s02:=s1.trans s12
 refine aj (fun σ' H'=>σ'=[some (.ref s),some (.int x),some (.int y),some (.ref l),some (.ref t0),some (.str wy),some (.int r),some (.ref la),some (.ref lb),some (.ref t1),none,none]∧H2=H') (fun R hR=>?_) ?_
 ·refine ⟨_,rfl,t1,_,0,_,rfl,rfl,SqT.of (ht1),rfl,rfl,_,rfl,?_⟩
  exact bQ (fun cc=>⟨_,rfl,q t1 z1 u1 H2 ht1 s02⟩) (fun cc=>hR _ _ ⟨rfl,rfl⟩)
 rintro _ _ ⟨rfl,rfl⟩
 refine aj (fun σ' H'=>σ'=[some (.ref s),some (.int x),some (.int y),some (.ref l),some (.ref t0),some (.str wy),some (.int r),some (.ref la),some (.ref lb),some (.ref t1),some (.int (r + b)),none]∧H2=H') (fun R hR=>?_) ?_
 ·exact ⟨_,rfl,_,rfl,s,dx,_,rfl,s02 _ _ h1,dw _ _ (by decide +kernel) (by decide +kernel),s,b,ks,rfl,cS s02 S0,_,_,rfl,rfl,hR _ _ ⟨rfl,rfl⟩⟩
 rintro _ _ ⟨rfl,rfl⟩
 have hlb2:=s12 _ _ hlb
 refine aj (fun σ' H'=>∃ (t2:Addr) (z:Str) (u:V),σ'=[some (.ref s),some (.int x),some (.int y),some (.ref l),some (.ref t0),some (.str wy),some (.int r),some (.ref la),some (.ref lb),some (.ref t1),some (.int (r + b)),some (.ref t2)]∧H' t2=some (.tup [.str z,u])∧Same H2 H') (fun R hR=>?_) ?_
 ·refine ⟨_,rfl,rfl,_,rfl,?_⟩
  refine bQ (fun cc=>?_) (fun cc=>?_)
  ·exact ⟨_,rfl,_,rfl,_,rfl,_,rfl,s,lb,(r + b),y,b,ks,as2,rfl,cS s02 S0,b0,gk,hlb2,fun a ha=>(hp a (m2 a ha)).same s02,by omega,by omega,fun t z u H3 ht s3=>hR _ _ ⟨t,z,u,rfl,ht,s3⟩⟩
  ·exact ⟨_,rfl,_,rfl,_,rfl,_,rfl,s,lb,x,(r + b),b,ks,as2,rfl,cS s02 S0,b0,gk,hlb2,fun a ha=>(hp a (m2 a ha)).same s02,by omega,by omega,fun t z u H3 ht s3=>hR _ _ ⟨t,z,u,rfl,ht,s3⟩⟩
 rintro _ H3 ⟨t2,z2,u2,rfl,ht2,s23⟩
 have s03:=s02.trans s23
 have ht13:=s23 _ _ ht1
 refine aj (fun σ' H'=>σ'=[some (.ref s),some (.int x),some (.int y),some (.ref l),some (.ref t0),some (.str wy),some (.int r),some (.ref la),some (.ref lb),some (.ref t1),some (.int (r + b)),some (.ref t2)]∧H3=H') (fun R hR=>?_) ?_
 ·refine ⟨_,rfl,t2,_,0,_,rfl,rfl,SqT.of (ht2),rfl,rfl,_,rfl,?_⟩
  exact bQ (fun cc=>⟨_,rfl,q t2 z2 u2 H3 ht2 s03⟩) (fun cc=>hR _ _ ⟨rfl,rfl⟩)
 rintro _ _ ⟨rfl,rfl⟩
 refine ⟨_,rfl,_,rfl,rfl,_,rfl,?_⟩
 refine bQ (fun cc=>?_) (fun cc=>?_)
 ·exact ⟨_,rfl,_,rfl,_,_,rfl,rfl,_,rfl,t1,_,1,_,rfl,rfl,SqT.of (ht13),rfl,_,rfl,t2,_,1,_,rfl,rfl,SqT.of (ht2),rfl,(by show 4≤sizeLine; decide),fun a ha=>⟨(by show 2≤sizeLine; decide),fun t ht=>q t _ _ _ ag (s03.trans ((Same.new ha).trans (Same.new ht)))⟩⟩
 ·exact ⟨_,rfl,_,rfl,_,_,rfl,rfl,_,rfl,t1,_,1,_,rfl,rfl,SqT.of (ht13),rfl,_,rfl,t2,_,1,_,rfl,rfl,SqT.of (ht2),rfl,(by show 4≤sizeLine; decide),fun a ha=>⟨(by show 2≤sizeLine; decide),fun t ht=>q t _ _ _ ag (s03.trans ((Same.new ha).trans (Same.new ht)))⟩⟩
theorem pi {f C:Addr} {fd:FuncData} (F:Fun K "part_pieces" "part_pieces" bu f fd):FnOk P w K mg base CX0 5 f fd ["shop","x","y","pieces"] (dm C 0):=by
 refine F.ok scpart (fun vs H Q E h=>?_) (fun cdv A outer s H vs Q E hr h=>?_)
 ·obtain ⟨s,l,x,y,b,ks,as,rfl,_⟩:=h
  rfl
 ·obtain ⟨s,l,x,y,b,ks,as,_,_,_,_,_,_,_,z,_⟩:=h
  exact absurd z (Nat.not_lt_zero _)
theorem js {f C:Addr} {ttr tkn tdn:Tok} {fd:FuncData} (F:Fun K "part_pieces" "part_pieces" bu f fd) (B:Blt mg) (T:ShopTxt K C) (htr:mg "TREE" = some (.str "tree" ttr)) (hkn:mg "KNOT" = some (.str "knot" tkn)) (hdn:mg "DOWN" = some (.str "down" tdn)) (MB:Mn P w K mg base C "blade" ["self"] 1 (eg C)) (DLf:Dn P w K mg base "leaf_of" ["x","y","pieces"] 1 (eJ)) (DCu:Dn P w K mg base "parting_cut" ["shop","pieces"] 5 (iy C)) (mk:∀n,FnOk P w K mg base CX0 (5 + n) f fd ["shop","x","y","pieces"] (dm C n)→Dn P w K mg base "part_pieces" ["shop","x","y","pieces"] (5 + n) (dm C n)):∀n,FnOk P w K mg base CX0 (5 + n) f fd ["shop","x","y","pieces"] (dm C n)
 | 0=>pi F
 | n + 1=>qW F n B T htr hkn hdn MB DLf DCu (mk n (js F B T htr hkn hdn MB DLf DCu mk n))
end
section
variable {P:Program} {w:World} {K:PySem.W.Frag} {mg:Str→Option Value} {base:Heap}
def pj (K:PySem.W.Frag) (NP:Addr):Sp:=fun vs H Q E=>∃ (wv hv:V),vs=[wv,hv]∧(∃T,Ty K H wv T)∧(∃T,Ty K H hv T)∧((aD wv 1 && aD hv 1)=false→E (.ref NP) none H)∧((aD wv 1 && aD hv 1)=true→Q .non H)
def dq (K:PySem.W.Frag) (NP:Addr):Sp:=fun vs H Q E=>∃ (s:Addr) (wv hv v:V),vs=[.ref s,wv,hv,v]∧(∃T,Ty K H wv T)∧(∃T,Ty K H hv T)∧(aD wv 1 && aD hv 1)=false∧E (.ref NP) none H
def tM (C NL:Addr):Sp:=fun vs H Q E=>∃ (pp s:Addr) (b w h:Int) (ks:List Kd) (v:V) (d:PyData),vs=[.ref s,.int w,.int h,v]∧ShopAt C H s b ks∧0≤b∧(∀k∈ks,Good k)∧1≤w∧1≤h∧Dt pp H v d∧wt d≤30000∧(∀ds,bv d=some ds→ds.length < 12)∧(cU ks w h d→∀u H',Same H H'→Q u H')∧(¬ cU ks w h d→∀H',Same H H'→E (.ref NL) none H')
theorem sccplateX:FnScope ["wide","high"] ["wide","high"] (defScope br):=⟨rfl,rfl,rfl,by decide +kernel,rfl,by decide +kernel,by decide +kernel⟩
theorem ku {f NP:Addr} {fd:FuncData} (F:Fun K "check_plate" "check_plate" br f fd) (mP:mg "NoPlate" = some (.ref NP)) (eP:ExcC K NP) (DW:Dn P w K mg base "is_whole" ["thing","least"] 1 (cz K)):FnOk P w K mg base (CXx P w) 2 f fd ["wide","high"] (pj K NP):=by
 refine F.okX sccplateX (fun vs H Q E h=>?_) (fun cdv A outer s H vs Q E hr h=>?_)
 ·obtain ⟨wv,hv,rfl,_⟩:=h
  rfl
 obtain ⟨wv,hv,rfl,⟨Tw,tw⟩,⟨Th,th⟩,qe,q⟩:=h
 have nd:=sccplateX.nd
 refine ⟨_,(@ah _ _ _ (@aN _ _ _ _ _ _ _ _ (PW.pt (bI (@aQ _ _ _ _ (@aK _ _ _ (@ar _ _ _ _ _ _ _ _ _ _ DW hr rfl (@aa _ _ _ _ _ (pv 0) (@aa _ _ _ _ _ ae ad rfl) rfl) (by decide) rfl rfl) (by intro _; rfl))) (bC (@aQ _ _ _ _ (@aK _ _ _ (@ar _ _ _ _ _ _ _ _ _ _ DW hr rfl (@aa _ _ _ _ _ (pv 1) (@aa _ _ _ _ _ ae ad rfl) rfl) (by decide) rfl rfl) (by intro _; rfl)))))) (@ah _ _ _ (iT (R:=fun c H=>E c none H) rfl rfl mP eP (@aa _ _ _ _ _ bi ad rfl) fR)) aB)),?_⟩
 refine ⟨_,rfl,wv,_,1,rfl,tw,_,rfl,?_⟩
 cases hw:aD wv 1 with
 | false=>exact aX (aX ⟨(by show 1≤sizeLine; decide),qe (by rw [hw]; rfl)⟩)
 | true =>
  refine aP ⟨_,rfl,hv,_,1,rfl,th,_,rfl,?_⟩
  cases hh:aD hv 1 with
  | false=>exact aX ⟨(by show 1≤sizeLine; decide),qe (by rw [hw,hh]; rfl)⟩
  | true=>exact aP (q (by rw [hw,hh]; rfl))
theorem scislayP:FnScope ["shop","wide","high","thing","spans","at","columns","rows","other_columns","other_rows"] ["shop","wide","high","thing"] (defScope bB):=⟨rfl,rfl,rfl,by decide +kernel,rfl,by decide +kernel,by decide +kernel⟩
theorem gX {f NP:Addr} {fd:FuncData} (F:Fun K "is_laying" "is_laying" bB f fd) (DCP:DnX P w K mg base "check_plate" ["wide","high"] 2 (pj K NP)):FnOk P w K mg base (CXx P w) 3 f fd ["shop","wide","high","thing"] (dq K NP):=by
 refine F.okX scislayP (fun vs H Q E h=>?_) (fun cdv A outer s H vs Q E hr h=>?_)
 ·obtain ⟨s,wv,hv,v,rfl,_⟩:=h
  rfl
 obtain ⟨s,wv,hv,v,rfl,⟨_,tw⟩,⟨_,th⟩,bad,e⟩:=h
 have nd:=scislayP.nd
 refine ⟨_,(@af _ _ _ _ _ (@ce _ _ _ _ (lN (il DCP (hr.mono (by decide)) rfl (@aa _ _ _ _ _ (pv 1) (@aa _ _ _ _ _ (pv 2) ad rfl) rfl))) rfl) (@af _ _ _ _ _ bS (@af _ _ _ _ _ bS (@af _ _ _ _ _ bS (@ah _ _ _ bS))))),?_⟩
 refine aj (fun σ' H'=>False) (fun R hR=>?_) (fun _ _ z=>z.elim)
 exact ⟨_,rfl,_,rfl,wv,hv,rfl,⟨_,tw⟩,⟨_,th⟩,fun _=>e,fun g=>by rw [bad] at g; cases g⟩
theorem sctkP:FnScope ["shop","wide","high","laying"] ["shop","wide","high","laying"] (defScope bh):=⟨rfl,rfl,rfl,by decide +kernel,rfl,by decide +kernel,by decide +kernel⟩
theorem tN {f NP:Addr} {fd:FuncData} (F:Fun K "tree_or_knot" "tree_or_knot" bh f fd) (DI:DnX P w K mg base "is_laying" ["shop","wide","high","thing"] 3 (dq K NP)):FnOk P w K mg base (CXx P w) 4 f fd ["shop","wide","high","laying"] (dq K NP):=by
 refine F.okX sctkP (fun vs H Q E h=>?_) (fun cdv A outer s H vs Q E hr h=>?_)
 ·obtain ⟨s,wv,hv,v,rfl,_⟩:=h
  rfl
 obtain ⟨s,wv,hv,v,rfl,⟨_,tw⟩,⟨_,th⟩,bad,e⟩:=h
 have nd:=sctkP.nd
 refine ⟨_,(@af _ _ _ _ _ (@aN _ _ _ _ _ _ _ _ (@aQ _ _ _ _ (@aK _ _ _ (lN (il DI (hr.mono (by decide)) rfl (@aa _ _ _ _ _ (pv 0) (@aa _ _ _ _ _ (pv 1) (@aa _ _ _ _ _ (pv 2) (@aa _ _ _ _ _ (pv 3) ad rfl) rfl) rfl) rfl))) (by intro _; rfl))) (@ah _ _ _ bS) aB) (@ah _ _ _ bS)),?_⟩
 refine aj (fun σ' H'=>False) (fun R hR=>?_) (fun _ _ z=>z.elim)
 exact ⟨_,rfl,_,rfl,_,rfl,_,rfl,s,wv,hv,v,rfl,⟨_,tw⟩,⟨_,th⟩,bad,e⟩
theorem sctk:FnScope ["shop","wide","high","laying"] ["shop","wide","high","laying"] (defScope bh):=⟨rfl,rfl,rfl,by decide +kernel,rfl,by decide +kernel,by decide +kernel⟩
theorem xH {f C NL:Addr} {fd:FuncData} (F:Fun K "tree_or_knot" "tree_or_knot" bh f fd) (B:Blt mg) (mN:mg "NoLaying" = some (.ref NL)) (eN:ExcC K NL) (DI:Dn P w K mg base "is_laying" ["shop","wide","high","thing"] 6 (eH C)) (DPt:Dn P w K mg base "part_pieces" ["shop","x","y","pieces"] 17 (dm C 12)):FnOk P w K mg base (CXx P w) 18 f fd ["shop","wide","high","laying"] (tM C NL):=by
 refine F.okX sctk (fun vs H Q E h=>?_) (fun cdv A outer s H vs Q E hr h=>?_)
 ·obtain ⟨pp,s,b,w1,h1,ks,v,d,rfl,_⟩:=h
  rfl
 obtain ⟨pp,s,b,w1,h1,ks,v,d,rfl,S0,b0,gk,w0,h0,hd,dz,dn,q,qe⟩:=h
 have nd:=sctk.nd
 refine ⟨_,(@af _ _ _ _ _ (@aN _ _ _ _ _ _ _ _ (@aQ _ _ _ _ (@aK _ _ _ (@ar _ _ _ _ _ _ _ _ _ _ DI (hr.mono (by decide)) rfl (@aa _ _ _ _ _ (pv 0) (@aa _ _ _ _ _ (pv 1) (@aa _ _ _ _ _ (pv 2) (@aa _ _ _ _ _ (pv 3) ad rfl) rfl) rfl) rfl) (by decide) rfl rfl) (by intro _; rfl))) (@ah _ _ _ (iT (R:=fun c H=>E c none H) rfl rfl mN eN (@aa _ _ _ _ _ bi ad rfl) fR)) aB) (@ah _ _ _ (@av _ _ _ _ (@ar _ _ _ _ _ _ _ _ _ _ DPt hr rfl (@aa _ _ _ _ _ (pv 0) (@aa _ _ _ _ _ ae (@aa _ _ _ _ _ ae (@aa _ _ _ _ _ (du (own:=["piece"]) (cs:=[]) (cap:=[]) rfl (fO (pv 3)) (bn (sc:=defScope bh) (N:=["shop","wide","high","laying"]) rfl rfl (by decide +kernel)) (fun _ _ _ _ _=>aw (i:=0) (by show List.Nodup (["piece"]:List Str) ; decide +kernel) rfl (Or.inl rfl) (Or.inr rfl)) (fun _ _ _ _ _=>bU) (fun _ _ _ _ _=>(bA (r:=iS K) bR rfl B.tuple PyProof.Rows.boot_tuple (@aa _ _ _ _ _ (pv 0) ad rfl)))) ad rfl) rfl) rfl) rfl) (by decide) rfl rfl)))),?_⟩
 have sz:(40000:Nat) < sizeLine:=by decide
 refine aj (fun σ' H'=>σ'=[some (.ref s),some (.int w1),some (.int h1),some v]∧Same H H'∧cU ks w1 h1 d) (fun R hR=>?_) ?_
 ·refine ⟨_,rfl,_,rfl,_,rfl,_,rfl,pp,s,b,w1,h1,ks,v,d,rfl,S0,w0,h0,hd,dz,fun r H1 hri s1=>⟨_,rfl,?_⟩⟩
  cases r with
  | false=>exact aX ⟨(by show 1≤sizeLine; decide),qe (fun z=>by cases hri.mpr z) H1 s1⟩
  | true=>exact aP (hR _ _ ⟨rfl,s1,hri.mp rfl⟩)
 rintro _ H1 ⟨rfl,s1,ld⟩
 obtain ⟨ds,ps,er,pd,hall,lok⟩:=id ld
 obtain ⟨a,xs,rfl,hx,dx⟩:=hd.ref_row er
 have dl:=dx.length
 have l12:=dn ds er
 obtain ⟨ps',pd',hps⟩:=gu hall
 obtain rfl:ps=ps':=Paired.uniq PqD.uniq pd pd'
 have pl:=Paired.length pd
 refine ⟨_,rfl,?_⟩
 dsimp only [lz,tC,iL]
 refine dv (K:=K) (j:=3) rfl (Sq.same hx s1) (fun i us Hx=>Same H1 Hx∧∃as:List Addr,us=as.map V.ref∧as.length=i∧∀a∈as,PzP ks Hx a) (fun i us Hx _ ⟨sx,_⟩ o e=>sx _ _ e) ⟨Same.refl _,[],rfl,rfl,fun a ha=>by simp at ha⟩ ?_ ?_
 ·rintro i x us Hx hi ⟨sx,as,rfl,al,ha⟩
  have hin:i < xs.length:=(List.getElem?_eq_some_iff.mp hi).1
  obtain ⟨dd,hdd,hxx⟩:=dx.get hi
  obtain ⟨p0,hp0,hpq⟩:=Paired.getR pd hdd
  obtain ⟨ap,rfl,hap⟩:=hxx.pq hpq
  obtain ⟨k0,g1,g2,g3⟩:=hps p0 (List.mem_of_getElem? hp0)
  refine ⟨by rw [List.length_map]; omega,leS.set rfl,bV ?_⟩
  have fin:∀ (t:Addr) (Hy:Hp),Same Hx Hy→Hy t=some (.tup (pqV p0))→Nx xs.length (fun i us Hx=>Same H1 Hx∧∃as:List Addr,us=as.map V.ref∧as.length=i∧∀a∈as,PzP ks Hx a) i (as.map V.ref ++ [V.ref t]) Hy:=fun t Hy sy e=>Nx.of hin ⟨sx.trans sy,as ++ [t],by rw [List.map_append]; rfl,by rw [List.length_append,al]; rfl,fun a ha'=>by
   rcases List.mem_append.mp ha' with h | h
   ·exact (ha a h).same sy
   ·rw [List.mem_singleton.mp h]; exact ⟨p0,k0,e,g1,g2⟩⟩
  rcases hap.same (s1.trans sx) with h | h
  ·exact ⟨_,rfl,ap,_,rfl,.inl ⟨SqL.of h,fun t ht=>fin t _ (Same.new ht) ag⟩⟩
  ·exact ⟨_,rfl,ap,_,rfl,.inr ⟨SqT.of h,fin ap _ (Same.refl _) h⟩⟩
 ·rintro us Hx ⟨sx,as,rfl,al,ha⟩
  refine ⟨by rw [List.length_map]; omega,fun l hl=>?_⟩
  obtain ⟨Hy,e2,k2,s2⟩:∃H',upd Hx l (.lst (as.map V.ref))=H'∧H' l=some (.lst (as.map V.ref))∧Same Hx H':=⟨_,rfl,ag,Same.new hl⟩
  rw [show upd Hx l _=Hy from e2]
  have s0y:=s1.trans (sx.trans s2)
  exact ⟨s,l,0,0,b,ks,as,rfl,cS s0y S0,b0,gk,k2,fun a h=>(ha a h).same s2,by omega,by omega,fun t z u H' ht s'=>q ld _ H' (s0y.trans s')⟩
end
section
variable {P:Program} {w:World} {K:PySem.W.Frag} {mg:Str→Option Value} {base:Heap}
theorem FnH.or {k:Nat} {f:Addr} {fd:FuncData} {ps:List Str} {sp sp':Sp} (a:FnH P w K mg base k f fd ps sp) (b:FnH P w K mg base k f fd ps sp') :
  FnH P w K mg base k f fd ps (fun vs H Q E=>sp vs H Q E∨sp' vs H Q E) :=
 ⟨fun vs H Q E h=>h.elim (a.len vs H Q E) (b.len vs H Q E),fun A outer s H args us vs Q E hr e0 hb r hsp=>hsp.elim (a.run A outer s H args us vs Q E hr e0 hb r) (b.run A outer s H args us vs Q E hr e0 hb r)⟩
theorem tO:bootBuiltins "ValueError" = some (.type "ValueError"):=by decide +kernel
structure Cl (mg:Str→Option Value) (x0 x1 x2 x3 x4 x5 x6 x7 x8 x9 x10 x11 x12:Addr):Prop where
 m0:mg "NoPlate" = some (.ref x0)
 m1:mg "NoLaying" = some (.ref x1)
 m2:mg "NoBlade" = some (.ref x2)
 m3:mg "NoKind" = some (.ref x3)
 m4:mg "NoKinds" = some (.ref x4)
 m5:mg "NoLying" = some (.ref x5)
 m6:mg "NoNumber" = some (.ref x6)
 m7:mg "NoTable" = some (.ref x7)
 m8:mg "NoTelling" = some (.ref x8)
 m9:mg "NoText" = some (.ref x9)
 m10:mg "NoTree" = some (.ref x10)
 m11:mg "NoWeights" = some (.ref x11)
 m12:mg "TooLarge" = some (.ref x12)
 mv:mg "ValueError" = none
structure Ec (K:PySem.W.Frag) (CE c x0 x1 x2 x3 x4 x5 x6 x7 x8 x9 x10 x11 x12:Addr) (b1 b2:Bool):Prop where
 F0:ExK K c
 k0:PySem.W.kitOne K (.ref c) (.ref x0)=some b1
 k1:PySem.W.kitOne K (.ref c) (.ref x1)=some b2
 kv:PySem.W.kitOne K (.ref c) (.type "ValueError")=some true
 a1:PySem.W.kitAny K (.ref c) [.ref x2,.ref x3,.ref x4,.ref x5,.ref x6,.ref x7,.ref x8,.ref x9]=some false
 a2:PySem.W.kitAny K (.ref c) [.ref x10,.ref x11,.ref x12]=some false
 xm:PySem.W.exmOne K (.ref c) (.ref CE)=some true
def gy (c:Addr) (ans:Str):Sp:=fun vs H Q _=>∃a,vs=[.ref a]∧H a=some (.ext (IsA a (.ref c)))∧∀H',Same H H'→Q (.str ans) H'
def sj (K:PySem.W.Frag) (H:Hp) (wv hv:V):Prop:=(∃T,Ty K H wv T)∧(∃T,Ty K H hv T)∧(aD wv 1 && aD hv 1)=false
def iz (K:PySem.W.Frag) (C:Addr):Sp:=fun vs H Q _=>∃ (s:Addr) (wv hv v:V), vs=[.ref s, wv, hv, v]∧((sj K H wv hv∧∀H', Same H H'→Q (.str "plate") H')∨∃ (pp:Addr) (b w h:Int) (ks:List Kd) (d:PyData), wv=.int w∧hv=.int h∧ShopAt C H s b ks∧0≤b∧(∀k∈ks, Good k)∧1≤w∧1≤h∧Dt pp H v d∧wt d≤30000∧(∀ds, bv d=some ds→ds.length < 12)∧(cU ks w h d→∀H', Same H H'→Q (.str "told") H')∧(¬ cU ks w h d→∀H', Same H H'→Q (.str "laying") H'))
def kx (K:PySem.W.Frag) (C:Addr):Sp:=fun vs H Q _=>∃ (s:Addr) (wv hv v:V), vs=[.ref s, wv, hv, v]∧((sj K H wv hv∧∀H', Same H H'→Q (.str "plate") H')∨∃ (pp:Addr) (b w h:Int) (ks:List Kd) (d:PyData), wv=.int w∧hv=.int h∧ShopAt C H s b ks∧1≤w∧1≤h∧Dt pp H v d∧wt d≤30000∧∀H', Same H H'→Q (.str "told") H')
theorem scclass:FnScope ["_law_e","_law_kinds","_law_others"] ["_law_e"] (defScope gm):=⟨rfl,rfl,rfl,by decide +kernel,rfl,by decide +kernel,by decide +kernel⟩
theorem jt {f c CE x0 x1 x2 x3 x4 x5 x6 x7 x8 x9 x10 x11 x12:Addr} {b1 b2:Bool} {ans:Str} {fd:FuncData} (F:Fun K "_law_class" "_law_class" gm f fd) (B:Blt mg) (Z:Cl mg x0 x1 x2 x3 x4 x5 x6 x7 x8 x9 x10 x11 x12) (Y:Ec K CE c x0 x1 x2 x3 x4 x5 x6 x7 x8 x9 x10 x11 x12 b1 b2) (hb:(b1=true∧b2=false∧ans = "plate")∨(b1=false∧b2=true∧ans = "laying")):FnH P w K mg base 1 f fd ["_law_e"] (gy c ans):=by
 refine tf F scclass (fun vs H Q E h=>?_) (fun cdv A outer s H vs Q E hr h=>?_)
 ·obtain ⟨a,rfl,_⟩:=h
  rfl
 obtain ⟨a,rfl,ha,q⟩:=h
 have nd:=scclass.nd
 refine ⟨_,(@af _ _ _ _ _ (@aG _ _ 1 _ _ _ _ nd rfl (Or.inl rfl) (@aR _ _ _ _ (@aa _ _ _ _ _ (@aA _ _ _ _ _ _ _ _ _ (cP Y.F0) rfl B.isi PyProof.Rows.boot_isinstance (@aa _ _ _ _ _ (pv 0) (@aa _ _ _ _ _ (aL (v:=.ref x0) rfl Z.m0 rfl) ad rfl) rfl) (by decide) (by decide) rfl rfl) (@aa _ _ _ _ _ (@aA _ _ _ _ _ _ _ _ _ (cP Y.F0) rfl B.isi PyProof.Rows.boot_isinstance (@aa _ _ _ _ _ (pv 0) (@aa _ _ _ _ _ (aL (v:=.ref x1) rfl Z.m1 rfl) ad rfl) rfl) (by decide) (by decide) rfl rfl) ad rfl) rfl)) rfl (Or.inl rfl)) (@af _ _ _ _ _ (@aG _ _ 2 _ _ _ _ nd rfl (Or.inl rfl) (@aA _ _ _ _ _ _ _ _ _ (dF Y.F0) rfl B.isi PyProof.Rows.boot_isinstance (@aa _ _ _ _ _ (pv 0) (@aa _ _ _ _ _ (@aO _ _ _ _ _ (@aa _ _ _ _ _ (aL (v:=.ref x2) rfl Z.m2 rfl) (@aa _ _ _ _ _ (aL (v:=.ref x3) rfl Z.m3 rfl) (@aa _ _ _ _ _ (aL (v:=.ref x4) rfl Z.m4 rfl) (@aa _ _ _ _ _ (aL (v:=.ref x5) rfl Z.m5 rfl) (@aa _ _ _ _ _ (aL (v:=.ref x6) rfl Z.m6 rfl) (@aa _ _ _ _ _ (aL (v:=.ref x7) rfl Z.m7 rfl) (@aa _ _ _ _ _ (aL (v:=.ref x8) rfl Z.m8 rfl) (@aa _ _ _ _ _ (aL (v:=.ref x9) rfl Z.m9 rfl) ad rfl) rfl) rfl) rfl) rfl) rfl) rfl) rfl)) ad rfl) rfl) (by decide) (by decide) rfl rfl) rfl (Or.inl rfl)) (@af _ _ _ _ _ (@aN _ _ _ _ _ _ _ _ (PW.pt (bI (@aK _ _ _ (pv 2) (by intro _; rfl)) (bI (@aK _ _ _ (@aA _ _ _ _ _ _ _ _ _ (dF Y.F0) rfl B.isi PyProof.Rows.boot_isinstance (@aa _ _ _ _ _ (pv 0) (@aa _ _ _ _ _ (@aO _ _ _ _ _ (@aa _ _ _ _ _ (aL (v:=.ref x10) rfl Z.m10 rfl) (@aa _ _ _ _ _ (aL (v:=.ref x11) rfl Z.m11 rfl) (@aa _ _ _ _ _ (aL (v:=.ref x12) rfl Z.m12 rfl) ad rfl) rfl) rfl)) ad rfl) rfl) (by decide) (by decide) rfl rfl) (by intro _; rfl)) (bC (@aI _ _ _ _ _ _ _ _ cI (@dZ _ _ _ _ _ _ _ _ _ _ _ _ PySem.F.plainAttrs_list PySem.F.slot_list_count PySem.F.type_list_count mB (pv 1) (@aa _ _ _ _ _ be ad rfl) rfl rfl rfl rfl rfl) ae (aH _)))))) (@ah _ _ _ (@av _ _ _ _ bi)) aB) (@af _ _ _ _ _ (@aN _ _ _ _ _ _ _ _ (@aQ _ _ _ _ (@aK _ _ _ (@aA _ _ _ _ _ _ _ _ _ (cP Y.F0) rfl B.isi PyProof.Rows.boot_isinstance (@aa _ _ _ _ _ (pv 0) (@aa _ _ _ _ _ (bE (v:=.ty "ValueError") rfl Z.mv tO rfl) ad rfl) rfl) (by decide) (by decide) rfl rfl) (by intro _; rfl))) (@ah _ _ _ (@av _ _ _ _ bi)) aB) (@ah _ _ _ (@av _ _ _ _ (@ay _ _ _ _ _ _ _ ix_list (@aR _ _ _ _ (@aa _ _ _ _ _ bi (@aa _ _ _ _ _ bi ad rfl) rfl)) (@dZ _ _ _ _ _ _ _ _ _ _ _ _ PySem.F.plainAttrs_list PySem.F.slot_list_index PySem.F.type_list_index mC (pv 1) (@aa _ _ _ _ _ be ad rfl) rfl rfl rfl rfl rfl) (fun _ _=>rfl)))))))),?_⟩
 refine ⟨_,rfl,a,_,_,_,rfl,ha,rfl,Y.k0,_,rfl,a,_,_,_,rfl,ha,rfl,Y.k1,(by show 2≤sizeLine; decide),fun l hl=>?_⟩
 obtain ⟨H1,e1,k1,s1⟩:∃H',upd H l (.lst [.bl b1,.bl b2])=H'∧H' l=some (.lst [.bl b1,.bl b2])∧Same H H':=⟨_,rfl,ag,Same.new hl⟩
 rw [show upd H l _=H1 from e1]
 refine ⟨_,rfl,(by show 8≤sizeLine; decide),fun t ht=>?_⟩
 obtain ⟨H2,e2,k2,s2⟩:∃H',upd H1 t (.tup [.ref x2,.ref x3,.ref x4,.ref x5,.ref x6,.ref x7,.ref x8,.ref x9])=H'∧H' t=some (.tup [.ref x2,.ref x3,.ref x4,.ref x5,.ref x6,.ref x7,.ref x8,.ref x9])∧Same H1 H':=⟨_,rfl,ag,Same.new ht⟩
 rw [show upd H1 t _=H2 from e2]
 refine ⟨a,t,_,_,_,rfl,s2 _ _ (s1 _ _ ha),k2,rfl,Y.a1,_,rfl,_,rfl,aP ?_⟩
 refine ⟨_,rfl,(by show 3≤sizeLine; decide),fun u hu=>?_⟩
 obtain ⟨H3,e3,k3,s3⟩:∃H',upd H2 u (.tup [.ref x10,.ref x11,.ref x12])=H'∧H' u=some (.tup [.ref x10,.ref x11,.ref x12])∧Same H2 H':=⟨_,rfl,ag,Same.new hu⟩
 rw [show upd H2 u _=H3 from e3]
 refine ⟨a,u,_,_,_,rfl,s3 _ _ (s2 _ _ (s1 _ _ ha)),k3,rfl,Y.a2,_,rfl,aP ?_⟩
 have s03:=s1.trans (s2.trans s3)
 have k13:=s3 _ _ (s2 _ _ k1)
 refine ⟨_,rfl,.inl ⟨rfl,_,SqL.of k13⟩,l,b1,b2,rfl,rfl,k13,?_⟩
 rcases hb with ⟨rfl,rfl,rfl⟩ | ⟨rfl,rfl,rfl⟩
 ·refine ⟨rfl,_,rfl,aP ?_⟩
  refine ⟨_,rfl,a,_,_,_,rfl,(s03 _ _ ha),rfl,Y.kv,_,rfl,aP ?_⟩
  refine ⟨(by show 2≤sizeLine; decide),fun l2 hl2=>?_⟩
  obtain ⟨H4, e4, k4, s4⟩:∃H', upd H3 l2 (.lst [.str "plate", .str "laying"])=H'∧H' l2=some (.lst [.str "plate", .str "laying"])∧Same H3 H':=⟨_, rfl, ag, Same.new hl2⟩
  rw [show upd H3 l2 _=H4 from e4]
  exact ⟨_,rfl,.inl ⟨rfl,_,SqL.of (s4 _ _ k13)⟩,l,_,_,rfl,rfl,s4 _ _ k13,.inl ⟨rfl,l2,_,_,_,rfl,rfl,SqL.of k4,cA (Int.le_refl _) rfl,q H4 (s03.trans s4)⟩⟩
 ·refine ⟨rfl,_,rfl,aP ?_⟩
  refine ⟨_,rfl,a,_,_,_,rfl,(s03 _ _ ha),rfl,Y.kv,_,rfl,aP ?_⟩
  refine ⟨(by show 2≤sizeLine; decide),fun l2 hl2=>?_⟩
  obtain ⟨H4, e4, k4, s4⟩:∃H', upd H3 l2 (.lst [.str "plate", .str "laying"])=H'∧H' l2=some (.lst [.str "plate", .str "laying"])∧Same H3 H':=⟨_, rfl, ag, Same.new hl2⟩
  rw [show upd H3 l2 _=H4 from e4]
  exact ⟨_,rfl,.inl ⟨rfl,_,SqL.of (s4 _ _ k13)⟩,l,_,_,rfl,rfl,s4 _ _ k13,.inr ⟨rfl,rfl,l2,_,_,_,rfl,rfl,SqL.of k4,rfl,q H4 (s03.trans s4)⟩⟩
theorem sctold6:FnScope ["_law_made","_law_wide","_law_high","_law_thing","_law_told_here","_law_e"] ["_law_made","_law_wide","_law_high","_law_thing"] (defScope jn):=⟨rfl,rfl,rfl,by decide +kernel,rfl,by decide +kernel,by decide +kernel⟩
theorem pk {f C CE x0 x1 x2 x3 x4 x5 x6 x7 x8 x9 x10 x11 x12:Addr} {fd:FuncData} (F:Fun K "_law_told" "_law_told" jn f fd) (Y0:Ec K CE x0 x0 x1 x2 x3 x4 x5 x6 x7 x8 x9 x10 x11 x12 true false) (Y1:Ec K CE x1 x0 x1 x2 x3 x4 x5 x6 x7 x8 x9 x10 x11 x12 false true) (mp:mg "PlateError" = some (.ref CE)) (DW:DnH P w K mg base "_law_class" ["_law_e"] 1 (fun vs H Q E=>gy x0 "plate" vs H Q E∨gy x1 "laying" vs H Q E)) (DT:DnX P w K mg base "tree_or_knot" ["shop","wide","high","laying"] 18 (fun vs H Q E=>tM C x1 vs H Q E∨dq K x0 vs H Q E)):FnOk P w K mg base CX0 19 f fd ["_law_made","_law_wide","_law_high","_law_thing"] (iz K C):=by
 refine F.ok sctold6 (fun vs H Q E h=>?_) (fun cdv A outer s0 H vs Q E hr h=>?_)
 ·obtain ⟨s,wv,hv,v,rfl,_⟩:=h
  rfl
 obtain ⟨s,wv,hv,v,rfl,h⟩:=h
 have nd:=sctold6.nd
 have hr1:=hr.mono (show 1≤18 by decide)
 refine ⟨_,(@af _ _ _ _ _ (@aG _ _ 4 _ _ _ _ nd rfl (Or.inl rfl) bi rfl (Or.inl rfl)) (@af _ _ _ _ _ (lK (i:=5) rfl rfl rfl (jc (il DT hr rfl (@aa _ _ _ _ _ (pv 0) (@aa _ _ _ _ _ (pv 1) (@aa _ _ _ _ _ (pv 2) (@aa _ _ _ _ _ (pv 3) ad rfl) rfl) rfl) rfl))) nd rfl rfl rfl mp (fun ea=>(@ah _ _ _ (@aG _ _ 4 _ _ _ _ nd rfl (Or.inl rfl) (sf DW (hr1.h _) rfl (@aa _ _ _ _ _ (pv 5) ad rfl)) rfl (Or.inl rfl))))) (@ah _ _ _ (@av _ _ _ _ (pv 4))))),?_⟩
 refine ⟨_,rfl,_,rfl,_,rfl,_,rfl,?_⟩
 dsimp only [iL]
 rcases h with ⟨⟨tw,th,bad⟩,q⟩ | ⟨pp,b,w1,h1,ks,d,rfl,rfl,S0,b0,gk,w0,h0,hd,dz,dn,q1,q2⟩
 ·refine .inr ⟨s,wv,hv,v,rfl,tw,th,bad,Y0.xm,fun ea hea=>?_⟩
  exact ⟨_,rfl,.inl ⟨ea,rfl,ag,fun H' s'=>⟨_,rfl,q H' ((Same.new hea).trans s')⟩⟩⟩
 ·exact .inl ⟨pp,s,b,w1,h1,ks,v,d,rfl,S0,b0,gk,w0,h0,hd,dz,dn,fun ld u H1 s1=>⟨_,rfl,q1 ld H1 s1⟩,fun nl H1 s1=>⟨Y1.xm,fun ea hea=>⟨_,rfl,.inr ⟨ea,rfl,ag,fun H' s'=>⟨_,rfl,q2 nl H' (s1.trans ((Same.new hea).trans s'))⟩⟩⟩⟩⟩
theorem scjudg6:FnScope ["_law_made","_law_wide","_law_high","_law_thing","_law_told_here","_law_e"] ["_law_made","_law_wide","_law_high","_law_thing"] (defScope eE):=⟨rfl,rfl,rfl,by decide +kernel,rfl,by decide +kernel,by decide +kernel⟩
theorem pw {f C CE x0 x1 x2 x3 x4 x5 x6 x7 x8 x9 x10 x11 x12:Addr} {fd:FuncData} (F:Fun K "_law_judged" "_law_judged" eE f fd) (Y0:Ec K CE x0 x0 x1 x2 x3 x4 x5 x6 x7 x8 x9 x10 x11 x12 true false) (Y1:Ec K CE x1 x0 x1 x2 x3 x4 x5 x6 x7 x8 x9 x10 x11 x12 false true) (mp:mg "PlateError" = some (.ref CE)) (DW:DnH P w K mg base "_law_class" ["_law_e"] 1 (fun vs H Q E=>gy x0 "plate" vs H Q E∨gy x1 "laying" vs H Q E)) (DT:DnX P w K mg base "is_laying" ["shop","wide","high","thing"] 6 (fun vs H Q E=>eH C vs H Q E∨dq K x0 vs H Q E)):FnOk P w K mg base CX0 7 f fd ["_law_made","_law_wide","_law_high","_law_thing"] (kx K C):=by
 refine F.ok scjudg6 (fun vs H Q E h=>?_) (fun cdv A outer s0 H vs Q E hr h=>?_)
 ·obtain ⟨s,wv,hv,v,rfl,_⟩:=h
  rfl
 obtain ⟨s,wv,hv,v,rfl,h⟩:=h
 have nd:=scjudg6.nd
 have hr1:=hr.mono (show 1≤6 by decide)
 refine ⟨_,(@af _ _ _ _ _ (@aG _ _ 4 _ _ _ _ nd rfl (Or.inl rfl) bi rfl (Or.inl rfl)) (@af _ _ _ _ _ (lK (i:=5) rfl rfl rfl (jc (il DT hr rfl (@aa _ _ _ _ _ (pv 0) (@aa _ _ _ _ _ (pv 1) (@aa _ _ _ _ _ (pv 2) (@aa _ _ _ _ _ (pv 3) ad rfl) rfl) rfl) rfl))) nd rfl rfl rfl mp (fun ea=>(@ah _ _ _ (@aG _ _ 4 _ _ _ _ nd rfl (Or.inl rfl) (sf DW (hr1.h _) rfl (@aa _ _ _ _ _ (pv 5) ad rfl)) rfl (Or.inl rfl))))) (@ah _ _ _ (@av _ _ _ _ (pv 4))))),?_⟩
 refine ⟨_,rfl,_,rfl,_,rfl,_,rfl,?_⟩
 dsimp only [iL]
 rcases h with ⟨⟨tw,th,bad⟩,q⟩ | ⟨pp,b,w1,h1,ks,d,rfl,rfl,S0,w0,h0,hd,dz,q1⟩
 ·refine .inr ⟨s,wv,hv,v,rfl,tw,th,bad,Y0.xm,fun ea hea=>?_⟩
  exact ⟨_,rfl,.inl ⟨ea,rfl,ag,fun H' s'=>⟨_,rfl,q H' ((Same.new hea).trans s')⟩⟩⟩
 ·exact .inl ⟨pp,s,b,w1,h1,ks,v,d,rfl,S0,w0,h0,hd,dz,fun r H1 _ s1=>⟨_,rfl,q1 H1 s1⟩⟩
end
def cR:List PyData:=[.none,.bool true,.bool false,.int 0,.str "4",.str "",.list [.int 4],.tuple [.int 4],.dict [],.int (-1),.int (1 - 10 ^ 60)]
def SmD (d:PyData):Prop:=d∈cR∨(∃b,d=.bool b)∨∃i,d=.int i∧Short i
def ItD (d:PyData):Prop:=d∈cR∨∃es,d=.tuple es∧4≤es.length∧es.length≤5∧∀e∈es,SmD e
theorem iA {P:PyData→Prop} {d:PyData} (h:d∈cR) (h0:P .none) (h1:P (.bool true)) (h2:P (.bool false)) (h3:P (.int 0)) (h4:P (.str "4")) (h5:P (.str "")) (h6:P (.list [.int 4])) (h7:P (.tuple [.int 4])) (h8:P (.dict [])) (h9:P (.int (-1))) (h10:P (.int (1 - 10 ^ 60))):P d:=by
 simp only [cR,List.mem_cons,List.not_mem_nil,or_false] at h
 rcases h with rfl | rfl | rfl | rfl | rfl | rfl | rfl | rfl | rfl | rfl | rfl <;> assumption
theorem pC {d:PyData} (h:d∈cR):wt d≤2:=iA (P:=fun d=>wt d≤2) h (by simp [wt]) (by simp [wt]) (by simp [wt]) (by simp [wt]) (by simp only [wt]; decide +kernel) (by simp only [wt]; decide +kernel) (by simp [wt,wts]) (by simp [wt,wts]) (by simp [wt]) (by simp [wt]) (by simp [wt])
def ShD (k n:Nat) (d:PyData):Prop:=d.showable=true∧d.depth≤k∧d.shown.length≤n
theorem pE {d:PyData} (h:d∈cR):ShD 1 63 d:=by
 have sb:∀i:Int,Short i→ShD 1 63 (.int i):=fun i hs=>⟨by simp [PyData.showable,hs.log],by simp [PyData.depth],hs.len⟩
 refine iA (P:=ShD 1 63) h ?_ ?_ ?_ (sb _ ?_) ?_ ?_ ?_ ?_ ?_ (sb _ ?_) (sb _ ?_) <;> first | exact (by unfold Short; decide) | exact ⟨by decide +kernel,by decide +kernel,by decide +kernel⟩
theorem xI {d:PyData} (h:SmD d):ShD 1 63 d:=by
 rcases h with h | ⟨b,rfl⟩ | ⟨i,rfl,hs⟩
 ·exact pE h
 ·cases b <;> exact ⟨by decide +kernel,by decide +kernel,by decide +kernel⟩
 ·exact ⟨by simp [PyData.showable,hs.log],by simp [PyData.depth],hs.len⟩
theorem xJ {d:PyData} (h:SmD d):wt d≤2:=by
 rcases h with h | ⟨b,rfl⟩ | ⟨i,rfl,hs⟩
 ·exact pC h
 ·simp [wt]
 ·simp [wt]
theorem ky {n:Nat}:∀ {ds:List PyData},(∀d∈ds,wt d≤n)→wts ds≤n * ds.length
 | [],_=>Nat.zero_le _
 | d :: r,h=>by
  have h1:=h d List.mem_cons_self
  have h2:=ky (ds:=r) fun x hx=>h x (List.mem_cons_of_mem _ hx)
  rw [wts,List.length_cons,Nat.mul_succ]
  omega
theorem xK {d:PyData} (h:ItD d):wt d≤11:=by
 rcases h with h | ⟨es,rfl,_,l5,he⟩
 ·have:=pC h; omega
 ·have:=ky fun e h=>xJ (he e h)
  rw [wt]
  omega
mutual
theorem Dt.datD {K:PySem.W.Frag} {p:Addr} {H:Hp}:∀ {v:V} {d:PyData},Dt p H v d→DatD K H v d
 | _,_,.non=>.non
 | _,_,.bl b=>.bl b
 | _,_,.int i=>.int i
 | _,_,.str z=>.str z
 | _,_,.lst n h r=>.lst (SqL.of h) r.datD
 | _,_,.tup h r=>.tup (SqT.of h) r.datD
 | _,_,.emp h=>.dct (kv:=[]) h
theorem Dts.datD {K:PySem.W.Frag} {p:Addr} {H:Hp}:∀ {vs:List V} {ds:List PyData},Dts p H vs ds→DatDs K H vs ds
 | _,_,.nil=>.nil
 | _,_,.cons a r=>.cons a.datD r.datD
end
section
variable {P:Program} {w:World} {K:PySem.W.Frag} {mg:Str→Option Value} {base:Heap}
def pF:Sp:=fun vs H Q _=>∃p,vs=[.ref p]∧PotC H p∧∀ (v:V) (d:PyData) (H':Hp),(∀s0,H s0≠none→Dt s0 H' v d)→d∈cR→PotC H' p→But p H H'→Q v H'
theorem scoddc:FnScope ["_law_pot_here","_law_some"] ["_law_pot_here"] (defScope oO):=⟨rfl,rfl,rfl,by decide +kernel,rfl,by decide +kernel,by decide +kernel⟩
theorem qX {f:Addr} {fd:FuncData} (F:Fun K "_law_odd" "_law_odd" oO f fd) (B:Blt mg) (DD:Dn P w K mg base "_law_take" ["_law_pot_here","_law_many"] 1 (cG)):FnOk P w K mg base CX0 2 f fd ["_law_pot_here"] (pF):=by
 refine F.ok scoddc (fun vs H Q E h=>?_) (fun cdv A outer s H vs Q E hr h=>?_)
 ·obtain ⟨p,rfl,_⟩:=h
  rfl
 obtain ⟨p,rfl,pt,q⟩:=h
 have nd:=scoddc.nd
 refine ⟨_,(@af _ _ _ _ _ (@aG _ _ 1 _ _ _ _ nd rfl (Or.inl rfl) (@aR _ _ _ _ (@aa _ _ _ _ _ cX (@aa _ _ _ _ _ be (@aa _ _ _ _ _ be (@aa _ _ _ _ _ ae (@aa _ _ _ _ _ bi (@aa _ _ _ _ _ bi (@aa _ _ _ _ _ (@aR _ _ _ _ (@aa _ _ _ _ _ ae ad rfl)) (@aa _ _ _ _ _ (@aO _ _ _ _ _ (@aa _ _ _ _ _ ae ad rfl)) (@aa _ _ _ _ _ dQ (@aa _ _ _ _ _ (@rW _ _ _ _ _ _ nQ ae) (@aa _ _ _ _ _ (@aF _ _ _ _ _ _ _ _ de ae (@aF _ _ _ _ _ _ _ _ dL ae ae)) ad rfl) rfl) rfl) rfl) rfl) rfl) rfl) rfl) rfl) rfl) rfl)) rfl (Or.inl rfl)) (@ah _ _ _ (@av _ _ _ _ (@ay _ _ _ _ _ _ _ ix_list (pv 1) (@ar _ _ _ _ _ _ _ _ _ _ DD hr rfl (@aa _ _ _ _ _ (pv 0) (@aa _ _ _ _ _ ae ad rfl) rfl) (by decide) rfl rfl) (fun _ _=>rfl))))),?_⟩
 refine aj (fun σ' H'=>∃ (l l4 t4 em:Addr), σ'=[some (.ref p), some (.ref l)]∧l≠p∧l4≠p∧H l4=none∧H' l=some (.lst [.non, .bl true, .bl false, .int 0, .str "4", .str "", .ref l4, .ref t4, .ref em, .int (-1), .int (1 - 10 ^ 60)])∧H' l4=some (.lst [.int 4])∧H' t4=some (.tup [.int 4])∧H' em=some (.dK [])∧PotC H' p∧But p H H') (fun R hR=>?_) ?_
 ·refine ⟨(by show 1≤sizeLine; decide),fun l4 hl4=>?_⟩
  obtain ⟨H1,e1,k1,n1,s1,b1,pt1⟩:=aW (o:=.lst [.int 4]) But.refl' pt hl4
  rw [show upd H l4 _=H1 from e1]
  refine ⟨(by show 1≤sizeLine; decide),fun t4 ht4=>?_⟩
  obtain ⟨H2,e2,k2,n2,s2,b2,pt2⟩:=aW (o:=.tup [.int 4]) b1 pt1 ht4
  rw [show upd H1 t4 _=H2 from e2]
  refine fun em hem=>?_
  obtain ⟨H3,e3,k3,n3,s3,b3,pt3⟩:=aW (o:=.dK []) b2 pt2 hem
  rw [show upd H2 em _=H3 from e3]
  refine ⟨_,rfl,_,_,rfl,rfl,⟨by decide,by decide,by decide⟩,_,_,rfl,rfl,(by show 11≤sizeLine; decide),fun l hl=>?_⟩
  obtain ⟨H4,e4,k4,n4,s4,b4,pt4⟩:=aW (o:=.lst [.non,.bl true,.bl false,.int 0,.str "4",.str "",.ref l4,.ref t4,.ref em,.int (-1),.int (1 - 10 ^ (60:Int).toNat)]) b3 pt3 hl
  rw [show upd H3 l _=H4 from e4]
  exact hR _ _ ⟨l,l4,t4,em,rfl,n4,n1,hl4,k4,s4 _ _ (s3 _ _ (s2 _ _ k1)),s4 _ _ (s3 _ _ k2),s4 _ _ k3,pt4,b4⟩
 rintro _ H1 ⟨l,l4,t4,em,rfl,nl,nl4,fl4,hl,hl4,ht4,hem,pt1,b1⟩
 refine ⟨_,rfl,_,rfl,p,11,rfl,pt1,by decide,by decide,fun r H2 r0 r1 pt2 b2=>?_⟩
 have hl2:=b2 _ _ nl hl
 have four:∀s0,Dts s0 H2 [.int 4] [.int 4]:=fun s0=>.cons (.int 4) .nil
 have hl42:=b2 _ _ nl4 hl4
 have ht42:=fh b2 pt1 ht4
 have hem2:=b2 _ _ (fun z=>by obtain ⟨_,e⟩:=fv pt1; rw [z,e] at hem; cases hem) hem
 obtain ⟨x,d,hx,hd,hm⟩:∃x d,atI [V.non,.bl true,.bl false,.int 0,.str "4",.str "",.ref l4,.ref t4,.ref em,.int (-1),.int (1 - 10 ^ 60)] r=some x∧(∀s0,H s0≠none→Dt s0 H2 x d)∧d∈cR:=by
  have:r=0∨r=1∨r=2∨r=3∨r=4∨r=5∨r=6∨r=7∨r=8∨r=9∨r=10:=by omega
  rcases this with rfl | rfl | rfl | rfl | rfl | rfl | rfl | rfl | rfl | rfl | rfl
  ·exact ⟨_,_,rfl,fun s0 hs=>.non,by simp [cR]⟩
  ·exact ⟨_,_,rfl,fun s0 hs=>.bl true,by simp [cR]⟩
  ·exact ⟨_,_,rfl,fun s0 hs=>.bl false,by simp [cR]⟩
  ·exact ⟨_,_,rfl,fun s0 hs=>.int 0,by simp [cR]⟩
  ·exact ⟨_,_,rfl,fun s0 hs=>.str "4",by simp [cR]⟩
  ·exact ⟨_,_,rfl,fun s0 hs=>.str "",by simp [cR]⟩
  ·exact ⟨_,_,rfl,fun s0 hs=>.lst (fun z=>hs (z ▸ fl4)) hl42 (four s0),by simp [cR]⟩
  ·exact ⟨_,_,rfl,fun s0 hs=>.tup ht42 (four s0),by simp [cR]⟩
  ·exact ⟨_,_,rfl,fun s0 hs=>.emp hem2,by simp [cR]⟩
  ·exact ⟨_,_,rfl,fun s0 hs=>.int (-1),by simp [cR]⟩
  ·exact ⟨_,_,rfl,fun s0 hs=>.int (1 - 10 ^ 60),by simp [cR]⟩
 exact ⟨l,_,_,_,rfl,rfl,SqL.of hl2,hx,q x d H2 hd hm pt2 (b1.trans b2)⟩
end
theorem Dts.app {p:Addr} {H:Hp}:∀ {vs us:List V} {ds es:List PyData},Dts p H vs ds→Dts p H us es→Dts p H (vs ++ us) (ds ++ es)
 | _,_,_,_,.nil,h=>h
 | _,_,_,_,.cons a r,h=>.cons a (r.app h)
theorem Dts.take {p:Addr} {H:Hp}:∀ (n:Nat) {vs:List V} {ds:List PyData},Dts p H vs ds→Dts p H (vs.take n) (ds.take n)
 | 0,_,_,_=>by rw [List.take_zero,List.take_zero]; exact .nil
 | n + 1,_,_,.nil=>.nil
 | n + 1,_,_,.cons a r=>.cons a (r.take n)
theorem Dts.drop {p:Addr} {H:Hp}:∀ (n:Nat) {vs:List V} {ds:List PyData},Dts p H vs ds→Dts p H (vs.drop n) (ds.drop n)
 | 0,_,_,h=>h
 | n + 1,_,_,.nil=>.nil
 | n + 1,_,_,.cons a r=>r.drop n
def GL (p:Addr) (H:Hp) (v:V):Prop:=∃a xs ds,v=.ref a∧a≠p∧H a=some (.lst xs)∧Dts p H xs ds∧(∀d∈ds,ItD d)∧xs.length≤10
theorem GL.same {p:Addr} {H H':Hp} {v:V} (s:Same H H') (h:GL p H v):GL p H' v:=by
 obtain ⟨a,xs,ds,e,n,h,d,r⟩:=h
 exact ⟨a,xs,ds,e,n,s _ _ h,d.same s,r⟩
theorem GL.but {p:Addr} {H H':Hp} {v:V} (hp:PotC H p) (b:But p H H') (h:GL p H v):GL p H' v:=by
 obtain ⟨a,xs,ds,e,n,h,d,r⟩:=h
 exact ⟨a,xs,ds,e,n,b _ _ n h,d.but (fv hp) b,r⟩
theorem GL.mid {p a:Addr} {H:Hp} {ys:List V} {dys:List PyData} {i:Nat} {x:V} {d:PyData} (na:a≠p) (ha:H a=some (.lst (ys.take i ++ [x] ++ ys.drop (i + 1)))) (D:Dts p H ys dys) (al:∀d∈dys,ItD d) (hi:i < ys.length) (hl:ys.length≤9) (hx:Dt p H x d) (hd:ItD d):GL p H (.ref a):=by
 refine ⟨a,_,_,rfl,na,ha,((D.take i).app (.cons hx .nil)).app (D.drop (i + 1)),fun e he=>?_,?_⟩
 ·rcases List.mem_append.mp he with he | he
  ·rcases List.mem_append.mp he with he | he
   ·exact al e (List.mem_of_mem_take he)
   ·rw [List.mem_singleton.mp he]; exact hd
  ·exact al e (List.mem_of_mem_drop he)
 ·rw [List.length_append,List.length_append,List.length_take,List.length_drop,List.length_singleton]
  omega
theorem GL.snoc {p a:Addr} {H:Hp} {ys:List V} {dys:List PyData} {x:V} {d:PyData} (na:a≠p) (ha:H a=some (.lst (ys ++ [x]))) (D:Dts p H ys dys) (al:∀d∈dys,ItD d) (hl:ys.length≤9) (hx:Dt p H x d) (hd:ItD d):GL p H (.ref a):=by
 refine ⟨a,_,_,rfl,na,ha,D.app (.cons hx .nil),fun e he=>?_,?_⟩
 ·rcases List.mem_append.mp he with he | he
  ·exact al e he
  ·rw [List.mem_singleton.mp he]; exact hd
 ·rw [List.length_append,List.length_singleton]
  omega
mutual
theorem Dt.but2 {p q:Addr} {H H':Hp} (hp:∃xs,H p=some (.lst xs)) (b:But p H H'):∀ {v:V} {d:PyData},Dt p H v d→Dt q H v d→Dt q H' v d
 | _,_,.non,_=>.non
 | _,_,.bl b,_=>.bl b
 | _,_,.int i,_=>.int i
 | _,_,.str z,_=>.str z
 | _,_,.lst n h r,h2=>by
  cases h2 with
  | lst n' h' r' =>
   rw [h] at h'
   cases h'
   exact .lst n' (b _ _ n h) (r.but2 hp b r')
 | _,_,.tup h r,h2=>by
  cases h2 with
  | tup h' r' =>
   rw [h] at h'
   cases h'
   exact .tup (b _ _ (fun z=>by obtain ⟨_,e⟩:=hp; rw [z,e] at h; cases h) h) (r.but2 hp b r')
 | _,_,.emp h,_=>.emp (b _ _ (fun z=>by obtain ⟨_,e⟩:=hp; rw [z,e] at h; cases h) h)
theorem Dts.but2 {p q:Addr} {H H':Hp} (hp:∃xs,H p=some (.lst xs)) (b:But p H H'):∀ {vs:List V} {ds:List PyData},Dts p H vs ds→Dts q H vs ds→Dts q H' vs ds
 | _,_,.nil,_=>.nil
 | _,_,.cons a r,h2=>by
  cases h2 with
  | cons a' r'=>exact .cons (a.but2 hp b a') (r.but2 hp b r')
end
mutual
theorem Dt.fresh {p q:Addr} {H:Hp} (hq:H q=none):∀ {v:V} {d:PyData},Dt p H v d→Dt q H v d
 | _,_,.non=>.non
 | _,_,.bl b=>.bl b
 | _,_,.int i=>.int i
 | _,_,.str z=>.str z
 | _,_,.lst n h r=>.lst (fun z=>by rw [z,hq] at h; cases h) h (r.fresh hq)
 | _,_,.tup h r=>.tup h (r.fresh hq)
 | _,_,.emp h=>.emp h
theorem Dts.fresh {p q:Addr} {H:Hp} (hq:H q=none):∀ {vs:List V} {ds:List PyData},Dts p H vs ds→Dts q H vs ds
 | _,_,.nil=>.nil
 | _,_,.cons a r=>.cons (a.fresh hq) (r.fresh hq)
end
def GL2 (p so:Addr) (H:Hp) (v:V):Prop:=∃a xs ds,v=.ref a∧a≠p∧a≠so∧H a=some (.lst xs)∧Dts p H xs ds∧Dts so H xs ds∧(∀d∈ds,ItD d)∧xs.length≤10
theorem GL.two {p so:Addr} {H:Hp} {v:V} (hq:H so=none) (h:GL p H v):GL2 p so H v:=by
 obtain ⟨a,xs,ds,e,n,h,d,r⟩:=h
 exact ⟨a,xs,ds,e,n,ai h hq,h,d,d.fresh hq,r⟩
theorem GL2.one {p so:Addr} {H:Hp} {v:V} (h:GL2 p so H v):GL p H v:=by
 obtain ⟨a,xs,ds,e,n,_,h,d,_,r⟩:=h
 exact ⟨a,xs,ds,e,n,h,d,r⟩
theorem GL2.same {p so:Addr} {H H':Hp} {v:V} (s:Same H H') (h:GL2 p so H v):GL2 p so H' v:=by
 obtain ⟨a,xs,ds,e,n,n2,h,d,d2,r⟩:=h
 exact ⟨a,xs,ds,e,n,n2,s _ _ h,d.same s,d2.same s,r⟩
theorem GL2.but {p so:Addr} {H H':Hp} {v:V} (hp:PotC H p) (b:But p H H') (h:GL2 p so H v):GL2 p so H' v:=by
 obtain ⟨a,xs,ds,e,n,n2,h,d,d2,r⟩:=h
 exact ⟨a,xs,ds,e,n,n2,b _ _ n h,d.but (fv hp) b,d.but2 (fv hp) b d2,r⟩
theorem GL2.buts {p so:Addr} {H H':Hp} {v:V} (hp:∃xs,H so=some (.lst xs)) (b:But so H H') (h:GL2 p so H v):GL2 p so H' v:=by
 obtain ⟨a,xs,ds,e,n,n2,h,d,d2,r⟩:=h
 exact ⟨a,xs,ds,e,n,n2,b _ _ n2 h,d2.but2 hp b d,d2.but hp b,r⟩
theorem GL.both {p so a:Addr} {H:Hp} {xs:List V} {ds:List PyData} (n:a≠p) (n2:a≠so) (h:H a=some (.lst xs)) (d1:Dts p H xs ds) (d2:Dts so H xs ds) (al:∀d∈ds,ItD d) (l:xs.length≤10):GL2 p so H (.ref a):=⟨a,xs,ds,rfl,n,n2,h,d1,d2,al,l⟩
theorem tP {dys:List PyData} {i:Nat} {d:PyData} (al:∀d∈dys,ItD d) (hd:ItD d):∀e∈dys.take i ++ [d] ++ dys.drop (i + 1),ItD e:=fun e he=>by
 rcases List.mem_append.mp he with he | he
 ·rcases List.mem_append.mp he with he | he
  ·exact al e (List.mem_of_mem_take he)
  ·rw [List.mem_singleton.mp he]; exact hd
 ·exact al e (List.mem_of_mem_drop he)
theorem qY {dys:List PyData} {d:PyData} (al:∀d∈dys,ItD d) (hd:ItD d):∀e∈dys ++ [d],ItD e:=fun e he=>by
 rcases List.mem_append.mp he with he | he
 ·exact al e he
 ·rw [List.mem_singleton.mp he]; exact hd
theorem qZ {ys:List V} {i:Nat} {x:V} (hi:i < ys.length) (hl:ys.length≤9):(ys.take i ++ [x] ++ ys.drop (i + 1)).length≤10:=by
 rw [List.length_append,List.length_append,List.length_take,List.length_drop,List.length_singleton]
 omega
theorem fi {H H':Hp} {m a b:Addr} {o:HO} (h:(H'=H∧(m=a∨m=b))∨(H m=none∧H'=upd H m o)):Same H H':=by
 rcases h with ⟨rfl,_⟩ | ⟨hm,rfl⟩
 ·exact Same.refl _
 ·exact Same.new hm
def pqd (q:Pq):PyData:=.tuple [.int q.k,.bool q.c,.int q.x,.int q.y]
def Pin (q:Pq):Prop:=q.k < 100∧0≤q.x∧0≤q.y∧q.x < 10 ^ 61∧q.y < 10 ^ 61
theorem pG {p a:Addr} {H:Hp} {q:Pq} (h:H a=some (.tup (pqV q))):Dt p H (.ref a) (pqd q):=.tup h (.cons (.int _) (.cons (.bl _) (.cons (.int _) (.cons (.int _) .nil))))
theorem kz {i:Int} (h0:0≤i) (h1:i < 10 ^ 61):SmD (.int i):=.inr (.inr ⟨i,rfl,by
 have:(10:Int) ^ 61 < 10 ^ 62:=by decide
 have e:((10 ^ 62:Nat):Int)=10 ^ 62:=by decide
 unfold Short
 omega⟩)
theorem ju {q:Pq} (h:Pin q):∀e∈[PyData.int q.k,.bool q.c,.int q.x,.int q.y],SmD e:=by
 obtain ⟨h1,h2,h3,h4,h5⟩:=h
 have:(100:Int) < 10 ^ 61:=by decide
 intro e he
 simp only [List.mem_cons,List.not_mem_nil,or_false] at he
 rcases he with rfl | rfl | rfl | rfl
 ·exact kz (by omega) (by omega)
 ·exact .inr (.inl ⟨_,rfl⟩)
 ·exact kz h2 h4
 ·exact kz h3 h5
theorem lT {q:Pq} (h:Pin q):ItD (pqd q):=.inr ⟨_,rfl,Nat.le_refl _,(by show 4≤5; decide),ju h⟩
theorem kA {p:Addr} {ks:List Kd} {H:Hp}:∀ {ys:List V} {ps:List Pq},Paired (PqT ks H) ys ps→Dts p H ys (ps.map pqd)
 | _,_,.nil=>.nil
 | _,_,.cons ⟨a,e,h,_⟩ r=>by subst e; exact .cons (pG h) (kA r)
theorem iB {p:Addr} {H:Hp} (q:Pq):Dts p H (pqV q) [.int q.k,.bool q.c,.int q.x,.int q.y]:=.cons (.int _) (.cons (.bl _) (.cons (.int _) (.cons (.int _) .nil)))
theorem tQ (q:Pq) (hq:Pin q) {k:Int} (k0:0≤k):∃ (z:Int) (j:Nat),atI (pqV q) (2 + k % 2)=some (.int z)∧0≤z∧z < 10 ^ 61∧ixN (pqV q).length (2 + k % 2)=some j∧∀r:Int,0≤r→r < 10 ^ 61→∃q':Pq,(pqV q).set j (.int r)=pqV q'∧Pin q':=by
 obtain ⟨h1,h2,h3,h4,h5⟩:=hq
 have:k % 2=0∨k % 2=1:=by omega
 rcases this with e | e <;> rw [e]
 ·exact ⟨q.x,2,rfl,h2,h4,rfl,fun r r0 r1=>⟨⟨q.k,q.c,r,q.y⟩,rfl,h1,r0,h3,r1,h5⟩⟩
 ·exact ⟨q.y,3,rfl,h3,h5,rfl,fun r r0 r1=>⟨⟨q.k,q.c,q.x,r⟩,rfl,h1,h2,r0,h4,r1⟩⟩
section
variable {P:Program} {w:World} {K:PySem.W.Frag} {mg:Str→Option Value} {base:Heap}
def gz:Sp:=fun vs H Q _=>∃ (p l:Addr) (ks:List Kd) (ys:List V) (ps:List Pq),vs=[.ref p,.ref l]∧PotC H p∧l≠p∧H l=some (.lst ys)∧Paired (PqT ks H) ys ps∧ys.length≤9∧(∀q∈ps,q.k < 100∧q.x < 10 ^ 60∧q.y < 10 ^ 60)∧∀ (v:V) (H':Hp),GL p H' v→PotC H' p→But p H H'→Q v H'
theorem scspoiltc:FnScope ["_law_pot_here","_law_pieces","_law_at","_law_piece","_law_k","_law_moved","_law_some"] ["_law_pot_here","_law_pieces"] (defScope eF):=⟨rfl,rfl,rfl,by decide +kernel,rfl,by decide +kernel,by decide +kernel⟩
set_option maxHeartbeats 1000000 in
theorem kB {f:Addr} {fd:FuncData} (F:Fun K "_law_spoilt" "_law_spoilt" eF f fd) (B:Blt mg) (DD:Dn P w K mg base "_law_take" ["_law_pot_here","_law_many"] 1 (cG)) (DO:Dn P w K mg base "_law_odd" ["_law_pot_here"] 2 (pF)):FnOk P w K mg base CX0 3 f fd ["_law_pot_here","_law_pieces"] (gz):=by
 refine F.ok scspoiltc (fun vs H Q E h=>?_) (fun cdv A outer s H vs Q E hr h=>?_)
 ·obtain ⟨p,l,ks,ys,ps,rfl,_⟩:=h
  rfl
 obtain ⟨p,l,ks,ys,ps,rfl,pt,nl,hl,pz,y9,pin0,q⟩:=h
 have nd:=scspoiltc.nd
 have hu:=hr.units
 refine ⟨_,(@af _ _ _ _ _ (@aN _ _ _ _ _ _ _ _ (@aI _ _ _ _ _ _ _ _ (sV hu) (pv 1) (@aR _ _ _ _ ad) (aH _)) (@ah _ _ _ (@av _ _ _ _ (@aR _ _ _ _ (@aa _ _ _ _ _ (@ar _ _ _ _ _ _ _ _ _ _ DO hr rfl (@aa _ _ _ _ _ (pv 0) ad rfl) (by decide) rfl rfl) ad rfl)))) aB) (@af _ _ _ _ _ (@aG _ _ 2 _ _ _ _ nd rfl (Or.inl rfl) (@ar _ _ _ _ _ _ _ _ _ _ DD (hr.mono (by decide)) rfl (@aa _ _ _ _ _ (pv 0) (@aa _ _ _ _ _ (@aA _ _ _ _ _ _ _ _ _ aS rfl B.len PySem.boot_len (@aa _ _ _ _ _ (pv 1) ad rfl) (by decide) (by decide) rfl rfl) ad rfl) rfl) (by decide) rfl rfl) rfl (Or.inl rfl)) (@af _ _ _ _ _ (@aG _ _ 3 _ _ _ _ nd rfl (Or.inl rfl) (@ay _ _ _ _ _ _ _ ix_list (pv 1) (pv 2) (fun _ _=>rfl)) rfl (Or.inl rfl)) (@af _ _ _ _ _ (@aG _ _ 4 _ _ _ _ nd rfl (Or.inl rfl) (@ar _ _ _ _ _ _ _ _ _ _ DD (hr.mono (by decide)) rfl (@aa _ _ _ _ _ (pv 0) (@aa _ _ _ _ _ ae ad rfl) rfl) (by decide) rfl rfl) rfl (Or.inl rfl)) (@af _ _ _ _ _ (@aG _ _ 5 _ _ _ _ nd rfl (Or.inl rfl) (@bA _ _ _ _ _ _ _ _ _ dY rfl B.list PyProof.Rows.boot_list (@aa _ _ _ _ _ (pv 3) ad rfl) (by decide) (by decide) rfl rfl) rfl (Or.inl rfl)) (@af _ _ _ _ _ (@cg _ _ _ _ _ _ (@aF _ _ _ _ _ _ _ _ aT (@aF _ _ _ _ _ _ _ _ aT (@ay _ _ _ _ _ _ _ ix_list (pv 5) (@aF _ _ _ _ _ _ _ _ aT ae (@aF _ _ _ _ _ _ _ _ dJ (pv 4) ae)) (fun _ _=>rfl)) ae) (@ar _ _ _ _ _ _ _ _ _ _ DD (hr.mono (by decide)) rfl (@aa _ _ _ _ _ (pv 0) (@aa _ _ _ _ _ ae ad rfl) rfl) (by decide) rfl rfl)) (jB (pv 5) (@aF _ _ _ _ _ _ _ _ aT ae (@aF _ _ _ _ _ _ _ _ dJ (pv 4) ae)) fK) rfl rfl rfl) (@af _ _ _ _ _ (@aG _ _ 6 _ _ _ _ nd rfl (Or.inl rfl) (@aR _ _ _ _ (@aa _ _ _ _ _ (@aF _ _ _ _ _ _ _ _ dO (pv 1) (@aR _ _ _ _ (@aa _ _ _ _ _ (pv 3) ad rfl))) (@aa _ _ _ _ _ (@aF _ _ _ _ _ _ _ _ dO (@aF _ _ _ _ _ _ _ _ dO (@bj _ _ _ _ _ _ _ _ _ _ dr (pv 1) bF (bG (pv 2))) (@aR _ _ _ _ (@aa _ _ _ _ _ (@bA _ _ _ _ _ _ _ _ _ bR rfl B.tuple PyProof.Rows.boot_tuple (@aa _ _ _ _ _ (pv 5) ad rfl) (by decide) (by decide) rfl rfl) ad rfl))) (@bj _ _ _ _ _ _ _ _ _ _ dr (pv 1) (bG (@aF _ _ _ _ _ _ _ _ aT (pv 2) ae)) bF)) (@aa _ _ _ _ _ (@aF _ _ _ _ _ _ _ _ dO (pv 1) (@aR _ _ _ _ (@aa _ _ _ _ _ (@ar _ _ _ _ _ _ _ _ _ _ DO hr rfl (@aa _ _ _ _ _ (pv 0) ad rfl) (by decide) rfl rfl) ad rfl))) ad rfl) rfl) rfl)) rfl (Or.inl rfl)) (@af _ _ _ _ _ (@ce _ _ _ _ (@dZ _ _ _ _ _ _ _ _ _ _ _ _ PySem.F.plainAttrs_list PySem.F.slot_list_append PySem.F.type_list_append bP (pv 6) (@aa _ _ _ _ _ (@aF _ _ _ _ _ _ _ _ dO (@aF _ _ _ _ _ _ _ _ dO (@bj _ _ _ _ _ _ _ _ _ _ dr (pv 1) bF (bG (pv 2))) (@aR _ _ _ _ (@aa _ _ _ _ _ (@aF _ _ _ _ _ _ _ _ ik (@aF _ _ _ _ _ _ _ _ ik (@bj _ _ _ _ _ _ _ _ _ _ eX (pv 3) bF (bG (pv 4))) (@aO _ _ _ _ _ (@aa _ _ _ _ _ (@ar _ _ _ _ _ _ _ _ _ _ DO hr rfl (@aa _ _ _ _ _ (pv 0) ad rfl) (by decide) rfl rfl) ad rfl))) (@bj _ _ _ _ _ _ _ _ _ _ eX (pv 3) (bG (@aF _ _ _ _ _ _ _ _ aT (pv 4) ae)) bF)) ad rfl))) (@bj _ _ _ _ _ _ _ _ _ _ dr (pv 1) (bG (@aF _ _ _ _ _ _ _ _ aT (pv 2) ae)) bF)) ad rfl) rfl rfl rfl rfl rfl) rfl) (@af _ _ _ _ _ (@ce _ _ _ _ (@dZ _ _ _ _ _ _ _ _ _ _ _ _ PySem.F.plainAttrs_list PySem.F.slot_list_append PySem.F.type_list_append bP (pv 6) (@aa _ _ _ _ _ (@aF _ _ _ _ _ _ _ _ dO (pv 1) (@aR _ _ _ _ (@aa _ _ _ _ _ (@aF _ _ _ _ _ _ _ _ ik (pv 3) (@bj _ _ _ _ _ _ _ _ _ _ eX (pv 3) bF (bG ae))) ad rfl))) ad rfl) rfl rfl rfl rfl rfl) rfl) (@ah _ _ _ (@av _ _ _ _ (@ay _ _ _ _ _ _ _ ix_list (pv 6) (@ar _ _ _ _ _ _ _ _ _ _ DD (hr.mono (by decide)) rfl (@aa _ _ _ _ _ (pv 0) (@aa _ _ _ _ _ ae ad rfl) rfl) (by decide) rfl rfl) (fun _ _=>rfl))))))))))))),?_⟩
 have sz:(1000:Nat) < sizeLine:=by decide
 have yl:=Paired.length pz
 have pin:∀q∈ps,Pin q:=fun q hq=>by
  obtain ⟨h1,h2,h3⟩:=pin0 q hq
  obtain ⟨j,hj⟩:=List.mem_iff_getElem?.mp hq
  have hjl:=(List.getElem?_eq_some_iff.mp hj).1
  obtain ⟨q',hq',a,_,_,_,x0,y0⟩:=Paired.getR pz (List.getElem?_eq_getElem (show j < ys.length by omega))
  rw [hj] at hq'
  cases hq'
  have e:(10:Int) ^ 60 < 10 ^ 61:=by decide
  exact ⟨h1,x0,y0,by omega,by omega⟩
 have D0:Dts p H ys (ps.map pqd):=kA pz
 have al:∀d∈ps.map pqd,ItD d:=fun d hd=>by
  obtain ⟨q,hq,rfl⟩:=List.mem_map.mp hd
  exact lT (pin q hq)
 have Db:∀ {H':Hp},But p H H'→Dts p H' ys (ps.map pqd):=fun b=>D0.but (fv pt) b
 refine aj (fun σ' H'=>σ'=[some (.ref p),some (.ref l),none,none,none,none,none]∧ys≠[]∧PotC H' p∧But p H H') (fun R hR=>?_) ?_
 ·refine ⟨_,rfl,by decide,fun e he=>?_⟩
  obtain ⟨H1,e1,k1,n1,s1,b1,pt1⟩:=aW (o:=.lst []) But.refl' pt he
  rw [show upd H e _=H1 from e1]
  obtain ⟨ds,d1,d2,d3,d4⟩:=tJ (K:=K) (Paired.mapP pz fun v q h=>h.keep fun a xs e=>s1 _ _ e)
  obtain ⟨sh1,sh2,sh3⟩:=pc d3 d4
  refine ⟨.list ds,.list [],.lst (SqL.of (s1 _ _ hl)) d1,.lst (SqL.of k1) .nil,sh1,by decide +kernel,_,rfl,?_⟩
  by_cases hz0:ys=[]
  ·rw [sh2 (by rw [hz0] at d2; exact List.eq_nil_of_length_eq_zero d2)]
   refine aX ⟨_,rfl,p,rfl,pt1,fun v d H2 hd hm pt2 b2=>⟨(by show 1≤sizeLine; decide),fun a ha=>?_⟩⟩
   obtain ⟨H3,e3,k3,n3,s3,b3,pt3⟩:=aW (o:=.lst [v]) (b1.trans b2) pt2 ha
   rw [show upd H2 a _=H3 from e3]
   exact q _ _ ⟨a,_,[d],rfl,n3,k3,.cons ((hd p pt1.some).same s3) .nil,fun e he=>by rw [List.mem_singleton.mp he]; exact .inl hm,by show 1≤10; decide⟩ pt3 b3
  rw [sh3 (fun z=>hz0 (by rw [z] at d2; exact List.eq_nil_of_length_eq_zero d2.symm))]
  exact aP (hR _ _ ⟨rfl,hz0,pt1,b1⟩)
 rintro _ H1 ⟨rfl,ne,pt1,b1⟩
 have ypos:1≤ys.length:=Nat.pos_of_ne_zero (fun z=>ne (List.eq_nil_of_length_eq_zero z))
 refine aj (fun σ' H'=>∃i:Nat,σ'=[some (.ref p),some (.ref l),some (.int (i:Int)),none,none,none,none]∧i < ys.length∧PotC H' p∧But p H H') (fun R hR=>?_) ?_
 ·refine ⟨_,rfl,_,rfl,l,_,rfl,.inl (SqL.of (b1 _ _ nl hl)),p,_,rfl,pt1,by omega,by omega,fun r H2 r0 r1 pt2 b2=>?_⟩
  obtain ⟨i,rfl⟩:=Int.eq_ofNat_of_zero_le r0
  exact hR _ _ ⟨i,rfl,by omega,pt2,b1.trans b2⟩
 rintro _ H2 ⟨i,rfl,hi,pt2,b2⟩
 obtain ⟨v0,hv0⟩:∃v,ys[i]? = some v:=⟨_,List.getElem?_eq_getElem hi⟩
 obtain ⟨q0,hq0,aq,rfl,haq,hqly,q0x,q0y⟩:=Paired.getR pz hv0
 have pq0:=pin q0 (List.mem_of_getElem? hq0)
 obtain ⟨_,q0x1,q0y1⟩:=pin0 q0 (List.mem_of_getElem? hq0)
 have qb:∀ {H':Hp},But p H H'→H' aq=some (.tup (pqV q0)):=fun b=>fh b pt haq
 refine aj (fun σ' H'=>σ'=[some (.ref p),some (.ref l),some (.int (i:Int)),some (.ref aq),none,none,none]∧H2=H') (fun R hR=>?_) ?_
 ·exact ⟨_,rfl,_,rfl,l,_,_,_,rfl,rfl,SqL.of (b2 _ _ nl hl),cA (Int.natCast_nonneg i) (by rw [Int.toNat_natCast]; exact hv0),hR _ _ ⟨rfl,rfl⟩⟩
 rintro _ _ ⟨rfl,rfl⟩
 refine aj (fun σ' H'=>∃k:Nat,σ'=[some (.ref p),some (.ref l),some (.int (i:Int)),some (.ref aq),some (.int (k:Int)),none,none]∧k < 4∧PotC H' p∧But p H H') (fun R hR=>?_) ?_
 ·refine ⟨_,rfl,p,4,rfl,pt2,by decide,by decide,fun r H3 r0 r1 pt3 b3=>?_⟩
  obtain ⟨k,rfl⟩:=Int.eq_ofNat_of_zero_le r0
  exact hR _ _ ⟨k,rfl,by omega,pt3,b2.trans b3⟩
 rintro _ H3 ⟨k,rfl,kl4,pt3,b3⟩
 refine aj (fun σ' H'=>∃mo:Addr,σ'=[some (.ref p),some (.ref l),some (.int (i:Int)),some (.ref aq),some (.int (k:Int)),some (.ref mo),none]∧mo≠p∧H mo=none∧H' mo=some (.lst (pqV q0))∧PotC H' p∧But p H H') (fun R hR=>?_) ?_
 ·refine ⟨_,rfl,aq,_,rfl,.inr (SqT.of (qb b3)),fun mo hmo=>?_⟩
  have f:=b3.freeC pt3 hmo
  obtain ⟨H4,e4,k4,n4,s4,b4,pt4⟩:=aW (o:=.lst (pqV q0)) b3 pt3 hmo
  rw [show upd H3 mo _=H4 from e4]
  exact hR _ _ ⟨mo,rfl,n4,f.2,k4,pt4,b4⟩
 rintro _ H4 ⟨mo,rfl,nmo,mo0,hmo4,pt4,b4⟩
 obtain ⟨z,j,hz,z0,z1,hj,hset⟩:=tQ q0 pq0 (Int.natCast_nonneg k)
 have z60:z < 10 ^ 60:=by
  have:((k:Int)) % 2=0∨((k:Int)) % 2=1:=by omega
  rcases this with e | e <;> rw [e] at hz <;> cases hz <;> assumption
 refine aj (fun σ' H'=>∃q1:Pq,σ'=[some (.ref p),some (.ref l),some (.int (i:Int)),some (.ref aq),some (.int (k:Int)),some (.ref mo),none]∧Pin q1∧H' mo=some (.lst (pqV q1))∧PotC H' p∧But p H H') (fun R hR=>?_) ?_
 ·refine ⟨_,rfl,_,rfl,_,_,rfl,rfl,(by show (0:Int) < 2; decide),_,_,rfl,rfl,mo,_,_,_,rfl,rfl,SqL.of hmo4,hz,_,_,rfl,rfl,_,rfl,p,9,rfl,pt4,by decide,by decide,fun r H5 r0 r1 pt5 b5=>⟨_,_,rfl,rfl,_,rfl,_,rfl,_,_,rfl,rfl,(by show (0:Int) < 2; decide),_,_,rfl,rfl,mo,_,_,j,rfl,rfl,b5 _ _ nmo hmo4,hj,?_⟩⟩
  have e61:(10:Int) ^ 60 + 100 < 10 ^ 61:=by decide
  obtain ⟨q1,hq1,pin1⟩:=hset (z + 1 + r) (by omega) (by omega)
  rw [hq1]
  exact hR _ _ ⟨q1,rfl,pin1,ag,pt5.put (Ne.symm nmo),fun a o n e=>by rw [au (ai e mo0)]; exact b5 _ _ n (b4 _ _ n e)⟩
 rintro _ H5 ⟨q1,rfl,pin1,hmo5,pt5,b5⟩
 have ct:∀xs:List V,bO xs none (some (i:Int))=xs.take i:=fun xs=>cJ xs i
 have cd:∀xs:List V,bO xs (some ((i:Int) + 1)) none=xs.drop (i + 1):=fun xs=>dC xs (i + 1)
 have lt:(ys.take i).length≤9:=by rw [List.length_take]; omega
 have ld:(ys.drop (i + 1)).length≤9:=by rw [List.length_drop]; omega
 refine aj (fun σ' H'=>∃ (so:Addr) (v1 v2 v3:V),σ'=[some (.ref p),some (.ref l),some (.int (i:Int)),some (.ref aq),some (.int (k:Int)),some (.ref mo),some (.ref so)]∧so≠p∧H so=none∧H' so=some (.lst [v1,v2,v3])∧GL2 p so H' v1∧GL2 p so H' v2∧GL2 p so H' v3∧PotC H' p∧But p H H') (fun R hR=>?_) ?_
 ·refine ⟨_,rfl,_,rfl,(by show 1≤sizeLine; decide),fun a1 h1=>?_⟩
  obtain ⟨H11,e11,k11,n11,s11,b11,pt11⟩:=aW (o:=.lst [.ref aq]) b5 pt5 h1
  rw [show upd H5 a1 _=H11 from e11]
  refine ⟨l,a1,ys,_,rfl,rfl,b11 _ _ nl hl,k11,by show ys.length + 1≤sizeLine; omega,fun a2 h2=>?_⟩
  obtain ⟨H12,e12,k12,n12,s12,b12,pt12⟩:=aW (o:=.lst (ys ++ [.ref aq])) b11 pt11 h2
  rw [show upd H11 a2 _=H12 from e12]
  have g1:GL p H12 (.ref a2):=GL.snoc n12 k12 (Db b12) al y9 (pG (qb b12)) (lT pq0)
  refine ⟨_,rfl,_,rfl,_,rfl,l,_,rfl,SqL.of (b12 _ _ nl hl),fun a3 h3=>?_⟩
  rw [ct]
  obtain ⟨H13,e13,k13,n13,s13,b13,pt13⟩:=aW (o:=.lst (ys.take i)) b12 pt12 h3
  rw [show upd H12 a3 _=H13 from e13]
  refine ⟨_,rfl,mo,_,rfl,.inl ⟨SqL.of (s13 _ _ (s12 _ _ (s11 _ _ hmo5))),fun t ht=>⟨(by show 1≤sizeLine; decide),fun a4 h4=>?_⟩⟩⟩
  obtain ⟨H14,e14,k14,n14,s14,b14,pt14⟩:=aW (o:=.tup (pqV q1)) b13 pt13 ht
  rw [show upd H13 t _=H14 from e14] at h4 ⊢
  obtain ⟨H15,e15,k15,n15,s15,b15,pt15⟩:=aW (o:=.lst [.ref t]) b14 pt14 h4
  rw [show upd H14 a4 _=H15 from e15]
  refine ⟨a3,a4,_,_,rfl,rfl,s15 _ _ (s14 _ _ k13),k15,by show _ + 1≤sizeLine; omega,fun a5 h5=>?_⟩
  obtain ⟨H16,e16,k16,n16,s16,b16,pt16⟩:=aW (o:=.lst (ys.take i ++ [.ref t])) b15 pt15 h5
  rw [show upd H15 a5 _=H16 from e16]
  refine ⟨_,rfl,_,rfl,_,_,rfl,rfl,_,rfl,l,_,rfl,SqL.of (b16 _ _ nl hl),fun a6 h6=>?_⟩
  rw [cd]
  obtain ⟨H17,e17,k17,n17,s17,b17,pt17⟩:=aW (o:=.lst (ys.drop (i + 1))) b16 pt16 h6
  rw [show upd H16 a6 _=H17 from e17]
  refine ⟨a5,a6,_,_,rfl,rfl,s17 _ _ k16,k17,by rw [List.length_append,List.length_singleton]; omega,fun a7 h7=>?_⟩
  obtain ⟨H18,e18,k18,n18,s18,b18,pt18⟩:=aW (o:=.lst (ys.take i ++ [.ref t] ++ ys.drop (i + 1))) b17 pt17 h7
  rw [show upd H17 a7 _=H18 from e18]
  have g2:GL p H18 (.ref a7):=GL.mid n18 k18 (Db b18) al hi y9 (pG (s18 _ _ (s17 _ _ (s16 _ _ (s15 _ _ k14))))) (lT pin1)
  have g1':GL p H18 (.ref a2):=g1.same (s13.trans (s14.trans (s15.trans (s16.trans (s17.trans s18)))))
  refine ⟨_,rfl,_,rfl,p,rfl,pt18,fun v d H19 hd hm pt19 b19=>⟨(by show 1≤sizeLine; decide),fun a8 h8=>?_⟩⟩
  obtain ⟨H20,e20,k20,n20,s20,b20,pt20⟩:=aW (o:=.lst [v]) (b18.trans b19) pt19 h8
  rw [show upd H19 a8 _=H20 from e20]
  refine ⟨l,a8,ys,_,rfl,rfl,b20 _ _ nl hl,k20,by show ys.length + 1≤sizeLine; omega,fun a9 h9=>?_⟩
  obtain ⟨H21,e21,k21,n21,s21,b21,pt21⟩:=aW (o:=.lst (ys ++ [v])) b20 pt20 h9
  rw [show upd H20 a9 _=H21 from e21]
  have g3:GL p H21 (.ref a9):=GL.snoc n21 k21 (Db b21) al y9 ((hd p pt18.some).same (s20.trans s21)) (.inl hm)
  refine ⟨(by show 3≤sizeLine; decide),fun so hso=>?_⟩
  have f:=b21.freeC pt21 hso
  obtain ⟨H22,e22,k22,n22,s22,b22,pt22⟩:=aW (o:=.lst [.ref a2,.ref a7,.ref a9]) b21 pt21 hso
  rw [show upd H21 so _=H22 from e22]
  have sx:=s20.trans s21
  exact hR _ _ ⟨so,_,_,_,rfl,n22,f.2,k22,(((g1'.but pt18 b19).same sx).two hso).same s22,(((g2.but pt18 b19).same sx).two hso).same s22,(g3.two hso).same s22,pt22,b22⟩
 rintro _ H6 ⟨so,v1,v2,v3,rfl,nso,so0,hso6,g1,g2,g3,pt6,b6⟩
 have app:∀ {Hx:Hp} {xs:List V} {y:V},But p H Hx→PotC Hx p→∃H',upd Hx so (.lst (xs ++ [y]))=H'∧H' so=some (.lst (xs ++ [y]))∧But p H H'∧PotC H' p∧But so Hx H':=fun b pt=>⟨_,rfl,ag,fun a o n e=>by rw [au (ai e so0)]; exact b _ _ n e,pt.put (Ne.symm nso),fun a o n e=>by rw [au n]; exact e⟩
 have Ds:∀ {H':Hp},But p H H'→Dts so H' ys (ps.map pqd):=fun b=>D0.but2 (fv pt) b (D0.fresh so0)
 have sne:∀ {Hx:Hp} {xs:List V},Hx so=some (.lst xs)→Hx so≠none:=fun h z=>by rw [h] at z; cases z
 have ctk:bO (pqV q0) none (some (k:Int))=(pqV q0).take k:=cJ _ k
 have cdk:bO (pqV q0) (some ((k:Int) + 1)) none=(pqV q0).drop (k + 1):=dC _ (k + 1)
 have ct1:bO (pqV q0) none (some (1:Int))=(pqV q0).take 1:=cJ _ 1
 have lq:(pqV q0).length=4:=rfl
 refine aj (fun σ' H'=>∃ (v1 v2 v3 v4:V),σ'=[some (.ref p),some (.ref l),some (.int (i:Int)),some (.ref aq),some (.int (k:Int)),some (.ref mo),some (.ref so)]∧H' so=some (.lst [v1,v2,v3,v4])∧GL2 p so H' v1∧GL2 p so H' v2∧GL2 p so H' v3∧GL2 p so H' v4∧PotC H' p∧But p H H') (fun R hR=>?_) ?_
 ·refine ⟨_,rfl,.inl ⟨rfl,_,SqL.of hso6⟩,_,rfl,_,rfl,_,rfl,l,_,rfl,SqL.of (b6 _ _ nl hl),fun a1 h1=>?_⟩
  rw [ct]
  obtain ⟨H11,e11,k11,n11,s11,b11,pt11⟩:=aW (o:=.lst (ys.take i)) b6 pt6 h1
  rw [show upd H6 a1 _=H11 from e11]
  refine ⟨_,rfl,_,rfl,_,rfl,aq,_,rfl,SqT.of (qb b11),fun z=>?_,fun t1 ht1=>?_⟩
  ·have:=z.2
   rw [HT.sIx_nat,lq] at this
   omega
  rw [ctk]
  obtain ⟨H12,e12,k12,n12,s12,b12,pt12⟩:=aW (o:=.tup ((pqV q0).take k)) b11 pt11 ht1
  rw [show upd H11 t1 _=H12 from e12]
  refine ⟨_,rfl,p,rfl,pt12,fun v d H13 hd hm pt13 b13=>⟨(by show 1≤sizeLine; decide),fun t2 ht2=>?_⟩⟩
  obtain ⟨H14,e14,k14,n14,s14,b14,pt14⟩:=aW (o:=.tup [v]) (b12.trans b13) pt13 ht2
  rw [show upd H13 t2 _=H14 from e14]
  have hs12:H12 so=some (.lst [v1,v2,v3]):=s12 _ _ (s11 _ _ hso6)
  have t114:=s14 _ _ (fh b13 pt12 k12)
  refine ⟨t1,t2,_,_,rfl,rfl,t114,k14,by rw [List.length_take,lq]; show _ + 1≤sizeLine; omega,fun t3 H15 c15 k15=>?_⟩
  have s15:=fi c15
  have b15:But p H H15:=fun a o n e=>s15 _ _ (b14 _ _ n e)
  have pt15:=pt14.same s15
  refine ⟨_,rfl,_,rfl,_,_,rfl,rfl,_,rfl,aq,_,rfl,SqT.of (qb b15),fun z=>?_,fun t4 ht4=>?_⟩
  ·have:=z.1
   rw [show ((k:Int) + 1)=((k + 1:Nat):Int) from rfl,HT.sIx_nat,lq] at this
   omega
  rw [cdk]
  obtain ⟨H16,e16,k16,n16,s16,b16,pt16⟩:=aW (o:=.tup ((pqV q0).drop (k + 1))) b15 pt15 ht4
  rw [show upd H15 t4 _=H16 from e16]
  refine ⟨t3,t4,_,_,rfl,rfl,s16 _ _ k15,k16,by rw [List.length_append,List.length_take,List.length_drop,lq]; show _ + 1 + _≤sizeLine; omega,fun t5 H17 c17 k17=>?_⟩
  have s17:=fi c17
  have b17:But p H H17:=fun a o n e=>s17 _ _ (b16 _ _ n e)
  have pt17:=pt16.same s17
  refine ⟨(by show 1≤sizeLine; decide),fun a2 h2=>?_⟩
  obtain ⟨H18,e18,k18,n18,s18,b18,pt18⟩:=aW (o:=.lst [.ref t5]) b17 pt17 h2
  rw [show upd H17 a2 _=H18 from e18]
  have s1418:=s15.trans (s16.trans (s17.trans s18))
  have a118:H18 a1=some (.lst (ys.take i)):=s1418 _ _ (s14 _ _ (b13 _ _ n11 (s12 _ _ k11)))
  refine ⟨a1,a2,_,_,rfl,rfl,a118,k18,by show _ + 1≤sizeLine; omega,fun a3 h3=>?_⟩
  obtain ⟨H19,e19,k19,n19,s19,b19,pt19⟩:=aW (o:=.lst (ys.take i ++ [.ref t5])) b18 pt18 h3
  rw [show upd H18 a3 _=H19 from e19]
  refine ⟨_,rfl,_,rfl,_,_,rfl,rfl,_,rfl,l,_,rfl,SqL.of (b19 _ _ nl hl),fun a4 h4=>?_⟩
  rw [cd]
  obtain ⟨H20,e20,k20,n20,s20,b20,pt20⟩:=aW (o:=.lst (ys.drop (i + 1))) b19 pt19 h4
  rw [show upd H19 a4 _=H20 from e20]
  refine ⟨a3,a4,_,_,rfl,rfl,s20 _ _ k19,k20,by rw [List.length_append,List.length_singleton]; omega,fun a5 h5=>?_⟩
  obtain ⟨H21,e21,k21,n21,s21,b21,pt21⟩:=aW (o:=.lst (ys.take i ++ [.ref t5] ++ ys.drop (i + 1))) b20 pt20 h5
  rw [show upd H20 a5 _=H21 from e21]
  have s1321:Same H13 H21:=s14.trans (s1418.trans (s19.trans (s20.trans s21)))
  have hs20:H20 so=some (.lst [v1,v2,v3]):=(s14.trans (s1418.trans (s19.trans s20))) _ _ (b13 _ _ nso hs12)
  have na5:a5≠so:=fun z=>by rw [z,hs20] at h5; cases h5
  have it5:ItD (.tuple ([PyData.int q0.k,.bool q0.c,.int q0.x,.int q0.y].take k ++ [d] ++ [PyData.int q0.k,.bool q0.c,.int q0.x,.int q0.y].drop (k + 1))):=by
   have l4:[PyData.int q0.k,.bool q0.c,.int q0.x,.int q0.y].length=4:=rfl
   refine .inr ⟨_,rfl,?_,?_,fun e he=>?_⟩
   ·rw [List.length_append,List.length_append,List.length_take,List.length_drop,l4,List.length_singleton]; omega
   ·rw [List.length_append,List.length_append,List.length_take,List.length_drop,l4,List.length_singleton]; omega
   ·rcases List.mem_append.mp he with he | he
    ·rcases List.mem_append.mp he with he | he
     ·exact ju pq0 e (List.mem_of_mem_take he)
     ·rw [List.mem_singleton.mp he]; exact .inl hm
    ·exact ju pq0 e (List.mem_of_mem_drop he)
  have k1721:=(s18.trans (s19.trans (s20.trans s21))) _ _ k17
  have t5d:∀s0,H12 s0≠none→Dt s0 H21 (.ref t5) (.tuple ([PyData.int q0.k,.bool q0.c,.int q0.x,.int q0.y].take k ++ [d] ++ [PyData.int q0.k,.bool q0.c,.int q0.x,.int q0.y].drop (k + 1))):=fun s0 hs=>.tup k1721 ((((iB q0).take k).app (.cons ((hd s0 hs).same s1321) .nil)).app ((iB q0).drop (k + 1)))
  have g4:GL2 p so H21 (.ref a5):=GL.both n21 na5 k21 ((((Db b21).take i).app (.cons (t5d p pt12.some) .nil)).app ((Db b21).drop (i + 1))) ((((Ds b21).take i).app (.cons (t5d so (sne hs12)) .nil)).app ((Ds b21).drop (i + 1))) (tP al it5) (qZ hi y9)
  have mv:∀ {v:V},GL2 p so H6 v→GL2 p so H21 v:=fun g=>((g.same (s11.trans s12)).but pt12 b13).same s1321
  have hs21:=s21 _ _ hs20
  refine ⟨so,_,_,rfl,rfl,hs21,(by show 3 < sizeLine; decide),?_⟩
  obtain ⟨H22,e22,k22,b22,pt22,c22⟩:=app (xs:=[v1,v2,v3]) (y:=.ref a5) b21 pt21
  rw [show upd H21 so _=H22 from e22]
  have ms:∀ {v:V},GL2 p so H21 v→GL2 p so H22 v:=fun g=>g.buts ⟨_,hs21⟩ c22
  exact hR _ _ ⟨v1,v2,v3,.ref a5,rfl,k22,ms (mv g1),ms (mv g2),ms (mv g3),ms g4,pt22,b22⟩
 rintro _ H7 ⟨v1,v2,v3,v4,rfl,hso7,g1,g2,g3,g4,pt7,b7⟩
 refine aj (fun σ' H'=>∃ (v1 v2 v3 v4 v5:V),σ'=[some (.ref p),some (.ref l),some (.int (i:Int)),some (.ref aq),some (.int (k:Int)),some (.ref mo),some (.ref so)]∧H' so=some (.lst [v1,v2,v3,v4,v5])∧GL2 p so H' v1∧GL2 p so H' v2∧GL2 p so H' v3∧GL2 p so H' v4∧GL2 p so H' v5∧PotC H' p∧But p H H') (fun R hR=>?_) ?_
 ·refine ⟨_,rfl,.inl ⟨rfl,_,SqL.of hso7⟩,_,rfl,_,rfl,_,rfl,_,rfl,aq,_,rfl,SqT.of (qb b7),fun z=>?_,fun t1 ht1=>?_⟩
  ·have:=z.2
   rw [show (1:Int)=((1:Nat):Int) from rfl,HT.sIx_nat,lq] at this
   omega
  rw [ct1]
  obtain ⟨H11,e11,k11,n11,s11,b11,pt11⟩:=aW (o:=.tup ((pqV q0).take 1)) b7 pt7 ht1
  rw [show upd H7 t1 _=H11 from e11]
  refine ⟨aq,t1,_,_,rfl,rfl,qb b11,k11,by rw [List.length_take,lq]; omega,fun t2 H12 c12 k12=>?_⟩
  have s12:=fi c12
  have b12:But p H H12:=fun a o n e=>s12 _ _ (b11 _ _ n e)
  have pt12:=pt11.same s12
  refine ⟨(by show 1≤sizeLine; decide),fun a2 h2=>?_⟩
  obtain ⟨H13,e13,k13,n13,s13,b13,pt13⟩:=aW (o:=.lst [.ref t2]) b12 pt12 h2
  rw [show upd H12 a2 _=H13 from e13]
  refine ⟨l,a2,_,_,rfl,rfl,b13 _ _ nl hl,k13,by show _ + 1≤sizeLine; omega,fun a3 h3=>?_⟩
  obtain ⟨H14,e14,k14,n14,s14,b14,pt14⟩:=aW (o:=.lst (ys ++ [.ref t2])) b13 pt13 h3
  rw [show upd H13 a3 _=H14 from e14]
  have s714:Same H7 H14:=s11.trans (s12.trans (s13.trans s14))
  have hs13:=(s11.trans (s12.trans s13)) _ _ hso7
  have na3:a3≠so:=fun z=>by rw [z,hs13] at h3; cases h3
  have it5:ItD (.tuple ([PyData.int q0.k,.bool q0.c,.int q0.x,.int q0.y] ++ [PyData.int q0.k,.bool q0.c,.int q0.x,.int q0.y].take 1)):=.inr ⟨_,rfl,(by show 4≤5; decide),(by show 5≤5; decide),fun e he=>by
   rcases List.mem_append.mp he with he | he
   ·exact ju pq0 e he
   ·exact ju pq0 e (List.mem_of_mem_take he)⟩
  have k1214:=(s13.trans s14) _ _ k12
  have t2d:∀s0,Dt s0 H14 (.ref t2) (.tuple ([PyData.int q0.k,.bool q0.c,.int q0.x,.int q0.y] ++ [PyData.int q0.k,.bool q0.c,.int q0.x,.int q0.y].take 1)):=fun s0=>.tup k1214 ((iB q0).app ((iB q0).take 1))
  have g5:GL2 p so H14 (.ref a3):=GL.both n14 na3 k14 ((Db b14).app (.cons (t2d p) .nil)) ((Ds b14).app (.cons (t2d so) .nil)) (qY al it5) (by rw [List.length_append,List.length_singleton]; omega)
  have hs14:=s14 _ _ hs13
  refine ⟨so,_,_,rfl,rfl,hs14,(by show 4 < sizeLine; decide),?_⟩
  obtain ⟨H15,e15,k15,b15,pt15,c15⟩:=app (xs:=[v1,v2,v3,v4]) (y:=.ref a3) b14 pt14
  rw [show upd H14 so _=H15 from e15]
  have ms:∀ {v:V},GL2 p so H14 v→GL2 p so H15 v:=fun g=>g.buts ⟨_,hs14⟩ c15
  exact hR _ _ ⟨v1,v2,v3,v4,.ref a3,rfl,k15,ms (g1.same s714),ms (g2.same s714),ms (g3.same s714),ms (g4.same s714),ms g5,pt15,b15⟩
 rintro _ H8 ⟨v1,v2,v3,v4,v5,rfl,hso8,g1,g2,g3,g4,g5,pt8,b8⟩
 refine ⟨_,rfl,_,rfl,p,5,rfl,pt8,by decide,by decide,fun r H9 r0 r1 pt9 b9=>?_⟩
 have hso9:=b9 _ _ nso hso8
 obtain ⟨x,hx,gx⟩:∃x,atI [v1,v2,v3,v4,v5] r=some x∧GL2 p so H8 x:=by
  have:r=0∨r=1∨r=2∨r=3∨r=4:=by omega
  rcases this with rfl | rfl | rfl | rfl | rfl
  ·exact ⟨_,rfl,g1⟩
  ·exact ⟨_,rfl,g2⟩
  ·exact ⟨_,rfl,g3⟩
  ·exact ⟨_,rfl,g4⟩
  ·exact ⟨_,rfl,g5⟩
 exact ⟨so,_,_,_,rfl,rfl,SqL.of hso9,hx,q x H9 (gx.but pt8 b9).one pt9 (b8.trans b9)⟩
end
theorem gA (o r:Bx):apB o r=Bool.not (dH o r):=by
 unfold apB dH
 by_cases h1:o.c≤r.a <;> by_cases h2:r.c≤o.a <;> by_cases h3:o.d≤r.b <;> by_cases h4:r.d≤o.b <;> simp [h1,h2,h3,h4] <;> omega
theorem lU:∀ {ks:List Kd} {i j:Nat} {k:Kd} {c:Bool},ks[i]? = some k→(c=false∨aU k=true)→(j + i,c)∈lyK ks j
 | [],_,_,_,_,h,_=>by simp at h
 | x :: ks,0,j,k,c,h,hc=>by
  cases h
  refine List.mem_append_left _ ?_
  unfold lyT
  rcases hc with rfl | hc
  ·exact List.mem_cons_self
  ·rw [if_pos hc]
   cases c
   ·exact List.mem_cons_self
   ·exact List.mem_cons_of_mem _ List.mem_cons_self
 | x :: ks,i + 1,j,k,c,h,hc=>by
  refine List.mem_append_right _ ?_
  have:=lU (ks:=ks) (j:=j + 1) (i:=i) (by simpa using h) hc
  rwa [show j + (i + 1)=j + 1 + i by omega]
theorem iC {ks:List Kd} {i:Nat} {c:Bool} (h:(i,c)∈lyK ks 0):∃k,ks[i]? = some k∧cn ks (.int (i:Int)) (.bl c)=true:=by
 obtain ⟨_,k,hk,hc⟩:=gt h
 have hk:ks[i]? = some k:=by simpa using hk
 refine ⟨k,hk,?_⟩
 show (decide (0≤(i:Int)) && match ks[(i:Int).toNat]? with
  | some k=>!c || aU k
  | none=>false)=true
 rw [Int.toNat_natCast,hk,decide_eq_true (Int.natCast_nonneg i)]
 rcases hc with hc | hc
 ·have hc:c=false:=hc
  rw [hc]; rfl
 ·show (true && (!c || aU k))=true
  rw [hc,Bool.or_true]; rfl
theorem rc {ks:List Kd} {i:Nat} {c:Bool} (h:cn ks (.int (i:Int)) (.bl c)=true):(i,c)∈lyK ks 0:=by
 have h:(decide (0≤(i:Int)) && match ks[(i:Int).toNat]? with
  | some k=>!c || aU k
  | none=>false)=true:=h
 rw [Int.toNat_natCast,Bool.and_eq_true] at h
 cases hk:ks[i]? with
 | none=>rw [hk] at h; cases h.2
 | some k =>
  rw [hk] at h
  have:=lU (j:=0) (c:=c) hk (by cases c with
   | false=>exact .inl rfl
   | true=>exact .inr (by simpa using h.2))
  rwa [Nat.zero_add] at this
theorem lV {ks:List Kd} {W h:Int} {d:PyData} {p:Pq} {k:Kd} (pd:PqD d p) (ly:cn ks (.int p.k) (.bl p.c)=true) (hk:ks[p.k]? = some k) (x0:0≤p.x) (y0:0≤p.y) (on:onB ks W h p=true):bZ ks W h d=true:=by
 unfold bZ
 rw [pd]
 show eG ks W h (.int p.k) (.bl p.c) (.int p.x) (.int p.y)=true
 unfold onB at on
 rw [cB hk] at on
 simp only [Bool.not_eq_true',Bool.or_eq_false_iff,decide_eq_false_iff_not] at on
 have e1:aD (.int p.x) 0=true:=decide_eq_true x0
 have e2:aD (.int p.y) 0=true:=decide_eq_true y0
 unfold eG
 rw [ly,e1,e2]
 show (true && true && true && (match ks[(p.k:Int).toNat]? with
  | some k=>decide (p.x + sd1 k p.c≤W) && decide (p.y + sd2 k p.c≤h)
  | none=>false))=true
 rw [Int.toNat_natCast,hk]
 have a1:¬ W < p.x + sd1 k p.c:=on.1
 have a2:¬ h < p.y + sd2 k p.c:=on.2
 show (true && true && true && (decide (p.x + sd1 k p.c≤W) && decide (p.y + sd2 k p.c≤h)))=true
 rw [decide_eq_true (show p.x + sd1 k p.c≤W by omega),decide_eq_true (show p.y + sd2 k p.c≤h by omega)]
 rfl
theorem pH {ks:List Kd} {W h:Int} {ps:List Pq} {p:Pq} (ok:gW ks ps) (f:bW ks W h ps p=true):gW ks (ps ++ [p]):=fun i q hq o ho=>by
 by_cases hi:i < ps.length
 ·rw [List.getElem?_append_left hi] at hq
  rw [List.take_append_of_le_length (by omega)] at ho
  exact ok i q hq o ho
 ·have:i=ps.length:=by
   have:=(List.getElem?_eq_some_iff.mp hq).1
   rw [List.length_append,List.length_singleton] at this
   omega
  subst this
  rw [List.getElem?_append_right (Nat.le_refl _),Nat.sub_self] at hq
  cases hq
  rw [List.take_left'] at ho
  ·unfold bW at f
   have f:=(Bool.and_eq_true_iff.mp f).2
   have:=List.all_eq_true.mp f _ (List.mem_map.mpr ⟨o,ho,rfl⟩)
   have this:apB (bg ks p) (bg ks o)=true:=this
   rw [gA] at this
   simpa using this
  ·rfl
theorem lW {ks:List Kd} {W h:Int} {ds:List PyData} {ps:List Pq} {i:Nat} {d:PyData} (ld:cU ks W h (.list ds)) (hd:ds[i]? = some d) (pp:Paired PqD (ds.take i) ps):∃p k,PqD d p∧(p.k,p.c)∈lyK ks 0∧ks[p.k]? = some k∧0≤p.x∧0≤p.y∧bW ks W h ps p=true:=by
 obtain ⟨ds',ps',er,pd,hall,ok⟩:=ld
 cases er
 obtain ⟨p,k,g1,g2,g3,g4,g5,g6,g7⟩:=lR (hall d (List.mem_of_getElem? hd))
 have e:ps'.take i=ps:=Paired.uniq PqD.uniq (Paired.takeP i pd) pp
 obtain ⟨p',hp',gp⟩:=Paired.getR pd hd
 obtain rfl:p=p':=PqD.uniq _ _ _ g1 gp
 refine ⟨p,k,g1,rc g2,g3,g4,g5,?_⟩
 unfold bW onB
 rw [cB g3]
 have a1:decide (W < (ki k p).c)=false:=decide_eq_false (by show ¬ W < p.x + sd1 k p.c; omega)
 have a2:decide (h < (ki k p).d)=false:=decide_eq_false (by show ¬ h < p.y + sd2 k p.c; omega)
 rw [a1,a2]
 show (true && _)=true
 rw [Bool.true_and,List.all_eq_true]
 intro z hz
 obtain ⟨o,ho,rfl⟩:=List.mem_map.mp hz
 have:=ok i p hp' o (by rw [e]; exact ho)
 rw [cB g3] at this
 show apB _ _=true
 rw [gA,this]
 rfl
def PqU (ks:List Kd) (H:Hp) (v:V) (q:Pq):Prop:=∃a k,v=.ref a∧H a=some (.tup (pqV q))∧ks[q.k]? = some k
def sk:PyData→Bool
 | .tuple _=>true
 | _=>false
theorem Dt.kind2 {K:PySem.W.Frag} {p:Addr} {H:Hp} {v:V} {d:PyData} (h:Dt p H v d):∃T,Ty K H v T∧(T == "tuple")=sk d:=by
 cases h with
 | non=>exact ⟨_,Ty.non,rfl⟩
 | bl b=>exact ⟨_,Ty.bl,rfl⟩
 | int i=>exact ⟨_,Ty.int,rfl⟩
 | str z=>exact ⟨_,Ty.str,rfl⟩
 | lst _ h r=>exact ⟨_,Ty.lst h,rfl⟩
 | tup h r=>exact ⟨_,Ty.tup h,rfl⟩
 | emp h=>exact ⟨_,Ty.dK h,rfl⟩
theorem pI {d:PyData} {es:List PyData} (h:ItD d) (e:bv d=some es) (l:es.length=4):d=.tuple es:=by
 rcases h with h | ⟨es',rfl,_⟩
 ·exfalso
  revert e
  refine iA (P:=fun d=>bv d=some es→False) h ?_ ?_ ?_ ?_ ?_ ?_ ?_ ?_ ?_ ?_ ?_ <;> intro e <;> first | (cases e; done) | (cases e; cases l)
 ·cases e; rfl
theorem rd {s0:Addr} {H:Hp} {v:V} {d:PyData} {p:Pq} (h:Dt s0 H v d) (it:ItD d) (pd:PqD d p):∃a,v=.ref a∧H a=some (.tup (pqV p)):=by
 have:=pI it pd rfl
 subst this
 cases h with
 | tup h r =>
  cases r with
  | cons r1 r=>cases r with
   | cons r2 r=>cases r with
    | cons r3 r=>cases r with
     | cons r4 r =>
      cases r
      cases r1; cases r2; cases r3; cases r4
      exact ⟨_,rfl,h⟩
theorem Dt.od {K:PySem.W.Frag} {s0:Addr} {H:Hp} {v:V} {d:PyData} (h:Dt s0 H v d):OdV K H v:=by
 cases h with
 | non=>exact .inl rfl
 | bl b=>exact .inr (.inl ⟨b,rfl⟩)
 | int i=>exact .inr (.inr (.inl ⟨i,rfl⟩))
 | str z=>exact .inr (.inr (.inr (.inl ⟨z,rfl⟩)))
 | lst _ h r=>exact .inr (.inr (.inr (.inr ⟨_,rfl,.inl ⟨_,SqL.of h⟩⟩)))
 | tup h r=>exact .inr (.inr (.inr (.inr ⟨_,rfl,.inr (.inl ⟨_,SqT.of h⟩)⟩)))
 | emp h=>exact .inr (.inr (.inr (.inr ⟨_,rfl,.inr (.inr h)⟩)))
theorem sr {H:Hp}:∀ {ys:List V} {qs:List (Nat×Bool)},Paired (LyC H) ys qs→Paired (PrB H) ys (qs.map fun q=>((q.1:Int),q.2))
 | _,_,.nil=>.nil
 | _,_,.cons h r=>.cons h (sr r)
theorem tR {ks:List Kd} {x1 x2 x3 x4:V} (h1:((lyK ks 0).map fun q=>((q.1:Int),q.2)).any (fun q=>eI x1 q.1 && eB x2 q.2)=true) (b1:eZ x1=false) (b2:eZ x2=true) (w3:aD x3 0=true) (w4:aD x4 0=true):∃p:Pq,[x1,x2,x3,x4]=pqV p∧(p.k,p.c)∈lyK ks 0∧0≤p.x∧0≤p.y:=by
 obtain ⟨x,rfl,hx⟩:∃i,x3=.int i∧0≤i:=by
  cases x3 with
  | int i=>exact ⟨i,rfl,of_decide_eq_true w3⟩
  | _=>cases w3
 obtain ⟨y,rfl,hy⟩:∃i,x4=.int i∧0≤i:=by
  cases x4 with
  | int i=>exact ⟨i,rfl,of_decide_eq_true w4⟩
  | _=>cases w4
 obtain ⟨z,hz,hq⟩:=List.any_eq_true.mp h1
 obtain ⟨q,hq',rfl⟩:=List.mem_map.mp hz
 have hq:=Bool.and_eq_true_iff.mp hq
 cases x1 with
 | int j =>
  cases x2 with
  | bl c =>
   have e1:(q.1:Int)=j:=by simpa [eI] using hq.1
   have e2:q.2=c:=by simpa [eB] using hq.2
   subst e1
   subst e2
   exact ⟨⟨q.1,q.2,x,y⟩,rfl,hq',hx,hy⟩
  | _=>cases b2
 | bl c=>cases b1
 | _=>cases hq.1
section
variable {P:Program} {w:World} {K:PySem.W.Frag} {mg:Str→Option Value} {base:Heap}
def pJ:Sp:=fun vs H Q _=>∃ (s0 t kl a:Addr) (b W h:Int) (ks:List Kd) (xs:List V) (ds:List PyData),vs=[.ref t,.int W,.int h,.ref a]∧LS H t b ks kl∧ks.length≤8∧H a=some (.lst xs)∧Dts s0 H xs ds∧(∀d∈ds,ItD d)∧xs.length≤10∧∀ (r:Bool) (H':Hp),(r=true↔¬ cU ks W h (.list ds))→Same H H'→Q (.bl r) H'
theorem scbadc:FnScope ["_law_shop_here","_law_wide","_law_high","_law_thing","_law_found","_law_piece"] ["_law_shop_here","_law_wide","_law_high","_law_thing"] (defScope ff):=⟨rfl,rfl,rfl,by decide +kernel,rfl,by decide +kernel,by decide +kernel⟩
set_option maxHeartbeats 1000000 in
theorem re {f:Addr} {fd:FuncData} (F:Fun K "_law_is_bad" "_law_is_bad" ff f fd) (B:Blt mg) (DLy:Dn P w K mg base "_law_lyings" ["_law_shop_here"] 1 (dD)) (DFi:Dn P w K mg base "_law_fits" ["_law_shop_here","_law_wide","_law_high","_law_pieces","_law_piece"] 3 (fE)):FnOk P w K mg base CX0 4 f fd ["_law_shop_here","_law_wide","_law_high","_law_thing"] (pJ):=by
 refine F.ok scbadc (fun vs H Q E h=>?_) (fun cdv A outer s H vs Q E hr h=>?_)
 ·obtain ⟨s0,t,kl,a,b,W,h1,ks,xs,ds,rfl,_⟩:=h
  rfl
 obtain ⟨s0,t,kl,a,b,W,h1,ks,xs,ds,rfl,sh,k8,ha,D0,it,x10,q⟩:=h
 have nd:=scbadc.nd
 have hu5:∀ {k:Nat} {A:Around},Room k A→A.units + 65 < cLine:=fun r=>by have:=r.un; omega
 refine ⟨_,(@af _ _ _ _ _ (@aN _ _ _ _ _ _ _ _ (@aQ _ _ _ _ (@aK _ _ _ (@aA _ _ _ _ _ _ _ _ _ bc rfl B.isi PyProof.Rows.boot_isinstance (@aa _ _ _ _ _ (pv 3) (@aa _ _ _ _ _ (bE (v:=.ty "list") rfl B.list PyProof.Rows.boot_list rfl) ad rfl) rfl) (by decide) (by decide) rfl rfl) (by intro _; rfl))) (@ah _ _ _ (@av _ _ _ _ be)) aB) (@af _ _ _ _ _ (@aG _ _ 4 _ _ _ _ nd rfl (Or.inl rfl) (@aR _ _ _ _ ad) rfl (Or.inl rfl)) (@af _ _ _ _ _ (@ci _ _ _ _ _ _ _ _ PassesOwn.never rfl (cy (pv 3)) (aw (i:=5) nd rfl (Or.inl rfl)) (@af _ _ _ _ _ (@aN _ _ _ _ _ _ _ _ (PW.pt (bI (@aQ _ _ _ _ (@aK _ _ _ (@aA _ _ _ _ _ _ _ _ _ bc rfl B.isi PyProof.Rows.boot_isinstance (@aa _ _ _ _ _ (pv 5) (@aa _ _ _ _ _ (bE (v:=.ty "tuple") rfl B.tuple PyProof.Rows.boot_tuple rfl) ad rfl) rfl) (by decide) (by decide) rfl rfl) (by intro _; rfl))) (bI (@aI _ _ _ _ _ _ _ _ cI (@aA _ _ _ _ _ _ _ _ _ aS rfl B.len PySem.boot_len (@aa _ _ _ _ _ (pv 5) ad rfl) (by decide) (by decide) rfl rfl) ae (aH _)) (bC (@aI _ _ _ _ _ _ _ _ (mD (hu5 hr)) (@bj _ _ _ _ _ _ _ _ _ _ eX (pv 5) bF (bG ae)) (@ar _ _ _ _ _ _ _ _ _ _ DLy (hr.mono (by decide)) rfl (@aa _ _ _ _ _ (pv 0) ad rfl) (by decide) rfl rfl) rfl))))) (@ah _ _ _ (@av _ _ _ _ be)) aB) (@af _ _ _ _ _ (@aN _ _ _ _ _ _ _ _ (PW.pt (bI (@aK _ _ _ (@aA _ _ _ _ _ _ _ _ _ bc rfl B.isi PyProof.Rows.boot_isinstance (@aa _ _ _ _ _ (@ay _ _ _ _ _ _ _ ix_tup (pv 5) ae (fun _ _=>rfl)) (@aa _ _ _ _ _ (bE (v:=.ty "bool") rfl B.bool PyProof.Rows.boot_bool rfl) ad rfl) rfl) (by decide) (by decide) rfl rfl) (by intro _; rfl)) (bC (@aQ _ _ _ _ (@aK _ _ _ (@aA _ _ _ _ _ _ _ _ _ bc rfl B.isi PyProof.Rows.boot_isinstance (@aa _ _ _ _ _ (@ay _ _ _ _ _ _ _ ix_tup (pv 5) ae (fun _ _=>rfl)) (@aa _ _ _ _ _ (bE (v:=.ty "bool") rfl B.bool PyProof.Rows.boot_bool rfl) ad rfl) rfl) (by decide) (by decide) rfl rfl) (by intro _; rfl)))))) (@ah _ _ _ (@av _ _ _ _ be)) aB) (@af _ _ _ _ _ (@aN _ _ _ _ _ _ _ _ (@aQ _ _ _ _ (@aK _ _ _ (@aA _ _ _ _ _ _ _ _ _ (fc rfl) rfl B.all PyProof.Rows.boot_all (@aa _ _ _ _ _ (du (own:=["_law_one"]) (cs:=[]) (cap:=[]) rfl (nO (@bj _ _ _ _ _ _ _ _ _ _ eX (pv 5) (bG ae) bF)) (bn (sc:=defScope ff) (N:=["_law_shop_here","_law_wide","_law_high","_law_thing","_law_found","_law_piece"]) rfl rfl (by decide +kernel)) (fun _ _ _ _ _=>aw (i:=0) (by show List.Nodup (["_law_one"]:List Str) ; decide +kernel) rfl (Or.inl rfl) (Or.inr rfl)) (fun _ _ _ _ _=>bU) (fun _ _ _ _ _=>(cN (aA (r:=xw K) bc rfl B.isi PyProof.Rows.boot_isinstance (@aa _ _ _ _ _ (pv 0) (@aa _ _ _ _ _ (bE (v:=.ty "int") rfl B.int PyProof.Rows.boot_int rfl) ad rfl) rfl)) (cN (jA (aA (r:=xw K) bc rfl B.isi PyProof.Rows.boot_isinstance (@aa _ _ _ _ _ (pv 0) (@aa _ _ _ _ _ (bE (v:=.ty "bool") rfl B.bool PyProof.Rows.boot_bool rfl) ad rfl) rfl))) (cY (@bz _ _ _ _ _ _ _ _ lx (pv 0) ae (aH _))))))) ad rfl) (by decide) (by decide) rfl rfl) (by intro _; rfl))) (@ah _ _ _ (@av _ _ _ _ be)) aB) (@af _ _ _ _ _ (@aN _ _ _ _ _ _ _ _ (@aQ _ _ _ _ (@aK _ _ _ (@ar _ _ _ _ _ _ _ _ _ _ DFi hr rfl (@aa _ _ _ _ _ (pv 0) (@aa _ _ _ _ _ (pv 1) (@aa _ _ _ _ _ (pv 2) (@aa _ _ _ _ _ (pv 4) (@aa _ _ _ _ _ (pv 5) ad rfl) rfl) rfl) rfl) rfl) (by decide) rfl rfl) (by intro _; rfl))) (@ah _ _ _ (@av _ _ _ _ be)) aB) (@ah _ _ _ (@ce _ _ _ _ (@dZ _ _ _ _ _ _ _ _ _ _ _ _ PySem.F.plainAttrs_list PySem.F.slot_list_append PySem.F.type_list_append bP (pv 4) (@aa _ _ _ _ _ (pv 5) ad rfl) rfl rfl rfl rfl rfl) rfl)))))) (by intro _; rfl)) (@ah _ _ _ (@av _ _ _ _ be))))),?_⟩
 have sz:(1000:Nat) < sizeLine:=by decide
 have dl:=D0.length
 have lsS:∀ {H':Hp},Same H H'→LS H' t b ks kl:=fun s=>sh.same s
 refine aj (fun σ' H'=>σ'=[some (.ref t),some (.int W),some (.int h1),some (.ref a),none,none]∧H=H') (fun R hR=>?_) ?_
 ·exact ⟨_,rfl,_,_,_,_,_,rfl,(Ty.lst ha).2,rfl,iR "list" (Ty.lst (K:=K) ha).1,_,rfl,aP (hR _ _ ⟨rfl,rfl⟩)⟩
 rintro _ _ ⟨rfl,rfl⟩
 refine aj (fun σ' H'=>∃fo,σ'=[some (.ref t),some (.int W),some (.int h1),some (.ref a),some (.ref fo),none]∧H fo=none∧H' fo=some (.lst [])∧Same H H') (fun R hR=>?_) ?_
 ·exact ⟨by decide,fun fo hfo=>hR _ _ ⟨fo,rfl,hfo,ag,Same.new hfo⟩⟩
 rintro _ H1 ⟨fo,rfl,fo0,hfo,s1⟩
 refine aj (fun σ' H'=>Same H H'∧cU ks W h1 (.list ds)) (fun R hR=>?_) ?_
 ·refine ⟨_,rfl,a,rfl,⟨_,SqL.of (s1 _ _ ha)⟩,cZ (xs:=xs) (fun i σ' H'=>∃ (v5:Option V) (ps:List Pq),σ'=[some (.ref t),some (.int W),some (.int h1),some (.ref a),some (.ref fo),v5]∧H' fo=some (.lst (xs.take i))∧Same H H'∧Paired PqD (ds.take i) ps∧(∀d∈ds.take i,bZ ks W h1 d=true)∧gW ks ps∧Paired (PqU ks H') (xs.take i) ps) ⟨_,[],rfl,hfo,s1,.nil,fun d hd=>by simp at hd,fun i p hp=>by simp at hp,.nil⟩ (fun i σ Hx _ ⟨_,_,_,_,sx,_⟩=>SqL.of (sx _ _ ha)) ?_ (fun σ Hx ⟨v5,ps,e,_,sx,pp,al,ok,_⟩=>hR _ _ ⟨sx,ds,ps,rfl,by rw [dl,List.take_length] at pp; exact pp,by rw [dl,List.take_length] at al; exact al,ok⟩)⟩
  rintro i v σ Hx hi ⟨v5,ps,rfl,hfx,sx,pp,al,lok,pS⟩
  have hil:i < xs.length:=(List.getElem?_eq_some_iff.mp hi).1
  obtain ⟨d,hdi,hv0⟩:=D0.get hi
  have hv:=hv0.same sx
  have itd:=it d (List.mem_of_getElem? hdi)
  have key:cU ks W h1 (.list ds)→∃p k ap,v=.ref ap∧Hx ap=some (.tup (pqV p))∧(p.k,p.c)∈lyK ks 0∧ks[p.k]? = some k∧0≤p.x∧0≤p.y∧bW ks W h1 ps p=true:=fun ld=>by
   obtain ⟨p,k,g1,g2,g3,g4,g5,g6⟩:=lW ld hdi pp
   obtain ⟨ap,e1,e2⟩:=rd hv itd g1
   exact ⟨p,k,ap,e1,e2,g2,g3,g4,g5,g6⟩
  have bad:∀ {Hy:Hp},Same Hx Hy→¬ cU ks W h1 (.list ds)→Q (.bl true) Hy:=fun sy n=>q true _ ⟨fun _=>n,fun _=>rfl⟩ (sx.trans sy)
  refine aj (fun σ' H'=>∃ (ap:Addr) (x1 x2 x3 x4:V) (d1 d2 d3 d4:PyData),v=.ref ap∧d=.tuple [d1,d2,d3,d4]∧σ'=[some (.ref t),some (.int W),some (.int h1),some (.ref a),some (.ref fo),some (.ref ap)]∧Same Hx H'∧Hx ap=some (.tup [x1,x2,x3,x4])∧Dt s0 Hx x1 d1∧Dt s0 Hx x2 d2∧Dt s0 Hx x3 d3∧Dt s0 Hx x4 d4∧((lyK ks 0).map fun q=>((q.1:Int),q.2)).any (fun q=>eI x1 q.1 && eB x2 q.2)=true) (fun R1 hR1=>?_) ?_
  ·obtain ⟨T,ty,kt⟩:=hv.kind2 (K:=K)
   refine ⟨_,rfl,_,_,_,_,_,rfl,ty.2,rfl,gK T ty.1,_,rfl,?_⟩
   rw [kt]
   cases eT:sk d with
   | false =>
    refine aX (aX (bad (Same.refl _) fun ld=>?_))
    obtain ⟨p,k,g1,_⟩:=lW ld hdi pp
    rw [pI itd g1 rfl] at eT
    cases eT
   | true =>
   obtain ⟨ap,es,ds4,rfl,rfl,hap,r4⟩:∃ap es ds4,v=.ref ap∧d=.tuple ds4∧Hx ap=some (.tup es)∧Dts s0 Hx es ds4:=by
    cases d with
    | tuple ds4 =>
     cases hv with
     | tup h r=>exact ⟨_,_,ds4,rfl,rfl,h,r⟩
    | _=>cases eT
   refine aP ⟨_,rfl,ap,_,rfl,.inr (SqT.of hap),rfl,_,rfl,?_⟩
   by_cases l4:es.length=4
   case neg =>
    rw [show (!decide (V.int (es.length:Int)=V.int 4))=true by rw [decide_eq_false (fun z=>l4 (by have:=V.int.inj z; omega))]; rfl]
    refine aX (aX (bad (Same.refl _) fun ld=>?_))
    obtain ⟨p,k,ap',e,hap',_⟩:=key ld
    cases e
    rw [hap] at hap'
    cases hap'
    exact l4 rfl
   rw [show (!decide (V.int (es.length:Int)=V.int 4))=false by rw [decide_eq_true (by rw [l4]; rfl)]; rfl]
   obtain ⟨x1,d1,es,ds4,rfl,rfl,t1,r4,l3⟩:=r4.one (n:=3) (by rw [← r4.length]; exact l4)
   obtain ⟨x2,d2,es,ds4,rfl,rfl,t2,r4,l3⟩:=r4.one (n:=2) l3
   obtain ⟨x3,d3,es,ds4,rfl,rfl,t3,r4,l3⟩:=r4.one (n:=1) l3
   obtain ⟨x4,d4,es,ds4,rfl,rfl,t4,r4,l3⟩:=r4.one (n:=0) l3
   obtain ⟨rfl,rfl⟩:=r4.zero l3
   refine aP ⟨_,rfl,_,rfl,ap,_,rfl,SqT.of hap,fun z=>?_,fun t1' ht1=>?_⟩
   ·have:=z.2
    rw [show (2:Int)=((2:Nat):Int) from rfl,HT.sIx_nat] at this
    have:min 2 4=4:=this
    omega
   obtain ⟨Hy,e2,k2,s2⟩:∃H',upd Hx t1' (.tup (bO [x1,x2,x3,x4] none (some 2)))=H'∧H' t1'=some (.tup (bO [x1,x2,x3,x4] none (some 2)))∧Same Hx H':=⟨_,rfl,ag,Same.new ht1⟩
   rw [show upd Hx t1' _=Hy from e2]
   have k2:Hy t1'=some (.tup [x1,x2]):=by rw [k2]; exact congrArg (fun z=>some (HO.tup z)) (cJ [x1,x2,x3,x4] 2)
   refine ⟨_,rfl,t,kl,b,ks,rfl,lsS (sx.trans s2),k8,fun l ys H3 hl hl0 pl s3=>?_⟩
   have s23:=s2.trans s3
   refine ⟨t1',l,x1,x2,ys,_,rfl,rfl,s3 _ _ k2,(t1.same s23).od,(t2.same s23).od,hl,sr pl,_,rfl,?_⟩
   cases hany:((lyK ks 0).map fun q=>((q.1:Int),q.2)).any (fun q=>eI x1 q.1 && eB x2 q.2) with
   | false =>
    refine aX (bad s23 fun ld=>?_)
    obtain ⟨p,k,ap',e,hap',hin,_⟩:=key ld
    cases e
    rw [hap] at hap'
    cases hap'
    rw [List.any_eq_false] at hany
    refine hany _ (List.mem_map.mpr ⟨_,hin,rfl⟩) ?_
    rw [lO,lP]
    rfl
   | true=>exact aP (hR1 _ _ ⟨ap,x1,x2,x3,x4,d1,d2,d3,d4,rfl,rfl,rfl,s23,hap,t1,t2,t3,t4,hany⟩)
  rintro _ H2 ⟨ap,x1,x2,x3,x4,d1,d2,d3,d4,rfl,rfl,rfl,s2,hap,t1,t2,t3,t4,hany⟩
  have key4:cU ks W h1 (.list ds)→∃p k,[x1,x2,x3,x4]=pqV p∧ks[p.k]? = some k∧0≤p.x∧0≤p.y∧bW ks W h1 ps p=true:=fun ld=>by
   obtain ⟨p,k,ap',e,hap',g2,g3,g4,g5,g6⟩:=key ld
   cases e
   rw [hap] at hap'
   exact ⟨p,k,by injection hap' with z; injection z,g3,g4,g5,g6⟩
  refine aj (fun σ' H'=>σ'=[some (.ref t),some (.int W),some (.int h1),some (.ref a),some (.ref fo),some (.ref ap)]∧H2=H'∧eZ x1=false∧eZ x2=true) (fun R1 hR1=>?_) ?_
  ·obtain ⟨T1,ty1⟩:=(t1.same s2).ty (K:=K)
   obtain ⟨T2,ty2⟩:=(t2.same s2).ty (K:=K)
   refine ⟨_,rfl,ap,_,0,_,rfl,rfl,SqT.of (s2 _ _ hap),rfl,_,_,_,_,_,rfl,ty1.2,rfl,dg T1 ty1.1,_,rfl,?_⟩
   rw [ee ty1.2]
   cases e1:eZ x1 with
   | true =>
    refine aX (aX (bad s2 fun ld=>?_))
    obtain ⟨p,k,e,_⟩:=key4 ld
    cases e
    cases e1
   | false =>
    refine aP ⟨_,rfl,ap,_,1,_,rfl,rfl,SqT.of (s2 _ _ hap),rfl,_,_,_,_,_,rfl,ty2.2,rfl,dg T2 ty2.1,_,rfl,?_⟩
    rw [ee ty2.2]
    cases e2:eZ x2 with
    | true=>exact aP (hR1 _ _ ⟨rfl,rfl,e1,e2⟩)
    | false =>
     refine aX (bad s2 fun ld=>?_)
     obtain ⟨p,k,e,_⟩:=key4 ld
     cases e
     cases e2
  rintro _ _ ⟨rfl,rfl,b1,b2⟩
  refine aj (fun σ' H'=>σ'=[some (.ref t),some (.int W),some (.int h1),some (.ref a),some (.ref fo),some (.ref ap)]∧Same Hx H'∧aD x3 0=true∧aD x4 0=true) (fun R1 hR1=>?_) ?_
  ·refine ⟨_,rfl,_,rfl,ap,_,rfl,SqT.of (s2 _ _ hap),fun z=>?_,fun tt htt=>?_⟩
   ·have:=z.1
    rw [show (2:Int)=((2:Nat):Int) from rfl,HT.sIx_nat] at this
    have:min 2 4=0:=this
    omega
   obtain ⟨H3,e3,k3,s3⟩:∃H',upd H2 tt (.tup (bO [x1,x2,x3,x4] (some 2) none))=H'∧H' tt=some (.tup (bO [x1,x2,x3,x4] (some 2) none))∧Same H2 H':=⟨_,rfl,ag,Same.new htt⟩
   rw [show upd H2 tt _=H3 from e3]
   have k3:H3 tt=some (.tup [x3,x4]):=by rw [k3]; exact congrArg (fun z=>some (HO.tup z)) (dC [x1,x2,x3,x4] 2)
   have s03:=s2.trans s3
   refine ⟨tt,rfl,⟨_,SqT.of k3⟩,(dh (K:=K) (xs:=[x3,x4]) (.inr k3) (fun i us Hz=>H3=Hz∧us=(([x3,x4].take i).map fun x=>V.bl (aD x 0))) (fun i us Hz _ e o h=>by rw [← e.1]; exact h) ⟨rfl,rfl⟩ ?_ ?_).2 k3⟩
   ·rintro j x us Hz hj ⟨rfl,rfl⟩
    have hjl:j < 2:=(List.getElem?_eq_some_iff.mp hj).1
    obtain ⟨dx,tx⟩:∃dx,Dt s0 H3 x dx:=by
     have:j=0∨j=1:=by omega
     rcases this with rfl | rfl <;> cases hj
     ·exact ⟨_,t3.same s03⟩
     ·exact ⟨_,t4.same s03⟩
    obtain ⟨T,tn,ty⟩:=tx.ty (K:=K)
    refine ⟨by rw [List.length_map,List.length_take]; have:[x3,x4].length=2:=rfl; omega,leS.set rfl,bV ?_⟩
    have fin:Nx 2 (fun i us Hz=>H3=Hz∧us=(([x3,x4].take i).map fun x=>V.bl (aD x 0))) j ((([x3,x4].take j).map fun x=>V.bl (aD x 0)) ++ [V.bl (aD x 0)]) H3:=Nx.of hjl ⟨rfl,by rw [List.take_add_one,hj,List.map_append]; rfl⟩
    refine ⟨_,rfl,x,_,_,_,_,rfl,ty,rfl,lF T tn,_,rfl,?_⟩
    have tb:=ee ty
    refine bQ (fun c=>?_) (fun c=>?_)
    ·refine ⟨_,rfl,x,_,_,_,_,rfl,ty,rfl,dg T tn,_,rfl,_,rfl,?_⟩
     refine bQ (fun c2=>?_) (fun c2=>?_)
     ·have hT:(T == "int")=true:=by
       have:(T == "bool")=false:=by simpa using c2
       rw [this,Bool.or_false] at c; exact c
      obtain ⟨i,rfl⟩:=ou ty tn hT
      exact ⟨_,rfl,_,_,rfl,rfl,fin⟩
     ·have hT:eZ x=true:=by
       rw [← tb]
       cases e:(T == "bool") with
       | true=>rfl
       | false=>rw [e] at c2; exact absurd rfl c2
      cases x <;> first | exact fin | (exact absurd hT Bool.false_ne_true)
    ·have hx:aD x 0=false:=by
      cases x with
      | int i =>
       exfalso
       have ty':=ty
       generalize hv:Value.type T=tv at ty'
       cases ty' with
       | int=>cases hv; exact c rfl
      | _=>rfl
     rw [hx] at fin
     exact fin
   ·rintro us Hz ⟨rfl,rfl⟩
    refine ⟨by show (2:Nat)≤sizeLine; omega,fun l hl=>⟨l,[aD x3 0,aD x4 0],rfl,SqL.of ag,_,rfl,?_⟩⟩
    cases ew3:aD x3 0 with
    | false =>
     refine aX (bad (s03.trans (Same.new hl)) fun ld=>?_)
     obtain ⟨p,k,e,_,x0,_⟩:=key4 ld
     cases e
     exact absurd (decide_eq_true x0) (by rw [show decide (0≤p.x)=false from ew3]; exact Bool.false_ne_true)
    | true =>
     cases ew4:aD x4 0 with
     | false =>
      refine aX (bad (s03.trans (Same.new hl)) fun ld=>?_)
      obtain ⟨p,k,e,_,_,y0,_⟩:=key4 ld
      cases e
      exact absurd (decide_eq_true y0) (by rw [show decide (0≤p.y)=false from ew4]; exact Bool.false_ne_true)
     | true=>exact aP (hR1 _ _ ⟨rfl,s03.trans (Same.new hl),ew3,ew4⟩)
  rintro _ H3 ⟨rfl,s3,w3,w4⟩
  obtain ⟨p0,e0,hin,x0,y0⟩:=tR hany b1 b2 w3 w4
  rw [e0] at hap
  obtain ⟨k0,hk0,ly0⟩:=iC hin
  have pd0:PqD (.tuple [d1,d2,d3,d4]) p0:=by
   unfold pqV at e0
   cases e0
   cases t1; cases t2; cases t3; cases t4
   rfl
  refine aj (fun σ' H'=>σ'=[some (.ref t),some (.int W),some (.int h1),some (.ref a),some (.ref fo),some (.ref ap)]∧Same Hx H'∧bW ks W h1 ps p0=true) (fun R1 hR1=>?_) ?_
  ·refine ⟨_,rfl,_,rfl,_,rfl,_,rfl,_,rfl,t,kl,fo,ap,b,W,h1,ks,_,ps,p0,k0,rfl,lsS (sx.trans s3),s3 _ _ hfx,Paired.mapP pS fun v q ⟨a',k',e',h',g'⟩=>⟨a',k',e',.inr (s3 _ _ h'),g'⟩,by rw [List.length_take]; omega,.inr (s3 _ _ hap),hk0,fun H4 s4=>⟨_,rfl,?_⟩⟩
   cases hf:bW ks W h1 ps p0 with
   | true=>exact aP (hR1 _ _ ⟨rfl,s3.trans s4,hf⟩)
   | false =>
    refine aX (bad (s3.trans s4) fun ld=>?_)
    obtain ⟨p,k,e,_,_,_,f⟩:=key4 ld
    have:p=p0:=by
     rw [e0] at e
     unfold pqV at e
     obtain ⟨a1,a2,a3,a4⟩:=p
     obtain ⟨c1,c2,c3,c4⟩:=p0
     simp only [List.cons.injEq,V.int.injEq,V.bl.injEq,and_true] at e
     obtain ⟨g1,g2,g3,g4⟩:=e
     have g1:c1=a1:=by omega
     subst g1; subst g2; subst g3; subst g4
     rfl
    rw [this,hf] at f
    cases f
  rintro _ H4 ⟨rfl,s4,hf⟩
  refine ⟨_,rfl,.inl ⟨rfl,_,SqL.of (s4 _ _ hfx)⟩,_,rfl,fo,_,_,rfl,rfl,s4 _ _ hfx,by rw [List.length_take]; omega,?_⟩
  obtain ⟨H5,e5,k5,n5⟩:∃H',upd H4 fo (.lst (xs.take i ++ [.ref ap]))=H'∧H' fo=some (.lst (xs.take i ++ [.ref ap]))∧∀c o,c≠fo→H4 c=some o→H' c=some o:=⟨_,rfl,ag,fun c o n e=>by rw [au n]; exact e⟩
  rw [show upd H4 fo _=H5 from e5]
  have s05:Same H H5:=fun c o e=>n5 _ _ (ai e fo0) ((sx.trans s4) _ _ e)
  have tks:xs.take (i + 1)=xs.take i ++ [.ref ap]:=by rw [List.take_add_one,hi]; rfl
  have tkd:ds.take (i + 1)=ds.take i ++ [.tuple [d1,d2,d3,d4]]:=by rw [List.take_add_one,hdi]; rfl
  have tupk:∀ {c:Addr} {zs:List V},Hx c=some (.tup zs)→H5 c=some (.tup zs):=fun e=>n5 _ _ (fun z=>by rw [z,hfx] at e; cases e) (s4 _ _ e)
  have pS5:Paired (PqU ks H5) (xs.take i) ps:=Paired.mapP pS fun v q ⟨a',k',e',h',g'⟩=>⟨a',k',e',tupk h',g'⟩
  refine ⟨_,ps ++ [p0],rfl,by rw [tks]; exact k5,s05,by rw [tkd]; exact jp pp (.cons pd0 .nil),?_,pH lok hf,?_⟩
  ·rw [tkd]
   intro dd hdd
   rcases List.mem_append.mp hdd with hdd | hdd
   ·exact al dd hdd
   ·rw [List.mem_singleton.mp hdd]
    exact lV pd0 ly0 hk0 x0 y0 (Bool.and_eq_true_iff.mp hf).1
  ·rw [tks]
   exact jp pS5 (.cons ⟨ap,k0,rfl,tupk hap,hk0⟩ .nil)
 rintro _ H2 ⟨s2,ld⟩
 exact q false H2 ⟨fun z=>(by cases z),fun z=>absurd ld z⟩ s2
end
theorem mO {C x dx:Addr} {H:Hp} (hx:H x=none) (hd:H dx=none):Same H (upd (upd H dx (.own x)) x (.ins C dx [])):=fun c o e=>by
 rw [au (ai e hx),au (ai e hd)]; exact e
theorem gY {C p s:Addr} {H H':Hp} {b:Int} {ks:List Kd} (pt:PotC H p) (bt:But p H H') (S:ShopAt C H s b ks):ShopAt C H' s b ks:=by
 obtain ⟨_,hp⟩:=fv pt
 exact S.keep (fun c xs e=>bt _ _ (fun z=>by rw [z,hp] at e; cases e) e) (fun c C' d fs e=>bt _ _ (fun z=>by rw [z,hp] at e; cases e) e)
theorem Laid.at {ks:List Kd} {W h:Int} {H:Hp} {ys:List V} {ps:List Pq} (pz:Paired (PqT ks H) ys ps) (ld:Laid ks W h ps) {i:Nat} {q:Pq} (hq:ps[i]? = some q):∃k,(q.k,q.c)∈lyK ks 0∧ks[q.k]? = some k∧0≤q.x∧0≤q.y∧onB ks W h q=true∧q.x + sd1 k q.c≤W∧q.y + sd2 k q.c≤h∧∀o∈ps.take i,dH (bg ks q) (bg ks o)=false:=by
 have hl:=Paired.length pz
 have hi:=(List.getElem?_eq_some_iff.mp hq).1
 obtain ⟨q',hq',a,_,_,hin,x0,y0⟩:=Paired.getR pz (List.getElem?_eq_getElem (show i < ys.length by omega))
 rw [hq] at hq'
 cases hq'
 obtain ⟨k,hk,_⟩:=iC hin
 have f:=ld i q hq
 unfold bW at f
 obtain ⟨f1,f2⟩:=Bool.and_eq_true_iff.mp f
 have g:=f1
 unfold onB at g
 rw [cB hk] at g
 simp only [Bool.not_eq_true',Bool.or_eq_false_iff,decide_eq_false_iff_not] at g
 have a1:¬ W < q.x + sd1 k q.c:=g.1
 have a2:¬ h < q.y + sd2 k q.c:=g.2
 refine ⟨k,hin,hk,x0,y0,f1,by omega,by omega,fun o ho=>?_⟩
 have this:apB (bg ks q) (bg ks o)=true:=List.all_eq_true.mp f2 _ (List.mem_map.mpr ⟨o,ho,rfl⟩)
 rw [gA] at this
 simpa using this
theorem pK {ks:List Kd} {W h:Int} {H:Hp} {ys:List V} {ps:List Pq} (pz:Paired (PqT ks H) ys ps) (ld:Laid ks W h ps) (gk:∀k∈ks,Good k) (k8:ks.length≤8) (hW:W < 10 ^ 58) (hh:h < 10 ^ 58):∀q∈ps,q.k < 100∧q.x < 10 ^ 60∧q.y < 10 ^ 60:=fun q hq=>by
 obtain ⟨i,hi⟩:=List.mem_iff_getElem?.mp hq
 obtain ⟨k,hin,hk,x0,y0,on,h1,h2,_⟩:=ld.at pz hi
 have g:=gk k (List.mem_of_getElem? hk)
 have g1:=g.w
 have g2:=g.h
 have e:(10:Int) ^ 58 < 10 ^ 60:=by decide
 have kl:=(List.getElem?_eq_some_iff.mp hk).1
 have s1:1≤sd1 k q.c:=by unfold sd1; cases q.c <;> assumption
 have s2:1≤sd2 k q.c:=by unfold sd2; cases q.c <;> assumption
 exact ⟨by omega,by omega,by omega⟩
theorem jv:∀ps:List Pq,Paired PqD (ps.map pqd) ps
 | []=>.nil
 | _ :: r=>.cons rfl (jv r)
theorem pL {ks:List Kd} {W h:Int} {H:Hp} {ys:List V} {ps:List Pq} (pz:Paired (PqT ks H) ys ps) (ld:Laid ks W h ps):cU ks W h (.list (ps.map pqd)):=by
 refine ⟨_,ps,rfl,jv ps,fun d hd=>?_,fun i p hp o ho=>?_⟩
 ·obtain ⟨q,hq,rfl⟩:=List.mem_map.mp hd
  obtain ⟨i,hi⟩:=List.mem_iff_getElem?.mp hq
  obtain ⟨k,hin,hk,x0,y0,on,_⟩:=ld.at pz hi
  obtain ⟨_,_,ly⟩:=iC hin
  exact lV rfl ly hk x0 y0 on
 ·obtain ⟨k,_,_,_,_,_,_,_,hv⟩:=ld.at pz hp
  exact hv o ho
theorem kC {k n:Nat}:∀ {ds:List PyData},(∀d∈ds,ShD k n d)→PyData.showableAll ds=true∧PyData.depthAll ds≤k∧((PyData.shownAll ds).map (·.length)).sum≤n * ds.length∧(PyData.shownAll ds).length=ds.length
 | [],_=>⟨rfl,Nat.zero_le _,Nat.zero_le _,rfl⟩
 | d :: r,h=>by
  obtain ⟨d1,d2,d3⟩:=h d List.mem_cons_self
  obtain ⟨e1,e2,e3,e4⟩:=kC (ds:=r) fun x hx=>h x (List.mem_cons_of_mem _ hx)
  refine ⟨by simp only [PyData.showableAll,d1,e1,Bool.and_self],by simp only [PyData.depthAll]; omega,?_,by simp only [PyData.shownAll,List.length_cons]; omega⟩
  simp only [PyData.shownAll,List.map_cons,List.sum_cons,List.length_cons,Nat.mul_succ]
  omega
theorem xL {d:PyData} (h:ItD d):ShD 2 400 d:=by
 rcases h with h | ⟨es,rfl,_,l5,he⟩
 ·obtain ⟨h1,h2,h3⟩:=pE h
  exact ⟨h1,by omega,by omega⟩
 ·obtain ⟨e1,e2,e3,e4⟩:=kC fun e h=>xI (he e h)
  refine ⟨by simp only [PyData.showable,e1],by simp only [PyData.depth]; omega,?_⟩
  have:=tupleText_len_le (PyData.shownAll es)
  simp only [PyData.shown]
  omega
theorem xM {ds:List PyData} (h:∀d∈ds,ItD d) (l:ds.length≤10):(PyData.list ds).showable=true∧(PyData.list ds).depth≤64∧(PyData.list ds).shown.length≤sizeLine:=by
 obtain ⟨e1,e2,e3,e4⟩:=kC fun e he=>xL (h e he)
 refine ⟨by simp only [PyData.showable,e1],by simp only [PyData.depth]; omega,?_⟩
 have:=listText_len_le (PyData.shownAll ds)
 have:(6000:Nat) < sizeLine:=by decide
 simp only [PyData.shown]
 omega
theorem su {ds:List PyData} (h:∀d∈ds,ItD d) (l:ds.length≤10):wt (.list ds)≤30000:=by
 have:=ky fun d hd=>xK (h d hd)
 rw [wt]
 omega
theorem tS {ks:List Kd} {W h:Int} {d:PyData} (hd:bv d=none∨bv d=some [.int 4]):¬ cU ks W h d:=by
 rintro ⟨ds,ps,er,_,al,_⟩
 rcases hd with hd | hd
 ·rw [hd] at er; cases er
 ·rw [hd] at er
  cases er
  have:=al _ (List.mem_singleton.mpr rfl)
  cases this
structure LC (C p t kl x l ta:Addr) (b W h:Int) (ks:List Kd) (ys xs:List V) (ps:List Pq) (ds:List PyData) (H:Hp):Prop where
 pt:PotC H p
 ls:LS H t b ks kl
 sh:ShopAt C H x b ks
 hl:H l=some (.lst ys)
 pz:Paired (PqT ks H) ys ps
 ht:H ta=some (.lst xs)
 D:Dts p H xs ds
theorem LC.same {C p t kl x l ta:Addr} {b W h:Int} {ks:List Kd} {ys xs:List V} {ps:List Pq} {ds:List PyData} {H H':Hp} (c:LC C p t kl x l ta b W h ks ys xs ps ds H) (s:Same H H'):LC C p t kl x l ta b W h ks ys xs ps ds H' :=
 ⟨c.pt.same s,c.ls.same s,cS s c.sh,s _ _ c.hl,Paired.mapP c.pz fun v q h=>h.keep fun a xs e=>s _ _ e,s _ _ c.ht,c.D.same s⟩
theorem LC.but {C p t kl x l ta:Addr} {b W h:Int} {ks:List Kd} {ys xs:List V} {ps:List Pq} {ds:List PyData} {H H':Hp} (nk:kl≠p) (nl:l≠p) (nt:ta≠p) (c:LC C p t kl x l ta b W h ks ys xs ps ds H) (pt':PotC H' p) (s:But p H H'):LC C p t kl x l ta b W h ks ys xs ps ds H' :=
 ⟨pt',c.ls.but nk c.pt s,gY c.pt s c.sh,s _ _ nl c.hl,Paired.mapP c.pz fun v q h=>h.keep fun a xs e=>fh s c.pt e,s _ _ nt c.ht,c.D.but (fv c.pt) s⟩
def iD (r:Bool):Str:=if r=true then "laying" else "told"
section
variable {P:Program} {w:World} {K:PySem.W.Frag} {mg:Str→Option Value} {base:Heap}
def lX (K:PySem.W.Frag):Sp:=fun vs H Q _=>∃ (a:Addr) (ns:List Int),vs=[.ref a]∧SqL K H a (ns.map V.int)∧ns.length≤63∧∀H',Q (.bl true) H'
theorem sclaw:FnScope ["_law_script","_law_k","_law_pot_here","_law_unit_here","_law_shop_here","_law_made","_law_wide","_law_high","_law_pieces","_law_thing","_law_kept","_law_due","_law_odd_here","_law_one","_law_other","_law_row"] ["_law_script"] (defScope jo):=⟨rfl,rfl,rfl,by decide +kernel,rfl,by decide +kernel,by decide +kernel⟩
set_option maxHeartbeats 1000000 in
theorem tT {f C:Addr} {fd:FuncData} (F:Fun K "law" "law" jo f fd) (B:Blt mg) (SM:SysIn K) (DC:Dn P w K mg base "_law_cell" ["_law_script","_law_k"] 1 (jU K)) (DP:Dn P w K mg base "_law_pot" ["_law_cell_here","_law_k"] 1 (kg)) (DD:Dn P w K mg base "_law_take" ["_law_pot_here","_law_many"] 1 (cG)) (DU:Dn P w K mg base "_law_unit" ["_law_pot_here"] 2 (kh)) (DSp:Dn P w K mg base "_law_shop" ["_law_pot_here","_law_unit_here"] 3 (ir)) (DSi:Dn P w K mg base "_law_side" ["_law_pot_here","_law_unit_here","_law_most"] 2 (fD)) (DSc:Dn P w K mg base "_law_scattered" ["_law_pot_here","_law_shop_here","_law_wide","_law_high","_law_pieces","_law_many"] 4 (kq)) (DSo:Dn P w K mg base "_law_spoilt" ["_law_pot_here","_law_pieces"] 3 (gz)) (DB:Dn P w K mg base "_law_is_bad" ["_law_shop_here","_law_wide","_law_high","_law_thing"] 4 (pJ)) (DT:Dn P w K mg base "_law_told" ["_law_made","_law_wide","_law_high","_law_thing"] 19 (iz K C)) (DJ:Dn P w K mg base "_law_judged" ["_law_made","_law_wide","_law_high","_law_thing"] 7 (kx K C)) (DSh:Kn P w K mg base "Shop" C ["self","blade","kinds"] 3 (jQ C)):FnOk P w K mg base CX0 20 f fd ["_law_script"] (lX K):=by
 refine F.ok sclaw (fun vs H Q E h=>?_) (fun cdv A outer s H vs Q E hr h=>?_)
 ·obtain ⟨a,ns,rfl,_⟩:=h
  rfl
 obtain ⟨a,ns,rfl,hS,n63,q⟩:=h
 have nd:=sclaw.nd
 have hg:=hr.gd
 have hu6:=hr.units66
 refine ⟨_,(@af _ _ _ _ _ (@ci _ _ _ _ _ _ _ _ PassesOwn.never rfl (eM rfl B.range (@aa _ _ _ _ _ (@aA _ _ _ _ _ _ _ _ _ (eS rfl) rfl B.max PyProof.Rows.boot_max (@aa _ _ _ _ _ ae (@aa _ _ _ _ _ (@aA _ _ _ _ _ _ _ _ _ (md rfl) rfl B.min PyProof.Rows.boot_min (@aa _ _ _ _ _ ae (@aa _ _ _ _ _ (@aA _ _ _ _ _ _ _ _ _ aS rfl B.len PySem.boot_len (@aa _ _ _ _ _ (pv 0) ad rfl) (by decide) (by decide) rfl rfl) ad rfl) rfl) (by decide) (by decide) rfl rfl) ad rfl) rfl) (by decide) (by decide) rfl rfl) ad rfl)) (aw (i:=1) nd rfl (Or.inl rfl)) (@af _ _ _ _ _ (@aG _ _ 2 _ _ _ _ nd rfl (Or.inl rfl) (@ar _ _ _ _ _ _ _ _ _ _ DP (hr.mono (by decide)) rfl (@aa _ _ _ _ _ (@ar _ _ _ _ _ _ _ _ _ _ DC (hr.mono (by decide)) rfl (@aa _ _ _ _ _ (pv 0) (@aa _ _ _ _ _ (pv 1) ad rfl) rfl) (by decide) rfl rfl) (@aa _ _ _ _ _ (pv 1) ad rfl) rfl) (by decide) rfl rfl) rfl (Or.inl rfl)) (@af _ _ _ _ _ (@aG _ _ 3 _ _ _ _ nd rfl (Or.inl rfl) (@ar _ _ _ _ _ _ _ _ _ _ DU (hr.mono (by decide)) rfl (@aa _ _ _ _ _ (pv 2) ad rfl) (by decide) rfl rfl) rfl (Or.inl rfl)) (@af _ _ _ _ _ (@aG _ _ 4 _ _ _ _ nd rfl (Or.inl rfl) (@ar _ _ _ _ _ _ _ _ _ _ DSp (hr.mono (by decide)) rfl (@aa _ _ _ _ _ (pv 2) (@aa _ _ _ _ _ (pv 3) ad rfl) rfl) (by decide) rfl rfl) rfl (Or.inl rfl)) (@af _ _ _ _ _ (@aG _ _ 5 _ _ _ _ nd rfl (Or.inl rfl) (xy DSh (hr.mono (by decide)) rfl (@aa _ _ _ _ _ (@ay _ _ _ _ _ _ _ ix_tup (pv 4) ae (fun _ _=>rfl)) (@aa _ _ _ _ _ (@ay _ _ _ _ _ _ _ ix_tup (pv 4) ae (fun _ _=>rfl)) ad rfl) rfl)) rfl (Or.inl rfl)) (@af _ _ _ _ _ (sK rfl nd rfl rfl (i:=6) (j:=7) (by decide) rfl rfl (@aa _ _ _ _ _ (@ar _ _ _ _ _ _ _ _ _ _ DSi (hr.mono (by decide)) rfl (@aa _ _ _ _ _ (pv 2) (@aa _ _ _ _ _ (pv 3) (@aa _ _ _ _ _ ae ad rfl) rfl) rfl) (by decide) rfl rfl) (@aa _ _ _ _ _ (@ar _ _ _ _ _ _ _ _ _ _ DSi (hr.mono (by decide)) rfl (@aa _ _ _ _ _ (pv 2) (@aa _ _ _ _ _ (pv 3) (@aa _ _ _ _ _ ae ad rfl) rfl) rfl) (by decide) rfl rfl) ad rfl) rfl) rfl) (@af _ _ _ _ _ (@aG _ _ 8 _ _ _ _ nd rfl (Or.inl rfl) (@ar _ _ _ _ _ _ _ _ _ _ DSc (hr.mono (by decide)) rfl (@aa _ _ _ _ _ (pv 2) (@aa _ _ _ _ _ (pv 4) (@aa _ _ _ _ _ (pv 6) (@aa _ _ _ _ _ (pv 7) (@aa _ _ _ _ _ (@aR _ _ _ _ ad) (@aa _ _ _ _ _ (@ar _ _ _ _ _ _ _ _ _ _ DD (hr.mono (by decide)) rfl (@aa _ _ _ _ _ (pv 2) (@aa _ _ _ _ _ ae ad rfl) rfl) (by decide) rfl rfl) ad rfl) rfl) rfl) rfl) rfl) rfl) (by decide) rfl rfl) rfl (Or.inl rfl)) (@af _ _ _ _ _ (@aG _ _ 9 _ _ _ _ nd rfl (Or.inl rfl) (@ar _ _ _ _ _ _ _ _ _ _ DSo (hr.mono (by decide)) rfl (@aa _ _ _ _ _ (pv 2) (@aa _ _ _ _ _ (pv 8) ad rfl) rfl) (by decide) rfl rfl) rfl (Or.inl rfl)) (@af _ _ _ _ _ (@aG _ _ 10 _ _ _ _ nd rfl (Or.inl rfl) (@aA _ _ _ _ _ _ _ _ _ (fW SM hg hu6) rfl B.repr PyProof.Rows.boot_repr (@aa _ _ _ _ _ (pv 9) ad rfl) (by decide) (by decide) rfl rfl) rfl (Or.inl rfl)) (@af _ _ _ _ _ (@aG _ _ 11 _ _ _ _ nd rfl (Or.inl rfl) (@ay _ _ _ _ _ _ _ ix_list (@aR _ _ _ _ (@aa _ _ _ _ _ bi (@aa _ _ _ _ _ bi ad rfl) rfl)) (@bA _ _ _ _ _ _ _ _ _ eU rfl B.int PyProof.Rows.boot_int (@aa _ _ _ _ _ (@ar _ _ _ _ _ _ _ _ _ _ DB (hr.mono (by decide)) rfl (@aa _ _ _ _ _ (pv 4) (@aa _ _ _ _ _ (pv 6) (@aa _ _ _ _ _ (pv 7) (@aa _ _ _ _ _ (pv 9) ad rfl) rfl) rfl) rfl) (by decide) rfl rfl) ad rfl) (by decide) (by decide) rfl rfl) (fun _ _=>rfl)) rfl (Or.inl rfl)) (@af _ _ _ _ _ (@aN _ _ _ _ _ _ _ _ (PW.pt (bI (@aI _ _ _ _ _ _ _ _ cI (@ar _ _ _ _ _ _ _ _ _ _ DT hr rfl (@aa _ _ _ _ _ (pv 5) (@aa _ _ _ _ _ (pv 6) (@aa _ _ _ _ _ (pv 7) (@aa _ _ _ _ _ (pv 9) ad rfl) rfl) rfl) rfl) (by decide) rfl rfl) (pv 11) (aH _)) (bC (@aI _ _ _ _ _ _ _ _ cI (@ar _ _ _ _ _ _ _ _ _ _ DT hr rfl (@aa _ _ _ _ _ (pv 5) (@aa _ _ _ _ _ (pv 6) (@aa _ _ _ _ _ (pv 7) (@aa _ _ _ _ _ (pv 8) ad rfl) rfl) rfl) rfl) (by decide) rfl rfl) bi (aH _))))) (@ah _ _ _ (@av _ _ _ _ be)) aB) (@af _ _ _ _ _ (@aG _ _ 12 _ _ _ _ nd rfl (Or.inl rfl) (@ay _ _ _ _ _ _ _ ix_list (@aR _ _ _ _ (@aa _ _ _ _ _ cX (@aa _ _ _ _ _ be (@aa _ _ _ _ _ ae (@aa _ _ _ _ _ bi (@aa _ _ _ _ _ (@aO _ _ _ _ _ (@aa _ _ _ _ _ ae ad rfl)) (@aa _ _ _ _ _ dQ (@aa _ _ _ _ _ (@rW _ _ _ _ _ _ nQ ae) ad rfl) rfl) rfl) rfl) rfl) rfl) rfl)) (@ar _ _ _ _ _ _ _ _ _ _ DD (hr.mono (by decide)) rfl (@aa _ _ _ _ _ (pv 2) (@aa _ _ _ _ _ ae ad rfl) rfl) (by decide) rfl rfl) (fun _ _=>rfl)) rfl (Or.inl rfl)) (@af _ _ _ _ _ (@ci _ _ _ _ _ _ _ _ PassesOwn.never rfl (cy (@aR _ _ _ _ (@aa _ _ _ _ _ (@aO _ _ _ _ _ (@aa _ _ _ _ _ (pv 12) (@aa _ _ _ _ _ (pv 7) (@aa _ _ _ _ _ (pv 9) ad rfl) rfl) rfl)) (@aa _ _ _ _ _ (@aO _ _ _ _ _ (@aa _ _ _ _ _ (pv 6) (@aa _ _ _ _ _ (pv 12) (@aa _ _ _ _ _ (pv 8) ad rfl) rfl) rfl)) (@aa _ _ _ _ _ (@aO _ _ _ _ _ (@aa _ _ _ _ _ (pv 12) (@aa _ _ _ _ _ (pv 12) (@aa _ _ _ _ _ cX ad rfl) rfl) rfl)) ad rfl) rfl) rfl))) (bH rfl (az (aw (i:=13) nd rfl (Or.inl rfl)) (az (aw (i:=14) nd rfl (Or.inl rfl)) (az (aw (i:=15) nd rfl (Or.inl rfl)) bf)))) (@ah _ _ _ (@aN _ _ _ _ _ _ _ _ (PW.pt (bI (@aI _ _ _ _ _ _ _ _ cI (@ar _ _ _ _ _ _ _ _ _ _ DT hr rfl (@aa _ _ _ _ _ (pv 5) (@aa _ _ _ _ _ (pv 13) (@aa _ _ _ _ _ (pv 14) (@aa _ _ _ _ _ (pv 15) ad rfl) rfl) rfl) rfl) (by decide) rfl rfl) bi (aH _)) (bC (@aI _ _ _ _ _ _ _ _ cI (@ar _ _ _ _ _ _ _ _ _ _ DJ (hr.mono (by decide)) rfl (@aa _ _ _ _ _ (pv 5) (@aa _ _ _ _ _ (pv 13) (@aa _ _ _ _ _ (pv 14) (@aa _ _ _ _ _ (pv 15) ad rfl) rfl) rfl) rfl) (by decide) rfl rfl) bi (aH _))))) (@ah _ _ _ (@av _ _ _ _ be)) aB)) (by intro _; rfl)) (@af _ _ _ _ _ (@aN _ _ _ _ _ _ _ _ (@aI _ _ _ _ _ _ _ _ cI (@ar _ _ _ _ _ _ _ _ _ _ DT hr rfl (@aa _ _ _ _ _ (pv 5) (@aa _ _ _ _ _ (pv 6) (@aa _ _ _ _ _ (pv 7) (@aa _ _ _ _ _ (@ay _ _ _ _ _ _ _ ix_list (@aR _ _ _ _ (@aa _ _ _ _ _ cX (@aa _ _ _ _ _ be (@aa _ _ _ _ _ ae (@aa _ _ _ _ _ bi (@aa _ _ _ _ _ dQ (@aa _ _ _ _ _ (@aO _ _ _ _ _ (@aa _ _ _ _ _ ae ad rfl)) ad rfl) rfl) rfl) rfl) rfl) rfl)) (@ar _ _ _ _ _ _ _ _ _ _ DD (hr.mono (by decide)) rfl (@aa _ _ _ _ _ (pv 2) (@aa _ _ _ _ _ ae ad rfl) rfl) (by decide) rfl rfl) (fun _ _=>rfl)) ad rfl) rfl) rfl) rfl) (by decide) rfl rfl) bi (aH _)) (@ah _ _ _ (@av _ _ _ _ be)) aB) (@ah _ _ _ (@aN _ _ _ _ _ _ _ _ (PW.pt (bI (@aI _ _ _ _ _ _ _ _ cI (@ar _ _ _ _ _ _ _ _ _ _ DJ (hr.mono (by decide)) rfl (@aa _ _ _ _ _ (pv 5) (@aa _ _ _ _ _ (pv 6) (@aa _ _ _ _ _ (pv 7) (@aa _ _ _ _ _ (pv 9) ad rfl) rfl) rfl) rfl) (by decide) rfl rfl) bi (aH _)) (bC (@aI _ _ _ _ _ _ _ _ cI (@aA _ _ _ _ _ _ _ _ _ (fW SM hg hu6) rfl B.repr PyProof.Rows.boot_repr (@aa _ _ _ _ _ (pv 9) ad rfl) (by decide) (by decide) rfl rfl) (pv 10) (aH _))))) (@ah _ _ _ (@av _ _ _ _ be)) aB))))))))))))))) (by intro _; rfl)) (@ah _ _ _ (@av _ _ _ _ be))),?_⟩
 have sz:(10000:Nat) < sizeLine:=by decide
 have ln:(ns.map V.int).length=ns.length:=List.length_map _
 refine aj (fun σ' H'=>True) (fun R hR=>?_) ?_
 ·refine ⟨_,rfl,a,_,rfl,.inl hS,_,_,rfl,_,_,rfl,_,rfl,?_,?_,?_⟩
  ·rw [ln]; split <;> omega
  ·rw [ln]; split <;> omega
  generalize hn:(Int.toNat _)=n
  have n8:n≤8:=by
   rw [← hn]
   split <;> (try split) <;> omega
  refine eO (n:=n) (fun i σ H'=>∃v1 v2 v3 v4 v5 v6 v7 v8 v9 v10 v11 v12 v13 v14 v15:Option V,σ=[some (.ref a),v1,v2,v3,v4,v5,v6,v7,v8,v9,v10,v11,v12,v13,v14,v15]∧Same H H') ⟨_,_,_,_,_,_,_,_,_,_,_,_,_,_,_,rfl,Same.refl _⟩ ?_ (fun σ Hx _=>hR _ _ trivial)
  rintro i σ Hx hi ⟨v1,v2,v3,v4,v5,v6,v7,v8,v9,v10,v11,v12,v13,v14,v15,rfl,sx⟩
  refine aj (fun σ' H'=>∃p,σ'=[some (.ref a),some (.int (0 + (i:Int))),some (.ref p),v3,v4,v5,v6,v7,v8,v9,v10,v11,v12,v13,v14,v15]∧Hx p=none∧PotC H' p∧But p Hx H') (fun R hR=>?_) ?_
  ·exact ⟨_,rfl,_,rfl,a,ns,_,rfl,sx.seq hS,by omega,fun c=>⟨_,rfl,c,_,rfl,by omega,by omega,fun p Hb hp ptb sb=>hR _ _ ⟨p,rfl,hp,ptb,Pc.Same.but sb⟩⟩⟩
  rintro _ H1 ⟨p,rfl,hp,pt1,b1⟩
  refine aj (fun σ' H'=>∃u:Int,σ'=[some (.ref a),some (.int (0 + (i:Int))),some (.ref p),some (.int u),v4,v5,v6,v7,v8,v9,v10,v11,v12,v13,v14,v15]∧1≤u∧u < 2 * 10 ^ 56∧PotC H' p∧But p Hx H') (fun R hR=>?_) ?_
  ·exact ⟨_,rfl,p,rfl,pt1,fun u H2 u1 u2 pt2 b2=>hR _ _ ⟨u,rfl,u1,u2,pt2,b1.trans b2⟩⟩
  rintro _ H2 ⟨u,rfl,u1,u2,pt2,b2⟩
  refine aj (fun σ' H'=>∃ (t kl:Addr) (b:Int) (ks:List Kd),σ'=[some (.ref a),some (.int (0 + (i:Int))),some (.ref p),some (.int u),some (.ref t),v5,v6,v7,v8,v9,v10,v11,v12,v13,v14,v15]∧LS H' t b ks kl∧kl≠p∧(∀k∈ks,Good k)∧1≤ks.length∧ks.length≤8∧0≤b∧PotC H' p∧But p Hx H') (fun R hR=>?_) ?_
  ·exact ⟨_,rfl,_,rfl,p,u,rfl,pt2,u1,u2,fun t kl b ks H3 ls nk _ gk k1 k8 b0 _ pt3 b3=>hR _ _ ⟨t,kl,b,ks,rfl,ls,nk,gk,k1,k8,b0,pt3,b2.trans b3⟩⟩
  rintro _ H3 ⟨t,kl,b,ks,rfl,ls3,nk,gk,k1,kn8,b0,pt3,b3⟩
  refine aj (fun σ' H'=>∃x:Addr,σ'=[some (.ref a),some (.int (0 + (i:Int))),some (.ref p),some (.int u),some (.ref t),some (.ref x),v6,v7,v8,v9,v10,v11,v12,v13,v14,v15]∧LS H' t b ks kl∧ShopAt C H' x b ks∧PotC H' p∧But p Hx H') (fun R hR=>?_) ?_
  ·obtain ⟨rs,q1,q2,q3⟩:=id ls3
   have rl:=Paired.length q3
   refine ⟨_,rfl,t,_,0,_,rfl,rfl,SqT.of q1,rfl,_,rfl,t,_,1,_,rfl,rfl,SqT.of q1,rfl,fun x dx hx hdx ne0=>?_⟩
   have sm:Same H3 (upd (upd H3 dx (.own x)) x (.ins C dx [])):=mO hx hdx
   refine ⟨x,dx,kl,b,rs,ks,rfl,ag,b0,.inl (sm _ _ q2),Paired.mapP (Tups.keep (fun c xs e=>sm _ _ e) q3) (fun v k h=>.inl h),gk,by omega,by omega,fun Hb Sb kb=>⟨rfl,?_⟩⟩
   have sb:Same H3 Hb:=fun c o e=>kb c o (ai e hx) (sm _ _ e)
   exact hR _ _ ⟨x,rfl,ls3.same sb,Sb,pt3.same sb,fun c o n e=>sb _ _ (b3 _ _ n e)⟩
  rintro _ H4 ⟨x,rfl,ls4,sh4,pt4,b4⟩
  refine aj (fun σ' H'=>∃W h1:Int,σ'=[some (.ref a),some (.int (0 + (i:Int))),some (.ref p),some (.int u),some (.ref t),some (.ref x),some (.int W),some (.int h1),v8,v9,v10,v11,v12,v13,v14,v15]∧1≤W∧W < 10 ^ 58∧1≤h1∧h1 < 10 ^ 58∧LS H' t b ks kl∧ShopAt C H' x b ks∧PotC H' p∧But p Hx H') (fun R hR=>?_) ?_
  ·exact ⟨_,rfl,_,rfl,p,u,24,rfl,pt4,u1,u2,by decide,by decide,fun W H5 w0 w58 pt5 b5=>⟨_,rfl,_,rfl,p,u,24,rfl,pt5,u1,u2,by decide,by decide,fun h1 H6 h0 h58 pt6 b6=>⟨_,_,rfl,hR _ _ ⟨W,h1,rfl,w0,w58,h0,h58,(ls4.but nk pt4 b5).but nk pt5 b6,gY pt5 b6 (gY pt4 b5 sh4),pt6,b4.trans (b5.trans b6)⟩⟩⟩⟩
  rintro _ H5 ⟨W,h1,rfl,w0,w58,h0,h58,ls5,sh5,pt5,b5⟩
  refine aj (fun σ' H'=>∃ (l:Addr) (ys:List V) (ps:List Pq),σ'=[some (.ref a),some (.int (0 + (i:Int))),some (.ref p),some (.int u),some (.ref t),some (.ref x),some (.int W),some (.int h1),some (.ref l),v9,v10,v11,v12,v13,v14,v15]∧l≠p∧H' l=some (.lst ys)∧Paired (PqT ks H') ys ps∧Laid ks W h1 ps∧ys.length≤9∧LS H' t b ks kl∧ShopAt C H' x b ks∧PotC H' p∧But p Hx H') (fun R hR=>?_) ?_
  ·refine ⟨_,rfl,_,rfl,_,rfl,_,rfl,by decide,fun pl hpl=>?_⟩
   obtain ⟨H6,e6,k6,n6,s6,b6,pt6⟩:=aW (o:=.lst []) b5 pt5 hpl
   rw [show upd H5 pl _=H6 from e6]
   refine ⟨_,rfl,p,10,rfl,pt6,by decide,by decide,fun mm H7 m0 m1 pt7 b7=>?_⟩
   have ls7:=(ls5.same s6).but nk pt6 b7
   refine ⟨p,t,kl,pl,b,W,h1,mm,ks,[],[],rfl,pt7,ls7,nk,k1,kn8,gk,b0,w0,w58,h0,h58,m0,by omega,n6,b7 _ _ n6 k6,.nil,Nat.zero_le _,fun i p hp=>by simp at hp,fun l zs qs H8 hl0 nl hl pz ld zl pt8 b8=>hR _ _ ⟨l,zs,qs,rfl,nl,hl,pz,ld,?_,ls7.but nk pt7 b8,gY pt7 b8 (gY pt6 b7 (cS s6 sh5)),pt8,(b6.trans b7).trans b8⟩⟩
   have zl:(zs.length:Int)≤0 + mm:=zl
   omega
  rintro _ H6 ⟨l,ys,ps,rfl,nl,hl6,pz6,ld,y9,ls6,sh6,pt6,b6⟩
  have pin:=pK pz6 ld gk kn8 w58 h58
  have lay:=pL pz6 ld
  have yl:=Paired.length pz6
  refine aj (fun σ' H'=>∃ (ta:Addr) (xs:List V) (ds:List PyData),σ'=[some (.ref a),some (.int (0 + (i:Int))),some (.ref p),some (.int u),some (.ref t),some (.ref x),some (.int W),some (.int h1),some (.ref l),some (.ref ta),v10,v11,v12,v13,v14,v15]∧ta≠p∧(∀d∈ds,ItD d)∧xs.length≤10∧LC C p t kl x l ta b W h1 ks ys xs ps ds H'∧But p Hx H') (fun R hR=>?_) ?_
  ·refine ⟨_,rfl,_,rfl,p,l,ks,ys,ps,rfl,pt6,nl,hl6,pz6,y9,pin,fun v H7 gl pt7 b7=>?_⟩
   obtain ⟨ta,xs,ds,rfl,nt,hta,D,it,x10⟩:=gl
   exact hR _ _ ⟨ta,xs,ds,rfl,nt,it,x10,⟨pt7,ls6.but nk pt6 b7,gY pt6 b7 sh6,b7 _ _ nl hl6,Paired.mapP pz6 fun v q h=>h.keep fun a xs e=>fh b7 pt6 e,hta,D⟩,b6.trans b7⟩
  rintro _ H7 ⟨ta,xs,ds,rfl,nt,it,x10,c7,b7⟩
  have dl:=c7.D.length
  obtain ⟨sh1,sh2,sh3⟩:=xM it (by omega)
  have wtd:=su it (by omega)
  have Dl:∀ {H':Hp},LC C p t kl x l ta b W h1 ks ys xs ps ds H'→Dt p H' (.ref ta) (.list ds):=fun c=>.lst nt c.ht c.D
  have Dp:∀ {H':Hp},LC C p t kl x l ta b W h1 ks ys xs ps ds H'→Dt p H' (.ref l) (.list (ps.map pqd)):=fun c=>.lst nl c.hl (kA c.pz)
  have rw1:∀es,bv (.list ds)=some es→es.length < 12:=fun es e=>by cases e; omega
  have rw2:∀es,bv (.list (ps.map pqd))=some es→es.length < 12:=fun es e=>by cases e; rw [List.length_map]; omega
  have wtp:wt (.list (ps.map pqd))≤30000:=by
   refine su (fun d hd=>?_) (by rw [List.length_map]; omega)
   obtain ⟨q',hq,rfl⟩:=List.mem_map.mp hd
   obtain ⟨g1,g2,g3⟩:=pin q' hq
   obtain ⟨j,hj⟩:=List.mem_iff_getElem?.mp hq
   obtain ⟨_,_,_,x0,y0,_⟩:=ld.at pz6 hj
   have e:(10:Int) ^ 60 < 10 ^ 61:=by decide
   exact lT ⟨g1,x0,y0,by omega,by omega⟩
  refine aj (fun σ' H'=>σ'=[some (.ref a),some (.int (0 + (i:Int))),some (.ref p),some (.int u),some (.ref t),some (.ref x),some (.int W),some (.int h1),some (.ref l),some (.ref ta),some (.str (PyData.list ds).shown),v11,v12,v13,v14,v15]∧H7=H') (fun R hR=>?_) ?_
  ·exact ⟨_,rfl,ta,.list ds,rfl,(Dl c7).datD,sh1,sh2,sh3,hR _ _ ⟨rfl,rfl⟩⟩
  rintro _ _ ⟨rfl,rfl⟩
  refine aj (fun σ' H'=>∃r:Bool,σ'=[some (.ref a),some (.int (0 + (i:Int))),some (.ref p),some (.int u),some (.ref t),some (.ref x),some (.int W),some (.int h1),some (.ref l),some (.ref ta),some (.str (PyData.list ds).shown),some (.str (iD r)),v12,v13,v14,v15]∧(r=true↔¬ cU ks W h1 (.list ds))∧LC C p t kl x l ta b W h1 ks ys xs ps ds H'∧But p Hx H') (fun R hR=>?_) ?_
  ·refine ⟨(by show 2≤sizeLine; decide),fun dl hdl=>?_⟩
   obtain ⟨H8,e8,k8,n8,s8,b8,pt8⟩:=aW (o:=.lst [.str "told",.str "laying"]) b7 c7.pt hdl
   rw [show upd H7 dl _=H8 from e8]
   have c8:=c7.same s8
   refine ⟨_,rfl,_,rfl,_,rfl,_,rfl,p,t,kl,ta,b,W,h1,ks,xs,ds,rfl,c8.ls,kn8,c8.ht,c8.D,it,x10,fun r H9 hr9 s9=>.inr ⟨r,rfl,dl,_,_,.str (iD r),rfl,rfl,SqL.of (s9 _ _ k8),?_,hR _ _ ⟨r,rfl,hr9,c8.same s9,fun c o n e=>s9 _ _ (b8 _ _ n e)⟩⟩⟩
   cases r <;> rfl
  rintro _ H8 ⟨r,rfl,hr8,c8,b8⟩
  have due1:cU ks W h1 (.list ds)→r=false:=fun ld=>by
   cases r with
   | false=>rfl
   | true=>exact absurd ld (hr8.mp rfl)
  have due2:¬ cU ks W h1 (.list ds)→r=true:=fun ld=>hr8.mpr ld
  refine aj (fun σ' H'=>σ'=[some (.ref a),some (.int (0 + (i:Int))),some (.ref p),some (.int u),some (.ref t),some (.ref x),some (.int W),some (.int h1),some (.ref l),some (.ref ta),some (.str (PyData.list ds).shown),some (.str (iD r)),v12,v13,v14,v15]∧LC C p t kl x l ta b W h1 ks ys xs ps ds H'∧But p Hx H') (fun R hR=>?_) ?_
  ·refine ⟨_,rfl,_,rfl,_,rfl,_,rfl,x,_,_,_,rfl,.inr ⟨p,b,W,h1,ks,.list ds,rfl,rfl,c8.sh,b0,gk,w0,h0,Dl c8,wtd,rw1,fun ld H9 s9=>⟨_,rfl,rfl,_,rfl,?_⟩,fun nld H9 s9=>⟨_,rfl,rfl,_,rfl,?_⟩⟩⟩
   ·have c9:=c8.same s9
    rw [show (!decide (V.str "told" = V.str (iD r)))=false by rw [due1 ld]; rfl]
    refine aP ⟨_,rfl,_,rfl,_,rfl,_,rfl,x,_,_,_,rfl,.inr ⟨p,b,W,h1,ks,.list (ps.map pqd),rfl,rfl,c9.sh,b0,gk,w0,h0,Dp c9,wtp,rw2,fun _ H10 s10=>⟨rfl,_,rfl,?_⟩,fun nl _ _=>absurd lay nl⟩⟩
    rw [show (!decide (V.str "told" = V.str "told"))=false by rw [decide_eq_true rfl]; rfl]
    exact aP (hR _ _ ⟨rfl,c9.same s10,fun c o n e=>s10 _ _ (s9 _ _ (b8 _ _ n e))⟩)
   ·have c9:=c8.same s9
    rw [show (!decide (V.str "laying" = V.str (iD r)))=false by rw [due2 nld]; rfl]
    refine aP ⟨_,rfl,_,rfl,_,rfl,_,rfl,x,_,_,_,rfl,.inr ⟨p,b,W,h1,ks,.list (ps.map pqd),rfl,rfl,c9.sh,b0,gk,w0,h0,Dp c9,wtp,rw2,fun _ H10 s10=>⟨rfl,_,rfl,?_⟩,fun nl _ _=>absurd lay nl⟩⟩
    rw [show (!decide (V.str "told" = V.str "told"))=false by rw [decide_eq_true rfl]; rfl]
    exact aP (hR _ _ ⟨rfl,c9.same s10,fun c o n e=>s10 _ _ (s9 _ _ (b8 _ _ n e))⟩)
  rintro _ H9 ⟨rfl,c9,b9⟩
  refine aj (fun σ' H'=>∃ (ov:V) (Tv:String),σ'=[some (.ref a),some (.int (0 + (i:Int))),some (.ref p),some (.int u),some (.ref t),some (.ref x),some (.int W),some (.int h1),some (.ref l),some (.ref ta),some (.str (PyData.list ds).shown),some (.str (iD r)),some ov,v13,v14,v15]∧Ty K H' ov Tv∧aD ov 1=false∧LC C p t kl x l ta b W h1 ks ys xs ps ds H'∧But p Hx H') (fun R hR=>?_) ?_
  ·refine ⟨(by show 1≤sizeLine; decide),fun t4 ht4=>?_⟩
   obtain ⟨H10,e10,k10,n10,s10,b10,pt10⟩:=aW (o:=.tup [.int 4]) b9 c9.pt ht4
   rw [show upd H9 t4 _=H10 from e10]
   refine fun em hem=>?_
   obtain ⟨H11,e11,k11,n11,s11,b11,pt11⟩:=aW (o:=.dK []) b10 pt10 hem
   rw [show upd H10 em _=H11 from e11]
   refine ⟨_,rfl,(by show 7≤sizeLine; decide),fun dl hdl=>?_⟩
   obtain ⟨H12,e12,k12,n12,s12,b12,pt12⟩:=aW (o:=.lst [.non,.bl true,.int 0,.str "4",.ref t4,.ref em,.int (-1)]) b11 pt11 hdl
   rw [show upd H11 dl _=H12 from e12]
   refine ⟨_,rfl,p,7,rfl,pt12,by decide,by decide,fun z H13 z0 z1 pt13 b13=>?_⟩
   have t13:=fh b13 pt12 (s12 _ _ (s11 _ _ k10))
   have em12:=s12 _ _ k11
   have e13:=b13 _ _ (fun z=>by obtain ⟨_,e⟩:=fv pt12; rw [z,e] at em12; cases em12) em12
   obtain ⟨ov,Tv,hov,tyv,wv⟩:∃ov Tv,atI [V.non,.bl true,.int 0,.str "4",.ref t4,.ref em,.int (-1)] z=some ov∧Ty K H13 ov Tv∧aD ov 1=false:=by
    have:z=0∨z=1∨z=2∨z=3∨z=4∨z=5∨z=6:=by omega
    rcases this with rfl | rfl | rfl | rfl | rfl | rfl | rfl
    ·exact ⟨_,_,rfl,Ty.non,rfl⟩
    ·exact ⟨_,_,rfl,Ty.bl,rfl⟩
    ·exact ⟨_,_,rfl,Ty.int,rfl⟩
    ·exact ⟨_,_,rfl,Ty.str,rfl⟩
    ·exact ⟨_,_,rfl,Ty.tup t13,rfl⟩
    ·exact ⟨_,_,rfl,Ty.dK e13,rfl⟩
    ·exact ⟨_,_,rfl,Ty.int,rfl⟩
   exact ⟨dl,_,_,_,rfl,rfl,SqL.of (b13 _ _ n12 k12),hov,hR _ _ ⟨ov,Tv,rfl,tyv,wv,((c9.same (s10.trans (s11.trans s12))).but nk nl nt pt13 b13),b12.trans b13⟩⟩
  rintro _ H10 ⟨ov,Tv,rfl,tyv,wv,c10,b10⟩
  refine aj (fun σ' H'=>(∃w13 w14 w15:Option V,σ'=[some (.ref a),some (.int (0 + (i:Int))),some (.ref p),some (.int u),some (.ref t),some (.ref x),some (.int W),some (.int h1),some (.ref l),some (.ref ta),some (.str (PyData.list ds).shown),some (.str (iD r)),some ov,w13,w14,w15])∧Same H10 H') (fun R hR=>?_) ?_
  ·refine ⟨_,rfl,_,rfl,_,rfl,(by show 3≤sizeLine; decide),fun t1 ht1=>?_⟩
   obtain ⟨H11,e11,k11,s11⟩:∃H',upd H10 t1 (.tup [ov,.int h1,.ref ta])=H'∧H' t1=some (.tup [ov,.int h1,.ref ta])∧Same H10 H':=⟨_,rfl,ag,Same.new ht1⟩
   rw [show upd H10 t1 _=H11 from e11]
   refine ⟨_,rfl,_,rfl,_,rfl,(by show 3≤sizeLine; decide),fun t2 ht2=>?_⟩
   obtain ⟨H12,e12,k12,s12⟩:∃H',upd H11 t2 (.tup [.int W,ov,.ref l])=H'∧H' t2=some (.tup [.int W,ov,.ref l])∧Same H11 H':=⟨_,rfl,ag,Same.new ht2⟩
   rw [show upd H11 t2 _=H12 from e12]
   refine ⟨_,rfl,_,rfl,(by show 3≤sizeLine; decide),fun t3 ht3=>?_⟩
   obtain ⟨H13,e13,k13,s13⟩:∃H',upd H12 t3 (.tup [ov,ov,.non])=H'∧H' t3=some (.tup [ov,ov,.non])∧Same H12 H':=⟨_,rfl,ag,Same.new ht3⟩
   rw [show upd H12 t3 _=H13 from e13]
   refine ⟨(by show 3≤sizeLine; decide),fun ll hll=>?_⟩
   obtain ⟨H14,e14,k14,s14⟩:∃H',upd H13 ll (.lst [.ref t1,.ref t2,.ref t3])=H'∧H' ll=some (.lst [.ref t1,.ref t2,.ref t3])∧Same H13 H':=⟨_,rfl,ag,Same.new hll⟩
   rw [show upd H13 ll _=H14 from e14]
   have s1014:=s11.trans (s12.trans (s13.trans s14))
   refine ⟨ll,rfl,⟨_,SqL.of k14⟩,cZ (xs:=[.ref t1,.ref t2,.ref t3]) (fun j σ' H'=>(∃w13 w14 w15:Option V,σ'=[some (.ref a),some (.int (0 + (i:Int))),some (.ref p),some (.int u),some (.ref t),some (.ref x),some (.int W),some (.int h1),some (.ref l),some (.ref ta),some (.str (PyData.list ds).shown),some (.str (iD r)),some ov,w13,w14,w15])∧Same H14 H') ⟨⟨_,_,_,rfl⟩,Same.refl _⟩ (fun j σ Hz _ ⟨_,sz⟩=>SqL.of (sz _ _ k14)) ?_ (fun σ Hz ⟨e,sz⟩=>hR _ _ ⟨e,s1014.trans sz⟩)⟩
   rintro j z σ Hz hj ⟨⟨w13,w14,w15,rfl⟩,szz⟩
   have hj3:j=0∨j=1∨j=2:=by have:j < 3:=(List.getElem?_eq_some_iff.mp hj).1; omega
   have ty1:=Ty.same (s1014.trans szz) tyv
   rcases hj3 with rfl | rfl | rfl
   ·cases hj
    have wb:(aD ov 1 && aD (.int h1) 1)=false:=by rw [wv]; rfl
    refine ⟨t1,_,rfl,SqT.of (szz _ _ (s14 _ _ (s13 _ _ (s12 _ _ k11)))),rfl,_,_,rfl,_,_,rfl,_,_,rfl,rfl,?_⟩
    refine ⟨_,rfl,_,rfl,_,rfl,_,rfl,x,_,_,_,rfl,.inl ⟨⟨⟨_,ty1⟩,⟨_,Ty.int⟩,wb⟩,fun H15 s15=>⟨rfl,_,rfl,?_⟩⟩⟩
    rw [show (!decide (V.str "plate" = V.str "plate"))=false by rw [decide_eq_true rfl]; rfl]
    refine aP ⟨_,rfl,_,rfl,_,rfl,_,rfl,x,_,_,_,rfl,.inl ⟨⟨⟨_,(Ty.same s15 ty1)⟩,⟨_,Ty.int⟩,wb⟩,fun H16 s16=>⟨rfl,_,rfl,?_⟩⟩⟩
    rw [show (!decide (V.str "plate" = V.str "plate"))=false by rw [decide_eq_true rfl]; rfl]
    exact aP ⟨⟨_,_,_,rfl⟩,szz.trans (s15.trans s16)⟩
   ·cases hj
    have wb:(aD (.int W) 1 && aD ov 1)=false:=by rw [wv,Bool.and_false]
    refine ⟨t2,_,rfl,SqT.of (szz _ _ (s14 _ _ (s13 _ _ k12))),rfl,_,_,rfl,_,_,rfl,_,_,rfl,rfl,?_⟩
    refine ⟨_,rfl,_,rfl,_,rfl,_,rfl,x,_,_,_,rfl,.inl ⟨⟨⟨_,Ty.int⟩,⟨_,ty1⟩,wb⟩,fun H15 s15=>⟨rfl,_,rfl,?_⟩⟩⟩
    rw [show (!decide (V.str "plate" = V.str "plate"))=false by rw [decide_eq_true rfl]; rfl]
    refine aP ⟨_,rfl,_,rfl,_,rfl,_,rfl,x,_,_,_,rfl,.inl ⟨⟨⟨_,Ty.int⟩,⟨_,(Ty.same s15 ty1)⟩,wb⟩,fun H16 s16=>⟨rfl,_,rfl,?_⟩⟩⟩
    rw [show (!decide (V.str "plate" = V.str "plate"))=false by rw [decide_eq_true rfl]; rfl]
    exact aP ⟨⟨_,_,_,rfl⟩,szz.trans (s15.trans s16)⟩
   ·cases hj
    have wb:(aD ov 1 && aD ov 1)=false:=by rw [wv]; rfl
    refine ⟨t3,_,rfl,SqT.of (szz _ _ (s14 _ _ k13)),rfl,_,_,rfl,_,_,rfl,_,_,rfl,rfl,?_⟩
    refine ⟨_,rfl,_,rfl,_,rfl,_,rfl,x,_,_,_,rfl,.inl ⟨⟨⟨_,ty1⟩,⟨_,ty1⟩,wb⟩,fun H15 s15=>⟨rfl,_,rfl,?_⟩⟩⟩
    rw [show (!decide (V.str "plate" = V.str "plate"))=false by rw [decide_eq_true rfl]; rfl]
    refine aP ⟨_,rfl,_,rfl,_,rfl,_,rfl,x,_,_,_,rfl,.inl ⟨⟨⟨_,(Ty.same s15 ty1)⟩,⟨_,(Ty.same s15 ty1)⟩,wb⟩,fun H16 s16=>⟨rfl,_,rfl,?_⟩⟩⟩
    rw [show (!decide (V.str "plate" = V.str "plate"))=false by rw [decide_eq_true rfl]; rfl]
    exact aP ⟨⟨_,_,_,rfl⟩,szz.trans (s15.trans s16)⟩
  rintro _ H11 ⟨⟨w13,w14,w15,rfl⟩,s11⟩
  have c11:=c10.same s11
  have b11:But p Hx H11:=fun c o n e=>s11 _ _ (b10 _ _ n e)
  refine aj (fun σ' H'=>σ'=[some (.ref a),some (.int (0 + (i:Int))),some (.ref p),some (.int u),some (.ref t),some (.ref x),some (.int W),some (.int h1),some (.ref l),some (.ref ta),some (.str (PyData.list ds).shown),some (.str (iD r)),some ov,w13,w14,w15]∧LC C p t kl x l ta b W h1 ks ys xs ps ds H'∧But p Hx H') (fun R hR=>?_) ?_
  ·refine ⟨_,rfl,_,rfl,_,rfl,fun em hem=>?_⟩
   obtain ⟨H12,e12,k12,n12,s12,b12,pt12⟩:=aW (o:=.dK []) b11 c11.pt hem
   rw [show upd H11 em _=H12 from e12]
   refine ⟨(by show 1≤sizeLine; decide),fun t4 ht4=>?_⟩
   obtain ⟨H13,e13,k13,n13,s13,b13,pt13⟩:=aW (o:=.tup [.int 4]) b12 pt12 ht4
   rw [show upd H12 t4 _=H13 from e13]
   refine ⟨(by show 6≤sizeLine; decide),fun dl hdl=>?_⟩
   obtain ⟨H14,e14,k14,n14,s14,b14,pt14⟩:=aW (o:=.lst [.non,.bl true,.int 0,.str "",.ref em,.ref t4]) b13 pt13 hdl
   rw [show upd H13 dl _=H14 from e14]
   refine ⟨_,rfl,p,6,rfl,pt14,by decide,by decide,fun z H15 z0 z1 pt15 b15=>?_⟩
   have t15:=fh b15 pt14 (s14 _ _ k13)
   have em14:=s14 _ _ (s13 _ _ k12)
   have e15:=b15 _ _ (fun z=>by obtain ⟨_,e⟩:=fv pt14; rw [z,e] at em14; cases em14) em14
   have c15:=(c11.same (s12.trans (s13.trans s14))).but nk nl nt pt15 b15
   obtain ⟨ov,d,hov,hd,hrow,hwt⟩:∃ov d,atI [V.non,.bl true,.int 0,.str "",.ref em,.ref t4] z=some ov∧Dt p H15 ov d∧(bv d=none∨bv d=some [.int 4])∧wt d≤30000:=by
    have:z=0∨z=1∨z=2∨z=3∨z=4∨z=5:=by omega
    rcases this with rfl | rfl | rfl | rfl | rfl | rfl
    ·exact ⟨_,_,rfl,.non,.inl rfl,by simp [wt]⟩
    ·exact ⟨_,_,rfl,.bl true,.inl rfl,by simp [wt]⟩
    ·exact ⟨_,_,rfl,.int 0,.inl rfl,by simp [wt]⟩
    ·exact ⟨_,_,rfl,.str "",.inl rfl,by simp only [wt]; decide +kernel⟩
    ·exact ⟨_,_,rfl,.emp e15,.inl rfl,by simp [wt]⟩
    ·exact ⟨_,_,rfl,.tup t15 (.cons (.int 4) .nil),.inr rfl,by simp [wt,wts]⟩
   refine ⟨dl,_,_,_,rfl,rfl,SqL.of (b15 _ _ n14 k14),hov,x,_,_,_,rfl,.inr ⟨p,b,W,h1,ks,d,rfl,rfl,c15.sh,b0,gk,w0,h0,hd,hwt,fun es e=>?_,fun ld=>absurd ld (tS hrow),fun _ H16 s16=>⟨rfl,_,rfl,?_⟩⟩⟩
   ·rcases hrow with h | h <;> rw [h] at e <;> cases e
    decide
   rw [show (!decide (V.str "laying" = V.str "laying"))=false by rw [decide_eq_true rfl]; rfl]
   exact aP (hR _ _ ⟨rfl,c15.same s16,fun c o n e=>s16 _ _ ((b14.trans b15) _ _ n e)⟩)
  rintro _ H12 ⟨rfl,c12,b12⟩
  refine ⟨_,rfl,_,rfl,_,rfl,_,rfl,x,_,_,_,rfl,.inr ⟨p,b,W,h1,ks,.list ds,rfl,rfl,c12.sh,w0,h0,Dl c12,wtd,fun H13 s13=>⟨rfl,_,rfl,?_⟩⟩⟩
  rw [show (!decide (V.str "told" = V.str "told"))=false by rw [decide_eq_true rfl]; rfl]
  refine aP ⟨_,rfl,ta,.list ds,rfl,(Dl (c12.same s13)).datD,sh1,sh2,sh3,_,rfl,rfl,_,rfl,?_⟩
  rw [show (!decide (V.str (PyData.list ds).shown=V.str (PyData.list ds).shown))=false by rw [decide_eq_true rfl]; rfl]
  exact aP ⟨_,_,_,_,_,_,_,_,_,_,_,_,_,_,_,rfl,fun c o e=>s13 _ _ (b12 _ _ (ai (sx _ _ e) hp) (sx _ _ e))⟩
 rintro _ H1 _
 exact q H1
end
theorem gB {α:Type} {us:List α} (h:us.length=1):∃a,us=[a]:=by
 match us,h with
 | [a],_=>exact ⟨a,rfl⟩
theorem dR {α:Type} {us:List α} (h:us.length=2):∃a b,us=[a,b]:=by
 match us,h with
 | [a,b],_=>exact ⟨a,b,rfl⟩
theorem jw {α:Type} {us:List α} (h:us.length=3):∃a b c,us=[a,b,c]:=by
 match us,h with
 | [a,b,c],_=>exact ⟨a,b,c,rfl⟩
theorem kD {α:Type} {us:List α} (h:us.length=4):∃a b c d,us=[a,b,c,d]:=by
 match us,h with
 | [a,b,c,d],_=>exact ⟨a,b,c,d,rfl⟩
theorem Dj {α:Type} {us:List α} (h:us.length=5):∃a b c d e,us=[a,b,c,d,e]:=by
 match us,h with
 | [a,b,c,d,e],_=>exact ⟨a,b,c,d,e,rfl⟩
abbrev DI (K:PySem.W.Frag) (n:Str) (st:Stmt) (f:Addr):Prop:=∃ (od an:Option Addr) (sl:Array (Option Value)) (oc kV dc pm cd ct:Value),PySem.W.nsIn K mainGlobals n=some (some (.ref f))∧K.lookup f=some ⟨oc,od,.func (PySem.W.fnOf n n (defArgs st) (defBody st) (defScope st) .none kV dc pm an cd ct),sl⟩∧PySem.W.codeIn K cd n=true∧PySem.W.keepIn K (.ref f)=true
abbrev MI (K:PySem.W.Frag) (C:Addr) (n q:Str) (st:Stmt) (f:Addr):Prop:=∃ (od an:Option Addr) (sl:Array (Option Value)) (oc kV dc pm cd ct:Value),PySem.W.findIn K (.ref C) n=some (some (.ref f))∧PySem.W.isFn K (.ref f)=true∧K.lookup f=some ⟨oc,od,.func (PySem.W.fnOf n q (defArgs st) (defBody st) (defScope st) .none kV dc pm an cd ct),sl⟩∧PySem.W.codeIn K cd q=true∧PySem.W.keepIn K (.ref f)=true
theorem diM {K:PySem.W.Frag} {n:Str} {st:Stmt} {f:Addr} {od an:Option Addr} {sl:Array (Option Value)} {oc kV dc pm cd ct:Value} (a:PySem.W.nsIn K mainGlobals n=some (some (.ref f))) (l:K.lookup f=some ⟨oc,od,.func (PySem.W.fnOf n n (defArgs st) (defBody st) (defScope st) .none kV dc pm an cd ct),sl⟩) (c:PySem.W.codeIn K cd n=true) (k:PySem.W.keepIn K (.ref f)=true):DI K n st f:=⟨_,_,_,_,_,_,_,_,_,a,l,c,k⟩
theorem miM {K:PySem.W.Frag} {C:Addr} {n q:Str} {st:Stmt} {f:Addr} {od an:Option Addr} {sl:Array (Option Value)} {oc kV dc pm cd ct:Value} (a:PySem.W.findIn K (.ref C) n=some (some (.ref f))) (i:PySem.W.isFn K (.ref f)=true) (l:K.lookup f=some ⟨oc,od,.func (PySem.W.fnOf n q (defArgs st) (defBody st) (defScope st) .none kV dc pm an cd ct),sl⟩) (c:PySem.W.codeIn K cd q=true) (k:PySem.W.keepIn K (.ref f)=true):MI K C n q st f:=⟨_,_,_,_,_,_,_,_,_,a,i,l,c,k⟩
theorem Dk {α:Type} {us:List α} (h:us.length=6):∃a b c d e f,us=[a,b,c,d,e,f]:=by
 match us,h with
 | [a,b,c,d,e,f],_=>exact ⟨a,b,c,d,e,f,rfl⟩
theorem Dm {α:Type} {us:List α} (h:us.length=7):∃a b c d e f g,us=[a,b,c,d,e,f,g]:=by
 match us,h with
 | [a,b,c,d,e,f,g],_=>exact ⟨a,b,c,d,e,f,g,rfl⟩
open PySem.W in
theorem all_mk {l:OpenLaw} {w:World} {K:Frag} {h:Heap} {mg:Str→Option Value} {fa f0 f1 f2 f3 f4 f5 f6 f7 f8 f9 f10 f11 f12 f13 f14 f15 f16 f17 f18 f19 f20 f21 f22 f23 f24 f25 f26 f27 f28 f29 f30 f31 f32 f33 f34 f35 C fm0 fm1 fm2 fm3 xWAYS xPlateError xNoPlate xNoLaying xNoBlade xNoKind xNoKinds xNoLying xNoNumber xNoTable xNoTelling xNoText xNoTree xNoWeights xTooLarge:Addr} (X:K.In h) (G:h.Ns mainGlobals mg) (hfa:mg "law" = some (.ref fa))
  {tc0:Tok} {tc1:Tok} {tc2:Tok} {tc3:Tok} {tc4:Tok} {tc5:Tok} {tc6:Tok} {tc7:Tok}
  (d0:DI K "is_whole" gf f0)
  (d1:DI K "is_truth" gg f1)
  (d2:DI K "is_row" oK f2)
  (d3:DI K "is_kind" eA f3)
  (d4:DI K "can_lie_turned" eC f4)
  (d5:DI K "check_plate" br f5)
  (d6:DI K "lies_in" el f6)
  (d7:DI K "meet" jf f7)
  (d8:DI K "spans_of" dk f8)
  (d9:DI K "is_placed" cL f9)
  (d10:DI K "is_laying" bB f10)
  (d11:DI K "parting_place" bD f11)
  (d12:DI K "leaf_of" ez f12)
  (d13:DI K "parting_cut" bd f13)
  (d14:DI K "part_pieces" bu f14)
  (d15:DI K "tree_or_knot" bh f15)
  (d16:DI K "_law_class" gm f16)
  (d17:DI K "_law_cell" ji f17)
  (d18:DI K "_law_pot" oM f18)
  (d19:DI K "_law_take" jj f19)
  (d20:DI K "_law_unit" jk f20)
  (d21:DI K "_law_side" jl f21)
  (d22:DI K "_law_worth" gh f22)
  (d23:DI K "_law_shop" jm f23)
  (d24:DI K "_law_sides" gi f24)
  (d25:DI K "_law_lyings" eD f25)
  (d26:DI K "_law_box" oN f26)
  (d27:DI K "_law_apart" gj f27)
  (d28:DI K "_law_fits" gU f28)
  (d29:DI K "_law_scattered" cu f29)
  (d30:DI K "_law_odd" oO f30)
  (d31:DI K "_law_spoilt" eF f31)
  (d32:DI K "_law_is_bad" ff f32)
  (d33:DI K "_law_told" jn f33)
  (d34:DI K "_law_judged" eE f34)
  (d35:DI K "law" jo f35)
  (aC:nsIn K mainGlobals "Shop" = some (some (.ref C)))
  (dm0:MI K C "__init__" "Shop.__init__" cf fm0)
  (dm1:MI K C "blade" "Shop.blade" cq fm1)
  (dm2:MI K C "is_lying" "Shop.is_lying" bL fm2)
  (dm3:MI K C "sides" "Shop.sides" cr fm3)
  (pg:plainGet K C Str.empty=true)
  (hd:hasDictIn K C=true)
  (po:plainOver K C=true)
  (sa:findIn K (.ref C) "__setattr__" = some (some (.builtin "object.__setattr__")))
  (mk:makesIn K C=true)
  (kc:keepIn K (.ref C)=true)
  (n0:findIn K (.ref C) "blade_width" = some none)
  (n1:findIn K (.ref C) "kind_rows" = some none)
  (eWAYS:nsIn K mainGlobals "WAYS" = some (some (.ref xWAYS)))
  (ePlateError:nsIn K mainGlobals "PlateError" = some (some (.ref xPlateError)))
  (eNoPlate:nsIn K mainGlobals "NoPlate" = some (some (.ref xNoPlate)))
  (eNoLaying:nsIn K mainGlobals "NoLaying" = some (some (.ref xNoLaying)))
  (eNoBlade:nsIn K mainGlobals "NoBlade" = some (some (.ref xNoBlade)))
  (eNoKind:nsIn K mainGlobals "NoKind" = some (some (.ref xNoKind)))
  (eNoKinds:nsIn K mainGlobals "NoKinds" = some (some (.ref xNoKinds)))
  (eNoLying:nsIn K mainGlobals "NoLying" = some (some (.ref xNoLying)))
  (eNoNumber:nsIn K mainGlobals "NoNumber" = some (some (.ref xNoNumber)))
  (eNoTable:nsIn K mainGlobals "NoTable" = some (some (.ref xNoTable)))
  (eNoTelling:nsIn K mainGlobals "NoTelling" = some (some (.ref xNoTelling)))
  (eNoText:nsIn K mainGlobals "NoText" = some (some (.ref xNoText)))
  (eNoTree:nsIn K mainGlobals "NoTree" = some (some (.ref xNoTree)))
  (eNoWeights:nsIn K mainGlobals "NoWeights" = some (some (.ref xNoWeights)))
  (eTooLarge:nsIn K mainGlobals "TooLarge" = some (some (.ref xTooLarge)))
  (sysm:(K.lookup sysModules).map (·.cls)=some (.type "dict"))
  (lWAYS:∃ (o:Obj) (its:Array Value) (n:Nat),K.lookup xWAYS=some o∧o.cls=.type "tuple" ∧ o.data=.seq its n∧its.size≤sizeLine∧Vals [.str "down",.str "across"] its.toList)
  (cPlateError:excIn K xPlateError L2.bmVE "ValueError.__new__" = true)
  (cNoPlate:excIn K xNoPlate L2.bmVE "ValueError.__new__" = true)
  (cNoLaying:excIn K xNoLaying L2.bmVE "ValueError.__new__" = true)
  (cNoBlade:excIn K xNoBlade L2.bmVE "ValueError.__new__" = true)
  (cNoKind:excIn K xNoKind L2.bmVE "ValueError.__new__" = true)
  (cNoKinds:excIn K xNoKinds L2.bmVE "ValueError.__new__" = true)
  (cNoLying:excIn K xNoLying L2.bmVE "ValueError.__new__" = true)
  (cNoNumber:excIn K xNoNumber L2.bmVE "ValueError.__new__" = true)
  (cNoTable:excIn K xNoTable L2.bmVE "ValueError.__new__" = true)
  (cNoTelling:excIn K xNoTelling L2.bmVE "ValueError.__new__" = true)
  (cNoText:excIn K xNoText L2.bmVE "ValueError.__new__" = true)
  (cNoTree:excIn K xNoTree L2.bmVE "ValueError.__new__" = true)
  (cNoWeights:excIn K xNoWeights L2.bmVE "ValueError.__new__" = true)
  (cTooLarge:excIn K xTooLarge L2.bmVE "ValueError.__new__" = true)
  (sNoPlatePlateError:subIn K (.ref xNoPlate) (.ref xPlateError)=some true)
  (sNoPlateNoPlate:subIn K (.ref xNoPlate) (.ref xNoPlate)=some true)
  (sNoPlateNoLaying:subIn K (.ref xNoPlate) (.ref xNoLaying)=some false)
  (sNoPlateNoBlade:subIn K (.ref xNoPlate) (.ref xNoBlade)=some false)
  (sNoPlateNoKind:subIn K (.ref xNoPlate) (.ref xNoKind)=some false)
  (sNoPlateNoKinds:subIn K (.ref xNoPlate) (.ref xNoKinds)=some false)
  (sNoPlateNoLying:subIn K (.ref xNoPlate) (.ref xNoLying)=some false)
  (sNoPlateNoNumber:subIn K (.ref xNoPlate) (.ref xNoNumber)=some false)
  (sNoPlateNoTable:subIn K (.ref xNoPlate) (.ref xNoTable)=some false)
  (sNoPlateNoTelling:subIn K (.ref xNoPlate) (.ref xNoTelling)=some false)
  (sNoPlateNoText:subIn K (.ref xNoPlate) (.ref xNoText)=some false)
  (sNoPlateNoTree:subIn K (.ref xNoPlate) (.ref xNoTree)=some false)
  (sNoPlateNoWeights:subIn K (.ref xNoPlate) (.ref xNoWeights)=some false)
  (sNoPlateTooLarge:subIn K (.ref xNoPlate) (.ref xTooLarge)=some false)
  (vNoPlate:subIn K (.ref xNoPlate) (.type "ValueError")=some true)
  (kaNoPlate:findIn K (.ref xNoPlate) "__class__" = some (some (.builtin "object.__class__")))
  (kbNoPlate:findIn K (.ref xNoPlate) "__getattribute__" = some (some (.builtin "BaseException.__getattribute__")))
  (kcNoPlate:findIn K (.ref xNoPlate) "__getattr__" = some none)
  (kdNoPlate:subIn K (.ref xNoPlate) (.type "BaseException")=some true)
  (keNoPlate:subIn K (.ref xNoPlate) (.type "object")=some true)
  (sNoLayingPlateError:subIn K (.ref xNoLaying) (.ref xPlateError)=some true)
  (sNoLayingNoPlate:subIn K (.ref xNoLaying) (.ref xNoPlate)=some false)
  (sNoLayingNoLaying:subIn K (.ref xNoLaying) (.ref xNoLaying)=some true)
  (sNoLayingNoBlade:subIn K (.ref xNoLaying) (.ref xNoBlade)=some false)
  (sNoLayingNoKind:subIn K (.ref xNoLaying) (.ref xNoKind)=some false)
  (sNoLayingNoKinds:subIn K (.ref xNoLaying) (.ref xNoKinds)=some false)
  (sNoLayingNoLying:subIn K (.ref xNoLaying) (.ref xNoLying)=some false)
  (sNoLayingNoNumber:subIn K (.ref xNoLaying) (.ref xNoNumber)=some false)
  (sNoLayingNoTable:subIn K (.ref xNoLaying) (.ref xNoTable)=some false)
  (sNoLayingNoTelling:subIn K (.ref xNoLaying) (.ref xNoTelling)=some false)
  (sNoLayingNoText:subIn K (.ref xNoLaying) (.ref xNoText)=some false)
  (sNoLayingNoTree:subIn K (.ref xNoLaying) (.ref xNoTree)=some false)
  (sNoLayingNoWeights:subIn K (.ref xNoLaying) (.ref xNoWeights)=some false)
  (sNoLayingTooLarge:subIn K (.ref xNoLaying) (.ref xTooLarge)=some false)
  (vNoLaying:subIn K (.ref xNoLaying) (.type "ValueError")=some true)
  (kaNoLaying:findIn K (.ref xNoLaying) "__class__" = some (some (.builtin "object.__class__")))
  (kbNoLaying:findIn K (.ref xNoLaying) "__getattribute__" = some (some (.builtin "BaseException.__getattribute__")))
  (kcNoLaying:findIn K (.ref xNoLaying) "__getattr__" = some none)
  (kdNoLaying:subIn K (.ref xNoLaying) (.type "BaseException")=some true)
  (keNoLaying:subIn K (.ref xNoLaying) (.type "object")=some true)
  (bPlateError:subIn K (.ref xPlateError) (.type "BaseException")=some true)
  (z0:nsIn K mainGlobals "isinstance" = some none)
  (z1:nsIn K mainGlobals "int" = some none)
  (z2:nsIn K mainGlobals "bool" = some none)
  (z3:nsIn K mainGlobals "list" = some none)
  (z4:nsIn K mainGlobals "tuple" = some none)
  (z5:nsIn K mainGlobals "len" = some none)
  (z6:nsIn K mainGlobals "range" = some none)
  (z7:nsIn K mainGlobals "max" = some none)
  (z8:nsIn K mainGlobals "min" = some none)
  (z9:nsIn K mainGlobals "abs" = some none)
  (z10:nsIn K mainGlobals "divmod" = some none)
  (z11:nsIn K mainGlobals "sum" = some none)
  (z12:nsIn K mainGlobals "sorted" = some none)
  (z13:nsIn K mainGlobals "all" = some none)
  (z14:nsIn K mainGlobals "repr" = some none)
  (z15:nsIn K mainGlobals "zip" = some none)
  (z16:nsIn K mainGlobals "enumerate" = some none)
  (z17:nsIn K mainGlobals "str" = some none)
  (z18:nsIn K mainGlobals "ValueError" = some none)
  (uc0:nsIn K mainGlobals "MOST_KINDS" = some (some (.int 8 tc0)))
  (uc1:nsIn K mainGlobals "THINGS_OF_A_KIND" = some (some (.int 5 tc1)))
  (uc2:nsIn K mainGlobals "DOWN" = some (some (.str "down" tc2)))
  (uc3:nsIn K mainGlobals "REST" = some (some (.str "rest" tc3)))
  (uc4:nsIn K mainGlobals "PIECE" = some (some (.str "piece" tc4)))
  (uc5:nsIn K mainGlobals "THINGS_OF_A_PIECE" = some (some (.int 4 tc5)))
  (uc6:nsIn K mainGlobals "TREE" = some (some (.str "tree" tc6)))
  (uc7:nsIn K mainGlobals "KNOT" = some (some (.str "knot" tc7))) :
  ∃fd:FuncData,(∀ (s:Shared) (v:Value),BindsTo s fd ⟨[v],[]⟩ [("_law_script",v)])∧∀base:Heap,K.In base→base.Ns mainGlobals mg→FnOk l.prog w K mg base CX0 20 fa fd ["_law_script"] (lX K):=by
 obtain ⟨_,_,_,_,_,_,_,_,_,a0,l0,c0,k0⟩:=d0
 obtain ⟨_,_,_,_,_,_,_,_,_,a1,l1,c1,k1⟩:=d1
 obtain ⟨_,_,_,_,_,_,_,_,_,a2,l2,c2,k2⟩:=d2
 obtain ⟨_,_,_,_,_,_,_,_,_,a3,l3,c3,k3⟩:=d3
 obtain ⟨_,_,_,_,_,_,_,_,_,a4,l4,c4,k4⟩:=d4
 obtain ⟨_,_,_,_,_,_,_,_,_,a5,l5,c5,k5⟩:=d5
 obtain ⟨_,_,_,_,_,_,_,_,_,a6,l6,c6,k6⟩:=d6
 obtain ⟨_,_,_,_,_,_,_,_,_,a7,l7,c7,k7⟩:=d7
 obtain ⟨_,_,_,_,_,_,_,_,_,a8,l8,c8,k8⟩:=d8
 obtain ⟨_,_,_,_,_,_,_,_,_,a9,l9,c9,k9⟩:=d9
 obtain ⟨_,_,_,_,_,_,_,_,_,a10,l10,c10,k10⟩:=d10
 obtain ⟨_,_,_,_,_,_,_,_,_,a11,l11,c11,k11⟩:=d11
 obtain ⟨_,_,_,_,_,_,_,_,_,a12,l12,c12,k12⟩:=d12
 obtain ⟨_,_,_,_,_,_,_,_,_,a13,l13,c13,k13⟩:=d13
 obtain ⟨_,_,_,_,_,_,_,_,_,a14,l14,c14,k14⟩:=d14
 obtain ⟨_,_,_,_,_,_,_,_,_,a15,l15,c15,k15⟩:=d15
 obtain ⟨_,_,_,_,_,_,_,_,_,a16,l16,c16,k16⟩:=d16
 obtain ⟨_,_,_,_,_,_,_,_,_,a17,l17,c17,k17⟩:=d17
 obtain ⟨_,_,_,_,_,_,_,_,_,a18,l18,c18,k18⟩:=d18
 obtain ⟨_,_,_,_,_,_,_,_,_,a19,l19,c19,k19⟩:=d19
 obtain ⟨_,_,_,_,_,_,_,_,_,a20,l20,c20,k20⟩:=d20
 obtain ⟨_,_,_,_,_,_,_,_,_,a21,l21,c21,k21⟩:=d21
 obtain ⟨_,_,_,_,_,_,_,_,_,a22,l22,c22,k22⟩:=d22
 obtain ⟨_,_,_,_,_,_,_,_,_,a23,l23,c23,k23⟩:=d23
 obtain ⟨_,_,_,_,_,_,_,_,_,a24,l24,c24,k24⟩:=d24
 obtain ⟨_,_,_,_,_,_,_,_,_,a25,l25,c25,k25⟩:=d25
 obtain ⟨_,_,_,_,_,_,_,_,_,a26,l26,c26,k26⟩:=d26
 obtain ⟨_,_,_,_,_,_,_,_,_,a27,l27,c27,k27⟩:=d27
 obtain ⟨_,_,_,_,_,_,_,_,_,a28,l28,c28,k28⟩:=d28
 obtain ⟨_,_,_,_,_,_,_,_,_,a29,l29,c29,k29⟩:=d29
 obtain ⟨_,_,_,_,_,_,_,_,_,a30,l30,c30,k30⟩:=d30
 obtain ⟨_,_,_,_,_,_,_,_,_,a31,l31,c31,k31⟩:=d31
 obtain ⟨_,_,_,_,_,_,_,_,_,a32,l32,c32,k32⟩:=d32
 obtain ⟨_,_,_,_,_,_,_,_,_,a33,l33,c33,k33⟩:=d33
 obtain ⟨_,_,_,_,_,_,_,_,_,a34,l34,c34,k34⟩:=d34
 obtain ⟨_,an,_,_,kV,dc,pm,cd,ct,a35,l35,c35,k35⟩:=d35
 obtain ⟨_,_,_,_,_,_,_,_,_,am0,im0,lm0,cm0,km0⟩:=dm0
 obtain ⟨_,_,_,_,_,_,_,_,_,am1,im1,lm1,cm1,km1⟩:=dm1
 obtain ⟨_,_,_,_,_,_,_,_,_,am2,im2,lm2,cm2,km2⟩:=dm2
 obtain ⟨_,_,_,_,_,_,_,_,_,am3,im3,lm3,cm3,km3⟩:=dm3
 have e:=hfa.symm.trans (mg_of X G a35)
 cases e
 have F0:=aJ (st:=gf) l0 c0 k0
 have b0:=F0.binds (ps:=["thing","least"]) fun _ _ _ _ _ _ us hl=>by obtain ⟨_,_,rfl⟩:=dR hl; rfl
 have F1:=aJ (st:=gg) l1 c1 k1
 have b1:=F1.binds (ps:=["thing"]) fun _ _ _ _ _ _ us hl=>by obtain ⟨_,rfl⟩:=gB hl; rfl
 have F2:=aJ (st:=oK) l2 c2 k2
 have b2:=F2.binds (ps:=["thing"]) fun _ _ _ _ _ _ us hl=>by obtain ⟨_,rfl⟩:=gB hl; rfl
 have F3:=aJ (st:=eA) l3 c3 k3
 have b3:=F3.binds (ps:=["thing"]) fun _ _ _ _ _ _ us hl=>by obtain ⟨_,rfl⟩:=gB hl; rfl
 have F4:=aJ (st:=eC) l4 c4 k4
 have b4:=F4.binds (ps:=["kind"]) fun _ _ _ _ _ _ us hl=>by obtain ⟨_,rfl⟩:=gB hl; rfl
 have F5:=aJ (st:=br) l5 c5 k5
 have b5:=F5.binds (ps:=["wide","high"]) fun _ _ _ _ _ _ us hl=>by obtain ⟨_,_,rfl⟩:=dR hl; rfl
 have F6:=aJ (st:=el) l6 c6 k6
 have b6:=F6.binds (ps:=["shop","wide","high","kind","turned","x","y"]) fun _ _ _ _ _ _ us hl=>by obtain ⟨_,_,_,_,_,_,_,rfl⟩:=Dm hl; rfl
 have F7:=aJ (st:=jf) l7 c7 k7
 have b7:=F7.binds (ps:=["one","other"]) fun _ _ _ _ _ _ us hl=>by obtain ⟨_,_,rfl⟩:=dR hl; rfl
 have F8:=aJ (st:=dk) l8 c8 k8
 have b8:=F8.binds (ps:=["shop","piece"]) fun _ _ _ _ _ _ us hl=>by obtain ⟨_,_,rfl⟩:=dR hl; rfl
 have F9:=aJ (st:=cL) l9 c9 k9
 have b9:=F9.binds (ps:=["shop","wide","high","thing"]) fun _ _ _ _ _ _ us hl=>by obtain ⟨_,_,_,_,rfl⟩:=kD hl; rfl
 have F10:=aJ (st:=bB) l10 c10 k10
 have b10:=F10.binds (ps:=["shop","wide","high","thing"]) fun _ _ _ _ _ _ us hl=>by obtain ⟨_,_,_,_,rfl⟩:=kD hl; rfl
 have F11:=aJ (st:=bD) l11 c11 k11
 have b11:=F11.binds (ps:=["blade","spans"]) fun _ _ _ _ _ _ us hl=>by obtain ⟨_,_,rfl⟩:=dR hl; rfl
 have F12:=aJ (st:=ez) l12 c12 k12
 have b12:=F12.binds (ps:=["x","y","pieces"]) fun _ _ _ _ _ _ us hl=>by obtain ⟨_,_,_,rfl⟩:=jw hl; rfl
 have F13:=aJ (st:=bd) l13 c13 k13
 have b13:=F13.binds (ps:=["shop","pieces"]) fun _ _ _ _ _ _ us hl=>by obtain ⟨_,_,rfl⟩:=dR hl; rfl
 have F14:=aJ (st:=bu) l14 c14 k14
 have b14:=F14.binds (ps:=["shop","x","y","pieces"]) fun _ _ _ _ _ _ us hl=>by obtain ⟨_,_,_,_,rfl⟩:=kD hl; rfl
 have F15:=aJ (st:=bh) l15 c15 k15
 have b15:=F15.binds (ps:=["shop","wide","high","laying"]) fun _ _ _ _ _ _ us hl=>by obtain ⟨_,_,_,_,rfl⟩:=kD hl; rfl
 have F16:=aJ (st:=gm) l16 c16 k16
 have b16:=F16.binds (ps:=["_law_e"]) fun _ _ _ _ _ _ us hl=>by obtain ⟨_,rfl⟩:=gB hl; rfl
 have F17:=aJ (st:=ji) l17 c17 k17
 have b17:=F17.binds (ps:=["_law_script","_law_k"]) fun _ _ _ _ _ _ us hl=>by obtain ⟨_,_,rfl⟩:=dR hl; rfl
 have F18:=aJ (st:=oM) l18 c18 k18
 have b18:=F18.binds (ps:=["_law_cell_here","_law_k"]) fun _ _ _ _ _ _ us hl=>by obtain ⟨_,_,rfl⟩:=dR hl; rfl
 have F19:=aJ (st:=jj) l19 c19 k19
 have b19:=F19.binds (ps:=["_law_pot_here","_law_many"]) fun _ _ _ _ _ _ us hl=>by obtain ⟨_,_,rfl⟩:=dR hl; rfl
 have F20:=aJ (st:=jk) l20 c20 k20
 have b20:=F20.binds (ps:=["_law_pot_here"]) fun _ _ _ _ _ _ us hl=>by obtain ⟨_,rfl⟩:=gB hl; rfl
 have F21:=aJ (st:=jl) l21 c21 k21
 have b21:=F21.binds (ps:=["_law_pot_here","_law_unit_here","_law_most"]) fun _ _ _ _ _ _ us hl=>by obtain ⟨_,_,_,rfl⟩:=jw hl; rfl
 have F22:=aJ (st:=gh) l22 c22 k22
 have b22:=F22.binds (ps:=["_law_pot_here"]) fun _ _ _ _ _ _ us hl=>by obtain ⟨_,rfl⟩:=gB hl; rfl
 have F23:=aJ (st:=jm) l23 c23 k23
 have b23:=F23.binds (ps:=["_law_pot_here","_law_unit_here"]) fun _ _ _ _ _ _ us hl=>by obtain ⟨_,_,rfl⟩:=dR hl; rfl
 have F24:=aJ (st:=gi) l24 c24 k24
 have b24:=F24.binds (ps:=["_law_shop_here","_law_kind","_law_turned"]) fun _ _ _ _ _ _ us hl=>by obtain ⟨_,_,_,rfl⟩:=jw hl; rfl
 have F25:=aJ (st:=eD) l25 c25 k25
 have b25:=F25.binds (ps:=["_law_shop_here"]) fun _ _ _ _ _ _ us hl=>by obtain ⟨_,rfl⟩:=gB hl; rfl
 have F26:=aJ (st:=oN) l26 c26 k26
 have b26:=F26.binds (ps:=["_law_shop_here","_law_piece"]) fun _ _ _ _ _ _ us hl=>by obtain ⟨_,_,rfl⟩:=dR hl; rfl
 have F27:=aJ (st:=gj) l27 c27 k27
 have b27:=F27.binds (ps:=["_law_one","_law_other"]) fun _ _ _ _ _ _ us hl=>by obtain ⟨_,_,rfl⟩:=dR hl; rfl
 have F28:=aJ (st:=gU) l28 c28 k28
 have b28:=F28.binds (ps:=["_law_shop_here","_law_wide","_law_high","_law_pieces","_law_piece"]) fun _ _ _ _ _ _ us hl=>by obtain ⟨_,_,_,_,_,rfl⟩:=Dj hl; rfl
 have F29:=aJ (st:=cu) l29 c29 k29
 have b29:=F29.binds (ps:=["_law_pot_here","_law_shop_here","_law_wide","_law_high","_law_pieces","_law_many"]) fun _ _ _ _ _ _ us hl=>by obtain ⟨_,_,_,_,_,_,rfl⟩:=Dk hl; rfl
 have F30:=aJ (st:=oO) l30 c30 k30
 have b30:=F30.binds (ps:=["_law_pot_here"]) fun _ _ _ _ _ _ us hl=>by obtain ⟨_,rfl⟩:=gB hl; rfl
 have F31:=aJ (st:=eF) l31 c31 k31
 have b31:=F31.binds (ps:=["_law_pot_here","_law_pieces"]) fun _ _ _ _ _ _ us hl=>by obtain ⟨_,_,rfl⟩:=dR hl; rfl
 have F32:=aJ (st:=ff) l32 c32 k32
 have b32:=F32.binds (ps:=["_law_shop_here","_law_wide","_law_high","_law_thing"]) fun _ _ _ _ _ _ us hl=>by obtain ⟨_,_,_,_,rfl⟩:=kD hl; rfl
 have F33:=aJ (st:=jn) l33 c33 k33
 have b33:=F33.binds (ps:=["_law_made","_law_wide","_law_high","_law_thing"]) fun _ _ _ _ _ _ us hl=>by obtain ⟨_,_,_,_,rfl⟩:=kD hl; rfl
 have F34:=aJ (st:=eE) l34 c34 k34
 have b34:=F34.binds (ps:=["_law_made","_law_wide","_law_high","_law_thing"]) fun _ _ _ _ _ _ us hl=>by obtain ⟨_,_,_,_,rfl⟩:=kD hl; rfl
 have F35:=aJ (st:=jo) l35 c35 k35
 have b35:=F35.binds (ps:=["_law_script"]) fun _ _ _ _ _ _ us hl=>by obtain ⟨_,rfl⟩:=gB hl; rfl
 have Fm0:=aJ (st:=cf) lm0 cm0 km0
 have bm0:=Fm0.binds (ps:=["self","blade","kinds"]) fun _ _ _ _ _ _ us hl=>by obtain ⟨_,_,_,rfl⟩:=jw hl; rfl
 have Fm1:=aJ (st:=cq) lm1 cm1 km1
 have bm1:=Fm1.binds (ps:=["self"]) fun _ _ _ _ _ _ us hl=>by obtain ⟨_,rfl⟩:=gB hl; rfl
 have Fm2:=aJ (st:=bL) lm2 cm2 km2
 have bm2:=Fm2.binds (ps:=["self","kind","turned"]) fun _ _ _ _ _ _ us hl=>by obtain ⟨_,_,_,rfl⟩:=jw hl; rfl
 have Fm3:=aJ (st:=cr) lm3 cm3 km3
 have bm3:=Fm3.binds (ps:=["self","kind","turned"]) fun _ _ _ _ _ _ us hl=>by obtain ⟨_,_,_,rfl⟩:=jw hl; rfl
 have y0:=mg_none_of X G z0
 have y1:=mg_none_of X G z1
 have y2:=mg_none_of X G z2
 have y3:=mg_none_of X G z3
 have y4:=mg_none_of X G z4
 have y5:=mg_none_of X G z5
 have y6:=mg_none_of X G z6
 have y7:=mg_none_of X G z7
 have y8:=mg_none_of X G z8
 have y9:=mg_none_of X G z9
 have y10:=mg_none_of X G z10
 have y11:=mg_none_of X G z11
 have y12:=mg_none_of X G z12
 have y13:=mg_none_of X G z13
 have y14:=mg_none_of X G z14
 have y15:=mg_none_of X G z15
 have y16:=mg_none_of X G z16
 have y17:=mg_none_of X G z17
 have y18:=mg_none_of X G z18
 have gWAYS:=mg_of X G eWAYS
 have gPlateError:=mg_of X G ePlateError
 have gNoPlate:=mg_of X G eNoPlate
 have gNoLaying:=mg_of X G eNoLaying
 have gNoBlade:=mg_of X G eNoBlade
 have gNoKind:=mg_of X G eNoKind
 have gNoKinds:=mg_of X G eNoKinds
 have gNoLying:=mg_of X G eNoLying
 have gNoNumber:=mg_of X G eNoNumber
 have gNoTable:=mg_of X G eNoTable
 have gNoTelling:=mg_of X G eNoTelling
 have gNoText:=mg_of X G eNoText
 have gNoTree:=mg_of X G eNoTree
 have gNoWeights:=mg_of X G eNoWeights
 have gTooLarge:=mg_of X G eTooLarge
 have u0:=mg_of X G uc0
 have u1:=mg_of X G uc1
 have u2:=mg_of X G uc2
 have u3:=mg_of X G uc3
 have u4:=mg_of X G uc4
 have u5:=mg_of X G uc5
 have u6:=mg_of X G uc6
 have u7:=mg_of X G uc7
 have q0:=mg_of X G a0
 have q1:=mg_of X G a1
 have q2:=mg_of X G a2
 have q3:=mg_of X G a3
 have q4:=mg_of X G a4
 have q5:=mg_of X G a5
 have q6:=mg_of X G a6
 have q7:=mg_of X G a7
 have q8:=mg_of X G a8
 have q9:=mg_of X G a9
 have q10:=mg_of X G a10
 have q11:=mg_of X G a11
 have q12:=mg_of X G a12
 have q13:=mg_of X G a13
 have q14:=mg_of X G a14
 have q15:=mg_of X G a15
 have q16:=mg_of X G a16
 have q17:=mg_of X G a17
 have q18:=mg_of X G a18
 have q19:=mg_of X G a19
 have q20:=mg_of X G a20
 have q21:=mg_of X G a21
 have q22:=mg_of X G a22
 have q23:=mg_of X G a23
 have q24:=mg_of X G a24
 have q25:=mg_of X G a25
 have q26:=mg_of X G a26
 have q27:=mg_of X G a27
 have q28:=mg_of X G a28
 have q29:=mg_of X G a29
 have q30:=mg_of X G a30
 have q31:=mg_of X G a31
 have q32:=mg_of X G a32
 have q33:=mg_of X G a33
 have q34:=mg_of X G a34
 have q35:=mg_of X G a35
 have qC:=mg_of X G aC
 refine ⟨fnOf "law" "law" (defArgs jo) (defBody jo) (defScope jo) .none kV dc pm an cd ct,fun s v=>.of_eq rfl,fun base _ _=>?_⟩
 have B:Blt mg:=⟨y0,y1,y2,y3,y4,y5,y6,y7,y8,y9,y10,y11,y12,y13,y14,y15,y16,⟨_,u0⟩,⟨_,u1⟩⟩
 have T:ShopTxt K C:=⟨⟨pg,hd,po,sa⟩,n0,n1⟩
 have SM:L2.SysIn K:=by
  cases e:K.lookup sysModules with
  | none=>rw [e] at sysm; cases sysm
  | some o=>rw [e] at sysm; exact ⟨o,e,Option.some.inj sysm⟩
 have D0:Dn l.prog w K mg base "is_whole" ["thing","least"] 1 (cz K):=⟨_,_,oP F0 B,b0,k0,q0⟩
 have D1:Dn l.prog w K mg base "is_truth" ["thing"] 1 (fB K):=⟨_,_,oQ F1 B,b1,k1,q1⟩
 have D2:Dn l.prog w K mg base "is_row" ["thing"] 1 (gL K):=⟨_,_,tF F2 B,b2,k2,q2⟩
 have D3:Dn l.prog w K mg base "is_kind" ["thing"] 2 (ef K):=⟨_,_,mE F3 B D0 D1 D2,b3,k3,q3⟩
 have D4:Dn l.prog w K mg base "can_lie_turned" ["kind"] 1 (fU K):=⟨_,_,mF F4,b4,k4,q4⟩
 have MB:Mn l.prog w K mg base C "blade" ["self"] 1 (eg C):=⟨_,_,oR Fm1 T,bm1,⟨am1,im1,km1⟩⟩
 have MI:Mn l.prog w K mg base C "is_lying" ["self","kind","turned"] 2 (dB K C):=⟨_,_,kf Fm2 B T D0 D1 D4,bm2,⟨am2,im2,km2⟩⟩
 have MS:Mn l.prog w K mg base C "sides" ["self","kind","turned"] 3 (fC K C):=⟨_,_,oU Fm3 T MI,bm3,⟨am3,im3,km3⟩⟩
 have DS:Kn l.prog w K mg base "Shop" C ["self","blade","kinds"] 3 (jQ C):=⟨_,_,⟨mk,am0,im0,kc⟩,qL Fm0 B T D0 D2 D3,bm0,qC⟩
 have D5:Dn l.prog w K mg base "check_plate" ["wide","high"] 2 (tK):=⟨_,_,mL F5 D0,b5,k5,q5⟩
 have D6:Dn l.prog w K mg base "lies_in" ["shop","wide","high","kind","turned","x","y"] 4 (iq K C):=⟨_,_,oW F6 T D0 MI MS,b6,k6,q6⟩
 have D7:Dn l.prog w K mg base "meet" ["one","other"] 1 (kn):=⟨_,_,qS F7,b7,k7,q7⟩
 have D8:Dn l.prog w K mg base "spans_of" ["shop","piece"] 4 (fF C):=⟨_,_,pb F8 T MS,b8,k8,q8⟩
 have D9:Dn l.prog w K mg base "is_placed" ["shop","wide","high","thing"] 5 (gr C):=⟨_,_,mK F9 B u5 D2 D6,b9,k9,q9⟩
 have D10:Dn l.prog w K mg base "is_laying" ["shop","wide","high","thing"] 6 (eH C):=⟨_,_,jr F10 B D5 D2 D9 D8 D7,b10,k10,q10⟩
 have D11:Dn l.prog w K mg base "parting_place" ["blade","spans"] 1 (ix):=⟨_,_,pe F11 B,b11,k11,q11⟩
 have D12:Dn l.prog w K mg base "leaf_of" ["x","y","pieces"] 1 (eJ):=⟨_,_,mM F12 u3 u4,b12,k12,q12⟩
 have D13:Dn l.prog w K mg base "parting_cut" ["shop","pieces"] 5 (iy C):=⟨_,_,qU F13 B T gWAYS (fun H=>.inr lWAYS) MB D8 D11,b13,k13,q13⟩
 have D14:Dn l.prog w K mg base "part_pieces" ["shop","x","y","pieces"] 17 (dm C 12):=⟨_,_,js F14 B T u6 u7 u2 MB D12 D13 (fun n h=>⟨_,_,h,b14,k14,q14⟩) 12,b14,k14,q14⟩
 have XCP:L2.DnX l.prog w K mg base "check_plate" ["wide","high"] 2 (pj K xNoPlate):=⟨_,_,ku F5 gNoPlate cNoPlate D0,b5,k5,q5⟩
 have XIP:L2.DnX l.prog w K mg base "is_laying" ["shop","wide","high","thing"] 3 (dq K xNoPlate):=⟨_,_,gX F10 XCP,b10,k10,q10⟩
 have XIL:L2.DnX l.prog w K mg base "is_laying" ["shop","wide","high","thing"] 6 (fun vs H Q E=>eH C vs H Q E∨dq K xNoPlate vs H Q E):=⟨_,_,FnOk.or (FnOk.weak (jr F10 B D5 D2 D9 D8 D7)) (FnOk.mono (gX F10 XCP) (by decide)),b10,k10,q10⟩
 have XTK:L2.DnX l.prog w K mg base "tree_or_knot" ["shop","wide","high","laying"] 18 (fun vs H Q E=>tM C xNoLaying vs H Q E∨dq K xNoPlate vs H Q E):=⟨_,_,FnOk.or (xH F15 B gNoLaying cNoLaying D10 D14) (FnOk.mono (tN F15 XIP) (by decide)),b15,k15,q15⟩
 have ZC:Cl mg xNoPlate xNoLaying xNoBlade xNoKind xNoKinds xNoLying xNoNumber xNoTable xNoTelling xNoText xNoTree xNoWeights xTooLarge:=⟨gNoPlate,gNoLaying,gNoBlade,gNoKind,gNoKinds,gNoLying,gNoNumber,gNoTable,gNoTelling,gNoText,gNoTree,gNoWeights,gTooLarge,y18⟩
 have XNoPlate:ExK K xNoPlate:=⟨kaNoPlate,kbNoPlate,kcNoPlate,kdNoPlate,keNoPlate,(ij cNoPlate).1⟩
 have Y0:Ec K xPlateError xNoPlate xNoPlate xNoLaying xNoBlade xNoKind xNoKinds xNoLying xNoNumber xNoTable xNoTelling xNoText xNoTree xNoWeights xTooLarge true false:=⟨XNoPlate,iZ,(aV sNoPlateNoPlate cNoLaying sNoPlateNoLaying),oB vNoPlate,(aE (aV sNoPlateNoPlate cNoBlade sNoPlateNoBlade) (aE (aV sNoPlateNoPlate cNoKind sNoPlateNoKind) (aE (aV sNoPlateNoPlate cNoKinds sNoPlateNoKinds) (aE (aV sNoPlateNoPlate cNoLying sNoPlateNoLying) (aE (aV sNoPlateNoPlate cNoNumber sNoPlateNoNumber) (aE (aV sNoPlateNoPlate cNoTable sNoPlateNoTable) (aE (aV sNoPlateNoPlate cNoTelling sNoPlateNoTelling) (aE (aV sNoPlateNoPlate cNoText sNoPlateNoText) cQ)))))))),(aE (aV sNoPlateNoPlate cNoTree sNoPlateNoTree) (aE (aV sNoPlateNoPlate cNoWeights sNoPlateNoWeights) (aE (aV sNoPlateNoPlate cTooLarge sNoPlateTooLarge) cQ))),oC cPlateError bPlateError sNoPlatePlateError⟩
 have XNoLaying:ExK K xNoLaying:=⟨kaNoLaying,kbNoLaying,kcNoLaying,kdNoLaying,keNoLaying,(ij cNoLaying).1⟩
 have Y1:Ec K xPlateError xNoLaying xNoPlate xNoLaying xNoBlade xNoKind xNoKinds xNoLying xNoNumber xNoTable xNoTelling xNoText xNoTree xNoWeights xTooLarge false true:=⟨XNoLaying,(aV sNoLayingNoLaying cNoPlate sNoLayingNoPlate),iZ,oB vNoLaying,(aE (aV sNoLayingNoLaying cNoBlade sNoLayingNoBlade) (aE (aV sNoLayingNoLaying cNoKind sNoLayingNoKind) (aE (aV sNoLayingNoLaying cNoKinds sNoLayingNoKinds) (aE (aV sNoLayingNoLaying cNoLying sNoLayingNoLying) (aE (aV sNoLayingNoLaying cNoNumber sNoLayingNoNumber) (aE (aV sNoLayingNoLaying cNoTable sNoLayingNoTable) (aE (aV sNoLayingNoLaying cNoTelling sNoLayingNoTelling) (aE (aV sNoLayingNoLaying cNoText sNoLayingNoText) cQ)))))))),(aE (aV sNoLayingNoLaying cNoTree sNoLayingNoTree) (aE (aV sNoLayingNoLaying cNoWeights sNoLayingNoWeights) (aE (aV sNoLayingNoLaying cTooLarge sNoLayingTooLarge) cQ))),oC cPlateError bPlateError sNoLayingPlateError⟩
 have DCl:L2.DnH l.prog w K mg base "_law_class" ["_law_e"] 1 (fun vs H Q E=>gy xNoPlate "plate" vs H Q E∨gy xNoLaying "laying" vs H Q E):=⟨_,_,FnH.or (jt F16 B ZC Y0 (.inl ⟨rfl,rfl,rfl⟩)) (jt F16 B ZC Y1 (.inr ⟨rfl,rfl,rfl⟩)),b16,k16,q16⟩
 have D17:Dn l.prog w K mg base "_law_cell" ["_law_script","_law_k"] 1 (jU K):=⟨_,_,qN F17 B,b17,k17,q17⟩
 have D18:Dn l.prog w K mg base "_law_pot" ["_law_cell_here","_law_k"] 1 (kg):=⟨_,_,qO F18 B,b18,k18,q18⟩
 have D19:Dn l.prog w K mg base "_law_take" ["_law_pot_here","_law_many"] 1 (cG):=⟨_,_,qQ F19 B,b19,k19,q19⟩
 have D20:Dn l.prog w K mg base "_law_unit" ["_law_pot_here"] 2 (kh):=⟨_,_,qR F20 B D19,b20,k20,q20⟩
 have D21:Dn l.prog w K mg base "_law_side" ["_law_pot_here","_law_unit_here","_law_most"] 2 (fD):=⟨_,_,mH F21 B D19,b21,k21,q21⟩
 have D22:Dn l.prog w K mg base "_law_worth" ["_law_pot_here"] 2 (gn):=⟨_,_,mI F22 B D19,b22,k22,q22⟩
 have D23:Dn l.prog w K mg base "_law_shop" ["_law_pot_here","_law_unit_here"] 3 (ir):=⟨_,_,oX F23 B D19 D21 D22,b23,k23,q23⟩
 have D24:Dn l.prog w K mg base "_law_sides" ["_law_shop_here","_law_kind","_law_turned"] 1 (gq):=⟨_,_,mJ F24 B,b24,k24,q24⟩
 have D25:Dn l.prog w K mg base "_law_lyings" ["_law_shop_here"] 1 (dD):=⟨_,_,kj F25 B,b25,k25,q25⟩
 have D26:Dn l.prog w K mg base "_law_box" ["_law_shop_here","_law_piece"] 2 (lQ):=⟨_,_,tH F26 B D24,b26,k26,q26⟩
 have D27:Dn l.prog w K mg base "_law_apart" ["_law_one","_law_other"] 1 (iu):=⟨_,_,oY F27,b27,k27,q27⟩
 have D28:Dn l.prog w K mg base "_law_fits" ["_law_shop_here","_law_wide","_law_high","_law_pieces","_law_piece"] 3 (fE):=⟨_,_,oZ F28 B D26 D27,b28,k28,q28⟩
 have D29:Dn l.prog w K mg base "_law_scattered" ["_law_pot_here","_law_shop_here","_law_wide","_law_high","_law_pieces","_law_many"] 4 (kq):=⟨_,_,qT F29 B D19 D25 D26 D28,b29,k29,q29⟩
 have D30:Dn l.prog w K mg base "_law_odd" ["_law_pot_here"] 2 (pF):=⟨_,_,qX F30 B D19,b30,k30,q30⟩
 have D31:Dn l.prog w K mg base "_law_spoilt" ["_law_pot_here","_law_pieces"] 3 (gz):=⟨_,_,kB F31 B D19 D30,b31,k31,q31⟩
 have D32:Dn l.prog w K mg base "_law_is_bad" ["_law_shop_here","_law_wide","_law_high","_law_thing"] 4 (pJ):=⟨_,_,re F32 B D25 D28,b32,k32,q32⟩
 have D33:Dn l.prog w K mg base "_law_told" ["_law_made","_law_wide","_law_high","_law_thing"] 19 (iz K C):=⟨_,_,pk F33 Y0 Y1 gPlateError DCl XTK,b33,k33,q33⟩
 have D34:Dn l.prog w K mg base "_law_judged" ["_law_made","_law_wide","_law_high","_law_thing"] 7 (kx K C):=⟨_,_,pw F34 Y0 Y1 gPlateError DCl XIL,b34,k34,q34⟩
 exact tT F35 B SM D17 D18 D19 D20 D23 D21 D29 D31 D32 D33 D34 DS
theorem walk {l:PySem.W.OpenLaw} {q:Program} {loose:List Str} {XP:(Str→Option Value)→Heap→Prop} {YP:World→Heap→Prop} {d:DefRec} {K:Params→PySem.W.Frag} (hn:l.most=some 63) (hdf:d.params.defaults=[])
  (hY:∀ (w:World) (h:Heap),YP w h→(K w.params).In h)
  (F:∀ (w:World) (mg:Str→Option Value) (fa:Addr) (h:Heap),(K w.params).In h→h.Ns mainGlobals mg→mg d.name=some (.ref fa) →
   ∃fd:FuncData,(∀ (s:Shared) (u:Value),BindsTo s fd ⟨[u],[]⟩ [("_law_script",u)])∧∀base:Heap,(K w.params).In base→base.Ns mainGlobals mg→FnOk l.prog w (K w.params) mg base CX0 20 fa fd ["_law_script"] (lX (K w.params))) :
  PySem.W.WalkO q loose XP YP l.row.toRowW d [] (fun f vs=>PySem.call f vs) :=
 L2.walk_of (n:=63) (k:=20) (x := "_law_script") (CX:=fun _=>CX0) (sp:=fun w=>lX (K w.params)) hn (by decide) hdf ⟨rfl,by decide,by decide,rfl⟩ hY F (fun _ _ a ns hl _ hS=>⟨a,ns,rfl,hS,hl,fun _=>rfl⟩) fun _ _ _ _ _ z=>z
end Pc
namespace Pc
open PySem L2
section
open PySem.W
noncomputable def kE (P:Params) (n:Str) (t:Nat) (v:Value):DictEntry:=⟨PyData.keyHash P n,.str n t,v⟩
noncomputable def kO3 (P:Params):Obj:=⟨(.type "dict"),none,(.dict #[kE P "__name__" 165 (.str "law_platecuts_k36_layings_refused" 682),kE P "__doc__" 166 .none,kE P "__package__" 167 .none,kE P "__loader__" 168 (.builtin "__main__.__loader__#opaque"),kE P "__spec__" 169 .none,kE P "__annotations__" 170 (.ref 6),kE P "__builtins__" 171 (.ref 4),kE P "__file__" 173 (.str "/claim/cut.py" 172),kE P "__cached__" 174 .none,kE P "_wall" 193 (.ref 21),kE P "PlateError" 213 (.ref 31),kE P "NoBlade" 229 (.ref 44),kE P "NoKinds" 245 (.ref 56),kE P "NoKind" 261 (.ref 68),kE P "NoLying" 277 (.ref 80),kE P "NoText" 293 (.ref 92),kE P "NoPlate" 309 (.ref 104),kE P "NoTree" 325 (.ref 116),kE P "NoLaying" 341 (.ref 128),kE P "TooLarge" 357 (.ref 140),kE P "NoTable" 373 (.ref 152),kE P "NoNumber" 389 (.ref 164),kE P "NoWeights" 405 (.ref 176),kE P "NoTelling" 421 (.ref 188),kE P "is_whole" 431 (.ref 197),kE P "is_truth" 438 (.ref 204),kE P "is_row" 445 (.ref 211),kE P "check_plate" 453 (.ref 218),kE P "DOWN" 457 (.str "down" 456),kE P "ACROSS" 459 (.str "across" 458),kE P "WAYS" 460 (.ref 219),kE P "lies_in" 475 (.ref 226),kE P "THINGS_OF_A_PIECE" 479 (.int 4 478),kE P "is_placed" 489 (.ref 233),kE P "spans_of" 503 (.ref 240),kE P "meet" 511 (.ref 247),kE P "is_laying" 517 (.ref 252),kE P "REST" 519 (.str "rest" 518),kE P "PIECE" 521 (.str "piece" 520),kE P "TREE" 525 (.str "tree" 524),kE P "KNOT" 527 (.str "knot" 526),kE P "parting_place" 539 (.ref 259),kE P "parting_cut" 545 (.ref 264),kE P "leaf_of" 558 (.ref 271),kE P "part_pieces" 576 (.ref 278),kE P "tree_or_knot" 582 (.ref 283),kE P "MOST_KINDS" 586 (.int 8 585),kE P "THINGS_OF_A_KIND" 588 (.int 5 587),kE P "is_kind" 600 (.ref 290),kE P "can_lie_turned" 607 (.ref 297),kE P "Shop" 681 (.ref 352),kE P "_law_cell" 691 (.ref 363),kE P "_law_pot" 699 (.ref 370),kE P "_law_take" 708 (.ref 377),kE P "_law_unit" 716 (.ref 384),kE P "_law_side" 725 (.ref 391),kE P "_law_worth" 733 (.ref 398),kE P "_law_shop" 746 (.ref 405),kE P "_law_sides" 757 (.ref 412),kE P "_law_lyings" 767 (.ref 419),kE P "_law_box" 776 (.ref 426),kE P "_law_apart" 784 (.ref 433),kE P "_law_fits" 790 (.ref 438),kE P "_law_scattered" 810 (.ref 445),kE P "_law_class" 819 (.ref 452),kE P "_law_told" 831 (.ref 459),kE P "_law_judged" 843 (.ref 466),kE P "_law_odd" 851 (.ref 473),kE P "_law_is_bad" 857 (.ref 478),kE P "_law_spoilt" 870 (.ref 485),kE P "law" 892 (.ref 492)] 71),#[]⟩
noncomputable def gk0 (x0:Str)(x1:Nat)(x2:Str)(x3 x4 x5 x6 x7 x8 x9 x10 x11 x12 x13:Nat)(P:Params):Obj:=⟨(.type "code"),none,(.fields #[.str x0 x1,.str x2 x3,.str "/claim/cut.py" x4,.int x5 0,.int x6 0,.int 0 0,.int 0 0,.int 3 0,.ref x7,.bool true,.int 181 0,.ref x8,.none,.ref x9,.ref x10,.ref x11,.int x12 0,.int x5 0,.str "/claim/cut.py" x13]),#[]⟩
noncomputable def Do:=gk0 "_wall" 187 "_wall" 188 189 1 1 15 16 17 18 19 191 192
noncomputable def gk1 (x0 x1:Str)(x2:Stmt)(x3:Str)(x4 x5:Nat)(P:Params):Obj:=⟨(.type "function"),none,(.func (fnOf x0 x1 (defArgs x2) (defBody x2) (defScope x2) .none .none .none (.str x3 x4) none (.ref x5) .none)),#[]⟩
noncomputable def Dq:=gk1 "_wall" "_wall" xD "__main__" 164 20
noncomputable def Dr (P:Params):Obj:=⟨(.type "dict"),none,(.dict #[kE P "__module__" 203 (.str "platecuts.errors" 194),kE P "__firstlineno__" 207 (.int 5 206),kE P "__static_attributes__" 208 (.ref 29),kE P "__weakref__" 210 (.ref 32),kE P "__doc__" 211 .none] 3),#[]⟩
noncomputable def Du (P:Params):Obj:=⟨(.type "type"),none,(.cls ⟨"PlateError",[.type "ValueError"],[.ref 31,.type "ValueError",.type "Exception",.type "BaseException",.type "object"],30,"PlateError",true,[],[.ref 44,.ref 56,.ref 68,.ref 80,.ref 92,.ref 104,.ref 116,.ref 128,.ref 140,.ref 152,.ref 164,.ref 176,.ref 188],false,none,false⟩),#[some (.ref 22),none,some (.str "PlateError" 196),some (.str "PlateError" 204),some (.builtin "ValueError.__new__"),some (.bool true)]⟩
noncomputable def gk2 (x0 x1 x2 x3 x4 x5 x6:Nat)(P:Params):Obj:=⟨(.type "dict"),none,(.dict #[kE P "__module__" x0 (.str "platecuts.errors" 194),kE P "__firstlineno__" x1 (.int x2 x3),kE P "__static_attributes__" x4 (.ref x5),kE P "__doc__" x6 .none] 2),#[]⟩
noncomputable def Dv:=gk2 221 225 7 224 226 42 227
noncomputable def gk3 (x0:Str)(x1 x2 x3 x4 x5:Nat)(P:Params):Obj:=⟨(.type "type"),none,(.cls ⟨x0,[.ref 31],[.ref x1,.ref 31,.type "ValueError",.type "Exception",.type "BaseException",.type "object"],x2,x0,true,[],[],false,none,false⟩),#[some (.ref x3),none,some (.str x0 x4),some (.str x0 x5),some (.builtin "ValueError.__new__"),some (.bool true)]⟩
noncomputable def Dw:=gk3 "NoBlade" 44 43 35 214 222
noncomputable def Dx:=gk2 237 241 9 240 242 54 243
noncomputable def Dy:=gk3 "NoKinds" 56 55 47 230 238
noncomputable def Dz:=gk2 253 257 11 256 258 66 259
noncomputable def DA:=gk3 "NoKind" 68 67 59 246 254
noncomputable def DE:=gk2 269 273 13 272 274 78 275
noncomputable def DF:=gk3 "NoLying" 80 79 71 262 270
noncomputable def DG:=gk2 285 289 15 288 290 90 291
noncomputable def DH:=gk3 "NoText" 92 91 83 278 286
noncomputable def xN:=gk2 301 305 17 304 306 102 307
noncomputable def xO:=gk3 "NoPlate" 104 103 95 294 302
noncomputable def xP:=gk2 317 321 19 320 322 114 323
noncomputable def xQ:=gk3 "NoTree" 116 115 107 310 318
noncomputable def xR:=gk2 333 337 21 336 338 126 339
noncomputable def xS:=gk3 "NoLaying" 128 127 119 326 334
noncomputable def xT:=gk2 349 353 23 352 354 138 355
noncomputable def xU:=gk3 "TooLarge" 140 139 131 342 350
noncomputable def xV:=gk2 365 369 25 368 370 150 371
noncomputable def xW:=gk3 "NoTable" 152 151 143 358 366
noncomputable def xX:=gk2 381 385 27 384 386 162 387
noncomputable def xY:=gk3 "NoNumber" 164 163 155 374 382
noncomputable def xZ:=gk2 397 401 29 400 402 174 403
noncomputable def ya:=gk3 "NoWeights" 176 175 167 390 398
noncomputable def yb:=gk2 413 417 31 416 418 186 419
noncomputable def yc:=gk3 "NoTelling" 188 187 179 406 414
noncomputable def yd:=gk0 "is_whole" 424 "is_whole" 425 426 34 2 191 192 193 194 195 429 430
noncomputable def ye:=gk1 "is_whole" "is_whole" gf "platecuts.checks" 422 196
noncomputable def yf:=gk0 "is_truth" 432 "is_truth" 433 434 36 1 198 199 200 201 202 436 437
noncomputable def yg:=gk1 "is_truth" "is_truth" gg "platecuts.checks" 422 203
noncomputable def yh:=gk0 "is_row" 439 "is_row" 440 441 38 1 205 206 207 208 209 443 444
noncomputable def yi:=gk1 "is_row" "is_row" oK "platecuts.checks" 422 210
noncomputable def yj:=gk0 "check_plate" 446 "check_plate" 447 448 40 2 212 213 214 215 216 451 452
noncomputable def yk:=gk1 "check_plate" "check_plate" br "platecuts.checks" 422 217
noncomputable def ym (P:Params):Obj:=⟨(.type "tuple"),none,(.seq #[.str "down" 456,.str "across" 458] 0),#[]⟩
noncomputable def yn:=gk0 "lies_in" 461 "lies_in" 462 463 47 7 220 221 222 223 224 473 474
noncomputable def yo:=gk1 "lies_in" "lies_in" el "platecuts.parts" 454 225
noncomputable def yp:=gk0 "is_placed" 480 "is_placed" 481 482 54 4 227 228 229 230 231 487 488
noncomputable def yq:=gk1 "is_placed" "is_placed" cL "platecuts.layings" 476 232
noncomputable def yr:=gk0 "spans_of" 490 "spans_of" 491 492 58 2 234 235 236 237 238 501 502
noncomputable def yt:=gk1 "spans_of" "spans_of" dk "platecuts.layings" 476 239
noncomputable def yu:=gk0 "meet" 504 "meet" 505 506 62 2 241 242 243 244 245 509 510
noncomputable def yw:=gk1 "meet" "meet" jf "platecuts.layings" 476 246
noncomputable def gk4 (x0:Str)(x1:Nat)(x2:Str)(x3 x4 x5 x6 x7 x8 x9 x10 x11:Nat)(P:Params):Obj:=⟨(.type "code"),none,(.fields #[.str x0 x1,.str x2 x3,.str "/claim/cut.py" x4,.int x5 0,.int x6 0,.int 0 0,.int 0 0,.int 3 0,.ref x7,.bool true,.int 181 0,.ref x8,.none,.none,.none,.ref x9,.int x10 0,.int x5 0,.str "/claim/cut.py" x11]),#[]⟩
noncomputable def yx:=gk4 "is_laying" 512 "is_laying" 513 514 64 4 248 249 250 515 516
noncomputable def yz:=gk1 "is_laying" "is_laying" bB "platecuts.layings" 476 251
noncomputable def yA:=gk0 "parting_place" 528 "parting_place" 529 530 79 2 253 254 255 256 257 537 538
noncomputable def yB:=gk1 "parting_place" "parting_place" bD "platecuts.parting" 522 258
noncomputable def yC:=gk4 "parting_cut" 540 "parting_cut" 541 542 87 2 260 261 262 543 544
noncomputable def yD:=gk1 "parting_cut" "parting_cut" bd "platecuts.parting" 522 263
noncomputable def yE:=gk0 "leaf_of" 546 "leaf_of" 547 548 96 3 265 266 267 268 269 556 557
noncomputable def yF:=gk1 "leaf_of" "leaf_of" ez "platecuts.parting" 522 270
noncomputable def yG:=gk0 "part_pieces" 559 "part_pieces" 560 561 101 4 272 273 274 275 276 574 575
noncomputable def yH:=gk1 "part_pieces" "part_pieces" bu "platecuts.parting" 522 277
noncomputable def yI:=gk4 "tree_or_knot" 577 "tree_or_knot" 578 579 116 4 279 280 281 580 581
noncomputable def yJ:=gk1 "tree_or_knot" "tree_or_knot" bh "platecuts.parting" 522 282
noncomputable def yK:=gk0 "is_kind" 589 "is_kind" 590 591 123 1 284 285 286 287 288 598 599
noncomputable def yL:=gk1 "is_kind" "is_kind" eA "platecuts.shops" 583 289
noncomputable def yM:=gk0 "can_lie_turned" 601 "can_lie_turned" 602 603 130 1 291 292 293 294 295 605 606
noncomputable def yN:=gk1 "can_lie_turned" "can_lie_turned" eC "platecuts.shops" 583 296
noncomputable def yO:=gk4 "__init__" 620 "Shop.__init__" 621 622 134 3 305 306 307 623 624
noncomputable def yP:=gk1 "__init__" "Shop.__init__" cf "platecuts.shops" 583 308
noncomputable def yQ:=gk0 "blade" 626 "Shop.blade" 627 628 145 1 310 311 312 313 314 630 631
noncomputable def yR:=gk1 "blade" "Shop.blade" cq "platecuts.shops" 583 315
noncomputable def yS:=gk0 "kinds" 633 "Shop.kinds" 634 635 148 1 317 318 319 320 321 637 638
noncomputable def yT:=gk1 "kinds" "Shop.kinds" ke "platecuts.shops" 583 322
noncomputable def yU:=gk4 "wanted" 640 "Shop.wanted" 641 642 151 1 324 325 326 643 644
noncomputable def yV:=gk1 "wanted" "Shop.wanted" jg "platecuts.shops" 583 327
noncomputable def yW:=gk0 "lyings" 646 "Shop.lyings" 647 648 154 1 329 330 331 332 333 650 651
noncomputable def yX:=gk1 "lyings" "Shop.lyings" jh "platecuts.shops" 583 334
noncomputable def yY:=gk0 "is_lying" 653 "Shop.is_lying" 654 655 157 3 336 337 338 339 340 659 660
noncomputable def yZ:=gk1 "is_lying" "Shop.is_lying" bL "platecuts.shops" 583 341
noncomputable def za:=gk0 "sides" 662 "Shop.sides" 663 664 162 3 343 344 345 346 347 669 670
noncomputable def zb:=gk1 "sides" "Shop.sides" cr "platecuts.shops" 583 348
noncomputable def zc (P:Params):Obj:=⟨(.type "dict"),none,(.dict #[kE P "__module__" 615 (.str "platecuts.shops" 583),kE P "__firstlineno__" 619 (.int 132 618),kE P "__init__" 625 (.ref 309),kE P "blade" 632 (.ref 316),kE P "kinds" 639 (.ref 323),kE P "wanted" 645 (.ref 328),kE P "lyings" 652 (.ref 335),kE P "is_lying" 661 (.ref 342),kE P "sides" 671 (.ref 349),kE P "__static_attributes__" 674 (.ref 350),kE P "__dict__" 676 (.ref 353),kE P "__weakref__" 678 (.ref 354),kE P "__doc__" 679 .none] 4),#[]⟩
noncomputable def zd (P:Params):Obj:=⟨(.type "type"),none,(.cls ⟨"Shop",[.type "object"],[.ref 352,.type "object"],351,"Shop",true,[],[],false,none,false⟩),#[none,none,some (.str "Shop" 608),some (.str "Shop" 616),some (.builtin "object.__new__"),some (.bool true)]⟩
noncomputable def ze:=gk0 "_law_cell" 684 "_law_cell" 685 686 170 2 357 358 359 360 361 689 690
noncomputable def zf:=gk1 "_law_cell" "_law_cell" ji "law_platecuts_k36_layings_refused" 682 362
noncomputable def zg:=gk0 "_law_pot" 692 "_law_pot" 693 694 174 2 364 365 366 367 368 697 698
noncomputable def zh:=gk1 "_law_pot" "_law_pot" oM "law_platecuts_k36_layings_refused" 682 369
noncomputable def zi:=gk0 "_law_take" 700 "_law_take" 701 702 176 2 371 372 373 374 375 706 707
noncomputable def zj:=gk1 "_law_take" "_law_take" jj "law_platecuts_k36_layings_refused" 682 376
noncomputable def zk:=gk0 "_law_unit" 709 "_law_unit" 710 711 183 1 378 379 380 381 382 714 715
noncomputable def zm:=gk1 "_law_unit" "_law_unit" jk "law_platecuts_k36_layings_refused" 682 383
noncomputable def zn:=gk0 "_law_side" 717 "_law_side" 718 719 186 3 385 386 387 388 389 723 724
noncomputable def zo:=gk1 "_law_side" "_law_side" jl "law_platecuts_k36_layings_refused" 682 390
noncomputable def zp:=gk0 "_law_worth" 726 "_law_worth" 727 728 190 1 392 393 394 395 396 731 732
noncomputable def zr:=gk1 "_law_worth" "_law_worth" gh "law_platecuts_k36_layings_refused" 682 397
noncomputable def zt:=gk0 "_law_shop" 734 "_law_shop" 735 736 193 2 399 400 401 402 403 744 745
noncomputable def zu:=gk1 "_law_shop" "_law_shop" jm "law_platecuts_k36_layings_refused" 682 404
noncomputable def zv:=gk0 "_law_sides" 747 "_law_sides" 748 749 201 3 406 407 408 409 410 755 756
noncomputable def zw:=gk1 "_law_sides" "_law_sides" gi "law_platecuts_k36_layings_refused" 682 411
noncomputable def zx:=gk0 "_law_lyings" 758 "_law_lyings" 759 760 204 1 413 414 415 416 417 765 766
noncomputable def zy:=gk1 "_law_lyings" "_law_lyings" eD "law_platecuts_k36_layings_refused" 682 418
noncomputable def zA:=gk0 "_law_box" 768 "_law_box" 769 770 211 2 420 421 422 423 424 774 775
noncomputable def zB:=gk1 "_law_box" "_law_box" oN "law_platecuts_k36_layings_refused" 682 425
noncomputable def zC:=gk0 "_law_apart" 777 "_law_apart" 778 779 214 2 427 428 429 430 431 782 783
noncomputable def zD:=gk1 "_law_apart" "_law_apart" gj "law_platecuts_k36_layings_refused" 682 432
noncomputable def zE:=gk4 "_law_fits" 785 "_law_fits" 786 787 216 5 434 435 436 788 789
noncomputable def zF:=gk1 "_law_fits" "_law_fits" gU "law_platecuts_k36_layings_refused" 682 437
noncomputable def zG:=gk0 "_law_scattered" 791 "_law_scattered" 792 793 221 6 439 440 441 442 443 808 809
noncomputable def zH:=gk1 "_law_scattered" "_law_scattered" cu "law_platecuts_k36_layings_refused" 682 444
noncomputable def zI:=gk0 "_law_class" 811 "_law_class" 812 813 235 1 446 447 448 449 450 817 818
noncomputable def zJ:=gk1 "_law_class" "_law_class" gm "law_platecuts_k36_layings_refused" 682 451
noncomputable def zK:=gk0 "_law_told" 820 "_law_told" 821 822 243 4 453 454 455 456 457 829 830
noncomputable def zL:=gk1 "_law_told" "_law_told" jn "law_platecuts_k36_layings_refused" 682 458
noncomputable def zM:=gk0 "_law_judged" 832 "_law_judged" 833 834 250 4 460 461 462 463 464 841 842
noncomputable def zN:=gk1 "_law_judged" "_law_judged" eE "law_platecuts_k36_layings_refused" 682 465
noncomputable def zO:=gk0 "_law_odd" 844 "_law_odd" 845 846 257 1 467 468 469 470 471 849 850
noncomputable def zP:=gk1 "_law_odd" "_law_odd" oO "law_platecuts_k36_layings_refused" 682 472
noncomputable def zQ:=gk4 "_law_is_bad" 852 "_law_is_bad" 853 854 260 4 474 475 476 855 856
noncomputable def zR:=gk1 "_law_is_bad" "_law_is_bad" ff "law_platecuts_k36_layings_refused" 682 477
noncomputable def zS:=gk0 "_law_spoilt" 858 "_law_spoilt" 859 860 275 2 479 480 481 482 483 868 869
noncomputable def zT:=gk1 "_law_spoilt" "_law_spoilt" eF "law_platecuts_k36_layings_refused" 682 484
noncomputable def zU:=gk0 "law" 871 "law" 872 873 287 1 486 487 488 489 490 890 891
noncomputable def zV:=gk1 "law" "law" jo "law_platecuts_k36_layings_refused" 682 491
noncomputable def kK:Params→Frag:=fun P=>(nat_lit 1,boot_o_1 P) :: (nat_lit 3,kO3 P) :: (nat_lit 20,Do P) :: (nat_lit 21,Dq P) :: (nat_lit 30,Dr P) :: (nat_lit 31,Du P) :: (nat_lit 43,Dv P) :: (nat_lit 44,Dw P) :: (nat_lit 55,Dx P) :: (nat_lit 56,Dy P) :: (nat_lit 67,Dz P) :: (nat_lit 68,DA P) :: (nat_lit 79,DE P) :: (nat_lit 80,DF P) :: (nat_lit 91,DG P) :: (nat_lit 92,DH P) :: (nat_lit 103,xN P) :: (nat_lit 104,xO P) :: (nat_lit 115,xP P) :: (nat_lit 116,xQ P) :: (nat_lit 127,xR P) :: (nat_lit 128,xS P) :: (nat_lit 139,xT P) :: (nat_lit 140,xU P) :: (nat_lit 151,xV P) :: (nat_lit 152,xW P) :: (nat_lit 163,xX P) :: (nat_lit 164,xY P) :: (nat_lit 175,xZ P) :: (nat_lit 176,ya P) :: (nat_lit 187,yb P) :: (nat_lit 188,yc P) :: (nat_lit 196,yd P) :: (nat_lit 197,ye P) :: (nat_lit 203,yf P) :: (nat_lit 204,yg P) :: (nat_lit 210,yh P) :: (nat_lit 211,yi P) :: (nat_lit 217,yj P) :: (nat_lit 218,yk P) :: (nat_lit 219,ym P) :: (nat_lit 225,yn P) :: (nat_lit 226,yo P) :: (nat_lit 232,yp P) :: (nat_lit 233,yq P) :: (nat_lit 239,yr P) :: (nat_lit 240,yt P) :: (nat_lit 246,yu P) :: (nat_lit 247,yw P) :: (nat_lit 251,yx P) :: (nat_lit 252,yz P) :: (nat_lit 258,yA P) :: (nat_lit 259,yB P) :: (nat_lit 263,yC P) :: (nat_lit 264,yD P) :: (nat_lit 270,yE P) :: (nat_lit 271,yF P) :: (nat_lit 277,yG P) :: (nat_lit 278,yH P) :: (nat_lit 282,yI P) :: (nat_lit 283,yJ P) :: (nat_lit 289,yK P) :: (nat_lit 290,yL P) :: (nat_lit 296,yM P) :: (nat_lit 297,yN P) :: (nat_lit 308,yO P) :: (nat_lit 309,yP P) :: (nat_lit 315,yQ P) :: (nat_lit 316,yR P) :: (nat_lit 322,yS P) :: (nat_lit 323,yT P) :: (nat_lit 327,yU P) :: (nat_lit 328,yV P) :: (nat_lit 334,yW P) :: (nat_lit 335,yX P) :: (nat_lit 341,yY P) :: (nat_lit 342,yZ P) :: (nat_lit 348,za P) :: (nat_lit 349,zb P) :: (nat_lit 351,zc P) :: (nat_lit 352,zd P) :: (nat_lit 362,ze P) :: (nat_lit 363,zf P) :: (nat_lit 369,zg P) :: (nat_lit 370,zh P) :: (nat_lit 376,zi P) :: (nat_lit 377,zj P) :: (nat_lit 383,zk P) :: (nat_lit 384,zm P) :: (nat_lit 390,zn P) :: (nat_lit 391,zo P) :: (nat_lit 397,zp P) :: (nat_lit 398,zr P) :: (nat_lit 404,zt P) :: (nat_lit 405,zu P) :: (nat_lit 411,zv P) :: (nat_lit 412,zw P) :: (nat_lit 418,zx P) :: (nat_lit 419,zy P) :: (nat_lit 425,zA P) :: (nat_lit 426,zB P) :: (nat_lit 432,zC P) :: (nat_lit 433,zD P) :: (nat_lit 437,zE P) :: (nat_lit 438,zF P) :: (nat_lit 444,zG P) :: (nat_lit 445,zH P) :: (nat_lit 451,zI P) :: (nat_lit 452,zJ P) :: (nat_lit 458,zK P) :: (nat_lit 459,zL P) :: (nat_lit 465,zM P) :: (nat_lit 466,zN P) :: (nat_lit 472,zO P) :: (nat_lit 473,zP P) :: (nat_lit 477,zQ P) :: (nat_lit 478,zR P) :: (nat_lit 484,zS P) :: (nat_lit 485,zT P) :: (nat_lit 491,zU P) :: (nat_lit 492,zV P) :: []
end
end Pc
set_option maxHeartbeats 0
lay_quick PySem.Challenge.pw_platecuts_k36_layings_refused
namespace Hd
open PySem PySem.W
noncomputable def S0:Str:=⟨⟨[95,95,110,97,109,101,95,95]⟩⟩
noncomputable def S2:Str:=⟨⟨[95,95,100,111,99,95,95]⟩⟩
noncomputable def S3:Str:=⟨⟨[95,95,112,97,99,107,97,103,101,95,95]⟩⟩
noncomputable def S4:Str:=⟨⟨[95,95,108,111,97,100,101,114,95,95]⟩⟩
noncomputable def S5:Str:=⟨⟨[95,95,115,112,101,99,95,95]⟩⟩
noncomputable def zW:Str:=⟨⟨[95,95,109,97,105,110,95,95]⟩⟩
noncomputable def tU:Str:=⟨⟨[95,95,97,110,110,111,116,97,116,105,111,110,115,95,95]⟩⟩
noncomputable def tV:Str:=⟨⟨[95,95,98,117,105,108,116,105,110,115,95,95]⟩⟩
noncomputable def tW:Str:=⟨⟨[95,95,102,105,108,101,95,95]⟩⟩
noncomputable def iE:Str:=⟨⟨[47,99,108,97,105,109,47,99,117,116,46,112,121]⟩⟩
noncomputable def tX:Str:=⟨⟨[95,95,99,97,99,104,101,100,95,95]⟩⟩
noncomputable def DN:Str:=⟨⟨[60,109,111,100,117,108,101,62]⟩⟩
noncomputable def cV:Str:=⟨⟨[112,108,97,116,101,99,117,116,115,46,101,114,114,111,114,115]⟩⟩
noncomputable def jx:Str:=⟨⟨[95,119,97,108,108]⟩⟩
noncomputable def eK:Str:=⟨⟨[80,108,97,116,101,69,114,114,111,114]⟩⟩
noncomputable def kF:Str:=⟨⟨[78,111,66,108,97,100,101]⟩⟩
noncomputable def kG:Str:=⟨⟨[78,111,75,105,110,100,115]⟩⟩
noncomputable def kH:Str:=⟨⟨[78,111,75,105,110,100]⟩⟩
noncomputable def kI:Str:=⟨⟨[78,111,76,121,105,110,103]⟩⟩
noncomputable def kJ:Str:=⟨⟨[78,111,84,101,120,116]⟩⟩
noncomputable def kL:Str:=⟨⟨[78,111,80,108,97,116,101]⟩⟩
noncomputable def kM:Str:=⟨⟨[78,111,84,114,101,101]⟩⟩
noncomputable def kN:Str:=⟨⟨[78,111,76,97,121,105,110,103]⟩⟩
noncomputable def DQ:Str:=⟨⟨[107]⟩⟩
noncomputable def pM:Str:=⟨⟨[95,95,109,111,100,117,108,101,95,95]⟩⟩
noncomputable def zX:Str:=⟨⟨[95,95,113,117,97,108,110,97,109,101,95,95]⟩⟩
noncomputable def pN:Str:=⟨⟨[95,95,102,105,114,115,116,108,105,110,101,110,111,95,95]⟩⟩
noncomputable def pO:Str:=⟨⟨[95,95,115,116,97,116,105,99,95,97,116,116,114,105,98,117,116,101,115,95,95]⟩⟩
noncomputable def tY:Str:=⟨⟨[95,95,119,101,97,107,114,101,102,95,95]⟩⟩
noncomputable def kO:Str:=⟨⟨[112,108,97,116,101,99,117,116,115,46,115,104,111,112,115]⟩⟩
noncomputable def mQ:Str:=⟨⟨[84,111,111,76,97,114,103,101]⟩⟩
noncomputable def mR:Str:=⟨⟨[78,111,84,97,98,108,101]⟩⟩
noncomputable def mS:Str:=⟨⟨[78,111,78,117,109,98,101,114]⟩⟩
noncomputable def mT:Str:=⟨⟨[78,111,87,101,105,103,104,116,115]⟩⟩
noncomputable def mU:Str:=⟨⟨[78,111,84,101,108,108,105,110,103]⟩⟩
noncomputable def kP:Str:=⟨⟨[105,115,95,119,104,111,108,101]⟩⟩
noncomputable def kQ:Str:=⟨⟨[105,115,95,116,114,117,116,104]⟩⟩
noncomputable def kR:Str:=⟨⟨[105,115,95,114,111,119]⟩⟩
noncomputable def kS:Str:=⟨⟨[99,104,101,99,107,95,112,108,97,116,101]⟩⟩
noncomputable def tZ:Str:=⟨⟨[68,79,87,78]⟩⟩
noncomputable def ua:Str:=⟨⟨[100,111,119,110]⟩⟩
noncomputable def ub:Str:=⟨⟨[65,67,82,79,83,83]⟩⟩
noncomputable def uc:Str:=⟨⟨[97,99,114,111,115,115]⟩⟩
noncomputable def ud:Str:=⟨⟨[87,65,89,83]⟩⟩
noncomputable def kT:Str:=⟨⟨[108,105,101,115,95,105,110]⟩⟩
noncomputable def ue:Str:=⟨⟨[84,72,73,78,71,83,95,79,70,95,65,95,80,73,69,67,69]⟩⟩
noncomputable def kU:Str:=⟨⟨[105,115,95,112,108,97,99,101,100]⟩⟩
noncomputable def kW:Str:=⟨⟨[115,112,97,110,115,95,111,102]⟩⟩
noncomputable def kX:Str:=⟨⟨[109,101,101,116]⟩⟩
noncomputable def kY:Str:=⟨⟨[105,115,95,108,97,121,105,110,103]⟩⟩
noncomputable def uf:Str:=⟨⟨[82,69,83,84]⟩⟩
noncomputable def zY:Str:=⟨⟨[114,101,115,116]⟩⟩
noncomputable def ug:Str:=⟨⟨[80,73,69,67,69]⟩⟩
noncomputable def uh:Str:=⟨⟨[112,105,101,99,101]⟩⟩
noncomputable def ui:Str:=⟨⟨[84,82,69,69]⟩⟩
noncomputable def zZ:Str:=⟨⟨[116,114,101,101]⟩⟩
noncomputable def uj:Str:=⟨⟨[75,78,79,84]⟩⟩
noncomputable def Aa:Str:=⟨⟨[107,110,111,116]⟩⟩
noncomputable def kZ:Str:=⟨⟨[112,97,114,116,105,110,103,95,112,108,97,99,101]⟩⟩
noncomputable def le:Str:=⟨⟨[112,97,114,116,105,110,103,95,99,117,116]⟩⟩
noncomputable def lf:Str:=⟨⟨[108,101,97,102,95,111,102]⟩⟩
noncomputable def lg:Str:=⟨⟨[112,97,114,116,95,112,105,101,99,101,115]⟩⟩
noncomputable def lh:Str:=⟨⟨[116,114,101,101,95,111,114,95,107,110,111,116]⟩⟩
noncomputable def uk:Str:=⟨⟨[77,79,83,84,95,75,73,78,68,83]⟩⟩
noncomputable def um:Str:=⟨⟨[84,72,73,78,71,83,95,79,70,95,65,95,75,73,78,68]⟩⟩
noncomputable def li:Str:=⟨⟨[105,115,95,107,105,110,100]⟩⟩
noncomputable def lj:Str:=⟨⟨[99,97,110,95,108,105,101,95,116,117,114,110,101,100]⟩⟩
noncomputable def pP:Str:=⟨⟨[116,104,105,110,103]⟩⟩
noncomputable def DV:Str:=⟨⟨[108,101,97,115,116]⟩⟩
noncomputable def rf:Str:=⟨⟨[112,108,97,116,101,99,117,116,115,46,99,104,101,99,107,115]⟩⟩
noncomputable def pQ:Str:=⟨⟨[119,105,100,101]⟩⟩
noncomputable def pR:Str:=⟨⟨[104,105,103,104]⟩⟩
noncomputable def rg:Str:=⟨⟨[115,104,111,112]⟩⟩
noncomputable def mV:Str:=⟨⟨[107,105,110,100]⟩⟩
noncomputable def pT:Str:=⟨⟨[116,117,114,110,101,100]⟩⟩
noncomputable def rh:Str:=⟨⟨[120]⟩⟩
noncomputable def rj:Str:=⟨⟨[121]⟩⟩
noncomputable def DX:Str:=⟨⟨[112,105,101,99,101,95,119,105,100,101]⟩⟩
noncomputable def DY:Str:=⟨⟨[112,105,101,99,101,95,104,105,103,104]⟩⟩
noncomputable def DZ:Str:=⟨⟨[112,108,97,116,101,99,117,116,115,46,112,97,114,116,115]⟩⟩
noncomputable def rm:Str:=⟨⟨[112,108,97,116,101,99,117,116,115,46,108,97,121,105,110,103,115]⟩⟩
noncomputable def Ea:Str:=⟨⟨[111,110,101]⟩⟩
noncomputable def Eb:Str:=⟨⟨[111,116,104,101,114]⟩⟩
noncomputable def mW:Str:=⟨⟨[98,108,97,100,101]⟩⟩
noncomputable def Ed:Str:=⟨⟨[115,112,97,110,115]⟩⟩
noncomputable def Ee:Str:=⟨⟨[111,114,100,101,114,101,100]⟩⟩
noncomputable def Ef:Str:=⟨⟨[114,101,97,99,104]⟩⟩
noncomputable def Eg:Str:=⟨⟨[115,116,97,114,116]⟩⟩
noncomputable def Eh:Str:=⟨⟨[101,110,100]⟩⟩
noncomputable def pU:Str:=⟨⟨[112,108,97,116,101,99,117,116,115,46,112,97,114,116,105,110,103]⟩⟩
noncomputable def Ab:Str:=⟨⟨[112,105,101,99,101,115]⟩⟩
noncomputable def Ei:Str:=⟨⟨[112,105,101,99,101,95,120]⟩⟩
noncomputable def Ej:Str:=⟨⟨[112,105,101,99,101,95,121]⟩⟩
noncomputable def Ek:Str:=⟨⟨[99,117,116]⟩⟩
noncomputable def El:Str:=⟨⟨[119,97,121]⟩⟩
noncomputable def Em:Str:=⟨⟨[112,108,97,99,101]⟩⟩
noncomputable def En:Str:=⟨⟨[97,104,101,97,100]⟩⟩
noncomputable def Eo:Str:=⟨⟨[98,101,104,105,110,100]⟩⟩
noncomputable def Ep:Str:=⟨⟨[102,105,114,115,116]⟩⟩
noncomputable def Er:Str:=⟨⟨[115,116,101,112]⟩⟩
noncomputable def Es:Str:=⟨⟨[115,101,99,111,110,100]⟩⟩
noncomputable def Et:Str:=⟨⟨[119,111,114,116,104]⟩⟩
noncomputable def mX:Str:=⟨⟨[119,97,110,116,101,100]⟩⟩
noncomputable def Eu:Str:=⟨⟨[116,117,114,110,115]⟩⟩
noncomputable def cH:Str:=⟨⟨[108,97,119,95,112,108,97,116,101,99,117,116,115,95,107,51,54,95,108,97,121,105,110,103,115,95,114,101,102,117,115,101,100]⟩⟩
noncomputable def jy:Str:=⟨⟨[83,104,111,112]⟩⟩
noncomputable def mY:Str:=⟨⟨[95,108,97,119,95,99,101,108,108]⟩⟩
noncomputable def mZ:Str:=⟨⟨[95,108,97,119,95,112,111,116]⟩⟩
noncomputable def ng:Str:=⟨⟨[95,108,97,119,95,116,97,107,101]⟩⟩
noncomputable def nh:Str:=⟨⟨[95,108,97,119,95,117,110,105,116]⟩⟩
noncomputable def ni:Str:=⟨⟨[95,108,97,119,95,115,105,100,101]⟩⟩
noncomputable def nj:Str:=⟨⟨[95,108,97,119,95,119,111,114,116,104]⟩⟩
noncomputable def nq:Str:=⟨⟨[95,108,97,119,95,115,104,111,112]⟩⟩
noncomputable def nr:Str:=⟨⟨[95,108,97,119,95,115,105,100,101,115]⟩⟩
noncomputable def nu:Str:=⟨⟨[95,108,97,119,95,108,121,105,110,103,115]⟩⟩
noncomputable def nv:Str:=⟨⟨[95,108,97,119,95,98,111,120]⟩⟩
noncomputable def nw:Str:=⟨⟨[95,108,97,119,95,97,112,97,114,116]⟩⟩
noncomputable def ny:Str:=⟨⟨[95,108,97,119,95,102,105,116,115]⟩⟩
noncomputable def nz:Str:=⟨⟨[95,108,97,119,95,115,99,97,116,116,101,114,101,100]⟩⟩
noncomputable def nA:Str:=⟨⟨[95,108,97,119,95,99,108,97,115,115]⟩⟩
noncomputable def nC:Str:=⟨⟨[95,108,97,119,95,116,111,108,100]⟩⟩
noncomputable def nD:Str:=⟨⟨[95,108,97,119,95,106,117,100,103,101,100]⟩⟩
noncomputable def nE:Str:=⟨⟨[95,108,97,119,95,111,100,100]⟩⟩
noncomputable def nF:Str:=⟨⟨[95,108,97,119,95,105,115,95,98,97,100]⟩⟩
noncomputable def nG:Str:=⟨⟨[95,108,97,119,95,115,112,111,105,108,116]⟩⟩
noncomputable def pV:Str:=⟨⟨[108,97,119]⟩⟩
noncomputable def pW:Str:=⟨⟨[95,95,105,110,105,116,95,95]⟩⟩
noncomputable def pX:Str:=⟨⟨[107,105,110,100,115]⟩⟩
noncomputable def pY:Str:=⟨⟨[108,121,105,110,103,115]⟩⟩
noncomputable def pZ:Str:=⟨⟨[105,115,95,108,121,105,110,103]⟩⟩
noncomputable def qa:Str:=⟨⟨[115,105,100,101,115]⟩⟩
noncomputable def uo:Str:=⟨⟨[83,104,111,112,46,95,95,105,110,105,116,95,95]⟩⟩
noncomputable def qc:Str:=⟨⟨[115,101,108,102]⟩⟩
noncomputable def up:Str:=⟨⟨[83,104,111,112,46,98,108,97,100,101]⟩⟩
noncomputable def uq:Str:=⟨⟨[83,104,111,112,46,107,105,110,100,115]⟩⟩
noncomputable def ur:Str:=⟨⟨[83,104,111,112,46,119,97,110,116,101,100]⟩⟩
noncomputable def ut:Str:=⟨⟨[83,104,111,112,46,108,121,105,110,103,115]⟩⟩
noncomputable def uu:Str:=⟨⟨[83,104,111,112,46,105,115,95,108,121,105,110,103]⟩⟩
noncomputable def Ev:Str:=⟨⟨[114,111,119]⟩⟩
noncomputable def uv:Str:=⟨⟨[83,104,111,112,46,115,105,100,101,115]⟩⟩
noncomputable def Ew:Str:=⟨⟨[98,108,97,100,101,95,119,105,100,116,104]⟩⟩
noncomputable def Ex:Str:=⟨⟨[107,105,110,100,95,114,111,119,115]⟩⟩
noncomputable def Ac:Str:=⟨⟨[95,95,100,105,99,116,95,95]⟩⟩
noncomputable def Ad:Str:=⟨⟨[95,108,97,119,95,115,99,114,105,112,116]⟩⟩
noncomputable def lm:Str:=⟨⟨[95,108,97,119,95,107]⟩⟩
noncomputable def Ey:Str:=⟨⟨[95,108,97,119,95,99,101,108,108,95,104,101,114,101]⟩⟩
noncomputable def iF:Str:=⟨⟨[95,108,97,119,95,112,111,116,95,104,101,114,101]⟩⟩
noncomputable def Ae:Str:=⟨⟨[95,108,97,119,95,109,97,110,121]⟩⟩
noncomputable def Ez:Str:=⟨⟨[95,108,97,119,95,100,105,103,105,116]⟩⟩
noncomputable def qd:Str:=⟨⟨[95,108,97,119,95,115,111,109,101]⟩⟩
noncomputable def uw:Str:=⟨⟨[95,108,97,119,95,117,110,105,116,95,104,101,114,101]⟩⟩
noncomputable def EA:Str:=⟨⟨[95,108,97,119,95,109,111,115,116]⟩⟩
noncomputable def EB:Str:=⟨⟨[95,108,97,119,95,98,108,97,100,101]⟩⟩
noncomputable def Af:Str:=⟨⟨[95,108,97,119,95,107,105,110,100,115]⟩⟩
noncomputable def nH:Str:=⟨⟨[95,108,97,119,95,119,105,100,101]⟩⟩
noncomputable def nI:Str:=⟨⟨[95,108,97,119,95,104,105,103,104]⟩⟩
noncomputable def qg:Str:=⟨⟨[95,108,97,119,95,115,104,111,112,95,104,101,114,101]⟩⟩
noncomputable def ux:Str:=⟨⟨[95,108,97,119,95,107,105,110,100]⟩⟩
noncomputable def Ag:Str:=⟨⟨[95,108,97,119,95,116,117,114,110,101,100]⟩⟩
noncomputable def Ah:Str:=⟨⟨[95,108,97,119,95,102,111,117,110,100]⟩⟩
noncomputable def Ai:Str:=⟨⟨[95,108,97,119,95,112,105,101,99,101]⟩⟩
noncomputable def EC:Str:=⟨⟨[95,108,97,119,95,111,119,110]⟩⟩
noncomputable def Aj:Str:=⟨⟨[95,108,97,119,95,111,110,101]⟩⟩
noncomputable def Ak:Str:=⟨⟨[95,108,97,119,95,111,116,104,101,114]⟩⟩
noncomputable def uy:Str:=⟨⟨[95,108,97,119,95,112,105,101,99,101,115]⟩⟩
noncomputable def ED:Str:=⟨⟨[95,108,97,119,95,120]⟩⟩
noncomputable def EE:Str:=⟨⟨[95,108,97,119,95,121]⟩⟩
noncomputable def EF:Str:=⟨⟨[95,108,97,119,95,98,111,120,95,104,101,114,101]⟩⟩
noncomputable def uz:Str:=⟨⟨[95,108,97,119,95,101]⟩⟩
noncomputable def EG:Str:=⟨⟨[95,108,97,119,95,111,116,104,101,114,115]⟩⟩
noncomputable def uA:Str:=⟨⟨[95,108,97,119,95,109,97,100,101]⟩⟩
noncomputable def uB:Str:=⟨⟨[95,108,97,119,95,116,104,105,110,103]⟩⟩
noncomputable def Al:Str:=⟨⟨[95,108,97,119,95,116,111,108,100,95,104,101,114,101]⟩⟩
noncomputable def EH:Str:=⟨⟨[95,108,97,119,95,97,116]⟩⟩
noncomputable def EI:Str:=⟨⟨[95,108,97,119,95,109,111,118,101,100]⟩⟩
noncomputable def EJ:Str:=⟨⟨[95,108,97,119,95,107,101,112,116]⟩⟩
noncomputable def EK:Str:=⟨⟨[95,108,97,119,95,100,117,101]⟩⟩
noncomputable def EL:Str:=⟨⟨[95,108,97,119,95,111,100,100,95,104,101,114,101]⟩⟩
noncomputable def EM:Str:=⟨⟨[95,108,97,119,95,114,111,119]⟩⟩
noncomputable abbrev HK:Hook:=kHook Pc.kK [nat_lit 1,nat_lit 3,nat_lit 20,nat_lit 21,nat_lit 30,nat_lit 31,nat_lit 43,nat_lit 44,nat_lit 55,nat_lit 56,nat_lit 67,nat_lit 68,nat_lit 79,nat_lit 80,nat_lit 91,nat_lit 92,nat_lit 103,nat_lit 104,nat_lit 115,nat_lit 116,nat_lit 127,nat_lit 128,nat_lit 139,nat_lit 140,nat_lit 151,nat_lit 152,nat_lit 163,nat_lit 164,nat_lit 175,nat_lit 176,nat_lit 187,nat_lit 188,nat_lit 196,nat_lit 197,nat_lit 203,nat_lit 204,nat_lit 210,nat_lit 211,nat_lit 217,nat_lit 218,nat_lit 219,nat_lit 225,nat_lit 226,nat_lit 232,nat_lit 233,nat_lit 239,nat_lit 240,nat_lit 246,nat_lit 247,nat_lit 251,nat_lit 252,nat_lit 258,nat_lit 259,nat_lit 263,nat_lit 264,nat_lit 270,nat_lit 271,nat_lit 277,nat_lit 278,nat_lit 282,nat_lit 283,nat_lit 289,nat_lit 290,nat_lit 296,nat_lit 297,nat_lit 308,nat_lit 309,nat_lit 315,nat_lit 316,nat_lit 322,nat_lit 323,nat_lit 327,nat_lit 328,nat_lit 334,nat_lit 335,nat_lit 341,nat_lit 342,nat_lit 348,nat_lit 349,nat_lit 351,nat_lit 352,nat_lit 362,nat_lit 363,nat_lit 369,nat_lit 370,nat_lit 376,nat_lit 377,nat_lit 383,nat_lit 384,nat_lit 390,nat_lit 391,nat_lit 397,nat_lit 398,nat_lit 404,nat_lit 405,nat_lit 411,nat_lit 412,nat_lit 418,nat_lit 419,nat_lit 425,nat_lit 426,nat_lit 432,nat_lit 433,nat_lit 437,nat_lit 438,nat_lit 444,nat_lit 445,nat_lit 451,nat_lit 452,nat_lit 458,nat_lit 459,nat_lit 465,nat_lit 466,nat_lit 472,nat_lit 473,nat_lit 477,nat_lit 478,nat_lit 484,nat_lit 485,nat_lit 491,nat_lit 492] (fun _=>by kernel_rfl)
noncomputable abbrev pt:Program:=PySem.W.Fast.tw10906962224354034675
theorem pt_eq:PySem.Challenge.pw_platecuts_k36_layings_refused=pt:=PySem.W.Fast.te10906962224354034675
noncomputable def tp (i:Nat):Stmt:=pt.main.body.getD i (.Pass ⟨0,0,0,0⟩)
noncomputable abbrev f (o:Params→Obj) (l r:Params→BT):Params→BT:=fun P=>.node (o P) (l P) (r P)
noncomputable abbrev z:Params→BT:=fun _=>.nil
noncomputable abbrev e (P:Params) (n:Str) (t:Nat) (v:Value):DictEntry:=⟨PyData.keyHash P n,.str n t,v⟩
noncomputable abbrev m0:Nat:=nat_lit 11
noncomputable abbrev an:Option Value:=(some (.ref 6))
noncomputable abbrev en:Env:={ scope:=pt.main.scope,locals:=mainNs,globals:=mainNs,cells:=[],code:=(.ref 13),frame:=some 14 }
noncomputable abbrev cE:Code:=.body (behindTheImports pt) en
noncomputable abbrev qP:Pos:=⟨0,0,0,0⟩
noncomputable abbrev B:List Frame:=[topFrame qP]
noncomputable abbrev L0:=SL.s14018661285674007319x4
noncomputable abbrev L1:=SL.s11665532747177232413x24
noncomputable abbrev L2:=SL.s15183661809925369436x15
noncomputable abbrev L3:=SL.s13915890719876406383x10
noncomputable abbrev L4:=SL.s13459172003223722735x3
noncomputable abbrev L5:=SL.s10557405761357834076x3
noncomputable abbrev L6:=SL.s4233737765568776869x3
noncomputable abbrev L7:=SL.s2508922471967985374x5
noncomputable abbrev L8:=SL.s15574269061696679450x3
noncomputable abbrev L9:=SL.s6016482663378992977x10
noncomputable abbrev L10:=SL.s5596568736180474577x8
noncomputable abbrev L11:=SL.s2839554839881490554x3
noncomputable abbrev L12:=SL.s725004073602090463x7
noncomputable abbrev L13:=SL.s9436932552931045734x7
noncomputable abbrev L14:=SL.s2754603736356183583x3
noncomputable abbrev L15:=SL.s15185746759980889043x6
noncomputable abbrev L16:=SL.s8192189862530294059x4
noncomputable abbrev L17:=SL.s7038307821325472102x4
noncomputable abbrev L18:=SL.s5662562618415449548x6
noncomputable abbrev L19:=SL.s15281542589158584767x7
noncomputable abbrev L20:=SL.s17651547275483570877x7
noncomputable abbrev L21:=SL.s4036449017235975746x7
noncomputable abbrev L22:=SL.s8879979712987360175x4
noncomputable abbrev L23:=SL.s1801250619170735830x3
noncomputable abbrev L24:=SL.s17659931425627118568x2
noncomputable abbrev L25:=SL.s6063217899685152688x5
noncomputable abbrev L26:=SL.s8008927332132565319x10
noncomputable abbrev L27:=SL.s3544116645089599534x10
noncomputable abbrev L28:=SL.s13761710972054866084x4
noncomputable abbrev L29:=SL.s12896375587409280029x5
noncomputable abbrev L30:=SL.s13014049009108672802x3
noncomputable abbrev L31:=SL.s13935586738268321596x6
noncomputable abbrev L32:=SL.s8200498257699607233x3
noncomputable abbrev L33:=SL.s14114244577727609259x3
noncomputable abbrev L34:=SL.s1499430450269397089x4
noncomputable abbrev L35:=SL.s8755793994789770505x5
noncomputable abbrev L36:=SL.s15725212667919936108x3
noncomputable abbrev L37:=SL.s15791221867095933363x3
noncomputable abbrev L38:=SL.s81309575031448614x3
noncomputable abbrev L39:=SL.s8069831620301644142x5
noncomputable abbrev L40:=SL.s10061844253413749634x4
noncomputable abbrev L41:=SL.s9496514870978017513x5
noncomputable abbrev L42:=SL.s8899691144933366716x7
noncomputable abbrev L43:=SL.s15201008993051130160x6
noncomputable abbrev L44:=SL.s741896355592496720x3
noncomputable abbrev L45:=SL.s17925004256654032244x4
noncomputable abbrev L46:=SL.s11695548795398191787x4
noncomputable abbrev L47:=SL.s4156966113859768872x10
noncomputable abbrev L48:=SL.s9501651726347032510x9
noncomputable abbrev L49:=SL.s15722918466584999320x5
noncomputable abbrev L50:=SL.s591115383303110208x11
noncomputable abbrev L51:=SL.s15721156781594690315x7
noncomputable abbrev L52:=SL.s14340494229221121180x9
noncomputable abbrev L53:=SL.s13429844117177748173x6
noncomputable abbrev L54:=SL.s16463266125957815391x5
noncomputable abbrev L55:=SL.s4922535414793169389x9
noncomputable abbrev L56:=SL.s8101838861749082086x8
noncomputable abbrev L57:=SL.s7066276694103001551x3
noncomputable abbrev L58:=SL.s9222952809800978799x4
noncomputable abbrev L59:=SL.s462964344163437139x3
noncomputable abbrev L60:=SL.s2742458400755230247x6
noncomputable abbrev L61:=SL.s1438033511350832697x5
noncomputable abbrev L62:=SL.s14365286008749172514x8
noncomputable abbrev L63:=SL.s3642769012341782148x3
noncomputable abbrev L64:=SL.s4674234679698826739x5
noncomputable abbrev L65:=SL.s16656946322747308186x12
noncomputable abbrev L66:=SL.s10796804682411823810x3
noncomputable abbrev L67:=SL.s4290257624100764138x5
noncomputable abbrev L68:=SL.s2766695959194262286x5
noncomputable abbrev L69:=SL.s17162191345867700912x4
noncomputable abbrev L70:=SL.s14339709457334898076x3
noncomputable abbrev L71:=SL.s4278001404047624695x13
noncomputable abbrev L72:=SL.s6585700554429387442x18
noncomputable abbrev L73:=SL.s5946037652744460706x9
noncomputable abbrev L74:=SL.s7410770068591931388x13
noncomputable abbrev L75:=SL.s11817881795495490833x17
noncomputable abbrev L76:=SL.s15679963881808890155x10
noncomputable abbrev L77:=SL.s3871700062485845797x15
noncomputable abbrev L78:=SL.s7689518266570723881x14
noncomputable abbrev L79:=SL.s9001593270443806431x14
noncomputable abbrev L80:=SL.s6882542574934516792x11
noncomputable abbrev L81:=SL.s14403400214490484960x8
noncomputable abbrev L82:=SL.s14457978657717015782x11
noncomputable abbrev L83:=SL.s1753610191782819921x11
noncomputable abbrev L84:=SL.s14119380538032626715x11
noncomputable abbrev L85:=SL.s11437920000406562045x9
noncomputable abbrev L86:=SL.s10852414792293593619x7
noncomputable abbrev L87:=SL.s14816307405966870543x14
noncomputable abbrev L88:=SL.s8682627914449686677x12
noncomputable abbrev L89:=SL.s4428170145600203450x18
noncomputable abbrev L90:=SL.s5991306692159431302x13
noncomputable abbrev L91:=SL.s16067994140765818257x11
noncomputable abbrev L92:=SL.s2327743974964600596x11
noncomputable abbrev L93:=SL.s2804747833354056582x9
noncomputable abbrev L94:=SL.s6070975301684473832x10
noncomputable abbrev L95:=SL.s14270485950484850486x7
noncomputable abbrev L96:=SL.s12041534306414923332x18
noncomputable abbrev L97:=SL.s2531307568338490285x13
noncomputable abbrev L98:=SL.s631175304937289666x17
noncomputable abbrev L99:=SL.s5144983644357021410x12
noncomputable abbrev EX:=SL.s18039099521571816885x18
noncomputable abbrev EY:=SL.s6011586214260557989x15
noncomputable abbrev EZ:=SL.s5430567037509283100x13
noncomputable abbrev Fa:=SL.s8117915138073963741x13
noncomputable abbrev Fb:=SL.s3423317712779056401x25
noncomputable abbrev Fc:=SL.s2007317383269046180x15
noncomputable abbrev Fd:=SL.s17481586968713580700x14
noncomputable abbrev Fe:=SL.s2450899226349176912x13
noncomputable abbrev Ff:=SL.s16626165730633575011x14
noncomputable abbrev Fg:=SL.s14288496050688921416x11
noncomputable abbrev Fh:=SL.s5735081916595925998x15
noncomputable abbrev Fi:=SL.s3865607918536308442x17
noncomputable abbrev Fj:=SL.s13337502604062700212x15
noncomputable abbrev Fk:=SL.s13114017843053701147x15
noncomputable abbrev Fl:=SL.s17467278006356818441x17
noncomputable abbrev Fm:=SL.s17722149559621369488x16
noncomputable abbrev Fn:=SL.s7855274175708717672x17
noncomputable abbrev Fo:=SL.s13351283678309829046x18
noncomputable abbrev Fp:=SL.s6668348653404991179x15
noncomputable abbrev Fq:=SL.s12913350958174193794x18
noncomputable abbrev Fs:=SL.s16115879512475548326x12
noncomputable abbrev Ft:=SL.s15920661018069861047x16
noncomputable abbrev Fu:=SL.s10779130036587390575x21
noncomputable abbrev Fv:=SL.s7801419657504700863x10
noncomputable abbrev Fw:=SL.s1688129525768580628x8
noncomputable abbrev Fx:=SL.s1031832959479892071x19
noncomputable abbrev Fy:=SL.s8991790508128307865x19
noncomputable abbrev Fz:=SL.s14539662485746970245x23
noncomputable abbrev FA:=SL.s11643622729373238714x14
noncomputable abbrev FB:=SL.s3386828779285465597x17
noncomputable abbrev FC:=SL.s13042696260734638735x12
noncomputable abbrev FD:=SL.s18239426817015966623x15
noncomputable abbrev FE:=SL.s1270395311379034370x22
noncomputable abbrev FF:=SL.s10696252587037064777x22
noncomputable abbrev FG:=SL.s7852717498200857586x20
noncomputable abbrev FH:=SL.s6377248116197321094x8
noncomputable abbrev FI:=SL.s3834378056692298002x18
noncomputable abbrev FJ:=SL.s17586630440231065808x18
noncomputable abbrev FK:=SL.s15234114252648025395x21
noncomputable abbrev FL:=SL.s8496462677383758984x14
noncomputable abbrev FM:=SL.s16789243406116112673x4
noncomputable abbrev FN:=SL.s14400166428656793546x20
noncomputable abbrev FO:=SL.s5857708277339239366x20
noncomputable abbrev FP:=SL.s7804999707787243718x20
noncomputable abbrev uC:=SL.s7097527257260152453x26
noncomputable abbrev FQ:=SL.s6658869562736209489x6
noncomputable abbrev uD:=SL.s5856160107412720595x4
noncomputable abbrev EN:=SL.s658472552662922059x5
noncomputable abbrev sZ (w:World) (os:OsState):Shared:=⟨boot_heap w.params,Array.mk [],boot_drawn,boot_toks,os⟩
noncomputable def o11 (P:Params):Obj:=⟨(.type L68),none,(.seq #[] 0),#[]⟩
noncomputable def o12 (P:Params):Obj:=⟨.none,none,(.fields #[]),#[]⟩
noncomputable def g0 (x0:Str)(x1 x2 x3:Nat)(P:Params):Obj:=⟨(.type uD),none,(.fields #[.str x0 x1,.str x0 (x1+1),.str iE (x1+2),.int x2 0,.int 0 0,.int 0 0,.int 0 0,.int 0 0,.ref x3,.bool false,.int 181 0,.ref (x3+1),.none,.none,.none,.none,.int (x1+3) 0,.int x2 0,.str iE (x1+4)]),#[]⟩
noncomputable def o13:=g0 DN 182 1 11
noncomputable def g1 (x0 x1:Nat)(x2:Str)(x3:Nat)(P:Params):Obj:=⟨(.type EN),none,.plain,#[some (.ref x0),some (.ref 3),some (.ref x1),none,some (.str x2 x3),none,some (.ref 0)]⟩
noncomputable def o14:=g1 13 3 zW 164
noncomputable def hA (P:Params):Heap:=⟨⟨[boot_o_0 P,boot_o_1 P,boot_o_2 P,boot_o_3 P,boot_o_4 P,boot_o_5 P,boot_o_6 P,boot_o_7 P,boot_o_8 P,boot_o_9 P,boot_o_10 P,o11 P,o12 P,o13 P,o14 P]⟩,{ }⟩
noncomputable abbrev sA (w:World) (os:OsState):Shared:=⟨hA w.params,(Array.mk []),⟨0,0,0,0⟩,187,os⟩
noncomputable abbrev pA:Pos:=⟨0,0,0,0⟩
theorem pre (w:World):(fun os=>topGo treeTable pt w m0 an 12 (sZ w os) (topStub pt))=fun os=>some (sA w os,(⟨denote treeTable cE,cE,pA,B⟩:Thread)):=by
 rw [PySem.W.Fast.te15667345088766844465,PySem.W.Fast.te14364793385576792824,PySem.W.Fast.te11892475500146522536]; kernel_rfl
noncomputable def tB:Params→BT:=(f boot_o_0 (f boot_o_1 (f boot_o_3 (f boot_o_7 z z) (f o11 z z)) (f boot_o_5 (f boot_o_9 z z) (f o13 z z))) (f boot_o_2 (f boot_o_4 (f boot_o_8 z z) (f o12 z z)) (f boot_o_6 (f boot_o_10 z z) (f o14 z z))))
noncomputable abbrev sB (w:World) (os:OsState):SharedT:=⟨tB w.params,15,{ },(Array.mk []),⟨0,0,0,0⟩,187,os⟩
noncomputable abbrev pB:Pos:=⟨0,0,0,0⟩
theorem blk (w:World):(fun os=>segRun treeTable pt w m0 an 1 1 (sA w os) ⟨(blockStart (behindTheImports pt) en).wrap (fun _=>doneF .next) deadEnd id id,cE,pA,B⟩)=fun os=>some (.next,(sB w os).abs,cE,pB):=by
 rw [PySem.W.Fast.te14374325043358763698,PySem.W.Fast.te14364793385576792824,PySem.W.Fast.te1066825118222455980]; kernel_rfl
noncomputable def EO (P:Params):Obj:=⟨(.type L0),none,(.dict #[e P S0 165 (.str cV 194),e P S2 166 .none,e P S3 167 .none,e P S4 168 (.builtin uC),e P S5 169 .none,e P tU 170 (.ref 6),e P tV 171 (.ref 4),e P tW 173 (.str iE 172),e P tX 174 .none,e P jx 193 (.ref 21),e P eK 213 (.ref 31),e P kF 229 (.ref 44),e P kG 245 (.ref 56),e P kH 261 (.ref 68),e P kI 277 (.ref 80),e P kJ 293 (.ref 92),e P kL 309 (.ref 104),e P kM 325 (.ref 116),e P kN 341 (.ref 128)] 19),#[]⟩
noncomputable def Am (P:Params):Obj:=⟨.none,none,(.fields #[.int 1 0,.int 0 0,.ref 20,.int 5 0,.int 0 0,.ref 27,.int 7 0,.int 0 0,.ref 40,.int 9 0,.int 0 0,.ref 52,.int 11 0,.int 0 0,.ref 64,.int 13 0,.int 0 0,.ref 76,.int 15 0,.int 0 0,.ref 88,.int 17 0,.int 0 0,.ref 100,.int 19 0,.int 0 0,.ref 112,.int 21 0,.int 0 0,.ref 124]),#[]⟩
noncomputable def g2 (x0:Str)(x1:Nat)(P:Params):Obj:=⟨(.type L68),none,(.seq #[.str x0 x1] 0),#[]⟩
noncomputable def o17:=g2 DQ 190
noncomputable def g3 (x0:Str)(x1:Nat)(P:Params):Obj:=⟨.none,none,(.func ⟨x0,x0,L2.defArgs (tp x1),(.stmts (L2.defBody (tp x1))),L2.defScope (tp x1),0,[],.none,.none,.none,.none,none,.none,.none,0⟩),#[]⟩
noncomputable def o19:=g3 jx 0
noncomputable def g4 (x0:Str)(x1:Nat)(x2:Str)(x3 x4 x5 x6:Nat)(P:Params):Obj:=⟨(.type uD),none,(.fields #[.str x0 x1,.str x2 (x1+1),.str iE (x1+2),.int x3 0,.int x4 0,.int 0 0,.int 0 0,.int 3 0,.ref x5,.bool true,.int 181 0,.ref (x5+1),.none,.ref (x5+2),.ref (x5+3),.ref (x5+4),.int x6 0,.int x3 0,.str iE (x6+1)]),#[]⟩
noncomputable def o20:=g4 jx 187 jx 1 1 15 191
noncomputable abbrev An:=SL.s7174869446012820540x8
noncomputable def g5 (x0:Str)(x1:Nat)(x2:Str)(x3 x4:Nat)(P:Params):Obj:=⟨(.type An),none,(.func ⟨x0,x0,L2.defArgs (tp x1),(.stmts (L2.defBody (tp x1))),L2.defScope (tp x1),3,[],.none,.none,.none,.str x2 x3,none,.ref x4,.none,0⟩),#[]⟩
noncomputable def o21:=g5 jx 0 zW 164 20
noncomputable def o22 (P:Params):Obj:=⟨(.type L68),none,(.seq #[.type L94] 0),#[]⟩
noncomputable abbrev Ao:=SL.s11030030927630378310x26
noncomputable abbrev EQ:=SL.s10062305145149207511x16
noncomputable def o23 (P:Params):Obj:=⟨(.type Ao),none,(.fields #[.builtin EQ,.type L69]),#[]⟩
noncomputable def g6 (x0:Nat)(x1:Str)(x2 x3:Nat)(P:Params):Obj:=⟨(.type L0),none,(.dict #[e P pM x0 (.str cV 194),e P zX (x0+2) (.str x1 (x0+1)),e P pN (x0+4) (.int x2 (x0+3)),e P pO (x0+5) (.ref x3)] 4),#[]⟩
noncomputable def o24:=g6 203 eK 5 29
noncomputable def o27:=g0 eK 198 5 25
noncomputable def o28:=g1 27 24 cV 194
noncomputable def o30 (P:Params):Obj:=⟨(.type L0),none,(.dict #[e P pM 203 (.str cV 194),e P pN 207 (.int 5 206),e P pO 208 (.ref 29),e P tY 210 (.ref 32),e P S2 211 .none] 3),#[]⟩
noncomputable abbrev uE:=SL.s4209523147560561109x18
noncomputable def o31 (P:Params):Obj:=⟨(.type L69),none,(.cls ⟨eK,[.type L94],[.ref 31,.type L94,.type L73,.type L71,.type L60],30,eK,true,[],[.ref 44,.ref 56,.ref 68,.ref 80,.ref 92,.ref 104,.ref 116,.ref 128],false,none,false⟩),#[some (.ref 22),none,some (.str eK 196),some (.str eK 204),some (.builtin uE),some (.bool true)]⟩
noncomputable abbrev Ap:=SL.s14755015743595814543x17
noncomputable abbrev ER:=SL.s10220274742760427390x26
noncomputable def g7 (x0 x1:Nat)(P:Params):Obj:=⟨(.type Ap),none,(.fields #[.str tY x0,.ref x1,.builtin ER,.none]),#[]⟩
noncomputable def o32:=g7 209 31
noncomputable def g8 (x0:Nat)(P:Params):Obj:=⟨(.type L67),none,(.fields #[.ref x0,.ref x0,.ref x0]),#[]⟩
noncomputable def o33:=g8 31
noncomputable abbrev ES:=SL.s4860613602091757760x24
noncomputable def g9 (x0:Nat)(P:Params):Obj:=⟨(.type Ao),none,(.fields #[.builtin ES,.ref x0]),#[]⟩
noncomputable def o34:=g9 31
noncomputable def o35 (P:Params):Obj:=⟨(.type L68),none,(.seq #[.ref 31] 0),#[]⟩
noncomputable def o37:=g6 221 kF 7 42
noncomputable def o40:=g0 kF 216 7 38
noncomputable def o41:=g1 40 37 cV 194
noncomputable def g10 (x0 x1 x2:Nat)(P:Params):Obj:=⟨(.type L0),none,(.dict #[e P pM x0 (.str cV 194),e P pN (x0+4) (.int x1 (x0+3)),e P pO (x0+5) (.ref x2),e P S2 (x0+6) .none] 2),#[]⟩
noncomputable def o43:=g10 221 7 42
noncomputable def g11 (x0:Str)(x1 x2 x3 x4:Nat)(P:Params):Obj:=⟨(.type L69),none,(.cls ⟨x0,[.ref 31],[.ref x1,.ref 31,.type L94,.type L73,.type L71,.type L60],x2,x0,true,[],[],false,none,false⟩),#[some (.ref x3),none,some (.str x0 x4),some (.str x0 (x4+8)),some (.builtin uE),some (.bool true)]⟩
noncomputable def o44:=g11 kF 44 43 35 214
noncomputable def o45:=g8 44
noncomputable def o46:=g9 44
noncomputable def o49:=g6 237 kG 9 54
noncomputable def o52:=g0 kG 232 9 50
noncomputable def o53:=g1 52 49 cV 194
noncomputable def o55:=g10 237 9 54
noncomputable def o56:=g11 kG 56 55 47 230
noncomputable def o57:=g8 56
noncomputable def o58:=g9 56
noncomputable def o61:=g6 253 kH 11 66
noncomputable def o64:=g0 kH 248 11 62
noncomputable def o65:=g1 64 61 cV 194
noncomputable def o67:=g10 253 11 66
noncomputable def o68:=g11 kH 68 67 59 246
noncomputable def o69:=g8 68
noncomputable def o70:=g9 68
noncomputable def o73:=g6 269 kI 13 78
noncomputable def o76:=g0 kI 264 13 74
noncomputable def o77:=g1 76 73 cV 194
noncomputable def o79:=g10 269 13 78
noncomputable def o80:=g11 kI 80 79 71 262
noncomputable def o81:=g8 80
noncomputable def o82:=g9 80
noncomputable def o85:=g6 285 kJ 15 90
noncomputable def o88:=g0 kJ 280 15 86
noncomputable def o89:=g1 88 85 cV 194
noncomputable def o91:=g10 285 15 90
noncomputable def o92:=g11 kJ 92 91 83 278
noncomputable def o93:=g8 92
noncomputable def o94:=g9 92
noncomputable def o97:=g6 301 kL 17 102
noncomputable def rn:=g0 kL 296 17 98
noncomputable def rp:=g1 100 97 cV 194
noncomputable def rq:=g10 301 17 102
noncomputable def rA:=g11 kL 104 103 95 294
noncomputable def rB:=g8 104
noncomputable def rC:=g9 104
noncomputable def rD:=g6 317 kM 19 114
noncomputable def rE:=g0 kM 312 19 110
noncomputable def rF:=g1 112 109 cV 194
noncomputable def rG:=g10 317 19 114
noncomputable def rH:=g11 kM 116 115 107 310
noncomputable def rJ:=g8 116
noncomputable def rK:=g9 116
noncomputable def rL:=g6 333 kN 21 126
noncomputable def rM:=g0 kN 328 21 122
noncomputable def rN:=g1 124 121 cV 194
noncomputable def rO:=g10 333 21 126
noncomputable def rP:=g11 kN 128 127 119 326
noncomputable def rQ:=g8 128
noncomputable def rR:=g9 128
noncomputable def t0:Params→BT:=(f boot_o_0 (f boot_o_1 (f EO (f boot_o_7 (f o11 (f o31 (f o12 (f rO z z) z) (f o35 z z)) (f o35 (f o79 z z) (f o12 z z))) (f o23 (f o12 (f o35 z z) (f rq z z)) (f o55 (f o12 z z) (f o35 z z)))) (f o11 (f o19 (f o35 (f o67 z z) (f o12 z z)) (f o12 (f o35 z z) (f rG z z))) (f o27 (f o43 (f o12 z z) (f o35 z z)) (f o35 (f o91 z z) (f o12 z z))))) (f boot_o_5 (f boot_o_9 (f o17 (f o33 (f o65 (f rQ z z) z) (f o97 z z)) (f o49 (f o81 z z) (f rF z z))) (f o11 (f o41 (f o73 z z) (f rB z z)) (f o57 (f o89 z z) (f rL z z)))) (f o13 (f o21 (f o37 (f o69 z z) (f rp z z)) (f o53 (f o85 z z) (f rJ z z))) (f o11 (f o45 (f o77 z z) (f rD z z)) (f o61 (f o93 z z) (f rN z z)))))) (f boot_o_2 (f boot_o_4 (f boot_o_8 (f o12 (f o32 (f o64 (f rP z z) z) (f o23 z z)) (f o23 (f o80 z z) (f rE z z))) (f o24 (f o40 (f o23 z z) (f rA z z)) (f o56 (f o88 z z) (f o23 z z)))) (f Am (f o20 (f o23 (f o68 z z) (f rn z z)) (f o52 (f o23 z z) (f rH z z))) (f o28 (f o44 (f o76 z z) (f o23 z z)) (f o23 (f o92 z z) (f rM z z))))) (f boot_o_6 (f boot_o_10 (f o11 (f o34 (f o11 (f rR z z) z) (f o11 z z)) (f o11 (f o82 z z) (f o11 z z))) (f o12 (f o11 (f o11 z z) (f rC z z)) (f o58 (f o11 z z) (f o11 z z)))) (f o14 (f o22 (f o11 (f o70 z z) (f o11 z z)) (f o11 (f o11 z z) (f rK z z))) (f o30 (f o46 (f o11 z z) (f o11 z z)) (f o11 (f o94 z z) (f o11 z z)))))))
noncomputable abbrev s0 (w:World) (os:OsState):SharedT:=⟨t0 w.params,131,{ },(Array.mk []),⟨0,0,0,0⟩,342,os⟩
noncomputable abbrev p0:Pos:=⟨21,0,22,8⟩
noncomputable abbrev st0:List Stmt:=(pt.main.body.drop 0).take 11
theorem q0 (w:World):(fun os=>segRunT treeTable pt w m0 an 1 1929 (sB w os) ⟨(execs st0 en).wrap doneF deadEnd id id,cE,pB,B⟩)=fun os=>some (.next,s0 w os,cE,p0):=by
 rw [PySem.W.Fast.te10110043849684766642,PySem.W.Fast.te14364793385576792824,PySem.W.Fast.te12563942051412417395]; kernel_rfl
noncomputable def ET (P:Params):Obj:=⟨(.type L0),none,(.dict #[e P S0 165 (.str kO 583),e P S2 166 .none,e P S3 167 .none,e P S4 168 (.builtin uC),e P S5 169 .none,e P tU 170 (.ref 6),e P tV 171 (.ref 4),e P tW 173 (.str iE 172),e P tX 174 .none,e P jx 193 (.ref 21),e P eK 213 (.ref 31),e P kF 229 (.ref 44),e P kG 245 (.ref 56),e P kH 261 (.ref 68),e P kI 277 (.ref 80),e P kJ 293 (.ref 92),e P kL 309 (.ref 104),e P kM 325 (.ref 116),e P kN 341 (.ref 128),e P mQ 357 (.ref 140),e P mR 373 (.ref 152),e P mS 389 (.ref 164),e P mT 405 (.ref 176),e P mU 421 (.ref 188),e P kP 431 (.ref 197),e P kQ 438 (.ref 204),e P kR 445 (.ref 211),e P kS 453 (.ref 218),e P tZ 457 (.str ua 456),e P ub 459 (.str uc 458),e P ud 460 (.ref 219),e P kT 475 (.ref 226),e P ue 479 (.int 4 478),e P kU 489 (.ref 233),e P kW 503 (.ref 240),e P kX 511 (.ref 247),e P kY 517 (.ref 252),e P uf 519 (.str zY 518),e P ug 521 (.str uh 520),e P ui 525 (.str zZ 524),e P uj 527 (.str Aa 526),e P kZ 539 (.ref 259),e P le 545 (.ref 264),e P lf 558 (.ref 271),e P lg 576 (.ref 278),e P lh 582 (.ref 283),e P uk 586 (.int 8 585),e P um 588 (.int 5 587),e P li 600 (.ref 290),e P lj 607 (.ref 297)] 50),#[]⟩
noncomputable def Aq (P:Params):Obj:=⟨.none,none,(.fields #[.int 1 0,.int 0 0,.ref 20,.int 5 0,.int 0 0,.ref 27,.int 7 0,.int 0 0,.ref 40,.int 9 0,.int 0 0,.ref 52,.int 11 0,.int 0 0,.ref 64,.int 13 0,.int 0 0,.ref 76,.int 15 0,.int 0 0,.ref 88,.int 17 0,.int 0 0,.ref 100,.int 19 0,.int 0 0,.ref 112,.int 21 0,.int 0 0,.ref 124,.int 23 0,.int 0 0,.ref 136,.int 25 0,.int 0 0,.ref 148,.int 27 0,.int 0 0,.ref 160,.int 29 0,.int 0 0,.ref 172,.int 31 0,.int 0 0,.ref 184,.int 34 0,.int 0 0,.ref 196,.int 36 0,.int 0 0,.ref 203,.int 38 0,.int 0 0,.ref 210,.int 40 0,.int 0 0,.ref 217,.int 47 0,.int 0 0,.ref 225,.int 54 0,.int 0 0,.ref 232,.int 58 0,.int 0 0,.ref 239,.int 62 0,.int 0 0,.ref 246,.int 64 0,.int 0 0,.ref 251,.int 79 0,.int 0 0,.ref 258,.int 87 0,.int 0 0,.ref 263,.int 96 0,.int 0 0,.ref 270,.int 101 0,.int 0 0,.ref 277,.int 116 0,.int 0 0,.ref 282,.int 123 0,.int 0 0,.ref 289,.int 130 0,.int 0 0,.ref 296]),#[]⟩
noncomputable def qh (P:Params):Obj:=⟨(.type L69),none,(.cls ⟨eK,[.type L94],[.ref 31,.type L94,.type L73,.type L71,.type L60],30,eK,true,[],[.ref 44,.ref 56,.ref 68,.ref 80,.ref 92,.ref 104,.ref 116,.ref 128,.ref 140,.ref 152,.ref 164,.ref 176,.ref 188],false,none,false⟩),#[some (.ref 22),none,some (.str eK 196),some (.str eK 204),some (.builtin uE),some (.bool true)]⟩
noncomputable def uF:=g6 349 mQ 23 138
noncomputable def uG:=g0 mQ 344 23 134
noncomputable def uH:=g1 136 133 cV 194
noncomputable def uI:=g10 349 23 138
noncomputable def uJ:=g11 mQ 140 139 131 342
noncomputable def uK:=g8 140
noncomputable def uL:=g9 140
noncomputable def uM:=g6 365 mR 25 150
noncomputable def uN:=g0 mR 360 25 146
noncomputable def uO:=g1 148 145 cV 194
noncomputable def uP:=g10 365 25 150
noncomputable def uQ:=g11 mR 152 151 143 358
noncomputable def uR:=g8 152
noncomputable def uS:=g9 152
noncomputable def uT:=g6 381 mS 27 162
noncomputable def uU:=g0 mS 376 27 158
noncomputable def uV:=g1 160 157 cV 194
noncomputable def uW:=g10 381 27 162
noncomputable def uX:=g11 mS 164 163 155 374
noncomputable def uY:=g8 164
noncomputable def uZ:=g9 164
noncomputable def va:=g6 397 mT 29 174
noncomputable def vb:=g0 mT 392 29 170
noncomputable def vc:=g1 172 169 cV 194
noncomputable def vd:=g10 397 29 174
noncomputable def ve:=g11 mT 176 175 167 390
noncomputable def vf:=g8 176
noncomputable def vg:=g9 176
noncomputable def vh:=g6 413 mU 31 186
noncomputable def vi:=g0 mU 408 31 182
noncomputable def vj:=g1 184 181 cV 194
noncomputable def vk:=g10 413 31 186
noncomputable def vm:=g11 mU 188 187 179 406
noncomputable def vn:=g8 188
noncomputable def vo:=g9 188
noncomputable def g12 (x0:Str)(x1:Nat)(x2:Str)(x3:Nat)(P:Params):Obj:=⟨(.type L68),none,(.seq #[.str x0 x1,.str x2 x3] 0),#[]⟩
noncomputable def vp:=g12 pP 427 DV 428
noncomputable def vq:=g3 kP 17
noncomputable def vt:=g4 kP 424 kP 34 2 191 429
noncomputable def vw:=g5 kP 17 rf 422 196
noncomputable def vx:=g2 pP 435
noncomputable def vy:=g3 kQ 18
noncomputable def vz:=g4 kQ 432 kQ 36 1 198 436
noncomputable def vA:=g5 kQ 18 rf 422 203
noncomputable def vB:=g2 pP 442
noncomputable def vC:=g3 kR 19
noncomputable def vD:=g4 kR 439 kR 38 1 205 443
noncomputable def vE:=g5 kR 19 rf 422 210
noncomputable def vF:=g12 pQ 449 pR 450
noncomputable def vG:=g3 kS 20
noncomputable def vH:=g4 kS 446 kS 40 2 212 451
noncomputable def vI:=g5 kS 20 rf 422 217
noncomputable def vJ:=g12 ua 456 uc 458
noncomputable def vK (P:Params):Obj:=⟨(.type L68),none,(.seq #[.str rg 464,.str pQ 465,.str pR 466,.str mV 467,.str pT 468,.str rh 469,.str rj 470,.str DX 471,.str DY 472] 0),#[]⟩
noncomputable def vL:=g3 kT 25
noncomputable def vM:=g4 kT 461 kT 47 7 220 473
noncomputable def vN:=g5 kT 25 DZ 454 225
noncomputable def g13 (x0:Str)(x1:Nat)(x2 x3 x4:Str)(P:Params):Obj:=⟨(.type L68),none,(.seq #[.str x0 x1,.str x2 (x1+1),.str x3 (x1+2),.str x4 (x1+3)] 0),#[]⟩
noncomputable def vO:=g13 rg 483 pQ pR pP
noncomputable def vP:=g3 kU 28
noncomputable def vQ:=g4 kU 480 kU 54 4 227 487
noncomputable def vR:=g5 kU 28 rm 476 232
noncomputable def vS (P:Params):Obj:=⟨(.type L68),none,(.seq #[.str rg 493,.str uh 494,.str mV 495,.str pT 496,.str rh 497,.str rj 498,.str pQ 499,.str pR 500] 0),#[]⟩
noncomputable def vT:=g3 kW 29
noncomputable def vU:=g4 kW 490 kW 58 2 234 501
noncomputable def vV:=g5 kW 29 rm 476 239
noncomputable def vW:=g12 Ea 507 Eb 508
noncomputable def vX:=g3 kX 30
noncomputable def vY:=g4 kX 504 kX 62 2 241 509
noncomputable def vZ:=g5 kX 30 rm 476 246
noncomputable def wc:=g3 kY 31
noncomputable def g14 (x0:Str)(x1:Nat)(x2:Str)(x3 x4 x5:Nat)(P:Params):Obj:=⟨(.type uD),none,(.fields #[.str x0 x1,.str x2 (x1+1),.str iE (x1+2),.int x3 0,.int x4 0,.int 0 0,.int 0 0,.int 3 0,.ref x5,.bool true,.int 181 0,.ref (x5+1),.none,.none,.none,.ref (x5+2),.int (x1+3) 0,.int x3 0,.str iE (x1+4)]),#[]⟩
noncomputable def we:=g14 kY 512 kY 64 4 248
noncomputable def wf:=g5 kY 31 rm 476 251
noncomputable def g15 (x0:Str)(x1:Nat)(x2 x3 x4 x5 x6:Str)(P:Params):Obj:=⟨(.type L68),none,(.seq #[.str x0 x1,.str x2 (x1+1),.str x3 (x1+2),.str x4 (x1+3),.str x5 (x1+4),.str x6 (x1+5)] 0),#[]⟩
noncomputable def wg:=g15 mW 531 Ed Ee Ef Eg Eh
noncomputable def wj:=g3 kZ 37
noncomputable def wk:=g4 kZ 528 kZ 79 2 253 537
noncomputable def wm:=g5 kZ 37 pU 522 258
noncomputable def wn:=g3 le 38
noncomputable def wr:=g14 le 540 le 87 2 260
noncomputable def wu:=g5 le 38 pU 522 263
noncomputable def g16 (x0:Str)(x1:Nat)(x2 x3 x4 x5 x6 x7:Str)(P:Params):Obj:=⟨(.type L68),none,(.seq #[.str x0 x1,.str x2 (x1+1),.str x3 (x1+2),.str x4 (x1+3),.str x5 (x1+4),.str x6 (x1+5),.str x7 (x1+6)] 0),#[]⟩
noncomputable def ww:=g16 rh 549 rj Ab mV pT Ei Ej
noncomputable def wx:=g3 lf 39
noncomputable def wz:=g4 lf 546 lf 96 3 265 556
noncomputable def wA:=g5 lf 39 pU 522 270
noncomputable def wB (P:Params):Obj:=⟨(.type L68),none,(.seq #[.str rg 562,.str rh 563,.str rj 564,.str Ab 565,.str Ek 566,.str El 567,.str Em 568,.str En 569,.str Eo 570,.str Ep 571,.str Er 572,.str Es 573] 0),#[]⟩
noncomputable def wC:=g3 lg 40
noncomputable def wD:=g4 lg 559 lg 101 4 272 574
noncomputable def wE:=g5 lg 40 pU 522 277
noncomputable def wF:=g3 lh 41
noncomputable def wG:=g14 lh 577 lh 116 4 279
noncomputable def wH:=g5 lh 41 pU 522 282
noncomputable def wI:=g15 pP 592 pQ pR Et mX Eu
noncomputable def wJ:=g3 li 45
noncomputable def wK:=g4 li 589 li 123 1 284 598
noncomputable def wL:=g5 li 45 kO 583 289
noncomputable def wM:=g2 mV 604
noncomputable def wN:=g3 lj 46
noncomputable def wO:=g4 lj 601 lj 130 1 291 605
noncomputable def wP:=g5 lj 46 kO 583 296
noncomputable def t1:Params→BT:=(f boot_o_0 (f boot_o_1 (f ET (f boot_o_7 (f o11 (f qh (f o12 (f rO (f wg z z) z) (f o11 z z)) (f o35 (f o12 (f o11 z z) z) (f o11 z z))) (f o35 (f o79 (f o35 (f wA z z) z) (f vB z z)) (f o12 (f vd z z) (f vU z z)))) (f o23 (f o12 (f o35 (f o12 (f wr z z) z) (f o12 z z)) (f rq (f o35 (f wN z z) z) (f vP z z))) (f o55 (f o12 (f uP (f o11 z z) z) (f o11 z z)) (f o35 (f o12 z z) (f vZ z z))))) (f o11 (f o19 (f o35 (f o67 (f o35 (f wm z z) z) (f vq z z)) (f o12 (f uW (f o11 z z) z) (f o11 z z))) (f o12 (f o35 (f o12 (f o11 z z) z) (f vE z z)) (f rG (f o35 z z) (f vW z z)))) (f o27 (f o43 (f o12 (f uI (f ww z z) z) (f vz z z)) (f o35 (f o12 z z) (f o12 z z))) (f o35 (f o91 (f o35 (f wH z z) z) (f vJ z z)) (f o12 (f vk z z) (f we z z)))))) (f boot_o_5 (f boot_o_9 (f o17 (f o33 (f o65 (f rQ (f wj z z) z) (f vp z z)) (f o97 (f uV (f wK z z) z) (f vM z z))) (f o49 (f o81 (f uM (f o12 z z) z) (f vC z z)) (f rF (f vf z z) (f o11 z z)))) (f o11 (f o41 (f o73 (f uH (f o11 z z) z) (f o11 z z)) (f rB (f va (f wP z z) z) (f vR z z))) (f o57 (f o89 (f uR (f wF z z) z) (f vH z z)) (f rL (f vj z z) (f o12 z z))))) (f o13 (f o21 (f o37 (f o69 (f uF (f o12 z z) z) (f vw z z)) (f rp (f uY (f wM z z) z) (f vO z z))) (f o53 (f o85 (f uO (f wD z z) z) (f o12 z z)) (f rJ (f vh z z) (f vX z z)))) (f o11 (f o45 (f o77 (f uK (f wx z z) z) (f o11 z z)) (f rD (f vc z z) (f o11 z z))) (f o61 (f o93 (f uT (f o12 z z) z) (f o12 z z)) (f rN (f vn z z) (f o11 z z))))))) (f boot_o_2 (f boot_o_4 (f boot_o_8 (f o12 (f o32 (f o64 (f rP (f o11 z z) z) (f o12 z z)) (f o23 (f uU (f wJ z z) z) (f vL z z))) (f o23 (f o80 (f o23 (f o11 z z) z) (f o11 z z)) (f rE (f ve z z) (f vV z z)))) (f o24 (f o40 (f o23 (f uG (f wu z z) z) (f vx z z)) (f rA (f o23 (f wO z z) z) (f vQ z z))) (f o56 (f o88 (f uQ (f o12 z z) z) (f vG z z)) (f o23 (f vi z z) (f o11 z z))))) (f Aq (f o20 (f o23 (f o68 (f o23 (f o11 z z) z) (f vt z z)) (f rn (f uX (f o12 z z) z) (f o12 z z))) (f o52 (f o23 (f uN (f wC z z) z) (f o11 z z)) (f rH (f o23 z z) (f o11 z z)))) (f o28 (f o44 (f o76 (f uJ (f o11 z z) z) (f vA z z)) (f o23 (f vb z z) (f vS z z))) (f o23 (f o92 (f o23 (f o11 z z) z) (f o11 z z)) (f rM (f vm z z) (f wf z z)))))) (f boot_o_6 (f boot_o_10 (f o11 (f o34 (f o11 (f rR (f wk z z) z) (f o11 z z)) (f o11 (f o11 (f wL z z) z) (f vN z z))) (f o11 (f o82 (f o11 (f wB z z) z) (f vD z z)) (f o11 (f vg z z) (f o12 z z)))) (f o12 (f o11 (f o11 (f o11 (f o12 z z) z) (f vy z z)) (f rC (f o11 z z) (f o11 z z))) (f o58 (f o11 (f uS (f wG z z) z) (f vI z z)) (f o11 (f o11 z z) (f wc z z))))) (f o14 (f o22 (f o11 (f o70 (f o11 (f wn z z) z) (f o11 z z)) (f o11 (f uZ (f o11 z z) z) (f o11 z z))) (f o11 (f o11 (f o11 (f wE z z) z) (f vF z z)) (f rK (f o11 z z) (f vY z z)))) (f o30 (f o46 (f o11 (f uL (f wz z z) z) (f o12 z z)) (f o11 (f o11 z z) (f vT z z))) (f o11 (f o94 (f o11 (f wI z z) z) (f vK z z)) (f o11 (f vo z z) (f o12 z z))))))))
noncomputable abbrev s1 (w:World) (os:OsState):SharedT:=⟨t1 w.params,298,{ },(Array.mk []),⟨0,0,0,0⟩,608,os⟩
noncomputable abbrev p1:Pos:=⟨130,0,131,41⟩
noncomputable abbrev st1:List Stmt:=(pt.main.body.drop 11).take 36
theorem q1 (w:World):(fun os=>segRunT treeTable pt w m0 an 1 1709 (s0 w os) ⟨(execs st1 en).wrap doneF deadEnd id id,cE,p0,B⟩)=fun os=>some (.next,s1 w os,cE,p1):=by
 rw [PySem.W.Fast.te10110043849684766642,PySem.W.Fast.te14364793385576792824,PySem.W.Fast.te12563942051412417395]; kernel_rfl
noncomputable def Ar (P:Params):Obj:=⟨(.type L0),none,(.dict #[e P S0 165 (.str cH 682),e P S2 166 .none,e P S3 167 .none,e P S4 168 (.builtin uC),e P S5 169 .none,e P tU 170 (.ref 6),e P tV 171 (.ref 4),e P tW 173 (.str iE 172),e P tX 174 .none,e P jx 193 (.ref 21),e P eK 213 (.ref 31),e P kF 229 (.ref 44),e P kG 245 (.ref 56),e P kH 261 (.ref 68),e P kI 277 (.ref 80),e P kJ 293 (.ref 92),e P kL 309 (.ref 104),e P kM 325 (.ref 116),e P kN 341 (.ref 128),e P mQ 357 (.ref 140),e P mR 373 (.ref 152),e P mS 389 (.ref 164),e P mT 405 (.ref 176),e P mU 421 (.ref 188),e P kP 431 (.ref 197),e P kQ 438 (.ref 204),e P kR 445 (.ref 211),e P kS 453 (.ref 218),e P tZ 457 (.str ua 456),e P ub 459 (.str uc 458),e P ud 460 (.ref 219),e P kT 475 (.ref 226),e P ue 479 (.int 4 478),e P kU 489 (.ref 233),e P kW 503 (.ref 240),e P kX 511 (.ref 247),e P kY 517 (.ref 252),e P uf 519 (.str zY 518),e P ug 521 (.str uh 520),e P ui 525 (.str zZ 524),e P uj 527 (.str Aa 526),e P kZ 539 (.ref 259),e P le 545 (.ref 264),e P lf 558 (.ref 271),e P lg 576 (.ref 278),e P lh 582 (.ref 283),e P uk 586 (.int 8 585),e P um 588 (.int 5 587),e P li 600 (.ref 290),e P lj 607 (.ref 297),e P jy 681 (.ref 352),e P mY 691 (.ref 363),e P mZ 699 (.ref 370),e P ng 708 (.ref 377),e P nh 716 (.ref 384),e P ni 725 (.ref 391),e P nj 733 (.ref 398),e P nq 746 (.ref 405),e P nr 757 (.ref 412),e P nu 767 (.ref 419),e P nv 776 (.ref 426),e P nw 784 (.ref 433),e P ny 790 (.ref 438),e P nz 810 (.ref 445),e P nA 819 (.ref 452),e P nC 831 (.ref 459),e P nD 843 (.ref 466),e P nE 851 (.ref 473),e P nF 857 (.ref 478),e P nG 870 (.ref 485),e P pV 892 (.ref 492)] 71),#[]⟩
noncomputable def sv (P:Params):Obj:=⟨.none,none,(.fields #[.int 1 0,.int 0 0,.ref 20,.int 5 0,.int 0 0,.ref 27,.int 7 0,.int 0 0,.ref 40,.int 9 0,.int 0 0,.ref 52,.int 11 0,.int 0 0,.ref 64,.int 13 0,.int 0 0,.ref 76,.int 15 0,.int 0 0,.ref 88,.int 17 0,.int 0 0,.ref 100,.int 19 0,.int 0 0,.ref 112,.int 21 0,.int 0 0,.ref 124,.int 23 0,.int 0 0,.ref 136,.int 25 0,.int 0 0,.ref 148,.int 27 0,.int 0 0,.ref 160,.int 29 0,.int 0 0,.ref 172,.int 31 0,.int 0 0,.ref 184,.int 34 0,.int 0 0,.ref 196,.int 36 0,.int 0 0,.ref 203,.int 38 0,.int 0 0,.ref 210,.int 40 0,.int 0 0,.ref 217,.int 47 0,.int 0 0,.ref 225,.int 54 0,.int 0 0,.ref 232,.int 58 0,.int 0 0,.ref 239,.int 62 0,.int 0 0,.ref 246,.int 64 0,.int 0 0,.ref 251,.int 79 0,.int 0 0,.ref 258,.int 87 0,.int 0 0,.ref 263,.int 96 0,.int 0 0,.ref 270,.int 101 0,.int 0 0,.ref 277,.int 116 0,.int 0 0,.ref 282,.int 123 0,.int 0 0,.ref 289,.int 130 0,.int 0 0,.ref 296,.int 132 0,.int 0 0,.ref 303,.int 170 0,.int 0 0,.ref 362,.int 174 0,.int 0 0,.ref 369,.int 176 0,.int 0 0,.ref 376,.int 183 0,.int 0 0,.ref 383,.int 186 0,.int 0 0,.ref 390,.int 190 0,.int 0 0,.ref 397,.int 193 0,.int 0 0,.ref 404,.int 201 0,.int 0 0,.ref 411,.int 204 0,.int 0 0,.ref 418,.int 211 0,.int 0 0,.ref 425,.int 214 0,.int 0 0,.ref 432,.int 216 0,.int 0 0,.ref 437,.int 221 0,.int 0 0,.ref 444,.int 235 0,.int 0 0,.ref 451,.int 243 0,.int 0 0,.ref 458,.int 250 0,.int 0 0,.ref 465,.int 257 0,.int 0 0,.ref 472,.int 260 0,.int 0 0,.ref 477,.int 275 0,.int 0 0,.ref 484,.int 287 0,.int 0 0,.ref 491]),#[]⟩
noncomputable def As (P:Params):Obj:=⟨(.type L0),none,(.dict #[e P pM 615 (.str kO 583),e P zX 617 (.str jy 616),e P pN 619 (.int 132 618),e P pW 625 (.ref 309),e P mW 632 (.ref 316),e P pX 639 (.ref 323),e P mX 645 (.ref 328),e P pY 652 (.ref 335),e P pZ 661 (.ref 342),e P qa 671 (.ref 349),e P pO 674 (.ref 350)] 11),#[]⟩
noncomputable def At (P:Params):Obj:=⟨.none,none,(.fields #[.int 134 0,.int 4 0,.ref 308,.int 145 0,.int 4 0,.ref 315,.int 148 0,.int 4 0,.ref 322,.int 151 0,.int 4 0,.ref 327,.int 154 0,.int 4 0,.ref 334,.int 157 0,.int 4 0,.ref 341,.int 162 0,.int 4 0,.ref 348]),#[]⟩
noncomputable def Au:=g0 jy 610 132 301
noncomputable def Av:=g1 303 300 kO 583
noncomputable def g17 (x0 x1:Str)(x2:Nat)(P:Params):Obj:=⟨.none,none,(.func ⟨x0,x1,L2.defArgs (L2.inClass (tp 47) x2),(.stmts (L2.defBody (L2.inClass (tp 47) x2))),L2.defScope (L2.inClass (tp 47) x2),0,[],.none,.none,.none,.none,none,.none,.none,0⟩),#[]⟩
noncomputable def Aw:=g17 pW uo 0
noncomputable def Ax:=g14 pW 620 uo 134 3 305
noncomputable def g18 (x0 x1:Str)(x2 x3:Nat)(P:Params):Obj:=⟨(.type An),none,(.func ⟨x0,x1,L2.defArgs (L2.inClass (tp 47) x2),(.stmts (L2.defBody (L2.inClass (tp 47) x2))),L2.defScope (L2.inClass (tp 47) x2),3,[],.none,.none,.none,.str kO 583,none,.ref x3,.none,0⟩),#[]⟩
noncomputable def Ay:=g18 pW uo 0 308
noncomputable def Az:=g2 qc 629
noncomputable def AA:=g17 mW up 1
noncomputable def AB:=g4 mW 626 up 145 1 310 630
noncomputable def AC:=g18 mW up 1 315
noncomputable def AD:=g2 qc 636
noncomputable def AE:=g17 pX uq 2
noncomputable def AF:=g4 pX 633 uq 148 1 317 637
noncomputable def AG:=g18 pX uq 2 322
noncomputable def AH:=g17 mX ur 3
noncomputable def AI:=g14 mX 640 ur 151 1 324
noncomputable def AJ:=g18 mX ur 3 327
noncomputable def AK:=g2 qc 649
noncomputable def AL:=g17 pY ut 4
noncomputable def AM:=g4 pY 646 ut 154 1 329 650
noncomputable def AN:=g18 pY ut 4 334
noncomputable def g19 (x0:Str)(x1:Nat)(x2 x3:Str)(P:Params):Obj:=⟨(.type L68),none,(.seq #[.str x0 x1,.str x2 (x1+1),.str x3 (x1+2)] 0),#[]⟩
noncomputable def AO:=g19 qc 656 mV pT
noncomputable def AQ:=g17 pZ uu 5
noncomputable def AR:=g4 pZ 653 uu 157 3 336 659
noncomputable def AS:=g18 pZ uu 5 341
noncomputable def AT:=g13 qc 665 mV pT Ev
noncomputable def AU:=g17 qa uv 6
noncomputable def AV:=g4 qa 662 uv 162 3 343 669
noncomputable def AW:=g18 qa uv 6 348
noncomputable def AX:=g12 Ew 672 Ex 673
noncomputable def AY (P:Params):Obj:=⟨(.type L0),none,(.dict #[e P pM 615 (.str kO 583),e P pN 619 (.int 132 618),e P pW 625 (.ref 309),e P mW 632 (.ref 316),e P pX 639 (.ref 323),e P mX 645 (.ref 328),e P pY 652 (.ref 335),e P pZ 661 (.ref 342),e P qa 671 (.ref 349),e P pO 674 (.ref 350),e P Ac 676 (.ref 353),e P tY 678 (.ref 354),e P S2 679 .none] 4),#[]⟩
noncomputable abbrev EU:=SL.s11443829558043349243x14
noncomputable def AZ (P:Params):Obj:=⟨(.type L69),none,(.cls ⟨jy,[.type L60],[.ref 352,.type L60],351,jy,true,[],[],false,none,false⟩),#[none,none,some (.str jy 608),some (.str jy 616),some (.builtin EU),some (.bool true)]⟩
noncomputable abbrev EV:=SL.s6511155373996960695x17
noncomputable abbrev EW:=SL.s12411053484034534018x21
noncomputable def Ba (P:Params):Obj:=⟨(.type Ap),none,(.fields #[.str Ac 675,.ref 352,.builtin EV,.builtin EW]),#[]⟩
noncomputable def Bb:=g7 677 352
noncomputable def Bc:=g8 352
noncomputable def Bd:=g9 352
noncomputable def Be:=g12 Ad 687 lm 688
noncomputable def Bf:=g3 mY 49
noncomputable def Bg:=g4 mY 684 mY 170 2 357 689
noncomputable def Bh:=g5 mY 49 cH 682 362
noncomputable def Bi:=g12 Ey 695 lm 696
noncomputable def Bj:=g3 mZ 50
noncomputable def Bk:=g4 mZ 692 mZ 174 2 364 697
noncomputable def Bl:=g5 mZ 50 cH 682 369
noncomputable def Bm:=g19 iF 703 Ae Ez
noncomputable def Bn:=g3 ng 51
noncomputable def Bo:=g4 ng 700 ng 176 2 371 706
noncomputable def Bp:=g5 ng 51 cH 682 376
noncomputable def Bq:=g12 iF 712 qd 713
noncomputable def Br:=g3 nh 52
noncomputable def Bs:=g4 nh 709 nh 183 1 378 714
noncomputable def Bt:=g5 nh 52 cH 682 383
noncomputable def Bu:=g19 iF 720 uw EA
noncomputable def Bv:=g3 ni 53
noncomputable def Bw:=g4 ni 717 ni 186 3 385 723
noncomputable def By:=g5 ni 53 cH 682 390
noncomputable def Bz:=g12 iF 729 qd 730
noncomputable def BA:=g3 nj 54
noncomputable def BB:=g4 nj 726 nj 190 1 392 731
noncomputable def BC:=g5 nj 54 cH 682 397
noncomputable def BD:=g16 iF 737 uw EB Af lm nH nI
noncomputable def BE:=g3 nq 55
noncomputable def BF:=g4 nq 734 nq 193 2 399 744
noncomputable def BG:=g5 nq 55 cH 682 404
noncomputable def BH (P:Params):Obj:=⟨(.type L68),none,(.seq #[.str qg 750,.str ux 751,.str Ag 752,.str nH 753,.str nI 754] 0),#[]⟩
noncomputable def BI:=g3 nr 56
noncomputable def BJ:=g4 nr 747 nr 201 3 406 755
noncomputable def BK:=g5 nr 56 cH 682 411
noncomputable def BL:=g13 qg 761 Ah lm ux
noncomputable def BM:=g3 nu 57
noncomputable def BN:=g4 nu 758 nu 204 1 413 765
noncomputable def BO:=g5 nu 57 cH 682 418
noncomputable def BP:=g19 qg 771 Ai EC
noncomputable def BQ:=g3 nv 58
noncomputable def BR:=g4 nv 768 nv 211 2 420 774
noncomputable def BS:=g5 nv 58 cH 682 425
noncomputable def BU:=g12 Aj 780 Ak 781
noncomputable def BV:=g3 nw 59
noncomputable def BW:=g4 nw 777 nw 214 2 427 782
noncomputable def BX:=g5 nw 59 cH 682 432
noncomputable def BY:=g3 ny 60
noncomputable def BZ:=g14 ny 785 ny 216 5 434
noncomputable def Ca:=g5 ny 60 cH 682 437
noncomputable def Cb (P:Params):Obj:=⟨(.type L68),none,(.seq #[.str iF 794,.str qg 795,.str nH 796,.str nI 797,.str uy 798,.str Ae 799,.str qd 800,.str Ah 801,.str lm 802,.str ux 803,.str Ag 804,.str ED 805,.str EE 806,.str EF 807] 0),#[]⟩
noncomputable def Cc:=g3 nz 61
noncomputable def Cd:=g4 nz 791 nz 221 6 439 808
noncomputable def Ce:=g5 nz 61 cH 682 444
noncomputable def Cf:=g19 uz 814 Af EG
noncomputable def Cg:=g3 nA 62
noncomputable def Ch:=g4 nA 811 nA 235 1 446 817
noncomputable def Ci:=g5 nA 62 cH 682 451
noncomputable def Cj:=g15 uA 823 nH nI uB Al uz
noncomputable def Ck:=g3 nC 63
noncomputable def Cm:=g4 nC 820 nC 243 4 453 829
noncomputable def Cn:=g5 nC 63 cH 682 458
noncomputable def Co:=g15 uA 835 nH nI uB Al uz
noncomputable def Cp:=g3 nD 64
noncomputable def Cq:=g4 nD 832 nD 250 4 460 841
noncomputable def Cr:=g5 nD 64 cH 682 465
noncomputable def Cs:=g12 iF 847 qd 848
noncomputable def Ct:=g3 nE 65
noncomputable def Cu:=g4 nE 844 nE 257 1 467 849
noncomputable def Cv:=g5 nE 65 cH 682 472
noncomputable def Cw:=g3 nF 66
noncomputable def Cy:=g14 nF 852 nF 260 4 474
noncomputable def Cz:=g5 nF 66 cH 682 477
noncomputable def CA:=g16 iF 861 uy EH Ai lm EI qd
noncomputable def CB:=g3 nG 67
noncomputable def CC:=g4 nG 858 nG 275 2 479 868
noncomputable def CD:=g5 nG 67 cH 682 484
noncomputable def CF (P:Params):Obj:=⟨(.type L68),none,(.seq #[.str Ad 874,.str lm 875,.str iF 876,.str uw 877,.str qg 878,.str uA 879,.str nH 880,.str nI 881,.str uy 882,.str uB 883,.str EJ 884,.str EK 885,.str EL 886,.str Aj 887,.str Ak 888,.str EM 889] 0),#[]⟩
noncomputable def CG:=g3 pV 68
noncomputable def CI:=g4 pV 871 pV 287 1 486 890
noncomputable def CJ:=g5 pV 68 cH 682 491
noncomputable def t2:Params→BT:=(f boot_o_0 (f boot_o_1 (f Ar (f boot_o_7 (f o11 (f qh (f o12 (f rO (f wg z z) (f Bs z z)) (f o11 (f AD z z) (f o12 z z))) (f o35 (f o12 (f o11 z z) (f BL z z)) (f o11 (f AY z z) (f o11 z z)))) (f o35 (f o79 (f o35 (f wA z z) (f o11 z z)) (f vB (f AN z z) (f o11 z z))) (f o12 (f vd (f Au z z) (f BV z z)) (f vU (f o11 z z) z)))) (f o23 (f o12 (f o35 (f o12 (f wr z z) (f By z z)) (f o12 (f AI z z) (f Cj z z))) (f rq (f o35 (f wN z z) (f o11 z z)) (f vP (f Be z z) (f o12 z z)))) (f o55 (f o12 (f uP (f o11 z z) (f o12 z z)) (f o11 (f o11 z z) (f Ct z z))) (f o35 (f o12 (f o12 z z) (f o11 z z)) (f vZ (f Bn z z) z))))) (f o11 (f o19 (f o35 (f o67 (f o35 (f wm z z) (f Bu z z)) (f vq (f AG z z) (f Ch z z))) (f o12 (f uW (f o11 z z) (f BO z z)) (f o11 (f Bc z z) (f CB z z)))) (f o12 (f o35 (f o12 (f o11 z z) (f BE z z)) (f vE (f o11 z z) (f o11 z z))) (f rG (f o35 (f Aw z z) (f o12 z z)) (f vW (f o11 z z) z)))) (f o27 (f o43 (f o12 (f uI (f ww z z) (f o11 z z)) (f vz (f AK z z) (f Cn z z))) (f o35 (f o12 (f o23 z z) (f o11 z z)) (f o12 (f Bh z z) (f CI z z)))) (f o35 (f o91 (f o35 (f wH z z) (f BJ z z)) (f vJ (f AU z z) (f o12 z z))) (f o12 (f vk (f AB z z) (f Cc z z)) (f we (f o12 z z) z)))))) (f boot_o_5 (f boot_o_9 (f o17 (f o33 (f o65 (f rQ (f wj z z) (f o11 z z)) (f vp (f AE z z) (f o11 z z))) (f o97 (f uV (f wK z z) (f BM z z)) (f vM (f Ba z z) (f CA z z)))) (f o49 (f o81 (f uM (f o12 z z) (f BD z z)) (f vC (f o12 z z) (f Cq z z))) (f rF (f vf (f o11 z z) (f BX z z)) (f o11 (f Bk z z) z)))) (f o11 (f o41 (f o73 (f uH (f o11 z z) (f o12 z z)) (f o11 (f o11 z z) (f Ck z z))) (f rB (f va (f wP z z) (f BR z z)) (f vR (f Bf z z) (f o11 z z)))) (f o57 (f o89 (f uR (f wF z z) (f o11 z z)) (f vH (f AT z z) (f Cv z z))) (f rL (f vj (f o11 z z) (f Cb z z)) (f o12 (f Bp z z) z))))) (f o13 (f o21 (f o37 (f o69 (f uF (f o12 z z) (f Bv z z)) (f vw (f o12 z z) (f o11 z z))) (f rp (f uY (f wM z z) (f o12 z z)) (f vO (f o11 z z) (f CD z z)))) (f o53 (f o85 (f uO (f wD z z) (f BG z z)) (f o12 (f AR z z) (f Cs z z))) (f rJ (f vh (f Ay z z) (f BZ z z)) (f vX (f Bm z z) z)))) (f o11 (f o45 (f o77 (f uK (f wx z z) (f BB z z)) (f o11 (f AL z z) (f o12 z z))) (f rD (f vc (f o11 z z) (f BU z z)) (f o11 (f o12 z z) z))) (f o61 (f o93 (f uT (f o12 z z) (f o11 z z)) (f o12 (f AW z z) (f Cy z z))) (f rN (f vn (f o11 z z) (f Ce z z)) (f o11 (f o11 z z) z))))))) (f boot_o_2 (f boot_o_4 (f boot_o_8 (f o12 (f o32 (f o64 (f rP (f o11 z z) (f Bt z z)) (f o12 (f o11 z z) (f Cf z z))) (f o23 (f uU (f wJ z z) (f o11 z z)) (f vL (f AZ z z) (f o12 z z)))) (f o23 (f o80 (f o23 (f o11 z z) (f o12 z z)) (f o11 (f o11 z z) (f Cp z z))) (f rE (f ve (f Av z z) (f BW z z)) (f vV (f Bj z z) z)))) (f o24 (f o40 (f o23 (f uG (f wu z z) (f o11 z z)) (f vx (f AJ z z) (f o11 z z))) (f rA (f o23 (f wO z z) (f BQ z z)) (f vQ (f o11 z z) (f CF z z)))) (f o56 (f o88 (f uQ (f o12 z z) (f BH z z)) (f vG (f o12 z z) (f Cu z z))) (f o23 (f vi (f Az z z) (f o12 z z)) (f o11 (f Bo z z) z))))) (f sv (f o20 (f o23 (f o68 (f o23 (f o11 z z) (f o11 z z)) (f vt (f o11 z z) (f Ci z z))) (f rn (f uX (f o12 z z) (f o11 z z)) (f o12 (f Bd z z) (f CC z z)))) (f o52 (f o23 (f uN (f wC z z) (f BF z z)) (f o11 (f AQ z z) (f o12 z z))) (f rH (f o23 (f Ax z z) (f BY z z)) (f o11 (f o12 z z) z)))) (f o28 (f o44 (f o76 (f uJ (f o11 z z) (f BA z z)) (f vA (f o11 z z) (f o11 z z))) (f o23 (f vb (f As z z) (f o12 z z)) (f vS (f o11 z z) (f CJ z z)))) (f o23 (f o92 (f o23 (f o11 z z) (f BK z z)) (f o11 (f AV z z) (f Cw z z))) (f rM (f vm (f AC z z) (f Cd z z)) (f wf (f Bq z z) z)))))) (f boot_o_6 (f boot_o_10 (f o11 (f o34 (f o11 (f rR (f wk z z) (f o12 z z)) (f o11 (f AF z z) (f Cg z z))) (f o11 (f o11 (f wL z z) (f BN z z)) (f vN (f Bb z z) (f o11 z z)))) (f o11 (f o82 (f o11 (f wB z z) (f o11 z z)) (f vD (f AO z z) (f Cr z z))) (f o11 (f vg (f o12 z z) (f o11 z z)) (f o12 (f Bl z z) z)))) (f o12 (f o11 (f o11 (f o11 (f o12 z z) (f Bz z z)) (f vy (f o12 z z) (f Cm z z))) (f rC (f o11 (f o11 z z) (f BS z z)) (f o11 (f Bg z z) (f CG z z)))) (f o58 (f o11 (f uS (f wG z z) (f BI z z)) (f vI (f o11 z z) (f o11 z z))) (f o11 (f o11 (f AA z z) (f o11 z z)) (f wc (f o11 z z) z))))) (f o14 (f o22 (f o11 (f o70 (f o11 (f wn z z) (f Bw z z)) (f o11 (f AH z z) (f o12 z z))) (f o11 (f uZ (f o11 z z) (f BP z z)) (f o11 (f o12 z z) (f o11 z z)))) (f o11 (f o11 (f o11 (f wE z z) (f o11 z z)) (f vF (f AS z z) (f o11 z z))) (f rK (f o11 (f o11 z z) (f Ca z z)) (f vY (f o11 z z) z)))) (f o30 (f o46 (f o11 (f uL (f wz z z) (f BC z z)) (f o12 (f AM z z) (f Co z z))) (f o11 (f o11 (f At z z) (f o11 z z)) (f vT (f Bi z z) z))) (f o11 (f o94 (f o11 (f wI z z) (f o12 z z)) (f vK (f AX z z) (f Cz z z))) (f o11 (f vo (f o12 z z) (f o11 z z)) (f o12 (f Br z z) z))))))))
noncomputable abbrev s2 (w:World) (os:OsState):SharedT:=⟨t2 w.params,493,{ },(Array.mk []),⟨0,0,0,0⟩,893,os⟩
noncomputable abbrev p2:Pos:=⟨287,0,308,15⟩
noncomputable abbrev st2:List Stmt:=(pt.main.body.drop 47).take 22
theorem q2 (w:World):(fun os=>segRunT treeTable pt w m0 an 1 1062 (s1 w os) ⟨(execs st2 en).wrap doneF deadEnd id id,cE,p1,B⟩)=fun os=>some (.next,s2 w os,cE,p2):=by
 rw [PySem.W.Fast.te10110043849684766642,PySem.W.Fast.te14364793385576792824,PySem.W.Fast.te12563942051412417395]; kernel_rfl
noncomputable def hF (P:Params):Heap:=⟨⟨[boot_o_0 P,boot_o_1 P,boot_o_2 P,Ar P,boot_o_4 P,boot_o_5 P,boot_o_6 P,boot_o_7 P,boot_o_8 P,boot_o_9 P,boot_o_10 P,o11 P,sv P,o13 P,o14 P,o11 P,o12 P,o17 P,o11 P,o19 P,o20 P,o21 P,o22 P,o23 P,o24 P,o11 P,o12 P,o27 P,o28 P,o11 P,o30 P,qh P,o32 P,o33 P,o34 P,o35 P,o23 P,o37 P,o11 P,o12 P,o40 P,o41 P,o11 P,o43 P,o44 P,o45 P,o46 P,o35 P,o23 P,o49 P,o11 P,o12 P,o52 P,o53 P,o11 P,o55 P,o56 P,o57 P,o58 P,o35 P,o23 P,o61 P,o11 P,o12 P,o64 P,o65 P,o11 P,o67 P,o68 P,o69 P,o70 P,o35 P,o23 P,o73 P,o11 P,o12 P,o76 P,o77 P,o11 P,o79 P,o80 P,o81 P,o82 P,o35 P,o23 P,o85 P,o11 P,o12 P,o88 P,o89 P,o11 P,o91 P,o92 P,o93 P,o94 P,o35 P,o23 P,o97 P,o11 P,o12 P,rn P,rp P,o11 P,rq P,rA P,rB P,rC P,o35 P,o23 P,rD P,o11 P,o12 P,rE P,rF P,o11 P,rG P,rH P,rJ P,rK P,o35 P,o23 P,rL P,o11 P,o12 P,rM P,rN P,o11 P,rO P,rP P,rQ P,rR P,o35 P,o23 P,uF P,o11 P,o12 P,uG P,uH P,o11 P,uI P,uJ P,uK P,uL P,o35 P,o23 P,uM P,o11 P,o12 P,uN P,uO P,o11 P,uP P,uQ P,uR P,uS P,o35 P,o23 P,uT P,o11 P,o12 P,uU P,uV P,o11 P,uW P,uX P,uY P,uZ P,o35 P,o23 P,va P,o11 P,o12 P,vb P,vc P,o11 P,vd P,ve P,vf P,vg P,o35 P,o23 P,vh P,o11 P,o12 P,vi P,vj P,o11 P,vk P,vm P,vn P,vo P,o11 P,o12 P,vp P,o11 P,vq P,vt P,vw P,o11 P,o12 P,vx P,o11 P,vy P,vz P,vA P,o11 P,o12 P,vB P,o11 P,vC P,vD P,vE P,o11 P,o12 P,vF P,o11 P,vG P,vH P,vI P,vJ P,o11 P,o12 P,vK P,o11 P,vL P,vM P,vN P,o11 P,o12 P,vO P,o11 P,vP P,vQ P,vR P,o11 P,o12 P,vS P,o11 P,vT P,vU P,vV P,o11 P,o12 P,vW P,o11 P,vX P,vY P,vZ P,o11 P,o12 P,wc P,we P,wf P,o11 P,o12 P,wg P,o11 P,wj P,wk P,wm P,o11 P,o12 P,wn P,wr P,wu P,o11 P,o12 P,ww P,o11 P,wx P,wz P,wA P,o11 P,o12 P,wB P,o11 P,wC P,wD P,wE P,o11 P,o12 P,wF P,wG P,wH P,o11 P,o12 P,wI P,o11 P,wJ P,wK P,wL P,o11 P,o12 P,wM P,o11 P,wN P,wO P,wP P,o11 P,o23 P,As P,o11 P,At P,Au P,Av P,o11 P,o12 P,Aw P,Ax P,Ay P,o11 P,o12 P,Az P,o11 P,AA P,AB P,AC P,o11 P,o12 P,AD P,o11 P,AE P,AF P,AG P,o11 P,o12 P,AH P,AI P,AJ P,o11 P,o12 P,AK P,o11 P,AL P,AM P,AN P,o11 P,o12 P,AO P,o11 P,AQ P,AR P,AS P,o11 P,o12 P,AT P,o11 P,AU P,AV P,AW P,AX P,AY P,AZ P,Ba P,Bb P,Bc P,Bd P,o11 P,o12 P,Be P,o11 P,Bf P,Bg P,Bh P,o11 P,o12 P,Bi P,o11 P,Bj P,Bk P,Bl P,o11 P,o12 P,Bm P,o11 P,Bn P,Bo P,Bp P,o11 P,o12 P,Bq P,o11 P,Br P,Bs P,Bt P,o11 P,o12 P,Bu P,o11 P,Bv P,Bw P,By P,o11 P,o12 P,Bz P,o11 P,BA P,BB P,BC P,o11 P,o12 P,BD P,o11 P,BE P,BF P,BG P,o11 P,o12 P,BH P,o11 P,BI P,BJ P,BK P,o11 P,o12 P,BL P,o11 P,BM P,BN P,BO P,o11 P,o12 P,BP P,o11 P,BQ P,BR P,BS P,o11 P,o12 P,BU P,o11 P,BV P,BW P,BX P,o11 P,o12 P,BY P,BZ P,Ca P,o11 P,o12 P,Cb P,o11 P,Cc P,Cd P,Ce P,o11 P,o12 P,Cf P,o11 P,Cg P,Ch P,Ci P,o11 P,o12 P,Cj P,o11 P,Ck P,Cm P,Cn P,o11 P,o12 P,Co P,o11 P,Cp P,Cq P,Cr P,o11 P,o12 P,Cs P,o11 P,Ct P,Cu P,Cv P,o11 P,o12 P,Cw P,Cy P,Cz P,o11 P,o12 P,CA P,o11 P,CB P,CC P,CD P,o11 P,o12 P,CF P,o11 P,CG P,CI P,CJ P]⟩,{ }⟩
noncomputable abbrev sF (w:World) (os:OsState):Shared:=⟨hF w.params,(Array.mk []),⟨0,0,0,0⟩,893,os⟩
theorem fin (w:World):(fun os=>topRun treeTable pt w m0 an 2 (s2 w os).abs ⟨doneF .next,cE,p2,B⟩)=fun os=>some (sF w os):=by
 rw [PySem.W.Fast.te14082659384304107361,PySem.W.Fast.te14364793385576792824]; kernel_rfl
theorem rS:behindTheImports pt=st0 ++ (st1 ++ (st2 ++ ([]))):=by kernel_rfl
noncomputable abbrev MM:Nat:=12 + (1 + (1929 + (1709 + (1062 + 2))))
theorem wQ (w:World) (os:OsState):topRun treeTable pt w m0 an MM (sZ w os) (topStub pt)=some (sF w os) :=
 go_top (congrFun (pre w) os) (piece_block (congrFun (blk w) os) (rS ▸ (piece_app (l:=st0) (segRun_of (congrFun (q0 w) os)) (piece_app (l:=st1) (segRun_of (congrFun (q1 w) os)) (piece_app (l:=st2) (segRun_of (congrFun (q2 w) os)) (piece_nil (congrFun (fin w) os)))))))
noncomputable def loose:List Str:=[jx,eK,kF,kG,kH,kI,kJ,kL,kM,kN,mQ,mR,mS,mT,mU,kP,kQ,kR,kS,tZ,ub,ud,kT,ue,kU,kW,kX,kY,uf,ug,ui,uj,kZ,le,lf,lg,lh,uk,um,li,lj,jy,mY,mZ,ng,nh,ni,nj,nq,nr,nu,nv,nw,ny,nz,nA,nC,nD,nE,nF,nG]
noncomputable abbrev NN:Nat:=9520
noncomputable abbrev q:Program:=view pt [68]
noncomputable abbrev Xt:Shared→Bool:=fun s=>xlAt q [] s && recOk [] s
theorem size (w:World):((boot_heap w.params).isNs mainGlobals && (Array.mk []:Array GenState).size == 0,(boot_heap w.params).objs.size,(boot_heap w.params).nsMap mainGlobals "__annotations__")=(true,m0,an):=by
 rw [PySem.W.Fast.te8920871248978507458]; kernel_rfl
theorem CK (w:World):(fun os=>((staticsOk (importedModules pt.main.body) (boot_heap w.params) (hF w.params) && namesBound pt (hF w.params) && gensDone (sF w os) && laidKept (boot_heap w.params) (hF w.params)),openSeen q loose (importedModules pt.main.body) Xt true (sF w os),HK.obs (sF w os)))=fun _=>(true,openGood q loose,HK.val w):=by
 rw [PySem.W.Fast.te4187177175401517315,PySem.W.Fast.te5923862056798008813]; kernel_rfl
theorem left:LeftO pt q loose Xt HK.obs HK.val NN true:=LeftO.of_pieces (boot_open (by kernel_rfl) (by decide) (fun s=>rfl)) size wQ (by decide) CK
end Hd
open PySem PySem.W PyProof.Rows
set_option maxRecDepth 100000 in
set_option maxHeartbeats 0 in
theorem PySem.Challenge.cw_platecuts_k36_layings_refused_holds : PySem.Challenge.rw_platecuts_k36_layings_refused.Holds := by
 w_on; o_law
 refine holds_open (q:=view PySem.Challenge.pw_platecuts_k36_layings_refused [68]) (loose:=Hd.loose) (Xt:=fun s=>xlAt (view PySem.Challenge.pw_platecuts_k36_layings_refused [68]) [] s && recOk [] s) (XP:=XL (view PySem.Challenge.pw_platecuts_k36_layings_refused [68]) []) (Yf:=Hook.obs Hd.HK) (Ya:=Hook.val Hd.HK) (YP:=InK Pc.kK) (N:=Hd.NN) ?hl (Hook.of Hd.HK) (Hook.keeps Hd.HK) (fun s e=>xl_of s (Bool.and_eq_true_iff.mp e).1) XL.keeps (by rfl) (by rfl) (by rfl) (fun s e=>recFacts_of (Bool.and_eq_true_iff.mp e).2) (by rfl) (by first | assumption | decide +kernel) (by decide +kernel) ⟨rfl,rfl,rfl,rfl,rfl,by decide +kernel⟩ ?hw ?hc
 case hl=>exact Hd.pt_eq ▸ Hd.left
 case hw=>w_witness2
 k_fill
 refine Pc.walk (l:=PySem.Challenge.rw_platecuts_k36_layings_refused) rfl rfl (fun w h Y=>Y) ?F
 case F =>
  intro w mg fa h KX G hmg
  refine' Pc.all_mk KX G hmg ?d0 ?d1 ?d2 ?d3 ?d4 ?d5 ?d6 ?d7 ?d8 ?d9 ?d10 ?d11 ?d12 ?d13 ?d14 ?d15 ?d16 ?d17 ?d18 ?d19 ?d20 ?d21 ?d22 ?d23 ?d24 ?d25 ?d26 ?d27 ?d28 ?d29 ?d30 ?d31 ?d32 ?d33 ?d34 ?d35 ?aC ?dm0 ?dm1 ?dm2 ?dm3 ?pg ?hd ?po ?sa ?mk ?kc ?n0 ?n1 ?eWAYS ?ePlateError ?eNoPlate ?eNoLaying ?eNoBlade ?eNoKind ?eNoKinds ?eNoLying ?eNoNumber ?eNoTable ?eNoTelling ?eNoText ?eNoTree ?eNoWeights ?eTooLarge ?sysm ?lWAYS ?cPlateError ?cNoPlate ?cNoLaying ?cNoBlade ?cNoKind ?cNoKinds ?cNoLying ?cNoNumber ?cNoTable ?cNoTelling ?cNoText ?cNoTree ?cNoWeights ?cTooLarge ?sNoPlatePlateError ?sNoPlateNoPlate ?sNoPlateNoLaying ?sNoPlateNoBlade ?sNoPlateNoKind ?sNoPlateNoKinds ?sNoPlateNoLying ?sNoPlateNoNumber ?sNoPlateNoTable ?sNoPlateNoTelling ?sNoPlateNoText ?sNoPlateNoTree ?sNoPlateNoWeights ?sNoPlateTooLarge ?vNoPlate ?kaNoPlate ?kbNoPlate ?kcNoPlate ?kdNoPlate ?keNoPlate ?sNoLayingPlateError ?sNoLayingNoPlate ?sNoLayingNoLaying ?sNoLayingNoBlade ?sNoLayingNoKind ?sNoLayingNoKinds ?sNoLayingNoLying ?sNoLayingNoNumber ?sNoLayingNoTable ?sNoLayingNoTelling ?sNoLayingNoText ?sNoLayingNoTree ?sNoLayingNoWeights ?sNoLayingTooLarge ?vNoLaying ?kaNoLaying ?kbNoLaying ?kcNoLaying ?kdNoLaying ?keNoLaying ?bPlateError ?z0 ?z1 ?z2 ?z3 ?z4 ?z5 ?z6 ?z7 ?z8 ?z9 ?z10 ?z11 ?z12 ?z13 ?z14 ?z15 ?z16 ?z17 ?z18 ?uc0 ?uc1 ?uc2 ?uc3 ?uc4 ?uc5 ?uc6 ?uc7
  (case d0 | d1 | d2 | d3 | d4 | d5 | d6 | d7 | d8 | d9 | d10 | d11 | d12 | d13 | d14 | d15 | d16 | d17 | d18 | d19 | d20 | d21 | d22 | d23 | d24 | d25 | d26 | d27 | d28 | d29 | d30 | d31 | d32 | d33 | d34 | d35=>refine' Pc.diM ?a ?l ?c ?k; (case a=>k_is); (case l=>k_is); (case c=>k_is); (case k=>k_is))
  (case aC=>k_is)
  (case dm0 | dm1 | dm2 | dm3=>refine' Pc.miM ?a ?i ?l ?c ?k; (case a=>k_is); (case i=>k_is); (case l=>k_is); (case c=>k_is); (case k=>k_is))
  (case pg | hd | po | sa | mk | kc | n0 | n1 | eWAYS | ePlateError | eNoPlate | eNoLaying | eNoBlade | eNoKind | eNoKinds | eNoLying | eNoNumber | eNoTable | eNoTelling | eNoText | eNoTree | eNoWeights | eTooLarge=>k_is)
  (case sysm=>kernel_rfl)
  (case lWAYS=>exact ⟨_,_,_,rfl,rfl,rfl,by decide,.cons ⟨_,rfl⟩ (.cons ⟨_,rfl⟩ .nil)⟩)
  (case cPlateError | cNoPlate | cNoLaying | cNoBlade | cNoKind | cNoKinds | cNoLying | cNoNumber | cNoTable | cNoTelling | cNoText | cNoTree | cNoWeights | cTooLarge=>k_exc)
  (case sNoPlatePlateError | sNoPlateNoPlate | sNoPlateNoLaying | sNoPlateNoBlade | sNoPlateNoKind | sNoPlateNoKinds | sNoPlateNoLying | sNoPlateNoNumber | sNoPlateNoTable | sNoPlateNoTelling | sNoPlateNoText | sNoPlateNoTree | sNoPlateNoWeights | sNoPlateTooLarge | vNoPlate | kaNoPlate | kbNoPlate | kcNoPlate | kdNoPlate | keNoPlate | sNoLayingPlateError | sNoLayingNoPlate | sNoLayingNoLaying | sNoLayingNoBlade | sNoLayingNoKind | sNoLayingNoKinds | sNoLayingNoLying | sNoLayingNoNumber | sNoLayingNoTable | sNoLayingNoTelling | sNoLayingNoText | sNoLayingNoTree | sNoLayingNoWeights | sNoLayingTooLarge | vNoLaying | kaNoLaying | kbNoLaying | kcNoLaying | kdNoLaying | keNoLaying | bPlateError | z0 | z1 | z2 | z3 | z4 | z5 | z6 | z7 | z8 | z9 | z10 | z11 | z12 | z13 | z14 | z15 | z16 | z17 | z18 | uc0 | uc1 | uc2 | uc3 | uc4 | uc5 | uc6 | uc7=>k_is)