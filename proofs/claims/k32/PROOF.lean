import PyProof.Rows.All
import Wide.All
import OpenK.AllK
import Wide.FinOn
import Lean
import PyProof.EqAt
import PyProof.EqKinds
import PyProof.TupleCall
import PyProof.Draws
import PyProof.WalksMore
import PyProof.EnumMake
import PyProof.ReprRoads
import PyProof.Rows.SortWalk
import PyProof.Rows.SumAny
import PyProof.FitsBits
import KE.KSortTup
import PyProof.FactsAll.dict_1
import PyProof.FactsAll.subtypes_4
import PyProof.FactsAll.subtypes_1
import PyProof.FactsAll.subtypes_2
import PySem.Challenge.RW_platecuts_k32_whole_trees_of_layings
set_option Elab.async false
set_option linter.all false
set_option maxRecDepth 100000
namespace L2
open PySem PySem.Spec PyProof.Rows
abbrev Key:=Sum Int Str
def qx:Key→Value→Bool
 | .inl k,v=>Value.isInt k v
 | .inr x,v=>Value.isStrOf x v
def AF (w:World):Key→Int
 | .inl k=>hashInt k
 | .inr x=>hashStr w x
theorem aV:∀ {k:Key} {v:Value},qx k v=true→(∃i t,k=Sum.inl i∧v=Value.int i t)∨(∃x t,k=Sum.inr x∧v=Value.str x t)
 | .inl i,v,h=>by
  obtain ⟨t,e⟩:=Value.isInt_shape (k:=i) (v:=v) h
  exact .inl ⟨i,t,rfl,e⟩
 | .inr x,v,h=>by
  obtain ⟨t,e⟩:=Value.isStrOf_shape (x:=x) (v:=v) h
  exact .inr ⟨x,t,rfl,e⟩
theorem qR (a b:Int):decide ((Sum.inl a:Key)=Sum.inl b)=(a == b):=by
 by_cases e:a=b
 ·subst e; simp
 ·have h:¬ (Sum.inl a:Key)=Sum.inl b:=fun q=>e (Sum.inl.inj q)
  rw [decide_eq_false h]
  exact (beq_eq_false_iff_ne.mpr e).symm
theorem qS (a b:Str):decide ((Sum.inr a:Key)=Sum.inr b)=decide (a=b):=by
 by_cases e:a=b
 ·subst e; simp
 ·have h:¬ (Sum.inr a:Key)=Sum.inr b:=fun q=>e (Sum.inr.inj q)
  rw [decide_eq_false h,decide_eq_false e]
theorem qT (a:Int) (b:Str):decide ((Sum.inl a:Key)=Sum.inr b)=false:=decide_eq_false (fun q=>nomatch q)
theorem qU (a:Str) (b:Int):decide ((Sum.inr a:Key)=Sum.inl b)=false:=decide_eq_false (fun q=>nomatch q)
def gv (prog:Program) (w:World):PySem.KeyKind prog w Key where
 is:=qx
 hash:=AF w
 inj:=fun v a b ha hb=>by
  rcases aV ha with ⟨i,t,rfl,rfl⟩ | ⟨x,t,rfl,rfl⟩
  ·rcases aV hb with ⟨j,u,rfl,e⟩ | ⟨y,u,rfl,e⟩
   ·injection e with e1 _; rw [e1]
   ·exact nomatch e
  ·rcases aV hb with ⟨j,u,rfl,e⟩ | ⟨y,u,rfl,e⟩
   ·exact nomatch e
   ·injection e with e1 _; rw [e1]
 byValue:=fun k v h=>by
  rcases aV h with ⟨i,t,rfl,rfl⟩ | ⟨x,t,rfl,rfl⟩ <;> rfl
 pyHash:=fun hv h=>by
  rcases aV hv with ⟨i,t,rfl,rfl⟩ | ⟨x,t,rfl,rfl⟩
  ·exact wpAny_pyHash_int h
  ·exact wpAny_pyHash_str h
 eqBool:=fun hu hv h=>by
  rcases aV hu with ⟨i,t,rfl,rfl⟩ | ⟨x,t,rfl,rfl⟩
  ·rcases aV hv with ⟨j,u,rfl,rfl⟩ | ⟨y,u,rfl,rfl⟩
   ·rw [qR] at h; exact wpAny_eqBool_int h
   ·rw [qT] at h; exact SeqAt.EqAt.int_str i t y u _ _ _ _ h
  ·rcases aV hv with ⟨j,u,rfl,rfl⟩ | ⟨y,u,rfl,rfl⟩
   ·rw [qU] at h; exact SeqAt.EqAt.str_int x t j u _ _ _ _ h
   ·rw [qS] at h; exact wpAny_eqBool_str h
 «strs» := fun k x t v h=>by
  rcases aV h with ⟨i,u,rfl,e⟩ | ⟨y,u,rfl,e⟩
  ·exact nomatch e
  ·injection e with e1 _
   subst e1
   cases v <;> rfl
end L2
namespace L2
open PySem PySem.Spec PyProof.Rows
inductive V where
 | non | bl (b:Bool) | int (i:Int) | str (x:Str) | byt (b:Array UInt8) | flt (b:UInt64) | ref (a:Addr) | ty (n:String)
 deriving DecidableEq
def RelV:V→Value→Prop
 | .non,u=>u=Value.none
 | .bl b,u=>u=Value.bool b
 | .int i,u=>∃t,u=Value.int i t
 | .str x,u=>∃t,u=Value.str x t
 | .byt b,u=>∃t,u=Value.bytes b t
 | .flt b,u=>∃t,u=Value.float b t
 | .ref a,u=>u=Value.ref a
 | .ty n,u=>u=Value.type n
abbrev Vals:List V→List Value→Prop:=Paired RelV
theorem Vals.length {xs:List V} {us:List Value} (r:Vals xs us):xs.length=us.length:=Paired.length r
theorem Vals.get:∀ {xs:List V} {us:List Value} {i:Nat} {x:V},Vals xs us→xs[i]? = some x→∃u,us[i]? = some u∧RelV x u
 | _,_,_,_,.nil,e=>by simp at e
 | _,_,0,_,.cons r _,e=>by simp at e; subst e; exact ⟨_,rfl,r⟩
 | _,_,i + 1,x,.cons _ t,e=>by
  obtain ⟨u,h1,h2⟩:=Vals.get (i:=i) (x:=x) t (by simpa using e)
  exact ⟨u,by simpa using h1,h2⟩
theorem Vals.set {x:V} {u:Value} (r:RelV x u):∀ {xs:List V} {us:List Value} (i:Nat),Vals xs us→Vals (xs.set i x) (us.set i u)
 | _,_,_,.nil=>.nil
 | _,_,0,.cons _ t=>.cons r t
 | _,_,i + 1,.cons q t=>.cons q (Vals.set r i t)
theorem Vals.append:∀ {xs ys:List V} {us ws:List Value},Vals xs us→Vals ys ws→Vals (xs ++ ys) (us ++ ws)
 | _,_,_,_,.nil,s=>s
 | _,_,_,_,.cons r t,s=>.cons r (Vals.append t s)
theorem Vals.take:∀ {xs:List V} {us:List Value} (n:Nat),Vals xs us→Vals (xs.take n) (us.take n)
 | _,_,0,_=>.nil
 | _,_,_ + 1,.nil=>.nil
 | _,_,n + 1,.cons r t=>.cons r (Vals.take n t)
theorem Vals.drop:∀ {xs:List V} {us:List Value} (n:Nat),Vals xs us→Vals (xs.drop n) (us.drop n)
 | _,_,0,r=>r
 | _,_,_ + 1,.nil=>.nil
 | _,_,n + 1,.cons _ t=>Vals.drop n t
def RelO:Option V→Option Value→Prop
 | some v,some u=>RelV v u
 | none,none=>True
 | _,_=>False
def KV {κ:Type}:List (κ×V)→List (κ×Value)→Prop:=Paired fun (p:κ×V) (q:κ×Value)=>p.1=q.1∧RelV p.2 q.2
def kV:Key→V
 | .inl i=>.int i
 | .inr x=>.str x
inductive HO where
 | lst (xs:List V)
 | tup (xs:List V)
 | dK (kvs:List (Key×V)) | dT (kvs:List (List Key×V))
 | set (S:Int→Bool) (n:Nat)
 | ins (C dx:Addr) (fs:List (Str×V))
 | own (x:Addr)
 | xd (fs:List (Str×V))
 | met (f x:Addr)
 | rng (lo hi:Int)
 | frz (o:Obj) (u:HO)
 | tbl (ps:Array Value)
 | ext (φ:Heap→Prop)
abbrev Hp:=Addr→Option HO
def upd (H:Hp) (a:Addr) (o:HO):Hp:=fun b=>if b=a then some o else H b
theorem upd_same {H:Hp} {a:Addr} {o:HO}:upd H a o a=some o:=by unfold upd; rw [if_pos rfl]
theorem aw {H:Hp} {a b:Addr} {o:HO} (h:b≠a):upd H a o b=H b:=by unfold upd; rw [if_neg h]
theorem ag {H:Hp} {a b:Addr} {o:HO} (h:H a=some o) (h':H b=none):a≠b:=by
 intro e; subst e; rw [h] at h'; cases h'
section
variable (P:Program) (w:World)
def ObjOk (H:Hp) (h:Heap) (a:Addr):HO→Prop
 | .lst xs=>xs.length≤sizeLine∧∃ (its:List Value) (n:Nat),Vals xs its∧h.get? a=some { cls:=.type "list",data:=.seq its.toArray n }
 | .tup xs=>xs.length≤sizeLine∧∃its:List Value,Vals xs its∧IsTup h a its.toArray
 | .dK kvs=>kvs.length≤sizeLine∧(a == sysModules)=false∧∃vs,KV kvs vs∧h.DictOf (gv P w) a vs
 | .dT kvs=>kvs.length≤sizeLine∧(a == sysModules)=false∧∃xs:List (List Key×Addr×Value),
   Paired (fun (p:List Key×V) (q:List Key×Addr×Value)=>p.1=q.1∧H q.2.1=some (.tup (p.1.map kV))∧RelV p.2 q.2.2) kvs xs ∧
   ∃o es ep,h.get? a=some o∧o.ExactDict∧o.data=.dict es ep∧es.toList=xs.map (entryOfKey (tupleKind (gv P w)))∧(xs.map (·.1)).Nodup
 | .set S n=>h.SetOf (intKind P w) a S n
 | .ins C dx fs=>H dx=some (.own a)∧fs.length≤1000∧dx≠a∧h.get? a=some (PySem.W.instObj C dx) ∧
   ∃mA,h.Ns1 dx mA∧(∀f,RelO (fs.lookup f) (mA f))∧PySem.Within mA (fs.map (·.1))
 | .own _=>∃o,h.get? a=some o
 | .xd fs=>∃mA,h.Ns1 a mA∧∀f,RelO (fs.lookup f) (mA f)
 | .rng lo hi=>∃t u v,h.get? a=some { cls:=.type "range",data:=.fields #[.int lo t,.int hi u,.int 1 v] }
 | .frz o u=>h.get? a=some o∧ObjOk H h a u
 | .tbl ps=>h.get? a=some { cls:=.none,data:=.fields ps }
 | .met f x=>h.get? a=some (PySem.W.methodObj (.ref f) (.ref x))
 | .ext φ=>φ h∧(∃o,h.get? a=some o)∧∀h1 h2:Heap,φ h1→(∀o,h1.get? a=some o→h2.get? a=some o)→φ h2
def HOk (H:Hp) (h:Heap):Prop:=∀a o,H a=some o→ObjOk P w H h a o
end
section
variable {P:Program} {w:World} {H H':Hp} {h h':Heap} {a:Addr} {o:HO}
theorem ObjOk.lt (x:ObjOk P w H h a o):a < h.objs.size:=by
 cases o with
 | lst xs=>obtain ⟨_,_,_,_,e⟩:=x; exact Heap.lt_size e
 | tup xs=>obtain ⟨_,_,_,p⟩:=x; exact p.lt
 | dK kvs=>obtain ⟨_,_,_,_,o,_,_,e,_⟩:=x; exact Heap.lt_size e
 | dT kvs=>obtain ⟨_,_,_,_,o,_,_,e,_⟩:=x; exact Heap.lt_size e
 | set S n=>obtain ⟨o,_,_,_,e,_⟩:=x; exact Heap.lt_size e
 | ins C dx fs=>obtain ⟨_,_,_,e,_⟩:=x; exact Heap.lt_size e
 | own y=>obtain ⟨_,e⟩:=x; exact Heap.lt_size e
 | xd fs=>obtain ⟨_,⟨_,_,_,e,_⟩,_⟩:=x; exact Heap.lt_size e
 | rng lo hi=>obtain ⟨_,_,_,e⟩:=x; exact Heap.lt_size e
 | frz ob u=>obtain ⟨e,_⟩:=x; exact Heap.lt_size e
 | tbl ps=>exact Heap.lt_size (show h.get? a=some _ from x)
 | met f y=>exact Heap.lt_size (show h.get? a=some _ from x)
 | ext φ=>obtain ⟨_,⟨_,e⟩,_⟩:=x; exact Heap.lt_size e
theorem Paired.mapP {α β:Type} {F G:α→β→Prop}:∀ {l₁:List α} {l₂:List β},Paired F l₁ l₂→(∀a b,F a b→G a b)→Paired G l₁ l₂
 | _,_,.nil,_=>.nil
 | _,_,.cons r t,f=>.cons (f _ _ r) (Paired.mapP t f)
theorem ObjOk.stay (x:ObjOk P w H h a o) (k:∀b u,(b=a∨H b=some (.own a))→h.get? b=some u→h'.get? b=some u)
  (ho:∀b,H b=some (.own a)→H' b=some (.own a)) (ht:∀b xs,H b=some (.tup xs)→H' b=some (.tup xs)):ObjOk P w H' h' a o:=by
 induction o with
 | lst xs=>obtain ⟨z,its,n,r,e⟩:=x; exact ⟨z,its,n,r,k _ _ (.inl rfl) e⟩
 | tup xs=>obtain ⟨z,its,r,ob,e,c⟩:=x; exact ⟨z,its,r,ob,k _ _ (.inl rfl) e,c⟩
 | dK kvs=>obtain ⟨z,y,vs,r,ob,es,ep,e,c⟩:=x; exact ⟨z,y,vs,r,ob,es,ep,k _ _ (.inl rfl) e,c⟩
 | dT kvs =>
  obtain ⟨z,y,xs,r,ob,es,ep,e,c⟩:=x
  exact ⟨z,y,xs,Paired.mapP r fun p q z=>⟨z.1,ht _ _ z.2.1,z.2.2⟩,ob,es,ep,k _ _ (.inl rfl) e,c⟩
 | set S n=>obtain ⟨ob,es,ep,t,e,c⟩:=x; exact ⟨ob,es,ep,t,k _ _ (.inl rfl) e,c⟩
 | ins C dx fs =>
  obtain ⟨d,z,ne,e,mA,⟨od,es,ep,e2,c⟩,r⟩:=x
  exact ⟨ho _ d,z,ne,k _ _ (.inl rfl) e,mA,⟨od,es,ep,k _ _ (.inr d) e2,c⟩,r⟩
 | own y=>obtain ⟨ob,e⟩:=x; exact ⟨ob,k _ _ (.inl rfl) e⟩
 | xd fs=>obtain ⟨mA,⟨od,es,ep,e,c⟩,r⟩:=x; exact ⟨mA,⟨od,es,ep,k _ _ (.inl rfl) e,c⟩,r⟩
 | rng lo hi=>obtain ⟨t,u,v,e⟩:=x; exact ⟨t,u,v,k _ _ (.inl rfl) e⟩
 | frz ob u ih=>obtain ⟨e,q⟩:=x; exact ⟨k _ _ (.inl rfl) e,ih q⟩
 | tbl ps =>
  have e:h.get? a=some { cls:=.none,data:=.fields ps }:=x
  show h'.get? a=some { cls:=.none,data:=.fields ps }
  exact k a _ (.inl rfl) e
 | met f y =>
  have e:h.get? a=some (PySem.W.methodObj (.ref f) (.ref y)):=x
  show h'.get? a=some (PySem.W.methodObj (.ref f) (.ref y))
  exact k a _ (.inl rfl) e
 | ext φ=>obtain ⟨p,⟨o,e⟩,st⟩:=x; exact ⟨st _ _ p fun o q=>k _ _ (.inl rfl) q,⟨o,k _ _ (.inl rfl) e⟩,st⟩
theorem HOk.lt (x:HOk P w H h) (e:H a=some o):a < h.objs.size:=(x a o e).lt
theorem HOk.fresh (x:HOk P w H h) (e:h.objs.size≤a):H a=none:=by
 cases q:H a with
 | none=>rfl
 | some u=>exact absurd (Nat.lt_of_lt_of_le (x.lt q) e) (Nat.lt_irrefl _)
theorem HOk.kept (x:HOk P w H h) (k:∀b u,h.get? b=some u→h'.get? b=some u):HOk P w H h':=fun a o e =>
 (x a o e).stay (fun b u _ q=>k b u q) (fun _ q=>q) fun _ _ q=>q
theorem HOk.laid (x:HOk P w H h) (k:∀b u,h.get? b=some u→h'.get? b=some u) (hp:h.objs.size≤a) (new:ObjOk P w (upd H a o) h' a o):HOk P w (upd H a o) h':=fun b u e=>by
 have hn:=x.fresh hp
 by_cases hb:b=a
 ·subst hb; rw [upd_same] at e; cases e; exact new
 ·rw [aw hb] at e
  exact (x b u e).stay (fun c v _ q=>k c v q) (fun c q=>by rw [aw (ag q hn)]; exact q) fun c xs q=>by rw [aw (ag q hn)]; exact q
end
def Rd (H:Hp) (a:Addr) (u:HO):Prop:=H a=some u∨∃o,H a=some (.frz o u)
theorem Rd.ok {P:Program} {w:World} {H:Hp} {h:Heap} {a:Addr} {u:HO} (r:Rd H a u) (x:HOk P w H h):ObjOk P w H h a u:=by
 rcases r with r | ⟨o,r⟩
 ·exact x a u r
 ·obtain ⟨_,q⟩:=x a _ r
  exact q
def Mut:Option HO→Prop
 | some (.lst _)=>True
 | some (.dK _)=>True
 | some (.dT _)=>True
 | some (.set _ _)=>True
 | some (.ins _ _ _)=>True
 | some (.ext _)=>True
 | _=>False
section
variable {P:Program} {w:World} {H:Hp} {h h':Heap} {x e:Addr} {o':HO}
theorem HOk.write (ok:HOk P w H h) (mu:Mut (H x)) (he:e=x∨H e=some (.own x)) (k:∀b u,b≠e→h.get? b=some u→h'.get? b=some u) (heo:∃u,h'.get? e=some u)
  (new:ObjOk P w (upd H x o') h' x o'):HOk P w (upd H x o') h':=fun b u q=>by
 have nown:∀c y,H c=some (.own y)→c≠x:=fun c y r z=>by subst z; rw [r] at mu; exact mu
 have ntup:∀c xs,H c=some (.tup xs)→c≠x:=fun c xs r z=>by subst z; rw [r] at mu; exact mu
 by_cases hb:b=x
 ·subst hb; rw [upd_same] at q; cases q; exact new
 ·rw [aw hb] at q
  by_cases hbe:b=e
  ·have q':H b=some (.own x):=by
    rcases he with z | z
    ·exact absurd (hbe.trans z) hb
    ·rw [hbe]; exact z
   rw [q] at q'; cases q'
   obtain ⟨v,hv⟩:=heo
   exact ⟨v,by rw [hbe]; exact hv⟩
  ·refine (ok b u q).stay (fun c v hc r=>k c v ?_ r) (fun c r=>by rw [aw (nown c b r)]; exact r) fun c xs r=>by rw [aw (ntup c xs r)]; exact r
   rcases hc with rfl | hc
   ·exact hbe
   ·rintro rfl
    rcases he with z | z
    ·exact nown c b hc z
    ·rw [hc] at z; cases z; exact hb rfl
end
structure Un (fs ex:List Addr) (H H':Hp) (h h':Heap):Prop where
 keep:∀b o,h.get? b=some o→H b=none→b∉fs→b∉ex→h'.get? b=some o
 slot:∀b o,h.get? b=some o→H b=none→b∈fs→b∉ex→∃sl,h'.get? b=some { o with slots:=sl }
 free:∀b o,h.get? b=some o→H b=none→b∉ex→H' b=none
 there:∀b o,h.get? b=some o→b∉ex→∃o',h'.get? b=some o'
 tups:∀b xs,H b=some (.tup xs)→H' b=some (.tup xs)
 frzs:∀b o u,H b=some (.frz o u)→H' b=some (.frz o u)
 tbls:∀b ps,H b=some (.tbl ps)→∃more,H' b=some (.tbl (ps ++ more))
section
variable {fs fs' ex ex':List Addr} {H H1 H2:Hp} {h h1 h2 h':Heap} {a x e:Addr} {o:HO}
theorem Un.any (u:Un fs ex H H1 h h1) {b:Addr} {ob:Obj} (q:h.get? b=some ob) (n:H b=none) (hx:b∉ex):∃sl,h1.get? b=some { ob with slots:=sl }:=by
 by_cases hb:b∈fs
 ·exact u.slot b ob q n hb hx
 ·exact ⟨ob.slots,u.keep b ob q n hb hx⟩
theorem Un.kept (k:∀b u,h.get? b=some u→h'.get? b=some u):Un fs ex H H h h' :=
 ⟨fun b ob q _ _ _=>k b ob q,fun b ob q _ _ _=>⟨ob.slots,k b ob q⟩,fun _ _ _ n _=>n,fun b ob q _=>⟨ob,k b ob q⟩,fun _ _ q=>q,fun _ _ _ q=>q,fun _ ps q=>⟨#[],by rw [q]; simp⟩⟩
theorem Un.refl:Un fs ex H H h h:=Un.kept fun _ _ q=>q
theorem Un.laid (k:∀b u,h.get? b=some u→h'.get? b=some u) (hp:h.objs.size≤a) (hn:H a=none):Un fs ex H (upd H a o) h h' where
 keep:=fun b u q _ _ _=>k b u q
 slot:=fun b u q _ _ _=>⟨u.slots,k b u q⟩
 free:=fun b u q n _=>by rw [aw (Nat.ne_of_lt (Nat.lt_of_lt_of_le (Heap.lt_size q) hp))]; exact n
 there:=fun b u q _=>⟨u,k b u q⟩
 tups:=fun b xs q=>by rw [aw (ag q hn)]; exact q
 frzs:=fun b u xs q=>by rw [aw (ag q hn)]; exact q
 tbls:=fun b ps q=>⟨#[],by rw [aw (ag q hn),q]; simp⟩
theorem Un.write (mu:Mut (H x)) (he:e=x∨H e=some (.own x)) (k:∀b u,b≠e→h.get? b=some u→h'.get? b=some u) (heo:∃u,h'.get? e=some u):Un fs ex H (upd H x o) h h':=by
 have hx:∀b,H b=none→b≠x:=fun b n z=>by subst z; rw [n] at mu; exact mu
 have hb:∀b,H b=none→b≠e:=fun b n z=>by
  subst z
  rcases he with r | r
  ·exact hx b n r
  ·rw [n] at r; cases r
 have hm:∀b u,H b=some u→¬ Mut (some u)→b≠x:=fun b u q nm z=>by subst z; rw [q] at mu; exact nm mu
 refine ⟨fun b u q n _ _=>k b u (hb b n) q,fun b u q n _ _=>⟨u.slots,k b u (hb b n) q⟩,fun b u q n _=>by rw [aw (hx b n)]; exact n,fun b u q _=>?_,
  fun b xs q=>by rw [aw (hm b _ q fun z=>z)]; exact q,fun b u xs q=>by rw [aw (hm b _ q fun z=>z)]; exact q,fun b ps q=>⟨#[],by rw [aw (hm b _ q fun z=>z),q]; simp⟩⟩
 by_cases hbe:b=e
 ·subst hbe; exact heo
 ·exact ⟨u,k b u hbe q⟩
end
def trk (h:Heap) (H:Hp):List Addr:=(List.range h.objs.size).filter fun a=>(H a).isSome
def gw (h:Heap) (H:Hp):Heap:=PySem.W.hideAll h (trk h H)
theorem kS (h:Heap) (H:Hp):(gw h H).objs.size=h.objs.size:=PySem.W.hideAll_size _ _
theorem mE {h:Heap} {H:Hp} {b:Addr} {o:Obj} (e:h.get? b=some o) (n:H b=none):(gw h H).get? b=some o :=
 PySem.W.hideAll_get _ e fun hm=>by
  have q:(H b).isSome=true:=(List.mem_filter.mp hm).2
  rw [n] at q; simp at q
theorem oR {h:Heap} {H:Hp} {b:Addr} {o:Obj} (e:(gw h H).get? b=some o):h.get? b=some o∧H b=none:=by
 have e':h.get? b=some o:=PySem.W.of_hideAll (trk h H) e
 refine ⟨e',?_⟩
 cases q:H b with
 | none=>rfl
 | some x =>
  have hm:b∈trk h H:=List.mem_filter.mpr ⟨List.mem_range.mpr (Heap.lt_size e'),by simp [q]⟩
  have z:(gw h H).get? b=none:=PySem.W.hideAll_none (trk h H) hm
  rw [z] at e; cases e
def oS (g h:Heap) (L:Addr):List (Addr×Obj):=(List.range h.objs.size).filterMap fun a=>if a=L∨(g.get? a).isSome=true then none else (h.get? a).map fun o=>(a,o)
def rest (g h:Heap) (L d:Addr):List (Addr×Obj):=(oS g h L).filter fun p=>decide (p.1≠d)
end L2
namespace L2
open PySem PySem.Spec PyProof.Rows
structure Mod (K:PySem.W.Frag) (mg:Str→Option Value) (base:Heap):Prop where
 kin:K.In base
 glob:base.Ns mainGlobals mg
 blt:∃mb,base.Ns builtinsNs mb∧∀x:Str,x ≠ "__name__" → mb x=bootBuiltins x
 nolimit:base.NoLimit
/-- the context: a def's body (or a comprehension's block) running. base: fixed through the aN law; s₀,H₀: the entry; outer: the frames whose slots others may change (a def's callers); stack: all frames that run;
   ex: iterators that were made ahead of the entry and are walked here (a comprehension's); fn: the names whose cells were made at the entry (a def: all; a comprehension's block: its own); calm: not within an except suite; pn: pins that every state bears; xe: what is wanted of an exception that leaves the code -/
structure Cx where
 prog:Program
 w:World
 K:PySem.W.Frag
 mg:Str→Option Value
 base:Heap
 A:Around
 N:List Str
 s₀:Shared
 H₀:Hp
 env:Env
 outer:List Env
 stack:List Env
 ex:List Addr
 fn:Str→Bool
 calm:Bool
 pn:List (Addr×Obj)
 xe:Value→Shared→Prop
def frs (l:List Env):List Addr:=l.filterMap (·.frame)
abbrev Cx.fs (X:Cx):List Addr:=frs X.outer
def Vis (sc:Scope) (x:Str):Prop:=sc.names.lookup x=some .local∨sc.names.lookup x=some .cell∨sc.names.lookup x=some .free
def Loc (sc:Scope) (x:Str):Prop:=sc.names.lookup x=some .local∨sc.names.lookup x=some .cell
def AG (env:Env) (h:Heap) (m:Str→Option Value) (x:Str) (u:Value):Prop :=
 (env.kindOf x=some .local∧m x=some u)∨((env.kindOf x=some .cell∨env.kindOf x=some .free)∧∃c,env.cells.lookup x=some c∧h.IsCell c (some u))
structure Cx.Ok (X:Cx):Prop where
 mod:Mod X.K X.mg X.base
 kind:X.env.scope.kind=.function
 glob:X.env.globals=mainGlobals
 blt:X.env.builtins=builtinsNs
 above:X.s₀.heap.objs.size≤X.env.locals
 inj:∀x y c,X.env.cells.lookup x=some c→X.env.cells.lookup y=some c→x=y
 has:∀x,(X.env.kindOf x=some .cell∨X.env.kindOf x=some .free)→∃c,X.env.cells.lookup x=some c
 cab:∀x c,X.fn x=true→X.env.cells.lookup x=some c→X.s₀.heap.objs.size≤c
 hd:X.calm=true→X.A.handled=none
 frames:X.A.frames=some X.stack
 stk:X.stack=X.outer∨(X.stack=X.env :: X.outer∧X.env.frame=some X.env.locals)
 exf:∀b∈X.ex,b≠X.env.locals∧∀x c,X.env.cells.lookup x=some c→c≠b
 bs:∀b o,X.base.get? b=some o→X.s₀.heap.get? b=some o∧X.H₀ b=none
 bsz:X.base.objs.size≤X.s₀.heap.objs.size
 noex:∀b o,X.base.get? b=some o→b∉X.ex
 exfs:∀b∈X.ex,b∉X.fs
 funs:X.s₀.heap.FunFrames X.base X.outer
 frf:∀b∈X.fs,X.H₀ b=none
structure Inv (X:Cx) (pins:List (Addr×Obj)) (σ:List (Option V)) (H:Hp) (s:Shared):Prop where
 ok:X.Ok
 os:s.os=X.s₀.os
 bare:AllBare s.gens
 base:Un X.fs X.ex X.H₀ H X.s₀.heap s.heap
 loc:∃m,s.heap.Ns X.env.locals m∧∀ (i:Nat) (x:Str) (v:V),X.N[i]? = some x→σ[i]? = some (some v)→Vis X.env.scope x→∃u,RelV v u∧AG X.env s.heap m x u
 cell:∀x c,X.env.cells.lookup x=some c→∃v,s.heap.IsCell c v
 free:H X.env.locals=none
 freeC:∀x c,X.env.cells.lookup x=some c→H c=none
 pin:∀p∈X.pn ++ pins,s.heap.get? p.1=some p.2∧H p.1=none∧p.1≠X.env.locals∧p.1∉X.fs∧∀v,p.2.data≠.cell v
 hok:HOk X.prog X.w H s.heap
 len:σ.length=X.N.length
section
variable {X:Cx} {pins:List (Addr×Obj)} {σ:List (Option V)} {H H':Hp} {s:Shared} {h':Heap}
theorem Cx.Ok.nofr (ok:X.Ok) {b:Addr} {o:Obj} (e:X.base.get? b=some o):b∉X.fs:=fun hb=>by
 have:=(ok.funs.mem hb).1
 rw [e] at this; cases this
theorem Inv.bs (I:Inv X pins σ H s):∀b o,X.base.get? b=some o→s.heap.get? b=some o∧H b=none:=fun b o e =>
 ⟨I.base.keep b o (I.ok.bs b o e).1 (I.ok.bs b o e).2 (I.ok.nofr e) (I.ok.noex b o e),I.base.free b o (I.ok.bs b o e).1 (I.ok.bs b o e).2 (I.ok.noex b o e)⟩
theorem Inv.bk (I:Inv X pins σ H s):∀b o,X.base.get? b=some o→s.heap.get? b=some o:=fun b o e=>(I.bs b o e).1
theorem Inv.mod (I:Inv X pins σ H s):Mod X.K X.mg X.base:=I.ok.mod
theorem Inv.kIn (I:Inv X pins σ H s):X.K.In s.heap:=I.ok.mod.kin.keeps I.bk
theorem Inv.fr (I:Inv X pins σ H s):∃m,Fr X.base X.env.locals s.heap m :=
 let ⟨m,hn,_⟩:=I.loc
 ⟨m,hn,I.bk,Nat.le_trans I.ok.bsz I.ok.above⟩
theorem Inv.lt (I:Inv X pins σ H s):X.env.locals < s.heap.objs.size:=let ⟨_,hn,_⟩:=I.loc; hn.lt
theorem Inv.sz (I:Inv X pins σ H s):X.s₀.heap.objs.size≤s.heap.objs.size:=Nat.le_trans I.ok.above (Nat.le_of_lt I.lt)
theorem Inv.nofs (I:Inv X pins σ H s) {a:Addr} (h:s.heap.objs.size≤a):a∉X.fs:=fun hb=>by
 obtain ⟨_,o,ho,_⟩:=I.ok.funs.mem hb
 exact absurd (Nat.lt_of_lt_of_le (Heap.lt_size ho) (Nat.le_trans I.sz h)) (Nat.lt_irrefl _)
theorem Inv.cne (I:Inv X pins σ H s):∀x c,X.env.cells.lookup x=some c→c≠X.env.locals:=fun x c e z=>by
 obtain ⟨v,o,ho,hd⟩:=I.cell x c e
 obtain ⟨m,⟨o',es,ep,ho',hd',_⟩,_⟩:=I.loc
 rw [z,ho'] at ho; cases ho; rw [hd'] at hd; cases hd
theorem Inv.funs (I:Inv X pins σ H s):s.heap.FunFrames X.base X.outer:=by
 have all:∀ (l:List Env),(∀b∈frs l,b∈X.fs)→X.s₀.heap.FunFrames X.base l→s.heap.FunFrames X.base l:=by
  intro l
  induction l with
  | nil=>intro _ _; trivial
  | cons env r ih =>
   intro hs hl
   obtain ⟨hk,⟨L,o,hf,hn,ho,hd⟩,hr⟩:=hl
   have hL:L∈X.fs:=hs L (by unfold frs; rw [List.filterMap_cons,hf]; exact List.mem_cons_self)
   obtain ⟨sl,e⟩:=I.base.slot L o ho (I.ok.frf L hL) hL fun z=>I.ok.exfs L z hL
   exact ⟨hk,⟨L,_,hf,hn,e,hd⟩,ih (fun b hb=>hs b (by unfold frs; rw [List.filterMap_cons,hf]; exact List.mem_cons_of_mem _ hb)) hr⟩
 exact all X.outer (fun _ hb=>hb) I.ok.funs
theorem Inv.stack (I:Inv X pins σ H s):s.heap.FunFrames X.base X.stack:=by
 rcases I.ok.stk with e | ⟨e,hf⟩
 ·rw [e]; exact I.funs
 ·rw [e]
  obtain ⟨m,hn,_⟩:=I.loc
  refine .cons (by rw [I.ok.kind]; decide) hf hn ?_ I.funs
  exact Heap.get?_none_of_le (Nat.le_trans I.ok.bsz I.ok.above)
theorem Inv.stkSub (I:Inv X pins σ H s):∀b∈frs X.stack,b∈X.env.locals :: X.fs:=fun b hb=>by
 rcases I.ok.stk with e | ⟨e,hf⟩
 ·rw [e] at hb; exact List.mem_cons_of_mem _ hb
 ·rw [e] at hb
  unfold frs at hb
  rw [List.filterMap_cons,hf] at hb
  exact hb
theorem Inv.stkFree (I:Inv X pins σ H s):∀b∈frs X.stack,H b=none:=fun b hb=>by
 rcases List.mem_cons.mp (I.stkSub b hb) with e | hb
 ·rw [e]; exact I.free
 ·obtain ⟨_,o,ho,_⟩:=I.ok.funs.mem hb
  exact I.base.free b o ho (I.ok.frf b hb) fun z=>I.ok.exfs b z hb
theorem Inv.step {g':Array GenState} {t':Nat} {d':Drawn} {ch:List Addr} (I:Inv X pins σ H s)
  (hch:∀b∈ch,(b∈X.ex∨X.s₀.heap.objs.size≤b)∧b≠X.env.locals∧(∀x c,X.env.cells.lookup x=some c→c≠b)∧∀p∈X.pn ++ pins,p.1≠b)
  (keep:∀b o,b≠X.env.locals→b∉X.fs→b∉ch→s.heap.get? b=some o→H b=none→h'.get? b=some o)
  (slot:∀b o,b≠X.env.locals→b∈X.fs→b∉ch→s.heap.get? b=some o→H b=none→∃sl,h'.get? b=some { o with slots:=sl }) (free:∀b o,b∉ch→s.heap.get? b=some o→H b=none→H' b=none)
  (there:∀b o,b∉ch→s.heap.get? b=some o→∃o',h'.get? b=some o')
  (tups:∀b xs,H b=some (.tup xs)→H' b=some (.tup xs)) (frzs:∀b o u,H b=some (.frz o u)→H' b=some (.frz o u)) (tbls:∀b ps,H b=some (.tbl ps)→∃more,H' b=some (.tbl (ps ++ more)))
  (ns:∀m,s.heap.Ns X.env.locals m→h'.Ns X.env.locals m) (hok:HOk X.prog X.w H' h') (hg:AllBare g') :
  Inv X pins σ H' { s with heap:=h',gens:=g',drawn:=d',toks:=t' }:=by
 have neL:∀b o,X.s₀.heap.get? b=some o→b≠X.env.locals:=fun b o e=>Nat.ne_of_lt (Nat.lt_of_lt_of_le (Heap.lt_size e) I.ok.above)
 have neC:∀b o,X.s₀.heap.get? b=some o→b∉X.ex→b∉ch:=fun b o e hx hb=>by
  rcases (hch b hb).1 with z | z
  ·exact hx z
  ·exact absurd (Nat.lt_of_lt_of_le (Heap.lt_size e) z) (Nat.lt_irrefl _)
 have cellK:∀x c,X.env.cells.lookup x=some c→∀v,s.heap.IsCell c v→h'.IsCell c v:=fun x c e v ⟨o,ho,hd⟩=>by
  have nch:c∉ch:=fun z=>(hch c z).2.2.1 x c e rfl
  by_cases hc:c∈X.fs
  ·obtain ⟨sl,q⟩:=slot c o (I.cne x c e) hc nch ho (I.freeC x c e)
   exact ⟨_,q,hd⟩
  ·exact ⟨o,keep c o (I.cne x c e) hc nch ho (I.freeC x c e),hd⟩
 refine ⟨I.ok,I.os,hg,⟨fun b o e n hb hx=>?_,fun b o e n hb hx=>?_,fun b o e n hx=>?_,fun b o e hx=>?_,fun b xs e=>tups b xs (I.base.tups b xs e),fun b o xs e=>frzs b o xs (I.base.frzs b o xs e),fun b ps e=>?_⟩,?_,fun x c e=>?_,?_,fun x c e=>?_,fun p hp=>?_,hok,I.len⟩
 ·exact keep b o (neL b o e) hb (neC b o e hx) (I.base.keep b o e n hb hx) (I.base.free b o e n hx)
 ·obtain ⟨sl,e1⟩:=I.base.slot b o e n hb hx
  obtain ⟨sl',e2⟩:=slot b _ (neL b o e) hb (neC b o e hx) e1 (I.base.free b o e n hx)
  exact ⟨sl',e2⟩
 ·obtain ⟨o',e1⟩:=I.base.there b o e hx
  exact free b o' (neC b o e hx) e1 (I.base.free b o e n hx)
 ·obtain ⟨o',e1⟩:=I.base.there b o e hx
  exact there b o' (neC b o e hx) e1
 ·obtain ⟨m1,e1⟩:=I.base.tbls b ps e
  obtain ⟨m2,e2⟩:=tbls b _ e1
  exact ⟨m1 ++ m2,by rw [e2,Array.append_assoc]⟩
 ·obtain ⟨m,hn,hl⟩:=I.loc
  refine ⟨m,ns m hn,fun i x v e1 e2 e3=>?_⟩
  obtain ⟨u,r,l⟩:=hl i x v e1 e2 e3
  refine ⟨u,r,?_⟩
  rcases l with l | ⟨k,c,e,z⟩
  ·exact .inl l
  ·exact .inr ⟨k,c,e,cellK x c e _ z⟩
 ·obtain ⟨v,z⟩:=I.cell x c e
  exact ⟨v,cellK x c e v z⟩
 ·obtain ⟨m,⟨o,_,_,ho,_⟩,_⟩:=I.loc
  exact free _ o (fun z=>(hch _ z).2.1 rfl) ho I.free
 ·obtain ⟨v,o,ho,hd⟩:=I.cell x c e
  exact free c o (fun z=>(hch c z).2.2.1 x c e rfl) ho (I.freeC x c e)
 ·obtain ⟨e,n,ne,nf,d⟩:=I.pin p hp
  have nch:p.1∉ch:=fun z=>(hch p.1 z).2.2.2 p hp rfl
  exact ⟨keep p.1 p.2 ne nf nch e n,free p.1 p.2 nch e n,ne,nf,d⟩
theorem Inv.un {t':Nat} (I:Inv X pins σ H s) (u:Un X.fs [] H H' s.heap h') (hok:HOk X.prog X.w H' h'):Inv X pins σ H' { s with heap:=h',toks:=t' }:=by
 obtain ⟨m,⟨o,es,ep,ho,r⟩,_⟩:=id I.loc
 obtain ⟨sl,hL⟩:=u.any ho I.free (by simp)
 exact I.step (g':=s.gens) (d':=s.drawn) (ch:=[]) (fun _ z=>nomatch z) (fun b o _ hb _ e n=>u.keep b o e n hb (by simp)) (fun b o _ hb _ e n=>u.slot b o e n hb (by simp)) (fun b o _ e n=>u.free b o e n (by simp)) (fun b o _ e=>u.there b o e (by simp)) u.tups u.frzs u.tbls (fun m' hm=>by
  obtain ⟨o',es',ep',ho',r'⟩:=hm
  rw [ho] at ho'; cases ho'
  exact ⟨_,es',ep',hL,r'⟩) hok I.bare
theorem Inv.call {g':Array GenState} {t':Nat} {d':Drawn} {ch:List Addr} (I:Inv X pins σ H s) (u:Un (frs X.stack) ch H H' s.heap h') (hok:HOk X.prog X.w H' h') (hg:AllBare g')
  (hch:∀b∈ch,(b∈X.ex∨X.s₀.heap.objs.size≤b)∧b≠X.env.locals∧(∀x c,X.env.cells.lookup x=some c→c≠b)∧∀p∈X.pn ++ pins,p.1≠b) :
  Inv X pins σ H' { s with heap:=h',gens:=g',drawn:=d',toks:=t' }:=by
 obtain ⟨m,⟨o,es,ep,ho,r⟩,_⟩:=id I.loc
 obtain ⟨sl,hL⟩:=u.any ho I.free fun z=>(hch _ z).2.1 rfl
 exact I.step (ch:=ch) hch (fun b o hL hb hc e n=>u.keep b o e n (fun z=>(List.mem_cons.mp (I.stkSub b z)).elim hL hb) hc) (fun b o _ _ hc e n=>u.any e n hc) (fun b o hc e n=>u.free b o e n hc) (fun b o hc e=>u.there b o e hc) u.tups u.frzs u.tbls (fun m' hm=>by
  obtain ⟨o',es',ep',ho',r'⟩:=hm
  rw [ho] at ho'; cases ho'
  exact ⟨_,es',ep',hL,r'⟩) hok hg
theorem Inv.turned {t':Nat} {it:Addr} (I:Inv X pins σ H s) (k:∀b o,b≠it→s.heap.get? b=some o→h'.get? b=some o) (hn:H it=none) (hL:it≠X.env.locals)
  (h1:it∈X.ex∨X.s₀.heap.objs.size≤it) (h2:∀x c,X.env.cells.lookup x=some c→c≠it) (h3:∀p∈X.pn ++ pins,p.1≠it):Inv X pins σ H { s with heap:=h',toks:=t' }:=by
 have nit:∀b u,H b=some u→b≠it:=fun b u e z=>by rw [z,hn] at e; cases e
 refine I.step (g':=s.gens) (d':=s.drawn) (ch:=[it]) (fun b hb=>?_) (fun b o _ _ hc e _=>k b o (fun z=>hc (by simp [z])) e) (fun b o _ _ hc e _=>⟨o.slots,k b o (fun z=>hc (by simp [z])) e⟩) (fun _ _ _ _ n=>n)
  (fun b o hc e=>⟨o,k b o (fun z=>hc (by simp [z])) e⟩) (fun _ _ e=>e) (fun _ _ _ e=>e) (fun b ps e=>⟨#[],by rw [e]; simp⟩) (fun m hm=>?_) (fun b u e=>?_) I.bare
 ·have e:b=it:=by simpa using hb
  subst e
  exact ⟨h1,hL,h2,h3⟩
 ·obtain ⟨o,es,ep,ho,r⟩:=hm
  exact ⟨o,es,ep,k _ o (Ne.symm hL) ho,r⟩
 ·refine (I.hok b u e).stay (fun c v hc q=>k c v ?_ q) (fun _ q=>q) fun _ _ q=>q
  rcases hc with z | z
  ·rw [z]; exact nit b u e
  ·exact nit c _ z
theorem Inv.tok (I:Inv X pins σ H s) (t:Nat):Inv X pins σ H { s with toks:=t }:=I.un (h':=s.heap) (t':=t) Un.refl I.hok
theorem Inv.kept {t':Nat} (I:Inv X pins σ H s) (k:∀b u,s.heap.get? b=some u→h'.get? b=some u):Inv X pins σ H { s with heap:=h',toks:=t' }:=I.un (Un.kept k) (I.hok.kept k)
theorem Inv.laid {a:Addr} {o:HO} {t':Nat} (I:Inv X pins σ H s) (k:∀b u,s.heap.get? b=some u→h'.get? b=some u) (hp:s.heap.objs.size≤a) (new:ObjOk X.prog X.w (upd H a o) h' a o) :
  Inv X pins σ (upd H a o) { s with heap:=h',toks:=t' }:=I.un (Un.laid k hp (I.hok.fresh hp)) (I.hok.laid k hp new)
theorem Inv.write {x e:Addr} {o:HO} {t':Nat} (I:Inv X pins σ H s) (mu:Mut (H x)) (he:e=x∨H e=some (.own x)) (k:∀b u,b≠e→s.heap.get? b=some u→h'.get? b=some u) (heo:∃u,h'.get? e=some u)
  (new:ObjOk X.prog X.w (upd H x o) h' x o):Inv X pins σ (upd H x o) { s with heap:=h',toks:=t' }:=I.un (Un.write mu he k heo) (I.hok.write mu he k heo new)
theorem Inv.weak {σ':List (Option V)} (I:Inv X pins σ H s) (hl:σ'.length=σ.length) (w:∀ (i:Nat) v,σ'[i]? = some (some v)→σ[i]? = some (some v)):Inv X pins σ' H s :=
 ⟨I.ok,I.os,I.bare,I.base,let ⟨m,hn,hl'⟩:=I.loc; ⟨m,hn,fun i x v e1 e2 e3=>hl' i x v e1 (w i v e2) e3⟩,I.cell,I.free,I.freeC,I.pin,I.hok,hl.trans I.len⟩
theorem Inv.pins_of {pins':List (Addr×Obj)} (I:Inv X pins σ H s) (h:∀p∈pins',s.heap.get? p.1=some p.2∧H p.1=none∧p.1≠X.env.locals∧p.1∉X.fs∧∀v,p.2.data≠.cell v):Inv X pins' σ H s :=
 ⟨I.ok,I.os,I.bare,I.base,I.loc,I.cell,I.free,I.freeC,fun p hp=>(List.mem_append.mp hp).elim (fun z=>I.pin p (List.mem_append_left _ z)) (h p),I.hok,I.len⟩
theorem ie {N:List Str} (hN:N.Nodup) {i j:Nat} {x:Str} (a:N[i]? = some x) (b:N[j]? = some x):i=j:=by
 obtain ⟨h1,e1⟩:=List.getElem?_eq_some_iff.mp a
 obtain ⟨h2,e2⟩:=List.getElem?_eq_some_iff.mp b
 exact (List.getElem_inj hN).mp (e1.trans e2.symm)
theorem fX {M:Model} {A:Around} {E:Value→Shared→Prop} {i:Nat} {x:Str} {v:V} {u:Value} {Q:Unit→Shared→Prop} (I:Inv X pins σ H s) (hN:X.N.Nodup) (hi:X.N[i]? = some x) (hx:Loc X.env.scope x) (r:RelV v u)
  (h:∀s',Inv X pins (σ.set i (some v)) H s'→(∃a,Heap.SameBut a s.heap s'.heap∧(a=X.env.locals∨X.env.cells.lookup x=some a))→Q () s') (hf:X.fn x=true∨X.env.scope.names.lookup x=some .local:=by first | exact .inl rfl | exact .inr rfl | assumption):wpAny M A (storeName X.env x u) Q E s:=by
 obtain ⟨m,hn,hl⟩:=id I.loc
 have hcls:(X.env.scope.kind == .class || (X.env.scope.kind == .module && X.env.locals != X.env.globals))=false:=by rw [I.ok.kind]; rfl
 have hiσ:i < σ.length:=by rw [I.len]; exact (List.getElem?_eq_some_iff.mp hi).1
 have cne:=I.cne
 have tracked:∀ {a:Addr} {h':Heap},(∃o,s.heap.get? a=some o∧H a=none)→Heap.SameBut a s.heap h'→HOk X.prog X.w H h':=fun {a h'} ha hs b ob e=>by
  obtain ⟨_,_,hfree⟩:=ha
  refine (I.hok b ob e).stay (fun c w' hc q=>(hs.2 c ?_).trans q) (fun _ q=>q) fun _ _ q=>q
  rintro rfl
  rcases hc with rfl | hc
  ·rw [hfree] at e; cases e
  ·rw [hfree] at hc; cases hc
 rcases hx with hk | hk
 ·refine wpAny_storeName_local hk hn (fun h' hn' hs=>?_) hcls
  obtain ⟨oL,_,_,hoL,_⟩:=id hn
  refine h _ ⟨I.ok,I.os,I.bare,⟨fun b o e n hb hx=>?_,fun b o e n hb hx=>?_,I.base.free,fun b o e hx=>?_,I.base.tups,I.base.frzs,I.base.tbls⟩,⟨_,hn',fun j y v' e1 e2 e3=>?_⟩,fun y c e=>?_,I.free,I.freeC,fun p hp=>?_,tracked ⟨oL,hoL,I.free⟩ hs,by simpa using I.len⟩ ⟨_,hs,.inl rfl⟩
  ·exact (hs.2 b (Nat.ne_of_lt (Nat.lt_of_lt_of_le (Heap.lt_size e) I.ok.above))).trans (I.base.keep b o e n hb hx)
  ·obtain ⟨sl,e1⟩:=I.base.slot b o e n hb hx
   exact ⟨sl,(hs.2 b (Nat.ne_of_lt (Nat.lt_of_lt_of_le (Heap.lt_size e) I.ok.above))).trans e1⟩
  ·obtain ⟨o',e1⟩:=I.base.there b o e hx
   exact ⟨o',(hs.2 b (Nat.ne_of_lt (Nat.lt_of_lt_of_le (Heap.lt_size e) I.ok.above))).trans e1⟩
  ·by_cases hj:j=i
   ·subst hj
    rw [hi] at e1; cases e1
    rw [List.getElem?_set_self hiσ] at e2
    cases e2
    exact ⟨u,r,.inl ⟨hk,by simp⟩⟩
   ·rw [List.getElem?_set_ne (Ne.symm hj)] at e2
    obtain ⟨u',r',q⟩:=hl j y v' e1 e2 e3
    refine ⟨u',r',?_⟩
    rcases q with ⟨k,e⟩ | ⟨k,c,e,z⟩
    ·refine .inl ⟨k,?_⟩
     have:y≠x:=fun e=>hj (ie hN e1 (e ▸ hi))
     simp [this,e]
    ·exact .inr ⟨k,c,e,z.sameBut hs (cne y c e)⟩
  ·obtain ⟨w',z⟩:=I.cell y c e
   exact ⟨w',z.sameBut hs (cne y c e)⟩
  ·obtain ⟨e,n,ne,nf,d⟩:=I.pin p hp
   exact ⟨(hs.2 p.1 ne).trans e,n,ne,nf,d⟩
 ·have hfn:X.fn x=true:=by
   rcases hf with z | z
   ·exact z
   ·rw [z] at hk; cases hk
  obtain ⟨c,hc⟩:=I.ok.has x (.inl hk)
  obtain ⟨w',z⟩:=I.cell x c hc
  refine wpAny_storeName_cell I.ok.kind hk hc z (fun h' hc' hs=>?_)
  obtain ⟨oc,hoc,hocd⟩:=id z
  refine h { s with heap:=h' } ⟨I.ok,I.os,I.bare,⟨fun b o e n hb hx=>?_,fun b o e n hb hx=>?_,I.base.free,fun b o e hx=>?_,I.base.tups,I.base.frzs,I.base.tbls⟩,⟨m,hn.sameBut hs (Ne.symm (cne x c hc)),fun j y v' e1 e2 e3=>?_⟩,fun y c' e=>?_,I.free,I.freeC,fun p hp=>?_,tracked ⟨oc,hoc,I.freeC x c hc⟩ hs,by simpa using I.len⟩ ⟨c,hs,.inr hc⟩
  ·exact (hs.2 b (Nat.ne_of_lt (Nat.lt_of_lt_of_le (Heap.lt_size e) (I.ok.cab x c hfn hc)))).trans (I.base.keep b o e n hb hx)
  ·obtain ⟨sl,e1⟩:=I.base.slot b o e n hb hx
   exact ⟨sl,(hs.2 b (Nat.ne_of_lt (Nat.lt_of_lt_of_le (Heap.lt_size e) (I.ok.cab x c hfn hc)))).trans e1⟩
  ·obtain ⟨o',e1⟩:=I.base.there b o e hx
   exact ⟨o',(hs.2 b (Nat.ne_of_lt (Nat.lt_of_lt_of_le (Heap.lt_size e) (I.ok.cab x c hfn hc)))).trans e1⟩
  ·by_cases hj:j=i
   ·subst hj
    rw [hi] at e1; cases e1
    rw [List.getElem?_set_self hiσ] at e2
    cases e2
    exact ⟨u,r,.inr ⟨.inl hk,c,hc,hc'⟩⟩
   ·rw [List.getElem?_set_ne (Ne.symm hj)] at e2
    obtain ⟨u',r',q⟩:=hl j y v' e1 e2 e3
    refine ⟨u',r',?_⟩
    rcases q with q | ⟨k,c',e,z'⟩
    ·exact .inl q
    ·refine .inr ⟨k,c',e,z'.sameBut hs ?_⟩
     rintro rfl
     exact hj (ie hN e1 (I.ok.inj _ _ _ e hc ▸ hi))
  ·by_cases hcc:c'=c
   ·subst hcc; exact ⟨_,hc'⟩
   ·obtain ⟨w2,z2⟩:=I.cell y c' e
    exact ⟨w2,z2.sameBut hs hcc⟩
  ·obtain ⟨e,n,ne,nf,d⟩:=I.pin p hp
   refine ⟨(hs.2 p.1 ?_).trans e,n,ne,nf,d⟩
   intro q
   rw [q,hoc] at e
   have q':oc=p.2:=Option.some.inj e
   exact d w' (by rw [← q']; exact hocd)
theorem dv {M:Model} {A:Around} {E:Value→Shared→Prop} {i:Nat} {x:Str} {v:V} {u:Value} {Q:Unit→Shared→Prop} (I:Inv X pins σ H s) (hN:X.N.Nodup) (hi:X.N[i]? = some x) (hx:Loc X.env.scope x) (r:RelV v u)
  (h:∀s',Inv X pins (σ.set i (some v)) H s'→Q () s') (hf:X.fn x=true∨X.env.scope.names.lookup x=some .local:=by first | exact .inl rfl | exact .inr rfl | assumption):wpAny M A (storeName X.env x u) Q E s :=
 fX I hN hi hx r (fun s' I' _=>h s' I') hf
theorem Inv.call' {s':Shared} {ch:List Addr} (I:Inv X pins σ H s) (ho:s'.os=s.os) (u:Un (frs X.stack) ch H H' s.heap s'.heap) (hok:HOk X.prog X.w H' s'.heap) (hg:AllBare s'.gens)
  (hch:∀b∈ch,(b∈X.ex∨X.s₀.heap.objs.size≤b)∧b≠X.env.locals∧(∀x c,X.env.cells.lookup x=some c→c≠b)∧∀p∈X.pn ++ pins,p.1≠b):Inv X pins σ H' s':=by
 obtain ⟨h',g',d',t',o'⟩:=s'
 have e:o'=s.os:=ho
 subst e
 exact I.call (g':=g') (t':=t') (d':=d') u hok hg hch
end
abbrev XK:=Value→Option Addr→Hp→Prop
abbrev St:=List (Option V)
abbrev VK:=V→Hp→Prop
abbrev TE:=St→Hp→VK→Prop
abbrev TT:=St→Hp→(Bool→Hp→Prop)→Prop
abbrev TA:=St→Hp→(List V→Hp→Prop)→Prop
structure Ends where
 nx:St→Hp→Prop
 rt:VK
 bk:St→Hp→Prop:=fun _ _=>False
 ct:St→Hp→Prop:=fun _ _=>False
abbrev TS:=Ends→St→Hp→Prop
def EP (X:Cx) (pins:List (Addr×Obj)) (σ:St) (Q:VK) (u:Value) (s':Shared):Prop:=∃v H',Inv X pins σ H' s'∧RelV v u∧Q v H'
def TP (X:Cx) (pins:List (Addr×Obj)) (σ:St) (Q:Bool→Hp→Prop) (b:Bool) (s':Shared):Prop:=∃H',Inv X pins σ H' s'∧Q b H'
def AP (X:Cx) (pins:List (Addr×Obj)) (σ:St) (Q:List V→Hp→Prop) (us:List Value) (s':Shared):Prop:=∃vs H',Inv X pins σ H' s'∧Vals vs us∧Q vs H'
def SP (X:Cx) (pins:List (Addr×Obj)) (D:Ends) (f:Flow) (s':Shared):Prop :=
 match f with
 | .next=>∃σ' H',Inv X pins σ' H' s'∧D.nx σ' H'
 | .brk=>∃σ' H',Inv X pins σ' H' s'∧D.bk σ' H'
 | .cont=>∃σ' H',Inv X pins σ' H' s'∧D.ct σ' H'
 | .ret u=>∃v σ' H',Inv X pins σ' H' s'∧RelV v u∧D.rt v H'
def PE (X:Cx) (e:Expr) (t:TE):Prop :=
 ∀ (pins:List (Addr×Obj)) (s:Shared) (σ:St) (H:Hp) (Q:VK),Inv X pins σ H s→t σ H Q→wpAny (model X.prog X.w) X.A (eval e X.env) (EP X pins σ Q) X.xe s
def PT (X:Cx) (e:Expr) (t:TT):Prop :=
 ∀ (pins:List (Addr×Obj)) (s:Shared) (σ:St) (H:Hp) (Q:Bool→Hp→Prop),Inv X pins σ H s→t σ H Q→wpAny (model X.prog X.w) X.A (isTrue e X.env (eval e X.env)) (TP X pins σ Q) X.xe s
def PW (X:Cx) (e:Expr) (t:TT):Prop :=
 ∀ (aN:Sem Value) (pins:List (Addr×Obj)) (s:Shared) (σ:St) (H:Hp) (Q:Bool→Hp→Prop),Inv X pins σ H s→t σ H Q→wpAny (model X.prog X.w) X.A (isTrue e X.env aN) (TP X pins σ Q) X.xe s
theorem PW.pt {X:Cx} {e:Expr} {t:TT} (h:PW X e t):PT X e t:=h _
def PA (X:Cx) (es:List Expr) (t:TA):Prop :=
 ∀ (pos:Pos) (pins:List (Addr×Obj)) (s:Shared) (σ:St) (H:Hp) (Q:List V→Hp→Prop),Inv X pins σ H s→t σ H Q→wpAny (model X.prog X.w) X.A (spliced (backTo pos (starEach es X.env))) (AP X pins σ Q) X.xe s
def PS (X:Cx) (st:Stmt) (t:TS):Prop :=
 ∀ (pins:List (Addr×Obj)) (s:Shared) (σ:St) (H:Hp) (D:Ends),Inv X pins σ H s→t D σ H→wpAny (model X.prog X.w) X.A (exec st X.env) (SP X pins D) X.xe s
def PSs (X:Cx) (st:List Stmt) (t:TS):Prop :=
 ∀ (pins:List (Addr×Obj)) (s:Shared) (σ:St) (H:Hp) (D:Ends),Inv X pins σ H s→t D σ H→wpAny (model X.prog X.w) X.A (execs st X.env) (SP X pins D) X.xe s
theorem thn {α:Type} {t:Sem α} {Q Q':α→Shared→Prop} {M:Model} {A:Around} {E:Value→Shared→Prop} {s:Shared} (h:wpAny M A t Q E s) (hQ:∀a s,Q a s→Q' a s):wpAny M A t Q' E s:=wpAny_mono h hQ fun _ _ x=>x
end L2
namespace L2
open PySem PySem.Spec PyProof.Rows
section
variable {X:Cx}
theorem bin {a b:Expr} {ta tb:TE} (ha:PE X a ta) (hb:PE X b tb) {pins:List (Addr×Obj)} {s:Shared} {σ:St} {H:Hp} {R:V→V→Hp→Prop} (I:Inv X pins σ H s) (h:ta σ H fun x H1=>tb σ H1 fun y H2=>R x y H2)
  {α:Type} {Q:α→Shared→Prop} {f:Value→Value→Sem α}
  (hf:∀v u s2 x y H2,Inv X pins σ H2 s2→RelV x v→RelV y u→R x y H2→wpAny (model X.prog X.w) X.A (f v u) Q X.xe s2) :
  wpAny (model X.prog X.w) X.A (eval a X.env) (fun v s₁=>wpAny (model X.prog X.w) X.A (eval b X.env) (fun u s₂=>wpAny (model X.prog X.w) X.A (f v u) Q X.xe s₂) X.xe s₁) X.xe s:=by
 refine thn (ha pins s σ H _ I h) fun v s1 ⟨x,H1,I1,r1,q1⟩=>?_
 refine thn (hb pins s1 σ H1 _ I1 q1) fun u s2 ⟨y,H2,I2,r2,q2⟩=>?_
 exact hf v u s2 x y H2 I2 r1 r2 q2
def oT (i:Nat):TE:=fun σ H Q=>∃v,σ[i]? = some (some v)∧Q v H
def tC (v:V):TE:=fun _ H Q=>Q v H
theorem qV {i:Nat} {x:Str} {pos:Pos} (hN:X.N[i]? = some x) (hv:Vis X.env.scope x) (hd:(x == ("__debug__" : Str))=false:=by decide) (hcd:(x == ("__classdict__" : Str))=false:=by decide):PE X (.Name x pos) (oT i):=by
 intro pins s σ H Q I h
 obtain ⟨v,e,h⟩:=h
 obtain ⟨m,hn,hl⟩:=I.loc
 obtain ⟨u,r,l⟩:=hl i x v hN e hv
 have fin:EP X pins σ Q u s:=⟨v,H,I,r,h⟩
 rcases l with ⟨hk,hm⟩ | ⟨hk,c,hc,hcell⟩
 ·exact wpAny_Name (wpAny_loadName_local I.ok.kind hk hn hm fin) hd
 ·rcases hk with hk | hk
  ·exact wpAny_Name (wpAny_loadName_cell I.ok.kind hk hc hcell fin) hd
  ·exact wpAny_Name (wpAny_loadName_free I.ok.kind hk hc hcell fin hcd) hd
theorem ad {i j pos}:PE X (.Constant (.int i) j pos) (tC (.int i)):=fun _ _ _ H _ I h=>wpAny_Constant_int ⟨.int i,H,I.tok _,⟨_,rfl⟩,h⟩
theorem bD {b j pos}:PE X (.Constant (.bool b) j pos) (tC (.bl b)):=fun _ _ _ H _ I h=>Constant_bool ⟨.bl b,H,I,rfl,h⟩
theorem bF {j pos}:PE X (.Constant .none j pos) (tC .non):=fun _ _ _ H _ I h=>Constant_none ⟨.non,H,I,rfl,h⟩
theorem br {x j pos}:PE X (.Constant (.str x) j pos) (tC (.str x)):=fun _ _ _ H _ I h=>Calls.Constant_str ⟨.str x,H,I.tok _,⟨_,rfl⟩,h⟩
def Gl (X:Cx) (x:Str):Prop:=X.env.kindOf x=some .globalImplicit
theorem gx {E:Value→Shared→Prop} {pins:List (Addr×Obj)} {s:Shared} {σ:St} {H:Hp} {x:Str} {u:Value} {pos:Pos} {Q:Value→Shared→Prop} (I:Inv X pins σ H s) (hg:Gl X x) (hm:X.mg x=some u) (h:Q u s)
  (hd:(x == ("__debug__" : Str))=false:=by decide):wpAny (model X.prog X.w) X.A (eval (.Name x pos) X.env) Q E s :=
 Calls.Name_function_global I.ok.kind hg (Calls.loadGlobal_global (by rw [I.ok.glob]; exact I.mod.glob.keeps I.bk) hm h) hd
theorem dh {E:Value→Shared→Prop} {pins:List (Addr×Obj)} {s:Shared} {σ:St} {H:Hp} {x:Str} {u:Value} {pos:Pos} {Q:Value→Shared→Prop} (I:Inv X pins σ H s) (hg:Gl X x) (hm:X.mg x=none) (hv:bootBuiltins x=some u) (h:Q u s)
  (hn:x ≠ "__name__" := by decide) (hd:(x == ("__debug__" : Str))=false:=by decide):wpAny (model X.prog X.w) X.A (eval (.Name x pos) X.env) Q E s:=by
 obtain ⟨mb,h1,h2⟩:=I.mod.blt
 exact Calls.Name_function_global I.ok.kind hg (Calls.loadGlobal_builtin (by rw [I.ok.glob]; exact I.mod.glob.keeps I.bk) hm (by rw [I.ok.blt]; exact h1.keeps I.bk) ((h2 x hn).trans hv) h) hd
theorem bj {x:Str} {v:V} {u:Value} {pos:Pos} (hg:Gl X x) (hm:X.mg x=some u) (r:RelV v u) (hd:(x == ("__debug__" : Str))=false:=by decide):PE X (.Name x pos) (tC v) :=
 fun _ _ _ H _ I h=>gx I hg hm ⟨v,H,I,r,h⟩ hd
theorem bv {x:Str} {v:V} {u:Value} {pos:Pos} (hg:Gl X x) (hm:X.mg x=none) (hv:bootBuiltins x=some u) (r:RelV v u) (hn:x ≠ "__name__" := by decide) (hd:(x == ("__debug__" : Str))=false:=by decide):PE X (.Name x pos) (tC v) :=
 fun _ _ _ H _ I h=>dh I hg hm hv ⟨v,H,I,r,h⟩ hn hd
variable {a b:Expr} {ta tb:TE} {pos:Pos}
def PC (X:Cx) (op:CmpOp) (a b:Expr) (t:TE):Prop :=
 ∀ (pins:List (Addr×Obj)) (s:Shared) (σ:St) (H:Hp) (Q:VK),Inv X pins σ H s→t σ H Q →
  wpAny (model X.prog X.w) X.A (eval a X.env) (fun v s₁=>wpAny (model X.prog X.w) X.A (eval b X.env) (fun u s₂=>wpAny (model X.prog X.w) X.A (compareOp op v u) (EP X pins σ Q) X.xe s₂) X.xe s₁) X.xe s
def tB (t:TE):TT:=fun σ H Q=>t σ H fun x H1=>∃c,x=.bl c∧Q c H1
theorem AH {op:CmpOp} {t:TE} (h:PC X op a b t) (h1:behindInMarks op b=false:=by first | exact nobehind _ (by decide) (by decide) | rfl):PT X (.Compare a [op] [b] pos) (tB t):=by
 intro pins s σ H Q I hw
 refine wpAny_isTrue_Compare1 (thn (h pins s σ H _ I hw) fun v s1 h1=>thn h1 fun u s2 h2=>thn h2 fun c s3 ⟨x,H1,I1,r1,q1⟩=>?_) h1
 obtain ⟨d,rfl,q⟩:=q1
 cases r1
 exact wpAny_truthy_bool ⟨H1,I1,q⟩
theorem aH {e:Expr} {t:TE} (h:PE X e t) (he:∀aN,isTrue e X.env aN=(do let v←aN; standAt e.pos; holding [v] (truthy v)):=by intro _; rfl):PT X e (tB t):=by
 intro pins s σ H Q I hw
 refine isTrue_plain (thn (h pins s σ H _ I hw) fun v s1 ⟨x,H1,I1,r1,q1⟩=>?_) (he _)
 obtain ⟨d,rfl,q⟩:=q1
 cases r1
 exact wpAny_truthy_bool ⟨H1,I1,q⟩
variable {tA tB':TT} {rest:List Expr}
def AI (t u:TT):TT:=fun σ H Q=>t σ H fun c H1=>if c=true then u σ H1 Q else Q false H1
def tOr (t u:TT):TT:=fun σ H Q=>t σ H fun c H1=>if c=true then Q true H1 else u σ H1 Q
def ut (t:TT):TT:=fun σ H Q=>t σ H fun c H1=>Q (!c) H1
theorem gy (ha:PT X a tA):PW X (.BoolOp .And [a] pos) tA:=by
 intro wh pins s σ H Q I h
 refine isTrue_and (thn (ha pins s σ H Q I h) fun c s1 e=>?_)
 cases c with
 | true=>exact isTrue_and_nil e
 | false=>exact e
theorem bg (ha:PT X a tA):PW X (.BoolOp .Or [a] pos) tA:=by
 intro wh pins s σ H Q I h
 refine isTrue_or (thn (ha pins s σ H Q I h) fun c s1 e=>?_)
 cases c with
 | false=>exact isTrue_or_nil e
 | true=>exact e
theorem jc (ha:PT X a tA) (hb:PW X (.BoolOp .And (b :: rest) pos) tB'):PW X (.BoolOp .And (a :: b :: rest) pos) (AI tA tB'):=by
 intro wh pins s σ H Q I h
 refine isTrue_and (thn (ha pins s σ H _ I h) fun c s1 ⟨H1,I1,q1⟩=>?_)
 cases c with
 | true=>exact hb wh pins s1 σ H1 Q I1 q1
 | false=>exact ⟨H1,I1,q1⟩
theorem be (ha:PT X a tA) (hb:PW X (.BoolOp .Or (b :: rest) pos) tB'):PW X (.BoolOp .Or (a :: b :: rest) pos) (tOr tA tB'):=by
 intro wh pins s σ H Q I h
 refine isTrue_or (thn (ha pins s σ H _ I h) fun c s1 ⟨H1,I1,q1⟩=>?_)
 cases c with
 | true=>exact ⟨H1,I1,q1⟩
 | false=>exact hb wh pins s1 σ H1 Q I1 q1
theorem aL (ha:PT X a tA):PT X (.UnaryOp .Not a pos) (ut tA):=by
 intro pins s σ H Q I h
 exact isTrue_not (ha pins s σ H (fun c H1=>Q (!c) H1) I h)
def uv (ta tb:TE):TE:=fun σ H Q=>ta σ H fun x H1=>∃c,x=.bl c∧if c=true then tb σ H1 Q else Q (.bl false) H1
def AJ (ta tb:TE):TE:=fun σ H Q=>ta σ H fun x H1=>∃c,x=.bl c∧if c=true then Q (.bl true) H1 else tb σ H1 Q
def uw (ta:TE):TE:=fun σ H Q=>ta σ H fun x H1=>∃c,x=.bl c∧Q (.bl (!c)) H1
theorem cF {op} {t:TE} (h:PE X a t):PE X (.BoolOp op [a] pos) t:=fun pins s σ H Q I hw=>BoolOp_one (h pins s σ H Q I hw)
theorem bV (ha:PE X a ta) (hb:PE X (.BoolOp .And (b :: rest) pos) tb):PE X (.BoolOp .And (a :: b :: rest) pos) (uv ta tb):=by
 intro pins s σ H Q I h
 refine BoolOp_and (thn (ha pins s σ H _ I h) fun v s1 ⟨x,H1,I1,r1,q1⟩=>?_)
 obtain ⟨c,rfl,q1⟩:=q1
 cases r1
 refine wpAny_truthy_bool ?_
 cases c with
 | true=>exact hb pins s1 σ H1 Q I1 q1
 | false=>exact ⟨.bl false,H1,I1,rfl,q1⟩
theorem ux (ha:PE X a ta) (hb:PE X (.BoolOp .Or (b :: rest) pos) tb):PE X (.BoolOp .Or (a :: b :: rest) pos) (AJ ta tb):=by
 intro pins s σ H Q I h
 refine BoolOp_or (thn (ha pins s σ H _ I h) fun v s1 ⟨x,H1,I1,r1,q1⟩=>?_)
 obtain ⟨c,rfl,q1⟩:=q1
 cases r1
 refine wpAny_truthy_bool ?_
 cases c with
 | false=>exact hb pins s1 σ H1 Q I1 q1
 | true=>exact ⟨.bl true,H1,I1,rfl,q1⟩
theorem jd (ha:PE X a ta):PE X (.UnaryOp .Not a pos) (uw ta):=by
 intro pins s σ H Q I h
 refine UnaryOp_ (thn (ha pins s σ H _ I h) fun v s1 ⟨x,H1,I1,r1,q1⟩=>?_)
 obtain ⟨c,rfl,q1⟩:=q1
 cases r1
 exact not_of (wpAny_truthy_bool ⟨.bl (!c),H1,I1,rfl,q1⟩)
def tIf (t:TT) (ta tb:TE):TE:=fun σ H Q=>t σ H fun c H1=>if c=true then ta σ H1 Q else tb σ H1 Q
theorem ig {c:Expr} (hc:PT X c tA) (ha:PE X a ta) (hb:PE X b tb):PE X (.IfExp c a b pos) (tIf tA ta tb):=by
 intro pins s σ H Q I h
 refine wpAny_IfExp (thn (hc pins s σ H _ I h) fun d s1 ⟨H1,I1,q1⟩=>?_)
 cases d with
 | true=>exact ha pins s1 σ H1 Q I1 q1
 | false=>exact hb pins s1 σ H1 Q I1 q1
end
end L2
namespace L2
open PySem PySem.Spec PyProof.Rows
def SqL (K:PySem.W.Frag) (H:Hp) (a:Addr) (xs:List V):Prop :=
 Rd H a (.lst xs) ∨
  ∃ (o:Obj) (its:Array Value) (n:Nat),K.lookup a=some o∧o.cls=.type "list" ∧ o.dict=none∧o.data=.seq its n∧its.size≤sizeLine∧Vals xs its.toList
def SqT (K:PySem.W.Frag) (H:Hp) (a:Addr) (xs:List V):Prop :=
 Rd H a (.tup xs) ∨
  ∃ (o:Obj) (its:Array Value) (n:Nat),K.lookup a=some o∧o.cls=.type "tuple" ∧ o.data=.seq its n∧its.size≤sizeLine∧Vals xs its.toList
def AK:Value→Option V
 | .none=>some .non
 | .bool b=>some (.bl b)
 | .int i _=>some (.int i)
 | .str x _=>some (.str x)
 | .bytes b _=>some (.byt b)
 | .float b _=>some (.flt b)
 | .ref a=>some (.ref a)
 | .type n=>some (.ty n)
 | _=>none
theorem RelV.abs {x:V} {u:Value} (r:RelV x u):AK u=some x:=by
 cases x with
 | non=>cases r; rfl
 | bl _=>cases r; rfl
 | int _=>obtain ⟨t,rfl⟩:=r; rfl
 | str _=>obtain ⟨t,rfl⟩:=r; rfl
 | byt _=>obtain ⟨t,rfl⟩:=r; rfl
 | flt _=>obtain ⟨t,rfl⟩:=r; rfl
 | ref _=>cases r; rfl
 | ty _=>cases r; rfl
theorem RelV.inj {x y:V} {u:Value} (r:RelV x u) (q:RelV y u):x=y:=Option.some.inj (r.abs.symm.trans q.abs)
theorem Vals.inj:∀ {xs ys:List V} {us:List Value},Vals xs us→Vals ys us→xs=ys
 | _,_,_,.nil,.nil=>rfl
 | _,_,_,.cons r t,.cons r' t'=>by rw [r.inj r',Vals.inj t t']
section
variable {X:Cx} {pins:List (Addr×Obj)} {σ:St} {H:Hp} {s:Shared} {a:Addr} {xs ys:List V}
theorem SqL.of {K:PySem.W.Frag} (h:H a=some (.lst xs)):SqL K H a xs:=.inl (.inl h)
theorem SqT.of {K:PySem.W.Frag} (h:H a=some (.tup xs)):SqT K H a xs:=.inl (.inl h)
theorem Inv.list (I:Inv X pins σ H s) (h:SqL X.K H a xs):∃its:List Value,Vals xs its∧PlainL s.heap a its.toArray∧xs.length≤sizeLine:=by
 rcases h with h | ⟨o,its,n,hk,hc,hd,hs,hz,r⟩
 ·obtain ⟨z,its,n,r,e⟩:=h.ok I.hok
  exact ⟨its,r,⟨_,n,e,rfl,rfl,rfl⟩,z⟩
 ·refine ⟨its.toList,r,⟨o,n,I.kIn a o hk,hc,hd,by simpa using hs⟩,?_⟩
  have e:=r.length
  simp only [Array.length_toList] at e
  omega
theorem Inv.tuple (I:Inv X pins σ H s) (h:SqT X.K H a xs):∃its:List Value,Vals xs its∧IsTup s.heap a its.toArray∧xs.length≤sizeLine:=by
 rcases h with h | ⟨o,its,n,hk,hc,hs,hz,r⟩
 ·obtain ⟨z,its,r,p⟩:=h.ok I.hok
  exact ⟨its,r,p,z⟩
 ·refine ⟨its.toList,r,⟨o,I.kIn a o hk,hc,n,by simpa using hs⟩,?_⟩
  have e:=r.length
  simp only [Array.length_toList] at e
  omega
theorem Inv.list_inj (I:Inv X pins σ H s) (h:SqL X.K H a xs) (h':SqL X.K H a ys):xs=ys:=by
 obtain ⟨its,r,⟨o,n,e,_,_,d⟩,_⟩:=I.list h
 obtain ⟨its',r',⟨o',n',e',_,_,d'⟩,_⟩:=I.list h'
 rw [e] at e'; cases e'
 rw [d] at d'
 injection d' with d1 _
 have:its=its':=by simpa using congrArg Array.toList d1
 subst this
 exact r.inj r'
theorem Inv.tuple_inj (I:Inv X pins σ H s) (h:SqT X.K H a xs) (h':SqT X.K H a ys):xs=ys:=by
 obtain ⟨its,r,⟨o,e,_,n,d⟩,_⟩:=I.tuple h
 obtain ⟨its',r',⟨o',e',_,n',d'⟩,_⟩:=I.tuple h'
 rw [e] at e'; cases e'
 rw [d] at d'
 injection d' with d1 _
 have:its=its':=by simpa using congrArg Array.toList d1
 subst this
 exact r.inj r'
end
abbrev Cx.wish (X:Cx) (E:Value→Shared→Prop):Cx:={ X with xe:=E }
abbrev Cx.nox (X:Cx):Cx:=X.wish fun _ _=>False
theorem Cx.Ok.wish {X:Cx} (ok:X.Ok) (E:Value→Shared→Prop):(X.wish E).Ok :=
 ⟨ok.mod,ok.kind,ok.glob,ok.blt,ok.above,ok.inj,ok.has,ok.cab,ok.hd,ok.frames,ok.stk,ok.exf,ok.bs,ok.bsz,ok.noex,ok.exfs,ok.funs,ok.frf⟩
theorem Cx.Ok.unwish {X:Cx} {E:Value→Shared→Prop} (ok:(X.wish E).Ok):X.Ok :=
 ⟨ok.mod,ok.kind,ok.glob,ok.blt,ok.above,ok.inj,ok.has,ok.cab,ok.hd,ok.frames,ok.stk,ok.exf,ok.bs,ok.bsz,ok.noex,ok.exfs,ok.funs,ok.frf⟩
section
variable {X:Cx} {pins:List (Addr×Obj)} {σ:St} {H:Hp} {s:Shared} {E:Value→Shared→Prop}
theorem Inv.wish (I:Inv X pins σ H s) (E:Value→Shared→Prop):Inv (X.wish E) pins σ H s:=⟨I.ok.wish E,I.os,I.bare,I.base,I.loc,I.cell,I.free,I.freeC,I.pin,I.hok,I.len⟩
theorem Inv.unwish (I:Inv (X.wish E) pins σ H s):Inv X pins σ H s:=⟨I.ok.unwish,I.os,I.bare,I.base,I.loc,I.cell,I.free,I.freeC,I.pin,I.hok,I.len⟩
theorem SP.unwish {D:Ends} {f:Flow} {s':Shared} (h:SP (X.wish E) pins D f s'):SP X pins D f s':=by
 cases f with
 | next=>obtain ⟨σ',H',I,q⟩:=h; exact ⟨σ',H',I.unwish,q⟩
 | brk=>obtain ⟨σ',H',I,q⟩:=h; exact ⟨σ',H',I.unwish,q⟩
 | cont=>obtain ⟨σ',H',I,q⟩:=h; exact ⟨σ',H',I.unwish,q⟩
 | ret u=>obtain ⟨v,σ',H',I,r,q⟩:=h; exact ⟨v,σ',H',I.unwish,r,q⟩
theorem PSs.nox {st:List Stmt} {t:TS} (h:PSs X.nox st t):PSs X st t:=fun pins s σ H D I hw =>
 wpAny_mono (h pins s σ H D (I.wish _) hw) (fun _ _ q=>q.unwish) fun _ _ z=>False.elim z
end
section
variable {X:Cx} {st:Stmt} {rest:List Stmt} {t u:TS} {e:Expr} {te:TE} {pos:Pos}
def uy:TS:=fun D σ H=>D.nx σ H
def uz (t u:TS):TS:=fun D σ H=>t { D with nx:=u D } σ H
theorem aA:PSs X [] uy:=fun _ _ σ H _ I h=>wpAny_execs_nil ⟨σ,H,I,h⟩
theorem ae (h1:PS X st t) (h2:PSs X rest u):PSs X (st :: rest) (uz t u):=by
 intro pins s σ H D I h
 refine wpAny_execs_cons (thn (h1 pins s σ H { D with nx:=u D } I h) fun f s1 q=>?_)
 cases f with
 | next =>
  obtain ⟨σ',H',I',q⟩:=q
  exact h2 pins s1 σ' H' D I' q
 | ret v=>exact q
 | brk=>exact q
 | cont=>exact q
theorem af (h1:PS X st t):PSs X [st] t:=by
 intro pins s σ H D I h
 refine wpAny_execs_cons (thn (h1 pins s σ H D I h) fun f s1 q=>?_)
 cases f with
 | next=>exact wpAny_execs_nil q
 | ret v=>exact q
 | brk=>exact q
 | cont=>exact q
theorem Inv.quiet {pins:List (Addr×Obj)} {σ:St} {H:Hp} {s:Shared} (I:Inv X pins σ H s):interactive X.env=false:=by simp [interactive,I.ok.kind]
def uA (te:TE):TS:=fun D σ H=>te σ H fun _ H1=>D.nx σ H1
theorem cn (he:PE X e te) (hs:swapsWith e none pos.line X.env=pure false:=by rfl):PS X (.Expr e pos) (uA te):=by
 intro pins s σ H D I h
 exact wpAny_Expr_any (thn (he pins s σ H _ I h) fun v s1 ⟨x,H1,I1,r1,q1⟩=>⟨σ,H1,I1,q1⟩) I.quiet hs
def AL (te:TE):TS:=fun D σ H=>te σ H D.rt
theorem ar (he:PE X e te):PS X (.Return (some e) pos) (AL te):=by
 intro pins s σ H D I h
 exact wpAny_Return_some (thn (he pins s σ H _ I h) fun v s1 ⟨x,H1,I1,r1,q1⟩=>⟨x,σ,H1,I1,r1,q1⟩)
def AM (c:TT) (t u:TS):TS:=fun D σ H=>c σ H fun b H1=>if b=true then t D σ H1 else u D σ H1
theorem aI {c:Expr} {a b:List Stmt} {tc:TT} (hc:PT X c tc) (ha:PSs X a t) (hb:PSs X b u):PS X (.If c a b pos) (AM tc t u):=by
 intro pins s σ H D I h
 refine wpAny_If (thn (hc pins s σ H _ I h) fun d s1 ⟨H1,I1,q1⟩=>?_)
 cases d with
 | true=>exact ha pins s1 σ H1 D I1 q1
 | false=>exact hb pins s1 σ H1 D I1 q1
def mF:TS:=fun _ _ _=>False
theorem ff:PS X st mF:=fun _ _ _ _ _ _ h=>h.elim
theorem el {sts:List Stmt}:PSs X sts mF:=fun _ _ _ _ _ _ h=>h.elim
end
abbrev TG:=V→St→Hp→(St→Hp→Prop)→Prop
abbrev TGs:=List V→St→Hp→(St→Hp→Prop)→Prop
def PG (X:Cx) (target:Expr) (t:TG):Prop :=
 ∀ (pins:List (Addr×Obj)) (s:Shared) (σ:St) (H:Hp) (v:V) (u:Value) (Q:St→Hp→Prop),Inv X pins σ H s→RelV v u→t v σ H Q →
  wpAny (model X.prog X.w) X.A (assign target X.env u) (fun _ s'=>∃σ' H',Inv X pins σ' H' s'∧Q σ' H') X.xe s
def PGs (X:Cx) (ts:List Expr) (t:TGs):Prop :=
 ∀ (pins:List (Addr×Obj)) (s:Shared) (σ:St) (H:Hp) (vs:List V) (us:List Value) (Q:St→Hp→Prop),Inv X pins σ H s→Vals vs us→t vs σ H Q →
  wpAny (model X.prog X.w) X.A (assignInOrder ((assignEach ts X.env).map (·.2)) us) (fun _ s'=>∃σ' H',Inv X pins σ' H' s'∧Q σ' H') X.xe s
abbrev qW:=V→V→V→Hp→(Hp→Prop)→Prop
def uB (X:Cx) (t:qW):Prop :=
 ∀ (pins:List (Addr×Obj)) (s:Shared) (σ:St) (H:Hp) (o i v:V) (ov iv u:Value) (Q:Hp→Prop),Inv X pins σ H s→RelV o ov→RelV i iv→RelV v u→t o i v H Q →
  wpAny (model X.prog X.w) X.A (setItem ov iv u) (fun _ s'=>∃H',Inv X pins σ H' s'∧Q H') X.xe s
section
variable {X:Cx} {pos:Pos}
def ii (i:Nat):TG:=fun v σ H Q=>Q (σ.set i (some v)) H
theorem aj {i:Nat} {x:Str} (hN:X.N.Nodup) (hi:X.N[i]? = some x) (hx:Loc X.env.scope x) (hf:X.fn x=true∨X.env.scope.names.lookup x=some .local:=by first | exact .inl rfl | exact .inr rfl | assumption):PG X (.Name x pos) (ii i):=by
 intro pins s σ H v u Q I r h
 exact wpAny_assign_Name (dv I hN hi hx r (fun s' I'=>⟨_,H,I',h⟩) hf)
def uC:TGs:=fun vs σ H Q=>vs=[]∧Q σ H
def mG (t:TG) (u:TGs):TGs:=fun vs σ H Q=>∃v r,vs=v :: r∧t v σ H fun σ' H'=>u r σ' H' Q
theorem aP:PGs X [] uC:=by
 intro pins s σ H vs us Q I r h
 obtain ⟨e,h⟩:=h
 subst e
 cases r
 exact assignInOrder_nil ⟨σ,H,I,h⟩
theorem ai {e:Expr} {es:List Expr} {t:TG} {u:TGs} (h1:PG X e t) (h2:PGs X es u)
  (hs:(assignEach (e :: es) X.env).map (·.2)=assign e X.env :: (assignEach es X.env).map (·.2):=by rfl):PGs X (e :: es) (mG t u):=by
 intro pins s σ H vs us Q I r h
 obtain ⟨v,vr,e1,h⟩:=h
 subst e1
 cases r with
 | cons r rr =>
  rw [hs]
  refine assignInOrder_cons (thn (h1 pins s σ H _ _ _ I r h) fun _ s1 ⟨σ1,H1,I1,q1⟩=>?_)
  exact h2 pins s1 σ1 H1 _ _ Q I1 rr q1
def uD (K:PySem.W.Frag) (n:Nat) (t:TGs):TG:=fun v σ H Q=>∃a xs,v=.ref a∧SqT K H a xs∧xs.length=n∧t xs σ H Q
theorem bd {es:List Expr} {k:Nat} {t:TGs} {n:Nat} (hc:X.calm=true) (h:PGs X es t)
  (hn:(assignEach es X.env).length=n:=by rfl) (hst:(assignEach es X.env).findIdx? (·.1)=none:=by rfl):PG X (.Tuple es k pos) (uD X.K n t):=by
 intro pins s σ H v u Q I r hw
 obtain ⟨a,xs,e1,hq,hl,hw⟩:=hw
 subst e1
 cases r
 obtain ⟨its,rv,ht,hz⟩:=I.tuple hq
 refine assign_Tuple_tuple (I.ok.hd hc) ht (by simp [hn,← hl,rv.length]) hst fun h' hx=>?_
 have I1:Inv X pins σ H { s with heap:=h' }:=I.kept (t':=s.toks) fun b o e=>hx b o (Nat.ne_of_lt (Heap.lt_size e)) e
 exact h pins _ σ H xs _ Q I1 (by simpa using rv) hw
def AN (to ti:TE) (t:qW):TG:=fun v σ H Q=>to σ H fun o H1=>ti σ H1 fun i H2=>t o i v H2 fun H3=>Q σ H3
theorem gz {o i:Expr} {to ti:TE} {t:qW} (ho:PE X o to) (hi:PE X i ti) (hs:uB X t)
  (ha:∀v,assign (.Subscript o i pos) X.env v=(do
   let ov←holding [v] (eval o X.env)
   let iv←holding [v,ov] (eval i X.env)
   standAt pos
   holding [v,ov,iv] (setItem ov iv v)
   release [v,ov,iv] []):=by intro _; rfl):PG X (.Subscript o i pos) (AN to ti t):=by
 intro pins s σ H v u Q I r h
 rw [ha]
 refine wpAny_bind (wpAny_holding (thn (ho pins s σ H _ I h) fun ov s1 ⟨x,H1,I1,r1,q1⟩=>?_))
 refine wpAny_bind (wpAny_holding (thn (hi pins s1 σ H1 _ I1 q1) fun iv s2 ⟨y,H2,I2,r2,q2⟩=>?_))
 refine wpAny_bind (wpAny_standAt (wpAny_bind (wpAny_holding (thn (hs pins s2 σ H2 x y v ov iv u _ I2 r1 r2 r q2) fun _ s3 ⟨H3,I3,q3⟩=>?_))))
 exact wpAny_release ⟨σ,H3,I3,q3⟩
def qX (te:TE) (g:TG):TS:=fun D σ H=>te σ H fun x H1=>g x σ H1 D.nx
theorem bn {tg e:Expr} {te:TE} {g:TG} (he:PE X e te) (hg:PG X tg g) (hs:swapsWithSole [tg] e pos.line X.env=pure false:=by rfl) (hw:swappedStores [tg] e X.env=pure none:=by rfl)
  (h1:(assignEach [tg] X.env).map (·.2)=[assign tg X.env]:=by rfl):PS X (.Assign [tg] e pos) (qX te g):=by
 intro pins s σ H D I h
 refine wpAny_Assign_stores (thn (he pins s σ H _ I h) fun v s1 ⟨x,H1,I1,r1,q1⟩=>?_) hs hw
 rw [h1]
 exact thn (hg pins s1 σ H1 x v _ I1 r1 q1) fun _ s2 q=>q
theorem aE {i:Nat} {x:Str} {e:Expr} {te:TE} {pos':Pos} (hN:X.N.Nodup) (hi:X.N[i]? = some x) (hx:Loc X.env.scope x) (he:PE X e te) (hs:swapsWith e (some (.Name x pos')) pos.line X.env=pure false:=by rfl) (hf:X.fn x=true∨X.env.scope.names.lookup x=some .local:=by first | exact .inl rfl | exact .inr rfl | assumption) :
  PS X (.Assign [.Name x pos'] e pos) (qX te (ii i)):=by
 intro pins s σ H D I h
 refine wpAny_Assign_Name (thn (he pins s σ H _ I h) fun v s1 ⟨y,H1,I1,r1,q1⟩=>?_) hs
 exact dv I1 hN hi hx r1 (fun s2 I2=>⟨_,H1,I2,q1⟩) hf
def AO (i j:Nat) (ta:TA):TS:=fun D σ H=>ta σ H fun vs H1=>∃v w,vs=[v,w]∧D.nx ((σ.set i (some v)).set j (some w)) H1
theorem qY {i j:Nat} {x y:Str} {a b:Expr} {ta:TA} {px py pt:Pos} {kt k2 pt2} (hc:X.calm=true) (hN:X.N.Nodup) (hi:X.N[i]? = some x) (hj:X.N[j]? = some y) (hij:i≠j)
  (hx:X.env.scope.names.lookup x=some .local) (hy:X.env.scope.names.lookup y=some .local) (ha:PA X [a,b] ta)
  (hw:swappedStores [.Tuple [.Name x px,.Name y py] kt pt] (.Tuple [a,b] k2 pt2) X.env=pure (some [x,y]))
  (hs:swapsWithSole [.Tuple [.Name x px,.Name y py] kt pt] (.Tuple [a,b] k2 pt2) pos.line X.env=pure false:=by rfl) :
  PS X (.Assign [.Tuple [.Name x px,.Name y py] kt pt] (.Tuple [a,b] k2 pt2) pos) (AO i j ta):=by
 intro pins s σ H D I h
 rw [exec_Assign_arm]
 refine wpAny_bind (wpAny_standAt ?_)
 rw [hs]
 refine wpAny_bind (wpAny_pure ?_)
 rw [if_neg (by decide)]
 refine wpAny_bind (Tuple_ (thn (ha _ pins s σ H _ I h) fun us s1 ⟨vs,H1,I1,r1,q1⟩=>?_))
 obtain ⟨v,w,e1,q1⟩:=q1
 subst e1
 obtain ⟨u1,u2,rfl,rv,rw'⟩:∃u1 u2,us=[u1,u2]∧RelV v u1∧RelV w u2:=by
  cases r1 with
  | cons p q =>
   cases q with
   | cons p' q' =>
    cases q'
    exact ⟨_,_,rfl,p,p'⟩
 refine wpAny_newObj_type ?_ (by show 2≤sizeLine; decide)
 have I2:Inv X pins σ H1 { s1 with heap:=s1.heap.push { cls:=.type "tuple", data:=.seq [u1, u2].toArray } }:=I1.kept (t':=s1.toks) fun b o e=>Heap.get?_push_of_some _ e
 rw [hw]
 refine wpAny_bind (wpAny_pure ?_)
 show wpAny (model X.prog X.w) X.A (do rule "assign.swapped-stores"; let items←unpackItems (.ref s1.heap.objs.size) 2 none; assignInOrder [fun v=>bindName X.env y v,fun v=>bindName X.env x v] items.reverse; pure Flow.next) _ _ _
 refine wpAny_bind (wpAny_rule (wpAny_bind (unpackItems_tuple (items:=#[u1,u2]) (I.ok.hd hc) (IsTup.new s1.heap _) fun h' hx'=>?_)))
 have I3:=I2.kept (h':=h') (t':=s1.toks) fun b o e=>hx' b o (Nat.ne_of_lt (Heap.lt_size e)) e
 show wpAny _ _ (assignInOrder [fun v=>bindName X.env y v,fun v=>bindName X.env x v] [u2,u1] >>= fun _=>pure Flow.next) _ _ _
 refine wpAny_bind (assignInOrder_cons (wpAny_bindName (dv I3 hN hj (.inl hy) rw' (fun s2 I4=>?_) (.inr hy))))
 refine assignInOrder_cons (wpAny_bindName (dv I4 hN hi (.inl hx) rv (fun s3 I5=>assignInOrder_nil (wpAny_pure ?_)) (.inr hx)))
 rw [List.set_comm _ _ (Ne.symm hij)] at I5
 exact ⟨_,H1,I5,q1⟩
end
section
variable {X:Cx} {pos:Pos}
end
structure It where
 go:Nat→Hp→Prop
 yld:Nat→Hp→V→Hp→Prop
 stop:Nat→Hp→Prop
def di (X:Cx) (pins:List (Addr×Obj)) (H:Hp) (b:Addr):Prop :=
 H b=none∧b≠X.env.locals∧b∉X.fs∧(b∈X.ex∨X.s₀.heap.objs.size≤b)∧(∀x c,X.env.cells.lookup x=some c→c≠b)∧∀p∈X.pn ++ pins,p.1≠b
theorem Inv.fpOk {X:Cx} {pins:List (Addr×Obj)} {σ:St} {H H':Hp} {s:Shared} {b:Addr} (I:Inv X pins σ H s) (hb:s.heap.objs.size≤b) (hn:H' b=none):di X pins H' b:=by
 refine ⟨hn,Nat.ne_of_gt (Nat.lt_of_lt_of_le I.lt hb),I.nofs hb,.inr (Nat.le_trans I.sz hb),fun x c e z=>?_,fun p hp z=>?_⟩
 ·obtain ⟨v,q⟩:=I.cell x c e
  exact absurd (Nat.lt_of_lt_of_le q.lt (by rw [z]; exact hb)) (Nat.lt_irrefl _)
 ·exact absurd (Nat.lt_of_lt_of_le (Heap.lt_size (I.pin p hp).1) (by rw [z]; exact hb)) (Nat.lt_irrefl _)
structure Turn (P:Program) (w:World) (K:PySem.W.Frag) (tg:Expr) (J:It) (fp:List Addr) (it:Addr) (tn:Nat→Heap→Prop):Prop where
 mem:it∈fp
 obj:∀i h,tn i h→∀b∈fp,∃o,h.get? b=some o∧∀v,o.data≠.cell v
 keep:∀i h h',tn i h→(∀b∈fp,∀o,h.get? b=some o→h'.get? b=some o)→tn i h'
 item:∀ (X:Cx),X.prog=P→X.w=w→X.K=K→X.calm=true→∀ (i:Nat) (pins:List (Addr×Obj)) (s:Shared) (σ:St) (H:Hp) (E:Value→Shared→Prop),Inv X pins σ H s→(∀b∈fp,di X pins H b)→tn i s.heap→J.go i H →
  wpAny (model P w) X.A (pyNext (.ref it)) (fun r s1=>∃u,r=some u ∧
   wpAny (model P w) X.A (letOwnedTupleGo tg (.ref it) u) (fun _ s2=>∃x H',Inv X pins σ H' s2∧RelV x u∧J.yld i H x H'∧tn (i + 1) s2.heap∧∀b∈fp,H' b=none) E s1) E s
 done:∀ (X:Cx),X.prog=P→X.w=w→X.K=K→X.calm=true→∀ (i:Nat) (pins:List (Addr×Obj)) (s:Shared) (σ:St) (H:Hp) (E:Value→Shared→Prop),Inv X pins σ H s→(∀b∈fp,di X pins H b)→tn i s.heap→J.stop i H →
  wpAny (model P w) X.A (pyNext (.ref it)) (fun r s1=>r=none∧Inv X pins σ H s1) E s
 self:∀ (A:Around) (i:Nat) (s:Shared) (Q:Value→Shared→Prop) (E:Value→Shared→Prop),tn i s.heap→Q (.ref it) s→wpAny (model P w) A (pyIter (.ref it)) Q E s
abbrev TI:=St→Hp→(It→Hp→Prop)→Prop
def PIE (X:Cx) (pins:List (Addr×Obj)) (σ:St) (tg:Expr) (R:It→Hp→Prop) (itv:Value) (s2:Shared):Prop :=
 ∃ (it:Addr) (fp:List Addr) (tn:Nat→Heap→Prop) (J:It) (H':Hp),itv=.ref it∧Inv X pins σ H' s2∧Turn X.prog X.w X.K tg J fp it tn∧tn 0 s2.heap∧(∀b∈fp,di X pins H' b)∧R J H'
def PI (X:Cx) (tg iter:Expr) (wi:TI):Prop :=
 ∀ (pins:List (Addr×Obj)) (s:Shared) (σ:St) (H:Hp) (R:It→Hp→Prop),Inv X pins σ H s→wi σ H R →
  wpAny (model X.prog X.w) X.A (eval iter X.env) (fun v s1=>wpAny (model X.prog X.w) X.A (pyIter v) (PIE X pins σ tg R) X.xe s1) X.xe s
theorem mH {M:Model} {A:Around} {E:Value→Shared→Prop} {s:Shared} {tg:Expr} {it:Addr} {u:Value} {o:Obj} {n:String} {vs:Array Value} {Q:Unit→Shared→Prop} (ho:s.heap.get? it=some o) (hc:o.cls=.type n) (hd:o.data=.fields vs)
    (hn:["enumerate","zip","dict_itemiterator","dict_reverseitemiterator","odict_iterator","itertools.zip_longest","itertools.pairwise"].contains n=false) (hQ:Q () s):wpAny M A (letOwnedTupleGo tg (.ref it) u) Q E s:=by
  unfold letOwnedTupleGo
  cases tg <;> first
    | exact wpAny_pure hQ
    | (cases u <;> first
        | exact wpAny_pure hQ
        | (refine wpAny_bind (wpAny_load ho ?_)
           rw [hc,hd]
           show wpAny M A (if (["enumerate","zip","dict_itemiterator","dict_reverseitemiterator","odict_iterator","itertools.zip_longest","itertools.pairwise"].contains n && vs[0]? == some (rawInt _))=true then _ else _) Q E s
           rw [if_neg (by intro h; rw [hn,Bool.false_and] at h; cases h)]
           exact wpAny_pure hQ))
def Itl (K:PySem.W.Frag) (a:Addr):It :=
 ⟨fun i H=>∃xs x,SqL K H a xs∧xs[i]? = some x,fun i H x H'=>H'=H∧∀xs,SqL K H a xs→xs[i]? = some x,fun i H=>∃xs,SqL K H a xs∧xs.length≤i⟩
def Itt (K:PySem.W.Frag) (a:Addr):It :=
 ⟨fun i H=>∃xs x,SqT K H a xs∧xs[i]? = some x,fun i H x H'=>H'=H∧∀xs,SqT K H a xs→xs[i]? = some x,fun i H=>∃xs,SqT K H a xs∧xs.length≤i⟩
def Itr (lo:Int) (n:Nat):It:=⟨fun i _=>i < n,fun i H x H'=>H'=H∧x=.int (lo + i),fun i _=>n≤i⟩
theorem fY {P:Program} {w:World} {K:PySem.W.Frag} {tg:Expr} (a it:Addr):Turn P w K tg (Itl K a) [it] it (fun i h=>h.IsListIter it a i) where
 mem:=by simp
 obj:=fun i h st b hb=>by
  have e:b=it:=by simpa using hb
  subst e
  obtain ⟨o,e,c,d⟩:=st
  exact ⟨o,e,fun v z=>by rw [d] at z; cases z⟩
 keep:=fun i h h' st k=>st.at fun o e=>k it (by simp) o e
 item:=by
  intro X hP hw hK hc i pins s σ H E I hf st hg
  subst hP hw hK
  obtain ⟨xs,x,hq,hx⟩:=hg
  obtain ⟨its,rv,p,hz⟩:=I.list hq
  obtain ⟨u,hu,ru⟩:=rv.get hx
  obtain ⟨f0,f1,f2,f3,f4,f5⟩:=hf it (by simp)
  refine wpAny_pyNext_list_item st p.isList (x:=u) (by simpa using hu) fun h' st' sb=>?_
  have I1:Inv X pins σ H { s with heap:=h' }:=I.turned (t':=s.toks) (fun b o hb e=>(sb.2 b hb).trans e) f0 f1 f3 f4 f5
  obtain ⟨o,e,c,d⟩:=id st'
  exact ⟨u,rfl,mH (s:={ s with heap:=h' }) e c d (by decide) ⟨x,H,I1,ru,⟨rfl,fun ys hy=>by rw [I.list_inj hy hq]; exact hx⟩,st',fun b hb=>(hf b hb).1⟩⟩
 done:=by
  intro X hP hw hK hc i pins s σ H E I hf st hg
  subst hP hw hK
  obtain ⟨xs,hq,hx⟩:=hg
  obtain ⟨its,rv,p,hz⟩:=I.list hq
  obtain ⟨f0,f1,f2,f3,f4,f5⟩:=hf it (by simp)
  have hl:=rv.length
  exact wpAny_pyNext_list_end (I.ok.hd hc) st p.isList (by simp; omega) fun h' eb=>⟨rfl,I.turned (t':=s.toks) (fun b o hb e=>eb b o hb e) f0 f1 f3 f4 f5⟩
 self:=fun _ _ _ _ _ st h=>wpAny_pyIter_listiter st h
theorem fg {P:Program} {w:World} {K:PySem.W.Frag} {tg:Expr} (a it:Addr):Turn P w K tg (Itt K a) [it] it (fun i h=>h.IsTupleIter it a i) where
 mem:=by simp
 obj:=fun i h st b hb=>by
  have e:b=it:=by simpa using hb
  subst e
  obtain ⟨o,e,c,d⟩:=st
  exact ⟨o,e,fun v z=>by rw [d] at z; cases z⟩
 keep:=fun i h h' st k=>st.at fun o e=>k it (by simp) o e
 item:=by
  intro X hP hw hK hc i pins s σ H E I hf st hg
  subst hP hw hK
  obtain ⟨xs,x,hq,hx⟩:=hg
  obtain ⟨its,rv,p,hz⟩:=I.tuple hq
  obtain ⟨u,hu,ru⟩:=rv.get hx
  obtain ⟨f0,f1,f2,f3,f4,f5⟩:=hf it (by simp)
  refine wpAny_pyNext_tuple_item st (show s.heap.IsTuple a its.toArray from p) (x:=u) (by simpa using hu) fun h' st' sb=>?_
  have I1:Inv X pins σ H { s with heap:=h' }:=I.turned (t':=s.toks) (fun b o hb e=>(sb.2 b hb).trans e) f0 f1 f3 f4 f5
  obtain ⟨o,e,c,d⟩:=id st'
  exact ⟨u,rfl,mH (s:={ s with heap:=h' }) e c d (by decide) ⟨x,H,I1,ru,⟨rfl,fun ys hy=>by rw [I.tuple_inj hy hq]; exact hx⟩,st',fun b hb=>(hf b hb).1⟩⟩
 done:=by
  intro X hP hw hK hc i pins s σ H E I hf st hg
  subst hP hw hK
  obtain ⟨xs,hq,hx⟩:=hg
  obtain ⟨its,rv,p,hz⟩:=I.tuple hq
  obtain ⟨f0,f1,f2,f3,f4,f5⟩:=hf it (by simp)
  have hl:=rv.length
  exact wpAny_pyNext_tuple_end (I.ok.hd hc) st (show s.heap.IsTuple a its.toArray from p) (by simp; omega) fun h' eb=>⟨rfl,I.turned (t':=s.toks) (fun b o hb e=>eb b o hb e) f0 f1 f3 f4 f5⟩
 self:=fun _ _ _ _ _ st h=>wpAny_pyIter_tupleiter st h
theorem je {P:Program} {w:World} {K:PySem.W.Frag} {tg:Expr} (it:Addr) (lo:Int) (n:Nat):Turn P w K tg (Itr lo n) [it] it (fun i h=>IsRangeIter h it (lo + (i:Nat) * 1) ((n:Int) - (i:Nat)) 1) where
 mem:=by simp
 obj:=fun i h st b hb=>by
  have e:b=it:=by simpa using hb
  subst e
  exact ⟨_,st,fun v z=>by
   have z':Data.fields _=Data.cell v:=z
   cases z'⟩
 keep:=fun i h h' st k=>k it (by simp) _ st
 item:=by
  intro X hP hw hK hc i pins s σ H E I hf st hg
  subst hP hw hK
  obtain ⟨f0,f1,f2,f3,f4,f5⟩:=hf it (by simp)
  have W:=Walks.range (prog:=X.prog) (w:=X.w) (I.ok.hd hc) it lo 1 n
  refine W.item i s _ _ hg st fun v h' tk hv st' kk=>?_
  obtain ⟨t,rfl⟩:=hv
  have I1:Inv X pins σ H { s with heap:=h',toks:=tk }:=I.turned (fun b o hb e=>kk b o (by simpa using hb) e) f0 f1 f3 f4 f5
  refine ⟨_, rfl, mH (s:={ s with heap:=h', toks:=tk }) (n := "range_iterator") st' rfl rfl (by decide) ⟨.int (lo + i), H, I1, ⟨t, ?_⟩, ⟨rfl, rfl⟩, st', fun b hb=>(hf b hb).1⟩⟩
  rw [Int.mul_one]
 done:=by
  intro X hP hw hK hc i pins s σ H E I hf st hg
  subst hP hw hK
  obtain ⟨f0,f1,f2,f3,f4,f5⟩:=hf it (by simp)
  exact wpAny_pyNext_range_end (I.ok.hd hc) st (by have:n≤i:=hg; omega) fun h' eb=>⟨rfl,I.turned (t':=s.toks) (fun b o hb e=>eb b o hb e) f0 f1 f3 f4 f5⟩
 self:=fun _ _ _ _ _ st h=>wpAny_pyIter_rangeiter st h
end L2
namespace L2
open PySem PySem.Spec PyProof.Rows
section
variable {X:Cx} {tg:Expr}
def qy (K:PySem.W.Frag) (tl:TE):TI:=fun σ H R=>tl σ H fun x H1=>∃a,x=.ref a∧(∃xs,SqL K H1 a xs)∧R (Itl K a) H1
def uE (K:PySem.W.Frag) (tl:TE):TI:=fun σ H R=>tl σ H fun x H1=>∃a,x=.ref a∧(∃xs,SqT K H1 a xs)∧R (Itt K a) H1
theorem bR {l:Expr} {tl:TE} (hl:PE X l tl):PI X tg l (qy X.K tl):=by
 intro pins s σ H R I h
 refine thn (hl pins s σ H _ I h) fun v s1 ⟨x,H1,I1,r1,q1⟩=>?_
 obtain ⟨a,e,⟨xs,hq⟩,q⟩:=q1
 subst e
 cases r1
 obtain ⟨its,rv,p,hz⟩:=I1.list hq
 refine wpAny_pyIter_list p.isList ?_
 refine ⟨s1.heap.objs.size,[s1.heap.objs.size],_,_,H1,rfl,I1.kept (t':=s1.toks) fun b o e=>Heap.get?_push_of_some _ e,fY a _,⟨_,Heap.get?_push_size _ rfl,rfl,rfl⟩,fun b hb=>?_,q⟩
 have e:b=s1.heap.objs.size:=by simpa using hb
 subst e
 exact I1.fpOk (Nat.le_refl _) (I1.hok.fresh (Nat.le_refl _))
theorem qZ {l:Expr} {tl:TE} (hl:PE X l tl):PI X tg l (uE X.K tl):=by
 intro pins s σ H R I h
 refine thn (hl pins s σ H _ I h) fun v s1 ⟨x,H1,I1,r1,q1⟩=>?_
 obtain ⟨a,e,⟨xs,hq⟩,q⟩:=q1
 subst e
 cases r1
 obtain ⟨its,rv,p,hz⟩:=I1.tuple hq
 refine wpAny_pyIter_tuple (show s1.heap.IsTuple a its.toArray from p) ?_
 refine ⟨s1.heap.objs.size,[s1.heap.objs.size],_,_,H1,rfl,I1.kept (t':=s1.toks) fun b o e=>Heap.get?_push_of_some _ e,fg a _,⟨_,Heap.get?_push_size _ rfl,rfl,rfl⟩,fun b hb=>?_,q⟩
 have e:b=s1.heap.objs.size:=by simpa using hb
 subst e
 exact I1.fpOk (Nat.le_refl _) (I1.hok.fresh (Nat.le_refl _))
theorem mI {pins:List (Addr×Obj)} {σ:St} {H:Hp} {s:Shared} {R:It→Hp→Prop} {E:Value→Shared→Prop} {lo hi:Int} {t u v:Tok} {tk:Nat} (I:Inv X pins σ H s) (h1:-(2 ^ 62)≤lo) (h2:lo < 2 ^ 62) (h3:-(2 ^ 62)≤hi) (h4:hi < 2 ^ 62)
  (q:R (Itr lo (hi - lo).toNat) H):wpAny (model X.prog X.w) X.A (pyIter (.ref s.heap.objs.size)) (PIE X pins σ tg R) E { s with heap:=s.heap.push { cls:=.type "range",data:=.fields #[.int lo t,.int hi u,.int 1 v] },toks:=tk }:=by
 refine wpAny_pyIter_range (IsRange.new ..) (small_one h1 h2 h3 h4) ?_
 have I1:Inv X pins σ H { s with heap:=s.heap.push { cls:=.type "range",data:=.fields #[.int lo t,.int hi u,.int 1 v] },toks:=tk }:=I.kept fun b o e=>Heap.get?_push_of_some _ e
 refine ⟨(s.heap.push { cls:=.type "range",data:=.fields #[.int lo t,.int hi u,.int 1 v] }).objs.size,[(s.heap.push { cls:=.type "range",data:=.fields #[.int lo t,.int hi u,.int 1 v] }).objs.size],_,_,H,rfl,
  I1.kept (t':=tk) fun b o e=>Heap.get?_push_of_some _ e,je _ lo (hi - lo).toNat,?_,fun b hb=>?_,q⟩
 ·have e1:lo + ((0:Nat):Int) * 1=lo:=by simp
  have e2:(((hi - lo).toNat:Nat):Int) - ((0:Nat):Int)=Builtin.Range.rangeSize lo hi 1:=by rw [rangeSize_one]; split <;> omega
  show IsRangeIter _ _ (lo + ((0:Nat):Int) * 1) ((((hi - lo).toNat:Nat):Int) - ((0:Nat):Int)) 1
  rw [e1,e2]
  exact Heap.get?_push_size _ rfl
 ·have e:b=(s.heap.push { cls:=.type "range",data:=.fields #[.int lo t,.int hi u,.int 1 v] }).objs.size:=by simpa using hb
  subst e
  exact I1.fpOk (Nat.le_refl _) (I1.hok.fresh (Nat.le_refl _))
def uF (ta:TA):TI:=fun σ H R=>ta σ H fun vs H1=>∃j:Int,vs=[.int j]∧-(2 ^ 62)≤j∧j < 2 ^ 62∧R (Itr 0 j.toNat) H1
theorem fZ {a:Expr} {ta:TA} {p pos:Pos} (hg:Gl X "range") (hm:X.mg "range" = none) (ha:PA X [a] ta) (hs:starEach [a] X.env=[(false,eval a X.env)]:=by rfl):PI X tg (.Call (.Name "range" p) [a] [] pos) (uF ta):=by
 intro pins s σ H R I h
 refine Call_ (dh I hg hm boot_range (PyProof.Rows.callWith_type1 (thn (ha pos pins s σ H _ I h) fun us s1 ⟨vs,H1,I1,r1,q1⟩=>?_) hs rfl))
 obtain ⟨j,e,q1,q2,q⟩:=q1
 subst e
 cases r1 with
 | cons r rr =>
  cases rr
  obtain ⟨t,rfl⟩:=r
  exact call_range_1 (mI I1 (by omega) (by omega) q1 q2 (by simpa using q))
def uG (wi:TI) (g:TG) (tb:TS):TS:=fun D σ H=>wi σ H fun J H1=>∃W:Nat→Nat→St→Hp→Prop,(∃m,W 0 m σ H1)∧∀i m σ H,W i m σ H →
 (J.stop i H∧D.nx σ H)∨(J.go i H∧∃N:St→Hp→Prop,(∀σ' H',N σ' H'→∃m',m' < m∧W (i + 1) m' σ' H')∧∀x H',J.yld i H x H'→g x σ H' fun σ2 H2=>tb { D with nx:=N,ct:=N,bk:=D.nx } σ2 H2)
def gB (fp:List Addr) (h:Heap):List (Addr×Obj):=fp.filterMap fun b=>(h.get? b).map fun o=>(b,o)
theorem bG {fp:List Addr} {h:Heap} {b:Addr} {o:Obj} (hb:b∈fp) (e:h.get? b=some o):(b,o)∈gB fp h:=List.mem_filterMap.mpr ⟨b,hb,by rw [e]; rfl⟩
theorem kT {fp:List Addr} {h:Heap} {p:Addr×Obj} (hp:p∈gB fp h):p.1∈fp∧h.get? p.1=some p.2:=by
 obtain ⟨b,hb,e⟩:=List.mem_filterMap.mp hp
 cases q:h.get? b with
 | none=>rw [q] at e; cases e
 | some o =>
  rw [q] at e
  have e':(b,o)=p:=Option.some.inj e
  subst e'
  exact ⟨hb,q⟩
theorem Inv.pinned {pins:List (Addr×Obj)} {σ:St} {H:Hp} {s:Shared} {fp:List Addr} (I:Inv X pins σ H s) (hf:∀b∈fp,di X pins H b) (ho:∀b∈fp,∃o,s.heap.get? b=some o∧∀v,o.data≠.cell v):Inv X (pins ++ gB fp s.heap) σ H s :=
 I.pins_of fun p hp=>(List.mem_append.mp hp).elim (fun z=>I.pin p (List.mem_append_right _ z)) fun z=>by
  obtain ⟨hb,e⟩:=kT z
  obtain ⟨f0,f1,f2,_⟩:=hf p.1 hb
  obtain ⟨o,e',d⟩:=ho p.1 hb
  rw [e] at e'; cases e'
  exact ⟨e,f0,f1,f2,d⟩
theorem Inv.unpinned {pins pl:List (Addr×Obj)} {σ:St} {H:Hp} {s:Shared} (I:Inv X (pins ++ pl) σ H s):Inv X pins σ H s:=I.pins_of fun p hp=>I.pin p (List.mem_append_right _ (List.mem_append_left _ hp))
theorem bO {iter:Expr} {body:List Stmt} {wi:TI} {g:TG} {tb:TS} {pos:Pos} (hp:PassesOwn (model X.prog X.w) X.A X.env X.xe) (hc:X.calm=true) (hi:PI X tg iter wi) (hg:PG X tg g) (hb:PSs X body tb)
  (hs:∀x,foldedSetIterable iter X.env x=pure x:=by intro _; rfl):PS X (.For tg iter body [] pos) (uG wi g tb):=by
 intro pins s σ H D I h
 refine wpAny_For (thn (hi pins s σ H _ I h) fun v s1 h1=>thn h1 fun itv s2 h2=>?_) hs
 obtain ⟨it,fp,tn,J,H2,e,I2,T,st2,f2,W,⟨m0,w0⟩,turn⟩:=h2
 subst e
 have stat:∀ {H':Hp},(∀b∈fp,H' b=none)→∀b∈fp,di X pins H' b:=fun hn b hb=>⟨hn b hb,(f2 b hb).2⟩
 refine codeAny_forLoop_any (fun n s'=>∃i σ' H',Inv X pins σ' H' s'∧tn i s'.heap∧(∀b∈fp,H' b=none)∧W i n σ' H') ?_ m0 ⟨0,σ,H2,I2,st2,fun b hb=>(f2 b hb).1,w0⟩
 rintro n s3 ⟨i,σ3,H3,I3,st3,fr3,w3⟩
 rcases turn i n σ3 H3 w3 with ⟨stop,qn⟩ | ⟨go,N,hN,step⟩
 ·refine wpAny_passesOwn hp (thn (T.done X rfl rfl rfl hc i pins s3 σ3 H3 X.xe I3 (stat fr3) st3 stop) fun r s4 ⟨hr,I4⟩=>?_)
  subst hr
  exact wpAny_execs_nil ⟨σ3,H3,I4,qn⟩
 ·refine wpAny_passesOwn hp (thn (T.item X rfl rfl rfl hc i pins s3 σ3 H3 X.xe I3 (stat fr3) st3 go) fun r s4 ⟨u,hr,h4⟩=>?_)
  subst hr
  refine wpAny_passesOwn hp (thn h4 fun _ s5 ⟨x,H5,I5,r5,y5,st5,fr5⟩=>?_)
  have I5':=I5.pinned (stat fr5) (T.obj _ _ st5)
  refine wpAny_passesOwn hp (thn (hg _ s5 σ3 H5 x u _ I5' r5 (step x H5 y5)) fun _ s6 ⟨σ6,H6,I6,q6⟩=>?_)
  refine wpAny_passesOwn hp (thn (hb _ s6 σ6 H6 _ I6 q6) fun f s7 q7=>?_)
  have again:∀ {σ7:St} {H7:Hp},Inv X (pins ++ gB fp s5.heap) σ7 H7 s7→N σ7 H7→∃m,m < n∧∃i σ' H',Inv X pins σ' H' s7∧tn i s7.heap∧(∀b∈fp,H' b=none)∧W i m σ' H':=fun {σ7 H7} I7 n7=>by
   obtain ⟨m',hm,w7⟩:=hN σ7 H7 n7
   refine ⟨m',hm,i + 1,σ7,H7,I7.unpinned,T.keep _ _ _ st5 fun b hb o e=>(I7.pin (b,o) (List.mem_append_right _ (List.mem_append_right _ (bG hb e)))).1,fun b hb=>?_,w7⟩
   obtain ⟨o,e,d⟩:=T.obj _ _ st5 b hb
   exact (I7.pin (b,o) (List.mem_append_right _ (List.mem_append_right _ (bG hb e)))).2.1
  cases f with
  | next=>obtain ⟨σ7,H7,I7,n7⟩:=q7; exact again I7 n7
  | cont=>obtain ⟨σ7,H7,I7,n7⟩:=q7; exact again I7 n7
  | brk=>obtain ⟨σ7,H7,I7,q7⟩:=q7; exact ⟨σ7,H7,I7.unpinned,q7⟩
  | ret v=>obtain ⟨x7,σ7,H7,I7,r7,q7⟩:=q7; exact ⟨x7,σ7,H7,I7.unpinned,r7,q7⟩
end
theorem bW {K:PySem.W.Frag} {a:Addr} {xs:List V} {g:TG} {tb:TS} {D:Ends} {σ:St} {H:Hp} (Pv:Nat→St→Hp→Prop) (h0:Pv 0 σ H) (hl:∀i σ H,i≤xs.length→Pv i σ H→SqL K H a xs)
  (hs:∀i x σ H,xs[i]? = some x→Pv i σ H→g x σ H fun σ2 H2=>tb { D with nx:=Pv (i + 1),ct:=Pv (i + 1),bk:=D.nx } σ2 H2) (hd:∀σ H,Pv xs.length σ H→D.nx σ H) :
  ∃W:Nat→Nat→St→Hp→Prop,(∃m,W 0 m σ H)∧∀i m σ H,W i m σ H →
   ((Itl K a).stop i H∧D.nx σ H)∨((Itl K a).go i H∧∃N:St→Hp→Prop,(∀σ' H',N σ' H'→∃m',m' < m∧W (i + 1) m' σ' H')∧∀x H',(Itl K a).yld i H x H'→g x σ H' fun σ2 H2=>tb { D with nx:=N,ct:=N,bk:=D.nx } σ2 H2):=by
 refine ⟨fun i m σ H=>m=xs.length - i∧i≤xs.length∧Pv i σ H,⟨xs.length,by simp,Nat.zero_le _,h0⟩,?_⟩
 rintro i m σ H ⟨rfl,hi,p⟩
 have q:=hl i σ H hi p
 by_cases hlt:i < xs.length
 ·refine .inr ⟨⟨xs,xs[i],q,by simp [hlt]⟩,Pv (i + 1),fun σ' H' p'=>⟨xs.length - (i + 1),by omega,rfl,hlt,p'⟩,fun x H' y=>?_⟩
  obtain ⟨e,y⟩:=y
  subst e
  exact hs i x σ _ (y xs q) p
 ·have e:i=xs.length:=by omega
  subst e
  exact .inl ⟨⟨xs,q,Nat.le_refl _⟩,hd σ H p⟩
theorem oU {K:PySem.W.Frag} {a:Addr} {xs:List V} {g:TG} {tb:TS} {D:Ends} {σ:St} {H:Hp} (Pv:Nat→St→Hp→Prop) (h0:Pv 0 σ H) (hl:∀i σ H,i≤xs.length→Pv i σ H→SqT K H a xs)
  (hs:∀i x σ H,xs[i]? = some x→Pv i σ H→g x σ H fun σ2 H2=>tb { D with nx:=Pv (i + 1),ct:=Pv (i + 1),bk:=D.nx } σ2 H2) (hd:∀σ H,Pv xs.length σ H→D.nx σ H) :
  ∃W:Nat→Nat→St→Hp→Prop,(∃m,W 0 m σ H)∧∀i m σ H,W i m σ H →
   ((Itt K a).stop i H∧D.nx σ H)∨((Itt K a).go i H∧∃N:St→Hp→Prop,(∀σ' H',N σ' H'→∃m',m' < m∧W (i + 1) m' σ' H')∧∀x H',(Itt K a).yld i H x H'→g x σ H' fun σ2 H2=>tb { D with nx:=N,ct:=N,bk:=D.nx } σ2 H2):=by
 refine ⟨fun i m σ H=>m=xs.length - i∧i≤xs.length∧Pv i σ H,⟨xs.length,by simp,Nat.zero_le _,h0⟩,?_⟩
 rintro i m σ H ⟨rfl,hi,p⟩
 have q:=hl i σ H hi p
 by_cases hlt:i < xs.length
 ·refine .inr ⟨⟨xs,xs[i],q,by simp [hlt]⟩,Pv (i + 1),fun σ' H' p'=>⟨xs.length - (i + 1),by omega,rfl,hlt,p'⟩,fun x H' y=>?_⟩
  obtain ⟨e,y⟩:=y
  subst e
  exact hs i x σ _ (y xs q) p
 ·have e:i=xs.length:=by omega
  subst e
  exact .inl ⟨⟨xs,q,Nat.le_refl _⟩,hd σ H p⟩
theorem ga {lo:Int} {n:Nat} {g:TG} {tb:TS} {D:Ends} {σ:St} {H:Hp} (Pv:Nat→St→Hp→Prop) (h0:Pv 0 σ H)
  (hs:∀i σ H,i < n→Pv i σ H→g (.int (lo + i)) σ H fun σ2 H2=>tb { D with nx:=Pv (i + 1),ct:=Pv (i + 1),bk:=D.nx } σ2 H2) (hd:∀σ H,Pv n σ H→D.nx σ H) :
  ∃W:Nat→Nat→St→Hp→Prop,(∃m,W 0 m σ H)∧∀i m σ H,W i m σ H →
   ((Itr lo n).stop i H∧D.nx σ H)∨((Itr lo n).go i H∧∃N:St→Hp→Prop,(∀σ' H',N σ' H'→∃m',m' < m∧W (i + 1) m' σ' H')∧∀x H',(Itr lo n).yld i H x H'→g x σ H' fun σ2 H2=>tb { D with nx:=N,ct:=N,bk:=D.nx } σ2 H2):=by
 refine ⟨fun i m σ H=>m=n - i∧i≤n∧Pv i σ H,⟨n,by simp,Nat.zero_le _,h0⟩,?_⟩
 rintro i m σ H ⟨rfl,hi,p⟩
 by_cases hlt:i < n
 ·refine .inr ⟨hlt,Pv (i + 1),fun σ' H' p'=>⟨n - (i + 1),by omega,rfl,hlt,p'⟩,fun x H' y=>?_⟩
  obtain ⟨e,y⟩:=y
  subst e y
  exact hs i σ _ hlt p
 ·have e:i=n:=by omega
  subst e
  exact .inl ⟨Nat.le_refl _,hd σ H p⟩
end L2
namespace L2
open PySem PySem.Spec PyProof.Rows
abbrev R2:=V→V→Hp→VK→Prop
def OpR (X:Cx) (f:Value→Value→Sem Value) (r:R2):Prop :=
 ∀ (pins:List (Addr×Obj)) (s:Shared) (σ:St) (H:Hp) (x y:V) (v u:Value) (Q:VK),Inv X pins σ H s→RelV x v→RelV y u→r x y H Q →
  wpAny (model X.prog X.w) X.A (f v u) (EP X pins σ Q) X.xe s
def UnR (X:Cx) (f:Value→Sem Value) (r:V→Hp→VK→Prop):Prop :=
 ∀ (pins:List (Addr×Obj)) (s:Shared) (σ:St) (H:Hp) (x:V) (v:Value) (Q:VK),Inv X pins σ H s→RelV x v→r x H Q →
  wpAny (model X.prog X.w) X.A (f v) (EP X pins σ Q) X.xe s
def cq (X:Cx) (f:Value) (r:List V→Hp→VK→Prop):Prop :=
 ∀ (pins:List (Addr×Obj)) (s:Shared) (σ:St) (H:Hp) (xs:List V) (us:List Value) (Q:VK),Inv X pins σ H s→Vals xs us→r xs H Q →
  wpAny (model X.prog X.w) X.A (call f us) (EP X pins σ Q) X.xe s
def AQ (X:Cx) (r:V→Hp→(Bool→Hp→Prop)→Prop):Prop :=
 ∀ (pins:List (Addr×Obj)) (s:Shared) (σ:St) (H:Hp) (x:V) (v:Value) (Q:Bool→Hp→Prop),Inv X pins σ H s→RelV x v→r x H Q →
  wpAny (model X.prog X.w) X.A (truthy v) (TP X pins σ Q) X.xe s
def tOp (r:R2) (ta tb:TE):TE:=fun σ H Q=>ta σ H fun x H1=>tb σ H1 fun y H2=>r x y H2 Q
def tUn (r:V→Hp→VK→Prop) (ta:TE):TE:=fun σ H Q=>ta σ H fun x H1=>r x H1 Q
def rI (C:Int→Int→Prop) (g:Int→Int→V):R2:=fun x y H Q=>∃i j,x=.int i∧y=.int j∧C i j∧Q (g i j) H
def rI0 (g:Int→Int→V):R2:=fun x y H Q=>∃i j,x=.int i∧y=.int j∧Q (g i j) H
def rU (g:Int→V):V→Hp→VK→Prop:=fun x H Q=>∃i,x=.int i∧Q (g i) H
section
variable {X:Cx} {a b c:Expr} {ta tb tc:TE} {pos:Pos}
theorem rc (ha:PE X a ta) (hb:PE X b tb) {pins:List (Addr×Obj)} {s:Shared} {σ:St} {H:Hp} {R:V→V→Hp→Prop} (I:Inv X pins σ H s)
  (h:ta σ H fun x H1=>tb σ H1 fun y H2=>R x y H2) {Q:Value→Shared→Prop} {f:Value→Value→Sem Value}
  (hf:∀v u s2 x y H2,Inv X pins σ H2 s2→RelV x v→RelV y u→R x y H2→wpAny (model X.prog X.w) X.A (f v u) Q X.xe s2) :
  wpAny (model X.prog X.w) X.A (eval a X.env) (fun v s₁=>wpAny (model X.prog X.w) X.A (eval b X.env) (fun u s₂=>wpAny (model X.prog X.w) X.A (f v u) Q X.xe s₂) X.xe s₁) X.xe s:=by
 refine thn (ha pins s σ H _ I h) fun v s1 ⟨x,H1,I1,r1,q1⟩=>?_
 refine thn (hb pins s1 σ H1 _ I1 q1) fun u s2 ⟨y,H2,I2,r2,q2⟩=>?_
 exact hf v u s2 x y H2 I2 r1 r2 q2
theorem aD {op:Operator} {r:R2} (ho:OpR X (binaryOp op) r) (ha:PE X a ta) (hb:PE X b tb):PE X (.BinOp a op b pos) (tOp r ta tb):=by
 intro pins s σ H Q I h
 exact wpAny_BinOp (rc ha hb I h fun v u s2 x y H2 I2 rx ry q=>ho pins s2 σ H2 x y v u Q I2 rx ry q)
theorem uH {op:UnaryOp} {r:V→Hp→VK→Prop} (ho:UnR X (unaryOp op) r) (ha:PE X a ta):PE X (.UnaryOp op a pos) (tUn r ta):=by
 intro pins s σ H Q I h
 exact UnaryOp_ (thn (ha pins s σ H _ I h) fun v s1 ⟨x,H1,I1,r1,q1⟩=>ho pins s1 σ H1 x v Q I1 r1 q1)
theorem opI {f:Value→Value→Sem Value} {C:Int→Int→Prop} {g:Int→Int→Int}
  (rule:∀ (i j:Int) (t u:Tok) (s:Shared) (Q:Value→Shared→Prop) (E:Value→Shared→Prop),C i j→Q (.int (g i j) s.toks) { s with toks:=s.toks + 1 }→wpAny (model X.prog X.w) X.A (f (.int i t) (.int j u)) Q E s) :
  OpR X f (rI C fun i j=>.int (g i j)):=by
 intro pins s σ H x y v u Q I rx ry h
 obtain ⟨i,j,rfl,rfl,hc,q⟩:=h
 obtain ⟨t,rfl⟩:=rx
 obtain ⟨t',rfl⟩:=ry
 exact rule i j t t' s _ _ hc ⟨.int (g i j),H,I.tok _,⟨_,rfl⟩,q⟩
theorem uI {f:Value→Value→Sem Value} {g:Int→Int→Int}
  (rule:∀ (i j:Int) (t u:Tok) (s:Shared) (Q:Value→Shared→Prop) (E:Value→Shared→Prop),Q (.int (g i j) s.toks) { s with toks:=s.toks + 1 }→wpAny (model X.prog X.w) X.A (f (.int i t) (.int j u)) Q E s) :
  OpR X f (rI0 fun i j=>.int (g i j)):=by
 intro pins s σ H x y v u Q I rx ry h
 obtain ⟨i,j,rfl,rfl,q⟩:=h
 obtain ⟨t,rfl⟩:=rx
 obtain ⟨t',rfl⟩:=ry
 exact rule i j t t' s _ _ ⟨.int (g i j),H,I.tok _,⟨_,rfl⟩,q⟩
theorem oV {f:Value→Value→Sem Value} {g:Int→Int→Bool}
  (rule:∀ (i j:Int) (t u:Tok) (s:Shared) (Q:Value→Shared→Prop) (E:Value→Shared→Prop),Q (.bool (g i j)) s→wpAny (model X.prog X.w) X.A (f (.int i t) (.int j u)) Q E s) :
  OpR X f (rI0 fun i j=>.bl (g i j)):=by
 intro pins s σ H x y v u Q I rx ry h
 obtain ⟨i,j,rfl,rfl,q⟩:=h
 obtain ⟨t,rfl⟩:=rx
 obtain ⟨t',rfl⟩:=ry
 exact rule i j t t' s _ _ ⟨.bl (g i j),H,I,rfl,q⟩
def AR (i j:Int):Prop:=0≤j∧j≤1000000∧i.natAbs < 2 ^ 64
def CMul (i j:Int):Prop:=(-(2 ^ 64) < i∧i < 2 ^ 64)∨(-(2 ^ 64) < j∧j < 2 ^ 64)
theorem CMul.ok {i j:Int} (h:CMul i j):IntMulOk i j:=by
 rcases h with ⟨h1,h2⟩ | ⟨h1,h2⟩
 ·exact .of_left (intBits_le_64 h1 h2)
 ·exact .of_right (intBits_le_64 h1 h2)
theorem aO:OpR X (binaryOp .Add) (rI0 fun i j=>.int (i + j)):=uI fun _ _ _ _ _ _ _ q=>add_int q
theorem bf:OpR X (binaryOp .Sub) (rI0 fun i j=>.int (i - j)):=uI fun _ _ _ _ _ _ _ q=>sub_int q
theorem em:OpR X (binaryOp .Mult) (rI CMul fun i j=>.int (i * j)):=opI fun _ _ _ _ _ _ _ hc q=>mul_int q hc.ok
theorem fh:OpR X (binaryOp .Mod) (rI (fun _ j=>0 < j) fun i j=>.int (i % j)):=opI fun i j _ _ _ _ _ hc q=>by
 have h1:(0:Int) < j:=hc
 exact mod_int' (by omega) (by rw [Int.fmod_eq_emod_of_nonneg i (by omega)]; exact q)
theorem eA:OpR X (binaryOp .Pow) (rI AR fun i j=>.int (i ^ j.toNat)):=opI fun _ _ _ _ _ _ _ hc q=>pow_int_small hc.1 hc.2.1 hc.2.2 q
theorem unI {f:Value→Sem Value} {g:Int→Int}
  (rule:∀ (i:Int) (t:Tok) (s:Shared) (Q:Value→Shared→Prop) (E:Value→Shared→Prop),Q (.int (g i) s.toks) { s with toks:=s.toks + 1 }→wpAny (model X.prog X.w) X.A (f (.int i t)) Q E s) :
  UnR X f (rU fun i=>.int (g i)):=by
 intro pins s σ H x v Q I rx h
 obtain ⟨i,rfl,q⟩:=h
 obtain ⟨t,rfl⟩:=rx
 exact rule i t s _ _ ⟨.int (g i),H,I.tok _,⟨_,rfl⟩,q⟩
theorem rd:UnR X (unaryOp .USub) (rU fun i=>.int (-i)):=unI fun _ _ _ _ _ q=>neg_int q
end
def uJ:V→V→Bool
 | .non,.non=>true | .non,.int _=>true | .int _,.non=>true | .non,.bl _=>true | .bl _,.non=>true | .non,.str _=>true | .str _,.non=>true
 | .int _,.int _=>true | .bl _,.bl _=>true | .str _,.str _=>true | .byt _,.byt _=>true
 | .int _,.str _=>true | .str _,.int _=>true | .bl _,.str _=>true | .str _,.bl _=>true
 | _,_=>false
def rEq:R2:=fun x y H Q=>uJ x y=true∧Q (.bl (decide (x=y))) H
def rNe:R2:=fun x y H Q=>uJ x y=true∧Q (.bl (!decide (x=y))) H
theorem gC {i j:Int}:decide (V.int i=V.int j)=(i == j):=by
 rw [Bool.eq_iff_iff]
 simp
theorem mJ {i j:Bool}:decide (V.bl i=V.bl j)=(i == j):=by
 rw [Bool.eq_iff_iff]
 simp
theorem ke {i j:Str}:decide (V.str i=V.str j)=(i == j):=by
 rw [Bool.eq_iff_iff]
 simp
theorem kf {i j:Array UInt8}:decide (V.byt i=V.byt j)=(i.toList == j.toList):=by
 rw [Bool.eq_iff_iff]
 cases i
 cases j
 simp
section
variable {X:Cx} {a b c:Expr} {ta tb tc:TE} {pos:Pos}
theorem aJ {pins:List (Addr×Obj)} {σ:St} {H:Hp} {s:Shared} {Q:VK} {k k':Bool} (I:Inv X pins σ H s) (q:Q (.bl k) H) (e:k=k'):EP X pins σ Q (.bool k') s:=by
 subst e
 exact ⟨.bl k,H,I,rfl,q⟩
theorem bK:OpR X (compareOp .Eq) rEq:=by
 intro pins s σ H x y v u Q I rx ry h
 obtain ⟨hs,q⟩:=h
 cases x with
 | non =>
  cases rx
  cases y with
  | non=>cases ry; exact PySem.EqNone.eq_none_none (aJ I q (by simp))
  | bl j=>cases ry; exact PySem.EqNone.eq_none_bool (aJ I q (by simp))
  | int j=>obtain ⟨t',rfl⟩:=ry; exact PySem.EqNone.eq_none_int (aJ I q (by simp))
  | str j=>obtain ⟨t',rfl⟩:=ry; exact PySem.EqNone.eq_none_str (aJ I q (by simp))
  | _=>exact absurd (show false=true from hs) Bool.false_ne_true
 | bl i =>
  cases rx
  cases y with
  | non=>cases ry; exact PySem.EqNone.eq_bool_none (aJ I q (by simp))
  | bl j=>cases ry; exact eq_bool (aJ I q mJ)
  | str j=>obtain ⟨t',rfl⟩:=ry; exact PySem.EqMixed.eq_bool_str (aJ I q (by simp))
  | _=>exact absurd (show false=true from hs) Bool.false_ne_true
 | int i =>
  obtain ⟨t,rfl⟩:=rx
  cases y with
  | non=>cases ry; exact PySem.EqNone.eq_int_none (aJ I q (by simp))
  | int j=>obtain ⟨t',rfl⟩:=ry; exact eq_int (aJ I q gC)
  | str j=>obtain ⟨t',rfl⟩:=ry; exact PySem.EqMixed.eq_int_str (aJ I q (by simp))
  | _=>exact absurd (show false=true from hs) Bool.false_ne_true
 | str i =>
  obtain ⟨t,rfl⟩:=rx
  cases y with
  | non=>cases ry; exact PySem.EqNone.eq_str_none (aJ I q (by simp))
  | bl j=>cases ry; exact PySem.EqMixed.eq_str_bool (aJ I q (by simp))
  | int j=>obtain ⟨t',rfl⟩:=ry; exact PySem.EqMixed.eq_str_int (aJ I q (by simp))
  | str j=>obtain ⟨t',rfl⟩:=ry; exact eq_str (aJ I q ke)
  | _=>exact absurd (show false=true from hs) Bool.false_ne_true
 | byt i =>
  obtain ⟨t,rfl⟩:=rx
  cases y with
  | byt j=>obtain ⟨t',rfl⟩:=ry; exact PySem.W.eq_bytes (aJ I q kf)
  | _=>exact absurd (show false=true from hs) Bool.false_ne_true
 | _=>cases y <;> exact absurd (show false=true from hs) Bool.false_ne_true
theorem dw:OpR X (compareOp .NotEq) rNe:=by
 intro pins s σ H x y v u Q I rx ry h
 obtain ⟨hs,q⟩:=h
 cases x with
 | non =>
  cases rx
  cases y with
  | non=>cases ry; exact PySem.EqNone.ne_none_none (aJ I q (by simp))
  | bl j=>cases ry; exact PySem.EqNone.ne_none_bool (aJ I q (by simp))
  | int j=>obtain ⟨t',rfl⟩:=ry; exact PySem.EqNone.ne_none_int (aJ I q (by simp))
  | str j=>obtain ⟨t',rfl⟩:=ry; exact PySem.EqNone.ne_none_str (aJ I q (by simp))
  | _=>exact absurd (show false=true from hs) Bool.false_ne_true
 | bl i =>
  cases rx
  cases y with
  | non=>cases ry; exact PySem.EqNone.ne_bool_none (aJ I q (by simp))
  | bl j=>cases ry; exact ne_bool (aJ I q (congrArg not mJ))
  | str j=>obtain ⟨t',rfl⟩:=ry; exact PySem.EqMixed.ne_bool_str (aJ I q (by simp))
  | _=>exact absurd (show false=true from hs) Bool.false_ne_true
 | int i =>
  obtain ⟨t,rfl⟩:=rx
  cases y with
  | non=>cases ry; exact PySem.EqNone.ne_int_none (aJ I q (by simp))
  | int j=>obtain ⟨t',rfl⟩:=ry; exact ne_int (aJ I q (congrArg not gC))
  | str j=>obtain ⟨t',rfl⟩:=ry; exact PySem.EqMixed.ne_int_str (aJ I q (by simp))
  | _=>exact absurd (show false=true from hs) Bool.false_ne_true
 | str i =>
  obtain ⟨t,rfl⟩:=rx
  cases y with
  | non=>cases ry; exact PySem.EqNone.ne_str_none (aJ I q (by simp))
  | bl j=>cases ry; exact PySem.EqMixed.ne_str_bool (aJ I q (by simp))
  | int j=>obtain ⟨t',rfl⟩:=ry; exact PySem.EqMixed.ne_str_int (aJ I q (by simp))
  | str j=>obtain ⟨t',rfl⟩:=ry; exact ne_str (aJ I q (congrArg not ke))
  | _=>exact absurd (show false=true from hs) Bool.false_ne_true
 | byt i =>
  obtain ⟨t,rfl⟩:=rx
  cases y with
  | byt j=>obtain ⟨t',rfl⟩:=ry; exact PySem.W.ne_bytes (aJ I q (congrArg not kf))
  | _=>exact absurd (show false=true from hs) Bool.false_ne_true
 | _=>cases y <;> exact absurd (show false=true from hs) Bool.false_ne_true
theorem ij:OpR X (compareOp .Lt) (rI0 fun i j=>.bl (decide (i < j))):=oV fun _ _ _ _ _ _ _ q=>lt_int q
theorem dz:OpR X (compareOp .LtE) (rI0 fun i j=>.bl (decide (i≤j))):=oV fun _ _ _ _ _ _ _ q=>le_int q
theorem mK:OpR X (compareOp .Gt) (rI0 fun i j=>.bl (decide (j < i))):=oV fun _ _ _ _ _ _ _ q=>gt_int q
theorem ik:OpR X (compareOp .GtE) (rI0 fun i j=>.bl (decide (j≤i))):=oV fun _ _ _ _ _ _ _ q=>ge_int q
theorem gD:OpR X (compareOp .Is) (fun x y H Q=>y=.non∧Q (.bl (decide (x=.non))) H):=by
 intro pins s σ H x y v u Q I rx ry h
 obtain ⟨rfl,q⟩:=h
 cases ry
 refine is_none_gen (aJ I q ?_)
 cases x <;> first
  | (cases rx; rfl)
  | (obtain ⟨t,rfl⟩:=rx; rfl)
theorem kg:OpR X (compareOp .IsNot) (fun x y H Q=>y=.non∧Q (.bl (!decide (x=.non))) H):=by
 intro pins s σ H x y v u Q I rx ry h
 obtain ⟨rfl,q⟩:=h
 cases ry
 refine isnot_none_gen (aJ I q ?_)
 cases x <;> first
  | (cases rx; rfl)
  | (obtain ⟨t,rfl⟩:=rx; rfl)
theorem az (b:Expr) {op:CmpOp} (h:op≠.In:=by decide) (h2:op≠.NotIn:=by decide):behindInMarks op b=false:=by
 have e1:(op == CmpOp.In)=false:=by cases op <;> first | rfl | exact absurd rfl h
 have e2:(op == CmpOp.NotIn)=false:=by cases op <;> first | rfl | exact absurd rfl h2
 cases b <;> simp [behindInMarks,e1,e2]
theorem aZ {op:CmpOp} {r:R2} (ho:OpR X (compareOp op) r) (ha:PE X a ta) (hb:PE X b tb) (hm:behindInMarks op b=false):PE X (.Compare a [op] [b] pos) (tOp r ta tb):=by
 intro pins s σ H Q I h
 exact wpAny_Compare1 (rc ha hb I h fun v u s2 x y H2 I2 rx ry q=>ho pins s2 σ H2 x y v u Q I2 rx ry q) hm
def qz (t:TE):TT:=fun σ H Q=>t σ H fun x H'=>∃k,x=.bl k∧Q k H'
theorem aB {op:CmpOp} {r:R2} (ho:OpR X (compareOp op) r) (ha:PE X a ta) (hb:PE X b tb) (hm:behindInMarks op b=false):PT X (.Compare a [op] [b] pos) (qz (tOp r ta tb)):=by
 intro pins s σ H Q I h
 refine wpAny_isTrue_Compare1 (thn (ha pins s σ H _ I h) fun v s1 ⟨x,H1,I1,r1,q1⟩=>thn (hb pins s1 σ H1 _ I1 q1) fun u s2 ⟨y,H2,I2,r2,q2⟩ =>
  thn (ho pins s2 σ H2 x y v u _ I2 r1 r2 q2) fun c s3 ⟨z,H3,I3,r3,k,e,q3⟩=>?_) hm
 subst e
 cases r3
 exact wpAny_truthy_bool ⟨H3,I3,q3⟩
def re (r r':R2) (ta tb tc:TE):TE:=fun σ H Q=>ta σ H fun x H1=>tb σ H1 fun y H2=>r x y H2 fun z H3=>∃k,z=.bl k ∧
 (if k=true then tc σ H3 fun w' H4=>r' y w' H4 Q else Q (.bl false) H3)
theorem mL {op op':CmpOp} {r r':R2} (ho:OpR X (compareOp op) r) (ho':OpR X (compareOp op') r') (ha:PE X a ta) (hb:PE X b tb) (hc:PE X c tc)
  (hm:lastMarks [op,op'] [b,c]=false:=by with_unfolding_all rfl):PT X (.Compare a [op,op'] [b,c] pos) (qz (re r r' ta tb tc)):=by
 intro pins s σ H Q I h
 refine isTrue_chain (thn (ha pins s σ H _ I h) fun v s1 ⟨x,H1,I1,r1,q1⟩=>test_link (thn (hb pins s1 σ H1 _ I1 q1) fun u s2 ⟨y,H2,I2,r2,q2⟩ =>
  thn (ho pins s2 σ H2 x y v u _ I2 r1 r2 q2) fun d s3 ⟨z,H3,I3,r3,k,e,q3⟩=>?_)) hm
 subst e
 cases r3
 refine wpAny_truthy_bool ?_
 cases k with
 | false =>
  obtain ⟨k',e',q'⟩:=q3
  cases e'
  exact ite_ff ⟨H3,I3,q'⟩
 | true =>
  refine ite_tt (test_last (thn (hc pins s3 σ H3 _ I3 q3) fun w' s4 ⟨z',H4,I4,r4,q4⟩=>thn (ho' pins s4 σ H4 y z' u w' _ I4 r2 r4 q4) fun d' s5 ⟨z2,H5,I5,r5,k2,e2,q5⟩=>?_))
  subst e2
  cases r5
  exact wpAny_truthy_bool ⟨H5,I5,q5⟩
def uK (K:PySem.W.Frag) (x:V) (H:Hp) (k:Bool):Prop :=
 match x with
 | .non=>k=false
 | .bl b=>k=b
 | .int i=>k=(i != 0)
 | .str y=>y.length≤sizeLine∧k=((y.length:Int) != 0)
 | .byt y=>y.size≤sizeLine∧k=((y.size:Int) != 0)
 | .ref p=>(∃xs,SqL K H p xs∧k=!xs.isEmpty)∨(∃xs,SqT K H p xs∧k=!xs.isEmpty)∨∃kvs,H p=some (.dK kvs)∧k=!kvs.isEmpty
 | _=>False
theorem jf {κ:Type} {kvs:List (κ×V)} {vs:List (κ×Value)} (r:KV kvs vs):(!vs.isEmpty)=!kvs.isEmpty:=by
 cases r <;> rfl
theorem fi {xs:List V} {its:List Value} (r:Vals xs its):(!its.toArray.isEmpty)=!xs.isEmpty:=by
 cases r <;> simp
theorem eC:(sizeLine:Nat) < 2 ^ 63:=by rw [sizeLine_eq]; decide
theorem rf:AQ X (fun x H Q=>∃k,uK X.K x H k∧Q k H):=by
 intro pins s σ H x v Q I rx h
 obtain ⟨k,e,q⟩:=h
 have hl:=eC
 have hs:sizeLine=16777216:=sizeLine_eq
 cases x with
 | non =>
  cases rx
  have e':k=false:=e
  subst e'
  exact truthy_none ⟨H,I,q⟩
 | bl b =>
  cases rx
  have e':k=b:=e
  subst e'
  exact wpAny_truthy_bool ⟨H,I,q⟩
 | int i =>
  obtain ⟨t,rfl⟩:=rx
  have e':k=(i != 0):=e
  subst e'
  exact PySem.P.truthy_int ⟨H,I,q⟩
 | str y =>
  obtain ⟨t,rfl⟩:=rx
  obtain ⟨hy,e'⟩:y.length≤sizeLine∧k=((y.length:Int) != 0):=e
  subst e'
  exact PySem.P.truthy_str (by omega) ⟨H,I.tok _,q⟩
 | byt y =>
  obtain ⟨t,rfl⟩:=rx
  obtain ⟨hy,e'⟩:y.size≤sizeLine∧k=((y.size:Int) != 0):=e
  subst e'
  exact PySem.W.truthy_bytes (by omega) ⟨H,I.tok _,q⟩
 | ref p =>
  cases rx
  have e':(∃xs,SqL X.K H p xs∧k=!xs.isEmpty)∨(∃xs,SqT X.K H p xs∧k=!xs.isEmpty)∨∃kvs,H p=some (.dK kvs)∧k=!kvs.isEmpty:=e
  rcases e' with ⟨xs,hx,e'⟩ | ⟨xs,hx,e'⟩ | ⟨kvs,hx,e'⟩
  ·subst e'
   obtain ⟨its,r,pl,hz⟩:=I.list hx
   have hlen:=r.length
   exact wpAny_truthy_list pl.isList (by simp only [List.size_toArray]; omega) ⟨H,I.tok _,by rw [fi r]; exact q⟩
  ·subst e'
   obtain ⟨its,r,pl,hz⟩:=I.tuple hx
   have hlen:=r.length
   exact truthy_tuple pl (by simp only [List.size_toArray]; omega) ⟨H,I.tok _,by rw [fi r]; exact q⟩
  ·subst e'
   obtain ⟨hz,hS,vs,r,m⟩:kvs.length≤sizeLine∧(p == sysModules)=false∧∃vs,KV kvs vs∧s.heap.DictOf (gv X.prog X.w) p vs:=I.hok p _ hx
   have hlen:kvs.length=vs.length:=Paired.length r
   exact wpAny_truthy_dict hS m (by omega) ⟨H,I.tok _,by rw [jf r]; exact q⟩
 | _=>exact (show False from e).elim
theorem mM (ha:PE X a ta) (he:∀aN,isTrue a X.env aN=(do let v←aN; standAt a.pos; holding [v] (truthy v))) :
  PT X a (fun σ H Q=>ta σ H fun x H'=>∃k,uK X.K x H' k∧Q k H'):=by
 intro pins s σ H Q I h
 exact isTrue_plain (thn (ha pins s σ H _ I h) fun v s1 ⟨x,H1,I1,r1,q1⟩=>rf pins s1 σ H1 x v Q I1 r1 q1) (he _)
theorem dA {x:V} {us:List Value} (r:Vals [x] us):∃u,us=[u]∧RelV x u:=by
 cases r with
 | cons r1 r2=>cases r2; exact ⟨_,rfl,r1⟩
theorem qB {x y:V} {us:List Value} (r:Vals [x,y] us):∃u w',us=[u,w']∧RelV x u∧RelV y w':=by
 cases r with
 | cons r1 r2 =>
  cases r2 with
  | cons r3 r4=>cases r4; exact ⟨_,_,rfl,r1,r3⟩
theorem il:cq X (.builtin "abs") (fun xs H Q=>∃i,xs=[.int i]∧Q (.int (if i < 0 then -i else i)) H):=by
 intro pins s σ H xs us Q I r h
 obtain ⟨i,rfl,q⟩:=h
 obtain ⟨u,rfl,t,rfl⟩:=dA r
 exact call_abs_int fun u tk=>⟨.int (if i < 0 then -i else i),H,I.tok _,⟨_,rfl⟩,q⟩
theorem eD (hc:X.calm=true):cq X (.builtin "max") (fun xs H Q=>∃i j,xs=[.int i,.int j]∧Q (.int (if j > i then j else i)) H):=by
 intro pins s σ H xs us Q I r h
 obtain ⟨i,j,rfl,q⟩:=h
 obtain ⟨u,w',rfl,⟨t,rfl⟩,⟨t',rfl⟩⟩:=qB r
 refine max_two_ints (I.ok.hd hc) fun h' tk k=>⟨_,H,I.kept k,?_,q⟩
 by_cases hj:j > i
 ·rw [if_pos hj,if_pos hj]; exact ⟨_,rfl⟩
 ·rw [if_neg hj,if_neg hj]; exact ⟨_,rfl⟩
theorem eE (hc:X.calm=true):cq X (.builtin "min") (fun xs H Q=>∃i j,xs=[.int i,.int j]∧Q (.int (if j < i then j else i)) H):=by
 intro pins s σ H xs us Q I r h
 obtain ⟨i,j,rfl,q⟩:=h
 obtain ⟨u,w',rfl,⟨t,rfl⟩,⟨t',rfl⟩⟩:=qB r
 refine min_two_ints (I.ok.hd hc) fun h' tk k=>⟨_,H,I.kept k,?_,q⟩
 by_cases hj:j < i
 ·rw [if_pos hj,if_pos hj]; exact ⟨_,rfl⟩
 ·rw [if_neg hj,if_neg hj]; exact ⟨_,rfl⟩
theorem bT:cq X (.type "int") (fun xs H Q=>(∃i,xs=[.int i]∧Q (.int i) H)∨∃k,xs=[.bl k]∧Q (.int (if k then 1 else 0)) H):=by
 intro pins s σ H xs us Q I r h
 rcases h with ⟨i,rfl,q⟩ | ⟨k,rfl,q⟩
 ·obtain ⟨u,rfl,t,rfl⟩:=dA r
  exact call_int_int ⟨.int i,H,I,⟨_,rfl⟩,q⟩
 ·obtain ⟨u,rfl,r1⟩:=dA r
  cases r1
  exact call_int_bool ⟨.int (if k then 1 else 0),H,I.tok _,⟨_,rfl⟩,q⟩
end
end L2
namespace L2
open PySem PySem.Spec PyProof.Rows
structure ObjM (h:Heap) (x dx C:Addr) (mA:Str→Option Value):Prop where
 obj:h.get? x=some (PySem.W.instObj C dx)
 ns:h.Ns1 dx mA
 ne:dx≠x
theorem kU {h:Heap} {dx:Addr} {mA:Str→Option Value} (n:h.Ns1 dx mA):∃od,h.get? dx=some od∧∀name,PySem.W.lookIn name od=some (mA name):=by
 obtain ⟨o,es,ep,ho,hd,hk,_,hm⟩:=n
 refine ⟨o,ho,fun name=>?_⟩
 have e:=hm name
 unfold nsFind findBy at e
 rw [← Array.find?_toList] at e
 unfold PySem.W.lookIn
 rw [hd]
 dsimp only
 split
 ·rename_i y q
  rw [q] at e
  exact congrArg some e
 ·rename_i q
  rw [q] at e
  have a:es.toList.any (·.refKey)=false:=by
   rw [List.any_eq_false]
   intro y hy
   obtain ⟨z,t,hkey⟩:=hk y (Array.mem_toList_iff.mp hy)
   simp [DictEntry.refKey,hkey]
  have a':¬ es.toList.any (·.refKey)=true:=by rw [a]; exact Bool.false_ne_true
  rw [if_neg a']
  exact congrArg some e
theorem ObjM.look {h:Heap} {x dx C:Addr} {mA:Str→Option Value} (I:ObjM h x dx C mA):∃od,PySem.W.InstAt h x (PySem.W.instObj C dx) C (some od)∧∀name,PySem.W.lookIn name od=some (mA name) :=
 let ⟨od,ho,hl⟩:=kU I.ns
 ⟨od,⟨I.obj,rfl,rfl,ho⟩,hl⟩
section
variable {prog:Program} {w:World} {A:Around} {E:Value→Shared→Prop} {s:Shared} {K:PySem.W.Frag} {x dx C f:Addr} {mA:Str→Option Value} {name:Str} {v:Value}
theorem oW {expr:Bool} {Q:Value→Shared→Prop} (X:K.In s.heap) (I:ObjM s.heap x dx C mA) (hg:PySem.W.plainGet K C name=true) (hh:PySem.W.hasDictIn K C=true)
  (ha:PySem.W.findIn K (.ref C) name=some none) (hv:mA name=some v) (hv':PySem.W.handedIn v=true) (h:Q v { s with toks:=s.toks + 1 }) :
  wpAny (model prog w) A (getAttr (.ref x) name expr) Q E s:=by
 obtain ⟨od,J,hl⟩:=I.look
 exact PySem.W.get_value X J (PySem.W.plainGet_of hg).1 (PySem.W.findObj_own hh ha rfl (by rw [hl,hv])) hv' h
theorem mN {pl:Sem Bool} {Q:Value×List Value→Shared→Prop} (X:K.In s.heap) (I:ObjM s.heap x dx C mA) (hg:PySem.W.plainGet K C name=true)
  (hf:PySem.W.findIn K (.ref C) name=some (some (.ref f))) (ht:PySem.W.isFn K (.ref f)=true) (hv:mA name=none) (h:Q (.ref f,[.ref x]) s) :
  wpAny (model prog w) A (getMethod (.ref x) name pl) Q E s:=by
 obtain ⟨od,J,hl⟩:=I.look
 exact PySem.W.method_fn X J (PySem.W.plainGet_of hg).1 (PySem.W.plainGet_of hg).2 hf (beq_iff_eq.mp ht) (by show (PySem.W.lookIn name od).map (·.isSome)=some false; rw [hl,hv]; rfl) h
theorem oX {ns:List Str} {Q:Unit→Shared→Prop} (X:K.In s.heap) (I:ObjM s.heap x dx C mA)
  (hs:PySem.W.findIn K (.ref C) "__setattr__" = some (some (.builtin "object.__setattr__"))) (hp:PySem.W.plainOver K C=true) (ht:PySem.W.takerIn K C name=some none) (hh:PySem.W.hasDictIn K C=true)
  (hw:PySem.Within mA ns) (hsz:ns.length≤sizeLine)
  (h:∀h',ObjM h' x dx C (fun y=>if y=name then some v else mA y)→Heap.SameBut dx s.heap h'→Q () { s with heap:=h',toks:=s.toks + 2 }) :
  wpAny (model prog w) A (setAttr (.ref x) name v) Q E s:=by
 obtain ⟨od,J,hl⟩:=I.look
 refine PySem.W.set_plain X J hs (PySem.W.osa_open (s:={ s with toks:=s.toks + 1 }) (r:=none) X J hp ht fun b=>?_)
 obtain ⟨cd,hc,hd'⟩:=PySem.W.any_some hh
 have hx:s.heap.get? x=some ⟨.ref C,some dx,.plain,#[]⟩:=I.obj
 refine wpAny_bind (wpAny_pure (wpAny_bind (wpAny_bind (wpAny_loadPart hx (wpAny_bind (PySem.W.Looks.here (s:={ s with toks:=s.toks + 1 }) (PySem.W.looks_clsIn X hc) ?_))))))
 rw [hd']
 refine wpAny_pure (a:=some dx) (wpAny_bind (wpAny_pure (wpAny_bind ?_)))
 refine wpAny_nsSet1 (s:={ s with toks:=s.toks + 1 }) I.ns fun h' hn2 hs2=>?_
 obtain ⟨oD,esD,epD,hoD,hdD,hcD⟩:=hn2.count (PySem.Within.cons name v hw)
 refine wpAny_bind (wpAny_lookBehind hoD (by rw [hdD]; exact pastItsLine_dict (Nat.le_trans hcD (by rw [List.length_cons]; omega))) ?_)
 exact wpAny_pure (h _ ⟨(hs2.2 _ (Ne.symm I.ne)).trans I.obj,hn2,I.ne⟩ hs2)
theorem mO {R:Result→Shared→Prop} {vs:List Value} {kw:List (Str×Value)} (X:K.In s.heap) (hm:PySem.W.makesIn K C=true)
  (hi:PySem.W.findIn K (.ref C) "__init__" = some (some (.ref f))) (hf:PySem.W.typeIn K (.ref f)=some (.type "function"))
  (h:codeAny (model prog w) (A.under (.builtin "type.__call__" ⟨.ref C :: vs,kw⟩)) (.call (.ref f) ⟨.ref (s.heap.objs.size + 1) :: vs,kw⟩) (PySem.W.InitBack (s.heap.objs.size + 1) R)
   { s with heap:=(s.heap.push PySem.W.emptyDict).push (PySem.W.instObj C s.heap.objs.size) }) :
  codeAny (model prog w) A (.call (.ref C) ⟨vs,kw⟩) R s:=by
 obtain ⟨hh,g,d,t,os⟩:=s
 exact PySem.W.make_core (PySem.W.makes_of X hm) (PySem.W.looks_findIn X hi) (fun self=>PySem.W.bind_fn X self hf) (.inl rfl) h
end
def cj (f:Str) (v:V):List (Str×V)→List (Str×V)
 | []=>[(f,v)]
 | (g,x) :: r=>if g=f then (g,v) :: r else (g,x) :: cj f v r
theorem bh (f g:Str) (v:V):∀fs:List (Str×V),(cj f v fs).lookup g=if g=f then some v else fs.lookup g
 | []=>by
  show List.lookup g [(f,v)]=_
  by_cases h:g=f
  ·have hb:(g == f)=true:=beq_iff_eq.mpr h
   simp only [List.lookup,hb,if_pos h]
  ·have hb:(g == f)=false:=beq_eq_false_iff_ne.mpr h
   simp only [List.lookup,hb,if_neg h]
 | (k,x) :: r=>by
  have ih:=bh f g v r
  rw [show cj f v ((k,x) :: r)=(if k=f then (k,v) :: r else (k,x) :: cj f v r) from rfl]
  by_cases hk:k=f
  ·rw [if_pos hk]
   by_cases h:g=k
   ·have hb:(g == k)=true:=beq_iff_eq.mpr h
    simp only [List.lookup,hb,if_pos (h.trans hk)]
   ·have hb:(g == k)=false:=beq_eq_false_iff_ne.mpr h
    simp only [List.lookup,hb,if_neg (fun e:g=f=>h (e.trans hk.symm))]
  ·rw [if_neg hk]
   by_cases h:g=k
   ·have hb:(g == k)=true:=beq_iff_eq.mpr h
    simp only [List.lookup,hb,if_neg (fun e:g=f=>hk (h.symm.trans e))]
   ·have hb:(g == k)=false:=beq_eq_false_iff_ne.mpr h
    simp only [List.lookup,hb]
    exact ih
theorem eF (f:Str) (v:V):∀fs:List (Str×V),f∈(cj f v fs).map (·.1)∧∀g,g∈fs.map (·.1)→g∈(cj f v fs).map (·.1)
 | []=>⟨by simp [cj],fun g h=>by simp at h⟩
 | (k,x) :: r=>by
  obtain ⟨i1,i2⟩:=eF f v r
  rw [show cj f v ((k,x) :: r)=(if k=f then (k,v) :: r else (k,x) :: cj f v r) from rfl]
  by_cases hk:k=f
  ·rw [if_pos hk]
   subst hk
   exact ⟨by simp,fun g h=>by simpa using h⟩
  ·rw [if_neg hk]
   refine ⟨?_,fun g h=>?_⟩
   ·rw [List.map_cons]
    exact List.mem_cons_of_mem _ i1
   ·rw [List.map_cons] at h ⊢
    rcases List.mem_cons.mp h with e | e
    ·exact List.mem_cons.mpr (.inl e)
    ·exact List.mem_cons_of_mem _ (i2 g e)
theorem cM (f:Str) (v:V):∀fs:List (Str×V),(cj f v fs).length≤fs.length + 1
 | []=>by simp [cj]
 | (k,x) :: r=>by
  have ih:=cM f v r
  rw [show cj f v ((k,x) :: r)=(if k=f then (k,v) :: r else (k,x) :: cj f v r) from rfl]
  by_cases hk:k=f
  ·rw [if_pos hk,List.length_cons,List.length_cons]; omega
  ·rw [if_neg hk,List.length_cons,List.length_cons]; omega
theorem RelO.some_of {v:V} {o:Option Value} (r:RelO (some v) o):∃u,o=some u∧RelV v u:=by
 cases o with
 | none=>exact (show False from r).elim
 | some u=>exact ⟨u,rfl,r⟩
theorem RelO.none_of {o:Option Value} (r:RelO none o):o=none:=by
 cases o with
 | none=>rfl
 | some u=>exact (show False from r).elim
theorem kW {v:V} {u:Value} (r:RelV v u):PySem.W.handedIn u=true:=by
 cases v with
 | non=>cases (show u=Value.none from r); rfl
 | bl b=>cases (show u=Value.bool b from r); rfl
 | int i=>obtain ⟨t,e⟩:=(show ∃t,u=Value.int i t from r); cases e; rfl
 | str x=>obtain ⟨t,e⟩:=(show ∃t,u=Value.str x t from r); cases e; rfl
 | byt b=>obtain ⟨t,e⟩:=(show ∃t,u=Value.bytes b t from r); cases e; rfl
 | flt b=>obtain ⟨t,e⟩:=(show ∃t,u=Value.float b t from r); cases e; rfl
 | ref a=>cases (show u=Value.ref a from r); rfl
 | ty n=>cases (show u=Value.type n from r); rfl
section
variable {P:Program} {w:World} {H H':Hp} {h h':Heap} {a C dx:Addr} {fs fs':List (Str×V)}
theorem dB (hok:HOk P w H h) (e:H a=some (.ins C dx fs)):∃mA,ObjM h a dx C mA∧(∀f,RelO (fs.lookup f) (mA f))∧PySem.Within mA (fs.map (·.1))∧fs.length≤1000∧H dx=some (.own a):=by
 obtain ⟨d,z,ne,ob,mA,n,r,q⟩:=(show ObjOk P w H h a (.ins C dx fs) from hok a _ e)
 exact ⟨mA,⟨ob,n,ne⟩,r,q,z,d⟩
end
structure Cls (K:PySem.W.Frag) (C:Addr):Prop where
 pg:PySem.W.plainGet K C Str.empty=true
 hd:PySem.W.hasDictIn K C=true
 po:PySem.W.plainOver K C=true
 sa:PySem.W.findIn K (.ref C) "__setattr__" = some (some (.builtin "object.__setattr__"))
theorem Cls.get {K:PySem.W.Frag} {C:Addr} (c:Cls K C) (f:Str):PySem.W.plainGet K C f=true:=c.pg
def NoAttr (K:PySem.W.Frag) (C:Addr) (f:Str):Prop:=PySem.W.findIn K (.ref C) f=some none
theorem NoAttr.taker {K:PySem.W.Frag} {C:Addr} {f:Str} (n:NoAttr K C f):PySem.W.takerIn K C f=some none:=by
 unfold PySem.W.takerIn
 rw [show PySem.W.findIn K (.ref C) f=some none from n]
 rfl
structure Con (K:PySem.W.Frag) (C:Addr) (f:Str) (v:V) (u:Value):Prop where
 at_:PySem.W.findIn K (.ref C) f=some (some u)
 rel:RelV v u
 get:PySem.W.specialIn K u "__get__" = some none
 cp:PySem.W.copiedNames.contains f=false
structure Meth (K:PySem.W.Frag) (C:Addr) (m:Str) (f:Addr):Prop where
 at_:PySem.W.findIn K (.ref C) m=some (some (.ref f))
 fn:PySem.W.isFn K (.ref f)=true
 kp:PySem.W.keepIn K (.ref f)=true
section
variable {X:Cx} {pins:List (Addr×Obj)} {σ:St} {H:Hp} {s:Shared} {a C dx:Addr} {fs:List (Str×V)} {f:Str} {v:V} {A:Around} {E:Value→Shared→Prop}
theorem jg {b:Bool} {Q:Value→Shared→Prop} (I:Inv X pins σ H s) (e:H a=some (.ins C dx fs)) (c:Cls X.K C) (n:NoAttr X.K C f) (l:fs.lookup f=some v)
  (h:∀u s',Inv X pins σ H s'→RelV v u→Q u s'):wpAny (model X.prog X.w) A (getAttr (.ref a) f b) Q E s:=by
 obtain ⟨mA,O,r,_,_,_⟩:=dB I.hok e
 obtain ⟨u,hu,ru⟩:=RelO.some_of (v:=v) (o:=mA f) (by rw [← l]; exact r f)
 exact oW I.kIn O (c.get f) c.hd n hu (kW ru) (h u _ (I.tok _) ru)
theorem dj {m:Str} {g:Addr} {pl:Sem Bool} {Q:Value×List Value→Shared→Prop} (I:Inv X pins σ H s) (e:H a=some (.ins C dx fs)) (c:Cls X.K C) (k:Meth X.K C m g) (l:fs.lookup m=none)
  (h:Q (.ref g,[.ref a]) s):wpAny (model X.prog X.w) A (getMethod (.ref a) m pl) Q E s:=by
 obtain ⟨mA,O,r,_,_,_⟩:=dB I.hok e
 have hn:mA m=none:=RelO.none_of (by rw [← l]; exact r m)
 exact mN I.kIn O (c.get m) k.at_ k.fn hn h
theorem jh {y:V} {u:Value} {Q:Unit→Shared→Prop} (I:Inv X pins σ H s) (e:H a=some (.ins C dx fs)) (c:Cls X.K C) (n:NoAttr X.K C f) (hl:fs.length < 1000) (ry:RelV y u)
  (h:∀s',Inv X pins σ (upd H a (.ins C dx (cj f y fs))) s'→Q () s'):wpAny (model X.prog X.w) A (setAttr (.ref a) f u) Q E s:=by
 obtain ⟨mA,O,r,wi,_,ho⟩:=dB I.hok e
 have hz:(fs.map (·.1)).length≤sizeLine:=by rw [List.length_map,sizeLine_eq]; omega
 refine oX I.kIn O c.sa c.po n.taker c.hd wi hz fun h' O' sb=>h _ ?_
 have hd:∃o,h'.get? dx=some o:=let ⟨o,_,_,e',_⟩:=O'.ns; ⟨o,e'⟩
 refine I.write (x:=a) (e:=dx) (by rw [e]; exact True.intro) (.inr ho) (fun b q hb z=>(sb.2 b hb).trans z) hd ?_
 refine ⟨by rw [aw O.ne]; exact ho,?_,O.ne,O'.obj,_,O'.ns,fun g=>?_,fun g hg=>?_⟩
 ·have:=cM f y fs; omega
 ·show RelO ((cj f y fs).lookup g) (if g=f then some u else mA g)
  rw [bh]
  by_cases q:g=f
  ·rw [if_pos q,if_pos q]; exact ry
  ·rw [if_neg q,if_neg q]; exact r g
 ·by_cases q:g=f
  ·rw [q]; exact (eF f y fs).1
  ·refine (eF f y fs).2 g (wi g fun z=>hg ?_)
   show (if g=f then some u else mA g)=none
   rw [if_neg q]; exact z
theorem Inv.made (I:Inv X pins σ H s):Inv X pins σ (upd (upd H s.heap.objs.size (.own (s.heap.objs.size + 1))) (s.heap.objs.size + 1) (.ins C s.heap.objs.size []))
  { s with heap:=(s.heap.push PySem.W.emptyDict).push (PySem.W.instObj C s.heap.objs.size) }:=by
 have e1:(s.heap.push PySem.W.emptyDict).get? s.heap.objs.size=some PySem.W.emptyDict:=Heap.get?_push_size s.heap rfl
 have e2:((s.heap.push PySem.W.emptyDict).push (PySem.W.instObj C s.heap.objs.size)).get? (s.heap.objs.size + 1)=some (PySem.W.instObj C s.heap.objs.size):=by
  have:=Heap.get?_push_size (s.heap.push PySem.W.emptyDict) (o:=PySem.W.instObj C s.heap.objs.size) rfl
  rwa [Heap.size_push] at this
 have e3:(s.heap.push PySem.W.emptyDict).Ns s.heap.objs.size (fun _=>none):=⟨PySem.W.emptyDict,#[],_,e1,rfl,(fun e he=>absurd he (by simp)),fun _=>rfl⟩
 have I1:=I.laid (a:=s.heap.objs.size) (o:=.own (s.heap.objs.size + 1)) (h':=s.heap.push PySem.W.emptyDict) (t':=s.toks) (fun b u q=>Heap.get?_push_of_some _ q) (Nat.le_refl _) ⟨_,e1⟩
 refine I1.laid (a:=s.heap.objs.size + 1) (o:=.ins C s.heap.objs.size []) (t':=s.toks) (fun b u q=>Heap.get?_push_of_some _ q) (Nat.le_of_eq (Heap.size_push _ _)) ?_
 have ne:s.heap.objs.size≠s.heap.objs.size + 1:=Nat.ne_of_lt (Nat.lt_succ_self _)
 refine ⟨by rw [aw ne,upd_same],Nat.zero_le _,ne,e2,fun _=>none,(Heap.Ns1.of_empty e3).at fun o q=>Heap.get?_push_of_some _ q,fun _=>True.intro,fun y hy=>absurd rfl hy⟩
theorem oY {prog:Program} {w:World} {env:Env} {e:Expr} {f:Str} {pos:Pos} {s:Shared} {Q:Value→Shared→Prop} (hb:attributeBase e f env (eval e env)=eval e env)
  (h:wpAny (model prog w) A (eval e env) (fun o s₁=>wpAny (model prog w) A (getAttr o f true) Q E s₁) E s):wpAny (model prog w) A (eval (.Attribute e f pos) env) Q E s :=
 Attribute_any_ h (by rw [arm_eval_Attribute,hb])
end
def AS (K:PySem.W.Frag) (ta:TE) (f:Str):TE:=fun σ H Q=>ta σ H fun x H1=>∃a C dx fs v,x=.ref a∧H1 a=some (.ins C dx fs)∧Cls K C∧NoAttr K C f∧fs.lookup f=some v∧Q v H1
def uL (K:PySem.W.Frag) (ta tv:TE) (f:Str):TS:=fun D σ H=>tv σ H fun y H1=>ta σ H1 fun x H2=>∃a C dx fs,x=.ref a∧H2 a=some (.ins C dx fs)∧Cls K C∧NoAttr K C f∧fs.length < 1000 ∧
 D.nx σ (upd H2 a (.ins C dx (cj f y fs)))
section
variable {X:Cx} {o e value:Expr} {f:Str} {pos pos' tpos:Pos} {ta tv:TE}
theorem gE (he:PE X e ta) (hb:attributeBase e f X.env (eval e X.env)=eval e X.env):PE X (.Attribute e f pos) (AS X.K ta f):=by
 intro pins s σ H Q I h
 refine oY hb (thn (he pins s σ H _ I h) fun u s1 ⟨x,H1,I1,rx,a,C,dx,fs,v,ex,ea,c,n,l,q⟩=>?_)
 subst ex
 obtain rfl:u=Value.ref a:=rx
 exact jg I1 ea c n l fun u' s2 I2 ru=>⟨v,H1,I2,ru,q⟩
theorem mP (ha:PE X o ta) (hv:PE X value tv) (hs:swapsWith value (some (.Attribute o f pos')) pos.line X.env=pure false):PS X (.Assign [.Attribute o f pos'] value pos) (uL X.K ta tv f):=by
 intro pins s σ H D I h
 refine plainObj_wpAny_Assign_Attribute (thn (hv pins s σ H _ I h) fun u s1 ⟨y,H1,I1,ry,q⟩=>thn (ha pins s1 σ H1 _ I1 q) fun ov s2 ⟨x,H2,I2,rx,a,C,dx,fs,ex,ea,c,n,l,q2⟩=>?_) hs
 subst ex
 obtain rfl:ov=Value.ref a:=rx
 exact jh I2 ea c n l ry fun s3 I3=>⟨σ,_,I3,q2⟩
theorem qD {pl:Sem Bool} {m:Str} {apos:Pos} {args:List Expr} {pins:List (Addr×Obj)} {s:Shared} {σ:St} {H:Hp} {Q:Value→Shared→Prop} {te:TE} (he:PE X e te) (I:Inv X pins σ H s)
  (h:te σ H fun x H1=>∃a C dx fs g,x=.ref a∧H1 a=some (.ins C dx fs)∧Cls X.K C∧Meth X.K C m g∧fs.lookup m=none ∧
   ∀s1,Inv X pins σ H1 s1→wpAny (model X.prog X.w) X.A (callWith pos (.ref g) [.ref a] (backTo pos (starEach args X.env)) (backToKw pos (keywordEach [] X.env))) Q X.xe s1)
  (ht:eval (.Call (.Attribute e m apos) args [] pos) X.env=(do
   let ov←eval e X.env
   standAt apos.atName
   let (f,first)←holding [ov] (getMethod ov m pl)
   callWith pos f first (backTo pos (starEach args X.env)) (backToKw pos (keywordEach [] X.env)))) :
  wpAny (model X.prog X.w) X.A (eval (.Call (.Attribute e m apos) args [] pos) X.env) Q X.xe s:=by
 refine PySem.W.methodCall_KW (pl:=pl) (thn (he pins s σ H _ I h) fun u s1 ⟨x,H1,I1,rx,a,C,dx,fs,g,ex,ea,c,k,l,q⟩=>?_) ht
 subst ex
 obtain rfl:u=Value.ref a:=rx
 exact dj I1 ea c k l (q s1 I1)
end
section
variable {X:Cx} {pins:List (Addr×Obj)} {σ:St} {H:Hp} {s:Shared} {A:Around} {E:Value→Shared→Prop} {Q:Value→Shared→Prop} {c:Value} {b:Bool}
inductive TyOf (K:PySem.W.Frag) (H:Hp):V→Value→Prop where
 | non:TyOf K H .non (.type "NoneType")
 | bl (x:Bool):TyOf K H (.bl x) (.type "bool")
 | int (i:Int):TyOf K H (.int i) (.type "int")
 | str (x:Str):TyOf K H (.str x) (.type "str")
 | flt (x:UInt64):TyOf K H (.flt x) (.type "float")
 | lst {a:Addr} {xs:List V} (e:H a=some (.lst xs)):TyOf K H (.ref a) (.type "list")
 | frz {a:Addr} {o:Obj} {xs:List V} (e:H a=some (.frz o (.lst xs))):TyOf K H (.ref a) (.type "list")
 | tup {a:Addr} {xs:List V} (e:H a=some (.tup xs)):TyOf K H (.ref a) (.type "tuple")
 | dK {a:Addr} {kvs:List (Key×V)} (e:H a=some (.dK kvs)):TyOf K H (.ref a) (.type "dict")
 | dT {a:Addr} {kvs:List (List Key×V)} (e:H a=some (.dT kvs)):TyOf K H (.ref a) (.type "dict")
 | ins {a C dx:Addr} {fs:List (Str×V)} (e:H a=some (.ins C dx fs)) (cl:Cls K C) (ha:PySem.W.findIn K (.ref C) "__class__" = some (some (.builtin "object.__class__")))
   (hn:PySem.W.specialIn K (.builtin "object.__class__") "__get__" = some (some (.builtin "getset_descriptor.__get__"))) (htk:PySem.W.takesIn K (.builtin "object.__class__")=some true)
   (hm:PySem.W.mroIn K C (.type "object")=some true):TyOf K H (.ref a) (.ref C)
theorem kX {x:V} {u t:Value} (I:Inv X pins σ H s) (rx:RelV x u) (ty:TyOf X.K H x t) (e:PySem.W.kitOne X.K t c=some b) (h:∀tk,Q (.bool b) { s with toks:=tk }) :
  wpAny (model X.prog X.w) A (call (.builtin "isinstance") [u,c]) Q E s:=by
 cases ty with
 | non=>cases (show u=Value.none from rx); exact PySem.W.kia_one PySem.W.kitx_none I.kIn True.intro e (fun z=>nomatch z) h
 | bl y=>cases (show u=Value.bool y from rx); exact PySem.W.kia_one PySem.W.kitx_bool I.kIn True.intro e (fun z=>nomatch z) h
 | int i=>obtain ⟨t,q⟩:=(show ∃t,u=Value.int i t from rx); cases q; exact PySem.W.kia_one PySem.W.kitx_int I.kIn True.intro e (fun z=>nomatch z) h
 | str y=>obtain ⟨t,q⟩:=(show ∃t,u=Value.str y t from rx); cases q; exact PySem.W.kia_one PySem.W.kitx_str I.kIn True.intro e (fun z=>nomatch z) h
 | flt y=>obtain ⟨t,q⟩:=(show ∃t,u=Value.float y t from rx); cases q; exact PySem.W.kia_one PySem.W.kitx_float I.kIn True.intro e (fun z=>nomatch z) h
 | @lst a xs ea =>
  cases (show u=Value.ref a from rx)
  obtain ⟨_,_,n,_,h1⟩:=(show ObjOk X.prog X.w H s.heap a (.lst xs) from I.hok a _ ea)
  exact PySem.W.kia_one PySem.W.kitx_list I.kIn ⟨_,h1,rfl⟩ e (fun z=>nomatch z) h
 | @frz a ob xs ea =>
  cases (show u=Value.ref a from rx)
  obtain ⟨_,_,_,n,_,h1⟩:=(show ObjOk X.prog X.w H s.heap a (.frz ob (.lst xs)) from I.hok a _ ea)
  exact PySem.W.kia_one PySem.W.kitx_list I.kIn ⟨_,h1,rfl⟩ e (fun z=>nomatch z) h
 | @tup a xs ea =>
  cases (show u=Value.ref a from rx)
  obtain ⟨_,_,_,p⟩:=(show ObjOk X.prog X.w H s.heap a (.tup xs) from I.hok a _ ea)
  obtain ⟨o,h1,h2,_⟩:=p
  exact PySem.W.kia_one PySem.W.kitx_tuple I.kIn ⟨o,h1,h2⟩ e (fun z=>nomatch z) h
 | @dK a kvs ea =>
  cases (show u=Value.ref a from rx)
  obtain ⟨_,_,vs,_,p⟩:=(show ObjOk X.prog X.w H s.heap a (.dK kvs) from I.hok a _ ea)
  obtain ⟨o,es,ep,h1,h2,_⟩:=p
  exact PySem.W.kia_one PySem.W.kitx_dict I.kIn ⟨o,h1,h2.1⟩ e (fun z=>nomatch z) h
 | @dT a kvs ea =>
  cases (show u=Value.ref a from rx)
  obtain ⟨_,_,xs,_,o,es,ep,h1,h2,_⟩:=(show ObjOk X.prog X.w H s.heap a (.dT kvs) from I.hok a _ ea)
  exact PySem.W.kia_one PySem.W.kitx_dict I.kIn ⟨o,h1,h2.1⟩ e (fun z=>nomatch z) h
 | @ins a C dx fs ea cl ha hn htk hm =>
  cases (show u=Value.ref a from rx)
  obtain ⟨mA,O,_⟩:=dB I.hok ea
  obtain ⟨od,J,_⟩:=O.look
  exact PySem.W.kia_one (PySem.W.kitx_own (cl.get _) cl.hd ha hn htk hm) I.kIn J e (fun z=>nomatch z) h
end
end L2
namespace L2
open PySem PySem.Spec PyProof.Rows
structure Room (k:Nat) (A:Around):Prop where
 hd:A.handled=none
 dp:A.depth + 3 * k + 5 < recursionLimit
 un:A.units + 16 * k + 200 < cLine
 gd:A.guards=some []
theorem Room.mono {j k:Nat} {A:Around} (r:Room k A) (h:j≤k):Room j A:=⟨r.hd,by have:=r.dp; omega,by have:=r.un; omega,r.gd⟩
theorem Room.deeper {k:Nat} {A:Around} (r:Room (k + 1) A) (env:Env):Room k (A.deeper env) :=
 ⟨r.hd,by have:=r.dp; show A.depth + 1 + 3 * k + 5 < _; omega,by have:=r.un; show A.units + 3 + 16 * k + 200 < _; omega,r.gd⟩
theorem ji {A:Around} {C:Addr} {us:List Value} {kw:List (Str×Value)}:(A.under (.builtin "type.__call__" ⟨.ref C :: us,kw⟩)).depth=A.depth + 1:=by
 first | rfl | simp [Around.under,Code.weight,Code.isCreation,Code.isGuard,Code.isCaller,Code.frames,Code.isFrame,guardIds]
theorem jj {A:Around} {C:Addr} {us:List Value} {kw:List (Str×Value)}:(A.under (.builtin "type.__call__" ⟨.ref C :: us,kw⟩)).units=A.units + 1:=by
 first | rfl | simp [Around.under,Code.cUnits,Code.frames,Code.isFrame]
theorem im {A:Around} {C:Addr} {us:List Value} {kw:List (Str×Value)}:(A.under (.builtin "type.__call__" ⟨.ref C :: us,kw⟩)).guards=A.guards:=by
 have e:Code.guards (.builtin "type.__call__" ⟨.ref C :: us,kw⟩)=[]:=by
  have:(Code.builtin "type.__call__" ⟨.ref C :: us,kw⟩).isGuard=false:=by show guardIds.contains "type.__call__" = false; decide +kernel
  simp [Code.guards,this]
 unfold Around.under
 dsimp only
 rw [e]
 rfl
theorem Room.make {k:Nat} {A:Around} (r:Room (k + 1) A) (C:Addr) (us:List Value) (kw:List (Str×Value)):Room k (A.under (.builtin "type.__call__" ⟨.ref C :: us,kw⟩)) :=
 ⟨r.hd,by have:=r.dp; rw [ji]; omega,by have:=r.un; rw [jj]; omega,by rw [im]; exact r.gd⟩
theorem Room.depth {k:Nat} {A:Around} (r:Room k A):A.depth < recursionLimit:=by have:=r.dp; omega
theorem Room.units {k:Nat} {A:Around} (r:Room k A):A.units + 64 < cLine:=by have:=r.un; omega
def kY:TA:=fun _ H Q=>Q [] H
def kh (ta:TE) (tr:TA):TA:=fun σ H Q=>ta σ H fun x H1=>tr σ H1 fun xs H2=>Q (x :: xs) H2
section
variable {X:Cx} {e:Expr} {es:List Expr} {te:TE} {t:TA} {pos:Pos}
theorem ab:PA X [] kY:=fun _ _ _ _ H Q I h=>Calls.spliced_nil ⟨[],H,I,.nil,h⟩
theorem aa (ha:PE X e te) (hr:PA X es t) (hs:starEach (e :: es) X.env=(false,eval e X.env) :: starEach es X.env:=by rfl):PA X (e :: es) (kh te t):=by
 intro pos pins s σ H Q I h
 rw [hs]
 show wpAny _ _ (spliced ((false,eval e X.env) :: backTo pos (starEach es X.env))) _ _ s
 refine Calls.spliced_cons (thn (ha pins s σ H _ I h) fun u s1 ⟨x,H1,I1,r1,q1⟩=>?_)
 exact thn (hr pos pins s1 σ H1 _ I1 q1) fun us s2 ⟨xs,H2,I2,r2,q2⟩=>⟨x :: xs,H2,I2,.cons r1 r2,q2⟩
def AT (t:TA):TE:=fun σ H Q=>t σ H fun xs H1=>xs.length≤sizeLine∧∀p,H1 p=none→Q (.ref p) (upd H1 p (.tup xs))
def AU (t:TA):TE:=fun σ H Q=>t σ H fun xs H1=>xs.length≤sizeLine∧∀p,H1 p=none→Q (.ref p) (upd H1 p (.lst xs))
theorem aF {x1} (h:PA X es t):PE X (.Tuple es x1 pos) (AT t):=by
 intro pins s σ H Q I hq
 refine wpAny_Tuple_spliced (thn (h pos pins s σ H _ I hq) fun us s1 ⟨xs,H1,I1,r,z,q⟩=>⟨by rw [← r.length]; exact z,?_⟩)
 have hf:H1 s1.heap.objs.size=none:=I1.hok.fresh (Nat.le_refl _)
 refine ⟨.ref s1.heap.objs.size,upd H1 s1.heap.objs.size (.tup xs),I1.laid (t':=s1.toks) (fun b u e=>Heap.get?_push_of_some _ e) (Nat.le_refl _) ?_,rfl,q _ hf⟩
 exact ⟨z,us,r,⟨_,Heap.get?_push_size _ rfl,rfl,_,rfl⟩⟩
theorem aT (h:PA X es t):PE X (.List es pos) (AU t):=by
 intro pins s σ H Q I hq
 refine wpAny_List_spliced (thn (h pos pins s σ H _ I hq) fun us s1 ⟨xs,H1,I1,r,z,q⟩=>⟨by rw [← r.length]; exact z,?_⟩)
 have hf:H1 s1.heap.objs.size=none:=I1.hok.fresh (Nat.le_refl _)
 refine ⟨.ref s1.heap.objs.size,upd H1 s1.heap.objs.size (.lst xs),I1.laid (t':=s1.toks) (fun b u e=>Heap.get?_push_of_some _ e) (Nat.le_refl _) ?_,rfl,q _ hf⟩
 exact ⟨z,us,0,r,Heap.get?_push_size _ rfl⟩
end
abbrev Sp:=List V→Hp→VK→XK→Prop
abbrev CXT:=List Env→Hp→Shared→XK→Value→Shared→Prop
structure Env0 (P:Program) (w:World) (K:PySem.W.Frag) (mg:Str→Option Value) (base:Heap) (A:Around) (outer:List Env) (s:Shared) (H:Hp):Prop where
 frames:A.frames=some outer
 mod:Mod K mg base
 bs:∀b o,base.get? b=some o→s.heap.get? b=some o∧H b=none
 bsz:base.objs.size≤s.heap.objs.size
 funs:s.heap.FunFrames base outer
 frf:∀b∈frs outer,H b=none
 hok:HOk P w H s.heap
 bare:AllBare s.gens
def CE (outer:List Env) (P:Program) (w:World) (H:Hp) (s:Shared) (Q:VK) (u:Value) (s':Shared):Prop :=
 ∃v H',s'.os=s.os∧AllBare s'.gens∧Un (frs outer) [] H H' s.heap s'.heap∧HOk P w H' s'.heap∧RelV v u∧Q v H'
def CR (CX:CXT) (outer:List Env) (P:Program) (w:World) (H:Hp) (s:Shared) (Q:VK) (E:XK) (r:Result) (s':Shared):Prop :=
 match r with
 | .ok (.ret u)=>CE outer P w H s Q u s'
 | .ok _=>False
 | .error e=>CX outer H s E e s'
structure FnOk (P:Program) (w:World) (K:PySem.W.Frag) (mg:Str→Option Value) (base:Heap) (CX:CXT) (k:Nat) (f:Addr) (fd:FuncData) (ps:List Str) (sp:Sp):Prop where
 len:∀vs H Q E,sp vs H Q E→vs.length=ps.length
 run:∀ (A:Around) (outer:List Env) (s:Shared) (H:Hp) (args:Args) (us:List Value) (vs:List V) (Q:VK) (E:XK),Room k A→Env0 P w K mg base A outer s H→BindsTo s fd args (ps.zip us)→Vals vs us→sp vs H Q E →
  codeAny (model P w) A (.call (.ref f) args) (CR CX outer P w H s Q E) s
theorem Env0.make {P:Program} {w:World} {K:PySem.W.Frag} {mg:Str→Option Value} {base:Heap} {A:Around} {outer:List Env} {s:Shared} {H:Hp} (e:Env0 P w K mg base A outer s H) (C:Addr) (us:List Value) (kw:List (Str×Value)) :
  Env0 P w K mg base (A.under (.builtin "type.__call__" ⟨.ref C :: us,kw⟩)) outer s H:=⟨by first | exact e.frames | (simpa [Around.under,Code.envs,Code.isFrame,pushEnvs] using e.frames),e.mod,e.bs,e.bsz,e.funs,e.frf,e.hok,e.bare⟩
section
variable {X:Cx} {pins:List (Addr×Obj)} {σ:St} {H:Hp} {s s':Shared}
theorem Inv.env0 (I:Inv X pins σ H s):Env0 X.prog X.w X.K X.mg X.base X.A X.stack s H :=
 ⟨I.ok.frames,I.ok.mod,I.bs,Nat.le_trans I.ok.bsz I.sz,I.stack,I.stkFree,I.hok,I.bare⟩
theorem Inv.after {Q:VK} {u:Value} (I:Inv X pins σ H s) (h:CE X.stack X.prog X.w H s Q u s'):EP X pins σ Q u s':=by
 obtain ⟨v,H',os,bare,un,hok,r,q⟩:=h
 obtain ⟨hh,g,d,t,os'⟩:=s'
 obtain rfl:os'=s.os:=os
 exact ⟨v,H',I.call (h':=hh) (g':=g) (d':=d) (t':=t) (ch:=[]) un hok bare (fun b z=>absurd z (by simp)),r,q⟩
end
def qE (sp:Sp) (dvs:List V) (E:XK) (t:TA):TE:=fun σ H Q=>t σ H fun vs H1=>sp (vs ++ dvs) H1 Q E
def ki (C:Addr) (m:Str) (sp:Sp) (dvs:List V) (E:XK) (ta:TE) (t:TA):TE:=fun σ H Q=>ta σ H fun x H1=>∃a dx fs,x=.ref a∧H1 a=some (.ins C dx fs)∧fs.lookup m=none ∧
 t σ H1 fun vs H2=>sp (x :: (vs ++ dvs)) H2 Q E
def qF (C:Addr) (sp:Sp) (dvs:List V) (E:XK) (t:TA):TE:=fun σ H Q=>t σ H fun vs H1=>∀x dx,H1 x=none→H1 dx=none→dx≠x →
 sp (.ref x :: (vs ++ dvs)) (upd (upd H1 dx (.own x)) x (.ins C dx [])) (fun v H2=>v=.non∧Q (.ref x) H2) E
def Binds (K:PySem.W.Frag) (fd:FuncData) (ps:List Str) (ds:List Value):Prop :=
 ∀ (s:Shared) (us:List Value),K.In s.heap→(us ++ ds).length=ps.length→BindsTo s fd ⟨us,[]⟩ (ps.zip (us ++ ds))
theorem Binds.all {K:PySem.W.Frag} {fd:FuncData} {ps:List Str} (h:∀us:List Value,us.length=ps.length→bindArgs fd ⟨us,[]⟩=pure (ps.zip us)):Binds K fd ps []:=fun s us _ hl=>by
 rw [List.append_nil] at hl ⊢
 exact .of_eq (h us hl)
def dk (CX:CXT) (X:Cx) (E:XK):Prop:=∀ (pins:List (Addr×Obj)) (σ:St) (H:Hp) (s:Shared) (e:Value) (s':Shared),Inv X pins σ H s→CX X.stack H s E e s'→X.xe e s'
section
variable {X:Cx} {CX:CXT} {k:Nat} {f C:Addr} {fd:FuncData} {ps:List Str} {sp:Sp} {dvs:List V} {ds:List Value} {E:XK} {x m:Str} {p pos apos:Pos} {e o:Expr} {es:List Expr} {ta:TE} {t:TA}
theorem jk {pins:List (Addr×Obj)} {σ:St} {H:Hp} {s:Shared} {Q:VK} {us:List Value} {vs:List V} (F:FnOk X.prog X.w X.K X.mg X.base CX k f fd ps sp) (hr:Room k X.A) (hb:Binds X.K fd ps ds) (hd:Vals dvs ds) (hx:dk CX X E)
  (I:Inv X pins σ H s) (r:Vals vs us) (h:sp (vs ++ dvs) H Q E):wpAny (model X.prog X.w) X.A (call (.ref f) us) (EP X pins σ Q) X.xe s:=by
 have r2:Vals (vs ++ dvs) (us ++ ds):=r.append hd
 have hl:(us ++ ds).length=ps.length:=by rw [← r2.length]; exact F.len _ _ _ _ h
 refine wpAny_call (codeAny_mono (F.run X.A X.stack s H ⟨us,[]⟩ (us ++ ds) (vs ++ dvs) Q E hr I.env0 (hb s us I.kIn hl) r2 h) fun r s' hq=>?_)
 cases r with
 | error e=>exact hx pins σ H s e s' I hq
 | ok fl =>
  cases fl with
  | ret u=>exact I.after hq
  | next=>exact False.elim hq
  | brk=>exact False.elim hq
  | cont=>exact False.elim hq
theorem oZ (F:FnOk X.prog X.w X.K X.mg X.base CX k f fd ps sp) (hr:Room k X.A) (hg:Gl X x) (hm:X.mg x=some (.ref f)) (hk:PySem.W.keepIn X.K (.ref f)=true) (hb:Binds X.K fd ps ds) (hd:Vals dvs ds) (hx:dk CX X E)
  (ha:PA X (e :: es) t) (hdb:(x == ("__debug__" : Str))=false:=by decide) (he:starEach (e :: es) X.env=(false,eval e X.env) :: starEach es X.env:=by rfl) (hpl:(backTo pos (starEach es X.env)).any (·.1)=false:=by rfl) :
  PE X (.Call (.Name x p) (e :: es) [] pos) (qE sp dvs E t):=by
 intro pins s σ H Q I h
 refine wpAny_Call_Name_kw (gx I hg hm ?_ hdb)
 refine PySem.W.callWith_K (h₀:=X.base) I.ok.mod.kin hk (thn (ha pos pins s σ H _ I h) fun us s1 ⟨vs,H1,I1,r,q⟩=>⟨I1.kIn,?_⟩) he hpl
 exact jk F hr hb hd hx I1 r q
theorem pb {pl:Sem Bool} (he:PE X o ta) (c:Cls X.K C) (hm:Meth X.K C m f) (F:FnOk X.prog X.w X.K X.mg X.base CX k f fd ps sp) (hr:Room k X.A) (hb:Binds X.K fd ps ds) (hd:Vals dvs ds) (hx:dk CX X E) (ha:PA X (e :: es) t)
  (hst:starEach (e :: es) X.env=(false,eval e X.env) :: starEach es X.env:=by rfl) (hpl:(backTo pos (starEach es X.env)).any (·.1)=false:=by rfl)
  (ht:eval (.Call (.Attribute o m apos) (e :: es) [] pos) X.env=(do
   let ov←eval o X.env
   standAt apos.atName
   let (f,first)←holding [ov] (getMethod ov m pl)
   callWith pos f first (backTo pos (starEach (e :: es) X.env)) (backToKw pos (keywordEach [] X.env))):=by rfl) :
  PE X (.Call (.Attribute o m apos) (e :: es) [] pos) (ki C m sp dvs E ta t):=by
 intro pins s σ H Q I h
 refine PySem.W.methodCall_KW (pl:=pl) (thn (he pins s σ H _ I h) fun u s1 ⟨x,H1,I1,rx,a,dx,fs,ex,ea,l,q⟩=>?_) ht
 subst ex
 obtain rfl:u=Value.ref a:=rx
 refine dj I1 ea c hm l ?_
 refine PySem.W.callWith_K (first:=[.ref a]) (h₀:=X.base) I.ok.mod.kin hm.kp (thn (ha pos pins s1 σ H1 _ I1 q) fun us s2 ⟨vs,H2,I2,r,q2⟩=>⟨I2.kIn,?_⟩) hst hpl
 exact jk (us:=.ref a :: us) (vs:=.ref a :: vs) F hr hb hd hx I2 (.cons rfl r) q2
theorem mQ {pl:Sem Bool} (he:PE X o ta) (c:Cls X.K C) (hm:Meth X.K C m f) (F:FnOk X.prog X.w X.K X.mg X.base CX k f fd ps sp) (hr:Room k X.A) (hb:Binds X.K fd ps ds) (hd:Vals dvs ds) (hx:dk CX X E)
  (ht:eval (.Call (.Attribute o m apos) [] [] pos) X.env=(do
   let ov←eval o X.env
   standAt apos.atName
   let (f,first)←holding [ov] (getMethod ov m pl)
   callWith pos f first (backTo pos (starEach [] X.env)) (backToKw pos (keywordEach [] X.env))):=by rfl) :
  PE X (.Call (.Attribute o m apos) [] [] pos) (ki C m sp dvs E ta kY):=by
 intro pins s σ H Q I h
 refine PySem.W.methodCall_KW (pl:=pl) (thn (he pins s σ H _ I h) fun u s1 ⟨x,H1,I1,rx,a,dx,fs,ex,ea,l,q⟩=>?_) ht
 subst ex
 obtain rfl:u=Value.ref a:=rx
 refine dj I1 ea c hm l ?_
 exact PySem.W.callWith_K0 (first:=[.ref a]) I1.kIn hm.kp (jk (us:=[.ref a]) (vs:=[.ref a]) F hr hb hd hx I1 (.cons rfl .nil) q)
structure Mk (K:PySem.W.Frag) (C f:Addr):Prop where
 makes:PySem.W.makesIn K C=true
 init:PySem.W.findIn K (.ref C) "__init__" = some (some (.ref f))
 fn:PySem.W.isFn K (.ref f)=true
 kp:PySem.W.keepIn K (.ref C)=true
theorem mR {pins:List (Addr×Obj)} {σ:St} {H:Hp} {s:Shared} {Q:VK} {us:List Value} {vs:List V} (M:Mk X.K C f) (F:FnOk X.prog X.w X.K X.mg X.base CX k f fd ps sp) (hr:Room (k + 1) X.A) (hb:Binds X.K fd ps ds) (hd:Vals dvs ds)
  (hx:dk CX X E) (I:Inv X pins σ H s) (r:Vals vs us)
  (h:∀x dx,H x=none→H dx=none→dx≠x→sp (.ref x :: (vs ++ dvs)) (upd (upd H dx (.own x)) x (.ins C dx [])) (fun v H2=>v=.non∧Q (.ref x) H2) E) :
  wpAny (model X.prog X.w) X.A (call (.ref C) us) (EP X pins σ Q) X.xe s:=by
 have hq:=h (s.heap.objs.size + 1) s.heap.objs.size (I.hok.fresh (Nat.le_succ _)) (I.hok.fresh (Nat.le_refl _)) (Nat.ne_of_lt (Nat.lt_succ_self _))
 have I2:=Inv.made (C:=C) I
 have r2:Vals (V.ref (s.heap.objs.size + 1) :: (vs ++ dvs)) (Value.ref (s.heap.objs.size + 1) :: (us ++ ds)):=.cons rfl (r.append hd)
 have hl:(Value.ref (s.heap.objs.size + 1) :: us ++ ds).length=ps.length:=by
  have e:=r2.length
  rw [F.len _ _ _ _ hq] at e
  exact e.symm
 refine wpAny_call (mO (f:=f) I.kIn M.makes M.init (beq_iff_eq.mp M.fn) (codeAny_mono (F.run _ X.stack _ _ ⟨Value.ref (s.heap.objs.size + 1) :: us,[]⟩ (Value.ref (s.heap.objs.size + 1) :: (us ++ ds)) _ _ E (hr.make C us [])
  (I2.env0.make C us []) (hb _ (Value.ref (s.heap.objs.size + 1) :: us) I2.kIn hl) r2 hq) fun r s' hq'=>?_))
 cases r with
 | error e=>exact hx pins σ _ _ e s' I2 hq'
 | ok fl =>
  cases fl with
  | ret u =>
   obtain ⟨v,H',I3,rv,ev,q3⟩:=I2.after hq'
   subst ev
   exact ⟨rv,⟨V.ref (s.heap.objs.size + 1),H',I3,rfl,q3⟩⟩
  | next=>exact False.elim hq'
  | brk=>exact False.elim hq'
  | cont=>exact False.elim hq'
theorem pc (M:Mk X.K C f) (F:FnOk X.prog X.w X.K X.mg X.base CX k f fd ps sp) (hr:Room (k + 1) X.A) (hg:Gl X x) (hm:X.mg x=some (.ref C)) (hb:Binds X.K fd ps ds) (hd:Vals dvs ds) (hx:dk CX X E)
  (ha:PA X (e :: es) t) (hdb:(x == ("__debug__" : Str))=false:=by decide) (he:starEach (e :: es) X.env=(false,eval e X.env) :: starEach es X.env:=by rfl) (hpl:(backTo pos (starEach es X.env)).any (·.1)=false:=by rfl) :
  PE X (.Call (.Name x p) (e :: es) [] pos) (qF C sp dvs E t):=by
 intro pins s σ H Q I h
 refine wpAny_Call_Name_kw (gx I hg hm ?_ hdb)
 refine PySem.W.callWith_K (h₀:=X.base) I.ok.mod.kin M.kp (thn (ha pos pins s σ H _ I h) fun us s1 ⟨vs,H1,I1,r,q⟩=>⟨I1.kIn,?_⟩) he hpl
 exact mR M F hr hb hd hx I1 r q
end
section
variable {X:Cx} {CX:CXT} {k:Nat} {f C:Addr} {fd:FuncData} {ps ks:List Str} {sp:Sp} {E:XK} {x m:Str} {p pos apos kpos:Pos} {e o:Expr} {es:List Expr} {kws:List Keyword} {te ta:TE} {t tk:TA} {nm:Option Str}
structure KBinds (K:PySem.W.Frag) (fd:FuncData) (ps ks:List Str) (g:List Value→List Value→List Value) (gV:List V→List V→List V):Prop where
 to:∀ (s:Shared) (us ws:List Value),K.In s.heap→(g us ws).length=ps.length→BindsTo s fd ⟨us,ks.zip ws⟩ (ps.zip (g us ws))
 rel:∀ {vs:List V} {us:List Value} {zs:List V} {ws:List Value},Vals vs us→Vals zs ws→Vals (gV vs zs) (g us ws)
variable {g:List Value→List Value→List Value} {gV:List V→List V→List V}
end
structure FnScope (N P:List Str) (sc:Scope):Prop where
 kind:sc.kind=.function
 co:sc.isCoroutine=false
 gen:sc.isGenerator=false
 nd:N.Nodup
 pre:N.take P.length=P
 par:∀x∈P,sc.names.lookup x=some .local∨sc.names.lookup x=some .cell
 nofree:∀y∈sc.names,y.2≠.free
theorem gb {kindOf:Str→Option NameKind} {x:Str}:∀ {binds:List (Str×Value)} {m:Str→Option Value},(∀v,(x,v)∉binds)→bindL kindOf binds m x=m x
 | [],_,_=>rfl
 | (n,v) :: r,m,h=>by
  unfold bindL
  rw [gb fun w hw=>h w (List.mem_cons_of_mem _ hw)]
  split
  ·have:x≠n:=by rintro rfl; exact h v List.mem_cons_self
   simp [this]
  ·rfl
theorem gc {kindOf:Str→Option NameKind} {x:Str}:∀ {binds:List (Str×Value)} {m:Str→Option Value},(∀v,(x,v)∉binds)→bindC kindOf binds m x=m x
 | [],_,_=>rfl
 | (n,v) :: r,m,h=>by
  unfold bindC
  rw [gc fun w hw=>h w (List.mem_cons_of_mem _ hw)]
  split
  ·rfl
  ·have:x≠n:=by rintro rfl; exact h v List.mem_cons_self
   simp [this]
theorem ge {kindOf:Str→Option NameKind} {x:Str} {v:Value}:∀ {P:List Str} {vs:List Value} {i:Nat} {m:Str→Option Value},P.Nodup→P[i]? = some x→vs[i]? = some v→kindOf x=some .local →
  bindL kindOf (P.zip vs) m x=some v
 | [],_,_,_,_,h,_,_=>by simp at h
 | _ :: _,[],_,_,_,_,h,_=>by simp at h
 | p :: P,w :: vs,0,m,nd,h1,h2,hk=>by
  simp at h1 h2; subst h1; subst h2
  show bindL kindOf ((p,w) :: P.zip vs) m p=_
  unfold bindL
  rw [gb fun v hv=>(List.nodup_cons.mp nd).1 (List.of_mem_zip hv).1,if_pos hk]
  simp
 | p :: P,w :: vs,i + 1,m,nd,h1,h2,hk=>by
  show bindL kindOf ((p,w) :: P.zip vs) m x=_
  unfold bindL
  exact ge (i:=i) (List.nodup_cons.mp nd).2 (by simpa using h1) (by simpa using h2) hk
theorem gf {kindOf:Str→Option NameKind} {x:Str} {v:Value}:∀ {P:List Str} {vs:List Value} {i:Nat} {m:Str→Option Value},P.Nodup→P[i]? = some x→vs[i]? = some v→kindOf x≠some .local →
  bindC kindOf (P.zip vs) m x=some v
 | [],_,_,_,_,h,_,_=>by simp at h
 | _ :: _,[],_,_,_,_,h,_=>by simp at h
 | p :: P,w :: vs,0,m,nd,h1,h2,hk=>by
  simp at h1 h2; subst h1; subst h2
  show bindC kindOf ((p,w) :: P.zip vs) m p=_
  unfold bindC
  rw [gc fun v hv=>(List.nodup_cons.mp nd).1 (List.of_mem_zip hv).1,if_neg hk]
  simp
 | p :: P,w :: vs,i + 1,m,nd,h1,h2,hk=>by
  show bindC kindOf ((p,w) :: P.zip vs) m x=_
  unfold bindC
  exact gf (i:=i) (List.nodup_cons.mp nd).2 (by simpa using h1) (by simpa using h2) hk
def start (N:List Str) (vs:List V):St:=vs.map some ++ List.replicate (N.length - vs.length) none
def kZ (CX:CXT) (P:Program) (w:World) (K:PySem.W.Frag) (mg:Str→Option Value) (base:Heap) (N:List Str) (qual:Str) (scope:Scope) (f:Addr) (cd:Value) (A:Around) (outer:List Env) (s:Shared) (H:Hp) (E:XK):Cx where
 prog:=P
 w:=w
 K:=K
 mg:=mg
 base:=base
 A:=A.deeper (envOfC qual scope s.heap.objs.size f cd)
 N:=N
 s₀:=s
 H₀:=H
 env:=envOfC qual scope s.heap.objs.size f cd
 outer:=outer
 stack:=envOfC qual scope s.heap.objs.size f cd :: outer
 ex:=[]
 calm:=true
 fn:=fun _=>true
 pn:=[]
 xe:=fun e s'=>wpAny (model P w) (A.deeper (envOfC qual scope s.heap.objs.size f cd)) (leaving (envOfC qual scope s.heap.objs.size f cd) e) (fun _ s''=>CX outer H s E e s'') (fun e' s''=>CX outer H s E e' s'') s'
theorem io {sc:Scope} {n:Nat} {x:Str} (h:sc.names.lookup x=some .cell):∃c,(cellsFrom n sc.names []).lookup x=some c:=by
 have q:=PySem.W.cellsFrom_some sc.names n [] (.inl h)
 exact Option.isSome_iff_exists.mp q
theorem lc {CX:CXT} {P:Program} {w:World} {K:PySem.W.Frag} {mg:Str→Option Value} {base:Heap} {N ps:List Str} {qual:Str} {scope:Scope} {f:Addr} {cd:Value} {A:Around} {outer:List Env} {s s1:Shared} {H:Hp} {E:XK} {us:List Value} {vs:List V}
  (S:FnScope N ps scope) (hd:A.handled=none) (e0:Env0 P w K mg base A outer s H) (hl:vs.length=ps.length) (r:Vals vs us)
  (x:InCallC s s.heap.objs.size (bindL (envOfC qual scope s.heap.objs.size f cd).kindOf (ps.zip us) fun _=>none) (cellsFrom (s.heap.objs.size + 1) scope.names []) (bindC (envOfC qual scope s.heap.objs.size f cd).kindOf (ps.zip us) fun _=>none) s1) :
  Inv (kZ CX P w K mg base N qual scope f cd A outer s H E) [] (start N vs) H s1:=by
 have hpl:ps.length≤N.length:=by have:=congrArg List.length S.pre; rw [List.length_take] at this; omega
 obtain ⟨h1,tk,rfl,hk⟩:=x.done
 have noA:∀b:Addr,b∉(kZ CX P w K mg base N qual scope f cd A outer s H E).ex:=fun b z=>absurd (show b∈([]:List Addr) from z) (by simp)
 refine ⟨⟨e0.mod,S.kind,rfl,rfl,Nat.le_refl _,fun y z c h1 h2=>?_,fun y hy=>?_,fun y c _ h=>?_,fun _=>hd,Around.frames_deeper e0.frames,.inr ⟨rfl,rfl⟩,fun b z=>absurd z (noA b),e0.bs,e0.bsz,fun b _ _=>noA b,fun b z=>absurd z (noA b),e0.funs,e0.frf⟩,
  rfl,e0.bare,Un.kept hk,⟨_,x.toInCall.ns,fun i y v h1 h2 h3=>?_⟩,fun y c h=>⟨_,x.cell y c h⟩,e0.hok.fresh (Nat.le_refl _),fun y c h=>?_,fun p hp=>absurd (show p∈([]:List (Addr×Obj)) from hp) (by simp),e0.hok.kept hk,?_⟩
 ·exact name_of_addr x.apart (PySem.mem_of_lookup h1) (PySem.mem_of_lookup h2)
 ·have hy:scope.names.lookup y=some .cell∨scope.names.lookup y=some .free:=hy
  rcases hy with hy | hy
  ·exact io hy
  ·exact absurd rfl (S.nofree _ (PySem.mem_of_lookup hy))
 ·exact Nat.le_of_lt (x.above y c (PySem.mem_of_lookup h))
 ·have hi:i < vs.length:=by
   unfold start at h2
   by_cases hi:i < vs.length
   ·exact hi
   ·rw [List.getElem?_append_right (by simpa using hi)] at h2
    rw [List.getElem?_replicate] at h2
    split at h2 <;> cases h2
  have ha:vs[i]? = some v:=by
   unfold start at h2
   rw [List.getElem?_append_left (by simpa using hi),List.getElem?_map] at h2
   cases e:vs[i]? with
   | none=>rw [e] at h2; cases h2
   | some a=>rw [e] at h2; cases h2; rfl
  obtain ⟨u,hu,rv⟩:=r.get ha
  have hp:ps[i]? = some y:=by
   rw [← S.pre,List.getElem?_take_of_lt (by omega)]; exact h1
  have ndP:ps.Nodup:=by rw [← S.pre]; exact S.nd.sublist (List.take_sublist _ _)
  refine ⟨u,rv,?_⟩
  rcases S.par y (List.mem_of_getElem? hp) with k | k
  ·exact .inl ⟨k,ge ndP hp hu k⟩
  ·obtain ⟨c,e⟩:=io (n:=s.heap.objs.size + 1) k
   refine .inr ⟨.inl k,c,e,?_⟩
   have q:=x.cell y c e
   rw [gf ndP hp hu (by show scope.names.lookup y≠_; rw [k]; decide)] at q
   exact q
 ·exact e0.hok.fresh (Nat.le_of_lt (x.above y c (PySem.mem_of_lookup h)))
 ·unfold start
  show _=N.length
  rw [List.length_append,List.length_map,List.length_replicate]
  omega
theorem uM {CX:CXT} {P:Program} {w:World} {K:PySem.W.Frag} {mg:Str→Option Value} {base:Heap} {k:Nat} {f:Addr} {name qual:Str} {params:Arguments} {body:List Stmt} {scope:Scope} {dV kV doc pm cdv ct oc:Value} {an od:Option Addr}
  {osl:Array (Option Value)} {N ps:List Str} {sp:Sp} (lk:K.lookup f=some ⟨oc,od,.func (PySem.W.fnOf name qual params body scope dV kV doc pm an cdv ct),osl⟩) (hcd:PySem.W.codeIn K cdv qual=true) (S:FnScope N ps scope)
  (len:∀vs H Q E,sp vs H Q E→vs.length=ps.length)
  (hbody:∀ (A:Around) (outer:List Env) (s:Shared) (H:Hp) (vs:List V) (Q:VK) (E:XK),Room k (A.deeper (envOfC qual scope s.heap.objs.size f cdv))→sp vs H Q E →
   ∃t,PSs (kZ CX P w K mg base N qual scope f cdv A outer s H E) body t∧t { nx:=fun _ H'=>Q .non H',rt:=Q } (start N vs) H) :
  FnOk P w K mg base CX (k + 1) f (PySem.W.fnOf name qual params body scope dV kV doc pm an cdv ct) ps sp:=by
 refine ⟨len,fun A outer s H args us vs Q E hr e0 hb r hsp=>?_⟩
 have hl:=len _ _ _ _ hsp
 have KX:K.In s.heap:=e0.mod.kin.keeps fun b o e=>(e0.bs b o e).1
 have lim:s.heap.NoLimit:=e0.mod.nolimit.keeps fun b o e=>(e0.bs b o e).1
 have hkind:∀y∈ps.zip us,scope.names.lookup y.1=some .local∨(scope.names.lookup y.1=some .cell∧((cellsFrom (s.heap.objs.size + 1) scope.names []).lookup y.1).isSome=true):=fun ⟨n,v⟩ hy=>by
  rcases S.par n (List.of_mem_zip hy).1 with q | q
  ·exact .inl q
  ·exact .inr ⟨q,PySem.W.cellsFrom_some _ _ _ (.inl q)⟩
 refine codeAny_call_function hr.depth (KX _ _ lk) rfl S.co S.gen rfl (PySem.W.codeRec_of KX hcd) (hb _ _ _ _ ?_)
 refine wpAny_newFunctionEnv_cells S.kind hkind fun env he s1 x=>?_
 subst he
 refine ⟨lim.keeps x.toInCall.keep,codeAny_func ?_⟩
 obtain ⟨t,ht,hq⟩:=hbody A outer s H vs Q E (hr.deeper _) hsp
 have I:Inv (kZ CX P w K mg base N qual scope f cdv A outer s H E) [] (start N vs) H s1:=lc S hr.hd e0 hl r x
 refine wpAny_mono (ht [] s1 (start N vs) H _ I hq) (fun fl s' hs=>?_) fun e s' hs=>hs
 have fin:∀ {σ':St} {H':Hp} {v:V} {u:Value},Inv (kZ CX P w K mg base N qual scope f cdv A outer s H E) [] σ' H' s'→RelV v u→Q v H'→CE outer P w H s Q u s' :=
  fun {σ' H' v u} J rv q=>⟨v,H',J.os,J.bare,J.base,J.hok,rv,q⟩
 cases fl with
 | ret u =>
  obtain ⟨v,σ',H',J,rv,q⟩:=hs
  exact fin J rv q
 | next =>
  obtain ⟨σ',H',J,q⟩:=hs
  exact fin (v:=V.non) (u:=Value.none) J rfl q
 | brk =>
  obtain ⟨_,_,_,q⟩:=hs
  exact False.elim q
 | cont =>
  obtain ⟨_,_,_,q⟩:=hs
  exact False.elim q
end L2
namespace L2
open PySem PySem.Spec PyProof.Rows
section
variable {X:Cx} {x:Str} {p pos:Pos} {e:Expr} {es:List Expr} {t:TA} {id T:String} {r:List V→Hp→VK→Prop}
def tCB (r:List V→Hp→VK→Prop) (t:TA):TE:=fun σ H Q=>t σ H fun vs H1=>r vs H1 Q
theorem ay (hc:cq X (.builtin id) r) (hg:Gl X x) (hm:X.mg x=none) (hv:bootBuiltins x=some (.builtin id)) (ha:PA X (e :: es) t) (hn:x ≠ "__name__" := by decide) (hdb:(x == ("__debug__" : Str))=false:=by decide)
  (he:starEach (e :: es) X.env=(false,eval e X.env) :: starEach es X.env:=by rfl) (hpl:(backTo pos (starEach es X.env)).any (·.1)=false:=by rfl):PE X (.Call (.Name x p) (e :: es) [] pos) (tCB r t):=by
 intro pins s σ H Q I h
 refine wpAny_Call_Name_kw (dh I hg hm hv ?_ hn hdb)
 exact PyProof.Rows.callWith_builtin1 (thn (ha pos pins s σ H _ I h) fun us s1 ⟨vs,H1,I1,r1,q1⟩=>hc pins s1 σ H1 vs us Q I1 r1 q1) he hpl
theorem aU (hc:cq X (.type T) r) (hg:Gl X x) (hm:X.mg x=none) (hv:bootBuiltins x=some (.type T)) (ha:PA X (e :: es) t) (hn:x ≠ "__name__" := by decide) (hdb:(x == ("__debug__" : Str))=false:=by decide)
  (he:starEach (e :: es) X.env=(false,eval e X.env) :: starEach es X.env:=by rfl) (hpl:(backTo pos (starEach es X.env)).any (·.1)=false:=by rfl):PE X (.Call (.Name x p) (e :: es) [] pos) (tCB r t):=by
 intro pins s σ H Q I h
 refine wpAny_Call_Name_kw (dh I hg hm hv ?_ hn hdb)
 exact PyProof.Rows.callWith_type1 (thn (ha pos pins s σ H _ I h) fun us s1 ⟨vs,H1,I1,r1,q1⟩=>hc pins s1 σ H1 vs us Q I1 r1 q1) he hpl
end
end L2
namespace HT
open PySem PyProof.Rows
section
open PySem.SeqAt
open PySem.AutoSeq1 (wpAny_loadPart')
open PySem.MeetsSeq PySem.MeetsSeq2 PySem.MeetsSeq3
end
section
variable {prog:Program} {w:World} {A:Around} {E:Value→Shared→Prop} {s:Shared}
theorem cat_tup {t b:Addr} {vs ws:List Value} {Q:Value→Shared→Prop} (ht:IsTup s.heap t vs.toArray) (hb:IsTup s.heap b ws.toArray) (hv:vs≠[])
  (h1:ws=[]→Q (.ref t) s) (h2:ws≠[]→Q (.ref s.heap.objs.size) { s with heap:=s.heap.push { cls:=.type "tuple",data:=.seq (vs ++ ws).toArray } })
  (hsz:vs.length + ws.length≤sizeLine):wpAny (model prog w) A (binaryOp .Add (.ref t) (.ref b)) Q E s:=by
 obtain ⟨⟨cls,dd,data,sl⟩,ho,hc,n,hd⟩:=id ht
 obtain ⟨⟨cls2,dd2,data2,sl2⟩,ho2,hc2,n2,hd2⟩:=id hb
 simp only at hc hd hc2 hd2
 subst hc hd hc2 hd2
 have e:vs.toArray ++ ws.toArray=(vs ++ ws).toArray:=by simp
 by_cases hw:ws=[]
 ·exact concat_meets ⟨_,ho,rfl⟩ ⟨_,ho2,rfl⟩ noFill_tuple_add seq_tuple_add PySem.F.slot_tuple_add PySem.F.entry_tuple_add (PySem.F.args_tuple_add_2 _ _)
   (tuple_addW1 t b vs.toArray ws.toArray n n2 dd dd2 sl sl2 (by simpa using hv) (by simp [hw])) ⟨ho,ho2,h1 hw⟩
 ·refine concat_meets ⟨_,ho,rfl⟩ ⟨_,ho2,rfl⟩ noFill_tuple_add seq_tuple_add PySem.F.slot_tuple_add PySem.F.entry_tuple_add (PySem.F.args_tuple_add_2 _ _)
   (tuple_addW2 t b vs.toArray ws.toArray n n2 dd dd2 sl sl2 (by simpa using hv) (by simpa using hw) (by rw [List.size_toArray,List.size_toArray]; exact hsz)) ⟨ho,ho2,?_⟩
  rw [e]
  exact h2 hw
def sIx (n d:Nat):Option Int→Nat
 | none=>d
 | some v=>if v < 0 then (v + (n:Int)).toNat else min v.toNat n
theorem sIx_none (n d:Nat):sIx n d none=d:=rfl
theorem sIx_nat (n d k:Nat):sIx n d (some (k:Int))=min k n:=by
 show (if (k:Int) < 0 then ((k:Int) + (n:Int)).toNat else min (k:Int).toNat n)=min k n
 rw [if_neg (by omega),Int.toNat_natCast]
theorem rg (n d:Nat) (hd:d≤n) (o:Option Int):sIx n d o≤n:=by
 cases o with
 | none=>exact hd
 | some v =>
  show (if v < 0 then (v + (n:Int)).toNat else min v.toNat n)≤n
  by_cases hv:v < 0
  ·rw [if_pos hv]; omega
  ·rw [if_neg hv]; exact Nat.min_le_right _ _
theorem kj (v:Int) (n d:Nat):(if v < 0 then max (v + (n:Int)) 0 else min v (n:Int))=((sIx n d (some v):Nat):Int):=by
 show (if v < 0 then max (v + (n:Int)) 0 else min v (n:Int))=(((if v < 0 then (v + (n:Int)).toNat else min v.toNat n):Nat):Int)
 by_cases hv:v < 0
 ·simp only [if_pos hv]; omega
 ·simp only [if_neg hv]; omega
theorem jl (lo hi:Option Int) (n:Nat):Builtin.Slice.sliceAdjust lo hi 1 (n:Int)=(((sIx n 0 lo:Nat):Int),((sIx n n hi:Nat):Int)):=by
 have h1:¬ ((1:Int) < 0):=by omega
 unfold Builtin.Slice.sliceAdjust
 simp only [h1,if_false]
 refine Prod.ext ?_ ?_
 ·cases lo with
  | none=>rfl
  | some v=>exact kj v n 0
 ·cases hi with
  | none=>rfl
  | some v=>exact kj v n n
theorem jm (i j:Nat):Builtin.Slice.slicePlaces (i:Int) (j:Int) 1=j - i:=by
 unfold Builtin.Slice.slicePlaces
 have h1:(1:Int) > 0:=by omega
 simp only [h1,if_true,Int.ediv_one]
 split <;> omega
theorem fj {v:Value} {o:Option Int} {Q:Option Int→Shared→Prop} (p:IsPart v o) (h:Q o s):wpAny (model prog w) A (Builtin.Slice.slicePartIndex v) Q E s:=by
 cases p with
 | none=>exact slicePart_none h
 | int i t=>exact slicePart_int h
theorem eG {sl:Addr} {vl vu:Value} {lo hi:Option Int} {n:Nat} {Q:Int×Int×Nat→Shared→Prop} (hs:s.heap.IsSliceOf sl vl vu .none) (pl:IsPart vl lo) (pu:IsPart vu hi)
  (h:Q (((sIx n 0 lo:Nat):Int),1,sIx n n hi - sIx n 0 lo) s):wpAny (model prog w) A (Builtin.Slice.sliceApplied (.ref sl) (pure (n:Int))) Q E s:=by
 obtain ⟨os,hos,hcs,hds⟩:=id hs
 unfold Builtin.Slice.sliceApplied Builtin.Slice.sliceFields
 refine wpAny_bind (wpAny_bind (wpAny_field hos hds (x:=vl) rfl (wpAny_bind (wpAny_field hos hds (x:=vu) rfl (wpAny_bind (wpAny_field hos hds (x:=.none) rfl (wpAny_pure ?_)))))))
 refine wpAny_bind (slicePart_none ?_)
 show wpAny _ _ (if ((1:Int) == 0)=true then _ else _) _ _ s
 rw [if_neg (by decide)]
 refine wpAny_bind (fj pl (wpAny_bind (fj pu (wpAny_bind (wpAny_pure ?_)))))
 show wpAny _ _ (match Builtin.Slice.sliceAdjust lo hi 1 (n:Int) with | (lo,hi)=>pure (lo,(1:Int),Builtin.Slice.slicePlaces lo hi 1)) _ _ s
 rw [jl lo hi n]
 show wpAny _ _ (pure (((sIx n 0 lo:Nat):Int),(1:Int),Builtin.Slice.slicePlaces ((sIx n 0 lo:Nat):Int) ((sIx n n hi:Nat):Int) 1)) _ _ s
 rw [jm]
 exact wpAny_pure h
theorem mS (xs:Array Value) (i k:Nat):((List.range k).filterMap fun (m:Nat)=>xs[((i:Int) + (m:Int) * 1).toNat]?).toArray=((xs.toList.drop i).take k).toArray:=by
 have e:(fun (m:Nat)=>xs[((i:Int) + (m:Int) * 1).toNat]?)=fun m=>xs[i + m]? := by
  funext m
  have:((i:Int) + (m:Int) * 1).toNat=i + m:=by omega
  rw [this]
 rw [e]
 have:=pick_run xs i k
 rw [List.filterMap_map] at this
 have e2:((fun x=>xs[x]?)∘fun x=>i + x)=fun m=>xs[i + m]? := rfl
 rw [e2] at this
 rw [this]
theorem getItem_tuple_cut {t sl:Addr} {items:Array Value} {vl vu:Value} {lo hi:Option Int} {Q:Value→Shared→Prop} (ht:IsTup s.heap t items) (hs:s.heap.IsSliceOf sl vl vu .none) (pl:IsPart vl lo) (pu:IsPart vu hi)
  (hw:¬ (sIx items.size 0 lo=0∧sIx items.size items.size hi=items.size))
  (h:Q (.ref s.heap.objs.size) { s with heap:=s.heap.push { cls:=.type "tuple",data:=.seq ((items.toList.drop (sIx items.size 0 lo)).take (sIx items.size items.size hi - sIx items.size 0 lo)).toArray } })
  (hsz:items.size≤sizeLine):wpAny (model prog w) A (getItem (.ref t) (.ref sl)) Q E s:=by
 have htake:sizeOk (.seq ((items.toList.drop (sIx items.size 0 lo)).take (sIx items.size items.size hi - sIx items.size 0 lo)).toArray):=by
  show ((items.toList.drop (sIx items.size 0 lo)).take (sIx items.size items.size hi - sIx items.size 0 lo)).toArray.size≤sizeLine
  rw [List.size_toArray,List.length_take,List.length_drop,Array.length_toList]
  omega
 have hj:sIx items.size items.size hi≤items.size:=rg _ _ (Nat.le_refl _) hi
 obtain ⟨os,hos,hcs,hds⟩:=id hs
 have hTs:s.TypeIs (.ref sl) "slice" := ⟨os,hos,hcs⟩
 unfold getItem
 try with_reducible refine wpAny_holding ?_
 first | refine wpAny_bind (wpAny_pure ?_) | skip
 refine wpAny_bind (wpAny_sequenceKey ht.typeIs (by decide) ?_)
 refine wpAny_bind (wpAny_callSpecial?_slot (name:=Str.ofString "__getitem__") ht.typeIs PyProof.Rows.slot_tuple_getitem
  (wpAny_call_entry PyProof.Rows.slot_tuple_getitem ht.typeIs entry_tuple_getitem ?_ (args_tuple_getitem _ _)))
 show wpAny _ _ (Builtin.Tuple.tupleItemsOf (.ref t) >>= _) _ _ s
 refine wpAny_bind (tupleItemsOf_ ht ?_)
 refine wpAny_bind (wpAny_typeOf hTs ?_)
 rw [if_pos (by decide)]
 refine wpAny_bind (eG hs pl pu ?_)
 have hno:¬ ((((sIx items.size 0 lo:Nat):Int) == 0 && (1:Int) == 1 && (sIx items.size items.size hi - sIx items.size 0 lo) == items.size)=true):=by
  intro q
  rw [Bool.and_eq_true,Bool.and_eq_true] at q
  have q1:((sIx items.size 0 lo:Nat):Int)=0:=eq_of_beq q.1.1
  have q2:sIx items.size items.size hi - sIx items.size 0 lo=items.size:=eq_of_beq q.2
  exact hw ⟨by omega,by omega⟩
 show wpAny _ _ (if (((sIx items.size 0 lo:Nat):Int) == 0 && (1:Int) == 1 && (sIx items.size items.size hi - sIx items.size 0 lo) == items.size)=true then _ else _) _ _ s
 rw [if_neg hno,mS]
 first
  | exact wpAny_bind (m:=Builtin.Tuple.tupleExact _) (wpAny_newObj_type (wpAny_pure ⟨_,rfl,wpAny_pure h⟩) htake)
  | exact wpAny_bind (m:=Builtin.Tuple.tupleExact _) (wpAny_newObj_type (wpAny_bind (wpAny_pure (wpAny_pure ⟨_,rfl,wpAny_pure h⟩))) htake)
  | exact wpAny_bind (wpAny_bind (m:=Builtin.Tuple.tupleExact _) (wpAny_newObj_type (wpAny_pure (wpAny_pure ⟨_,rfl,wpAny_pure h⟩)) htake))
  | exact wpAny_bind (wpAny_bind (m:=Builtin.Tuple.tupleExact _) (wpAny_newObj_type (wpAny_pure ⟨_,rfl,wpAny_pure h⟩) htake))
end
end HT
namespace L2
open PySem PySem.Spec PyProof.Rows
abbrev TO:=St→Hp→(Option Int→Hp→Prop)→Prop
def PO (X:Cx) (e:Option Expr) (t:TO):Prop :=
 ∀ (pins:List (Addr×Obj)) (s:Shared) (σ:St) (H:Hp) (Q:Option Int→Hp→Prop),Inv X pins σ H s→t σ H Q →
  wpAny (model X.prog X.w) X.A (evalPart e X.env) (fun u s'=>∃o H',Inv X pins σ H' s'∧IsPart u o∧Q o H') X.xe s
def pe:TO:=fun _ H Q=>Q none H
def uN (t:TE):TO:=fun σ H Q=>t σ H fun x H1=>∃i,x=.int i∧Q (some i) H1
section
variable {X:Cx} {e:Expr} {te:TE} {lo hi:Option Expr} {tl th:TO} {pos p2:Pos}
theorem gF:PO X none pe:=by
 intro pins s σ H Q I h
 rw [evalPart_none]
 exact wpAny_pure ⟨none,H,I,.none,h⟩
theorem dC (h:PE X e te):PO X (some e) (uN te):=by
 intro pins s σ H Q I hw
 rw [evalPart_some]
 refine thn (h pins s σ H _ I hw) fun u s1 ⟨x,H1,I1,r1,q1⟩=>?_
 obtain ⟨i,rfl,q⟩:=q1
 obtain ⟨t,rfl⟩:=r1
 exact ⟨some i,H1,I1,.int i t,q⟩
def SlR (X:Cx) (r:V→Option Int→Option Int→Hp→VK→Prop):Prop :=
 ∀ (pins:List (Addr×Obj)) (s:Shared) (σ:St) (H:Hp) (x:V) (v vl vu:Value) (lo hi:Option Int) (sl:Addr) (Q:VK),Inv X pins σ H s→RelV x v→s.heap.IsSliceOf sl vl vu .none→IsPart vl lo→IsPart vu hi→r x lo hi H Q →
  ∃T id,typeLookup (.type T) "__getitem__" = pure (some (.builtin id))∧s.TypeIs v T∧wpAny (model X.prog X.w) X.A (getItem v (.ref sl)) (EP X pins σ Q) X.xe s
def tSl (r:V→Option Int→Option Int→Hp→VK→Prop) (te:TE) (tl th:TO):TE:=fun σ H Q=>te σ H fun x H1=>tl σ H1 fun l H2=>th σ H2 fun u H3=>r x l u H3 Q
theorem dD {r:V→Option Int→Option Int→Hp→VK→Prop} (hr:SlR X r) (he:PE X e te) (hl:PO X lo tl) (hu:PO X hi th):PE X (.Subscript e (.Slice lo hi none p2) pos) (tSl r te tl th):=by
 intro pins s σ H Q I h
 refine Subscript_ (thn (he pins s σ H _ I h) fun v s1 ⟨x,H1,I1,r1,q1⟩=>?_)
 refine wpAny_Slice (thn (hl pins s1 σ H1 _ I1 q1) fun vl s2 ⟨l,H2,I2,pl,q2⟩=>thn (hu pins s2 σ H2 _ I2 q2) fun vu s3 ⟨u,H3,I3,pu,q3⟩=>?_)
 rw [evalPart_none]
 refine wpAny_pure ?_
 have I4:Inv X pins σ H3 { s3 with heap:=s3.heap.push { cls:=.type "slice", data:=.fields #[vl, vu, .none] } }:=I3.kept (t':=s3.toks) fun b ob q=>Heap.get?_push_of_some _ q
 obtain ⟨T,id,hT,ht,hg⟩:=hr pins { s3 with heap:=s3.heap.push { cls:=.type "slice",data:=.fields #[vl,vu,.none] } } σ H3 x v vl vu l u s3.heap.objs.size Q I4 r1 (Heap.IsSliceOf.new ..) pl pu q3
 show wpAny (model X.prog X.w) X.A (subscriptTail e (.Slice lo hi none p2) v (.ref s3.heap.objs.size)) (EP X pins σ Q) X.xe { s3 with heap:=s3.heap.push { cls:=.type "slice",data:=.fields #[vl,vu,.none] } }
 exact tail_any (ops:=[.ref s3.heap.objs.size,v]) ht hT hg (by with_unfolding_all rfl)
def cz (xs:List V) (lo hi:Option Int):List V:=(xs.drop (HT.sIx xs.length 0 lo)).take (HT.sIx xs.length xs.length hi - HT.sIx xs.length 0 lo)
theorem eQ (xs:List V) (lo hi:Option Int):(cz xs lo hi).length≤xs.length:=by
 unfold cz
 rw [List.length_take,List.length_drop]
 omega
def AV (K:PySem.W.Frag):V→Option Int→Option Int→Hp→VK→Prop:=fun x lo hi H Q=>∃a xs,x=.ref a∧SqT K H a xs ∧
 ¬ (HT.sIx xs.length 0 lo=0∧HT.sIx xs.length xs.length hi=xs.length)∧∀p,H p=none→Q (.ref p) (upd H p (.tup (cz xs lo hi)))
theorem mT:SlR X (AV X.K):=by
 intro pins s σ H x v vl vu lo hi sl Q I rx hs pl pu h
 obtain ⟨a,xs,rfl,hx,hw,q⟩:=h
 cases rx
 obtain ⟨its,r,ht,hz⟩:=I.tuple hx
 have hlen:its.toArray.size=xs.length:=by rw [List.size_toArray]; exact r.length.symm
 refine ⟨"tuple",_,PyProof.Rows.slot_tuple_getitem.lookup,ht.typeIs,?_⟩
 refine HT.getItem_tuple_cut ht hs pl pu (by rw [hlen]; exact hw) ?_ (by rw [hlen]; exact hz)
 rw [hlen]
 refine ⟨.ref s.heap.objs.size,_,I.laid (t':=s.toks) (o:=.tup (cz xs lo hi)) (fun b ob q=>Heap.get?_push_of_some _ q) (Nat.le_refl _) ?_,rfl,q _ (I.hok.fresh (Nat.le_refl _))⟩
 exact ⟨Nat.le_trans (eQ xs lo hi) hz,_,(r.drop (HT.sIx xs.length 0 lo)).take (HT.sIx xs.length xs.length hi - HT.sIx xs.length 0 lo),IsTup.new _ _⟩
def uO (K:PySem.W.Frag):R2:=fun x y H Q=>∃a b xs ys,x=.ref a∧y=.ref b∧SqT K H a xs∧SqT K H b ys∧xs≠[]∧xs.length + ys.length≤sizeLine ∧
 (ys=[]→Q (.ref a) H)∧(ys≠[]→∀p,H p=none→Q (.ref p) (upd H p (.tup (xs ++ ys))))
theorem Vals.nil_iff {xs:List V} {us:List Value} (r:Vals xs us):us=[]↔xs=[]:=by
 cases r with
 | nil=>simp
 | cons _ _=>simp
theorem ph:OpR X (binaryOp .Add) (uO X.K):=by
 intro pins s σ H x y v u Q I rx ry h
 obtain ⟨a,b,xs,ys,rfl,rfl,ha,hb,hx,hz,q1,q2⟩:=h
 cases rx
 cases ry
 obtain ⟨its,r1,p1,_⟩:=I.tuple ha
 obtain ⟨its2,r2,p2,_⟩:=I.tuple hb
 refine HT.cat_tup p1 p2 (fun z=>hx (r1.nil_iff.mp z)) (fun z=>⟨.ref a,H,I,rfl,q1 (r2.nil_iff.mp z)⟩) (fun z=>?_) (by rw [← r1.length,← r2.length]; exact hz)
 refine ⟨.ref s.heap.objs.size,_,I.laid (t':=s.toks) (o:=.tup (xs ++ ys)) (fun b ob q=>Heap.get?_push_of_some _ q) (Nat.le_refl _) ?_,rfl,q2 (fun w=>z (r2.nil_iff.mpr w)) _ (I.hok.fresh (Nat.le_refl _))⟩
 exact ⟨by rw [List.length_append]; exact hz,_,r1.append r2,IsTup.new _ _⟩
end
end L2
namespace L2
open PySem PySem.Spec PyProof.Rows
def ixN (n:Nat) (i:Int):Option Nat:=if 0≤i then (if i < n then some i.toNat else none) else if -(n:Int)≤i then some (i + n).toNat else none
def atI {α:Type} (xs:List α) (i:Int):Option α:=(ixN xs.length i).bind fun j=>xs[j]?
theorem km {n:Nat} {i:Int} {j:Nat} (h:ixN n i=some j):seqIndex? i n=some j∧j < n∧-(n:Int)≤i∧i < n:=by
 unfold ixN at h
 by_cases h0:0≤i
 ·rw [if_pos h0] at h
  by_cases h1:i < n
  ·rw [if_pos h1] at h
   have e:i.toNat=j:=Option.some.inj h
   exact ⟨by rw [seqIndex_of h0 h1,e],by omega,by omega,h1⟩
  ·rw [if_neg h1] at h; cases h
 ·rw [if_neg h0] at h
  by_cases h1:-(n:Int)≤i
  ·rw [if_pos h1] at h
   have e:(i + n).toNat=j:=Option.some.inj h
   exact ⟨by rw [seqIndex_neg (by omega) h1,e],by omega,h1,by omega⟩
  ·rw [if_neg h1] at h; cases h
theorem gG {α:Type} {xs:List α} {i:Int} {v:α} (h:atI xs i=some v):∃j,seqIndex? i xs.length=some j∧xs[j]? = some v∧j < xs.length∧-(xs.length:Int)≤i∧i < xs.length:=by
 unfold atI at h
 cases e:ixN xs.length i with
 | none=>rw [e] at h; cases h
 | some j =>
  rw [e] at h
  obtain ⟨h1,h2,h3,h4⟩:=km e
  exact ⟨j,h1,h,h2,h3,h4⟩
theorem pi {α:Type} {xs:List α} {j:Nat} {v:α} (h:xs[j]? = some v):atI xs (j:Int)=some v:=by
 have hj:j < xs.length:=(List.getElem?_eq_some_iff.mp h).1
 have e:ixN xs.length (j:Int)=some j:=by
  unfold ixN
  rw [if_pos (by omega),if_pos (by omega)]; simp
 unfold atI; rw [e]; exact h
def pj (b:Expr):Prop:=∀o i,subscripted b false o i=operate [o,i] (getItem o i)
def IxR (X:Cx) (r:R2):Prop :=
 ∀ (value slice:Expr) (pins:List (Addr×Obj)) (s:Shared) (σ:St) (H:Hp) (x y:V) (v u:Value) (Q:VK),Inv X pins σ H s→RelV x v→RelV y u→r x y H Q →
  subscripted slice false v u=operate [v,u] (getItem v u)→wpAny (model X.prog X.w) X.A (subscriptTail value slice v u) (EP X pins σ Q) X.xe s
def MtR (X:Cx) (id:String) (r:V→List V→Hp→VK→Prop):Prop :=
 ∀ (pins:List (Addr×Obj)) (s:Shared) (σ:St) (H:Hp) (x:V) (xs:List V) (v:Value) (us:List Value) (Q:VK),Inv X pins σ H s→RelV x v→Vals xs us→r x xs H Q →
  wpAny (model X.prog X.w) X.A (call (.builtin id) (v :: us)) (EP X pins σ Q) X.xe s
section
variable {X:Cx} {a b:Expr} {ta tb:TE} {pos:Pos}
theorem IxR.or {r r':R2} (h:IxR X r) (h':IxR X r'):IxR X (fun x y H Q=>r x y H Q∨r' x y H Q):=by
 intro value slice pins s σ H x y v u Q I rx ry q hs
 rcases q with q | q
 ·exact h value slice pins s σ H x y v u Q I rx ry q hs
 ·exact h' value slice pins s σ H x y v u Q I rx ry q hs
theorem au {r:R2} (hr:IxR X r) (ha:PE X a ta) (hb:PE X b tb) (hs:pj b):PE X (.Subscript a b pos) (tOp r ta tb):=by
 intro pins s σ H Q I h
 exact Subscript_ (rc ha hb I h fun v u s2 x y H2 I2 rx ry q=>hr a b pins s2 σ H2 x y v u Q I2 rx ry q (hs _ _))
def uP (K:PySem.W.Frag):R2:=fun x y H Q=>∃p xs i v,x=.ref p∧y=.int i∧SqL K H p xs∧atI xs i=some v∧Q v H
def jn (K:PySem.W.Frag):R2:=fun x y H Q=>∃p xs i v,x=.ref p∧y=.int i∧SqT K H p xs∧atI xs i=some v∧Q v H
def uQ:R2:=fun x y H Q=>∃z i c,x=.str z∧y=.int i∧z.length≤sizeLine∧atI z.cps.toList i=some c∧Q (.str ⟨#[c]⟩) H
theorem ix_list:IxR X (uP X.K):=by
 intro value slice pins s σ H x y v u Q I rx ry h hs
 obtain ⟨p,xs,i,z,rfl,rfl,hq,he,q⟩:=h
 cases rx
 obtain ⟨t,rfl⟩:=ry
 obtain ⟨its,r,pl,hz⟩:=I.list hq
 obtain ⟨j,h1,h2,h3,h4,h5⟩:=gG he
 obtain ⟨w,ew,rw'⟩:=r.get h2
 have hl:=r.length
 have hn:=eC
 have fin:EP X pins σ Q w s:=⟨z,H,I,rw',q⟩
 by_cases h0:0≤i
 ·have hj:i.toNat=j:=by
   rw [seqIndex_of h0 h5] at h1
   exact Option.some.inj h1
  exact item_listR pl.isList h0 (by omega) (by rw [hj]; simpa using ew) fin hs
 ·have hj:(i + (its.toArray.size:Int)).toNat=j:=by
   rw [seqIndex_neg (by omega) h4] at h1
   rw [List.size_toArray,← hl]
   exact Option.some.inj h1
  exact subscriptTail_builtinR (x:=w) pl.isList.typeIs slot_list_getitem.lookup
   (wpAny_getItem_list_neg (Q:=fun r s'=>r=w∧EP X pins σ Q r s') pl.isList (by omega) (by rw [List.size_toArray] <;> omega) (by omega) (by rw [hj]; simpa using ew) ⟨rfl,fin⟩) hs
theorem ix_tup:IxR X (jn X.K):=by
 intro value slice pins s σ H x y v u Q I rx ry h hs
 obtain ⟨p,xs,i,z,rfl,rfl,hq,he,q⟩:=h
 cases rx
 obtain ⟨t,rfl⟩:=ry
 obtain ⟨its,r,pl,hz⟩:=I.tuple hq
 obtain ⟨j,h1,h2,h3,h4,h5⟩:=gG he
 obtain ⟨w,ew,rw'⟩:=r.get h2
 have hl:=r.length
 have hn:=eC
 have fin:EP X pins σ Q w s:=⟨z,H,I,rw',q⟩
 exact subscriptTail_builtinR (x:=w) pl.typeIs slot_tuple_getitem.lookup
  (getItem_tuple (j:=j) (Q:=fun r s'=>r=w∧EP X pins σ Q r s') pl (by omega) (by omega) (by rw [List.size_toArray,← hl]; exact h1) (by simpa using ew) ⟨rfl,fin⟩) hs
theorem rh:IxR X uQ:=by
 intro value slice pins s σ H x y v u Q I rx ry h hs
 obtain ⟨z,i,c,rfl,rfl,hz,he,q⟩:=h
 obtain ⟨t,rfl⟩:=rx
 obtain ⟨t',rfl⟩:=ry
 obtain ⟨j,h1,h2,h3,h4,h5⟩:=gG he
 have hl:z.cps.toList.length=z.length:=by simp [Str.length]
 rw [hl] at h1 h4 h5
 have hn:=eC
 exact tail_any (typeIs_str s z t) slot_str_getitem.lookup (getItem_str (c:=c) (by
  have e1:decide (i < -(2 ^ 63:Int))=false:=decide_eq_false (by omega)
  have e2:decide (i≥2 ^ 63)=false:=decide_eq_false (by omega)
  rw [e1,e2,Bool.or_false]) (by rw [h1]; simpa using h2) ⟨.str ⟨#[c]⟩,H,I.tok _,⟨_,rfl⟩,q⟩) hs
def rIx (K:PySem.W.Frag):R2:=fun x y H Q=>uP K x y H Q∨jn K x y H Q∨uQ x y H Q
theorem gH:IxR X (rIx X.K):=ix_list.or (ix_tup.or rh)
theorem jo (its:List Value) (n j:Nat) (u:Value):Obj.mapSeq (·.setIfInBounds j u) { cls:=.type "list",data:=.seq its.toArray n }={ cls:=.type "list",data:=.seq (its.set j u).toArray n }:=by
 simp [Obj.mapSeq]
theorem Inv.lst {pins:List (Addr×Obj)} {σ:St} {H:Hp} {s:Shared} {p:Addr} {xs:List V} (I:Inv X pins σ H s) (h:H p=some (.lst xs)) :
  ∃ (its:List Value) (n:Nat),Vals xs its∧s.heap.get? p=some { cls:=.type "list",data:=.seq its.toArray n }∧xs.length≤sizeLine:=by
 obtain ⟨z,its,n,r,e⟩:=I.hok p _ h
 exact ⟨its,n,r,e,z⟩
theorem Inv.lstUpd {pins:List (Addr×Obj)} {σ:St} {H:Hp} {s:Shared} {p:Addr} {xs ys:List V} {its its':List Value} {n n':Nat} {f:Obj→Obj} (I:Inv X pins σ H s) (h:H p=some (.lst xs))
  (ho:s.heap.get? p=some { cls:=.type "list", data:=.seq its.toArray n }) (hf:f { cls:=.type "list", data:=.seq its.toArray n }={ cls:=.type "list", data:=.seq its'.toArray n' }) (r:Vals ys its') (hz:ys.length≤sizeLine) (t:Nat) :
  Inv X pins σ (upd H p (.lst ys)) { s with heap:=s.heap.update p f,toks:=t }:=by
 have e:(s.heap.update p f).get? p=some { cls:=.type "list", data:=.seq its'.toArray n' }:=by
  rw [Heap.get?_update_self f ho (by rw [hf] <;> rfl),hf]
 refine I.write (x:=p) (e:=p) (by rw [h]; trivial) (.inl rfl) (fun b u hb q=>(Heap.get?_update_other _ _ (Ne.symm hb)).trans q) ⟨_,e⟩ ?_
 exact ⟨hz,its',n',r,e⟩
def uR:V→V→V→Hp→(Hp→Prop)→Prop:=fun o i v H Q=>∃p xs k j,o=.ref p∧i=.int k∧H p=some (.lst xs)∧ixN xs.length k=some j∧Q (upd H p (.lst (xs.set j v)))
theorem dE:uB X uR:=by
 intro pins s σ H o i v ov iv u Q I ro ri rv h
 obtain ⟨p,xs,k,j,rfl,rfl,hp,hj,q⟩:=h
 cases ro
 obtain ⟨t,rfl⟩:=ri
 obtain ⟨its,n,r,ho,hz⟩:=I.lst hp
 obtain ⟨h1,h2,h3,h4⟩:=km hj
 have hl:=r.length
 have hn:=eC
 have I':Inv X pins σ (upd H p (.lst (xs.set j v))) { s with heap:=s.heap.update p (Obj.mapSeq (·.setIfInBounds j u)) } :=
  I.lstUpd hp ho (jo its n j u) (r.set rv j) (by rw [List.length_set]; exact hz) s.toks
 by_cases h0:0≤k
 ·have hk:k.toNat=j:=by
   rw [seqIndex_of h0 h4] at h1
   exact Option.some.inj h1
  exact PySem.W.ki_setAt ho h0 (by omega) (by rw [List.size_toArray,← hl]; exact h4) (by rw [hk]; exact ⟨_,I',q⟩)
 ·have hk:(k + (its.toArray.size:Int)).toNat=j:=by
   rw [seqIndex_neg (by omega) h3] at h1
   rw [List.size_toArray,← hl]
   exact Option.some.inj h1
  exact PySem.W.ki_setBack ho (by omega) (by rw [List.size_toArray,← hl]; exact h3) (by omega) (by rw [hk]; exact ⟨_,I',q⟩)
theorem gI (lo hi:Option Int) (n:Nat):(sliceBounds lo hi none n).1=((HT.sIx n 0 lo:Nat):Int)∧(sliceBounds lo hi none n).2.1=((HT.sIx n n hi:Nat):Int)∧(sliceBounds lo hi none n).2.2=1:=by
 refine ⟨?_,?_,rfl⟩
 ·cases lo with
  | none=>simp [sliceBounds,HT.sIx]
  | some i =>
   simp only [sliceBounds,HT.sIx,Option.getD_none,show (1:Int) > 0 by decide,if_true]
   by_cases h:i < 0
   ·simp only [h,if_true] <;> omega
   ·simp only [h,if_false] <;> omega
 ·cases hi with
  | none=>simp [sliceBounds,HT.sIx]
  | some i =>
   simp only [sliceBounds,HT.sIx,Option.getD_none,show (1:Int) > 0 by decide,if_true]
   by_cases h:i < 0
   ·simp only [h,if_true] <;> omega
   ·simp only [h,if_false] <;> omega
theorem fU (its:List Value) (lo hi:Option Int):slicePick its.toArray lo hi none=((its.drop (HT.sIx its.length 0 lo)).take (HT.sIx its.length its.length hi - HT.sIx its.length 0 lo)).toArray:=by
 obtain ⟨h1,h2,h3⟩:=gI lo hi its.toArray.size
 unfold slicePick
 rw [h1,h2,h3]
 simp only [sliceRange_one,pick_run,List.size_toArray] <;> rfl
def AW (K:PySem.W.Frag):V→Option Int→Option Int→Hp→VK→Prop:=fun x lo hi H Q=>∃a xs,x=.ref a∧SqL K H a xs∧∀p,H p=none→Q (.ref p) (upd H p (.lst (cz xs lo hi)))
theorem kn:SlR X (AW X.K):=by
 intro pins s σ H x v vl vu lo hi sl Q I rx hs pl pu h
 obtain ⟨a,xs,rfl,hx,q⟩:=h
 cases rx
 obtain ⟨its,r,ht,hz⟩:=I.list hx
 have hlen:=r.length
 refine ⟨"list",_,slot_list_getitem.lookup,ht.isList.typeIs,?_⟩
 refine wpAny_getItem_list_slice ht.isList hs pl pu .none (by simp) ?_ (by rw [List.size_toArray] <;> omega)
 rw [fU,← hlen]
 refine ⟨.ref s.heap.objs.size,_,I.laid (t':=s.toks) (o:=.lst (cz xs lo hi)) (fun b ob q=>Heap.get?_push_of_some _ q) (Nat.le_refl _) ?_,rfl,q _ (I.hok.fresh (Nat.le_refl _))⟩
 exact ⟨Nat.le_trans (eQ xs lo hi) hz,_,0,(r.drop (HT.sIx xs.length 0 lo)).take (HT.sIx xs.length xs.length hi - HT.sIx xs.length 0 lo),Heap.get?_push_size _ rfl⟩
def eR:V→Bool
 | .non=>true
 | .bl _=>true
 | .int _=>true
 | .str _=>true
 | _=>false
def eqV:V→V→Bool
 | .non,.non=>true
 | .bl a,.bl b=>a == b
 | .bl a,.int b=>(if a then 1 else 0) == b
 | .int a,.bl b=>a == (if b then 1 else 0)
 | .int a,.int b=>a == b
 | .str a,.str b=>a == b
 | _,_=>false
theorem rj {A:Around} {s:Shared} {y x:V} {u v:Value} (ry:RelV y u) (rx:RelV x v) (fy:eR y=true) (fx:eR x=true):SeqAt.EqAt A s u v (eqV y x):=by
 cases y with
 | non =>
  cases ry
  cases x with
  | non=>cases rx; exact SeqAt.EqAt.same _
  | bl b=>cases rx; exact SeqAt.EqAt.none_bool b
  | int b=>obtain ⟨t,rfl⟩:=rx; exact SeqAt.EqAt.none_int b t
  | str b=>obtain ⟨t,rfl⟩:=rx; exact SeqAt.EqAt.none_str b t
  | _=>exact absurd (show false=true from fx) Bool.false_ne_true
 | bl a =>
  cases ry
  cases x with
  | non=>cases rx; exact SeqAt.EqAt.bool_none a
  | bl b=>cases rx; exact SeqAt.EqAt.bool_bool a b
  | int b=>obtain ⟨t,rfl⟩:=rx; exact SeqAt.EqAt.bool_int a b t
  | str b=>obtain ⟨t,rfl⟩:=rx; exact SeqAt.EqAt.bool_str a b t
  | _=>exact absurd (show false=true from fx) Bool.false_ne_true
 | int a =>
  obtain ⟨t',rfl⟩:=ry
  cases x with
  | non=>cases rx; exact SeqAt.EqAt.int_none a t'
  | bl b=>cases rx; exact SeqAt.EqAt.int_bool a t' b
  | int b=>obtain ⟨t,rfl⟩:=rx; exact SeqAt.EqAt.int_int a t' b t
  | str b=>obtain ⟨t,rfl⟩:=rx; exact SeqAt.EqAt.int_str a t' b t
  | _=>exact absurd (show false=true from fx) Bool.false_ne_true
 | str a =>
  obtain ⟨t',rfl⟩:=ry
  cases x with
  | non=>cases rx; exact SeqAt.EqAt.str_none a t'
  | bl b=>cases rx; exact SeqAt.EqAt.str_bool a t' b
  | int b=>obtain ⟨t,rfl⟩:=rx; exact SeqAt.EqAt.str_int a t' b t
  | str b=>obtain ⟨t,rfl⟩:=rx; exact SeqAt.EqAt.str_str a t' b t
  | _=>exact absurd (show false=true from fx) Bool.false_ne_true
 | _=>exact absurd (show false=true from fy) Bool.false_ne_true
def eqU (x:V) (u:Value):Bool:=match u with
 | .none=>eqV .non x
 | .bool b=>eqV (.bl b) x
 | .int i _=>eqV (.int i) x
 | .str z _=>eqV (.str z) x
 | _=>false
theorem mU {x y:V} {u:Value} (r:RelV y u) (f:eR y=true):eqU x u=eqV y x:=by
 cases y with
 | non=>cases r; rfl
 | bl b=>cases r; rfl
 | int i=>obtain ⟨t,rfl⟩:=r; rfl
 | str z=>obtain ⟨t,rfl⟩:=r; rfl
 | _=>exact absurd (show false=true from f) Bool.false_ne_true
theorem gJ {x:V}:∀ {xs:List V} {us:List Value},Vals xs us→xs.all eR=true→us.any (eqU x)=xs.any fun y=>eqV y x
 | _,_,.nil,_=>rfl
 | y :: xs,u :: us,.cons r t,f=>by
  rw [List.all_cons,Bool.and_eq_true] at f
  rw [List.any_cons,List.any_cons,mU r f.1,gJ t f.2]
theorem fk {A:Around} {s:Shared} {x:V} {v:Value} (rx:RelV x v) (fx:eR x=true):∀ {xs:List V} {us:List Value},Vals xs us→xs.all eR=true→∀u∈us,SeqAt.EqAt A s u v (eqU x u)
 | _,_,.nil,_=>fun u hu=>by cases hu
 | y :: xs,u :: us,.cons r t,f=>fun u' hu=>by
  rw [List.all_cons,Bool.and_eq_true] at f
  rcases List.mem_cons.mp hu with rfl | hu
  ·rw [mU r f.1]; exact rj r rx f.1 fx
  ·exact fk rx fx t f.2 u' hu
def inV (x:V) (xs:List V):Bool:=xs.any fun y=>eqV y x
def rIn (K:PySem.W.Frag) (neg:Bool):R2:=fun x y H Q=>∃p xs,y=.ref p∧(SqL K H p xs∨SqT K H p xs)∧eR x=true∧xs.all eR=true∧Q (.bl (if neg then !inV x xs else inV x xs)) H
theorem gK:OpR X (compareOp .NotIn) (rIn X.K true):=by
 intro pins s σ H x y v u Q I rx ry h
 obtain ⟨p,xs,rfl,hq,fx,fs,q⟩:=h
 cases ry
 rcases hq with hq | hq
 ·obtain ⟨its,r,pl,hz⟩:=I.list hq
  refine SeqAt.notIn_listAt (eqU x) pl.isList (fun w hw=>fk rx fx r fs w (by simpa using hw)) ⟨.bl _,H,I,rfl,?_⟩
  rw [show its.toArray.any (eqU x)=its.any (eqU x) by simp,gJ r fs]
  exact q
 ·obtain ⟨its,r,pl,hz⟩:=I.tuple hq
  refine SeqAt.notIn_tupleAt (eqU x) pl (fun w hw=>fk rx fx r fs w (by simpa using hw)) ⟨.bl _,H,I,rfl,?_⟩
  rw [show its.toArray.any (eqU x)=its.any (eqU x) by simp,gJ r fs]
  exact q
theorem aK:cq X (.builtin "len") (fun xs H Q=>∃p ys,xs=[.ref p]∧(SqL X.K H p ys∨SqT X.K H p ys)∧Q (.int ys.length) H):=by
 intro pins s σ H xs us Q I r h
 obtain ⟨p,ys,rfl,hq,q⟩:=h
 obtain ⟨u,rfl,rx⟩:=dA r
 cases rx
 have hn:=eC
 rcases hq with hq | hq
 ·obtain ⟨its,r',pl,hz⟩:=I.list hq
  have hlen:=r'.length
  exact Calls.call_len_list pl.isList (by simp only [List.size_toArray] <;> omega) ⟨.int ys.length,H,I.tok _,⟨s.toks + 1,by rw [List.size_toArray,hlen]⟩,q⟩
 ·obtain ⟨its,r',pl,hz⟩:=I.tuple hq
  have hlen:=r'.length
  exact len_tuple pl (by simp only [List.size_toArray] <;> omega) ⟨.int ys.length,H,I.tok _,⟨s.toks + 1,by rw [List.size_toArray,hlen]⟩,q⟩
theorem dF:cq X (.type "list") (fun xs H Q=>∃p ys,xs=[.ref p]∧(SqL X.K H p ys∨SqT X.K H p ys)∧∀l,H l=none→Q (.ref l) (upd H l (.lst ys))):=by
 intro pins s σ H xs us Q I r h
 obtain ⟨p,ys,rfl,hq,q⟩:=h
 obtain ⟨u,rfl,rx⟩:=dA r
 cases rx
 have fin:∀ (its:List Value),Vals ys its→ys.length≤sizeLine→∀ (h':Heap) (c':Nat),(∀b o',s.heap.get? b=some o'→h'.get? b=some o') →
   h'.get? s.heap.objs.size=some { cls:=.type "list", dict:=none, data:=.seq its.toArray c', slots:=#[] }→EP X pins σ Q (.ref s.heap.objs.size) { s with heap:=h' }:=fun its r' hz h' c' kp e =>
  ⟨.ref s.heap.objs.size,_,I.laid (t':=s.toks) kp (Nat.le_refl _) (show ObjOk X.prog X.w _ h' _ (.lst ys) from ⟨hz,its,c',r',e⟩),rfl,q _ (I.hok.fresh (Nat.le_refl _))⟩
 rcases hq with hq | hq
 ·obtain ⟨its,r',pl,hz⟩:=I.list hq
  have hlen:=r'.length
  obtain ⟨o,ho,hc,n,hd⟩:=pl.isList
  exact call_list_seq p (.inl rfl) ho hc hd (fun h' c' kp e=>fin its r' hz h' c' kp e) (by simp only [List.size_toArray] <;> omega)
 ·obtain ⟨its,r',pl,hz⟩:=I.tuple hq
  have hlen:=r'.length
  obtain ⟨o,ho,hc,n,hd⟩:=pl
  exact call_list_seq p (.inr rfl) ho hc hd (fun h' c' kp e=>fin its r' hz h' c' kp e) (by simp only [List.size_toArray] <;> omega)
theorem bJ:cq X (.type "tuple") (fun xs H Q=>∃p ys,xs=[.ref p]∧((SqL X.K H p ys∧∀l,H l=none→Q (.ref l) (upd H l (.tup ys)))∨(SqT X.K H p ys∧Q (.ref p) H))):=by
 intro pins s σ H xs us Q I r h
 obtain ⟨p,ys,rfl,h⟩:=h
 obtain ⟨u,rfl,rx⟩:=dA r
 cases rx
 rcases h with ⟨hq,q⟩ | ⟨hq,q⟩
 ·obtain ⟨its,r',pl,hz⟩:=I.list hq
  have hlen:=r'.length
  refine call_tuple_list pl.isList (fun h' kp=>?_) (by simp only [List.size_toArray] <;> omega)
  have I1:Inv X pins σ H { s with heap:=h' }:=I.kept (t':=s.toks) kp
  have I2:Inv X pins σ (upd H h'.objs.size (.tup ys)) { s with heap:=h'.push { cls:=.type "tuple", data:=.seq its.toArray } } :=
   I1.laid (t':=s.toks) (fun b o e=>Heap.get?_push_of_some _ e) (Nat.le_refl _) (show ObjOk X.prog X.w _ _ _ (.tup ys) from ⟨hz,its,r',IsTup.new _ _⟩)
  exact ⟨.ref h'.objs.size,_,I2,rfl,q _ (I1.hok.fresh (Nat.le_refl _))⟩
 ·obtain ⟨its,r',pl,hz⟩:=I.tuple hq
  exact call_tuple_same pl ⟨.ref p,H,I,rfl,q⟩
def tyV (K:PySem.W.Frag) (T:String) (x:V) (H:Hp):Prop:=match x with
 | .str _=>T = "str"
 | .int _=>T = "int"
 | .ref p=>(T = "list" ∧ ∃xs,SqL K H p xs)∨(T = "tuple" ∧ ∃o,K.lookup p=some o∧o.cls=.type "tuple" ∧ o.dict=none) ∨
   (T = "dict" ∧ ((∃kvs,H p=some (.dK kvs))∨∃kvs,H p=some (.dT kvs)))∨(T = "set" ∧ ∃S n,H p=some (.set S n))
 | _=>False
theorem mV {pins:List (Addr×Obj)} {σ:St} {H:Hp} {s:Shared} {T:String} {x:V} {v:Value} (I:Inv X pins σ H s) (r:RelV x v) (ty:tyV X.K T x H) :
  s.TypeIs v T∧∀a,v=.ref a→∃ob,s.heap.get? a=some ob∧ob.dict=none:=by
 cases x with
 | str z =>
  obtain ⟨t,rfl⟩:=r
  cases (show T = "str" from ty)
  exact ⟨typeIs_str s z t,fun _ e=>nomatch e⟩
 | int i =>
  obtain ⟨t,rfl⟩:=r
  cases (show T = "int" from ty)
  exact ⟨typeIs_int s i t,fun _ e=>nomatch e⟩
 | ref p =>
  cases r
  rcases ty with ⟨rfl,xs,hq⟩ | ⟨rfl,o,hk,hc,hd⟩ | ⟨rfl,hk⟩ | ⟨rfl,S,n,hk⟩
  ·obtain ⟨its,_,pl,_⟩:=I.list hq
   refine ⟨pl.isList.typeIs,fun a e=>?_⟩
   cases e
   obtain ⟨o,n,e,c,hd,_⟩:=pl
   exact ⟨o,e,hd⟩
  ·refine ⟨⟨o,I.kIn p o hk,hc⟩,fun a e=>?_⟩
   cases e
   exact ⟨o,I.kIn _ o hk,hd⟩
  ·have z:∃o,s.heap.get? p=some o∧o.ExactDict:=by
    rcases hk with ⟨kvs,hk⟩ | ⟨kvs,hk⟩
    ·obtain ⟨_,_,_,_,o,_,_,e,ex,_⟩:=I.hok p _ hk
     exact ⟨o,e,ex⟩
    ·obtain ⟨_,_,_,_,o,_,_,e,ex,_⟩:=I.hok p _ hk
     exact ⟨o,e,ex⟩
   obtain ⟨o,e,ex⟩:=z
   refine ⟨⟨o,e,ex.1⟩,fun a e2=>?_⟩
   cases e2
   exact ⟨o,e,ex.2.1⟩
  ·obtain ⟨o,_,_,_,e,ex,_⟩:=I.hok p _ hk
   refine ⟨⟨o,e,ex.1⟩,fun a e2=>?_⟩
   cases e2
   exact ⟨o,e,ex.2.1⟩
 | _=>exact False.elim ty
def AX (K:PySem.W.Frag) (T:String) (r:V→List V→Hp→VK→Prop) (to:TE):TE:=fun σ H Q=>to σ H fun x H1=>tyV K T x H1∧r x [] H1 Q
def tBM (K:PySem.W.Frag) (T:String) (r:V→List V→Hp→VK→Prop) (to:TE) (t:TA):TE:=fun σ H Q=>to σ H fun x H1=>tyV K T x H1∧t σ H1 fun xs H2=>r x xs H2 Q
variable {o e:Expr} {es:List Expr} {to:TE} {t:TA} {name:Str} {apos cpos:Pos} {T id:String} {r:V→List V→Hp→VK→Prop}
theorem rn (pa:PlainAttrs T) (slot:Slot T name id) (hty:typeOf (.builtin id)=pure (.type "method_descriptor")) (hm:MtR X id r) (ho:PE X o to)
  (hbase:attributeBase o name X.env (eval o X.env)=eval o X.env:=by rfl) (hline:(apos.endLine == cpos.line)=true:=by rfl):PE X (.Call (.Attribute o name apos) [] [] cpos) (AX X.K T r to):=by
 intro pins s σ H Q I h
 refine wpAny_Call_method0_late hbase hline (thn (ho pins s σ H _ I h) fun v s1 ⟨x,H1,I1,r1,ty,q1⟩=>?_)
 obtain ⟨h1,h2⟩:=mV I1 r1 ty
 exact ⟨T,id,pa,slot,hty,h1,h2,Calls.callWith_builtin rfl (PySem.evalArgs_none (hm pins s1 σ H1 x [] v [] Q I1 r1 .nil q1))⟩
theorem gg (pa:PlainAttrs T) (slot:Slot T name id) (hty:typeOf (.builtin id)=pure (.type "method_descriptor")) (hm:MtR X id r) (ho:PE X o to) (ha:PA X (e :: es) t)
  (hbase:attributeBase o name X.env (eval o X.env)=eval o X.env:=by rfl)
  (hfew:((backTo cpos (starEach (e :: es) X.env)).all (fun x=>!x.1) && (backToKw cpos (keywordEach [] X.env)).all (fun x=>x.1.isSome)
   && decide ((e :: es).length + ([]:List Keyword).length + (if ([]:List Keyword).isEmpty then 0 else 1) < 30))=true:=by rfl)
  (hline:(apos.endLine == cpos.line)=true:=by rfl) (hs:starEach (e :: es) X.env=(false,eval e X.env) :: starEach es X.env:=by rfl) (hplain:(backTo cpos (starEach es X.env)).any (·.1)=false:=by rfl) :
  PE X (.Call (.Attribute o name apos) (e :: es) [] cpos) (tBM X.K T r to t):=by
 intro pins s σ H Q I h
 refine wpAny_Call_method_late hbase hfew hline rfl (thn (ho pins s σ H _ I h) fun v s1 ⟨x,H1,I1,r1,ty,q1⟩=>?_)
 obtain ⟨h1,h2⟩:=mV I1 r1 ty
 refine ⟨T,id,pa,slot,hty,h1,h2,?_⟩
 have hA:=ha cpos pins s1 σ H1 _ I1 q1
 rw [hs] at hA ⊢
 refine Calls.callWith_builtin (by show (false || (backTo cpos (starEach es X.env)).any (·.1))=false; rw [hplain] <;> rfl) (Calls.evalArgs_plain ?_)
 exact thn hA fun us s2 ⟨vs,H2,I2,r2,q2⟩=>hm pins s2 σ H2 x vs v us Q I2 r1 r2 q2
/- xs.append(e),list.index on a module's tuple .. are MtR facts of 06m -/
end
end L2
namespace L2
open PySem PySem.Spec PyProof.Rows
def MtM (X:Cx) (id:String) (r:V→List V→Hp→VK→Prop):Prop :=
 ∀ (pins:List (Addr×Obj)) (s:Shared) (σ:St) (H:Hp) (x:V) (xs:List V) (v:Value) (us:List Value) (Q:VK),Inv X pins σ H s→RelV x v→Vals xs us→r x xs H Q →
  wpAny (model X.prog X.w) X.A (call (.builtin id) (v :: us)) (EP X pins σ Q) X.xe s
theorem Vals.one:∀ {x:V} {us:List Value},Vals [x] us→∃u,us=[u]∧RelV x u
 | _,_,.cons r .nil=>⟨_,rfl,r⟩
theorem Vals.zero:∀ {us:List Value},Vals [] us→us=[]
 | _,.nil=>rfl
theorem Vals.dropLast {xs:List V} {us:List Value} (h:Vals xs us):Vals xs.dropLast us.dropLast:=by
 induction h with
 | nil=>exact .nil
 | cons r t ih =>
  cases t with
  | nil=>exact .nil
  | cons q t'=>exact .cons r ih
theorem jp {α:Type} (l:List α):l.eraseIdx (l.length - 1)=l.dropLast:=by
 induction l with
 | nil=>rfl
 | cons a r ih =>
  cases r with
  | nil=>rfl
  | cons b r =>
   have e:(a :: b :: r).length - 1=((b :: r).length - 1) + 1:=by
    have h1:(a :: b :: r).length=r.length + 2:=rfl
    have h2:(b :: r).length=r.length + 1:=rfl
    omega
   rw [e,List.eraseIdx_cons_succ,ih]
   all_goals rfl
section
variable {X:Cx} {pins:List (Addr×Obj)} {σ:St} {H:Hp} {s:Shared} {l b:Addr} {xs ys zs:List V}
theorem Inv.lset {its its':List Value} {n:Nat} {f:Array Value→Array Value} {t':Nat} (I:Inv X pins σ H s) (hH:H l=some (.lst xs))
  (e:s.heap.get? l=some { cls:=.type "list", data:=.seq its.toArray n }) (hf:f its.toArray=its'.toArray) (hv:Vals ys its') (hz:ys.length≤sizeLine) :
  Inv X pins σ (upd H l (.lst ys)) { s with heap:=s.heap.update l (Obj.mapSeq f),toks:=t' }:=by
 have q:=PySem.IsL.update e f
 rw [hf] at q
 refine I.write (x:=l) (e:=l) (by rw [hH]; exact trivial) (.inl rfl) (fun b' u hb hu=>(Heap.get?_update_other s.heap (Obj.mapSeq f) (Ne.symm hb)).trans hu) ⟨_,q⟩ ?_
 exact ⟨hz,its',_,hv,q⟩
theorem Inv.lnew {its:List Value} {t':Nat} (I:Inv X pins σ H s) (hv:Vals ys its) (hz:ys.length≤sizeLine) :
  Inv X pins σ (upd H s.heap.objs.size (.lst ys)) { s with heap:=s.heap.push { cls:=.type "list", data:=.seq its.toArray }, toks:=t' } :=
 I.laid (fun _ _ q=>Heap.get?_push_of_some _ q) (Nat.le_refl _) ⟨hz,its,0,hv,Heap.get?_push_size _ rfl⟩
theorem Inv.fresh (I:Inv X pins σ H s):H s.heap.objs.size=none:=I.hok.fresh (Nat.le_refl _)
theorem Inv.lstM (I:Inv X pins σ H s) (hH:H l=some (.lst xs)):xs.length≤sizeLine∧∃ (its:List Value) (n:Nat),Vals xs its∧xs.length=its.length∧s.heap.get? l=some { cls:=.type "list",data:=.seq its.toArray n }:=by
 obtain ⟨z,its,n,r,e⟩:=I.hok l _ hH
 exact ⟨z,its,n,r,r.length,e⟩
theorem mW {n:Nat} (h:n≤sizeLine):Builtin.List.listTooLong n=false:=by
 unfold Builtin.List.listTooLong
 exact decide_eq_false (by omega)
end
section
variable {X:Cx}
def pk:V→List V→Hp→VK→Prop:=fun x vs H Q=>∃l xs y,x=.ref l∧vs=[y]∧H l=some (.lst xs)∧xs.length < sizeLine∧Q .non (upd H l (.lst (xs ++ [y])))
theorem cA:MtM X "list.append" pk:=by
 intro pins s σ H x vs v us Q I rx rv h
 obtain ⟨l,xs,y,rfl,rfl,hH,hz,q⟩:=h
 cases rx
 obtain ⟨u,rfl,ru⟩:=rv.one
 obtain ⟨z,its,n,r,hl,e⟩:=I.lstM hH
 refine call_meets F.slot_list_append ⟨_,e,rfl⟩ F.entry_list_append (F.args_list_append_2 _ _) (PySem.list_append l its.toArray n u (by rw [List.size_toArray]; omega)) ⟨e,?_⟩
 refine ⟨.non,_,I.lset (its':=its ++ [u]) hH e (by simp) (r.append (.cons ru .nil)) ?_,rfl,q⟩
 rw [List.length_append,List.length_singleton]
 omega
def pw:V→List V→Hp→VK→Prop:=fun x vs H Q=>∃l b xs zs,x=.ref l∧vs=[.ref b]∧H l=some (.lst xs)∧H b=some (.lst zs)∧xs.length + zs.length≤sizeLine∧Q .non (upd H l (.lst (xs ++ zs)))
theorem ur:MtM X "list.extend" pw:=by
 intro pins s σ H x vs v us Q I rx rv h
 obtain ⟨l,b,xs,zs,rfl,rfl,hH,hB,hz,q⟩:=h
 cases rx
 obtain ⟨u,rfl,ru⟩:=rv.one
 cases ru
 obtain ⟨z,its,n,r,hl,e⟩:=I.lstM hH
 obtain ⟨z2,its2,n2,r2,hl2,e2⟩:=I.lstM hB
 have hsz:its.toArray.size + its2.toArray.size≤sizeLine:=by rw [List.size_toArray,List.size_toArray]; omega
 have hlong:¬ (!its.toArray.isEmpty && Builtin.List.listTooLong (its.toArray.size + its2.toArray.size))=true:=by
  rw [mW hsz,Bool.and_false]
  exact Bool.false_ne_true
 refine call_meets F.slot_list_extend ⟨_,e,rfl⟩ F.entry_list_extend (F.args_list_extend_2 _ _)
  (AutoSeq1.list_extend_list_list_0 l its.toArray n b its2.toArray n2 hlong (by rw [List.size_toArray]; omega) (by omega)) ⟨e,e2,?_⟩
 refine ⟨.non,_,I.lset (its':=its ++ its2) hH e (by simp) (r.append r2) ?_,rfl,q⟩
 rw [List.length_append]
 omega
def AY:V→List V→Hp→VK→Prop:=fun x vs H Q=>∃l xs y,x=.ref l∧vs=[]∧H l=some (.lst xs)∧xs[xs.length - 1]? = some y∧Q y (upd H l (.lst xs.dropLast))
theorem AZ:MtM X "list.pop" AY:=by
 intro pins s σ H x vs v us Q I rx rv h
 obtain ⟨l,xs,y,rfl,rfl,hH,hy,q⟩:=h
 cases rx
 have hus:=rv.zero
 subst hus
 obtain ⟨z,its,n,r,hl,e⟩:=I.lstM hH
 obtain ⟨u,hu,ru⟩:=r.get hy
 have hy':its.toArray[its.toArray.size - 1]? = some u:=by
  show its.toArray[its.length - 1]? = some u
  rw [← Array.getElem?_toList,← hl]
  exact hu
 refine call_meets F.slot_list_pop ⟨_,e,rfl⟩ F.entry_list_pop (F.args_list_pop_1 _) (MeetsSeq.list_pop_last l its.toArray n u hy' (by rw [List.size_toArray]; omega)) ⟨e,?_⟩
 refine ⟨y,_,I.lset (its':=its.dropLast) hH e ?_ r.dropLast ?_,ru,q⟩
 ·show its.toArray.eraseIdxIfInBounds (its.toArray.size - 1)=its.dropLast.toArray
  rw [List.size_toArray,List.eraseIdxIfInBounds_toArray,jp]
 ·rw [List.length_dropLast]
  omega
def rp:V→List V→Hp→VK→Prop:=fun x vs H Q=>∃l xs,x=.ref l∧vs=[]∧H l=some (.lst xs)∧Q .non (upd H l (.lst []))
theorem mX:MtM X "list.clear" rp:=by
 intro pins s σ H x vs v us Q I rx rv h
 obtain ⟨l,xs,rfl,rfl,hH,q⟩:=h
 cases rx
 have hus:=rv.zero
 subst hus
 obtain ⟨z,its,n,r,hl,e⟩:=I.lstM hH
 refine call_meets F.slot_list_clear ⟨_,e,rfl⟩ F.entry_list_clear (F.args_list_clear_1 _) (AutoSeq1.list_clear_list_0 l its.toArray n (by rw [List.size_toArray]; omega)) ⟨e,?_⟩
 exact ⟨.non,_,I.lset (its':=[]) (ys:=[]) hH e rfl .nil (Nat.zero_le _),rfl,q⟩
def Ba:R2:=fun x y H Q=>∃l b xs zs,x=.ref l∧y=.ref b∧H l=some (.lst xs)∧H b=some (.lst zs)∧xs.length + zs.length≤sizeLine∧∀p,H p=none→Q (.ref p) (upd H p (.lst (xs ++ zs)))
theorem rq:OpR X (binaryOp .Add) Ba:=by
 intro pins s σ H x y v u Q I rx ry h
 obtain ⟨l,b,xs,zs,rfl,rfl,hH,hB,hz,q⟩:=h
 cases rx
 cases ry
 obtain ⟨z,its,n,r,hl,e⟩:=I.lstM hH
 obtain ⟨z2,its2,n2,r2,hl2,e2⟩:=I.lstM hB
 refine PySem.P.add_list e e2 ?_ (by rw [List.size_toArray,List.size_toArray]; omega)
 have ea:its.toArray ++ its2.toArray=(its ++ its2).toArray:=by simp
 rw [ea]
 exact ⟨.ref _,_,I.lnew (t':=s.toks) (r.append r2) (by rw [List.length_append]; omega),rfl,q _ I.fresh⟩
end
section
variable {prog:Program} {w:World} {A:Around} {E:Value→Shared→Prop} {s:Shared}
end
section
variable {X:Cx}
end
end L2
namespace Att
open PySem PySem.W PySem.Calls PyProof.Rows
theorem eV {P:Params} {h:Heap}:∀ (ns:List Int) (vs:List Value),WellAll P h vs (ns.map WData.int)→IntsAre vs ns:=by
 intro ns
 induction ns with
 | nil =>
  intro vs w
  rw [List.map_nil] at w
  cases w
  exact .nil
 | cons n ns ih =>
  intro vs w
  rw [List.map_cons] at w
  cases w with
  | cons a b =>
   cases a
   exact .cons _ _ (ih _ b)
theorem le {l:OpenLaw} {n:Nat} (hn:l.most=some n) {P:Params} {h:Heap} {args:List WData} {vals:List Value}
  (hpre:l.row.toRowW.claim.pre args=true) (hwl:WellAll P h vals args) :
  ∃a vs ns,vals=[Value.ref a]∧args=[WData.list (ns.map WData.int)]∧h.get? a=some { cls:=.type "list",data:=.seq vs.toArray }∧IntsAre vs ns∧ns.length≤n:=by
 have hsh:WShape.hasAll [] args [.list .int]=true:=(pre_splitW hpre).1
 have hc:l.pre.holds [] { args:=args }=true:=(pre_splitW hpre).2
 obtain ⟨d,r,rfl,h1,h2⟩:=hasAllW_cons hsh
 obtain rfl:=hasAllW_nil h2
 obtain ⟨xs,rfl,h3⟩:=hasW_list h1
 obtain ⟨ns,rfl⟩:=items_int h3
 have hlen:ns.length≤n:=by
  unfold OpenLaw.pre at hc
  have h4:(WTm.not (.lt (.lit (.int (n:Int))) (.len (.arg 0)))).holds [] { args:=[.list (ns.map .int)] }=true:=by
   have h4:=(holds_andW hc).1
   rw [hn] at h4
   exact h4
  have h5:=condW_of h4 (w_not (w_lt w_lit (w_len_list (w_arg rfl))))
  rw [List.length_map] at h5
  refine Nat.le_of_not_lt fun q=>?_
  have q':(n:Int) < ((ns.length:Nat):Int):=by omega
  first
   | (rw [decide_eq_true q'] at h5; exact absurd h5 (by decide))
   | (simp at h5; omega)
 cases hwl with
 | cons w1 w2 =>
  cases w2
  cases w1 with
  | list ho hall=>exact ⟨_,_,ns,rfl,rfl,ho,eV ns _ hall,hlen⟩
theorem lf (l:OpenLaw) (args:List WData):l.row.toRowW.claim.post args (.bool true) args=true :=
 postW_of (r:=l.row.toRowW) (X:=(true == true))
  (show WShape.has [] (.bool true) .bool=true by first | rfl | decide | simp [WShape.has,WShape.arms,WShape.armsAll])
  (show (WTm.eq .res (.lit (.bool true))).value [] { args:=args,res:=some (.bool true),after:=args }=some (.bool (true == true)) from w_eq_bool (w_res rfl) w_lit) rfl
theorem attach_call {l:OpenLaw} {n:Nat} {q:Program} {loose:List Str} {XP:(Str→Option Value)→Heap→Prop} {YP:World→Heap→Prop} {d:DefRec}
  (hn:l.most=some n) (hdf:d.params.defaults=[])
  (call:∀ (w:World) (s₀ s₁:Shared) (mg mb:Str→Option Value) (fa:Addr) (o:Obj) (pm cd doc:Value) (a:Addr) (vs:List Value) (ns:List Int),
   Ground q loose [] XP w s₀ mg mb s₁.heap→YP w s₁.heap →
   s₁.heap.get? fa=some o→o.data=.func (docDef d.name d.params d.body d.scope pm cd doc)→s₁.heap.CodeRec cd d.name→mg d.name=some (.ref fa) →
   s₁.heap.get? a=some { cls:=.type "list",data:=.seq vs.toArray }→IntsAre vs ns→ns.length≤n→s₁.gens=#[] →
   codeAny (model l.prog w) callerA (.call (.ref fa) ⟨[.ref a],[]⟩) (fun r s'=>r=.ok (.ret (.bool true))∧OldK s₁.heap s'.heap∧s'.os=s₁.os∧AllBare s'.gens) s₁) :
  WalkO q loose XP YP l.row.toRowW d [] (fun f vs=>PySem.call f vs):=by
 intro w s₀ s₁ mg mb G Y fa o pm cd doc dV kV ho hd hcd hD hmg hg args vals as hpre hlay hrd hwl hlo
 obtain rfl:dV=.none:=Dflts.none hD hdf
 obtain rfl:kV=.none:=Dflts.noKw hD
 obtain ⟨a,vs,ns,rfl,rfl,hobj,hints,hlen⟩:=le hn hpre hwl
 refine enter_call (codeAny_mono (call w s₀ s₁ mg mb fa o pm cd doc a vs ns G Y ho (fd_plain hd) hcd hmg hobj hints hlen hg) fun r s' hq=>?_)
 obtain ⟨rfl,h2,h3,h4⟩:=hq
 exact ⟨.inl ⟨.bool true,.bool true,[],rfl,fun _=>rfl,.bool true,lf l _,fun _=>⟨List.Pairwise.nil,fun _ hm=>(nomatch hm)⟩⟩,h2,h3,h4⟩
section
variable {prog:Program} {w:World} {A:Around} {E:Value→Shared→Prop} {s:Shared} {K:Frag}
def Bb (h:Heap) (L d:Addr):List (Addr×Obj):=(List.range h.objs.size).filterMap fun a=>if a=L∨a=d then none else (h.get? a).map fun o=>(a,o)
end
end Att
namespace L2
open PySem PySem.Spec PyProof.Rows
theorem gh:∀ {vs:List Value} {ns:List Int},IntsAre vs ns→Vals (ns.map V.int) vs
 | _,_,.nil=>.nil
 | _,_,.cons n t h=>.cons ⟨t,rfl⟩ (gh h)
def rA (H:Hp):Prop:=∀b,H b=none∨∃o xs,H b=some (.frz o (.lst xs))
theorem mY {P:Program} {w:World} {K:PySem.W.Frag} {mg mb:Str→Option Value} {CX:CXT} {k:Nat} {fa a:Addr} {fd:FuncData} {x:Str} {sp:Sp} {s₁:Shared} {vs:List Value} {ns:List Int}
  (KX:K.In s₁.heap) (hns:s₁.heap.Ns mainGlobals mg) (hb:s₁.heap.Ns builtinsNs mb) (hbb:∀x:Str,x ≠ "__name__" → mb x=bootBuiltins x) (hlim:s₁.heap.NoLimit) (hg:s₁.gens=#[])
  (ha:s₁.heap.get? a=some { cls:=.type "list",data:=.seq vs.toArray }) (hi:IntsAre vs ns) (hl:ns.length≤sizeLine) (hr:Room k callerA)
  (F:∀base:Heap,K.In base→base.Ns mainGlobals mg→FnOk P w K mg base CX k fa fd [x] sp) (hbind:∀ (s:Shared) (u:Value),BindsTo s fd ⟨[u],[]⟩ [(x,u)])
  (hsp:∀H:Hp,rA H→SqL K H a (ns.map V.int)→sp [.ref a] H (fun v _=>v=.bl true) fun _ _ _=>False)
  (hCX:∀H e s',CX [] H s₁ (fun _ _ _=>False) e s'→False) :
  codeAny (model P w) callerA (.call (.ref fa) ⟨[.ref a],[]⟩) (fun r s'=>r=.ok (.ret (.bool true))∧OldK s₁.heap s'.heap∧s'.os=s₁.os∧AllBare s'.gens) s₁:=by
 have rv:=gh hi
 have lenV:=hi.length
 have core:∀H:Hp,rA H→SqL K H a (ns.map V.int)→HOk P w H s₁.heap→(∀b,H b≠none→b=a)→(H a≠none→K.lookup a=none) →
   codeAny (model P w) callerA (.call (.ref fa) ⟨[.ref a],[]⟩) (fun r s'=>r=.ok (.ret (.bool true))∧OldK s₁.heap s'.heap∧s'.os=s₁.os∧AllBare s'.gens) s₁:=by
  intro H hO hS hok hA hK
  have base_of:∀ {b:Addr} {o:Obj},s₁.heap.get? b=some o→H b=none→(gw s₁.heap H).get? b=some o:=fun e n=>mE e n
  have noA:∀ {b:Addr} {o:Obj} {es:Array DictEntry} {ep:Nat},s₁.heap.get? b=some o→o.data=.dict es ep→H b=none:=fun {b o es ep} e d=>by
   cases q:H b with
   | none=>rfl
   | some u =>
    have e':b=a:=hA b (by rw [q]; simp)
    subst e'
    rw [ha] at e; cases e
    have d':Data.seq vs.toArray _=Data.dict es ep:=d
    cases d'
  have nsK:∀ {b:Addr} {m:Str→Option Value},s₁.heap.Ns b m→(gw s₁.heap H).Ns b m:=fun {b m} ⟨o,es,ep,e,d,r⟩=>⟨o,es,ep,base_of e (noA e d),d,r⟩
  have hKb:K.In (gw s₁.heap H):=fun b o e=>base_of (KX b o e) (by
   cases q:H b with
   | none=>rfl
   | some u =>
    have e':b=a:=hA b (by rw [q]; simp)
    subst e'
    rw [hK (by rw [q]; simp)] at e; cases e)
  have hM:Mod K mg (gw s₁.heap H):=⟨hKb,nsK hns,⟨mb,nsK hb,hbb⟩,let ⟨mc,h1,h2⟩:=hlim; ⟨mc,nsK h1,h2⟩⟩
  have e0:Env0 P w K mg (gw s₁.heap H) callerA [] s₁ H:=⟨rfl,hM,fun b o e=>oR e,Nat.le_of_eq (kS _ _),trivial,fun b hb=>absurd (show b∈([]:List Addr) from hb) (by simp),hok,.of_eq hg⟩
  refine codeAny_mono ((F _ hKb (nsK hns)).run callerA [] s₁ H ⟨[.ref a],[]⟩ [.ref a] [.ref a] _ _ hr e0 (hbind s₁ (.ref a)) (.cons rfl .nil) (hsp H hO hS)) fun r s' h=>?_
  cases r with
  | error e=>exact (hCX H e s' h).elim
  | ok fl =>
   cases fl with
   | next=>exact False.elim h
   | brk=>exact False.elim h
   | cont=>exact False.elim h
   | ret u =>
    obtain ⟨v,H',os,bare,un,hok',r',q⟩:=h
    have q':v=.bl true:=q
    subst q'
    obtain rfl:u=Value.bool true:=r'
    refine ⟨rfl,OldK.of_keep fun b o e=>?_,os,bare⟩
    cases q:H b with
    | none=>exact un.keep b o e q (by intro z; exact absurd (show b∈([]:List Addr) from z) (by simp)) (by simp)
    | some u =>
     rcases hO b with z | ⟨ob,xs,z⟩
     ·rw [q] at z; cases z
     ·have z2:=un.frzs b ob _ z
      obtain ⟨e1,_⟩:=hok b _ z
      obtain ⟨e2,_⟩:=hok' b _ z2
      rw [e] at e1; cases e1
      exact e2
 cases hk:K.lookup a with
 | some o =>
  have e:=KX a o hk
  rw [ha] at e
  cases e
  refine core (fun _=>none) (fun _=>.inl rfl) (.inr ⟨_,vs.toArray,_,hk,rfl,rfl,rfl,by rw [List.size_toArray,lenV]; exact hl,by simpa using rv⟩) (fun b u z=>by have z':(none:Option HO)=some u:=z; cases z') (fun b z=>absurd rfl z) fun z=>absurd rfl z
 | none =>
  refine core (fun b=>if b=a then some (.frz { cls:=.type "list",data:=.seq vs.toArray } (.lst (ns.map V.int))) else none) (fun b=>?_) (.inl (.inr ⟨{ cls:=.type "list",data:=.seq vs.toArray },if_pos rfl⟩)) (fun b u z=>?_) (fun b z=>?_) fun _=>hk
  ·by_cases hb:b=a
   ·exact .inr ⟨_,_,if_pos hb⟩
   ·exact .inl (if_neg hb)
  ·by_cases hb:b=a
   ·have z':=(if_pos hb).symm.trans z
    cases z'
    subst hb
    exact ⟨ha,by rw [List.length_map]; exact hl,vs,_,rv,ha⟩
   ·have z':=(if_neg hb).symm.trans z
    cases z'
  ·by_cases hb:b=a
   ·exact hb
   ·exact absurd (if_neg hb) z
end L2
namespace L2
open PySem PySem.Spec PyProof.Rows
theorem walk_of {l:PySem.W.OpenLaw} {n k:Nat} {q:Program} {loose:List Str} {XP:(Str→Option Value)→Heap→Prop} {YP:World→Heap→Prop} {d:DefRec} {K:Params→PySem.W.Frag} {CX:World→CXT} {sp:World→Sp} {x:Str}
  (hn:l.most=some n) (hn2:n≤sizeLine) (hdf:d.params.defaults=[]) (hr:Room k callerA)
  (hY:∀ (w:World) (h:Heap),YP w h→(K w.params).In h)
  (F:∀ (w:World) (mg:Str→Option Value) (fa:Addr) (h:Heap),(K w.params).In h→h.Ns mainGlobals mg→mg d.name=some (.ref fa) →
   ∃fd:FuncData,(∀ (s:Shared) (u:Value),BindsTo s fd ⟨[u],[]⟩ [(x,u)]) ∧
    ∀base:Heap,(K w.params).In base→base.Ns mainGlobals mg→FnOk l.prog w (K w.params) mg base (CX w) k fa fd [x] (sp w))
  (hsp:∀ (w:World) (H:Hp) (a:Addr) (ns:List Int),ns.length≤n→rA H→SqL (K w.params) H a (ns.map V.int)→sp w [.ref a] H (fun v _=>v=.bl true) fun _ _ _=>False)
  (hCX:∀ (w:World) (H:Hp) (s:Shared) (e:Value) (s':Shared),CX w [] H s (fun _ _ _=>False) e s'→False) :
  PySem.W.WalkO q loose XP YP l.row.toRowW d [] (fun f vs=>PySem.call f vs):=by
 refine Att.attach_call hn hdf fun w s₀ s₁ mg mb fa o pm cd doc a vs ns G Y ho hd hcd hmg hobj hints hlen hg=>?_
 have KX:=hY w _ Y
 obtain ⟨fd,hb,hF⟩:=F w mg fa _ KX G.T.g hmg
 exact mY KX G.T.g G.T.b G.T.builtins G.T.nolimit hg hobj hints (Nat.le_trans hlen hn2) hr hF hb (fun H hO hS=>hsp w H a ns hlen hO hS) fun H e s'=>hCX w H s₁ e s'
end L2
namespace L2
open PySem PySem.Spec PyProof.Rows
def inClass (s:Stmt) (j:Nat):Stmt:=match s with
 | .ClassDef _ _ _ body _ _ _ _ _ _ _=>body.getD j (.Pass ⟨0,0,0,0⟩)
 | _=>.Pass ⟨0,0,0,0⟩
def defArgs (s:Stmt):Arguments:=match s with
 | .FunctionDef _ a _ _ _ _ _ _ _ _=>a
 | _=>{ posonlyargs:=[],args:=[],vararg:=none,kwonlyargs:=[],kw_defaults:=[],kwarg:=none,defaults:=[] }
def defBody (s:Stmt):List Stmt:=match s with
 | .FunctionDef _ _ b _ _ _ _ _ _ _=>b
 | _=>[]
def defScope (s:Stmt):Scope:=match s with
 | .FunctionDef _ _ _ _ _ _ sc _ _ _=>sc
 | _=>{ kind:=.function,names:=[],isGenerator:=false,isCoroutine:=false }
abbrev CX0:CXT:=fun _ _ _ _ _ _=>False
abbrev E0:XK:=fun _ _ _=>False
theorem ko {X:Cx}:dk CX0 X E0:=fun _ _ _ _ _ _ _ h=>h.elim
structure Fun (K:PySem.W.Frag) (x qual:Str) (st:Stmt) (f:Addr) (fd:FuncData):Prop where
 ex:∃ (oc:Value) (od:Option Addr) (kV doc pm:Value) (an:Option Addr) (cdv ct:Value) (osl:Array (Option Value)),
  fd=PySem.W.fnOf x qual (defArgs st) (defBody st) (defScope st) .none kV doc pm an cdv ct∧K.lookup f=some ⟨oc,od,.func fd,osl⟩∧PySem.W.codeIn K cdv qual=true
 kp:PySem.W.keepIn K (.ref f)=true
section
variable {P:Program} {w:World} {K:PySem.W.Frag} {mg:Str→Option Value} {base:Heap}
theorem Fun.ok {x qual:Str} {st:Stmt} {f:Addr} {fd:FuncData} {N ps:List Str} {k:Nat} {sp:Sp} (F:Fun K x qual st f fd) (S:FnScope N ps (defScope st)) (len:∀vs H Q E,sp vs H Q E→vs.length=ps.length)
  (hbody:∀ (cdv:Value) (A:Around) (outer:List Env) (s:Shared) (H:Hp) (vs:List V) (Q:VK) (E:XK),Room k (A.deeper (envOfC qual (defScope st) s.heap.objs.size f cdv))→sp vs H Q E →
   ∃t,PSs (kZ CX0 P w K mg base N qual (defScope st) f cdv A outer s H E).nox (defBody st) t∧t { nx:=fun _ H'=>Q .non H',rt:=Q } (start N vs) H):FnOk P w K mg base CX0 (k + 1) f fd ps sp:=by
 obtain ⟨oc,od,kV,doc,pm,an,cdv,ct,osl,rfl,lk,hcd⟩:=F.ex
 refine uM lk hcd S len fun A outer s H vs Q E hr hsp=>?_
 obtain ⟨t,h,q⟩:=hbody cdv A outer s H vs Q E hr hsp
 exact ⟨t,h.nox,q⟩
theorem Fun.binds {x qual:Str} {st:Stmt} {f:Addr} {fd:FuncData} {ps:List Str} (F:Fun K x qual st f fd)
  (h:∀ (kV doc pm:Value) (an:Option Addr) (cdv ct:Value) (us:List Value),us.length=ps.length→bindArgs (PySem.W.fnOf x qual (defArgs st) (defBody st) (defScope st) .none kV doc pm an cdv ct) ⟨us,[]⟩=pure (ps.zip us)):Binds K fd ps []:=by
 obtain ⟨oc,od,kV,doc,pm,an,cdv,ct,osl,rfl,lk,hcd⟩:=F.ex
 exact .all (h kV doc pm an cdv ct)
theorem aG {x qual:Str} {st:Stmt} {f:Addr} {oc:Value} {od an:Option Addr} {osl:Array (Option Value)} {kV doc pm cdv ct:Value} (l:K.lookup f=some ⟨oc,od,.func (PySem.W.fnOf x qual (defArgs st) (defBody st) (defScope st) .none kV doc pm an cdv ct),osl⟩)
  (c:PySem.W.codeIn K cdv qual=true) (k:PySem.W.keepIn K (.ref f)=true):Fun K x qual st f (PySem.W.fnOf x qual (defArgs st) (defBody st) (defScope st) .none kV doc pm an cdv ct):=⟨⟨oc,od,kV,doc,pm,an,cdv,ct,osl,rfl,l,c⟩,k⟩
end
section
variable {X:Cx}
theorem pv (i:Nat) {x:Str} {pos:Pos} (hN:X.N[i]? = some x:=by rfl) (hv:Vis X.env.scope x:=by first | exact Or.inl rfl | exact Or.inr (Or.inl rfl) | exact Or.inr (Or.inr rfl)) (hd:(x == ("__debug__" : Str))=false:=by decide)
  (hcd:(x == ("__classdict__" : Str))=false:=by decide):PE X (.Name x pos) (oT i):=qV hN hv hd hcd
end
theorem aM {A B:Prop} (h:B):if false=true then A else B:=by
 rw [if_neg Bool.false_ne_true]
 exact h
theorem aY {A B:Prop} (h:A):if true=true then A else B:=by
 rw [if_pos rfl]
 exact h
theorem ck {c A B:Prop} [Decidable c] (h1:c→A) (h2:¬ c→B):if c then A else B:=by
 by_cases h:c
 ·rw [if_pos h]
  exact h1 h
 ·rw [if_neg h]
  exact h2 h
def Same (H H':Hp):Prop:=∀b o,H b=some o→H' b=some o
theorem Same.refl (H:Hp):Same H H:=fun _ _ h=>h
theorem Same.trans {H H1 H2:Hp} (a:Same H H1) (b:Same H1 H2):Same H H2:=fun c o h=>b c o (a c o h)
theorem Same.free {H H':Hp} (e:Same H H') {l:Addr} (h:H' l=Option.none):H l=Option.none:=by
 cases q:H l with
 | none=>rfl
 | some o =>
  rw [e l o q] at h
  cases h
theorem Same.seq {K:PySem.W.Frag} {H H':Hp} {a:Addr} {xs:List V} (e:Same H H') (h:SqL K H a xs):SqL K H' a xs:=by
 rcases h with (h | ⟨o,h⟩) | h
 ·exact .inl (.inl (e _ _ h))
 ·exact .inl (.inr ⟨o,e _ _ h⟩)
 ·exact .inr h
end L2
set_option Elab.async false
set_option linter.all false
set_option maxRecDepth 100000
namespace L2
open PySem PySem.Spec PyProof.Rows
def bp (env:Env):List (Str×NameKind)→List (Str×Addr)→List (Str×Addr)
 | [],acc=>acc
 | (n,k) :: r,acc=>bp env r (if (k == NameKind.free)=true then (n,(env.cells.lookup n).getD 0) :: acc else acc)
theorem cG (env:Env):∀ (names:List (Str×NameKind)) (acc:List (Str×Addr)) (x:Str) (c:Addr),(∀y∈names,y.2=.free→∃c,env.cells.lookup y.1=some c) →
  (∀x c,acc.lookup x=some c→env.cells.lookup x=some c)→(bp env names acc).lookup x=some c→env.cells.lookup x=some c
 | [],acc,x,c,_,h,e=>h x c e
 | (n,k) :: r,acc,x,c,hf,h,e=>by
  refine cG env r _ x c (fun y hy=>hf y (List.mem_cons_of_mem _ hy)) (fun x c e'=>?_) e
  by_cases hk:(k == NameKind.free)=true
  ·rw [if_pos hk] at e'
   obtain ⟨c0,hc0⟩:=hf (n,k) List.mem_cons_self (by simpa using hk)
   have hc0':env.cells.lookup n=some c0:=hc0
   rw [List.lookup_cons] at e'
   cases hx:x == n with
   | true =>
    rw [hx] at e'
    have:x=n:=by simpa using hx
    subst this
    rw [hc0'] at e' ⊢
    simpa using e'
   | false=>rw [hx] at e'; exact h x c e'
  ·rw [if_neg hk] at e'; exact h x c e'
theorem fm (env:Env):∀ (names:List (Str×NameKind)) (acc:List (Str×Addr)) (x:Str),(∃c,acc.lookup x=some c)→∃c,(bp env names acc).lookup x=some c
 | [],acc,x,h=>h
 | (n,k) :: r,acc,x,h=>by
  refine fm env r _ x ?_
  by_cases hk:(k == NameKind.free)=true
  ·rw [if_pos hk,List.lookup_cons]
   cases hx:x == n with
   | true=>exact ⟨_,rfl⟩
   | false=>exact h
  ·rw [if_neg hk]; exact h
theorem eH (env:Env):∀ (names:List (Str×NameKind)) (acc:List (Str×Addr)) (x:Str),(x,NameKind.free)∈names→∃c,(bp env names acc).lookup x=some c
 | [],acc,x,h=>by simp at h
 | (n,k) :: r,acc,x,h=>by
  rcases List.mem_cons.mp h with e | e
  ·have e1:x=n:=congrArg Prod.fst e
   have e2:NameKind.free=k:=congrArg Prod.snd e
   subst e1
   subst e2
   refine fm env r _ x ?_
   rw [if_pos (by simp),List.lookup_cons]
   simp
  ·exact eH env r _ x e
theorem fq {env:Env} {scope:Scope} (hf:∀y∈scope.names,y.2=.free→∃c,env.cells.lookup y.1=some c):closureFor scope env=pure (bp env scope.names []):=by
 have key:∀ (names:List (Str×NameKind)) (acc:List (Str×Addr)),(∀y∈names,y.2=.free→∃c,env.cells.lookup y.1=some c) →
   (forIn names acc (fun (x:Str×NameKind) (r:List (Str×Addr))=>(if (x.2 == NameKind.free)=true then do
    let a←cellOf env x.1
    pure (ForInStep.yield ((x.1,a) :: r)) else pure (ForInStep.yield r)) ):Sem (List (Str×Addr)))=pure (bp env names acc):=by
  intro names
  induction names with
  | nil=>intro acc _; rfl
  | cons y r ih =>
   intro acc h
   obtain ⟨n,k⟩:=y
   have ih':=fun acc=>ih acc fun z hz=>h z (List.mem_cons_of_mem _ hz)
   rw [List.forIn_cons]
   by_cases hk:(k == NameKind.free)=true
   ·obtain ⟨c,hc⟩:=h (n,k) List.mem_cons_self (by simpa using hk)
    have hc':env.cells.lookup n=some c:=hc
    have e1:cellOf env n=pure c:=by unfold cellOf; rw [hc']
    have e2:bp env ((n,k) :: r) acc=bp env r ((n,c) :: acc):=by
     show bp env r _=_
     rw [if_pos hk,hc']; rfl
    rw [if_pos hk,e2,← ih']
    show ((cellOf env n >>= fun a=>pure (ForInStep.yield ((n,a) :: acc))) >>= _)=_
    rw [e1]
    rfl
   ·have e2:bp env ((n,k) :: r) acc=bp env r acc:=by
     show bp env r _=_
     rw [if_neg hk]
    rw [if_neg hk,e2,← ih']
    rfl
 have:=key scope.names [] hf
 simp only [closureFor]
 exact (congrArg (fun m=>m >>= fun r=>(pure r:Sem _)) this).trans rfl
theorem gL {env:Env} {scope:Scope} (hcell:∀y∈scope.names,y.2≠.cell) {x:Str}:((relabel scope env).names.lookup x=some .cell∨(relabel scope env).names.lookup x=some .free)→(x,NameKind.free)∈scope.names:=by
  have key:∀names:List (Str×NameKind),(∀y∈names,y.2≠.cell)→∀k,(names.map fun (n,k)=>if (k == NameKind.free && env.scope.kind == .function && env.kindOf n == some .cell) then (n,NameKind.cell) else (n,k)).lookup x=some k →
      (k=.cell∨k=.free)→(x,NameKind.free)∈names:=by
    intro names
    induction names with
    | nil=>intro _ k h _; simp at h
    | cons y r ih =>
      obtain ⟨n,k'⟩:=y
      intro hc k h hk
      have nc:k'≠.cell:=hc (n,k') List.mem_cons_self
      rw [List.map_cons] at h
      by_cases hb:(k' == NameKind.free && env.scope.kind == .function && env.kindOf n == some .cell)=true
      · have hb':k'=.free:=by simp at hb; exact hb.1.1
        dsimp only at h
        rw [if_pos hb,List.lookup_cons] at h
        cases hx:x == n with
        | true => have : x = n := by simpa using hx
                  subst this; subst hb'; exact List.mem_cons_self
        | false=>rw [hx] at h; exact List.mem_cons_of_mem _ (ih (fun y hy=>hc y (List.mem_cons_of_mem _ hy)) k h hk)
      · dsimp only at h
        rw [if_neg hb,List.lookup_cons] at h
        cases hx:x == n with
        | true =>
          rw [hx] at h
          have:x=n:=by simpa using hx
          subst this
          have e:k'=k:=by simpa using h
          rcases hk with q | q
          · exact absurd (e.trans q) nc
          · rw [e,q]; exact List.mem_cons_self
        | false=>rw [hx] at h; exact List.mem_cons_of_mem _ (ih (fun y hy=>hc y (List.mem_cons_of_mem _ hy)) k h hk)
  rintro (h | h)
  · exact key _ hcell _ h (.inl rfl)
  · exact key _ hcell _ h (.inr rfl)
def bE (X:Cx) (pins:List (Addr×Obj)) (s2:Shared) (H2:Hp) (scope:Scope) (C:Addr) (N':List Str) (fp:List Addr):Cx where
 prog:=X.prog
 w:=X.w
 K:=X.K
 mg:=X.mg
 base:=X.base
 A:=X.A
 N:=N'
 s₀:=s2
 H₀:=H2
 env:=compEnvC scope (bp X.env scope.names []) C X.env
 outer:=X.stack
 stack:=X.stack
 ex:=fp
 fn:=fun _=>false
 calm:=X.calm
 pn:=X.pn ++ pins
 xe:=fun _ _=>False
def bL (σ:St) (cap:List Nat) (k:Nat):St:=List.replicate k none ++ cap.map fun j=>(σ[j]?).join
def leS (σ σ':St):Prop:=σ'.length=σ.length∧∀ (i:Nat) v,σ[i]? = some (some v)→σ'[i]? = some (some v)
theorem leS.set {σ:St} {i:Nat} {v:V} (h:σ[i]? = some none):leS σ (σ.set i (some v)):=by
 refine ⟨by simp,fun j w e=>?_⟩
 by_cases hj:j=i
 ·subst hj; rw [h] at e; cases e
 ·rw [List.getElem?_set_ne (Ne.symm hj)]; exact e
structure CompOk (X:Cx) (scope:Scope) (own:List Str) (cs:List Str) (cap:List Nat):Prop where
 kind:scope.kind=.function
 cell:∀y∈scope.names,y.2≠.cell
 names:∀y∈scope.names,y.2=.local→scope.names.lookup y.1=some .local
 free:∀y∈scope.names,y.2=.free→X.env.kindOf y.1=some .cell∨X.env.kindOf y.1=some .free
 caps:∀ (i:Nat) y,cs[i]? = some y→∃j,cap[i]? = some j∧X.N[j]? = some y∧(y,NameKind.free)∈scope.names
 ownl:∀y∈own,scope.names.lookup y=some .local
 len:cs.length=cap.length
 free2:∀y,(y,NameKind.free)∈scope.names→scope.names.lookup y=some .local→False
def mZ (X:Cx) (ifs:List Expr) (tt:TT):Prop :=
 ∀ (pins:List (Addr×Obj)) (s:Shared) (σ:St) (H:Hp) (Q:Bool→Hp→Prop),Inv X pins σ H s→tt σ H Q →
  wpAny (model X.prog X.w) X.A (forIn ifs true fun c r=>if r=true then do let ok←isTrue c X.env (eval c X.env); pure (ForInStep.yield ok) else pure (ForInStep.yield r)) (TP X pins σ Q) X.xe s
def uS:TT:=fun _ H Q=>Q true H
theorem bX {X:Cx}:mZ X [] uS:=fun _ _ _ H _ I h=>wpAny_tests_nil ⟨H,I,h⟩
theorem ip {X:Cx} {c:Expr} {tt:TT} (h:PT X c tt):mZ X [c] tt:=fun pins s σ H Q I q=>wpAny_tests_one (h pins s σ H Q I q)
def iq (σ:St) (cap:List Nat) (k:Nat) (J:It) (g:TG) (tt:TT) (te:TE) (Q:List V→Hp→Prop) (W:Nat→Nat→List V→Hp→Prop):Prop :=
 ∀i m ys H,W i m ys H→(J.stop i H∧ys.length≤sizeLine∧Q ys H) ∨
  (J.go i H∧ys.length < sizeLine∧∀x H',J.yld i H x H'→g x (bL σ cap k) H' fun σ2 H2=>leS (bL σ cap k) σ2∧tt σ2 H2 fun ok H3 =>
   if ok=true then te σ2 H3 (fun v H4=>∃m',m' < m∧W (i + 1) m' (ys ++ [v]) H4) else ∃m',m' < m∧W (i + 1) m' ys H3)
theorem HOk.add {P:Program} {w:World} {H:Hp} {h:Heap} {a:Addr} {o:HO} (x:HOk P w H h) (n:H a=none) (new:ObjOk P w (upd H a o) h a o):HOk P w (upd H a o) h:=fun b u e=>by
 by_cases hb:b=a
 ·subst hb; rw [upd_same] at e; cases e; exact new
 ·rw [aw hb] at e
  exact (x b u e).stay (fun c v _ q=>q) (fun c q=>by rw [aw (ag q n)]; exact q) fun c xs q=>by rw [aw (ag q n)]; exact q
section
variable {X:Cx} {pins:List (Addr×Obj)} {σ:St} {H2:Hp} {s2:Shared} {scope:Scope} {own cs:List Str} {cap:List Nat} {fp:List Addr}
theorem lg {h1:Heap} {C:Addr} {tk:Nat} (I:Inv X pins σ H2 s2) (ok:CompOk X scope own cs cap) (hf:∀b∈fp,di X pins H2 b) (hfl:∀b∈fp,b < s2.heap.objs.size)
  (hC:s2.heap.objs.size≤C) (hns:h1.Ns C (fun _=>none)) (old:∀b o,s2.heap.get? b=some o→h1.get? b=some o) :
  Inv (bE X pins s2 H2 scope C (own ++ cs) fp) [] (bL σ cap own.length) H2 { s2 with heap:=h1,toks:=tk }:=by
 have hfr:∀y∈scope.names,y.2=.free→∃c,X.env.cells.lookup y.1=some c:=fun y hy e=>I.ok.has y.1 (ok.free y hy e)
 have sub:∀x c,(bp X.env scope.names []).lookup x=some c→X.env.cells.lookup x=some c:=fun x c e=>cG X.env scope.names [] x c hfr (fun _ _ z=>by simp at z) e
 have clt:∀x c,(bp X.env scope.names []).lookup x=some c→c < s2.heap.objs.size:=fun x c e=>by
  obtain ⟨v,o,ho,_⟩:=I.cell x c (sub x c e)
  exact Heap.lt_size ho
 refine ⟨⟨I.ok.mod,ok.kind,I.ok.glob,I.ok.blt,hC,fun y z c h1 h2=>I.ok.inj y z c (sub y c h1) (sub z c h2),fun y hy=>?_,fun y c z=>?_,I.ok.hd,I.ok.frames,.inl rfl,fun b hb=>?_,I.bs,Nat.le_trans I.ok.bsz I.sz,fun b o e hb=>?_,fun b hb z=>?_,I.stack,I.stkFree⟩,
  rfl,I.bare,Un.kept old,⟨_,hns,fun i y v e1 e2 e3=>?_⟩,fun y c e=>?_,I.hok.fresh hC,fun y c e=>I.freeC y c (sub y c e),fun p hp=>?_,I.hok.kept old,?_⟩
 ·have hm:=gL ok.cell hy
  exact eH X.env scope.names [] y hm
 ·exact absurd (show false=true from z) Bool.false_ne_true
 ·exact ⟨Nat.ne_of_lt (Nat.lt_of_lt_of_le (hfl b hb) hC),fun x c e=>(hf b hb).2.2.2.2.1 x c (sub x c e)⟩
 ·rcases (hf b hb).2.2.2.1 with z | z
  ·exact I.ok.noex b o e z
  ·exact absurd (Nat.lt_of_lt_of_le (Heap.lt_size (I.ok.bs b o e).1) z) (Nat.lt_irrefl _)
 ·rcases List.mem_cons.mp (I.stkSub b z) with q | q
  ·exact (hf b hb).2.1 q
  ·exact (hf b hb).2.2.1 q
 ·have hi:own.length≤i:=by
   refine Nat.le_of_not_lt fun q=>?_
   unfold bL at e2
   rw [List.getElem?_append_left (by simpa using q),List.getElem?_replicate] at e2
   split at e2 <;> cases e2
  have e1':cs[i - own.length]? = some y:=by
   have e1:(own ++ cs)[i]? = some y:=e1
   rwa [List.getElem?_append_right hi] at e1
  obtain ⟨j,hj,hN,hm⟩:=ok.caps _ y e1'
  have hk:=ok.free _ hm rfl
  have e2':σ[j]? = some (some v):=by
   unfold bL at e2
   rw [List.getElem?_append_right (by simpa using hi),List.length_replicate,List.getElem?_map,hj] at e2
   have e2:(σ[j]?).join=some v:=by simpa using e2
   cases q:σ[j]? with
   | none=>rw [q] at e2; cases e2
   | some w=>rw [q] at e2; have:w=some v:=e2; rw [this]
  obtain ⟨m,hn,hl⟩:=I.loc
  obtain ⟨u,ru,l⟩:=hl j y v hN e2' (by rcases hk with q | q; exact .inr (.inl q); exact .inr (.inr q))
  refine ⟨u,ru,.inr ?_⟩
  obtain ⟨c,hc⟩:=eH X.env scope.names [] y hm
  have hc':=sub y c hc
  have cellu:h1.IsCell c (some u):=by
   rcases l with ⟨k,_⟩ | ⟨k,c',e,o,ho,hd⟩
   ·rcases hk with q | q <;> (have z:X.env.kindOf y=_:=q; rw [k] at z; cases z)
   ·rw [hc'] at e; cases e
    exact ⟨o,old _ _ ho,hd⟩
  refine ⟨?_,c,hc,cellu⟩
  rcases e3 with z | z | z
  ·exfalso
   have key:∀names:List (Str×NameKind),True:=fun _=>trivial
   have z:(relabel scope X.env).names.lookup y=some .local:=z
   have zz:scope.names.lookup y=some .local:=by
    unfold relabel at z
    dsimp only at z
    revert z
    generalize scope.names=names
    induction names with
    | nil=>intro z; simp at z
    | cons q r ih =>
     obtain ⟨n,k⟩:=q
     intro z
     rw [List.map_cons] at z
     by_cases hb:(k == NameKind.free && X.env.scope.kind == .function && X.env.kindOf n == some .cell)=true
     ·dsimp only at z
      rw [if_pos hb,List.lookup_cons] at z
      rw [List.lookup_cons]
      cases hx:y == n with
      | true=>rw [hx] at z; cases z
      | false=>rw [hx] at z; exact ih z
     ·dsimp only at z
      rw [if_neg hb,List.lookup_cons] at z
      rw [List.lookup_cons]
      cases hx:y == n with
      | true=>rw [hx] at z; exact z
      | false=>rw [hx] at z; exact ih z
   have:=ok.free2 y hm zz
   exact this
  ·exact .inl z
  ·exact .inr z
 ·obtain ⟨v,o,ho,hd⟩:=I.cell y c (sub y c e)
  exact ⟨v,o,old _ _ ho,hd⟩
 ·have hp':p∈X.pn ++ pins:=by
   have:p∈(X.pn ++ pins) ++ []:=hp
   simpa using this
  obtain ⟨e,n,ne,nf,d⟩:=I.pin p hp'
  refine ⟨old _ _ e,n,Nat.ne_of_lt (Nat.lt_of_lt_of_le (Heap.lt_size e) hC),fun z=>?_,d⟩
  rcases List.mem_cons.mp (I.stkSub p.1 z) with q | q
  ·exact ne q
  ·exact nf q
 ·show (bL σ cap own.length).length=(own ++ cs).length
  unfold bL
  rw [List.length_append,List.length_replicate,List.length_map,List.length_append,ok.len]
end
end L2
set_option Elab.async false
set_option linter.all false
set_option maxRecDepth 100000
namespace L2
open PySem PySem.Spec PyProof.Rows
section
variable {X:Cx} {pins:List (Addr×Obj)} {σ:St} {H2:Hp} {s2:Shared} {scope:Scope} {own cs:List Str} {cap:List Nat} {fp:List Addr} {it:Addr} {tn:Nat→Heap→Prop}
 {elt tg iter:Expr} {ifs:List Expr} {pos:Pos} {J:It} {g:TG} {tt:TT} {te:TE} {E:Value→Shared→Prop} {W:Nat→Nat→List V→Hp→Prop} {Qf:List V→Hp→Prop}
structure BlkEnd (X:Cx) (pins:List (Addr×Obj)) (σ:St) (Qf:List V→Hp→Prop) (D C:Addr) (s':Shared):Prop where
 ex:∃ (ys:List V) (H':Hp),H' D=none∧Qf ys H'∧Inv X pins σ (upd H' D (.lst ys)) s'∧di X pins (upd H' D (.lst ys)) C
 ns:∃m,s'.heap.Ns C m
theorem Inv.bareP {pins':List (Addr×Obj)} {H:Hp} {s:Shared} (I:Inv X pins' σ H s):Inv X [] σ H s:=I.pins_of fun p hp=>absurd hp (by simp)
theorem ir {RR:Value→Addr→Result→Shared→Prop} (I:Inv X pins σ H2 s2) (ok:CompOk X scope own cs cap) (hc:X.calm=true) (T:Turn X.prog X.w X.K tg J fp it tn) (st:tn 0 s2.heap) (hf:∀b∈fp,di X pins H2 b)
  (hg:∀C,PG (bE X pins s2 H2 scope C (own ++ cs) fp) tg g) (hi:∀C,mZ (bE X pins s2 H2 scope C (own ++ cs) fp) ifs tt) (he:∀C,PE (bE X pins s2 H2 scope C (own ++ cs) fp) elt te)
  (w0:∃m,W 0 m [] H2) (turn:iq σ cap own.length J g tt te Qf W)
  (hRR:∀D C s',BlkEnd X pins σ Qf D C s'→RR (.ref D) C (.ok .next) s') :
  wpAny (model X.prog X.w) X.A (newList []) (fun acc s₃=>wpAny (model X.prog X.w) X.A (newFunctionEnv scope X.env.globals (bp X.env scope.names []) [] X.env.qual none .none (some X.env)) (fun cenv s₄ =>
   codeAny (model X.prog X.w) X.A (.compStart (.ListComp elt [⟨tg,iter,ifs,0⟩] scope pos) 0 (.ref it) acc { cenv with scope:=relabel scope X.env }) (RR acc cenv.locals) s₄) E s₃) E s2:=by
 refine wpAny_newObj_type (wpAny_newFunctionEnv ok.cell (by intro y hy; simp at hy) (fun h₁ hns₁ hsb₁=>?_) ok.kind)
 dsimp only at hns₁ hsb₁ ⊢
 generalize hHH:s2.heap.push { cls:=.type "list",dict:=none,data:=.seq ([]:List Value).toArray }=HH at hns₁ hsb₁ ⊢
 have hCs:HH.objs.size=s2.heap.objs.size + 1:=by rw [← hHH,Heap.size_push]
 have hDC:s2.heap.objs.size≠HH.objs.size:=by rw [hCs]; exact Nat.ne_of_lt (Nat.lt_succ_self _)
 have hCle:s2.heap.objs.size≤HH.objs.size:=by rw [hCs]; exact Nat.le_succ _
 have hfl:∀b∈fp,b < s2.heap.objs.size:=fun b hb=>by
  obtain ⟨o,e,_⟩:=T.obj 0 _ st b hb
  exact Heap.lt_size e
 have old:∀b o,s2.heap.get? b=some o→h₁.get? b=some o:=fun b o e=>hsb₁.extBut b o (by rw [hCs]; exact Nat.ne_of_lt (Nat.lt_succ_of_lt (Heap.lt_size e))) (Heap.get?_push_of_some _ (hHH ▸ Heap.get?_push_of_some _ e))
 have hacc:h₁.PlainList s2.heap.objs.size #[]:=⟨_,hsb₁.extBut _ _ hDC (Heap.get?_push_of_some _ (hHH ▸ Heap.get?_push_size _ rfl))⟩
 generalize hD:s2.heap.objs.size=D at *
 generalize hCC:HH.objs.size=C at *
 have hns₁':h₁.Ns C (fun _=>none):=hns₁
 have I0:Inv (bE X pins s2 H2 scope C (own ++ cs) fp) [] (bL σ cap own.length) H2 { s2 with heap:=h₁,toks:=s2.toks + ([]:List (Str×Value)).length } :=
  lg I ok hf (fun b hb=>by rw [hD]; exact hfl b hb) (by rw [hD]; exact hCle) hns₁' old
 have Dfs:D∉frs X.stack:=fun hb=>by
  obtain ⟨_,o,ho,_⟩:=I.stack.mem hb
  exact absurd (Heap.lt_size ho) (by rw [hD]; exact Nat.lt_irrefl _)
 have Dfp:∀b∈fp,D≠b:=fun b hb z=>absurd (hfl b hb) (by rw [← z]; exact Nat.lt_irrefl _)
 have clt:∀x c,(bp X.env scope.names []).lookup x=some c→c < D:=fun x c e=>by
  have e':=cG X.env scope.names [] x c (fun y hy e=>I.ok.has y.1 (ok.free y hy e)) (fun _ _ z=>by simp at z) e
  obtain ⟨v,o,ho,_⟩:=I.cell x c e'
  have:=Heap.lt_size ho
  rw [hD] at this; exact this
 have plt:∀p∈X.pn ++ pins,p.1 < D:=fun p hp=>by
  have:=Heap.lt_size (I.pin p hp).1
  rw [hD] at this; exact this
 have stat:∀ {H':Hp} {ob:Obj},(∀b∈fp,H' b=none)→∀b∈fp,di (bE X pins s2 H2 scope C (own ++ cs) fp) [(D,ob)] H' b:=fun {H' ob} hn b hb=>by
  have q:=I0.ok.exf b hb
  refine ⟨hn b hb,q.1,I0.ok.exfs b hb,.inl hb,q.2,fun p hp=>?_⟩
  rcases List.mem_append.mp hp with z | z
  ·exact (hf b hb).2.2.2.2.2 p z
  ·have:p=(D,ob):=by simpa using z
   subst this
   exact Dfp b hb
 have loop:codeAny (model X.prog X.w) X.A (.compLoop (.ListComp elt [⟨tg,iter,ifs,0⟩] scope pos) 0 (.ref it) (.ref D) (compEnvC scope (bp X.env scope.names []) C X.env)) (RR (.ref D) C)
   { s2 with heap:=h₁,toks:=s2.toks + ([]:List (Str×Value)).length }:=by
  obtain ⟨m0,w0⟩:=w0
  refine codeAny_loop rfl (fun n s'=>∃i H' its ys,Inv (bE X pins s2 H2 scope C (own ++ cs) fp) [] (bL σ cap own.length) H' s'∧tn i s'.heap∧(∀b∈fp,H' b=none)∧s'.heap.PlainList D its.toArray∧Vals ys its∧H' D=none∧W i n ys H') ?_ m0
   ⟨0,H2,[],[],I0,T.keep 0 _ _ st fun b _ o e=>old b o e,fun b hb=>(hf b hb).1,hacc,.nil,I.hok.fresh (by rw [hD]; exact Nat.le_refl _),w0⟩
  rintro n s3 ⟨i,H3,its,ys,I3,st3,fr3,⟨nn,pl3⟩,rv3,hD3,w3⟩
  show wpAny _ X.A ((compTurn (.ListComp elt [⟨tg,iter,ifs,0⟩] scope pos) 0 (.ref it) (.ref D) (compEnvC scope (bp X.env scope.names []) C X.env)).onRaise (fun x=>do noteFrame x (compEnvC scope (bp X.env scope.names []) C X.env); theTreesLotGoes x)) _ _ s3
  refine wpAny_noted ?_
  rw [compTurn_list]
  refine wpAny_bind (wpAny_standAt (wpAny_bind ?_))
  have I3':Inv (bE X pins s2 H2 scope C (own ++ cs) fp) [(D, { cls:=.type "list", data:=.seq its.toArray nn })] (bL σ cap own.length) H3 s3 :=
   I3.pins_of fun p hp=>by
    have:p=(D,{ cls:=.type "list",data:=.seq its.toArray nn }):=by simpa using hp
    subst this
    exact ⟨pl3,hD3,hDC,Dfs,fun v z=>by cases z⟩
  rcases turn i n ys H3 w3 with ⟨stop,hz,qf⟩ | ⟨go,hz,step⟩
  ·refine thn (T.done (bE X pins s2 H2 scope C (own ++ cs) fp) rfl rfl rfl hc i _ s3 _ H3 _ I3' (stat fr3) st3 stop) fun r s4 ⟨hr,I4⟩=>?_
   subst hr
   refine wpAny_pure (hRR D C s4 ⟨⟨ys,H3,hD3,qf,?_,?_⟩,?_⟩)
   ·have pl4:=(I4.pin (D,_) (List.mem_append_right _ (List.mem_singleton.mpr rfl))).1
    have u4:=I4.base
    have Ds2:s2.heap.get? D=none:=Heap.get?_none_of_le (by rw [hD]; exact Nat.le_refl _)
    refine I.call' (s':=s4) (ch:=fp) I4.os ⟨u4.keep,u4.slot,fun b o e n hx=>?_,u4.there,fun b xs e=>?_,fun b o u e=>?_,fun b ps e=>?_⟩ ?_ I4.bare fun b hb=>⟨(hf b hb).2.2.2.1,(hf b hb).2.1,(hf b hb).2.2.2.2.1,(hf b hb).2.2.2.2.2⟩
    ·rw [aw (fun z=>by rw [z,Ds2] at e; cases e)]
     exact u4.free b o e n hx
    ·have:=u4.tups b xs e
     rw [aw (ag this hD3)]; exact this
    ·have:=u4.frzs b o u e
     rw [aw (ag this hD3)]; exact this
    ·obtain ⟨more,e'⟩:=u4.tbls b ps e
     exact ⟨more,by rw [aw (ag e' hD3)]; exact e'⟩
    ·exact I4.hok.add hD3 ⟨hz,its,nn,rv3,pl4⟩
   ·have CH:(upd H3 D (.lst ys)) C=none:=by rw [aw (Ne.symm hDC)]; exact I4.free
    exact I.fpOk (H':=upd H3 D (.lst ys)) (by rw [hD]; exact hCle) CH
   ·obtain ⟨m,hn,_⟩:=I4.loc
    exact ⟨m,hn⟩
  ·refine thn (T.item (bE X pins s2 H2 scope C (own ++ cs) fp) rfl rfl rfl hc i _ s3 _ H3 _ I3' (stat fr3) st3 go) fun r s4 ⟨u,hr,h4⟩=>?_
   subst hr
   refine wpAny_bind (thn h4 fun _ s5 ⟨x,H5,I5,r5,y5,st5,fr5⟩=>?_)
   have I5':=I5.pinned (stat fr5) (T.obj _ _ st5)
   refine wpAny_bind (wpAny_mono (hg C _ s5 _ H5 x u _ I5' r5 (step x H5 y5)) (fun _ s6 ⟨σ6,H6,I6,le6,q6⟩=>?_) fun _ _ z=>False.elim z)
   refine wpAny_bind (wpAny_mono (hi C _ s6 σ6 H6 _ I6 q6) (fun b s7 ⟨H7,I7,q7⟩=>?_) fun _ _ z=>False.elim z)
   have back:∀ {pins':List (Addr×Obj)} {H8:Hp} {s8:Shared},Inv (bE X pins s2 H2 scope C (own ++ cs) fp) pins' σ6 H8 s8→Inv (bE X pins s2 H2 scope C (own ++ cs) fp) [] (bL σ cap own.length) H8 s8:=fun I8 =>
    I8.bareP.weak le6.1.symm fun i v e=>le6.2 i v e
   cases b with
   | false =>
    rw [if_neg Bool.false_ne_true] at q7
    obtain ⟨m',hm,w7⟩:=q7
    refine wpAny_pure ⟨rfl,m',hm,i + 1,H7,its,ys,back I7,T.keep _ _ _ st5 fun b hb o e=>?_,fun b hb=>?_,⟨nn,?_⟩,rv3,?_,w7⟩
    ·exact (I7.pin (b,o) (List.mem_append_right _ (List.mem_append_right _ (bG hb e)))).1
    ·obtain ⟨o,e,d⟩:=T.obj _ _ st5 b hb
     exact (I7.pin (b,o) (List.mem_append_right _ (List.mem_append_right _ (bG hb e)))).2.1
    ·exact (I7.pin (D,_) (List.mem_append_right _ (List.mem_append_left _ (List.mem_singleton.mpr rfl)))).1
    ·exact (I7.pin (D,_) (List.mem_append_right _ (List.mem_append_left _ (List.mem_singleton.mpr rfl)))).2.1
   | true =>
    rw [if_pos rfl] at q7
    refine wpAny_bind (wpAny_bind (wpAny_mono (he C _ s7 σ6 H7 _ I7 q7) (fun y s8 ⟨v,H8,I8,r8,m',hm,w8⟩=>?_) fun _ _ z=>False.elim z))
    have pD:=I8.pin (D,{ cls:=.type "list",data:=.seq its.toArray nn }) (List.mem_append_right _ (List.mem_append_left _ (List.mem_singleton.mpr rfl)))
    have hlen:=rv3.length
    refine wpAny_bind (wpAny_list_append_plain (hsz:=by rw [List.size_toArray]; omega) ⟨nn,pD.1⟩ fun h9 pl9 sb9=>wpAny_pure (wpAny_pure ?_))
    have I8':=back I8
    refine ⟨rfl,m',hm,i + 1,H8,its ++ [y],ys ++ [v],?_,T.keep _ _ _ st5 fun b hb o e=>?_,fun b hb=>?_,?_,rv3.append (.cons r8 .nil),pD.2.1,w8⟩
    ·exact I8'.turned (t':=s8.toks) (fun b o hb e=>sb9.extBut b o hb e) pD.2.1 hDC (.inr (by show s2.heap.objs.size≤D; rw [hD]; exact Nat.le_refl _)) (fun x c e=>Nat.ne_of_lt (clt x c e)) fun p hp=>by
      have hp':p∈X.pn ++ pins:=by
       have:p∈(X.pn ++ pins) ++ []:=hp
       simpa using this
      exact Nat.ne_of_lt (plt p hp')
    ·exact sb9.extBut b o (Ne.symm (Dfp b hb)) (I8.pin (b,o) (List.mem_append_right _ (List.mem_append_right _ (bG hb e)))).1
    ·obtain ⟨o,e,d⟩:=T.obj _ _ st5 b hb
     exact (I8.pin (b,o) (List.mem_append_right _ (List.mem_append_right _ (bG hb e)))).2.1
    ·have e:its.toArray.push y=(its ++ [y]).toArray:=by simp
     rw [← e]; exact pl9
 exact codeAny_compStart_list loop (T.self _ 0 _ _ _ (T.keep 0 _ _ st fun b _ o e=>old b o e) loop)
def ng (wi:TI) (cap:List Nat) (k:Nat) (g:TG) (tt:TT) (te:TE):TE:=fun σ H Q=>wi σ H fun J H1 =>
 ∃W:Nat→Nat→List V→Hp→Prop,(∃m,W 0 m [] H1)∧iq σ cap k J g tt te (fun ys H'=>∀p,H' p=none→Q (.ref p) (upd H' p (.lst ys))) W
theorem eY {wi:TI} (hc:X.calm=true) (hit:PI X tg iter wi) (ok:CompOk X scope own cs cap)
  (hg:∀pins s2 H2 C fp,PG (bE X pins s2 H2 scope C (own ++ cs) fp) tg g) (hi:∀pins s2 H2 C fp,mZ (bE X pins s2 H2 scope C (own ++ cs) fp) ifs tt) (he:∀pins s2 H2 C fp,PE (bE X pins s2 H2 scope C (own ++ cs) fp) elt te)
  (hs:∀x,foldedSetIterable iter X.env x=pure x:=by intro _; rfl):PE X (.ListComp elt [⟨tg,iter,ifs,0⟩] scope pos) (ng wi cap own.length g tt te):=by
 intro pins s σ H Q I h
 rw [eval_ListComp]
 refine wpAny_comprehension_free (use:=none) rfl hs (fq fun y hy e=>I.ok.has y.1 (ok.free y hy e)) ok.kind ok.names (thn (hit pins s σ H _ I h) fun v s1 h1=>thn h1 fun itv s2 h2=>?_)
 obtain ⟨it,fp,tn,J,H2,e,I2,T,st2,f2,W,w0,turn⟩:=h2
 subst e
 refine ir (RR:=fun acc C=>compPost (model X.prog X.w) X.A X.xe none (EP X pins σ Q) acc C) I2 ok hc T st2 f2 (fun C=>hg _ _ _ _ _) (fun C=>hi _ _ _ _ _) (fun C=>he _ _ _ _ _) w0 turn fun D C s' B=>?_
 obtain ⟨⟨ys,H',hD,q,I',fp'⟩,m,hn⟩:=B
 obtain ⟨f0,f1,f2',f3,f4,f5⟩:=fp'
 exact ⟨m,hn,fun h' sb=>⟨.ref D,_,I'.turned (t':=s'.toks) (fun b o hb e=>sb.extBut b o hb e) f0 f1 f3 f4 f5,rfl,q D hD⟩⟩
theorem dG {wi:TI} {i:Nat} {y:Str} {py spos:Pos} (hc:X.calm=true) (hN:X.N.Nodup) (hiy:X.N[i]? = some y) (hy:X.env.scope.names.lookup y=some .local)
  (hsw:swapsWith (.ListComp elt [⟨tg,iter,ifs,0⟩] scope pos) (some (.Name y py)) spos.line X.env=pure true) (hit:PI X tg iter wi) (ok:CompOk X scope own cs cap)
  (hg:∀pins s2 H2 C fp,PG (bE X pins s2 H2 scope C (own ++ cs) fp) tg g) (hi:∀pins s2 H2 C fp,mZ (bE X pins s2 H2 scope C (own ++ cs) fp) ifs tt) (he:∀pins s2 H2 C fp,PE (bE X pins s2 H2 scope C (own ++ cs) fp) elt te)
  (hs:∀x,foldedSetIterable iter X.env x=pure x:=by intro _; rfl):PS X (.Assign [.Name y py] (.ListComp elt [⟨tg,iter,ifs,0⟩] scope pos) spos) (qX (ng wi cap own.length g tt te) (ii i)):=by
 intro pins s σ H D0 I h
 rw [exec_Assign_Name_used _ _ _ _ hsw]
 refine wpAny_bind (wpAny_standAt (wpAny_bind ?_))
 show wpAny _ X.A (do let _←comprehension (.ListComp elt [⟨tg,iter,ifs,0⟩] scope pos) scope X.env _ (newList []) false (eval iter X.env) (some (assign (.Name y py) X.env))) _ _ s
 refine wpAny_bind (wpAny_mono (wpAny_comprehension_free (use:=some (assign (.Name y py) X.env)) (Q:=fun _ s'=>SP X pins D0 .next s') rfl hs (fq fun y hy e=>I.ok.has y.1 (ok.free y hy e)) ok.kind ok.names
  (thn (hit pins s σ H _ I h) fun v s1 h1=>thn h1 fun itv s2 h2=>?_)) (fun _ s' hq=>wpAny_pure (wpAny_pure hq)) fun _ _ e=>e)
 obtain ⟨it,fp,tn,J,H2,e,I2,T,st2,f2,W,w0,turn⟩:=h2
 subst e
 refine ir (RR:=fun acc C=>compPost (model X.prog X.w) X.A X.xe (some (assign (.Name y py) X.env)) (fun _ s'=>SP X pins D0 .next s') acc C) I2 ok hc T st2 f2 (fun C=>hg _ _ _ _ _) (fun C=>hi _ _ _ _ _) (fun C=>he _ _ _ _ _) w0 turn fun D C s' B=>?_
 obtain ⟨⟨ys,H',hD,q,I',fp'⟩,m,hn⟩:=B
 obtain ⟨f0,f1,f2',f3,f4,f5⟩:=fp'
 show wpAny _ X.A (assign (.Name y py) X.env (.ref D)) _ _ _
 refine wpAny_assign_Name (fX I' hN hiy (.inl hy) (v:=.ref D) rfl (fun s3 I3 ⟨a,sb,ha⟩=>?_) (.inr hy))
 have hCa:C≠a:=by
  rcases ha with z | z
  ·rw [z]; exact f1
  ·exact fun q=>f4 y a z q.symm
 refine ⟨m,hn.sameBut sb hCa,fun h' sb'=>⟨_,_,I3.turned (t':=s3.toks) (fun b o hb e=>sb'.extBut b o hb e) f0 f1 f3 f4 f5,q D hD⟩⟩
end
end L2
set_option Elab.async false
set_option linter.all false
set_option maxRecDepth 100000
namespace L2
open PySem PySem.Spec PyProof.Rows
def CDivB (i j:Int):Prop:=0 < j∧j≤10 ^ 60
theorem CDivB.np {i j:Int} (h:CDivB i j):Builtin.divisionGoesByPylong i j=false:=by
 refine PyProof.noPylong_of_log2 ?_
 have h1:j.natAbs < 2 ^ 200:=by
  obtain ⟨a,b⟩:=h
  omega
 have h2:j.natAbs.log2 < 200:=(Nat.log2_lt (by have:=h.1; omega)).mpr h1
 omega
section
variable {X:Cx}
theorem fu:OpR X (binaryOp .FloorDiv) (rI CDivB fun i j=>.int (i / j)):=opI fun i j _ _ _ _ _ hc q=>by
 refine floordiv_int (by have:=hc.1; omega) ?_ (.inl hc.np)
 rw [Int.fdiv_eq_ediv_of_nonneg _ (by have:=hc.1; omega)]
 exact q
theorem Inv.kitx {pins:List (Addr×Obj)} {σ:St} {H:Hp} {s:Shared} {x:V} {u t:Value} (I:Inv X pins σ H s) (rx:RelV x u) (ty:TyOf X.K H x t) :
  ∃P:Heap→Prop,PySem.W.KitX X.K u t P∧P s.heap∧u≠.builtin "__main__.__loader__#opaque" := by
 cases ty with
 | non=>cases (show u=Value.none from rx); exact ⟨_,PySem.W.kitx_none,True.intro,fun z=>nomatch z⟩
 | bl y=>cases (show u=Value.bool y from rx); exact ⟨_,PySem.W.kitx_bool,True.intro,fun z=>nomatch z⟩
 | int i=>obtain ⟨t,q⟩:=(show ∃t,u=Value.int i t from rx); cases q; exact ⟨_,PySem.W.kitx_int,True.intro,fun z=>nomatch z⟩
 | str y=>obtain ⟨t,q⟩:=(show ∃t,u=Value.str y t from rx); cases q; exact ⟨_,PySem.W.kitx_str,True.intro,fun z=>nomatch z⟩
 | flt y=>obtain ⟨t,q⟩:=(show ∃t,u=Value.float y t from rx); cases q; exact ⟨_,PySem.W.kitx_float,True.intro,fun z=>nomatch z⟩
 | @lst a xs ea =>
  cases (show u=Value.ref a from rx)
  obtain ⟨_,_,n,_,h1⟩:=(show ObjOk X.prog X.w H s.heap a (.lst xs) from I.hok a _ ea)
  exact ⟨_,PySem.W.kitx_list,⟨_,h1,rfl⟩,fun z=>nomatch z⟩
 | @frz a ob xs ea =>
  cases (show u=Value.ref a from rx)
  obtain ⟨_,_,_,n,_,h1⟩:=(show ObjOk X.prog X.w H s.heap a (.frz ob (.lst xs)) from I.hok a _ ea)
  exact ⟨_,PySem.W.kitx_list,⟨_,h1,rfl⟩,fun z=>nomatch z⟩
 | @tup a xs ea =>
  cases (show u=Value.ref a from rx)
  obtain ⟨_,_,_,p⟩:=(show ObjOk X.prog X.w H s.heap a (.tup xs) from I.hok a _ ea)
  obtain ⟨o,h1,h2,_⟩:=p
  exact ⟨_,PySem.W.kitx_tuple,⟨o,h1,h2⟩,fun z=>nomatch z⟩
 | @dK a kvs ea =>
  cases (show u=Value.ref a from rx)
  obtain ⟨_,_,vs,_,p⟩:=(show ObjOk X.prog X.w H s.heap a (.dK kvs) from I.hok a _ ea)
  obtain ⟨o,es,ep,h1,h2,_⟩:=p
  exact ⟨_,PySem.W.kitx_dict,⟨o,h1,h2.1⟩,fun z=>nomatch z⟩
 | @dT a kvs ea =>
  cases (show u=Value.ref a from rx)
  obtain ⟨_,_,xs,_,o,es,ep,h1,h2,_⟩:=(show ObjOk X.prog X.w H s.heap a (.dT kvs) from I.hok a _ ea)
  exact ⟨_,PySem.W.kitx_dict,⟨o,h1,h2.1⟩,fun z=>nomatch z⟩
 | @ins a C dx fs ea cl ha hn htk hm =>
  cases (show u=Value.ref a from rx)
  obtain ⟨mA,O,_⟩:=dB I.hok ea
  obtain ⟨od,J,_⟩:=O.look
  exact ⟨_,PySem.W.kitx_own (cl.get _) cl.hd ha hn htk hm,J,fun z=>nomatch z⟩
def clV:V→Option Value
 | .ty T=>some (.type T)
 | .ref C=>some (.ref C)
 | _=>none
theorem clV.rel {v:V} {u c:Value} (e:clV v=some c) (r:RelV v u):u=c:=by
 cases v with
 | ty T=>have e':Value.type T=c:=Option.some.inj e; rw [← e']; exact r
 | ref C=>have e':Value.ref C=c:=Option.some.inj e; rw [← e']; exact r
 | _=>cases e
def clVs:List V→Option (List Value)
 | []=>some []
 | v :: r=>match clV v,clVs r with
  | some c,some cs=>some (c :: cs)
  | _,_=>none
theorem clVs.rel:∀ {vs:List V} {us cs:List Value},clVs vs=some cs→Vals vs us→us=cs
 | [],_,_,e,.nil=>Option.some.inj e
 | v :: r,_,_,e,.cons r1 r2=>by
  unfold clVs at e
  split at e
  ·rename_i c cs' e1 e2
   cases e
   rw [clV.rel e1 r1,clVs.rel e2 r2]
  ·cases e
theorem aW:cq X (.builtin "isinstance") (fun xs H Q=>∃x cv t c b,xs=[x,cv]∧TyOf X.K H x t∧clV cv=some c∧PySem.W.kitOne X.K t c=some b∧Q (.bl b) H):=by
 intro pins s σ H xs us Q I rv h
 obtain ⟨x,cv,t,c,b,rfl,ty,e1,e2,q⟩:=h
 cases rv with
 | cons r1 rr =>
  cases rr with
  | cons r2 rr =>
   cases rr
   rw [clV.rel e1 r2]
   exact kX I r1 ty e2 fun tk=>⟨.bl b,H,I.tok tk,rfl,q⟩
theorem gM:cq X (.builtin "isinstance") (fun xs H Q=>∃x p t cvs cs b,xs=[x,.ref p]∧TyOf X.K H x t∧H p=some (.tup cvs)∧clVs cvs=some cs∧PySem.W.kitAny X.K t cs=some b∧Q (.bl b) H):=by
 intro pins s σ H xs us Q I rv h
 obtain ⟨x,p,t,cvs,cs,b,rfl,ty,hp,e1,e2,q⟩:=h
 cases rv with
 | cons r1 rr =>
  cases rr with
  | cons r2 rr =>
   cases rr
   cases r2
   obtain ⟨_,its,rits,o,ho,hc,n,hd⟩:=I.hok p _ hp
   obtain ⟨P,Z,p1,p2⟩:=I.kitx r1 ty
   obtain ⟨oc,od,dt,osl⟩:=o
   replace hc:oc=.type "tuple" := hc
   replace hd:dt=.seq its.toArray n:=hd
   subst hc hd
   have e3:=clVs.rel e1 rits
   subst e3
   exact PySem.W.kia_tup Z I.kIn p1 ho e2 p2 fun tk=>⟨.bl b,H,I.tok tk,rfl,q⟩
end
mutual
inductive DatV (K:PySem.W.Frag) (H:Hp):V→PyData→Prop
 | non:DatV K H .non .none
 | bl (b:Bool):DatV K H (.bl b) (.bool b)
 | int (i:Int):DatV K H (.int i) (.int i)
 | str (x:Str):DatV K H (.str x) (.str x)
 | lst {a:Addr} {xs:List V} {ds:List PyData}:SqL K H a xs→DatVs K H xs ds→DatV K H (.ref a) (.list ds)
 | tup {a:Addr} {xs:List V} {ds:List PyData}:SqT K H a xs→DatVs K H xs ds→DatV K H (.ref a) (.tuple ds)
inductive DatVs (K:PySem.W.Frag) (H:Hp):List V→List PyData→Prop
 | nil:DatVs K H [] []
 | cons {x:V} {d:PyData} {xs:List V} {ds:List PyData}:DatV K H x d→DatVs K H xs ds→DatVs K H (x :: xs) (d :: ds)
end
section
variable {X:Cx} {pins:List (Addr×Obj)} {σ:St} {H:Hp} {s:Shared}
mutual
theorem Inv.reads (I:Inv X pins σ H s):∀ {v:V} {d:PyData},DatV X.K H v d→∀ {u:Value},RelV v u→∃as,Reads s.heap u d as
 | _,_,.non,u,r=>by cases (show u=Value.none from r); exact ⟨_,.none⟩
 | _,_,.bl b,u,r=>by cases (show u=Value.bool b from r); exact ⟨_,.bool b⟩
 | _,_,.int i,u,r=>by obtain ⟨t,e⟩:=(show ∃t,u=Value.int i t from r); subst e; exact ⟨_,.int i t⟩
 | _,_,.str x,u,r=>by obtain ⟨t,e⟩:=(show ∃t,u=Value.str x t from r); subst e; exact ⟨_,.str x t⟩
 | _,_,.lst (a:=a) h hs,u,r=>by
  cases (show u=Value.ref a from r)
  obtain ⟨its,rv,⟨o,n,e,c,_,d⟩,_⟩:=I.list h
  obtain ⟨as,ra⟩:=I.readsAll hs rv
  exact ⟨_,.list e c d (by simpa using ra)⟩
 | _,_,.tup (a:=a) h hs,u,r=>by
  cases (show u=Value.ref a from r)
  obtain ⟨its,rv,⟨o,e,c,n,d⟩,_⟩:=I.tuple h
  obtain ⟨as,ra⟩:=I.readsAll hs rv
  exact ⟨_,.tuple e c d (by simpa using ra)⟩
theorem Inv.readsAll (I:Inv X pins σ H s):∀ {vs:List V} {ds:List PyData},DatVs X.K H vs ds→∀ {us:List Value},Vals vs us→∃as,ReadsAll s.heap us ds as
 | _,_,.nil,_,.nil=>⟨_,.nil⟩
 | _,_,.cons h hs,_,.cons r rs=>by
  obtain ⟨as,ra⟩:=I.reads h r
  obtain ⟨bs,rb⟩:=I.readsAll hs rs
  exact ⟨_,.cons ra rb⟩
end
end
section
variable {X:Cx}
theorem jq (hu:X.A.units + 64 < cLine):OpR X (compareOp .Eq) (fun x y H Q=>∃da db,DatV X.K H x da∧DatV X.K H y db∧SeqAt.shaped da=true∧SeqAt.shaped db=true∧Q (.bl (PyData.eqv da db)) H):=by
 intro pins s σ H x y v u Q I rx ry h
 obtain ⟨da,db,hx,hy,s1,s2,q⟩:=h
 obtain ⟨as,ra⟩:=I.reads hx rx
 obtain ⟨bs,rb⟩:=I.reads hy ry
 exact eq_dataH ra rb s1 s2 hu ⟨.bl _,H,I,rfl,q⟩
end
section
variable {prog:Program} {w:World} {A:Around} {E:Value→Shared→Prop}
theorem fw {it l:Addr} {items:Array Value} (hne:l≠it):∀ (n i:Nat) (s:Shared) (Q:List Value→Shared→Prop),s.heap.IsListIter it l i→s.heap.IsList l items→i + n≤items.size →
  (∀h',h'.IsListIter it l (i + n)→Heap.SameBut it s.heap h'→Q ((items.toList.drop i).take n) { s with heap:=h' })→wpAny (model prog w) A (draw (.ref it) n) Q E s
 | 0,i,s,Q,hit,_,_,hQ=>by
  show wpAny _ _ (pure []) Q E s
  exact wpAny_pure (by simpa using hQ s.heap hit (Heap.SameBut.refl ..))
 | n + 1,i,s,Q,hit,ht,hle,hQ=>by
  have hlt:i < items.size:=by omega
  show wpAny _ _ (pyNext (.ref it) >>= _) Q E s
  refine wpAny_bind (wpAny_pyNext_list_item hit ht (x:=items[i]) (by simp [hlt]) fun h₁ hit₁ hs₁=>?_)
  refine wpAny_bind (wpAny_holding (fw hne n (i + 1) _ _ hit₁ (ht.extBut hs₁.extBut hne) (by omega) fun h₂ hit₂ hs₂=>wpAny_pure ?_))
  have hd:items.toList.drop i=items[i] :: items.toList.drop (i + 1):=by simp [List.drop_eq_getElem_cons,hlt]
  have q:=hQ h₂ (by rw [show i + (n + 1)=i + 1 + n by omega]; exact hit₂) (hs₁.trans hs₂)
  rw [hd,List.take_succ_cons] at q
  exact q
theorem dH {s:Shared} {l:Addr} {items:Array Value} {Q:List Value→Shared→Prop} (hh:A.handled=none) (ht:s.heap.IsList l items)
  (hQ:∀h',Heap.ExtBut s.heap.objs.size s.heap h'→Q items.toList { s with heap:=h' }):wpAny (model prog w) A (unpackItems (.ref l) items.size none) Q E s:=by
 have hlt:l≠s.heap.objs.size:=by obtain ⟨o,ho,_⟩:=ht; exact Nat.ne_of_lt (Heap.lt_size ho)
 have hp:(s.heap.push { cls:=.type "list_iterator",data:=.fields #[.ref l,.int 0 0] }).IsList l items:=by
  obtain ⟨o,ho,r⟩:=ht; exact ⟨o,Heap.get?_push_of_some _ ho,r⟩
 unfold unpackItems
 refine wpAny_bind ?_
 ·unfold notIterableAtAll
  refine wpAny_bind (wpAny_specialOf ht.typeIs PySem.slot_list_iter.lookup ?_)
  refine wpAny_pure ?_
  simp only [Bool.false_eq_true,if_false]
  refine wpAny_bind (wpAny_holding (wpAny_pyIter_list ht ?_))
  refine wpAny_bind (wpAny_holding (fw hlt items.size 0 _ _ ⟨_,Heap.get?_push_size _ rfl,rfl,rfl⟩ hp (by omega) fun h₁ hit₁ hs₁=>?_))
  have hall:List.take items.size (List.drop 0 items.toList)=items.toList:=by
   rw [List.drop_zero]; exact List.take_of_length_le (by simp)
  rw [hall]
  rw [if_neg (by simp)]
  have ht₁:h₁.IsList l items:=hp.extBut hs₁.extBut hlt
  refine wpAny_bind (wpAny_holding (wpAny_pyNext_list_end hh hit₁ ht₁ (by simp) fun h₂ he₂=>?_))
  simp only [Option.isSome_none,Bool.false_eq_true,if_false]
  refine wpAny_pure (hQ h₂ fun b o hb e=>he₂ b o hb (hs₁.extBut b o hb (Heap.get?_push_of_some _ e)))
theorem dm {s:Shared} {env:Env} {elts:List Expr} {x1} {pos:Pos} {l:Addr} {items:Array Value} {Q:Unit→Shared→Prop} (hh:A.handled=none) (ht:s.heap.IsList l items)
  (hn:(assignEach elts env).length=items.size) (hstar:(assignEach elts env).findIdx? (·.1)=none)
  (h:∀h',Heap.ExtBut s.heap.objs.size s.heap h'→wpAny (model prog w) A (assignInOrder ((assignEach elts env).map (·.2)) items.toList) Q E { s with heap:=h' }) :
  wpAny (model prog w) A (assign (.Tuple elts x1 pos) env (.ref l)) Q E s:=by
 rw [assign_Tuple]
 refine wpAny_bind (wpAny_standAt ?_)
 unfold unpack
 rw [hn,hstar]
 exact wpAny_bind (wpAny_holding (dH hh ht h))
end
section
variable {X:Cx} {pos:Pos}
def Bc (K:PySem.W.Frag) (n:Nat) (t:TGs):TG:=fun v σ H Q=>∃a xs,v=.ref a∧(SqL K H a xs∨SqT K H a xs)∧xs.length=n∧t xs σ H Q
theorem nh {es:List Expr} {k:Nat} {t:TGs} {n:Nat} (hc:X.calm=true) (h:PGs X es t)
  (hn:(assignEach es X.env).length=n:=by rfl) (hst:(assignEach es X.env).findIdx? (·.1)=none:=by rfl):PG X (.Tuple es k pos) (Bc X.K n t):=by
 intro pins s σ H v u Q I r hw
 obtain ⟨a,xs,e1,hq,hl,hw⟩:=hw
 rcases hq with hq | hq
 ·subst e1
  cases r
  obtain ⟨its,rv,ht,hz⟩:=I.list hq
  refine dm (I.ok.hd hc) ht.isList (by simp [hn,← hl,rv.length]) hst fun h' hx=>?_
  have I1:Inv X pins σ H { s with heap:=h' }:=I.kept (t':=s.toks) fun b o e=>hx b o (Nat.ne_of_lt (Heap.lt_size e)) e
  exact h pins _ σ H xs _ Q I1 (by simpa using rv) hw
 ·exact bd hc h hn hst pins s σ H v u Q I r ⟨a,xs,e1,hq,hl,hw⟩
end
def Itz (l1 l2:Addr):It :=
  ⟨fun i H=>∃xs ys x y,H l1=some (.lst xs)∧H l2=some (.lst ys)∧xs[i]? = some x∧ys[i]? = some y,
   fun i H v H'=>∃p xs ys x y,H p=none∧v=.ref p∧H'=upd H p (.tup [x,y])∧H l1=some (.lst xs)∧H l2=some (.lst ys)∧xs[i]? = some x∧ys[i]? = some y,
   fun i H=>∃xs ys,H l1=some (.lst xs)∧H l2=some (.lst ys)∧(xs.length≤i∨ys.length≤i)⟩
section
variable {X:Cx}
theorem Inv.turnedN {pins:List (Addr×Obj)} {σ:St} {H:Hp} {s:Shared} {h':Heap} {t':Nat} {ch:List Addr} (I:Inv X pins σ H s) (hf:∀b∈ch,di X pins H b) (k:∀b o,b∉ch→s.heap.get? b=some o→h'.get? b=some o):Inv X pins σ H { s with heap:=h',toks:=t' }:=by
 have hLc:X.env.locals∉ch:=fun z=>(hf _ z).2.1 rfl
 have nt:∀b u,H b=some u→b∉ch:=fun b u e z=>by rw [(hf b z).1] at e; cases e
 refine I.step (g':=s.gens) (d':=s.drawn) (ch:=ch) (fun b hb=>⟨(hf b hb).2.2.2.1,(hf b hb).2.1,(hf b hb).2.2.2.2.1,(hf b hb).2.2.2.2.2⟩) (fun b o _ _ hc e _=>k b o hc e) (fun b o _ _ hc e _=>⟨o.slots,k b o hc e⟩) (fun _ _ _ _ n=>n)
  (fun b o hc e=>⟨o,k b o hc e⟩) (fun _ _ e=>e) (fun _ _ _ e=>e) (fun b ps e=>⟨#[],by rw [e]; simp⟩) (fun m hm=>?_) (fun b u e=>?_) I.bare
 ·obtain ⟨o,es,ep,ho,r⟩:=hm
  exact ⟨o,es,ep,k _ o hLc ho,r⟩
 ·refine (I.hok b u e).stay (fun c v hc q=>k c v ?_ q) (fun _ q=>q) fun _ _ q=>q
  rcases hc with z | z
  ·rw [z]; exact nt b u e
  ·exact nt c _ z
theorem Inv.track {pins:List (Addr×Obj)} {σ:St} {H:Hp} {s:Shared} {a:Addr} {o:HO} (I:Inv X pins σ H s) (hf:di X pins H a) (fa:X.s₀.heap.objs.size≤a) (new:ObjOk X.prog X.w (upd H a o) s.heap a o):Inv X pins σ (upd H a o) s:=by
 obtain ⟨f0,f1,f2,f3,f4,f5⟩:=hf
 have s0:∀b o,X.s₀.heap.get? b=some o→b≠a:=fun b o e=>Nat.ne_of_lt (Nat.lt_of_lt_of_le (Heap.lt_size e) fa)
 refine ⟨I.ok,I.os,I.bare,⟨I.base.keep,I.base.slot,fun b o e n hx=>?_,I.base.there,fun b xs e=>?_,fun b o u e=>?_,fun b ps e=>?_⟩,I.loc,I.cell,?_,fun x c e=>?_,fun p hp=>?_,I.hok.add f0 new,I.len⟩
 ·rw [aw (s0 b o e)]; exact I.base.free b o e n hx
 ·have q:=I.base.tups b xs e
  rw [aw (ag q f0)]; exact q
 ·have q:=I.base.frzs b o u e
  rw [aw (ag q f0)]; exact q
 ·obtain ⟨more,q⟩:=I.base.tbls b ps e
  exact ⟨more,by rw [aw (ag q f0)]; exact q⟩
 ·rw [aw (Ne.symm f1)]; exact I.free
 ·rw [aw (f4 x c e)]; exact I.freeC x c e
 ·obtain ⟨e,n,r⟩:=I.pin p hp
  exact ⟨e,by rw [aw (f5 p hp)]; exact n,r⟩
end
structure ZipAp (z TI TO i1 i2:Addr):Prop where
 nd:[z,TI,TO,i1,i2].Nodup
theorem ni {P:Program} {w:World} {K:PySem.W.Frag} {es:List Expr} {kk:Nat} {tp:Pos} (l1 l2 z TI TO i1 i2:Addr) (D:ZipAp z TI TO i1 i2) :
  Turn P w K (.Tuple es kk tp) (Itz l1 l2) [z,TI,TO,i1,i2] z (fun i h=>IsZip h z TI TO .none∧IsPair h TI (.ref i1) (.ref i2)∧(∃a b,IsPair h TO a b)∧h.IsListIter i1 l1 i∧h.IsListIter i2 l2 i) where
 mem:=by simp
 obj:=fun i h st b hb=>by
  obtain ⟨a1,a2,⟨x,y,a3⟩,⟨o4,a4,_,d4⟩,⟨o5,a5,_,d5⟩⟩:=st
  simp only [List.mem_cons,List.not_mem_nil,or_false] at hb
  rcases hb with rfl | rfl | rfl | rfl | rfl
  ·exact ⟨_,a1,fun v q=>by cases q⟩
  ·exact ⟨_,a2,fun v q=>by cases q⟩
  ·exact ⟨_,a3,fun v q=>by cases q⟩
  ·exact ⟨_,a4,fun v q=>by rw [d4] at q; cases q⟩
  ·exact ⟨_,a5,fun v q=>by rw [d5] at q; cases q⟩
 keep:=fun i h h' st k=>by
  obtain ⟨a1,a2,⟨x,y,a3⟩,a4,a5⟩:=st
  exact ⟨k z (by simp) _ a1,k TI (by simp) _ a2,⟨x,y,k TO (by simp) _ a3⟩,a4.at fun o e=>k i1 (by simp) o e,a5.at fun o e=>k i2 (by simp) o e⟩
 item:=by
  intro X hP hw hK hc i pins s σ H E I hf st hg
  subst hP hw hK
  obtain ⟨a1,a2,⟨x0,y0,a3⟩,a4,a5⟩:=st
  obtain ⟨xs,ys,x,y,e1,e2,ex,ey⟩:=hg
  have tr:∀ {l:Addr} {zs:List V},H l=some (.lst zs)→∀b∈[z,TI,TO,i1,i2],l≠b:=fun e b hb q=>by rw [q,(hf b hb).1] at e; cases e
  have nd:=D.nd
  simp only [List.nodup_cons,List.mem_cons,List.not_mem_nil,or_false,not_or,List.nodup_nil,and_true,not_false_eq_true] at nd
  obtain ⟨⟨n1,n2,n3,n4⟩,⟨n5,n6,n7⟩,⟨n8,n9⟩,n10⟩:=nd
  have A':ZipApart z TI TO i1 i2 l1 l2:=⟨Ne.symm n1,Ne.symm n2,Ne.symm n3,Ne.symm n4,n5,n6,n7,n8,n9,n10,tr e1 z (by simp),tr e1 TO (by simp),tr e1 i1 (by simp),tr e1 i2 (by simp),tr e2 z (by simp),tr e2 TO (by simp),tr e2 i1 (by simp),tr e2 i2 (by simp)⟩
  obtain ⟨its1,rv1,p1,_⟩:=I.list (SqL.of e1)
  obtain ⟨its2,rv2,p2,_⟩:=I.list (SqL.of e2)
  obtain ⟨u1,hu1,r1⟩:=rv1.get ex
  obtain ⟨u2,hu2,r2⟩:=rv2.get ey
  refine wpAny_pyNext_zip_item A' a1 a2 a3 a4 a5 p1.isList p2.isList (x:=u1) (y:=u2) (by simpa using hu1) (by simpa using hu2) fun h' b1 b2 b3 b4 b5 b6 bk=>⟨_,rfl,?_⟩
  refine wpAny_letOwnedTupleGo_zip b1 fun h'' c1 cs=>?_
  have zs:z < s.heap.objs.size:=Heap.lt_size a1
  have k2:∀b o,b∉[z,TI,TO,i1,i2]→s.heap.get? b=some o→h''.get? b=some o:=fun b o hb e=>by
   simp only [List.mem_cons,List.not_mem_nil,or_false,not_or] at hb
   exact cs.extBut b o hb.1 (bk b o hb.1 hb.2.2.1 hb.2.2.2.1 hb.2.2.2.2 e)
  have I1:Inv X pins σ H { s with heap:=h'' }:=I.turnedN (t':=s.toks) hf k2
  have hp:h''.get? s.heap.objs.size=some { cls:=.type "tuple", data:=.seq #[u1, u2] }:=cs.extBut _ _ (Nat.ne_of_gt zs) b5
  have hn:H s.heap.objs.size=none:=I.hok.fresh (Nat.le_refl _)
  have fpk:=I.fpOk (H':=H) (Nat.le_refl _) hn
  have I2:Inv X pins σ (upd H s.heap.objs.size (.tup [x,y])) { s with heap:=h'' }:=I1.track fpk I.sz ⟨by show 2≤sizeLine; decide,[u1,u2],.cons r1 (.cons r2 .nil),_,hp,rfl,_,rfl⟩
  refine ⟨.ref s.heap.objs.size,_,I2,rfl,⟨_,xs,ys,x,y,hn,rfl,rfl,e1,e2,ex,ey⟩,⟨c1,?_,⟨u1,u2,cs.extBut _ _ (Ne.symm n2) b2⟩,b3.extBut cs.extBut (Ne.symm n3),b4.extBut cs.extBut (Ne.symm n4)⟩,fun b hb=>?_⟩
  ·exact cs.extBut _ _ (Ne.symm n1) (bk _ _ (Ne.symm n1) n5 n6 n7 a2)
  ·have hbl:b < s.heap.objs.size:=by
    simp only [List.mem_cons,List.not_mem_nil,or_false] at hb
    obtain ⟨o4,a4',_⟩:=a4
    obtain ⟨o5,a5',_⟩:=a5
    rcases hb with rfl | rfl | rfl | rfl | rfl
    ·exact zs
    ·exact Heap.lt_size a2
    ·exact Heap.lt_size a3
    ·exact Heap.lt_size a4'
    ·exact Heap.lt_size a5'
   rw [aw (Nat.ne_of_lt hbl)]
   exact (hf b hb).1
 done:=by
  intro X hP hw hK hc i pins s σ H E I hf st hg
  subst hP hw hK
  obtain ⟨a1,a2,⟨x0,y0,a3⟩,a4,a5⟩:=st
  obtain ⟨xs,ys,e1,e2,ex⟩:=hg
  have tr:∀ {l:Addr} {zs:List V},H l=some (.lst zs)→∀b∈[z,TI,TO,i1,i2],l≠b:=fun e b hb q=>by rw [q,(hf b hb).1] at e; cases e
  have nd:=D.nd
  simp only [List.nodup_cons,List.mem_cons,List.not_mem_nil,or_false,not_or,List.nodup_nil,and_true,not_false_eq_true] at nd
  obtain ⟨⟨n1,n2,n3,n4⟩,⟨n5,n6,n7⟩,⟨n8,n9⟩,n10⟩:=nd
  have A':ZipApart z TI TO i1 i2 l1 l2:=⟨Ne.symm n1,Ne.symm n2,Ne.symm n3,Ne.symm n4,n5,n6,n7,n8,n9,n10,tr e1 z (by simp),tr e1 TO (by simp),tr e1 i1 (by simp),tr e1 i2 (by simp),tr e2 z (by simp),tr e2 TO (by simp),tr e2 i1 (by simp),tr e2 i2 (by simp)⟩
  obtain ⟨its1,rv1,p1,_⟩:=I.list (SqL.of e1)
  obtain ⟨its2,rv2,p2,_⟩:=I.list (SqL.of e2)
  have l1':=rv1.length
  have l2':=rv2.length
  refine wpAny_pyNext_zip_end (I.ok.hd hc) A' a1 a2 a3 a4 a5 p1.isList p2.isList (by rcases ex with q | q; exact .inl (by simp; omega); exact .inr (by simp; omega)) fun h' bk=>⟨rfl,?_⟩
  exact I.turnedN (t':=s.toks) hf fun b o hb e=>by
   simp only [List.mem_cons,List.not_mem_nil,or_false,not_or] at hb
   exact bk b o hb.1 hb.2.2.1 hb.2.2.2.1 hb.2.2.2.2 e
 self:=fun _ _ _ _ _ st h=>wpAny_pyIter_zip st.1 h
def Bd (ta:TA):TI:=fun σ H R=>ta σ H fun vs H1=>∃l1 l2 xs ys,vs=[.ref l1,.ref l2]∧H1 l1=some (.lst xs)∧H1 l2=some (.lst ys)∧R (Itz l1 l2) H1
theorem nj {X:Cx} {a b:Expr} {ta:TA} {p pos tp:Pos} {es:List Expr} {kk:Nat} (hg:Gl X "zip") (hm:X.mg "zip" = none) (ha:PA X [a,b] ta)
  (hs:starEach [a,b] X.env=[(false,eval a X.env),(false,eval b X.env)]:=by rfl) (hs2:starEach [b] X.env=[(false,eval b X.env)]:=by rfl) :
  PI X (.Tuple es kk tp) (.Call (.Name "zip" p) [a,b] [] pos) (Bd ta):=by
 intro pins s σ H R I h
 refine Call_ (dh I hg hm PyProof.Rows.boot_zip (PyProof.Rows.callWith_type1 (thn (ha pos pins s σ H _ I h) fun us s1 ⟨vs,H1,I1,r1,q1⟩=>?_) (by rw [hs,hs2]) (by rw [hs2]; rfl)))
 obtain ⟨l1,l2,xs,ys,rfl,e1,e2,q⟩:=q1
 cases r1 with
 | cons r rr =>
  cases rr with
  | cons r' rr =>
   cases rr
   cases r
   cases r'
   obtain ⟨its1,rv1,p1,_⟩:=I1.list (SqL.of e1)
   obtain ⟨its2,rv2,p2,_⟩:=I1.list (SqL.of e2)
   refine call_zip_2 p1.isList p2.isList fun h' z1 z2 z3 z4 z5 sz keep=>?_
   have I2:Inv X pins σ H1 { s1 with heap:=h' }:=I1.kept (t':=s1.toks) keep
   refine wpAny_pyIter_zip z1 ⟨s1.heap.objs.size + 4,[s1.heap.objs.size + 4,s1.heap.objs.size + 2,s1.heap.objs.size + 3,s1.heap.objs.size,s1.heap.objs.size + 1],_,_,H1,rfl,I2,ni l1 l2 _ _ _ _ _ ⟨by simp⟩,⟨z1,z2,⟨_,_,z3⟩,z4,z5⟩,fun b hb=>?_,q⟩
   have hb':s1.heap.objs.size≤b:=by
    simp only [List.mem_cons,List.not_mem_nil,or_false] at hb
    rcases hb with rfl | rfl | rfl | rfl | rfl <;> omega
   exact I1.fpOk hb' (I1.hok.fresh hb')
end L2
set_option Elab.async false
set_option linter.all false
set_option maxRecDepth 100000
namespace L2
open PySem PySem.Spec PyProof.Rows
def Dn (P:Program) (w:World) (K:PySem.W.Frag) (mg:Str→Option Value) (base:Heap) (x:Str) (ps:List Str) (k:Nat) (sp:Sp):Prop :=
 ∃ (f:Addr) (fd:FuncData),FnOk P w K mg base CX0 k f fd ps sp∧Binds K fd ps []∧PySem.W.keepIn K (.ref f)=true∧mg x=some (.ref f)
theorem ao {X:Cx} {k:Nat} {ps:List Str} {sp:Sp} {x:Str} {p pos:Pos} {e:Expr} {es:List Expr} {t:TA} (D:Dn X.prog X.w X.K X.mg X.base x ps k sp) (hr:Room k X.A) (hg:Gl X x) (ha:PA X (e :: es) t)
  (hdb:(x == ("__debug__" : Str))=false:=by decide) (he:starEach (e :: es) X.env=(false,eval e X.env) :: starEach es X.env:=by rfl) (hpl:(backTo pos (starEach es X.env)).any (·.1)=false:=by rfl) :
  PE X (.Call (.Name x p) (e :: es) [] pos) (qE sp [] E0 t):=by
 obtain ⟨f,fd,F,hb,hk,hm⟩:=D
 exact oZ F hr hg hm hk hb .nil ko ha hdb he hpl
def kq (sc:Scope) (N:List Str) (scope:Scope) (own cs:List Str) (cap:List Nat):Bool :=
 decide (scope.kind=.function) && scope.names.all (fun y=>decide (y.2≠.cell)) && scope.names.all (fun y=>decide (y.2=.local→scope.names.lookup y.1=some .local)) &&
 scope.names.all (fun y=>decide (y.2=.free→sc.names.lookup y.1=some .cell∨sc.names.lookup y.1=some .free)) && own.all (fun y=>decide (scope.names.lookup y=some .local)) &&
 decide (cs.length=cap.length) && (cs.zip cap).all (fun y=>decide (N[y.2]? = some y.1) && decide ((y.1,NameKind.free)∈scope.names)) && scope.names.all (fun y=>decide (y.2=.free→scope.names.lookup y.1≠some .local))
theorem bm {X:Cx} {sc:Scope} {N:List Str} {scope:Scope} {own cs:List Str} {cap:List Nat} (h1:X.env.scope=sc) (h2:X.N=N) (h:kq sc N scope own cs cap=true):CompOk X scope own cs cap:=by
 subst h1 h2
 unfold kq at h
 simp only [Bool.and_eq_true,List.all_eq_true,decide_eq_true_eq] at h
 obtain ⟨⟨⟨⟨⟨⟨⟨a1,a2⟩,a3⟩,a4⟩,a5⟩,a6⟩,a7⟩,a8⟩:=h
 refine ⟨a1,a2,a3,a4,fun i y e=>?_,a5,a6,fun y hy e=>a8 _ hy rfl e⟩
 have hi:i < cs.length:=(List.getElem?_eq_some_iff.mp e).1
 have hj:i < cap.length:=by rw [← a6]; exact hi
 refine ⟨cap[i],List.getElem?_eq_getElem hj,?_⟩
 have hm:(y,cap[i])∈cs.zip cap:=by
  have:(cs.zip cap)[i]? = some (y,cap[i]):=by
   rw [List.getElem?_zip_eq_some]
   exact ⟨e,List.getElem?_eq_getElem hj⟩
  exact List.mem_of_getElem? this
 exact a7 _ hm
theorem bM {σ:St} {H:Hp} {A B:Hp→Prop} (h:A H):uS σ H (fun ok H3=>if ok=true then A H3 else B H3):=by
 show (if (true:Bool)=true then A H else B H)
 rw [if_pos rfl]
 exact h
section
variable {X:Cx} {tg:Expr}
def rB (K:PySem.W.Frag) (tl:TE):TI:=fun σ H R=>qy K tl σ H R∨uE K tl σ H R
theorem fz {l:Expr} {tl:TE} (hl:PE X l tl):PI X tg l (rB X.K tl):=by
 intro pins s σ H R I h
 rcases h with h | h
 ·exact bR hl pins s σ H R I h
 ·exact qZ hl pins s σ H R I h
end
def aR:List String:=["NoneType","bool","int","str","list","tuple","dict"]
theorem ku {K:PySem.W.Frag}:∀T∈aR,PySem.W.kitOne K (.type T) (.type "int")=some (T == "int" || T == "bool"):=by
 intro T h
 simp only [aR,List.mem_cons,List.not_mem_nil,or_false] at h
 rcases h with rfl | rfl | rfl | rfl | rfl | rfl | rfl <;> kernel_rfl
theorem dI {K:PySem.W.Frag}:∀T∈aR,PySem.W.kitOne K (.type T) (.type "bool")=some (T == "bool"):=by
 intro T h
 simp only [aR,List.mem_cons,List.not_mem_nil,or_false] at h
 rcases h with rfl | rfl | rfl | rfl | rfl | rfl | rfl <;> kernel_rfl
theorem nq {K:PySem.W.Frag}:∀T∈aR,PySem.W.kitOne K (.type T) (.type "list")=some (T == "list"):=by
 intro T h
 simp only [aR,List.mem_cons,List.not_mem_nil,or_false] at h
 rcases h with rfl | rfl | rfl | rfl | rfl | rfl | rfl <;> kernel_rfl
theorem eJ {K:PySem.W.Frag}:∀T∈aR,PySem.W.kitOne K (.type T) (.type "tuple")=some (T == "tuple"):=by
 intro T h
 simp only [aR,List.mem_cons,List.not_mem_nil,or_false] at h
 rcases h with rfl | rfl | rfl | rfl | rfl | rfl | rfl <;> kernel_rfl
theorem pC {K:PySem.W.Frag}:∀T∈aR,PySem.W.kitOne K (.type T) (.type "str")=some (T == "str"):=by
 intro T h
 simp only [aR,List.mem_cons,List.not_mem_nil,or_false] at h
 rcases h with rfl | rfl | rfl | rfl | rfl | rfl | rfl <;> kernel_rfl
theorem pE {K:PySem.W.Frag}:∀T∈aR,PySem.W.kitAny K (.type T) [.type "list",.type "tuple"]=some (T == "list" || T == "tuple"):=by
 intro T h
 have h1:=nq (K:=K) T h
 have h2:=eJ (K:=K) T h
 unfold PySem.W.kitAny
 rw [h1]
 cases e:(T == "list") with
 | true=>rfl
 | false =>
  show PySem.W.kitAny K (.type T) [.type "tuple"]=_
  unfold PySem.W.kitAny
  rw [h2]
  cases e2:(T == "tuple") <;> rfl
def Ty (K:PySem.W.Frag) (H:Hp) (x:V) (T:String):Prop:=T∈aR∧TyOf K H x (.type T)
theorem Ty.int {K:PySem.W.Frag} {H:Hp} {i:Int}:Ty K H (.int i) "int" := ⟨by simp [aR],.int i⟩
theorem Ty.bl {K:PySem.W.Frag} {H:Hp} {b:Bool}:Ty K H (.bl b) "bool" := ⟨by simp [aR],.bl b⟩
theorem Ty.non {K:PySem.W.Frag} {H:Hp}:Ty K H .non "NoneType" := ⟨by simp [aR],.non⟩
theorem Ty.str {K:PySem.W.Frag} {H:Hp} {x:Str}:Ty K H (.str x) "str" := ⟨by simp [aR],.str x⟩
theorem Ty.lst {K:PySem.W.Frag} {H:Hp} {a:Addr} {xs:List V} (e:H a=some (.lst xs)):Ty K H (.ref a) "list" := ⟨by simp [aR],.lst e⟩
theorem Ty.tup {K:PySem.W.Frag} {H:Hp} {a:Addr} {xs:List V} (e:H a=some (.tup xs)):Ty K H (.ref a) "tuple" := ⟨by simp [aR],.tup e⟩
theorem Ty.dK {K:PySem.W.Frag} {H:Hp} {a:Addr} {xs:List (Key×V)} (e:H a=some (.dK xs)):Ty K H (.ref a) "dict" := ⟨by simp [aR],.dK e⟩
def aN:V→Int→Bool
 | .int i,l=>decide (l≤i)
 | _,_=>false
def lh:V→Bool
 | .bl _=>true
 | _=>false
theorem rC {K:PySem.W.Frag} {H:Hp} {x:V} {T:String} (t:TyOf K H x (.type T)) (h:T∈aR):(T == "int")=true→∃i,x=.int i:=by
 intro e
 have e':T = "int" := by simpa using e
 subst e'
 generalize hv:Value.type "int" = tv at t
 cases t with
 | int i=>exact ⟨i,rfl⟩
 | _=>exact absurd hv (by simp)
theorem kx {K:PySem.W.Frag} {H:Hp} {x:V} {T:String} (t:TyOf K H x (.type T)):(T == "bool")=lh x:=by
 generalize hv:Value.type T=tv at t
 cases t with
 | bl b=>cases hv; rfl
 | non=>cases hv; rfl
 | int i=>cases hv; rfl
 | str i=>cases hv; rfl
 | flt i=>cases hv; rfl
 | lst i=>cases hv; rfl
 | frz i=>cases hv; rfl
 | tup i=>cases hv; rfl
 | dK i=>cases hv; rfl
 | dT i=>cases hv; rfl
 | ins=>cases hv
end L2
namespace Pc
open PySem L2
structure Pot (a b:Int):Prop where
 a0:0≤a
 b0:0≤b
 b1:b < 2147483629
def But (p:Addr) (H H':Hp):Prop:=∀b o,b≠p→H b=some o→H' b=some o
theorem But.trans {p:Addr} {H H1 H2:Hp} (a:But p H H1) (b:But p H1 H2):But p H H2:=fun c o n e=>b c o n (a c o n e)
theorem But.upd {p:Addr} {H:Hp} {o:HO}:But p H (upd H p o):=fun b u n e=>by rw [aw n]; exact e
theorem But.new {p q:Addr} {H:Hp} {o:HO} (h:H q=none):But p H (L2.upd H q o):=fun b u n e=>by rw [aw (ag e h)]; exact e
structure Kd where
 w:Int
 h:Int
 wo:Int
 wa:Int
 tu:Bool
def kdV (k:Kd):List V:=[.int k.w,.int k.h,.int k.wo,.int k.wa,.bl k.tu]
structure Good (k:Kd):Prop where
 w:1≤k.w
 h:1≤k.h
 wo:0≤k.wo
 wa:0≤k.wa
 w':k.w < 10 ^ 60
 h':k.h < 10 ^ 60
 wo':k.wo < 10 ^ 60
 wa':k.wa < 10 ^ 60
def qG (H:Hp) (v:V) (k:Kd):Prop:=∃a,v=.ref a∧H a=some (.tup (kdV k))
def uT (H:Hp) (v:V) (k:Kd):Prop:=∃a,v=.ref a∧H a=some (.lst (kdV k))
def RowAt (H:Hp) (v:V) (k:Kd):Prop:=qG H v k∨uT H v k
abbrev Tups (H:Hp):List V→List Kd→Prop:=Paired (qG H)
theorem Tups.keep {H H':Hp} (k:∀b xs,H b=some (.tup xs)→H' b=some (.tup xs)):∀ {xs:List V} {ks:List Kd},Tups H xs ks→Tups H' xs ks:=fun r =>
 Paired.mapP r fun v kd ⟨a,e,h⟩=>⟨a,e,k a _ h⟩
structure ToldAt (H:Hp) (t l:Addr) (bl:Int) (xs:List V) (ks:List Kd):Prop where
 t:H t=some (.tup [.int bl,.ref l])
 l:H l=some (.lst xs)
 r:Tups H xs ks
 b0:0≤bl
 b1:bl < 10 ^ 60
 g:∀k∈ks,Good k
 n0:1≤xs.length
 n1:xs.length≤8
def cH (K:PySem.W.Frag):Sp:=fun vs H Q _=>∃ (x:V) (T:String) (l:Int),vs=[x,.int l]∧Ty K H x T∧Q (.bl (aN x l)) H
def eZ (K:PySem.W.Frag):Sp:=fun vs H Q _=>∃ (x:V) (T:String),vs=[x]∧Ty K H x T∧Q (.bl (lh x)) H
def gi (K:PySem.W.Frag):Sp:=fun vs H Q _=>∃ (x:V) (T:String), vs=[x]∧Ty K H x T∧∀H', Same H H'→Q (.bl (T == "list" || T == "tuple")) H'
def gj:List V→Bool
 | [w,h,wo,wa,tu]=>aN w 1 && aN h 1 && aN wo 0 && aN wa 0 && lh tu
 | _=>false
def dJ (K:PySem.W.Frag):Sp:=fun vs H Q _=>∃ (x:V) (T:String),vs=[x]∧Ty K H x T ∧ 
 ((T ≠ "list" ∧ T ≠ "tuple" ∧ ∀H', Same H H'→Q (.bl false) H')∨∃ (a:Addr) (xs:List V), x=.ref a∧(H a=some (.lst xs)∨H a=some (.tup xs))∧(∀y∈xs, ∃U, Ty K H y U)∧∀H', Same H H'→Q (.bl (gj xs)) H')
theorem fA {k:Kd} (g:Good k):gj (kdV k)=true:=by
 show (decide (1≤k.w) && decide (1≤k.h) && decide (0≤k.wo) && decide (0≤k.wa) && true)=true
 rw [decide_eq_true g.w,decide_eq_true g.h,decide_eq_true g.wo,decide_eq_true g.wa]
 rfl
theorem Ty.same {K:PySem.W.Frag} {H H':Hp} {x:V} {T:String} (s:Same H H') (t:Ty K H x T):Ty K H' x T:=by
 refine ⟨t.1,?_⟩
 have t2:=t.2
 generalize hv:Value.type T=tv at t2 ⊢
 cases t2 with
 | non=>exact .non
 | bl b=>exact .bl b
 | int b=>exact .int b
 | str b=>exact .str b
 | flt b=>exact .flt b
 | lst e=>exact .lst (s _ _ e)
 | frz e=>exact .frz (s _ _ e)
 | tup e=>exact .tup (s _ _ e)
 | dK e=>exact .dK (s _ _ e)
 | dT e=>exact .dT (s _ _ e)
 | ins=>cases hv
end Pc
set_option Elab.async false
set_option linter.all false
set_option maxRecDepth 100000
namespace L2
open PySem PySem.Spec PyProof.Rows
def iu (K:PySem.W.Frag):List V→Hp→VK→Prop:=fun xs H Q=>∃p ys,xs=[V.ref p]∧((SqL K H p ys∧∀l,H l=none→Q (.ref l) (upd H l (.tup ys)))∨(SqT K H p ys∧Q (.ref p) H))
def pF (K:PySem.W.Frag):List V→Hp→VK→Prop:=fun xs H Q=>∃p ys,xs=[.ref p]∧(SqL K H p ys∨SqT K H p ys)∧∀l,H l=none→Q (.ref l) (upd H l (.lst ys))
theorem nu {K:PySem.W.Frag} {j:Nat} {a:Addr} {xs:List V} {g:TG} {tb:TS} {D:Ends} {σ:St} {H:Hp} (hσ:σ[j]? = some (some (.ref a))) (hs:H a=some (.lst xs)∨H a=some (.tup xs)) (Pv:Nat→St→Hp→Prop) (h0:Pv 0 σ H)
  (hk:∀i σ H',i≤xs.length→Pv i σ H'→∀o,H a=some o→H' a=some o)
  (ht:∀i x σ H,xs[i]? = some x→Pv i σ H→g x σ H fun σ2 H2=>tb { D with nx:=Pv (i + 1),ct:=Pv (i + 1),bk:=D.nx } σ2 H2) (hd:∀σ H,Pv xs.length σ H→D.nx σ H):uG (rB K (oT j)) g tb D σ H:=by
 rcases hs with z | z
 ·exact .inl ⟨_,hσ,a,rfl,⟨xs,SqL.of z⟩,bW (xs:=xs) Pv h0 (fun i σ H' hi p=>SqL.of (hk i σ H' hi p _ z)) ht hd⟩
 ·exact .inr ⟨_,hσ,a,rfl,⟨xs,SqT.of z⟩,oU (xs:=xs) Pv h0 (fun i σ H' hi p=>SqT.of (hk i σ H' hi p _ z)) ht hd⟩
def Nx (n:Nat) (Pv:Nat→List V→Hp→Prop) (i:Nat) (ys:List V) (H:Hp):Prop:=∃m',m' < n - i∧m'=n - (i + 1)∧i + 1≤n∧Pv (i + 1) ys H
theorem Nx.of {n:Nat} {Pv:Nat→List V→Hp→Prop} {i:Nat} {ys:List V} {H:Hp} (h:i < n) (p:Pv (i + 1) ys H):Nx n Pv i ys H:=⟨n - (i + 1),by omega,rfl,h,p⟩
theorem cN {K:PySem.W.Frag} {a:Addr} {xs:List V} {σ:St} {cap:List Nat} {k:Nat} {g:TG} {tt:TT} {te:TE} {Q:List V→Hp→Prop} {H:Hp} (hs:H a=some (.lst xs)∨H a=some (.tup xs)) (Pv:Nat→List V→Hp→Prop)
  (hk:∀i ys H',i≤xs.length→Pv i ys H'→∀o,H a=some o→H' a=some o) (h0:Pv 0 [] H)
  (ht:∀i x ys H',xs[i]? = some x→Pv i ys H'→ys.length < sizeLine∧g x (bL σ cap k) H' fun σ2 H2=>leS (bL σ cap k) σ2∧tt σ2 H2 fun ok H3=>if ok=true then te σ2 H3 (fun v H4=>Nx xs.length Pv i (ys ++ [v]) H4) else Nx xs.length Pv i ys H3)
  (hd:∀ys H',Pv xs.length ys H'→ys.length≤sizeLine∧Q ys H') :
  (H a=some (.lst xs)→∃W,(∃m,W 0 m [] H)∧iq σ cap k (Itl K a) g tt te Q W)∧(H a=some (.tup xs)→∃W,(∃m,W 0 m [] H)∧iq σ cap k (Itt K a) g tt te Q W):=by
 refine ⟨fun z=>⟨fun i m ys H'=>m=xs.length - i∧i≤xs.length∧Pv i ys H',⟨_,rfl,Nat.zero_le _,h0⟩,?_⟩,fun z=>⟨fun i m ys H'=>m=xs.length - i∧i≤xs.length∧Pv i ys H',⟨_,rfl,Nat.zero_le _,h0⟩,?_⟩⟩
 ·rintro i m ys H' ⟨rfl,hi,p⟩
  have z':=hk i ys H' hi p _ z
  by_cases hin:i < xs.length
  ·obtain ⟨e,hg⟩:=ht i xs[i] ys H' (by simp [hin]) p
   refine .inr ⟨⟨xs,xs[i],SqL.of z',by simp [hin]⟩,e,fun x H2 yl=>?_⟩
   obtain ⟨e1,e2⟩:=yl
   have e3:=e2 xs (SqL.of z')
   have e4:x=xs[i]:=by simpa [hin] using e3.symm
   subst e1 e4
   exact hg
  ·have e:i=xs.length:=by omega
   subst e
   obtain ⟨a1,a2⟩:=hd ys H' p
   exact .inl ⟨⟨xs,SqL.of z',Nat.le_refl _⟩,a1,a2⟩
 ·rintro i m ys H' ⟨rfl,hi,p⟩
  have z':=hk i ys H' hi p _ z
  by_cases hin:i < xs.length
  ·obtain ⟨e,hg⟩:=ht i xs[i] ys H' (by simp [hin]) p
   refine .inr ⟨⟨xs,xs[i],SqT.of z',by simp [hin]⟩,e,fun x H2 yl=>?_⟩
   obtain ⟨e1,e2⟩:=yl
   have e3:=e2 xs (SqT.of z')
   have e4:x=xs[i]:=by simpa [hin] using e3.symm
   subst e1 e4
   exact hg
  ·have e:i=xs.length:=by omega
   subst e
   obtain ⟨a1,a2⟩:=hd ys H' p
   exact .inl ⟨⟨xs,SqT.of z',Nat.le_refl _⟩,a1,a2⟩
theorem cT {K:PySem.W.Frag} {j:Nat} {a:Addr} {xs:List V} {σ:St} {cap:List Nat} {k:Nat} {g:TG} {tt:TT} {te:TE} {Q:VK} {H:Hp} (hσ:σ[j]? = some (some (.ref a))) (hs:H a=some (.lst xs)∨H a=some (.tup xs)) (Pv:Nat→List V→Hp→Prop)
  (hk:∀i ys H',i≤xs.length→Pv i ys H'→∀o,H a=some o→H' a=some o) (h0:Pv 0 [] H)
  (ht:∀i x ys H',xs[i]? = some x→Pv i ys H'→ys.length < sizeLine∧g x (bL σ cap k) H' fun σ2 H2=>leS (bL σ cap k) σ2∧tt σ2 H2 fun ok H3=>if ok=true then te σ2 H3 (fun v H4=>Nx xs.length Pv i (ys ++ [v]) H4) else Nx xs.length Pv i ys H3)
  (hd:∀ys H',Pv xs.length ys H'→ys.length≤sizeLine∧∀p,H' p=none→Q (.ref p) (upd H' p (.lst ys))):ng (rB K (oT j)) cap k g tt te σ H Q:=by
 obtain ⟨c1,c2⟩:=cN (K:=K) (σ:=σ) (cap:=cap) (k:=k) (g:=g) (tt:=tt) (te:=te) hs Pv hk h0 ht hd
 rcases hs with z | z
 ·exact .inl ⟨_,hσ,a,rfl,⟨xs,SqL.of z⟩,c1 z⟩
 ·exact .inr ⟨_,hσ,a,rfl,⟨xs,SqT.of z⟩,c2 z⟩
end L2
namespace Pc
open PySem L2
def jr (b:Int) (r:Addr):List (Str×V):=cj "kind_rows" (.ref r) (cj "blade_width" (.int b) [])
theorem kbw:¬ (("blade_width" : Str) = "kind_rows"):=by decide +kernel
theorem js (b:Int) (r:Addr):(jr b r).lookup ("blade_width" : Str)=some (.int b):=by
 unfold jr
 rw [bh,if_neg kbw,bh,if_pos rfl]
theorem eK (b:Int) (r:Addr):(jr b r).lookup ("kind_rows" : Str)=some (.ref r):=by
 unfold jr
 rw [bh,if_pos rfl]
theorem cU (b:Int) (r:Addr) {m:Str} (h1:¬ m = "kind_rows") (h2:¬ m = "blade_width"):(jr b r).lookup m=none:=by
 unfold jr
 rw [bh,if_neg h1,bh,if_neg h2]
 all_goals rfl
def ShopAt (C:Addr) (H:Hp) (x:Addr) (b:Int) (ks:List Kd):Prop:=∃dx r rs,H x=some (.ins C dx (jr b r))∧H r=some (.tup rs)∧Tups H rs ks
theorem ShopAt.keep {C:Addr} {H H':Hp} {x:Addr} {b:Int} {ks:List Kd} (s:ShopAt C H x b ks) (k1:∀b xs,H b=some (.tup xs)→H' b=some (.tup xs)) (k2:∀b C dx fs,H b=some (.ins C dx fs)→H' b=some (.ins C dx fs)):ShopAt C H' x b ks:=by
 obtain ⟨dx,r,rs,h1,h2,h3⟩:=s
 exact ⟨dx,r,rs,k2 _ _ _ _ h1,k1 _ _ h2,Tups.keep k1 h3⟩
def jt (C:Addr):Sp:=fun vs H Q _=>∃ (x dx ks:Addr) (b:Int) (rs:List V) (kds:List Kd),vs=[.ref x,.int b,.ref ks]∧H x=some (.ins C dx [])∧0≤b∧(H ks=some (.lst rs)∨H ks=some (.tup rs))∧Paired (RowAt H) rs kds∧(∀k∈kds,Good k)∧1≤rs.length∧rs.length≤8 ∧
 ∀H':Hp,ShopAt C H' x b kds→(∀c o,c≠x→H c=some o→H' c=some o)→Q .non H'
def dL (C:Addr):Sp:=fun vs H Q _=>∃ (x:Addr) (b:Int) (ks:List Kd),vs=[.ref x]∧ShopAt C H x b ks∧Q (.int b) H
theorem ky {K:PySem.W.Frag} {H:Hp} {k:Kd}:∀y∈kdV k,∃U,Ty K H y U:=by
 intro y hy
 simp only [kdV,List.mem_cons,List.not_mem_nil,or_false] at hy
 rcases hy with rfl | rfl | rfl | rfl | rfl
 ·exact ⟨_,.int⟩
 ·exact ⟨_,.int⟩
 ·exact ⟨_,.int⟩
 ·exact ⟨_,.int⟩
 ·exact ⟨_,.bl⟩
theorem Paired.getR {α β:Type} {F:α→β→Prop}:∀ {l₁:List α} {l₂:List β} {i:Nat} {x:α},Paired F l₁ l₂→l₁[i]? = some x→∃y,l₂[i]? = some y∧F x y
 | _,_,_,_,.nil,e=>by simp at e
 | _,_,0,_,.cons h _,e=>by simp at e; subst e; exact ⟨_,rfl,h⟩
 | _,_,i + 1,x,.cons _ t,e=>by
  obtain ⟨y,h1,h2⟩:=Paired.getR (i:=i) (x:=x) t (by simpa using e)
  exact ⟨y,by simpa using h1,h2⟩
theorem RowAt.same {H H':Hp} {v:V} {k:Kd} (s:Same H H') (r:RowAt H v k):RowAt H' v k:=by
 rcases r with ⟨a,e,h⟩ | ⟨a,e,h⟩
 ·exact .inl ⟨a,e,s _ _ h⟩
 ·exact .inr ⟨a,e,s _ _ h⟩
theorem li {K:PySem.W.Frag} {H:Hp} {v:V} {k:Kd} {Q:VK} {E:XK} (r:RowAt H v k) (g:Good k) (q:∀H',Same H H'→Q (.bl true) H'):dJ K [v] H Q E:=by
 rcases r with ⟨a,rfl,h⟩ | ⟨a,rfl,h⟩
 ·exact ⟨_,_,rfl,.tup h,.inr ⟨a,_,rfl,.inr h,ky,fun H' s=>by rw [fA g]; exact q H' s⟩⟩
 ·exact ⟨_,_,rfl,.lst h,.inr ⟨a,_,rfl,.inl h,ky,fun H' s=>by rw [fA g]; exact q H' s⟩⟩
structure ShopTxt (K:PySem.W.Frag) (C:Addr):Prop where
 cl:Cls K C
 nB:NoAttr K C "blade_width"
 nK:NoAttr K C "kind_rows"
end Pc
set_option Elab.async false
set_option linter.all false
set_option maxRecDepth 100000
namespace L2
open PySem PySem.Spec PyProof.Rows
def Mn (P:Program) (w:World) (K:PySem.W.Frag) (mg:Str→Option Value) (base:Heap) (C:Addr) (m:Str) (ps:List Str) (k:Nat) (sp:Sp):Prop :=
 ∃ (f:Addr) (fd:FuncData),FnOk P w K mg base CX0 k f fd ps sp∧Binds K fd ps []∧Meth K C m f
theorem nv {X:Cx} {k:Nat} {C:Addr} {ps:List Str} {sp:Sp} {m:Str} {o:Expr} {ta:TE} {apos pos:Pos} {pl:Sem Bool} (he:PE X o ta) (c:Cls X.K C) (D:Mn X.prog X.w X.K X.mg X.base C m ps k sp) (hr:Room k X.A)
  (ht:eval (.Call (.Attribute o m apos) [] [] pos) X.env=(do
   let ov←eval o X.env
   standAt apos.atName
   let (f,first)←holding [ov] (getMethod ov m pl)
   callWith pos f first (backTo pos (starEach [] X.env)) (backToKw pos (keywordEach [] X.env))):=by rfl):PE X (.Call (.Attribute o m apos) [] [] pos) (ki C m sp [] E0 ta kY):=by
 obtain ⟨f,fd,F,hb,hm⟩:=D
 exact mQ he c hm F hr hb .nil ko ht
def Kn (P:Program) (w:World) (K:PySem.W.Frag) (mg:Str→Option Value) (base:Heap) (x:Str) (C:Addr) (ps:List Str) (k:Nat) (sp:Sp):Prop :=
 ∃ (f:Addr) (fd:FuncData),Mk K C f∧FnOk P w K mg base CX0 k f fd ps sp∧Binds K fd ps []∧mg x=some (.ref C)
theorem uU {X:Cx} {k:Nat} {C:Addr} {ps:List Str} {sp:Sp} {x:Str} {p pos:Pos} {e:Expr} {es:List Expr} {t:TA} (D:Kn X.prog X.w X.K X.mg X.base x C ps k sp) (hr:Room (k + 1) X.A) (hg:Gl X x) (ha:PA X (e :: es) t)
  (hdb:(x == ("__debug__" : Str))=false:=by decide) (he:starEach (e :: es) X.env=(false,eval e X.env) :: starEach es X.env:=by rfl) (hpl:(backTo pos (starEach es X.env)).any (·.1)=false:=by rfl) :
  PE X (.Call (.Name x p) (e :: es) [] pos) (qF C sp [] E0 t):=by
 obtain ⟨f,fd,M,F,hb,hm⟩:=D
 exact pc M F hr hg hm hb .nil ko ha hdb he hpl
theorem lj (xs:List V) (k:Nat):cz xs none (some (k:Int))=xs.take k:=by
 unfold cz
 rw [HT.sIx_none,HT.sIx_nat]
 simp only [List.drop_zero,Nat.sub_zero]
 rcases Nat.le_total k xs.length with h | h
 ·rw [Nat.min_eq_left h]
 ·rw [Nat.min_eq_right h,List.take_of_length_le (Nat.le_refl _),List.take_of_length_le h]
end L2
namespace Pc
open PySem L2
theorem Same.but {p:Addr} {H H':Hp} (s:Same H H'):But p H H':=fun b o _ e=>s b o e
theorem Same.new {q:Addr} {H:Hp} {o:HO} (h:H q=none):Same H (upd H q o):=fun b u e=>by rw [aw (ag e h)]; exact e
end Pc
set_option Elab.async false
set_option linter.all false
set_option maxRecDepth 100000
namespace PySem
open Sem (wp)
open AutoSeq1 (wpAny_loadPart')
section
variable {prog:Program} {w:World} {A:Around} {E:Value→Shared→Prop} {s:Shared}
theorem eW {it t:Addr} {i:Nat} {items} {x:Value} {Q:Value→Shared→Prop} (hit:s.heap.IsTupleIter it t i)
  (ht:s.heap.IsTuple t items) (hx:items[i]? = some x)
  (hQ:∀h',h'.IsTupleIter it t (i + 1)→Heap.SameBut it s.heap h'→Q x { s with heap:=h' }) :
  wpAny (model prog w) A (Builtin.SmallTypes.nextOf (.ref it)) Q E s:=by
 obtain ⟨o,ho,hc,hd⟩:=id hit
 obtain ⟨ol,hol,_,nl,hdl⟩:=ht
 unfold Builtin.SmallTypes.nextOf
 refine wpAny_bind (wpAny_callSpecial?_slot (name:=Str.ofString "__next__") hit.typeIs F.slot_tuple_iterator_next
  (wpAny_call_entry F.slot_tuple_iterator_next hit.typeIs F.entry_tuple_iterator_next ?_ (F.args_tuple_iterator_next_1 _)))
 show wpAny _ _ (field (.ref it) 0 >>= _) _ _ s
 refine wpAny_bind (wpAny_field ho hd (x:=.ref t) rfl ?_)
 show wpAny _ _ (if (Value.ref t == Value.none)=true then _ else _) _ _ s
 rw [if_neg (show ¬ ((Value.ref t == Value.none)=true) from Bool.false_ne_true)]
 show wpAny _ _ (field (.ref it) 1 >>= _) _ _ s
 refine wpAny_bind (wpAny_field ho hd (x:=.int i 0) rfl ?_)
 show wpAny _ _ (seqItems? (.ref t) >>= _) _ _ s
 refine wpAny_bind (wpAny_seqItems hol hdl ?_)
 simp only [Int.toNat_natCast,hx]
 refine wpAny_bind (wpAny_setField ho hd (by simp) (wpAny_pure ⟨x,rfl,wpAny_pure (hQ _ ?_ (Heap.SameBut.update ..))⟩))
 exact ⟨_,Heap.get?_update_self _ ho (Obj.isFreed_of_fields (Obj.data_mapFields hd _)),(Obj.cls_mapFields ..).trans hc,by
  rw [Obj.data_mapFields hd]; simp [rawInt]⟩
theorem bY {it t:Addr} {i:Nat} {items} {Q:Value→Shared→Prop} (hh:A.handled=none)
  (hit:s.heap.IsTupleIter it t i) (ht:s.heap.IsTuple t items) (hx:items[i]? = none)
  (hE:∀h' e, Heap.ExtBut it s.heap h'→(∃o, h'.get? e=some o∧o.cls=.type "StopIteration")→E (.ref e) { s with heap:=h' }) :
  wpAny (model prog w) A (Builtin.SmallTypes.nextOf (.ref it)) Q E s:=by
 obtain ⟨o,ho,hc,hd⟩:=id hit
 obtain ⟨ol,hol,_,nl,hdl⟩:=ht
 unfold Builtin.SmallTypes.nextOf
 refine wpAny_bind (wpAny_callSpecial?_slot (name:=Str.ofString "__next__") hit.typeIs F.slot_tuple_iterator_next
  (wpAny_call_entry F.slot_tuple_iterator_next hit.typeIs F.entry_tuple_iterator_next ?_ (F.args_tuple_iterator_next_1 _)))
 show wpAny _ _ (field (.ref it) 0 >>= _) _ _ s
 refine wpAny_bind (wpAny_field ho hd (x:=.ref t) rfl ?_)
 show wpAny _ _ (if (Value.ref t == Value.none)=true then _ else _) _ _ s
 rw [if_neg (show ¬ ((Value.ref t == Value.none)=true) from Bool.false_ne_true)]
 show wpAny _ _ (field (.ref it) 1 >>= _) _ _ s
 refine wpAny_bind (wpAny_field ho hd (x:=.int i 0) rfl ?_)
 show wpAny _ _ (seqItems? (.ref t) >>= _) _ _ s
 refine wpAny_bind (wpAny_seqItems hol hdl ?_)
 simp only [Int.toNat_natCast,hx]
 refine wpAny_bind (wpAny_rule (wpAny_bind (wpAny_setField ho hd (by simp) ?_)))
 show wpAny _ _ (newExc (.type "StopIteration") [] >>= _) _ _ _
 refine wpAny_bind ?_
 simp only [newExc,newTuple]
 refine wpAny_bind (wpAny_newObj_type ?_ (by size_fits))
 refine wpAny_bind (m:=firstArgMember _ _) (wpAny_of_eq (a:=Value.none) (by first | rfl | (simp only [firstArgMember]; rfl)) ?_)
 refine wpAny_newObj_type ?_ (by size_fits)
 simp only [raiseNew]
 refine wpAny_bind (wpAny_handled ?_)
 first | rw [show A.in1.handled=none from hh] | rw [hh]
 refine wpAny_bind (wpAny_pure (wpAny_throw ?_))
 exact hE _ _ (((Heap.SameBut.update ..).extBut.push _).push _) ⟨_,Heap.get?_push_size _ rfl,rfl⟩
end
theorem iw {prog:Program} {w:World} {A:Around} (hh:A.handled=none) (it l:Addr) (hne:l≠it) (items:Array Value) :
  Draws prog w A it [it,l] items.size (fun i v=>items[i]? = some v) (fun i h=>h.IsTupleIter it l i∧h.IsTuple l items) where
 live:=fun _ _ st=>let ⟨o,ho,_⟩:=st.1; ⟨o,ho⟩
 frame:=fun _ _ _ st hk=>⟨st.1.at fun o e=>hk it (by simp) o e,let ⟨o,ho,r⟩:=st.2; ⟨o,hk l (by simp) o ho,r⟩⟩
 item:=fun i s Q E hi st hQ=>by
  refine eW st.1 st.2 (x:=items[i]) (by simp [hi]) fun h' hit' hs'=>?_
  exact hQ _ h' s.toks (by simp [hi]) ⟨hit',st.2.extBut hs'.extBut hne⟩ hs'
 done:=fun s Q E st hE=>bY hh st.1 st.2 (by simp) hE
theorem fB (l:Addr) (items:Array Value) (n:Nat) (dct:Option Addr) (sl:Array (Option Value)) :
  Meets (Builtin.«enumerate.__new__» ⟨[.type "enumerate",.ref l],[]⟩) (fun _ R s=>s.heap.get? l=some { cls:=.type "tuple",dict:=dct,data:=.seq items n,slots:=sl } ∧
   R (.ok (.ret (.ref (s.heap.push { cls:=.type "tuple_iterator",data:=.fields #[.ref l,.int 0 0] }).objs.size)))
    { s with heap:=(s.heap.push { cls:=.type "tuple_iterator",data:=.fields #[.ref l,.int 0 0] }).push { cls:=.type "enumerate",data:=.fields #[.none,.bool false,.ref s.heap.objs.size,rawInt 0,.none,.none] } }) :=
 .of_wp fun prog w A R s h=>by
  obtain ⟨hp,g,d,tk,os⟩:=s; obtain ⟨hl,h⟩:=h
  have hsub:=sub_enumerate
  have hL:Heap.IsTuple (Shared.heap ⟨hp,g,d,tk,os⟩) l items:=⟨_,hl,rfl,n,rfl⟩
  wp_walk using wpAny_loadPart' hl
  refine wpAny_stack_any fun st=>wpAny_pure ?_
  split
  ·rename_i c _ _ _ _ _
   cases (c == Value.type "enumerate")
   ·wp_walk using wpAny_loadPart' hl,wpAny_pyIter_tuple hL
    exact ⟨_,rfl,h⟩
   ·wp_walk using wpAny_loadPart' hl,wpAny_pyIter_tuple hL
    exact ⟨_,rfl,h⟩
  ·wp_walk using wpAny_loadPart' hl,wpAny_pyIter_tuple hL
   exact ⟨_,rfl,h⟩
section
variable {prog:Program} {w:World} {A:Around} {E:Value→Shared→Prop} {s:Shared}
theorem bZ {l:Addr} {items:Array Value} {Q:Value→Shared→Prop} (hL:s.heap.IsTuple l items)
  (h:∀h',IsEnum h' (s.heap.objs.size + 1) s.heap.objs.size 0 .none→h'.IsTupleIter s.heap.objs.size l 0→h'.objs.size=s.heap.objs.size + 2 →
   (∀b o,s.heap.get? b=some o→h'.get? b=some o)→Q (.ref (s.heap.objs.size + 1)) { s with heap:=h' }) :
  wpAny (model prog w) A (call (.type "enumerate") [.ref l]) Q E s:=by
 obtain ⟨⟨c,dct,dt,sl⟩,hl,hc,n,hd⟩:=hL
 replace hc:c=.type "tuple" := hc
 replace hd:dt=.seq items n:=hd
 subst hc hd
 refine callType_new F.called_enumerate (by decide) (F.typeCall_enumerate_1 _) (F.newCall_enumerate_1 _) (fun obj=>F.args_object_init_2 obj _) F.entry_enumerate_new
  (fB l items n dct sl) ⟨hl,?_⟩
 have hz:(s.heap.push { cls:=.type "tuple_iterator",data:=.fields #[.ref l,.int 0 0] }).objs.size=s.heap.objs.size + 1:=Heap.size_push ..
 show _∧_
 rw [hz]
 have he:IsEnum ((s.heap.push { cls:=.type "tuple_iterator",data:=.fields #[.ref l,.int 0 0] }).push
   { cls:=.type "enumerate",data:=.fields #[.none,.bool false,.ref s.heap.objs.size,rawInt 0,.none,.none] }) (s.heap.objs.size + 1) s.heap.objs.size 0 .none:=by
  have:=Heap.get?_push_size (s.heap.push { cls:=.type "tuple_iterator",data:=.fields #[.ref l,.int 0 0] })
   (o:={ cls:=.type "enumerate",data:=.fields #[.none,.bool false,.ref s.heap.objs.size,rawInt 0,.none,.none] }) rfl
  rw [hz] at this; exact this
 refine ⟨⟨_,he,rfl⟩,h _ he ⟨_,Heap.get?_push_of_some _ (Heap.get?_push_size _ rfl),rfl,rfl⟩ (by rw [Heap.size_push,hz]) fun b o x=>Heap.get?_push_of_some _ (Heap.get?_push_of_some _ x)⟩
end
end PySem
set_option Elab.async false
set_option linter.all false
set_option maxRecDepth 100000
namespace L2
open PySem PySem.Spec PyProof.Rows
def Ite (f:List V→HO) (l:Addr):It :=
  ⟨fun i H=>∃xs x,H l=some (f xs)∧xs[i]? = some x,
   fun i H v H'=>∃p xs x,H p=none∧v=.ref p∧H'=upd H p (.tup [.int i,x])∧H l=some (f xs)∧xs[i]? = some x,
   fun i H=>∃xs,H l=some (f xs)∧xs.length≤i⟩
section
variable {X:Cx} {pins:List (Addr×Obj)} {σ:St} {H:Hp} {s:Shared}
theorem gm {f:List V→HO} {tn:Nat→Heap→Prop} {es:List Expr} {kk:Nat} {tp:Pos} {e it l:Addr} {i:Nat} {xs:List V} {x:V} {u:Value} {tk:Nat} {h':Heap} {E:Value→Shared→Prop} (hne:e≠it) (I:Inv X pins σ H s) (hf:∀b∈[e,it],di X pins H b) (hl:H l=some (f xs)) (hx:xs[i]? = some x)
  (ho:∀b∈[e, it], b < s.heap.objs.size) (r:RelV x u) (b1:IsEnumOut h' e it ((i:Int) + 1) u s.heap.objs.size) (b3:h'.get? s.heap.objs.size=some { cls:=.type "tuple", data:=.seq #[.int i tk, u] })
  (bk:∀b o,b≠e→b≠it→s.heap.get? b=some o→h'.get? b=some o) (hn:∀h'',IsEnum h'' e it ((i + 1:Nat):Int) u→Heap.SameBut e h' h''→tn (i + 1) h'') :
  wpAny (model X.prog X.w) X.A (letOwnedTupleGo (.Tuple es kk tp) (.ref e) (.ref s.heap.objs.size)) (fun _ s2=>∃x H',Inv X pins σ H' s2∧RelV x (.ref s.heap.objs.size)∧(Ite f l).yld i H x H'∧tn (i + 1) s2.heap∧∀b∈[e,it],H' b=none) E { s with heap:=h',toks:=tk + 1 }:=by
 refine wpAny_letOwnedTupleGo_enum b1 fun h'' c1 cs=>?_
 have es':e < s.heap.objs.size:=ho e (by simp)
 have k2:∀b o,b∉[e,it]→s.heap.get? b=some o→h''.get? b=some o:=fun b o hb q=>by
  simp only [List.mem_cons,List.not_mem_nil,or_false,not_or] at hb
  exact cs.extBut b o hb.1 (bk b o hb.1 hb.2 q)
 have I1:Inv X pins σ H { s with heap:=h'',toks:=tk + 1 }:=I.turnedN (t':=tk + 1) hf k2
 have hp:h''.get? s.heap.objs.size=some { cls:=.type "tuple", data:=.seq #[.int i tk, u] }:=cs.extBut _ _ (Nat.ne_of_gt es') b3
 have hn0:H s.heap.objs.size=none:=I.hok.fresh (Nat.le_refl _)
 have fpk:=I.fpOk (H':=H) (Nat.le_refl _) hn0
 have I2:Inv X pins σ (upd H s.heap.objs.size (.tup [.int i,x])) { s with heap:=h'',toks:=tk + 1 }:=I1.track fpk I.sz ⟨by show 2≤sizeLine; decide,[.int i tk,u],.cons ⟨tk,rfl⟩ (.cons r .nil),_,hp,rfl,_,rfl⟩
 refine ⟨.ref s.heap.objs.size,_,I2,rfl,⟨_,xs,x,hn0,rfl,rfl,hl,hx⟩,hn h'' c1 cs,fun b hb=>?_⟩
 rw [aw (Nat.ne_of_lt (ho b hb))]
 exact (hf b hb).1
end
theorem ju {P:Program} {w:World} {K:PySem.W.Frag} {es:List Expr} {kk:Nat} {tp:Pos} (l e it:Addr) (hne:e≠it) :
  Turn P w K (.Tuple es kk tp) (Ite .lst l) [e,it] e (fun i h=>(∃old,IsEnum h e it i old)∧h.IsListIter it l i) where
 mem:=by simp
 obj:=fun i h st b hb=>by
  obtain ⟨⟨old,a1⟩,⟨o2,a2,_,d2⟩⟩:=st
  simp only [List.mem_cons,List.not_mem_nil,or_false] at hb
  rcases hb with rfl | rfl
  ·exact ⟨_,a1,fun v q=>by cases q⟩
  ·exact ⟨_,a2,fun v q=>by rw [d2] at q; cases q⟩
 keep:=fun i h h' st k=>by
  obtain ⟨⟨old,a1⟩,a2⟩:=st
  exact ⟨⟨old,k e (by simp) _ a1⟩,a2.at fun o q=>k it (by simp) o q⟩
 item:=by
  intro X hP hw hK hc i pins s σ H E I hf st hg
  subst hP hw hK
  obtain ⟨⟨old,a1⟩,a2⟩:=st
  obtain ⟨xs,x,e1,ex⟩:=hg
  obtain ⟨its,rv,p1,_⟩:=I.list (SqL.of e1)
  obtain ⟨u,hu,r⟩:=rv.get ex
  have ho:∀b∈[e,it],b < s.heap.objs.size:=fun b hb=>by
   obtain ⟨o2,a2',_⟩:=a2
   simp only [List.mem_cons,List.not_mem_nil,or_false] at hb
   rcases hb with rfl | rfl
   ·exact Heap.lt_size a1
   ·exact Heap.lt_size a2'
  refine wpAny_pyNext_enum_item a1 a2 p1.isList (x:=u) (by simpa using hu) hne fun h' b1 b2 b3 b4 bk=>⟨_,rfl,?_⟩
  exact gm (tn:=fun i h=>(∃old,IsEnum h e it i old)∧h.IsListIter it l i) hne I hf e1 ex ho r b1 b3 bk fun h'' c1 cs=>⟨⟨u,c1⟩,b2.extBut cs.extBut (Ne.symm hne)⟩
 done:=by
  intro X hP hw hK hc i pins s σ H E I hf st hg
  subst hP hw hK
  obtain ⟨⟨old,a1⟩,a2⟩:=st
  obtain ⟨xs,e1,ex⟩:=hg
  obtain ⟨its,rv,p1,_⟩:=I.list (SqL.of e1)
  have lv:=rv.length
  refine wpAny_pyNext_enum_end (I.ok.hd hc) a1 a2 p1.isList (by simp; omega) fun h' bk=>⟨rfl,?_⟩
  exact I.turnedN (t':=s.toks) hf fun b o hb q=>by
   simp only [List.mem_cons,List.not_mem_nil,or_false,not_or] at hb
   exact bk b o hb.2 q
 self:=fun _ _ _ _ _ st h=>by obtain ⟨⟨old,a1⟩,_⟩:=st; exact wpAny_pyIter_enum a1 h
theorem jv {P:Program} {w:World} {K:PySem.W.Frag} {es:List Expr} {kk:Nat} {tp:Pos} (l e it:Addr) (hne:e≠it) :
  Turn P w K (.Tuple es kk tp) (Ite .tup l) [e,it] e (fun i h=>(∃old,IsEnum h e it i old)∧h.IsTupleIter it l i) where
 mem:=by simp
 obj:=fun i h st b hb=>by
  obtain ⟨⟨old,a1⟩,⟨o2,a2,_,d2⟩⟩:=st
  simp only [List.mem_cons,List.not_mem_nil,or_false] at hb
  rcases hb with rfl | rfl
  ·exact ⟨_,a1,fun v q=>by cases q⟩
  ·exact ⟨_,a2,fun v q=>by rw [d2] at q; cases q⟩
 keep:=fun i h h' st k=>by
  obtain ⟨⟨old,a1⟩,a2⟩:=st
  exact ⟨⟨old,k e (by simp) _ a1⟩,a2.at fun o q=>k it (by simp) o q⟩
 item:=by
  intro X hP hw hK hc i pins s σ H E I hf st hg
  subst hP hw hK
  obtain ⟨⟨old,a1⟩,a2⟩:=st
  obtain ⟨xs,x,e1,ex⟩:=hg
  obtain ⟨its,rv,p1,_⟩:=I.tuple (SqT.of e1)
  obtain ⟨u,hu,r⟩:=rv.get ex
  have lt:i < its.toArray.size:=by simp; exact (List.getElem?_eq_some_iff.mp hu).1
  have ho:∀b∈[e,it],b < s.heap.objs.size:=fun b hb=>by
   obtain ⟨o2,a2',_⟩:=a2
   simp only [List.mem_cons,List.not_mem_nil,or_false] at hb
   rcases hb with rfl | rfl
   ·exact Heap.lt_size a1
   ·exact Heap.lt_size a2'
  have nl:∀b∈[e,it],l≠b:=fun b hb q=>by rw [q,(hf b hb).1] at e1; cases e1
  have p1':s.heap.IsTuple l its.toArray:=p1
  have DD:Draws X.prog X.w X.A.in1 it [it,l] its.toArray.size (fun i v=>its.toArray[i]? = some v) (fun i h=>h.IsTupleIter it l i∧h.IsTuple l its.toArray):=iw (show X.A.in1.handled=none from I.ok.hd hc) it l (nl it (by simp)) its.toArray
  refine wpAny_pyNext_enum_itemD DD a1 ⟨a2,p1'⟩ lt hne (by simp only [List.mem_cons,List.not_mem_nil,or_false,not_or]; exact ⟨hne,Ne.symm (nl e (by simp))⟩) fun x' h' tk px b1 b2 b3 b4 bk=>⟨_,rfl,?_⟩
  have hu':its.toArray[i]? = some u:=by simpa using hu
  have eu:u=x':=Option.some.inj (hu'.symm.trans px)
  subst eu
  exact gm (tn:=fun i h=>(∃old,IsEnum h e it i old)∧h.IsTupleIter it l i) hne I hf e1 ex ho r b1 b3 bk fun h'' c1 cs=>⟨⟨u,c1⟩,b2.1.extBut cs.extBut (Ne.symm hne)⟩
 done:=by
  intro X hP hw hK hc i pins s σ H E I hf st hg
  subst hP hw hK
  obtain ⟨⟨old,a1⟩,a2⟩:=st
  obtain ⟨xs,e1,ex⟩:=hg
  obtain ⟨its,rv,p1,_⟩:=I.tuple (SqT.of e1)
  have lv:=rv.length
  have p1':s.heap.IsTuple l its.toArray:=p1
  have hT:s.TypeIs (.ref e) "enumerate" := ⟨_,a1,rfl⟩
  unfold pyNext
  refine wpAny_bind (wpAny_attempt (wpAny_callSpecial?_slot (name:=Str.ofString "__next__") hT F.slot_enumerate_next
   (wpAny_call_entry F.slot_enumerate_next hT F.entry_enumerate_next ?_ (F.args_enumerate_next_1 _))))
  show wpAny _ _ (field (.ref e) 2 >>= _) _ _ _
  refine wpAny_bind (wpAny_field a1 rfl (x:=.ref it) rfl ?_)
  refine wpAny_bind (bY (I.ok.hd hc) a2 p1' (by simp; omega) fun h' x he' hx'=>?_)
  obtain ⟨o,ho,hc⟩:=hx'
  refine wpAny_bind (wpAny_isInstance (T := "StopIteration") (b:=true) ⟨o,ho,hc⟩ isSubtype_stop ?_)
  refine wpAny_pure ⟨rfl,?_⟩
  exact I.turnedN (t':=s.toks) hf fun b o hb q=>by
   simp only [List.mem_cons,List.not_mem_nil,or_false,not_or] at hb
   exact he' b o hb.2 q
 self:=fun _ _ _ _ _ st h=>by obtain ⟨⟨old,a1⟩,_⟩:=st; exact wpAny_pyIter_enum a1 h
def uV (ta:TA):TI:=fun σ H R=>ta σ H fun vs H1=>∃l xs,vs=[.ref l]∧((H1 l=some (.lst xs)∧R (Ite .lst l) H1)∨(H1 l=some (.tup xs)∧R (Ite .tup l) H1))
theorem kA {X:Cx} {a:Expr} {ta:TA} {p pos tp:Pos} {es:List Expr} {kk:Nat} (hg:Gl X "enumerate") (hm:X.mg "enumerate" = none) (ha:PA X [a] ta)
  (hs:starEach [a] X.env=[(false,eval a X.env)]:=by rfl) :
  PI X (.Tuple es kk tp) (.Call (.Name "enumerate" p) [a] [] pos) (uV ta):=by
 intro pins s σ H R I h
 refine Call_ (dh I hg hm PyProof.Rows.boot_enumerate (PyProof.Rows.callWith_type1 (thn (ha pos pins s σ H _ I h) fun us s1 ⟨vs,H1,I1,r1,q1⟩=>?_) (by rw [hs]; rfl) (by rfl)))
 obtain ⟨l,xs,rfl,q⟩:=q1
 cases r1 with
 | cons r rr =>
  cases rr
  cases r
  rcases q with ⟨e1,q⟩ | ⟨e1,q⟩
  ·obtain ⟨its1,rv1,p1,_⟩:=I1.list (SqL.of e1)
   refine call_enumerate_list p1.isList fun h' z1 z2 sz keep=>?_
   have I2:Inv X pins σ H1 { s1 with heap:=h' }:=I1.kept (t':=s1.toks) keep
   refine wpAny_pyIter_enum z1 ⟨s1.heap.objs.size + 1,[s1.heap.objs.size + 1,s1.heap.objs.size],_,_,H1,rfl,I2,ju l _ _ (Nat.succ_ne_self _),⟨⟨_,z1⟩,z2⟩,fun b hb=>?_,q⟩
   have hb':s1.heap.objs.size≤b:=by
    simp only [List.mem_cons,List.not_mem_nil,or_false] at hb
    rcases hb with rfl | rfl <;> omega
   exact I1.fpOk hb' (I1.hok.fresh hb')
  ·obtain ⟨its1,rv1,p1,_⟩:=I1.tuple (SqT.of e1)
   have p1':s1.heap.IsTuple l its1.toArray:=p1
   refine bZ p1' fun h' z1 z2 sz keep=>?_
   have I2:Inv X pins σ H1 { s1 with heap:=h' }:=I1.kept (t':=s1.toks) keep
   refine wpAny_pyIter_enum z1 ⟨s1.heap.objs.size + 1,[s1.heap.objs.size + 1,s1.heap.objs.size],_,_,H1,rfl,I2,jv l _ _ (Nat.succ_ne_self _),⟨⟨_,z1⟩,z2⟩,fun b hb=>?_,q⟩
   have hb':s1.heap.objs.size≤b:=by
    simp only [List.mem_cons,List.not_mem_nil,or_false] at hb
    rcases hb with rfl | rfl <;> omega
   exact I1.fpOk hb' (I1.hok.fresh hb')
theorem iy {f:List V→HO} (hf:∀xs ys,f xs=f ys→xs=ys) {l:Addr} {xs:List V} {g:TG} {tb:TS} {D:Ends} {σ:St} {H:Hp} (Pv:Nat→St→Hp→Prop) (h0:Pv 0 σ H) (hk:∀i σ H',Pv i σ H'→H' l=some (f xs))
  (ht:∀i x p σ H,xs[i]? = some x→H p=none→Pv i σ H→g (.ref p) σ (upd H p (.tup [.int i,x])) fun σ2 H2=>tb { D with nx:=Pv (i + 1),ct:=Pv (i + 1),bk:=D.nx } σ2 H2) (hd:∀σ H,Pv xs.length σ H→D.nx σ H) :
  ∃W:Nat→Nat→St→Hp→Prop,(∃m,W 0 m σ H)∧∀i m σ H,W i m σ H →
   ((Ite f l).stop i H∧D.nx σ H)∨((Ite f l).go i H∧∃N:St→Hp→Prop,(∀σ' H',N σ' H'→∃m',m' < m∧W (i + 1) m' σ' H')∧∀x H',(Ite f l).yld i H x H'→g x σ H' fun σ2 H2=>tb { D with nx:=N,ct:=N,bk:=D.nx } σ2 H2):=by
 refine ⟨fun i m σ H=>m=xs.length - i∧i≤xs.length∧Pv i σ H,⟨xs.length,by simp,Nat.zero_le _,h0⟩,?_⟩
 rintro i m σ H ⟨rfl,hi,p⟩
 have e1:=hk i σ H p
 by_cases hlt:i < xs.length
 ·refine .inr ⟨⟨xs,xs[i],e1,by simp [hlt]⟩,Pv (i + 1),fun σ' H' p'=>⟨xs.length - (i + 1),by omega,rfl,hlt,p'⟩,fun v H' y=>?_⟩
  obtain ⟨q,xs',x,hq,rfl,rfl,e1',ex⟩:=y
  rw [e1] at e1'
  cases hf _ _ (Option.some.inj e1')
  exact ht i x q σ H ex hq p
 ·have e:i=xs.length:=by omega
  subst e
  exact .inl ⟨⟨xs,e1,Nat.le_refl _⟩,hd σ H p⟩
end L2
set_option Elab.async false
set_option linter.all false
set_option maxRecDepth 100000
namespace Pc
open PySem L2
def aQ (k:Kd):Bool:=k.tu && !decide (k.w=k.h)
def lyT (i:Nat) (k:Kd):List (Nat×Bool):=(i,false) :: if aQ k=true then [(i,true)] else []
def lyK:List Kd→Nat→List (Nat×Bool)
 | [],_=>[]
 | k :: r,i=>lyT i k ++ lyK r (i + 1)
theorem iz (k:Kd):∀ (ks:List Kd) (i:Nat),lyK (ks ++ [k]) i=lyK ks i ++ lyT (i + ks.length) k
 | [],i=>by simp [lyK]
 | c :: r,i=>by
  show lyT i c ++ lyK (r ++ [k]) (i + 1)=(lyT i c ++ lyK r (i + 1)) ++ _
  rw [iz k r (i + 1),List.append_assoc]
  congr 2
  simp only [List.length_cons]
  congr 1
  omega
theorem pG (i:Nat) (k:Kd):(lyT i k).length≤2:=by unfold lyT; split <;> simp
theorem gN:∀ (ks:List Kd) (i:Nat),(lyK ks i).length≤2 * ks.length
 | [],i=>by simp [lyK]
 | c :: r,i=>by
  have:=gN r (i + 1)
  have:=pG i c
  simp only [lyK,List.length_append,List.length_cons]
  omega
def fC (K:PySem.W.Frag):Sp:=fun vs H Q _=>∃ (a:Addr) (k:Kd),vs=[.ref a]∧H a=some (.tup (kdV k))∧Q (.bl (aQ k)) H
def bS (ks:List Kd) (x t:V):Bool:=match x,t with
 | .int i,.bl b=>decide (0≤i) && match ks[i.toNat]? with
  | some k=>!b || aQ k
  | none=>false
 | _,_=>false
def cV (K:PySem.W.Frag) (C:Addr):Sp:=fun vs H Q _=>∃ (s:Addr) (b:Int) (ks:List Kd) (x t:V) (T U:String),vs=[.ref s,x,t]∧ShopAt C H s b ks∧Ty K H x T∧Ty K H t U∧Q (.bl (bS ks x t)) H
end Pc
set_option Elab.async false
set_option linter.all false
set_option maxRecDepth 100000
namespace L2
open PySem PySem.Spec PyProof.Rows
section
variable {X:Cx}
theorem kB {k:Nat} {C:Addr} {ps:List Str} {sp:Sp} {m:Str} {o:Expr} {e:Expr} {es:List Expr} {ta:TE} {t:TA} {apos pos:Pos} {pl:Sem Bool} (he:PE X o ta) (c:Cls X.K C) (D:Mn X.prog X.w X.K X.mg X.base C m ps k sp) (hr:Room k X.A) (ha:PA X (e :: es) t)
  (hst:starEach (e :: es) X.env=(false,eval e X.env) :: starEach es X.env:=by rfl) (hpl:(backTo pos (starEach es X.env)).any (·.1)=false:=by rfl)
  (ht:eval (.Call (.Attribute o m apos) (e :: es) [] pos) X.env=(do
   let ov←eval o X.env
   standAt apos.atName
   let (f,first)←holding [ov] (getMethod ov m pl)
   callWith pos f first (backTo pos (starEach (e :: es) X.env)) (backToKw pos (keywordEach [] X.env))):=by rfl):PE X (.Call (.Attribute o m apos) (e :: es) [] pos) (ki C m sp [] E0 ta t):=by
 obtain ⟨f,fd,F,hb,hm⟩:=D
 exact pb he c hm F hr hb .nil ko ha hst hpl ht
end
end L2
set_option Elab.async false
set_option linter.all false
set_option maxRecDepth 100000
namespace L2
open PySem PySem.Spec PyProof.Rows
section
variable {X:Cx} {k:Nat} {f C:Addr} {fd:FuncData} {ps:List Str} {sp:Sp} {x:Str} {p pos:Pos} {e:Expr} {es:List Expr} {t:TA}
end
section
variable {X:Cx}
theorem ny:OpR X (binaryOp .Add) (fun x y H Q=>∃a b ys,x=.ref a∧y=.ref b∧SqT X.K H a []∧SqT X.K H b ys∧Q (.ref b) H):=by
 intro pins s σ H x y v u Q I rx ry h
 obtain ⟨a,b,ys,rfl,rfl,ha,hb,q⟩:=h
 cases rx
 cases ry
 obtain ⟨its,r1,p1,_⟩:=I.tuple ha
 obtain ⟨its2,r2,p2,_⟩:=I.tuple hb
 cases r1
 obtain ⟨⟨cls,dd,data,sl⟩,ho,hc,n,hd⟩:=p1
 obtain ⟨⟨cls2,dd2,data2,sl2⟩,ho2,hc2,n2,hd2⟩:=p2
 simp only at hc hd hc2 hd2
 subst hc hd hc2 hd2
 exact concat_meets ⟨_,ho,rfl⟩ ⟨_,ho2,rfl⟩ noFill_tuple_add seq_tuple_add PySem.F.slot_tuple_add PySem.F.entry_tuple_add (PySem.F.args_tuple_add_2 _ _)
   (tuple_addW0 a b _ _ n n2 dd dd2 sl sl2 rfl) ⟨ho,ho2,⟨.ref b,H,I,rfl,q⟩⟩
end
end L2
namespace Pc
open PySem L2
end Pc
namespace Pc
open PySem L2
end Pc
set_option Elab.async false
set_option linter.all false
set_option maxRecDepth 100000
namespace L2
open PySem PySem.Spec PyProof.Rows
section
variable {X:Cx}
def uW:R2:=fun x y H Q=>∃a b xs ys,x=.ref a∧y=.ref b∧H a=some (.tup xs)∧H b=some (.tup ys)∧xs.length + ys.length≤sizeLine ∧
 ∀m H',(H'=H∧(m=a∨m=b))∨(H m=none∧H'=upd H m (.tup (xs ++ ys)))→H' m=some (.tup (xs ++ ys))→Q (.ref m) H'
theorem kC:OpR X (binaryOp .Add) uW:=by
 intro pins s σ H x y v u Q I rx ry h
 obtain ⟨a,b,xs,ys,rfl,rfl,ha,hb,hz,q⟩:=h
 by_cases hx:xs=[]
 ·subst hx
  exact ny pins s σ H _ _ v u Q I rx ry ⟨a,b,ys,rfl,rfl,SqT.of ha,SqT.of hb,q b H (.inl ⟨rfl,.inr rfl⟩) hb⟩
 ·refine ph pins s σ H _ _ v u Q I rx ry ⟨a,b,xs,ys,rfl,rfl,SqT.of ha,SqT.of hb,hx,hz,fun e=>?_,fun e p hp=>q p _ (.inr ⟨hp,rfl⟩) upd_same⟩
  subst e
  exact q a H (.inl ⟨rfl,.inl rfl⟩) (by rw [List.append_nil]; exact ha)
end
theorem lm (xs:List V) (k:Nat):cz xs (some (k:Int)) none=xs.drop k:=by
 unfold cz
 rw [HT.sIx_none,HT.sIx_nat]
 rcases Nat.le_total k xs.length with h | h
 ·rw [Nat.min_eq_left h,List.take_of_length_le (by rw [List.length_drop]; exact Nat.le_refl _)]
 ·rw [Nat.min_eq_right h,List.drop_of_length_le (Nat.le_refl _),List.drop_of_length_le h,List.take_nil]
end L2
namespace Pc
open PySem L2
end Pc
set_option Elab.async false
set_option linter.all false
set_option maxRecDepth 100000
namespace L2
open PySem PySem.Spec PyProof.Rows
section
variable {X:Cx}
theorem iA:∀ {bs:List Bool} {its:List Value},Vals (bs.map V.bl) its→its=bs.map Value.bool
 | [],_,r=>by cases r; rfl
 | b :: bs,_,r=>by
  cases r with
  | cons r1 r2 =>
   have e:_=Value.bool b:=r1
   subst e
   rw [List.map_cons,iA r2]
theorem lp (bs:List Bool):(List.range bs.length).all (fun i=>bs.getD i false)=bs.all id:=by
 rw [Bool.eq_iff_iff,List.all_eq_true,List.all_eq_true]
 constructor
 ·intro h b hb
  obtain ⟨i,hi,e⟩:=List.getElem_of_mem hb
  have:=h i (List.mem_range.mpr hi)
  rw [List.getD_eq_getElem?_getD,List.getElem?_eq_getElem hi] at this
  simpa [e] using this
 ·intro h i hi
  have hi':=List.mem_range.mp hi
  rw [List.getD_eq_getElem?_getD,List.getElem?_eq_getElem hi']
  exact h _ (List.getElem_mem hi')
theorem lq (hc:X.calm=true):cq X (.builtin "all") (fun xs H Q=>∃ (p:Addr) (bs:List Bool),xs=[.ref p]∧SqL X.K H p (bs.map V.bl)∧Q (.bl (bs.all id)) H):=by
 intro pins s σ H xs us Q I r h
 obtain ⟨p,bs,rfl,hs,q⟩:=h
 obtain ⟨u,rfl,rfl⟩:=dA r
 obtain ⟨its,rv,pl,_⟩:=I.list hs
 have e:=iA rv
 subst e
 have hlt:p < s.heap.objs.size:=by obtain ⟨_,_,e,_⟩:=pl; exact Heap.lt_size e
 refine call_all_walk (wpAny_pyIter_list pl.isList ?_)
 refine ⟨_,_,_,_,_,_,fun i=>bs.getD i false,rfl,Walks.list (A:=X.A.in1) (I.ok.hd hc) _ p (Nat.ne_of_lt hlt) _,⟨⟨_,Heap.get?_push_size _ rfl,rfl,rfl⟩,pl.isList.push _⟩,fun i v s' Q' E' hP hQ'=>?_,fun h' tk hk=>?_⟩
 ·have hP':(bs.map Value.bool)[i]? = some v:=by simpa using hP
  rw [List.getElem?_map] at hP'
  cases hb:bs[i]? with
  | none=>rw [hb] at hP'; cases hP'
  | some b =>
   rw [hb] at hP'
   cases hP'
   have hQ2:Q' (bs.getD i false) s':=hQ'
   rw [List.getD_eq_getElem?_getD,hb] at hQ2
   exact wpAny_truthy_bool hQ2
 ·have e2:((bs.map Value.bool).toArray.size)=bs.length:=by simp
  rw [e2,lp]
  refine ⟨.bl (bs.all id),H,I.kept (h':=h') (t':=tk) (fun b o e=>hk b o ?_ (Heap.get?_push_of_some _ e)),rfl,q⟩
  intro z
  rw [List.mem_singleton.mp z] at e
  exact absurd (Heap.lt_size e) (Nat.lt_irrefl _)
theorem cW (hg:X.A.guards=some []) (hu:X.A.units + 66 < cLine):cq X (.builtin "repr") (fun xs H Q=>∃a d,xs=[.ref a]∧DatV X.K H (.ref a) d∧d.showable=true∧d.hasDict=false∧d.depth≤64∧d.shown.length≤sizeLine∧Q (.str d.shown) H):=by
 intro pins s σ H xs us Q I r h
 obtain ⟨a,d,rfl,hd,h1,h2,h3,h4,q⟩:=h
 obtain ⟨u,rfl,rfl⟩:=dA r
 obtain ⟨as,ra⟩:=I.reads hd (u:=.ref a) rfl
 exact repr_of_reads' ra h1 (fun z=>by rw [h2] at z; cases z) hg (by omega) (fun _ _ e=>e) (fun h' u tk hk=>⟨.str d.shown,H,I.kept hk,⟨_,rfl⟩,q⟩) h4
end
end L2
set_option Elab.async false
set_option linter.all false
set_option maxRecDepth 100000
namespace L2
open PySem PySem.Spec PyProof.Rows
section
variable {X:Cx}
end
theorem cX {α:Type} {xs:List α} {i:Int} {v:α} (h0:0≤i) (h:xs[i.toNat]? = some v):atI xs i=some v:=by
 have e:i=((i.toNat:Nat):Int):=by omega
 have z:atI xs ((i.toNat:Nat):Int)=some v:=pi h
 rw [← e] at z; exact z
end L2
namespace Pc
open PySem L2
def jw (K:PySem.W.Frag):Sp:=fun vs H Q _=>∃ (a:Addr) (ns:List Int) (n:Int),vs=[.ref a,.int n]∧SqL K H a (ns.map V.int)∧0≤n∧∀c:Int,Q (.int c) H
end Pc
set_option Elab.async false
set_option linter.all false
set_option maxRecDepth 100000
namespace L2
open PySem
theorem Room.units66 {k:Nat} {A:Around} (r:Room k A):A.units + 66 < cLine:=by have:=r.un; omega
end L2
namespace Pc
open PySem L2
def Short (i:Int):Prop:=i.natAbs < 10 ^ 62
theorem Short.log {i:Int} (h:Short i):i.natAbs.log2 < 1920:=by
 unfold Short at h
 rcases Nat.eq_zero_or_pos i.natAbs with h0 | hp
 ·rw [h0]; decide
 ·refine (Nat.log2_lt (Nat.ne_of_gt hp)).mpr (Nat.lt_trans h ?_)
  decide +kernel
theorem Short.len {i:Int} (h:Short i):(PyData.shown (.int i)).length≤63:=by
 show (Str.ofString (toString i)).length≤63
 rw [ofString_length]
 exact int_text_length_le10 (by decide) h
end Pc
set_option Elab.async false
set_option linter.all false
set_option maxRecDepth 100000
namespace L2
open PySem PySem.Spec PyProof.Rows
theorem nz {X:Cx} (K:PySem.W.Frag) {x y:Str} {px py pos:Pos} {k:Nat} (hK:X.K=K) (hc:X.calm=true) (hN:X.N.Nodup) (h0:X.N[0]? = some x) (h1:X.N[1]? = some y) (l0:X.env.scope.names.lookup x=some .local) (l1:X.env.scope.names.lookup y=some .local) :
  PG X (.Tuple [.Name x px,.Name y py] k pos) (uD K 2 (mG (ii 0) (mG (ii 1) uC))) :=
 hK ▸ bd hc (ai (aj hN h0 (.inl l0) (.inr l0)) (ai (aj hN h1 (.inl l1) (.inr l1)) aP))
theorem iB {l1 l2:Addr} {xs ys:List V} {σ:St} {cap:List Nat} {k:Nat} {g:TG} {tt:TT} {te:TE} {Q:List V→Hp→Prop} {H:Hp} (Pv:Nat→List V→Hp→Prop) (hn:xs.length=ys.length)
  (hk:∀i zs H',Pv i zs H'→H' l1=some (.lst xs)∧H' l2=some (.lst ys)) (h0:Pv 0 [] H)
  (hz:∀i zs H',i < xs.length→Pv i zs H'→zs.length < sizeLine)
  (ht:∀i x y p zs H',xs[i]? = some x→ys[i]? = some y→H' p=none→Pv i zs H'→g (.ref p) (bL σ cap k) (upd H' p (.tup [x,y])) fun σ2 H2=>leS (bL σ cap k) σ2∧tt σ2 H2 fun ok H3=>if ok=true then te σ2 H3 (fun v H4=>Nx xs.length Pv i (zs ++ [v]) H4) else Nx xs.length Pv i zs H3)
  (hd:∀zs H',Pv xs.length zs H'→zs.length≤sizeLine∧Q zs H'):∃W,(∃m,W 0 m [] H)∧iq σ cap k (Itz l1 l2) g tt te Q W:=by
 refine ⟨fun i m zs H'=>m=xs.length - i∧i≤xs.length∧Pv i zs H',⟨_,rfl,Nat.zero_le _,h0⟩,?_⟩
 rintro i m zs H' ⟨rfl,hi,p⟩
 obtain ⟨e1,e2⟩:=hk i zs H' p
 by_cases hlt:i < xs.length
 ·have hx:xs[i]? = some xs[i]:=by simp [hlt]
  have hy:ys[i]? = some (ys[i]'(by omega)):=by simp [show i < ys.length by omega]
  refine .inr ⟨⟨xs,ys,_,_,e1,e2,hx,hy⟩,hz i zs H' hlt p,fun v H2 yl=>?_⟩
  ·obtain ⟨q,xs',ys',x,y,hq,rfl,rfl,e1',e2',ex,ey⟩:=yl
   rw [e1] at e1'; cases e1'
   rw [e2] at e2'; cases e2'
   exact ht i x y q zs H' ex ey hq p
 ·have e:i=xs.length:=by omega
  subst e
  obtain ⟨a1,a2⟩:=hd zs H' p
  exact .inl ⟨⟨xs,ys,e1,e2,.inl (Nat.le_refl _)⟩,a1,a2⟩
end L2
namespace L2
open PySem PySem.Spec PyProof.Rows
section
variable {X:Cx}
end
end L2
set_option Elab.async false
set_option linter.all false
set_option maxRecDepth 100000
namespace PyProof.Rows
set_option autoImplicit false
open PySem
structure SBaseT (κ0:SortKind) (a₀:Array Keyed) (st:SortSt):Prop where
 perm:(arrOf st).Perm a₀
 kind:kindOf st=κ0
 failed:failedOf st=none
 pend:pendingOf st=#[]
theorem SBaseT.size {κ0:SortKind} {a₀:Array Keyed} {st:SortSt} (h:SBaseT κ0 a₀ st):(arrOf st).size=a₀.size:=h.perm.size_eq
theorem SBaseT.setArr {κ0:SortKind} {a₀:Array Keyed} {st:SortSt} (h:SBaseT κ0 a₀ st) {xs:Array Keyed} (hp:xs.Perm (arrOf st)):SBaseT κ0 a₀ (setArr st xs) :=
 ⟨hp.trans h.perm,h.kind,h.failed,h.pend⟩
theorem SBaseT.atK {κ:KeyKind} {κ0:SortKind} {a₀:Array Keyed} {st:SortSt} (h:SBaseT κ0 a₀ st) (h0:KeysOf κ a₀) {i:Nat} (hi:i < a₀.size) :
  ∃x p a,(arrOf st)[i]? = some (x,p)∧κ.keyOf x=some a∧KK κ (arrOf st) i=a:=by
 have hi':i < (arrOf st).size:=by rw [h.size]; exact hi
 have hm:(arrOf st)[i]∈a₀.toList:=(Array.perm_iff_toList_perm.mp h.perm).mem_iff.mp (by simp)
 obtain ⟨a,ha⟩:=h0 _ hm
 have e:(arrOf st)[i]? = some (arrOf st)[i]:=getElem?_pos _ i hi'
 refine ⟨(arrOf st)[i].1,(arrOf st)[i].2,a,by rw [e],ha,?_⟩
 unfold KK; rw [e]; simp [ha]
def bP (prog:Program) (w:World) (A:Around) (s:Shared) (κ0:SortKind) (κ:KeyKind):Prop :=
 ∀ (E:Value→Shared→Prop) (x y:Value) (a b:κ.α) (Q:Bool→Shared→Prop),κ.keyOf x=some a→κ.keyOf y=some b→Q (κ.blt a b) s→wpAny (model prog w) A (keyLt' κ0 x y) Q E s
section
variable {prog:Program} {w:World} {A:Around} {E:Value→Shared→Prop} {s:Shared} {a₀:Array Keyed} {κ:KeyKind} {κ0:SortKind}
theorem jx (hO:bP prog w A s κ0 κ) {st:SortSt} {i j:Nat} {x y:Value} {a b:κ.α} {p q:Value} {Q:Option Bool→SortSt→Prop} (hk:kindOf st=κ0)
  (hi:(arrOf st)[i]? = some (x,p)) (hj:(arrOf st)[j]? = some (y,q)) (ha:κ.keyOf x=some a) (hb:κ.keyOf y=some b) (h:Q (some (κ.blt a b)) st) :
  wpS (model prog w) A E s (ltAt' i j) Q st:=by
 rw [ltAt'_eq]
 refine wpS_bind (wpS_get ?_)
 show wpS _ _ _ _ (do let x←elem' (arrOf st) i; let y←elem' (arrOf st) j; lt' x y) Q st
 rw [elem'_eq,elem'_eq,hi,hj]
 refine wpS_bind (wpS_pure (wpS_bind (wpS_pure ?_)))
 rw [lt'_eq]
 refine wpS_bind (wpS_get ?_)
 rw [hk]
 refine wpS_bind (wpS_lift (wpAny_attempt (hO _ x y a b _ ha hb ⟨rfl,?_⟩)))
 exact wpS_pure h
theorem cB {st:SortSt} {i j:Nat} {Q:Option Bool→SortSt→Prop} (hO:bP prog w A s κ0 κ) (hB:SBaseT κ0 a₀ st) (h0:KeysOf κ a₀) (hi:i < a₀.size) (hj:j < a₀.size)
  (h:Q (some (κ.blt (KK κ (arrOf st) i) (KK κ (arrOf st) j))) st):wpS (model prog w) A E s (ltAt' i j) Q st:=by
 obtain ⟨x,p,a,e1,ha,ka⟩:=hB.atK h0 hi
 obtain ⟨y,q,b,e2,hb,kb⟩:=hB.atK h0 hj
 rw [ka,kb] at h
 exact jx hO hB.kind e1 e2 ha hb h
theorem eL {st:SortSt} {n ok:Nat} {Q:Bool→SortSt→Prop} (hO:bP prog w A s κ0 κ) (h0:KeysOf κ a₀) (hn:n≤a₀.size) (hok:ok≤n) (hB:SBaseT κ0 a₀ st) (hs:SortedToK κ (arrOf st) ok)
  (h:∀st',SBaseT κ0 a₀ st'→SortedToK κ (arrOf st') n→Q true st'):wpS (model prog w) A E s (binarySort' 0 n ok) Q st:=by
 rw [binarySort'_eq]
 simp only [Nat.zero_add]
 refine wpS_bind (wpS_mono (wpS_forRange (I:=fun k c st'=>c=(none,())∧SBaseT κ0 a₀ st'∧SortedToK κ (arrOf st') (min k n))
  (Q:=fun c st'=>c=(none,())∧SBaseT κ0 a₀ st'∧SortedToK κ (arrOf st') n) ?step ?fin ?init) ?post)
 case post =>
  rintro c st' ⟨rfl,hB',hs'⟩
  exact wpS_pure (h st' hB' hs')
 case init =>
  refine ⟨rfl,hB,fun i j hij hj=>?_⟩
  by_cases h1:ok=0
  ·have:i=j:=by omega
   subst this; exact KeyOrd.kle_refl _
  ·exact hs i j hij (by omega)
 case fin =>
  rintro c st' ⟨hc,hB',hs'⟩
  refine ⟨hc,hB',?_⟩
  rwa [show min (max (max ok 1) n) n=n by omega] at hs'
 case step =>
  rintro k c st' hak hkn ⟨rfl,hB',hs'⟩
  rw [show min k n=k by omega] at hs'
  have hk:k < a₀.size:=by omega
  refine wpS_bind (wpS_mono (wpS_forRange (I:=fun x c st''=>st''=st'∧∃l r,c=(none,l,r)∧l≤r∧r≤k∧r - l≤k - x ∧
    (∀i,i < l→κ.kle (KK κ (arrOf st') i) (KK κ (arrOf st') k))∧(∀i,r≤i→i < k→κ.klt (KK κ (arrOf st') k) (KK κ (arrOf st') i)))
   (Q:=fun c st''=>st''=st'∧∃l r,c=(none,l,r)∧l≤k ∧
    (∀i,i < l→κ.kle (KK κ (arrOf st') i) (KK κ (arrOf st') k))∧(∀i,l≤i→i < k→κ.klt (KK κ (arrOf st') k) (KK κ (arrOf st') i))) ?istep ?ifin ?iinit) ?ipost)
  case iinit=>exact ⟨rfl,0,k,rfl,by omega,by omega,by omega,fun i hi=>by omega,fun i h1 h2=>by omega⟩
  case ifin =>
   rintro c st'' ⟨rfl,l,r,rfl,hlr,hrk,hm,hlo,hhi⟩
   have:l=r:=by omega
   subst this
   exact ⟨rfl,l,l,rfl,hrk,hlo,hhi⟩
  case istep =>
   rintro x c st'' _ hxk ⟨rfl,l,r,rfl,hlr,hrk,hm,hlo,hhi⟩
   dsimp only
   by_cases hge:l≥r
   ·rw [if_pos hge]
    have:l=r:=by omega
    subst this
    exact wpS_pure ⟨rfl,l,l,rfl,hrk,hlo,hhi⟩
   ·rw [if_neg hge]
    refine wpS_bind (cB hO hB' h0 hk (by omega) ?_)
    cases hless:κ.blt (KK κ (arrOf st'') k) (KK κ (arrOf st'') ((l + r) / 2))
    case true =>
     simp only [if_true]
     refine wpS_pure ⟨rfl,l,(l + r) / 2,rfl,by omega,by omega,by omega,hlo,fun i h1 h2=>?_⟩
     exact KeyOrd.klt_of_klt_of_kle hless (hs' _ _ h1 h2)
    case false =>
     simp only [Bool.false_eq_true,if_false]
     refine wpS_pure ⟨rfl,(l + r) / 2 + 1,r,rfl,by omega,by omega,by omega,fun i h1=>?_,hhi⟩
     exact KeyOrd.kle_trans (hs' i ((l + r) / 2) (by omega) (by omega)) (show κ.kle _ _ from hless)
  case ipost =>
   rintro c st'' ⟨rfl,l,r,rfl,hlk,hlo,hhi⟩
   show wpS _ _ _ _ (do moveDown' k l; pure (ForInStep.yield (none,()))) _ _
   rw [moveDown'_eq]
   refine wpS_bind (wpS_modify (wpS_pure ⟨rfl,hB'.setArr (bubble_perm _ _ _),?_⟩))
   rw [show min (k + 1) n=k + 1 by omega]
   have hks:k < (arrOf st'').size:=by rw [hB'.size]; exact hk
   intro i j hij hj
   show κ.kle (KK κ (bubble (arrOf st'') k (k - l)) i) (KK κ (bubble (arrOf st'') k (k - l)) j)
   rw [KK_bubble hks (by omega),KK_bubble hks (by omega),show k - (k - l)=l by omega]
   repeat' split
   all_goals first
    | (exfalso; omega)
    | exact KeyOrd.kle_refl _
    | exact hlo _ (by omega)
    | exact KeyOrd.kle_of_klt (hhi _ (by omega) (by omega))
    | exact hs' _ _ (by omega) (by omega)
theorem cZ {st:SortSt} {a nrem:Nat} {Q:AscSt→SortSt→Prop} (hO:bP prog w A s κ0 κ) (h0:KeysOf κ a₀) (hn:nrem≤a₀.size) (ha:1≤a) (han:a≤nrem) (hB:SBaseT κ0 a₀ st)
  (hs:SortedToK κ (arrOf st) a)
  (h:∀n,a≤n→n≤nrem→SortedToK κ (arrOf st) n→(n=nrem∨κ.klt (KK κ (arrOf st) n) (KK κ (arrOf st) (n - 1)))→Q (none,n) st) :
  wpS (model prog w) A E s (ascLoop a nrem) Q st:=by
 unfold ascLoop
 refine wpS_forRange (I:=fun x c st'=>st'=st∧c=(none,x)∧SortedToK κ (arrOf st) x) ?step ?fin ⟨rfl,rfl,hs⟩
 case fin =>
  rintro c st' ⟨rfl,rfl,hs'⟩
  rw [show max a nrem=nrem by omega] at hs' ⊢
  exact h nrem han (Nat.le_refl _) hs' (.inl rfl)
 case step =>
  rintro x c st' hax hxn ⟨rfl,rfl,hs'⟩
  dsimp only
  refine wpS_bind (cB hO hB h0 (by omega) (by omega) ?_)
  cases hless:κ.blt (KK κ (arrOf st') x) (KK κ (arrOf st') (x - 1))
  case true =>
   simp only [if_true]
   exact wpS_pure (h x hax (by omega) hs' (.inr hless))
  case false =>
   simp only [Bool.false_eq_true,if_false]
   refine wpS_pure ⟨rfl,rfl,fun i j hij hj=>?_⟩
   by_cases hjx:j < x
   ·exact hs' i j hij hjx
   ·have hj':j=x:=by omega
    subst hj'
    by_cases hi':i=j
    ·subst hi'; exact KeyOrd.kle_refl _
    ·exact KeyOrd.kle_trans (hs' i (j - 1) (by omega) (by omega)) hless
theorem eS {st:SortSt} {n nrem:Nat} {Q:Option Nat→SortSt→Prop} (hO:bP prog w A s κ0 κ) (h0:KeysOf κ a₀) (hn:nrem≤a₀.size) (h1:1≤n) (hnn:n≤nrem) (hB:SBaseT κ0 a₀ st)
  (hs:NonIncK κ (arrOf st) n) (h:∀m st',SBaseT κ0 a₀ st'→1≤m→m≤nrem→SortedToK κ (arrOf st') m→Q (some m) st') :
  wpS (model prog w) A E s (tail3 n nrem) Q st:=by
 unfold tail3
 have hsz:n≤(arrOf st).size:=by rw [hB.size]; omega
 refine wpS_bind (wpS_reverse ?_)
 have hB':SBaseT κ0 a₀ (setArr st (mirror (arrOf st) 0 n ((n - 0) / 2))):=hB.setArr (mirror_perm _ _ _ _)
 refine wpS_bind (cZ hO h0 hn h1 hnn hB' ?_ fun m hm1 hm2 hsm _=>wpS_pure (h m _ hB' (by omega) hm2 hsm))
 intro i j hij hj
 show κ.kle (KK κ (mirror (arrOf st) 0 n ((n - 0) / 2)) i) (KK κ (mirror (arrOf st) 0 n ((n - 0) / 2)) j)
 rw [KK_mirror hsz,KK_mirror hsz,if_pos (by omega),if_pos (by omega)]
 exact hs _ _ (by omega) (by omega)
theorem fD {st:SortSt} {n nrem:Nat} {Q:DescSt→SortSt→Prop} (hO:bP prog w A s κ0 κ) (h0:KeysOf κ a₀) (hn:nrem≤a₀.size) (h1:1≤n) (hnn:n≤nrem) (hB:SBaseT κ0 a₀ st)
  (hs:NonIncK κ (arrOf st) n)
  (h:∀m neq st',SBaseT κ0 a₀ st'→n≤m→m≤nrem→NonIncK κ (arrOf st') m→neq + 1≤m→(∀i,m - (neq + 1)≤i→i < m→KK κ (arrOf st') i=KK κ (arrOf st') (m - 1))→Q (none,m,neq) st') :
  wpS (model prog w) A E s (descLoop n nrem) Q st:=by
 unfold descLoop
 refine wpS_forRange (I:=fun x c st'=>∃neq,c=(none,x,neq)∧SBaseT κ0 a₀ st'∧NonIncK κ (arrOf st') x∧neq + 1≤x ∧
   (∀i,x - (neq + 1)≤i→i < x→KK κ (arrOf st') i=KK κ (arrOf st') (x - 1))) ?step ?fin ⟨0,rfl,hB,hs,by omega,fun i h1 h2=>by congr 1; omega⟩
 case fin =>
  rintro c st' ⟨neq,rfl,hB',hs',hq,he⟩
  rw [show max n nrem=nrem by omega] at hs' hq he ⊢
  exact h nrem neq st' hB' hnn (Nat.le_refl _) hs' hq he
 case step =>
  rintro x c st' hax hxn ⟨neq,rfl,hB',hs',hq,he⟩
  dsimp only
  have hsz:x≤(arrOf st').size:=by rw [hB'.size]; omega
  refine wpS_bind (cB hO hB' h0 (by omega) (by omega) ?_)
  cases hless:κ.blt (KK κ (arrOf st') x) (KK κ (arrOf st') (x - 1))
  case true =>
   simp only [if_true]
   have step1:∀xs:Array Keyed,(∀k,KK κ xs k=KK κ (arrOf st') k)→NonIncK κ xs (x + 1):=by
    intro xs hk i j hij hj
    rw [hk,hk]
    by_cases hjx:j < x
    ·exact hs' i j hij hjx
    ·have hj':j=x:=by omega
     subst hj'
     by_cases hi':i=j
     ·subst hi'; exact KeyOrd.kle_refl _
     ·exact KeyOrd.kle_trans (KeyOrd.kle_of_klt hless) (hs' i (j - 1) (by omega) (by omega))
   by_cases hneq:neq > 0
   ·rw [if_pos hneq]
    refine wpS_bind (wpS_reverse (wpS_pure ⟨0,rfl,hB'.setArr (mirror_perm _ _ _ _),step1 _ (KK_mirror_equal hsz he),by omega,fun i h1 h2=>by congr 1; omega⟩))
   ·rw [if_neg hneq]
    exact wpS_pure ⟨0,rfl,hB',step1 _ (fun _=>rfl),by omega,fun i h1 h2=>by congr 1; omega⟩
  case false =>
   simp only [Bool.false_eq_true,if_false]
   refine wpS_bind (cB hO hB' h0 (by omega) (by omega) ?_)
   cases hlarger:κ.blt (KK κ (arrOf st') (x - 1)) (KK κ (arrOf st') x)
   case true =>
    simp only [if_true]
    exact wpS_pure (h x neq st' hB' hax (by omega) hs' hq he)
   case false =>
    simp only [Bool.false_eq_true,if_false]
    have heqx:KK κ (arrOf st') x=KK κ (arrOf st') (x - 1):=KeyOrd.kle_antisymm hlarger hless
    refine wpS_pure ⟨neq + 1,rfl,hB',fun i j hij hj=>?_,by omega,fun i h1 h2=>?_⟩
    ·by_cases hjx:j < x
     ·exact hs' i j hij hjx
     ·have hj':j=x:=by omega
      subst hj'
      by_cases hi':i=j
      ·subst hi'; exact KeyOrd.kle_refl _
      ·rw [heqx]; exact hs' i (j - 1) (by omega) (by omega)
    ·rw [show x + 1 - 1=x by omega]
     by_cases hix:i=x
     ·subst hix; rfl
     ·rw [heqx]; exact he i (by omega) (by omega)
theorem cO {st:SortSt} {n nrem:Nat} {Q:Option Nat→SortSt→Prop} (hO:bP prog w A s κ0 κ) (h0:KeysOf κ a₀) (hn:nrem≤a₀.size) (hnn:n + 1≤nrem) (hB:SBaseT κ0 a₀ st)
  (hs:NonIncK κ (arrOf st) (n + 1)) (h:∀m st',SBaseT κ0 a₀ st'→1≤m→m≤nrem→SortedToK κ (arrOf st') m→Q (some m) st') :
  wpS (model prog w) A E s (descPart n nrem) Q st:=by
 unfold descPart
 refine wpS_bind (wpS_lift (wpAny_rule ⟨rfl,?_⟩))
 refine wpS_bind (fD hO h0 hn (by omega) hnn hB hs fun m neq st' hB' hm1 hm2 hs' hq he=>?_)
 dsimp only
 have hsz:m≤(arrOf st').size:=by rw [hB'.size]; omega
 by_cases hneq:neq > 0
 ·rw [if_pos hneq]
  refine wpS_bind (wpS_reverse (eS hO h0 hn (by omega) hm2 (hB'.setArr (mirror_perm _ _ _ _)) ?_ h))
  intro i j hij hj
  show κ.kle (KK κ (mirror (arrOf st') _ _ _) j) (KK κ (mirror (arrOf st') _ _ _) i)
  rw [KK_mirror_equal hsz he,KK_mirror_equal hsz he]
  exact hs' i j hij hj
 ·rw [if_neg hneq]
  exact eS hO h0 hn (by omega) hm2 hB' hs' h
theorem fE {st:SortSt} {nrem:Nat} {Q:Option Nat→SortSt→Prop} (hO:bP prog w A s κ0 κ) (h0:KeysOf κ a₀) (hn:nrem≤a₀.size) (h1:1≤nrem) (hB:SBaseT κ0 a₀ st)
  (h:∀m st',SBaseT κ0 a₀ st'→1≤m→m≤nrem→SortedToK κ (arrOf st') m→Q (some m) st') :
  wpS (model prog w) A E s (countRun' 0 nrem) Q st:=by
 rw [countRun0_eq]
 refine wpS_bind (cZ hO h0 hn (Nat.le_refl 1) h1 hB (fun i j hij hj=>by have:i=j:=(by omega); subst this; exact KeyOrd.kle_refl _) fun n hn1 hn2 hsn hor=>?_)
 dsimp only
 by_cases hnn:n=nrem
 ·rw [if_pos (by simpa using hnn)]
  exact wpS_pure (h n st hB hn1 hn2 hsn)
 ·rw [if_neg (by simpa using hnn)]
  have hlt:κ.klt (KK κ (arrOf st) n) (KK κ (arrOf st) (n - 1)):=hor.resolve_left hnn
  by_cases hgt:n > 1
  ·rw [if_pos hgt]
   refine wpS_bind (cB hO hB h0 (by omega) (by omega) ?_)
   cases hrose:κ.blt (KK κ (arrOf st) 0) (KK κ (arrOf st) (n - 1))
   case true =>
    simp only [if_true]
    exact wpS_pure (h n st hB hn1 hn2 hsn)
   case false =>
    simp only [Bool.false_eq_true,if_false]
    have hsz:n≤(arrOf st).size:=by rw [hB.size]; omega
    have hall:∀k,0≤k→k < n→KK κ (arrOf st) k=KK κ (arrOf st) (n - 1):=by
     intro k _ hk
     have a1:=hsn 0 k (by omega) hk
     have a2:=hsn k (n - 1) (by omega) (by omega)
     exact KeyOrd.kle_antisymm a2 (KeyOrd.kle_trans hrose a1)
    refine wpS_bind (wpS_reverse (cO hO h0 hn (by omega) (hB.setArr (mirror_perm _ _ _ _)) ?_ h))
    intro i j hij hj
    show κ.kle (KK κ (mirror (arrOf st) _ _ _) j) (KK κ (mirror (arrOf st) _ _ _) i)
    rw [KK_mirror_equal hsz hall,KK_mirror_equal hsz hall]
    by_cases hjn:j < n
    ·rw [hall i (by omega) (by omega),hall j (by omega) hjn]; exact KeyOrd.kle_refl _
    ·have hj':j=n:=by omega
     subst hj'
     by_cases hi':i=j
     ·subst hi'; exact KeyOrd.kle_refl _
     ·rw [hall i (by omega) (by omega)]; exact KeyOrd.kle_of_klt hlt
  ·rw [if_neg hgt]
   have hn1':n=1:=by omega
   subst hn1'
   refine cO hO h0 hn (by omega) hB ?_ h
   intro i j hij hj
   by_cases hi':i=j
   ·subst hi'; exact KeyOrd.kle_refl _
   ·have hi0:i=0:=by omega
    have hj1:j=1:=by omega
    subst hi0; subst hj1
    exact KeyOrd.kle_of_klt hlt
theorem SBaseT.doneK {st:SortSt} (hB:SBaseT κ0 a₀ st) (hs:SortedToK κ (arrOf st) a₀.size):SDoneK κ a₀ (setPending st ((pendingOf st).push (0,a₀.size,0))) :=
 ⟨hB.perm,hB.failed,by show (pendingOf st).push _=_; rw [hB.pend]; rfl,hs⟩
theorem fF {st:SortSt} {Q:Unit→SortSt→Prop} (hO:bP prog w A s κ0 κ) (h0:KeysOf κ a₀) (hB:SBaseT κ0 a₀ st) (h2:2≤a₀.size) (h64:a₀.size < 64)
  (h:∀st',(arrOf st').Perm a₀→failedOf st'=none→SortedToK κ (arrOf st') a₀.size→Q () st'):wpS (model prog w) A E s sortRuns' Q st:=by
 rw [sortRuns'_eq]
 refine wpS_bind (wpS_get ?_)
 dsimp only
 have hmr:minRun' a₀.size a₀.size 0=a₀.size:=by
  obtain ⟨f,hf⟩:∃f,a₀.size=f + 1:=⟨a₀.size - 1,by omega⟩
  have:minRun' (f + 1) a₀.size 0=a₀.size:=by rw [minRun'_succ,if_pos h64]; rfl
  rwa [← hf] at this
 simp only [hB.size,hmr]
 refine wpS_bind (wpS_mono (wpS_forRange
  (I:=fun x c st'=>(x=0∧c=(none,0)∧SBaseT κ0 a₀ st')∨(1≤x∧c=(none,a₀.size)∧SDoneK κ a₀ st'))
  (Q:=fun c st'=>c=(none,a₀.size)∧SDoneK κ a₀ st') ?step ?fin (.inl ⟨rfl,rfl,hB⟩)) ?post)
 case fin =>
  rintro c st' (⟨hx,_,_⟩ | ⟨_,hc,hD⟩)
  ·omega
  ·exact ⟨hc,hD⟩
 case step =>
  rintro x c st' _ hx (⟨rfl,rfl,hB'⟩ | ⟨hx1,rfl,hD⟩)
  ·dsimp only
   rw [if_neg (by omega)]
   simp only [Nat.sub_zero,Nat.min_self,Nat.zero_add]
   refine wpS_bind (fE hO h0 (Nat.le_refl _) (by omega) hB' fun m st2 hB2 hm1 hm2 hs2=>?_)
   dsimp only
   by_cases hlt:m < a₀.size
   ·rw [if_pos hlt]
    refine wpS_bind (wpS_lift (wpAny_rule ⟨rfl,?_⟩))
    refine wpS_bind (eL hO h0 (Nat.le_refl _) hm2 hB2 hs2 fun st3 hB3 hs3=>?_)
    simp only [Bool.not_true,Bool.false_eq_true,if_false]
    refine wpS_bind (wpS_get ?_)
    have hb:(pendingOf st3).back? = none:=by rw [hB3.pend]; rfl
    rw [hb]
    dsimp only
    exact wpS_bind (wpS_modify (wpS_pure (.inr ⟨by omega,rfl,hB3.doneK hs3⟩)))
   ·rw [if_neg hlt]
    have hm:m=a₀.size:=by omega
    subst hm
    refine wpS_bind (wpS_get ?_)
    have hb:(pendingOf st2).back? = none:=by rw [hB2.pend]; rfl
    rw [hb]
    dsimp only
    exact wpS_bind (wpS_modify (wpS_pure (.inr ⟨by omega,rfl,hB2.doneK hs2⟩)))
  ·dsimp only
   rw [if_pos (Nat.le_refl _)]
   exact wpS_pure ⟨rfl,hD⟩
 case post =>
  rintro c st' ⟨rfl,hD⟩
  dsimp only
  refine wpS_bind (wpS_mono (wpS_forRange (I:=fun _ c st''=>st''=st'∧c=(none,())) (Q:=fun c st''=>st''=st'∧c=(none,())) ?_ (fun _ _ hh=>hh) ⟨rfl,rfl⟩) ?_)
  ·rintro x c st'' _ _ ⟨rfl,rfl⟩
   refine wpS_bind (wpS_get ?_)
   rw [if_pos (by rw [hD.2.2.1]; exact Nat.le_refl 1)]
   exact wpS_pure ⟨rfl,rfl⟩
  ·rintro c st'' ⟨rfl,rfl⟩
   exact wpS_pure (h _ hD.1 hD.2.1 hD.2.2.2)
end
section
variable {prog:Program} {w:World} {A:Around} {E:Value→Shared→Prop} {s:Shared}
theorem eX {κ:KeyKind} {κ0:SortKind} {a:Addr} {vs:List Value} {n:Nat} {P:Fin→Shared→Prop} (ho:s.heap.get? a=some (seqObj "list" vs.toArray n))
  (h0:KeysOf κ (pairsOf vs)) (hkk:∀s':Shared,(∀b o,b≠a→s.heap.get? b=some o→s'.heap.get? b=some o)→bP prog w A s' κ0 κ∧∀v₁ v₂ rest,vs=v₁ :: v₂ :: rest→∀ (Q:SortKind→Shared→Prop),Q κ0 s'→wpAny (model prog w) A (keyKind' (v₁ :: v₂ :: rest).toArray) Q E s') (h64:vs.length < 64)
  (h:∀st':SortSt,(arrOf st').Perm (pairsOf vs)→SortedToK κ (arrOf st') (pairsOf vs).size→P (.done (.ret .none)) { s with heap:=sortedHeap s.heap a vs ((arrOf st').map (·.2)) }) :
  wpAny (model prog w) A (Builtin.«list.sort» ⟨[.ref a],[]⟩) P E s:=by
 rw [list_sort_plain]
 have ha:a < s.heap.objs.size:=Heap.lt_size ho
 refine wpAny_bind (listItems_at ho rfl ?_)
 refine wpAny_bind (listUpdate_at ho rfl ?_)
 obtain ⟨e1,ho1⟩:∃e1,(s.heap.update a (Obj.mapSeq fun _=>#[])).get? a=some (seqObj "list" #[] e1):=⟨_,get?_update_seq ho (fun _=>#[])⟩
 refine wpAny_bind (seqEpoch_at ho1 rfl ?_)
 refine wpAny_bind (wpAny_newTuple ?_)
 refine wpAny_bind (wpAny_newList ?_)
 refine wpAny_holding ?_
 have ho6:(((s.heap.update a (Obj.mapSeq fun _=>#[])).push (seqObj "tuple" vs.toArray 0)).push (seqObj "list" #[] 0)).get? a=some (seqObj "list" #[] e1):=by
  rw [Heap.get?_push_ne _ _ _ (by rw [size_push',Heap.size_update]; exact Nat.ne_of_lt (Nat.lt_succ_of_lt ha)),Heap.get?_push_ne _ _ _ (by rw [Heap.size_update]; exact Nat.ne_of_lt ha)]
  exact ho1
 show wpAny (model prog w) A _ P E { s with heap:=((s.heap.update a (Obj.mapSeq fun _=>#[])).push (seqObj "tuple" vs.toArray 0)).push (seqObj "list" #[] 0) }
 dsimp only
 have hsz:vs.toArray.size=vs.length:=by simp
 have fin:=h
 by_cases h2:vs.toArray.size < 2
 ·rw [if_pos h2,if_pos h2]
  refine wpAny_bind (wpAny_pure ?_)
  rw [StateT.run_pure]
  refine wpAny_bind (wpAny_pure ?_)
  dsimp only
  refine wpAny_bind (seqEpoch_at ho6 rfl ?_)
  refine wpAny_bind (listUpdate_at ho6 rfl ?_ (hsz2:=by rw [Array.size_map]; show (pairsOf vs).size≤_; rw [pairsOf_size,sizeLine_eq]; omega))
  simp only [bne_self_eq_false,Bool.false_eq_true,if_false]
  refine wpAny_pure (fin (SortSt.mk' general' (vs.toArray.zip vs.toArray) #[] 7 none) (Array.Perm.refl _) ?_)
  intro i j hij hj
  have:i=j:=by rw [pairsOf_size] at hj; omega
  subst this; exact KeyOrd.kle_refl _
 ·rw [if_neg h2,if_neg h2]
  obtain ⟨v₁,v₂,rest,rfl⟩:∃v₁ v₂ rest,vs=v₁ :: v₂ :: rest:=by
   match vs,hsz,h2 with
   | [],_,h2=>simp at h2
   | [_],_,h2=>simp at h2
   | v₁ :: v₂ :: rest,_,_=>exact ⟨v₁,v₂,rest,rfl⟩
  have kp:∀b o,b≠a→s.heap.get? b=some o→(((s.heap.update a (Obj.mapSeq fun _=>#[])).push (seqObj "tuple" (v₁ :: v₂ :: rest).toArray 0)).push (seqObj "list" #[] 0)).get? b=some o:=fun b o nb e =>
   Heap.get?_push_of_some _ (Heap.get?_push_of_some _ (by rw [Heap.get?_update_ne _ _ _ _ nb]; exact e))
  obtain ⟨hO,hK⟩:=hkk { s with heap:=((s.heap.update a (Obj.mapSeq fun _=>#[])).push (seqObj "tuple" (v₁ :: v₂ :: rest).toArray 0)).push (seqObj "list" #[] 0) } kp
  refine wpAny_bind (hK _ _ _ rfl _ ?_)
  refine wpAny_bind (wpAny_mono (fF (κ:=κ) (κ0:=κ0) hO (a₀:=pairsOf (v₁ :: v₂ :: rest)) (st:=SortSt.mk' κ0 ((v₁ :: v₂ :: rest).toArray.zip (v₁ :: v₂ :: rest).toArray) #[] 7 none)
   (Q:=fun _ st'=>(arrOf st').Perm (pairsOf (v₁ :: v₂ :: rest))∧failedOf st'=none∧SortedToK κ (arrOf st') (pairsOf (v₁ :: v₂ :: rest)).size)
   h0 ⟨Array.Perm.refl _,rfl,rfl,rfl⟩ (by rw [pairsOf_size]; simp) (by rw [pairsOf_size]; exact h64) fun st' a1 a2 a3=>⟨a1,a2,a3⟩) ?_ fun _ _ e=>e)
  rintro ⟨⟨⟩,st'⟩ s' ⟨rfl,hp,hf,hs⟩
  dsimp only
  refine wpAny_bind (seqEpoch_at ho6 rfl ?_)
  refine wpAny_bind (listUpdate_at ho6 rfl ?_ (hsz2:=by refine Nat.le_trans (Nat.le_of_eq ((Array.size_map ..).trans (hp.size_eq.trans (pairsOf_size _)))) ?_; rw [sizeLine_eq]; omega))
  rw [hf]
  simp only [bne_self_eq_false,Bool.false_eq_true,if_false]
  exact wpAny_pure (fin st' hp hs)
theorem pH {κ:KeyKind} {κ0:SortKind} {l:Addr} {vs:List Value} {Q:Value→Shared→Prop} (hl:s.heap.IsList l vs.toArray) (h0:KeysOf κ (pairsOf vs)) (hkk:∀ (A':Around) (s':Shared),(∀b o,s.heap.get? b=some o→s'.heap.get? b=some o)→bP prog w A' s' κ0 κ∧∀v₁ v₂ rest,vs=v₁ :: v₂ :: rest→∀ (Q:SortKind→Shared→Prop) (E':Value→Shared→Prop),Q κ0 s'→wpAny (model prog w) A' (keyKind' (v₁ :: v₂ :: rest).toArray) Q E' s') (h64:vs.length < 64)
  (h:∀st':SortSt,(arrOf st').Perm (pairsOf vs)→SortedToK κ (arrOf st') (pairsOf vs).size→Q (.ref (s.heap.objs.size + 1)) { s with heap:=sortedAll s.heap vs ((arrOf st').map (·.2)) }) :
  wpAny (model prog w) A (call (.builtin "sorted") [.ref l]) Q E s:=by
 refine Calls.call_function_entry kind_sorted plain_sorted entry_sorted (args_sorted1 _) ?_
 unfold Builtin.«sorted»
 refine wpAny_bind (m:=checkCount "sorted" 1 1 _) (wpAny_pure ?_)
 refine wpAny_bind (collect_list hl ?_)
 refine wpAny_bind (wpAny_newList ?_)
 have hsz:((s.heap.push (seqObj "list" #[] 0)).update s.heap.objs.size (Obj.mapSeq (· ++ vs.toArray))).objs.size=s.heap.objs.size + 1:=by
  rw [Heap.size_update,size_push']
 have hoL:(((s.heap.push (seqObj "list" #[] 0)).update s.heap.objs.size (Obj.mapSeq (· ++ vs.toArray))).push (seqObj "list" vs.toArray 0)).get? (s.heap.objs.size + 1)=some (seqObj "list" vs.toArray 0):=by
  rw [← hsz]; exact Heap.get?_push_size _ rfl
 show wpAny _ _ _ _ _ { s with heap:=((s.heap.push (seqObj "list" #[] 0)).update s.heap.objs.size (Obj.mapSeq (· ++ vs.toArray))).push (seqObj "list" vs.toArray 0) }
 rw [hsz]
 refine wpAny_bind (wpAny_holding (wpAny_call_entry slot_list_sort ⟨_,hoL,rfl⟩ entry_list_sort (eX hoL h0 (fun s' k=>by obtain ⟨a1,a2⟩:=hkk _ s' (fun b o e=>k b o (Nat.ne_of_lt (Nat.lt_succ_of_lt (Heap.lt_size e))) (Heap.get?_push_of_some _ (by rw [Heap.get?_update_ne _ _ _ _ (Nat.ne_of_lt (Heap.lt_size e))]; exact Heap.get?_push_of_some _ e))); exact ⟨a1,fun v1 v2 r e Q q=>a2 v1 v2 r e Q _ q⟩) h64 fun st' a1 a2=>⟨_,rfl,?_⟩) (args_list_sort _)))
 exact wpAny_pure ⟨_,rfl,h st' a1 a2⟩
end
end PyProof.Rows
set_option Elab.async false
set_option linter.all false
set_option maxRecDepth 100000
namespace L2
open PySem PySem.Spec PyProof.Rows
def bz:List Bool→List Value→Option (List Int)
 | [],[]=>some []
 | false :: r,.int i _ :: vs=>(bz r vs).map (i :: ·)
 | true :: r,.bool b :: vs=>(bz r vs).map ((if b=true then 1 else 0) :: ·)
 | _,_=>none
def iC:List Bool→List V→Option (List Int)
 | [],[]=>some []
 | false :: r,.int i :: vs=>(iC r vs).map (i :: ·)
 | true :: r,.bl b :: vs=>(iC r vs).map ((if b=true then 1 else 0) :: ·)
 | _,_=>none
theorem jy:∀ {sh:List Bool} {vs:List V} {us:List Value} {k:List Int},Vals vs us→iC sh vs=some k→bz sh us=some k
 | [],[],_,_,r,h=>by cases r; exact h
 | [],_ :: _,_,_,_,h=>by cases h
 | false :: r,v :: vs,us,k,rv,h=>by
  cases rv with
  | cons r1 r2 =>
   cases v with
   | int i =>
    obtain ⟨t,rfl⟩:=r1
    have h:(iC r vs).map (i :: ·)=some k:=h
    show (bz r _).map (i :: ·)=some k
    cases e:iC r vs with
    | none=>rw [e] at h; cases h
    | some k'=>rw [e] at h; rw [jy r2 e]; exact h
   | _=>cases h
 | true :: r,v :: vs,us,k,rv,h=>by
  cases rv with
  | cons r1 r2 =>
   cases v with
   | bl b =>
    cases (show _=Value.bool b from r1)
    have h:(iC r vs).map ((if b=true then 1 else 0) :: ·)=some k:=h
    show (bz r _).map ((if b=true then 1 else 0) :: ·)=some k
    cases e:iC r vs with
    | none=>rw [e] at h; cases h
    | some k'=>rw [e] at h; rw [jy r2 e]; exact h
   | _=>cases h
 | false :: _,[],_,_,_,h=>by cases h
 | true :: _,[],_,_,_,h=>by cases h
def bC:List Int→List Int→Bool
 | [],[]=>false
 | [],_ :: _=>true
 | _ :: _,[]=>false
 | a :: r,b :: t=>if a=b then bC r t else decide (a < b)
theorem fG:∀a,bC a a=false
 | []=>rfl
 | a :: r=>by rw [bC,if_pos rfl]; exact fG r
theorem gn:∀a b c,bC a b=true→bC b c=true→bC a c=true
 | [],[],_,h,_=>by cases h
 | [],_ :: _,[],_,h=>by cases h
 | [],_ :: _,_ :: _,_,_=>rfl
 | _ :: _,[],_,h,_=>by cases h
 | _ :: _,_ :: _,[],_,h=>by cases h
 | a :: r,b :: t,c :: u,h1,h2=>by
  rw [bC] at h1 h2 ⊢
  by_cases e1:a=b
  ·rw [if_pos e1] at h1
   by_cases e2:b=c
   ·rw [if_pos e2] at h2
    rw [if_pos (e1.trans e2)]
    exact gn r t u h1 h2
   ·rw [if_neg e2] at h2
    rw [if_neg (by rw [e1]; exact e2),e1]; exact h2
  ·rw [if_neg e1] at h1
   have h1:=of_decide_eq_true h1
   by_cases e2:b=c
   ·rw [if_neg (by omega)]; exact decide_eq_true (by omega)
   ·rw [if_neg e2] at h2
    have h2:=of_decide_eq_true h2
    rw [if_neg (by omega)]; exact decide_eq_true (by omega)
theorem kD:∀a b c,bC a c=true→bC a b=true∨bC b c=true
 | [],[],_,h=>.inr h
 | [],_ :: _,_,_=>.inl rfl
 | _ :: _,_,[],h=>by cases h
 | _ :: _,[],_ :: _,_=>.inr rfl
 | a :: r,b :: t,c :: u,h=>by
  rw [bC] at h
  rw [bC,bC]
  by_cases e1:a=b
  ·rw [if_pos e1]
   by_cases e2:b=c
   ·rw [if_pos (e1.trans e2)] at h
    rw [if_pos e2]
    exact kD r t u h
   ·rw [if_neg (by rw [e1]; exact e2)] at h
    rw [if_neg e2]
    exact .inr (by rw [← e1]; exact h)
  ·rw [if_neg e1]
   by_cases e3:a=c
   ·rw [if_neg (by omega)]
    by_cases z:a < b
    ·exact .inl (decide_eq_true z)
    ·exact .inr (decide_eq_true (by omega))
   ·rw [if_neg e3] at h
    have h:=of_decide_eq_true h
    by_cases z:a < b
    ·exact .inl (decide_eq_true z)
    ·rw [if_neg (by omega)]; exact .inr (decide_eq_true (by omega))
theorem eM:∀a b,bC a b=false→bC b a=false→a=b
 | [],[],_,_=>rfl
 | [],_ :: _,h,_=>by cases h
 | _ :: _,[],_,h=>by cases h
 | a :: r,b :: t,h1,h2=>by
  rw [bC] at h1 h2
  by_cases e:a=b
  ·rw [if_pos e] at h1
   rw [if_pos e.symm] at h2
   rw [e,eM r t h1 h2]
  ·rw [if_neg e] at h1
   rw [if_neg (Ne.symm e)] at h2
   have:=of_decide_eq_false h1
   have:=of_decide_eq_false h2
   exact absurd (show a=b by omega) e
def lr (h:Heap) (sh:List Bool):KeyKind where
 α:=List Int
 blt:=bC
 irrefl:=fG
 trans:=gn
 negTrans:=kD
 total:=eM
 keyOf:=fun v=>match v with
  | .ref a=>match h.get? a with
   | some o=>match o.data with
    | .seq xs _=>bz sh xs.toList
    | _=>none
   | none=>none
  | _=>none
 dflt:=[]
theorem kF {h:Heap} {sh:List Bool} {v:Value} {k:List Int} (e:(lr h sh).keyOf v=some k):∃a o xs n,v=.ref a∧h.get? a=some o∧o.data=.seq xs n∧bz sh xs.toList=some k:=by
 cases v with
 | ref a =>
  have e:(match h.get? a with
   | some o=>match o.data with
    | .seq xs _=>bz sh xs.toList
    | _=>none
   | none=>none)=some k:=e
  cases h1:h.get? a with
  | none=>rw [h1] at e; cases e
  | some o =>
   rw [h1] at e
   cases h2:o.data with
   | seq xs n =>
    have e:(match o.data with
     | .seq xs _=>bz sh xs.toList
     | _=>none)=some k:=e
    rw [h2] at e
    exact ⟨a,o,xs,n,rfl,h1,h2,e⟩
   | _ =>
    have e:(match o.data with
     | .seq xs _=>bz sh xs.toList
     | _=>none)=some k:=e
    rw [h2] at e; cases e
 | _=>cases e
theorem dM:∀ {sh:List Bool} {us:List Value} {k:List Int},bz sh us=some k→us.length=sh.length
 | [],[],_,_=>rfl
 | [],_ :: _,_,h=>by cases h
 | false :: r,[],_,h=>by cases h
 | true :: r,[],_,h=>by cases h
 | false :: r,v :: vs,k,h=>by
  cases v with
  | int i t =>
   have h:(bz r vs).map (i :: ·)=some k:=h
   cases e:bz r vs with
   | none=>rw [e] at h; cases h
   | some k'=>rw [List.length_cons,List.length_cons,dM e]
  | _=>cases h
 | true :: r,v :: vs,k,h=>by
  cases v with
  | bool b =>
   have h:(bz r vs).map ((if b=true then 1 else 0) :: ·)=some k:=h
   cases e:bz r vs with
   | none=>rw [e] at h; cases h
   | some k'=>rw [List.length_cons,List.length_cons,dM e]
  | _=>cases h
section
variable {prog:Program} {w:World} {A:Around} {E:Value→Shared→Prop} {s:Shared}
theorem iD {a b:Bool} {Q:Bool→Shared→Prop} (h:Q (a == b) s):wpAny (model prog w) A (eqBool (.bool a) (.bool b)) Q E s:=by
 unfold eqBool
 show wpAny _ _ (if (Value.bool a == Value.bool b)=true then _ else _) Q E s
 by_cases hab:(Value.bool a == Value.bool b)=true
 ·rw [if_pos hab]
  have e:a=b:=by have:=eq_of_beq hab; injection this
  subst e
  exact wpAny_bind (wpAny_rule (wpAny_pure (by simpa using h)))
 ·rw [if_neg hab]
  exact wpAny_bind (eq_bool (wpAny_truthy_bool h))
theorem gO {bb:Bool} {Q:Bool→Shared→Prop}:∀ (sh:List Bool) (xs ys:List Value) (a c:List Int) (i:Nat),bz sh xs=some a→bz sh ys=some c→((bb && i == 0)=true→sh.head? = some false∨sh=[])→Q (bC a c) s→PySem.W.KatLex prog w A bb false Q (xs.zip ys) i s
 | [],[],[],a,c,i,h1,h2,_,q=>by cases h1; cases h2; exact PySem.W.kat_nil q
 | [],_ :: _,_,_,_,_,h,_,_,_=>by cases h
 | [],[],_ :: _,_,_,_,_,h,_,_=>by cases h
 | false :: r,[],_,_,_,_,h,_,_,_=>by cases h
 | true :: r,[],_,_,_,_,h,_,_,_=>by cases h
 | false :: r,_ :: _,[],_,_,_,_,h,_,_=>by cases h
 | true :: r,_ :: _,[],_,_,_,_,h,_,_=>by cases h
 | false :: r,v :: vs,u :: us,a,c,i,h1,h2,hb,q=>by
  cases v with
  | int p t=>cases u with
   | int p' t' =>
    have h1:(bz r vs).map (p :: ·)=some a:=h1
    have h2:(bz r us).map (p' :: ·)=some c:=h2
    cases e1:bz r vs with
    | none=>rw [e1] at h1; cases h1
    | some a' =>
     cases e2:bz r us with
     | none=>rw [e2] at h2; cases h2
     | some c' =>
      rw [e1] at h1; rw [e2] at h2
      cases h1; cases h2
      rw [bC] at q
      refine PySem.W.kat_cons (wpAny_eqBool_int (PySem.W.kat_go (fun e=>PySem.W.kat_yes ?_) (fun e=>PySem.W.kat_no ?_)))
      ·rw [if_pos (by simpa using e)] at q
       exact gO r vs us a' c' (i + 1) e1 e2 (fun z=>by simp at z) q
      ·rw [if_neg (by simpa using e)] at q
       cases z:(bb && i == 0) with
       | true=>exact oneLt_int q
       | false=>exact PySem.W.kat_one _ _ (PyProof.Rows.lt_int q)
   | _=>cases h2
  | _=>cases h1
 | true :: r,v :: vs,u :: us,a,c,i,h1,h2,hb,q=>by
  cases v with
  | bool p=>cases u with
   | bool p' =>
    have h1:(bz r vs).map ((if p=true then 1 else 0) :: ·)=some a:=h1
    have h2:(bz r us).map ((if p'=true then 1 else 0) :: ·)=some c:=h2
    cases e1:bz r vs with
    | none=>rw [e1] at h1; cases h1
    | some a' =>
     cases e2:bz r us with
     | none=>rw [e2] at h2; cases h2
     | some c' =>
      rw [e1] at h1; rw [e2] at h2
      cases h1; cases h2
      rw [bC] at q
      refine PySem.W.kat_cons (iD (PySem.W.kat_go (fun e=>PySem.W.kat_yes ?_) (fun e=>PySem.W.kat_no ?_)))
      ·have e:p=p':=by simpa using e
       rw [if_pos (by rw [e])] at q
       exact gO r vs us a' c' (i + 1) e1 e2 (fun z=>by simp at z) q
      ·have e:p≠p':=by simpa using e
       rw [if_neg (by cases p <;> cases p' <;> simp_all)] at q
       cases z:(bb && i == 0) with
       | true=>rcases hb z with z | z <;> cases z
       | false =>
        refine PySem.W.kat_one _ _ (PyProof.Rows.lt_bool ?_)
        show Q (decide (b2i p < b2i p')) s
        rw [show decide (b2i p < b2i p')=decide ((if p=true then (1:Int) else 0) < (if p'=true then 1 else 0)) by cases p <;> cases p' <;> rfl]
        exact q
   | _=>cases h2
  | _=>cases h1
theorem lx {h:Heap} {sh:List Bool} (h0:sh.head? = some false) (k:∀b o,h.get? b=some o→s.heap.get? b=some o):bP prog w A s (tuples' true) (lr h sh):=by
 intro E x y a b Q ha hb q
 obtain ⟨x',ox,xs,n,rfl,hx,dx,fx⟩:=kF ha
 obtain ⟨y',oy,ys,m,rfl,hy,dy,fy⟩:=kF hb
 have l1:=dM fx
 have l2:=dM fy
 refine PySem.W.kat_lt (k _ _ hx) dx (k _ _ hy) dy ?_
 rw [show decide (xs.size < ys.size)=false from decide_eq_false (by rw [← Array.length_toList,← Array.length_toList]; omega)]
 exact gO sh _ _ a b 0 fx fy (fun _=>.inl h0) q
end
theorem gp:∀ {as:List Addr} {its:List Value},Vals (as.map V.ref) its→its=as.map Value.ref
 | [],_,r=>by cases r; rfl
 | a :: as,_,r=>by
  cases r with
  | cons r1 r2 =>
   have e:_=Value.ref a:=r1
   subst e
   rw [List.map_cons,gp r2]
theorem gq:∀as:List Addr,Vals (as.map V.ref) (as.map Value.ref)
 | []=>.nil
 | a :: as=>.cons rfl (gq as)
theorem nA {α β:Type} {f:α→β} (g:β→Option α) (hg:∀a,g (f a)=some a) {l:List β} {as:List α} (h:l.Perm (as.map f)):∃as':List α,l=as'.map f∧as'.Perm as:=by
 refine ⟨l.filterMap g,?_,?_⟩
 ·have all:∀x∈l,∃a,f a=x:=fun x hx=>by
   obtain ⟨a,_,e⟩:=List.mem_map.mp (h.mem_iff.mp hx)
   exact ⟨a,e⟩
  clear h
  induction l with
  | nil=>rfl
  | cons x r ih =>
   obtain ⟨a,rfl⟩:=all x List.mem_cons_self
   rw [List.filterMap_cons,hg a,List.map_cons,← ih fun y hy=>all y (List.mem_cons_of_mem _ hy)]
 ·have:=h.filterMap g
  rw [List.filterMap_map,show (g∘f)=some from funext hg,List.filterMap_some] at this
  exact this
theorem eT {h:Heap} {sh:List Bool} {key:Addr→List Int} (h0:sh.head? = some false):∀ (as:List Addr),(∀a∈as,∃o us n,h.get? a=some o∧o.cls=.type "tuple" ∧ o.data=.seq (List.toArray us) n∧bz sh us=some (key a))→∃fs,PySem.W.KatTups h (as.map Value.ref) fs∧fs.length=as.length∧∀v∈fs,∃i t,v=Value.int i t
 | [],_=>⟨[],trivial,rfl,fun v hv=>by cases hv⟩
 | a :: as,H=>by
  obtain ⟨fs,h1,h2,h3⟩:=eT h0 as fun b hb=>H b (List.mem_cons_of_mem _ hb)
  obtain ⟨o,us,n,e,c,d,f⟩:=H a List.mem_cons_self
  obtain ⟨r,hr⟩:∃r,sh=false :: r:=by
   cases sh with
   | nil=>cases h0
   | cons x r=>cases h0; exact ⟨r,rfl⟩
  subst hr
  cases us with
  | nil=>cases f
  | cons u us =>
   cases u with
   | int i t=>exact ⟨.int i t :: fs,PySem.W.KatTups.cons e c d (by simp) h1,by rw [List.length_cons,List.length_cons,h2],fun v hv=>(List.mem_cons.mp hv).elim (fun z=>⟨i,t,z⟩) (h3 v)⟩
   | _=>cases f
section
variable {X:Cx}
def rD (K:PySem.W.Frag) (xs:List V) (H:Hp) (Q:VK):Prop:=∃ (p:Addr) (as:List Addr) (sh:List Bool) (key:Addr→List Int),xs=[.ref p]∧SqL K H p (as.map V.ref)∧as.length < 64∧sh.head? = some false∧(∀a∈as,∃vs,SqT K H a vs∧iC sh vs=some (key a)) ∧
 ∀ (l:Addr) (as':List Addr),H l=none→as'.Perm as→(as'.map key).Pairwise (fun x y=>bC y x=false)→Q (.ref l) (upd H l (.lst (as'.map V.ref)))
theorem cI:cq X (.builtin "sorted") (rD X.K):=by
 intro pins s σ H xs us Q I r h
 obtain ⟨p,as,sh,key,rfl,hs,h64,h0,hk,q⟩:=h
 obtain ⟨u,rfl,rfl⟩:=dA r
 obtain ⟨its,rv,pl,_⟩:=I.list hs
 have ei:=gp rv
 subst ei
 have tu:∀a∈as,∃o us n,s.heap.get? a=some o∧o.cls=.type "tuple" ∧ o.data=.seq (List.toArray us) n∧bz sh us=some (key a):=fun a ha=>by
  obtain ⟨vs,hv,hf⟩:=hk a ha
  obtain ⟨us,r,⟨o,e,c,n,d⟩,_⟩:=I.tuple hv
  exact ⟨o,us,n,e,c,d,jy r hf⟩
 have kof:∀a∈as,(lr s.heap sh).keyOf (.ref a)=some (key a):=fun a ha=>by
  obtain ⟨o,us,n,e,c,d,f⟩:=tu a ha
  show (match s.heap.get? a with
   | some o=>match o.data with
    | .seq xs _=>bz sh xs.toList
    | _=>none
   | none=>none)=some (key a)
  rw [e]
  show (match o.data with
    | .seq xs _=>bz sh xs.toList
    | _=>none)=some (key a)
  rw [d]
  exact f
 refine pH (κ:=lr s.heap sh) (κ0:=tuples' true) pl.isList ?keys ?kk (by rw [List.length_map]; exact h64) fun st' hp hs'=>?_
 case keys =>
  intro pr hpr
  rw [pairsOf_toList] at hpr
  obtain ⟨a,ha,e⟩:=List.mem_map.mp (List.of_mem_zip (show (pr.1,pr.2)∈_ from hpr)).1
  exact ⟨key a,by rw [← e]; exact kof a ha⟩
 case kk =>
  intro A' s' k
  refine ⟨lx h0 k,fun v1 v2 rest e Q E' q=>?_⟩
  obtain ⟨fs,f1,f2,f3⟩:=eT (h:=s'.heap) (key:=key) h0 as fun a ha=>by
   obtain ⟨o,us,n,e,c,d,f⟩:=tu a ha
   exact ⟨o,us,n,k _ _ e,c,d,f⟩
  rw [e] at f1
  have:(as.map Value.ref).length=rest.length + 2:=by rw [e]; rfl
  rw [List.length_map] at this
  refine PySem.W.kat_kind (T:=.type "int") f1 (by omega) (fun v hv=>?_) rfl q
  obtain ⟨i,t,rfl⟩:=f3 v hv
  exact PySem.W.Looks.of_pure rfl
 have pz:∀l:List Addr,(l.map Value.ref).zip (l.map Value.ref)=l.map fun a=>(Value.ref a,Value.ref a):=fun l=>by
  induction l with
  | nil=>rfl
  | cons a l ih=>rw [List.map_cons,List.zip_cons_cons,ih,List.map_cons]
 have hp':=Array.perm_iff_toList_perm.mp hp
 rw [pairsOf_toList,pz] at hp'
 obtain ⟨as',ea,pa⟩:=nA (f:=fun a=>(Value.ref a,Value.ref a)) (fun pr=>match pr.1 with
  | .ref a=>some a
  | _=>none) (fun a=>rfl) hp'
 have eo:((arrOf st').map (·.2)).toList=as'.map Value.ref:=by
  rw [Array.toList_map,ea,List.map_map]; rfl
 obtain ⟨e,he⟩:=sortedAll_at s.heap (as.map Value.ref) ((arrOf st').map (·.2))
 have hn:H (s.heap.objs.size + 1)=none:=I.hok.fresh (Nat.le_succ _)
 refine ⟨.ref (s.heap.objs.size + 1),upd H (s.heap.objs.size + 1) (.lst (as'.map V.ref)),I.laid (o:=.lst (as'.map V.ref)) (t':=s.toks) (fun _ _=>sortedAll_old) (Nat.le_succ _) (show ObjOk _ _ _ _ _ (.lst _) from ⟨?_,((arrOf st').map (·.2)).toList,e,?_,?_⟩),rfl,q _ as' hn pa ?_⟩
 ·rw [List.length_map,pa.length_eq]
  have:(64:Nat)≤sizeLine:=by decide
  omega
 ·rw [eo]; exact gq as'
 ·rw [he]
 ·rw [List.pairwise_iff_getElem]
  intro i j hi hj hij
  rw [List.length_map] at hi hj
  have sz:(pairsOf (as.map Value.ref)).size=as.length:=by rw [pairsOf_size,List.length_map]
  have kk:∀i (hi:i < as'.length),KK (lr s.heap sh) (arrOf st') i=key as'[i]:=fun i hi=>by
   have e:(arrOf st')[i]? = some (Value.ref as'[i],Value.ref as'[i]):=by
    rw [← Array.getElem?_toList,ea,List.getElem?_map,List.getElem?_eq_getElem hi]; rfl
   unfold KK
   rw [e]
   show ((lr s.heap sh).keyOf (.ref as'[i])).getD _=_
   rw [kof _ (pa.mem_iff.mp (List.getElem_mem hi))]; rfl
  have:=hs' i j (by omega) (by rw [sz,← pa.length_eq]; exact hj)
  rw [kk i hi,kk j hj] at this
  rw [List.getElem_map,List.getElem_map]
  exact this
end
end L2
set_option Elab.async false
set_option linter.all false
set_option maxRecDepth 100000
namespace PySem
open Spec
section
variable {prog:Program} {w:World} {A:Around} {E:Value→Shared→Prop} {s:Shared} {l:Addr} {xs:Array (Int×Tok)}
end
end PySem
namespace L2
open PySem PySem.Spec PyProof.Rows
section
variable {X:Cx}
end
end L2
namespace PySem
theorem Paired.getL {α β:Type} {F:α→β→Prop}:∀ {l₁:List α} {l₂:List β} {i:Nat} {y:β},Paired F l₁ l₂→l₂[i]? = some y→∃x,l₁[i]? = some x∧F x y
 | _,_,_,_,.nil,e=>by simp at e
 | _,_,0,_,.cons h _,e=>by simp at e; subst e; exact ⟨_,rfl,h⟩
 | _,_,i + 1,y,.cons _ t,e=>by
  obtain ⟨x,h1,h2⟩:=Paired.getL (i:=i) t (by simpa using e)
  exact ⟨x,by simpa using h1,h2⟩
end PySem
set_option Elab.async false
set_option linter.all false
set_option maxRecDepth 100000
namespace L2
open PySem PySem.Spec PyProof.Rows
def ItE (K:PySem.W.Frag) (l:Addr):It :=
  ⟨fun i H=>∃xs x,SqT K H l xs∧xs[i]? = some x,
   fun i H v H'=>∃p x,H p=none∧v=.ref p∧H'=upd H p (.tup [.int i,x])∧∀xs,SqT K H l xs→xs[i]? = some x,
   fun i H=>∃xs,SqT K H l xs∧xs.length≤i⟩
section
variable {X:Cx} {pins:List (Addr×Obj)} {σ:St} {H:Hp} {s:Shared}
theorem jz {tn:Nat→Heap→Prop} {es:List Expr} {kk:Nat} {tp:Pos} {e it l:Addr} {i:Nat} {xs:List V} {x:V} {u:Value} {tk:Nat} {h':Heap} {E:Value→Shared→Prop} (hne:e≠it) (I:Inv X pins σ H s) (hf:∀b∈[e,it],di X pins H b) (hl:SqT X.K H l xs) (hx:xs[i]? = some x)
  (ho:∀b∈[e, it], b < s.heap.objs.size) (r:RelV x u) (b1:IsEnumOut h' e it ((i:Int) + 1) u s.heap.objs.size) (b3:h'.get? s.heap.objs.size=some { cls:=.type "tuple", data:=.seq #[.int i tk, u] })
  (bk:∀b o,b≠e→b≠it→s.heap.get? b=some o→h'.get? b=some o) (hn:∀h'',IsEnum h'' e it ((i + 1:Nat):Int) u→Heap.SameBut e h' h''→tn (i + 1) h'') :
  wpAny (model X.prog X.w) X.A (letOwnedTupleGo (.Tuple es kk tp) (.ref e) (.ref s.heap.objs.size)) (fun _ s2=>∃x H',Inv X pins σ H' s2∧RelV x (.ref s.heap.objs.size)∧(ItE X.K l).yld i H x H'∧tn (i + 1) s2.heap∧∀b∈[e,it],H' b=none) E { s with heap:=h',toks:=tk + 1 }:=by
 refine wpAny_letOwnedTupleGo_enum b1 fun h'' c1 cs=>?_
 have es':e < s.heap.objs.size:=ho e (by simp)
 have k2:∀b o,b∉[e,it]→s.heap.get? b=some o→h''.get? b=some o:=fun b o hb q=>by
  simp only [List.mem_cons,List.not_mem_nil,or_false,not_or] at hb
  exact cs.extBut b o hb.1 (bk b o hb.1 hb.2 q)
 have I1:Inv X pins σ H { s with heap:=h'',toks:=tk + 1 }:=I.turnedN (t':=tk + 1) hf k2
 have hp:h''.get? s.heap.objs.size=some { cls:=.type "tuple", data:=.seq #[.int i tk, u] }:=cs.extBut _ _ (Nat.ne_of_gt es') b3
 have hn0:H s.heap.objs.size=none:=I.hok.fresh (Nat.le_refl _)
 have fpk:=I.fpOk (H':=H) (Nat.le_refl _) hn0
 have I2:Inv X pins σ (upd H s.heap.objs.size (.tup [.int i,x])) { s with heap:=h'',toks:=tk + 1 }:=I1.track fpk I.sz ⟨by show 2≤sizeLine; decide,[.int i tk,u],.cons ⟨tk,rfl⟩ (.cons r .nil),_,hp,rfl,_,rfl⟩
 refine ⟨.ref s.heap.objs.size,_,I2,rfl,⟨_,x,hn0,rfl,rfl,fun ys hy=>by rw [I.tuple_inj hy hl]; exact hx⟩,hn h'' c1 cs,fun b hb=>?_⟩
 rw [aw (Nat.ne_of_lt (ho b hb))]
 exact (hf b hb).1
end
theorem jA {P:Program} {w:World} {K:PySem.W.Frag} {es:List Expr} {kk:Nat} {tp:Pos} (l e it:Addr) (hne:e≠it) :
  Turn P w K (.Tuple es kk tp) (ItE K l) [e,it] e (fun i h=>(∃old,IsEnum h e it i old)∧h.IsTupleIter it l i) where
 mem:=by simp
 obj:=fun i h st b hb=>by
  obtain ⟨⟨old,a1⟩,⟨o2,a2,_,d2⟩⟩:=st
  simp only [List.mem_cons,List.not_mem_nil,or_false] at hb
  rcases hb with rfl | rfl
  ·exact ⟨_,a1,fun v q=>by cases q⟩
  ·exact ⟨_,a2,fun v q=>by rw [d2] at q; cases q⟩
 keep:=fun i h h' st k=>by
  obtain ⟨⟨old,a1⟩,a2⟩:=st
  exact ⟨⟨old,k e (by simp) _ a1⟩,a2.at fun o q=>k it (by simp) o q⟩
 item:=by
  intro X hP hw hK hc i pins s σ H E I hf st hg
  subst hP hw hK
  obtain ⟨⟨old,a1⟩,a2⟩:=st
  obtain ⟨xs,x,e1,ex⟩:=hg
  obtain ⟨its,rv,p1,_⟩:=I.tuple e1
  obtain ⟨u,hu,r⟩:=rv.get ex
  have lt:i < its.toArray.size:=by simp; exact (List.getElem?_eq_some_iff.mp hu).1
  have ho:∀b∈[e,it],b < s.heap.objs.size:=fun b hb=>by
   obtain ⟨o2,a2',_⟩:=a2
   simp only [List.mem_cons,List.not_mem_nil,or_false] at hb
   rcases hb with rfl | rfl
   ·exact Heap.lt_size a1
   ·exact Heap.lt_size a2'
  have p1':s.heap.IsTuple l its.toArray:=p1
  have nl:∀b∈[e,it],l≠b:=fun b hb q=>by
   obtain ⟨o1,g1,g2,_⟩:=p1'
   simp only [List.mem_cons,List.not_mem_nil,or_false] at hb
   rcases hb with rfl | rfl
   ·rw [q,a1] at g1; cases g1; exact absurd (Value.type.inj g2) (by decide)
   ·obtain ⟨o2,g3,g4,_⟩:=a2
    rw [q,g3] at g1; cases g1; rw [g4] at g2; exact absurd (Value.type.inj g2) (by decide)
  have DD:Draws X.prog X.w X.A.in1 it [it,l] its.toArray.size (fun i v=>its.toArray[i]? = some v) (fun i h=>h.IsTupleIter it l i∧h.IsTuple l its.toArray):=iw (show X.A.in1.handled=none from I.ok.hd hc) it l (nl it (by simp)) its.toArray
  refine wpAny_pyNext_enum_itemD DD a1 ⟨a2,p1'⟩ lt hne (by simp only [List.mem_cons,List.not_mem_nil,or_false,not_or]; exact ⟨hne,Ne.symm (nl e (by simp))⟩) fun x' h' tk px b1 b2 b3 b4 bk=>⟨_,rfl,?_⟩
  have hu':its.toArray[i]? = some u:=by simpa using hu
  have eu:u=x':=Option.some.inj (hu'.symm.trans px)
  subst eu
  exact jz (tn:=fun i h=>(∃old,IsEnum h e it i old)∧h.IsTupleIter it l i) hne I hf e1 ex ho r b1 b3 bk fun h'' c1 cs=>⟨⟨u,c1⟩,b2.1.extBut cs.extBut (Ne.symm hne)⟩
 done:=by
  intro X hP hw hK hc i pins s σ H E I hf st hg
  subst hP hw hK
  obtain ⟨⟨old,a1⟩,a2⟩:=st
  obtain ⟨xs,e1,ex⟩:=hg
  obtain ⟨its,rv,p1,_⟩:=I.tuple e1
  have lv:=rv.length
  have p1':s.heap.IsTuple l its.toArray:=p1
  have hT:s.TypeIs (.ref e) "enumerate" := ⟨_,a1,rfl⟩
  unfold pyNext
  refine wpAny_bind (wpAny_attempt (wpAny_callSpecial?_slot (name:=Str.ofString "__next__") hT F.slot_enumerate_next
   (wpAny_call_entry F.slot_enumerate_next hT F.entry_enumerate_next ?_ (F.args_enumerate_next_1 _))))
  show wpAny _ _ (field (.ref e) 2 >>= _) _ _ _
  refine wpAny_bind (wpAny_field a1 rfl (x:=.ref it) rfl ?_)
  refine wpAny_bind (bY (I.ok.hd hc) a2 p1' (by simp; omega) fun h' x he' hx'=>?_)
  obtain ⟨o,ho,hc⟩:=hx'
  refine wpAny_bind (wpAny_isInstance (T := "StopIteration") (b:=true) ⟨o,ho,hc⟩ isSubtype_stop ?_)
  refine wpAny_pure ⟨rfl,?_⟩
  exact I.turnedN (t':=s.toks) hf fun b o hb q=>by
   simp only [List.mem_cons,List.not_mem_nil,or_false,not_or] at hb
   exact he' b o hb.2 q
 self:=fun _ _ _ _ _ st h=>by obtain ⟨⟨old,a1⟩,_⟩:=st; exact wpAny_pyIter_enum a1 h
def rE (K:PySem.W.Frag) (ta:TA):TI:=fun σ H R=>ta σ H fun vs H1=>∃l xs,vs=[.ref l]∧SqT K H1 l xs∧R (ItE K l) H1
theorem nC {X:Cx} {a:Expr} {ta:TA} {p pos tp:Pos} {es:List Expr} {kk:Nat} (hg:Gl X "enumerate") (hm:X.mg "enumerate" = none) (ha:PA X [a] ta)
  (hs:starEach [a] X.env=[(false,eval a X.env)]:=by rfl) :
  PI X (.Tuple es kk tp) (.Call (.Name "enumerate" p) [a] [] pos) (rE X.K ta):=by
 intro pins s σ H R I h
 refine Call_ (dh I hg hm PyProof.Rows.boot_enumerate (PyProof.Rows.callWith_type1 (thn (ha pos pins s σ H _ I h) fun us s1 ⟨vs,H1,I1,r1,q1⟩=>?_) (by rw [hs]; rfl) (by rfl)))
 obtain ⟨l,xs,rfl,e1,q⟩:=q1
 cases r1 with
 | cons r rr =>
  cases rr
  cases r
  obtain ⟨its1,rv1,p1,_⟩:=I1.tuple e1
  have p1':s1.heap.IsTuple l its1.toArray:=p1
  refine bZ p1' fun h' z1 z2 sz keep=>?_
  have I2:Inv X pins σ H1 { s1 with heap:=h' }:=I1.kept (t':=s1.toks) keep
  refine wpAny_pyIter_enum z1 ⟨s1.heap.objs.size + 1,[s1.heap.objs.size + 1,s1.heap.objs.size],_,_,H1,rfl,I2,jA l _ _ (Nat.succ_ne_self _),⟨⟨_,z1⟩,z2⟩,fun b hb=>?_,q⟩
  have hb':s1.heap.objs.size≤b:=by
   simp only [List.mem_cons,List.not_mem_nil,or_false] at hb
   rcases hb with rfl | rfl <;> omega
  exact I1.fpOk hb' (I1.hok.fresh hb')
theorem lz {K:PySem.W.Frag} {l:Addr} {xs:List V} {g:TG} {tb:TS} {D:Ends} {σ:St} {H:Hp} (Pv:Nat→St→Hp→Prop) (h0:Pv 0 σ H) (hk:∀i σ H',Pv i σ H'→SqT K H' l xs)
  (ht:∀i x p σ H,xs[i]? = some x→H p=none→Pv i σ H→g (.ref p) σ (upd H p (.tup [.int i,x])) fun σ2 H2=>tb { D with nx:=Pv (i + 1),ct:=Pv (i + 1),bk:=D.nx } σ2 H2) (hd:∀σ H,Pv xs.length σ H→D.nx σ H) :
  ∃W:Nat→Nat→St→Hp→Prop,(∃m,W 0 m σ H)∧∀i m σ H,W i m σ H →
   ((ItE K l).stop i H∧D.nx σ H)∨((ItE K l).go i H∧∃N:St→Hp→Prop,(∀σ' H',N σ' H'→∃m',m' < m∧W (i + 1) m' σ' H')∧∀x H',(ItE K l).yld i H x H'→g x σ H' fun σ2 H2=>tb { D with nx:=N,ct:=N,bk:=D.nx } σ2 H2):=by
 refine ⟨fun i m σ H=>m=xs.length - i∧i≤xs.length∧Pv i σ H,⟨xs.length,by simp,Nat.zero_le _,h0⟩,?_⟩
 rintro i m σ H ⟨rfl,hi,p⟩
 have e1:=hk i σ H p
 by_cases hlt:i < xs.length
 ·refine .inr ⟨⟨xs,xs[i],e1,by simp [hlt]⟩,Pv (i + 1),fun σ' H' p'=>⟨xs.length - (i + 1),by omega,rfl,hlt,p'⟩,fun v H' y=>?_⟩
  obtain ⟨q,x,hq,rfl,rfl,ex⟩:=y
  exact ht i x q σ H (ex _ e1) hq p
 ·have e:i=xs.length:=by omega
  subst e
  exact .inl ⟨⟨xs,e1,Nat.le_refl _⟩,hd σ H p⟩
end L2
set_option Elab.async false
set_option linter.all false
set_option maxRecDepth 100000
namespace L2
open PySem PySem.Spec PyProof.Rows PySem.SeqAt
open PySem.AutoSeq1 (wpAny_loadPart')
theorem cP (l:Addr) (es:Array DictEntry) (n:Nat) (dd:Option Addr) (sl:Array (Option Value)) (b:Int) (u:Tok) :
  Meets (Builtin.«dict.__eq__» ⟨[.ref l,.int b u],[]⟩) (fun _ R s=>s.heap.get? l=some { cls:=.type "dict",dict:=dd,data:=.dict es n,slots:=sl }∧R (.ok (.ret .notImplemented)) s) :=
 .of_wp fun prog w A R s h=>by obtain ⟨hp,g,d,tk,os⟩:=s; obtain ⟨hl,h⟩:=h; have f1:=F.sub_int_dict; wp_walk using wpAny_loadPart' hl,wpAny_load hl; exact ⟨_,rfl,h⟩
theorem cL (l:Addr) (es:Array DictEntry) (n:Nat) (dd:Option Addr) (sl:Array (Option Value)) (b:Bool) :
  Meets (Builtin.«dict.__eq__» ⟨[.ref l,.bool b],[]⟩) (fun _ R s=>s.heap.get? l=some { cls:=.type "dict",dict:=dd,data:=.dict es n,slots:=sl }∧R (.ok (.ret .notImplemented)) s) :=
 .of_wp fun prog w A R s h=>by obtain ⟨hp,g,d,tk,os⟩:=s; obtain ⟨hl,h⟩:=h; have f1:=F.sub_bool_dict; wp_walk using wpAny_loadPart' hl,wpAny_load hl; exact ⟨_,rfl,h⟩
theorem cm (b:Bool) (l:Addr) (c:Value) (es:Array DictEntry) (n:Nat) (dd:Option Addr) (sl:Array (Option Value)) :
  Meets (Builtin.«int.__eq__» ⟨[.bool b,.ref l],[]⟩) (fun _ R s=>s.heap.get? l=some { cls:=c,dict:=dd,data:=.dict es n,slots:=sl }∧R (.ok (.ret .notImplemented)) s) :=
 .of_wp fun prog w A R s h=>by obtain ⟨hp,g,d,tk,os⟩:=s; obtain ⟨hl,h⟩:=h; wp_walk using wpAny_loadPart' hl,wpAny_load hl; exact ⟨_,rfl,h⟩
theorem cy (b:Int) (u:Tok) (l:Addr) (c:Value) (es:Array DictEntry) (n:Nat) (dd:Option Addr) (sl:Array (Option Value)) :
  Meets (Builtin.«int.__eq__» ⟨[.int b u,.ref l],[]⟩) (fun _ R s=>s.heap.get? l=some { cls:=c,dict:=dd,data:=.dict es n,slots:=sl }∧R (.ok (.ret .notImplemented)) s) :=
 .of_wp fun prog w A R s h=>by obtain ⟨hp,g,d,tk,os⟩:=s; obtain ⟨hl,h⟩:=h; wp_walk using wpAny_loadPart' hl,wpAny_load hl; exact ⟨_,rfl,h⟩
section
variable {A:Around} {s:Shared}
theorem EqAt.int_dict {l:Addr} {o:Obj} {es:Array DictEntry} {n:Nat} (b:Int) (u:Tok) (ho:s.heap.get? l=some o) (hc:o.cls=.type "dict") (hd:o.data=.dict es n) (hu:A.units < cLine):EqAt A s (.int b u) (.ref l) false:=fun prog w E Q h=>by
 obtain ⟨cls,dd,data,sl⟩:=o
 simp only at hc hd
 subst hc hd
 unfold eqBool
 refine wpAny_holding ?_
 refine wpAny_ite_split (fun hab=>absurd (eq_of_beq hab) nofun) (fun _=>?_)
 exact wpAny_bind (rc_eq_decline_or (k:=false) (typeIs_int s b u) ⟨_,ho,rfl⟩ (by decide) F.sub_dict_int F.slot_int_eq F.slot_dict_eq_refl
  (fun _ hq=>call_meets F.slot_int_eq (typeIs_int s b u) F.entry_int_eq (F.args_int_eq_2 _ _) (cy b u l (.type "dict") es n dd sl) ⟨ho,hq⟩)
  (fun _ hq=>call_meets F.slot_dict_eq_refl ⟨_,ho,rfl⟩ F.entry_dict_eq (F.args_dict_eq_2 _ _) (cP l es n dd sl b u) ⟨ho,hq⟩)
  (fun _ hq=>wpAny_of_eq (rfl:isSame (.int b u) (.ref l)=pure false) hq) (.inr hu) (wpAny_truthy_bool h))
theorem EqAt.bool_dict {l:Addr} {o:Obj} {es:Array DictEntry} {n:Nat} (b:Bool) (ho:s.heap.get? l=some o) (hc:o.cls=.type "dict") (hd:o.data=.dict es n) (hu:A.units < cLine):EqAt A s (.bool b) (.ref l) false:=fun prog w E Q h=>by
 obtain ⟨cls,dd,data,sl⟩:=o
 simp only at hc hd
 subst hc hd
 unfold eqBool
 refine wpAny_holding ?_
 refine wpAny_ite_split (fun hab=>absurd (eq_of_beq hab) nofun) (fun _=>?_)
 exact wpAny_bind (rc_eq_decline_or (k:=false) rfl ⟨_,ho,rfl⟩ (by decide) F.sub_dict_bool F.slot_bool_eq F.slot_dict_eq_refl
  (fun _ hq=>call_meets F.slot_bool_eq rfl F.entry_int_eq (F.args_int_eq_2 _ _) (cm b l (.type "dict") es n dd sl) ⟨ho,hq⟩)
  (fun _ hq=>call_meets F.slot_dict_eq_refl ⟨_,ho,rfl⟩ F.entry_dict_eq (F.args_dict_eq_2 _ _) (cL l es n dd sl b) ⟨ho,hq⟩)
  (fun _ hq=>wpAny_of_eq (rfl:isSame (.bool b) (.ref l)=pure false) hq) (.inr hu) (wpAny_truthy_bool h))
end
section
variable {X:Cx} {pins:List (Addr×Obj)} {σ:St} {H:Hp} {s:Shared}
def eI:V→Int→Bool
 | .int j,i=>i == j
 | .bl b,i=>i == (if b=true then 1 else 0)
 | _,_=>false
def eB:V→Bool→Bool
 | .bl b,c=>c == b
 | .int j,c=>(if c=true then 1 else 0) == j
 | _,_=>false
def OdV (K:PySem.W.Frag) (H:Hp) (v:V):Prop:=v=.non∨(∃b,v=.bl b)∨(∃i,v=.int i)∨(∃z,v=.str z)∨∃a,v=.ref a∧((∃xs,SqL K H a xs)∨(∃xs,SqT K H a xs)∨H a=some (.dK []))
theorem Inv.dct (I:Inv X pins σ H s) {a:Addr} (h:H a=some (.dK [])):∃o es n,s.heap.get? a=some o∧o.cls=.type "dict" ∧ o.data=.dict es n:=by
 obtain ⟨_,ne,vs,kv',o,es,ep,h1,h2,h3,_⟩:=I.hok a _ h
 exact ⟨o,es,ep,h1,h2.1,h3⟩
theorem Inv.eqI (I:Inv X pins σ H s) {A:Around} (hu:A.units < cLine) {v:V} (h:OdV X.K H v) {u:Value} (r:RelV v u) (i:Int) (t:Tok):EqAt A s (.int i t) u (eI v i):=by
 rcases h with rfl | ⟨b,rfl⟩ | ⟨j,rfl⟩ | ⟨z,rfl⟩ | ⟨a,rfl,h⟩
 ·cases (show u=Value.none from r); exact EqAt.int_none i t
 ·cases (show u=Value.bool b from r); exact EqAt.int_bool i t b
 ·obtain ⟨t',e⟩:=(show ∃t,u=Value.int j t from r); subst e; exact EqAt.int_int i t j t'
 ·obtain ⟨t',e⟩:=(show ∃t,u=Value.str z t from r); subst e; exact EqAt.int_str i t z t'
 ·cases (show u=Value.ref a from r)
  rcases h with ⟨xs,h⟩ | ⟨xs,h⟩ | h
  ·obtain ⟨its,rv,⟨o,n,e,c,_,d⟩,_⟩:=I.list h
   exact EqAt.int_list i t ⟨o,e,c,n,d⟩ hu
  ·obtain ⟨its,rv,⟨o,e,c,n,d⟩,_⟩:=I.tuple h
   exact EqAt.int_tuple i t ⟨o,e,c,n,d⟩ hu
  ·obtain ⟨o,es,n,e,c,d⟩:=I.dct h
   exact EqAt.int_dict i t e c d hu
theorem Inv.eqB (I:Inv X pins σ H s) {A:Around} (hu:A.units < cLine) {v:V} (h:OdV X.K H v) {u:Value} (r:RelV v u) (c:Bool):EqAt A s (.bool c) u (eB v c):=by
 rcases h with rfl | ⟨b,rfl⟩ | ⟨j,rfl⟩ | ⟨z,rfl⟩ | ⟨a,rfl,h⟩
 ·cases (show u=Value.none from r); exact EqAt.bool_none c
 ·cases (show u=Value.bool b from r); exact EqAt.bool_bool c b
 ·obtain ⟨t',e⟩:=(show ∃t,u=Value.int j t from r); subst e; exact EqAt.bool_int c j t'
 ·obtain ⟨t',e⟩:=(show ∃t,u=Value.str z t from r); subst e; exact EqAt.bool_str c z t'
 ·cases (show u=Value.ref a from r)
  rcases h with ⟨xs,h⟩ | ⟨xs,h⟩ | h
  ·obtain ⟨its,rv,⟨o,n,e,c',_,d⟩,_⟩:=I.list h
   exact EqAt.bool_list c ⟨o,e,c',n,d⟩ hu
  ·obtain ⟨its,rv,⟨o,e,c',n,d⟩,_⟩:=I.tuple h
   exact EqAt.bool_tuple c ⟨o,e,c',n,d⟩ hu
  ·obtain ⟨o,es,n,e,c',d⟩:=I.dct h
   exact EqAt.bool_dict c e c' d hu
def PrB (H:Hp) (z:V) (q:Int×Bool):Prop:=∃b,z=.ref b∧H b=some (.tup [.int q.1,.bl q.2])
def eP (H:Hp) (v1 v2:V):Value→Bool
 | .ref b=>match H b with
  | some (.tup [.int i,.bl c])=>eI v1 i && eB v2 c
  | _=>false
 | _=>false
theorem qH {b:Addr} {v1 v2:V} {i:Int} {c:Bool} (h:H b=some (.tup [.int i,.bl c])):eP H v1 v2 (.ref b)=(eI v1 i && eB v2 c):=by
 show (match H b with
  | some (.tup [.int i,.bl c])=>eI v1 i && eB v2 c
  | _=>false)=_
 rw [h]
theorem nD {v1 v2:V}:∀ {zs:List V} {qs:List (Int×Bool)} {its:List Value},Paired (PrB H) zs qs→Vals zs its→its.any (eP H v1 v2)=qs.any fun q=>eI v1 q.1 && eB v2 q.2
 | _,_,_,.nil,.nil=>rfl
 | _,_,_,.cons ⟨b,e,h⟩ r,.cons r1 rs=>by
  subst e
  cases r1
  rw [List.any_cons,List.any_cons,qH h,nD r rs]
theorem kG {i:Int}:eI (.int i) i=true:=by show (i == i)=true; simp
theorem kH {c:Bool}:eB (.bl c) c=true:=by show (c == c)=true; simp
theorem lA (hu:X.A.units + 65 < cLine):OpR X (compareOp .NotIn) (fun x y H Q=>∃a l v1 v2 zs qs,x=.ref a∧y=.ref l∧H a=some (.tup [v1,v2])∧OdV X.K H v1∧OdV X.K H v2∧H l=some (.lst zs)∧Paired (PrB H) zs qs∧Q (.bl (!qs.any fun q=>eI v1 q.1 && eB v2 q.2)) H):=by
 intro pins s σ H x y v u Q I rx ry h
 obtain ⟨a,l,v1,v2,zs,qs,rfl,rfl,ha,o1,o2,hl,pq,q⟩:=h
 cases rx
 cases ry
 obtain ⟨its,rv,⟨o,n,e,c,_,d⟩,_⟩:=I.list (SqL.of hl)
 obtain ⟨ias,rva,⟨oa,ea,ca,na,da⟩,_⟩:=I.tuple (SqT.of ha)
 refine notIn_listAt (eP H v1 v2) ⟨o,e,c,n,d⟩ (fun y hy=>?_) ?_
 ·have hy:y∈its:=by simpa using hy
  obtain ⟨j,hj⟩:=List.mem_iff_getElem?.mp hy
  obtain ⟨z,hz⟩:∃z,zs[j]? = some z:=⟨_,List.getElem?_eq_getElem (by have:=rv.length; have:=(List.getElem?_eq_some_iff.mp hj).1; omega)⟩
  obtain ⟨y',hy',rz⟩:=rv.get hz
  obtain rfl:y'=y:=by rw [hj] at hy'; exact (Option.some.inj hy').symm
  obtain ⟨q',hq,b,rfl,hb⟩:=Pc.Paired.getR pq hz
  cases rz
  rw [qH hb]
  obtain ⟨ibs,rvb,⟨ob,eb,cb,nb,db⟩,_⟩:=I.tuple (SqT.of hb)
  cases rva with
  | cons ra1 ra=>cases ra with
   | cons ra2 ra=>cases ra with
    | nil =>
     cases rvb with
     | cons rb1 rb=>cases rb with
      | cons rb2 rb=>cases rb with
       | nil =>
        obtain ⟨t,et⟩:=(show ∃t,_=Value.int q'.1 t from rb1)
        subst et
        cases rb2
        by_cases hab:b=a
        ·subst hab
         obtain ⟨k1,k2⟩:V.int q'.1=v1∧V.bl q'.2=v2:=by
          rw [ha] at hb
          cases hb
          exact ⟨rfl,rfl⟩
         subst k1
         subst k2
         rw [kG,kH]
         exact EqAt.same _
        ·refine EqAt.of_refs hab ?_
         have:=RcAt.tuples (A:=X.A.in1) (s:=s) (e:=fun j=>if j=0 then eI v1 q'.1 else eB v2 q'.2) ⟨ob,eb,cb,nb,db⟩ ⟨oa,ea,ca,na,da⟩ (show X.A.units + 1 < cLine by omega) (fun j h1 h2=>?_)
         ·have hh:∀p r:Bool,(((List.range (min 2 2)).all fun j=>if j=0 then p else r) && (2 == 2))=(p && r):=fun p r=>by cases p <;> cases r <;> rfl
          rw [← hh]
          exact this
         ·have:j=0∨j=1:=by have:j < 2:=h1; omega
          rcases this with rfl | rfl
          ·exact I.eqI (show X.A.units + 1 + 1 < cLine by omega) o1 ra1 _ _
          ·exact I.eqB (show X.A.units + 1 + 1 < cLine by omega) o2 ra2 _
 ·rw [List.any_toArray,nD pq rv]
  exact ⟨.bl _,H,I,rfl,q⟩
end
end L2
set_option Elab.async false
set_option linter.all false
set_option maxRecDepth 100000
namespace L2
open PySem PySem.Spec PyProof.Rows
section
variable {X:Cx}
def pI:V→List V→Hp→VK→Prop:=fun x vs H Q=>∃l xs i y,x=.ref l∧vs=[.int i,y]∧H l=some (.lst xs)∧0≤i∧i≤xs.length∧xs.length < sizeLine∧Q .non (upd H l (.lst (xs.take i.toNat ++ y :: xs.drop i.toNat)))
theorem iE:∀ (n:Nat) {xs:List V} {us:List Value},Vals xs us→Vals (xs.take n) (us.take n)
 | 0,_,_,_=>.nil
 | _ + 1,_,_,.nil=>.nil
 | n + 1,_,_,.cons a r=>.cons a (iE n r)
theorem iF:∀ (n:Nat) {xs:List V} {us:List Value},Vals xs us→Vals (xs.drop n) (us.drop n)
 | 0,_,_,h=>h
 | _ + 1,_,_,.nil=>.nil
 | n + 1,_,_,.cons _ r=>iF n r
theorem lB:MtM X "list.insert" pI:=by
 intro pins s σ H x vs v us Q I rx rv h
 obtain ⟨l,xs,i,y,rfl,rfl,hH,i0,i1,hz,q⟩:=h
 cases rx
 cases rv with
 | cons r1 r2 =>
 obtain ⟨t,rfl⟩:=r1
 cases r2 with
 | cons ru r3 =>
 cases r3
 obtain ⟨z,its,n,r,hl,e⟩:=I.lstM hH
 have b63:(sizeLine:Int) < 2 ^ 63:=by decide
 have hfit:¬ (!Builtin.List.listFitsIndex i)=true:=by
  rw [fitsIndex_both (by omega) (by omega)]
  exact Bool.false_ne_true
 refine call_meets F.slot_list_insert ⟨_,e,rfl⟩ F.entry_list_insert (F.args_list_insert_3 _ _ _) (PySem.AutoSeq1.list_insert_list_int_val_1 l its.toArray n i t _ hfit (by rw [List.size_toArray]; omega)) ⟨e,?_⟩
 refine ⟨.non,_,I.lset (its':=its.take i.toNat ++ _ :: its.drop i.toNat) hH e ?_ ((iE _ r).append (.cons ru (iF _ r))) ?_,rfl,q⟩
 ·have:¬ i < 0:=by omega
  simp [this]
  rw [Nat.min_eq_left (by omega)]
  congr 2
  exact List.take_of_length_le (by rw [List.length_drop]; exact Nat.le_refl _)
 ·rw [List.length_append,List.length_cons,List.length_take,List.length_drop]
  omega
end
end L2
set_option Elab.async false
set_option linter.all false
set_option maxRecDepth 100000
namespace L2
open PySem PySem.Spec PyProof.Rows
section
variable {X:Cx} {tg:Expr}
def uX (K:PySem.W.Frag) (tl:TE):TI:=fun σ H R=>tl σ H fun x H1=>∃a,x=.ref a∧(((∃xs,SqL K H1 a xs)∧R (Itl K a) H1)∨((∃xs,SqT K H1 a xs)∧R (Itt K a) H1))
theorem pJ {l:Expr} {tl:TE} (hl:PE X l tl):PI X tg l (uX X.K tl):=by
 intro pins s σ H R I h
 refine thn (hl pins s σ H _ I h) fun v s1 ⟨x,H1,I1,r1,q1⟩=>?_
 obtain ⟨a,e,hq⟩:=q1
 subst e
 cases r1
 have fr:∀b∈[s1.heap.objs.size],di X pins H1 b:=fun b hb=>by
  have e:b=s1.heap.objs.size:=by simpa using hb
  subst e
  exact I1.fpOk (Nat.le_refl _) (I1.hok.fresh (Nat.le_refl _))
 rcases hq with ⟨⟨xs,hq⟩,q⟩ | ⟨⟨xs,hq⟩,q⟩
 ·obtain ⟨its,rv,p,hz⟩:=I1.list hq
  refine wpAny_pyIter_list p.isList ?_
  exact ⟨s1.heap.objs.size,[s1.heap.objs.size],_,_,H1,rfl,I1.kept (t':=s1.toks) fun b o e=>Heap.get?_push_of_some _ e,fY a _,⟨_,Heap.get?_push_size _ rfl,rfl,rfl⟩,fr,q⟩
 ·obtain ⟨its,rv,p,hz⟩:=I1.tuple hq
  refine wpAny_pyIter_tuple (show s1.heap.IsTuple a its.toArray from p) ?_
  exact ⟨s1.heap.objs.size,[s1.heap.objs.size],_,_,H1,rfl,I1.kept (t':=s1.toks) fun b o e=>Heap.get?_push_of_some _ e,fg a _,⟨_,Heap.get?_push_size _ rfl,rfl,rfl⟩,fr,q⟩
end
end L2
set_option Elab.async false
set_option linter.all false
set_option maxRecDepth 100000
namespace Pc
open PySem L2
def top (i:Nat):Stmt:=PySem.Challenge.pw_platecuts_k32_whole_trees_of_layings.main.body.getD i (.Pass ⟨0,0,0,0⟩)
abbrev uY:Stmt:=top 0
abbrev fH:Stmt:=top 10
abbrev fI:Stmt:=top 11
abbrev nE:Stmt:=top 12
abbrev bN:Stmt:=top 13
abbrev dN:Stmt:=top 18
abbrev cC:Stmt:=top 21
abbrev cQ:Stmt:=top 22
abbrev iG:Stmt:=top 23
abbrev bH:Stmt:=top 24
abbrev bo:Stmt:=top 30
abbrev aX:Stmt:=top 31
abbrev dO:Stmt:=top 32
abbrev bi:Stmt:=top 33
abbrev bq:Stmt:=top 34
abbrev dP:Stmt:=top 38
abbrev dQ:Stmt:=top 39
abbrev bU:Stmt:=inClass (top 40) 0
abbrev ce:Stmt:=inClass (top 40) 1
abbrev jB:Stmt:=inClass (top 40) 2
abbrev iH:Stmt:=inClass (top 40) 3
abbrev iI:Stmt:=inClass (top 40) 4
abbrev bB:Stmt:=inClass (top 40) 5
abbrev cf:Stmt:=inClass (top 40) 6
abbrev iJ:Stmt:=top 42
abbrev nF:Stmt:=top 43
abbrev iK:Stmt:=top 44
abbrev iL:Stmt:=top 45
abbrev iM:Stmt:=top 46
abbrev fJ:Stmt:=top 47
abbrev iN:Stmt:=top 48
abbrev fK:Stmt:=top 49
abbrev dR:Stmt:=top 50
abbrev dS:Stmt:=top 51
abbrev iO:Stmt:=top 52
abbrev fL:Stmt:=top 53
abbrev fM:Stmt:=top 54
abbrev dU:Stmt:=top 55
abbrev fN:Stmt:=top 56
abbrev dW:Stmt:=top 57
abbrev dX:Stmt:=top 58
abbrev fO:Stmt:=top 59
abbrev gP:Stmt:=top 60
section
variable {P:Program} {w:World} {K:PySem.W.Frag} {mg:Str→Option Value} {base:Heap}
structure Blt (mg:Str→Option Value):Prop where
 isi:mg "isinstance" = none
 int:mg "int" = none
 bool:mg "bool" = none
 list:mg "list" = none
 tuple:mg "tuple" = none
 len:mg "len" = none
 range:mg "range" = none
 max:mg "max" = none
 min:mg "min" = none
 abs:mg "abs" = none
 divmod:mg "divmod" = none
 sum:mg "sum" = none
 sorted:mg "sorted" = none
 all:mg "all" = none
 repr:mg "repr" = none
 zip:mg "zip" = none
 enumerate:mg "enumerate" = none
 mostk:∃t,mg "MOST_KINDS" = some (.int 8 t)
 fivek:∃t,mg "THINGS_OF_A_KIND" = some (.int 5 t)
end
theorem Be {H H':Hp} {p:Addr} (s:Same H H'):But p H H':=fun c o _ e=>s c o e
theorem ah {t u:TS} {D:Ends} {σ:St} {H:Hp} (J:St→Hp→Prop) (h1:∀R:St→Hp→Prop,(∀σ' H',J σ' H'→R σ' H')→t { D with nx:=R } σ H) (h2:∀σ' H',J σ' H'→u D σ' H'):uz t u D σ H:=h1 _ h2
section
variable {P:Program} {w:World} {K:PySem.W.Frag} {mg:Str→Option Value} {base:Heap}
theorem pK:FnScope ["thing","least"] ["thing","least"] (defScope fH):=⟨rfl,rfl,rfl,by decide +kernel,rfl,by decide +kernel,by decide +kernel⟩
theorem nG {f:Addr} {fd:FuncData} (F:Fun K "is_whole" "is_whole" fH f fd) (B:Blt mg):FnOk P w K mg base CX0 1 f fd ["thing","least"] (cH K):=by
 refine F.ok pK (fun vs H Q E h=>?_) (fun cdv A outer s H vs Q E hr h=>?_)
 ·obtain ⟨x,T,l,rfl,_⟩:=h
  rfl
 obtain ⟨x,T,l,rfl,⟨tn,ty⟩,q⟩:=h
 refine ⟨_,af (ar (bV (ay aW rfl B.isi PyProof.Rows.boot_isinstance (aa (pv 0) (aa (bv (v:=.ty "int") rfl B.int PyProof.Rows.boot_int rfl) ab)))
  (bV (jd (ay aW rfl B.isi PyProof.Rows.boot_isinstance (aa (pv 0) (aa (bv (v:=.ty "bool") rfl B.bool PyProof.Rows.boot_bool rfl) ab))))
  (cF (aZ ik (pv 0) (pv 1) (az _)))))),?_⟩
 refine ⟨_,rfl,x,_,_,_,_,rfl,ty,rfl,ku T tn,_,rfl,?_⟩
 have tb:=kx ty
 refine ck (fun c=>?_) (fun c=>?_)
 ·refine ⟨_,rfl,x,_,_,_,_,rfl,ty,rfl,dI T tn,_,rfl,_,rfl,?_⟩
  refine ck (fun c2=>?_) (fun c2=>?_)
  ·have hT:(T == "int")=true:=by
    have:(T == "bool")=false:=by simpa using c2
    rw [this,Bool.or_false] at c; exact c
   obtain ⟨i,rfl⟩:=rC ty tn hT
   exact ⟨_,rfl,_,rfl,_,_,rfl,rfl,q⟩
  ·have hT:lh x=true:=by
    rw [← tb]
    cases e:(T == "bool") with
    | true=>rfl
    | false=>rw [e] at c2; exact absurd rfl c2
   cases x <;> first | exact q | (exact absurd hT Bool.false_ne_true)
 ·have hx:aN x l=false:=by
   cases x with
   | int i =>
    exfalso
    have ty':=ty
    generalize hv:Value.type T=tv at ty'
    cases ty' with
    | int=>cases hv; exact c rfl
   | _=>rfl
  rw [hx] at q
  exact q
theorem pM:FnScope ["thing"] ["thing"] (defScope fI):=⟨rfl,rfl,rfl,by decide +kernel,rfl,by decide +kernel,by decide +kernel⟩
theorem nH {f:Addr} {fd:FuncData} (F:Fun K "is_truth" "is_truth" fI f fd) (B:Blt mg):FnOk P w K mg base CX0 1 f fd ["thing"] (eZ K):=by
 refine F.ok pM (fun vs H Q E h=>?_) (fun cdv A outer s H vs Q E hr h=>?_)
 ·obtain ⟨x,T,rfl,_⟩:=h
  rfl
 obtain ⟨x,T,rfl,⟨tn,ty⟩,q⟩:=h
 refine ⟨_,af (ar (ay aW rfl B.isi PyProof.Rows.boot_isinstance (aa (pv 0) (aa (bv (v:=.ty "bool") rfl B.bool PyProof.Rows.boot_bool rfl) ab)))),?_⟩
 refine ⟨_,rfl,x,_,_,_,_,rfl,ty,rfl,dI T tn,?_⟩
 rw [kx ty]
 exact q
theorem uZ:FnScope ["thing"] ["thing"] (defScope nE):=⟨rfl,rfl,rfl,by decide +kernel,rfl,by decide +kernel,by decide +kernel⟩
theorem rF {f:Addr} {fd:FuncData} (F:Fun K "is_row" "is_row" nE f fd) (B:Blt mg):FnOk P w K mg base CX0 1 f fd ["thing"] (gi K):=by
 refine F.ok uZ (fun vs H Q E h=>?_) (fun cdv A outer s H vs Q E hr h=>?_)
 ·obtain ⟨x,T,rfl,_⟩:=h
  rfl
 obtain ⟨x,T,rfl,ty,q⟩:=h
 refine ⟨_,af (ar (ay gM rfl B.isi PyProof.Rows.boot_isinstance (aa (pv 0) (aa (aF (aa (bv (v:=.ty "list") rfl B.list PyProof.Rows.boot_list rfl) (aa (bv (v:=.ty "tuple") rfl B.tuple PyProof.Rows.boot_tuple rfl) ab))) ab)))),?_⟩
 refine ⟨_,rfl,(by show 2≤sizeLine; decide),fun p hp=>?_⟩
 have s1:Same H (upd H p (.tup [.ty "list",.ty "tuple"])):=fun b o e=>by rw [aw (ag e hp)]; exact e
 have t2:=Ty.same s1 ty
 exact ⟨x,p,_,_,_,_,rfl,t2.2,upd_same,rfl,pE T ty.1,q _ s1⟩
theorem scIsKind:FnScope ["thing","wide","high","worth","wanted","turns"] ["thing"] (defScope dP):=⟨rfl,rfl,rfl,by decide +kernel,rfl,by decide +kernel,by decide +kernel⟩
theorem lC {f:Addr} {fd:FuncData} (F:Fun K "is_kind" "is_kind" dP f fd) (B:Blt mg) (DW:Dn P w K mg base "is_whole" ["thing","least"] 1 (cH K)) (DT:Dn P w K mg base "is_truth" ["thing"] 1 (eZ K)) (DR:Dn P w K mg base "is_row" ["thing"] 1 (gi K)) :
  FnOk P w K mg base CX0 2 f fd ["thing"] (dJ K):=by
 refine F.ok scIsKind (fun vs H Q E h=>?_) (fun cdv A outer s H vs Q E hr h=>?_)
 ·obtain ⟨x,T,rfl,_⟩:=h
  rfl
 obtain ⟨x,T,rfl,ty,q⟩:=h
 obtain ⟨tk,htk⟩:=B.fivek
 have nd:=scIsKind.nd
 refine ⟨_,ae (aI (PW.pt (be (aL (aH (ao DR hr rfl (aa (pv 0) ab)))) (bg (aB dw (ay aK rfl B.len PySem.boot_len (aa (pv 0) ab)) (bj (v:=.int 5) rfl htk ⟨tk,rfl⟩) (az _))))) (af (ar bD)) aA)
  (ae (bn (pv 0) (nh rfl (ai (aj (i:=1) nd rfl (Or.inl rfl)) (ai (aj (i:=2) nd rfl (Or.inl rfl)) (ai (aj (i:=3) nd rfl (Or.inl rfl)) (ai (aj (i:=4) nd rfl (Or.inl rfl)) (ai (aj (i:=5) nd rfl (Or.inl rfl)) aP)))))))
  (ae (aI (PW.pt (be (aL (aH (ao DW hr rfl (aa (pv 1) (aa ad ab))))) (bg (aL (aH (ao DW hr rfl (aa (pv 2) (aa ad ab)))))))) (af (ar bD)) aA)
  (af (ar (bV (ao DW hr rfl (aa (pv 3) (aa ad ab))) (bV (ao DW hr rfl (aa (pv 4) (aa ad ab))) (cF (ao DT hr rfl (aa (pv 5) ab))))))))),?_⟩
 refine ⟨_,rfl,x,T,rfl,ty,fun H1 s1=>⟨_,rfl,?_⟩⟩
 rcases q with ⟨n1,n2,q⟩ | ⟨a,xs,rfl,hx,its,q⟩
 ·have e:(T == "list" || T == "tuple")=false:=by simp [n1,n2]
  rw [e]
  refine aY (aY ?_)
  exact q H1 s1
 ·have e:(T == "list" || T == "tuple")=true:=by
   have t2:=ty.2
   generalize hv:Value.type T=tv at t2
   generalize hr:V.ref a=rv at t2
   cases t2 with
   | lst _=>cases hv; rfl
   | frz _=>cases hv; rfl
   | tup _=>cases hv; rfl
   | dK e=>cases hr; rcases hx with z | z <;> (rw [z] at e; cases e)
   | dT e=>cases hr; rcases hx with z | z <;> (rw [z] at e; cases e)
   | ins=>cases hv
   | _=>cases hr
  rw [e]
  have sq:SqL K H1 a xs∨SqT K H1 a xs:=by
   rcases hx with z | z
   ·exact .inl (SqL.of (s1 _ _ z))
   ·exact .inr (SqT.of (s1 _ _ z))
  refine aM ⟨_,rfl,a,xs,rfl,sq,rfl,_,rfl,?_⟩
  refine ck (fun c=>?_) (fun c=>?_)
  ·have hl:xs.length≠5:=fun z=>by rw [z] at c; exact absurd c (by decide)
   have:gj xs=false:=by
    unfold gj
    split
    ·exact absurd rfl hl
    ·rfl
   rw [this] at q
   exact q H1 s1
  ·have hl:xs.length=5:=by
    by_cases z:xs.length=5
    ·exact z
    ·exfalso
     apply c
     have:¬ (V.int (xs.length:Int)=V.int 5):=fun h=>z (by have:=V.int.inj h; omega)
     rw [decide_eq_false this]; rfl
   obtain ⟨x1,x2,x3,x4,x5,rfl⟩:∃x1 x2 x3 x4 x5,xs=[x1,x2,x3,x4,x5]:=by
    match xs,hl with
    | [a,b,c,d,e],_=>exact ⟨a,b,c,d,e,rfl⟩
   obtain ⟨T1,t1⟩:=its x1 (by simp)
   obtain ⟨T2,t2⟩:=its x2 (by simp)
   obtain ⟨T3,t3⟩:=its x3 (by simp)
   obtain ⟨T4,t4⟩:=its x4 (by simp)
   obtain ⟨T5,t5⟩:=its x5 (by simp)
   refine ⟨_,rfl,a,_,rfl,sq,rfl,x1,_,rfl,x2,_,rfl,x3,_,rfl,x4,_,rfl,x5,_,rfl,rfl,?_⟩
   refine ⟨_,rfl,x1,T1,1,rfl,Ty.same s1 t1,_,rfl,?_⟩
   have q':∀b,gj [x1,x2,x3,x4,x5]=b→Q (.bl b) H1:=fun b e=>by rw [← e]; exact q H1 s1
   have k5:gj [x1,x2,x3,x4,x5]=(aN x1 1 && aN x2 1 && aN x3 0 && aN x4 0 && lh x5):=rfl
   cases w1:aN x1 1 with
   | false =>
    refine aY (aY ?_)
    exact q' false (by rw [k5,w1]; rfl)
   | true =>
    refine aM ⟨_,rfl,x2,T2,1,rfl,Ty.same s1 t2,_,rfl,?_⟩
    cases w2:aN x2 1 with
    | false =>
     refine aY ?_
     exact q' false (by rw [k5,w1,w2]; rfl)
    | true =>
     refine aM ⟨_,rfl,x3,T3,0,rfl,Ty.same s1 t3,_,rfl,?_⟩
     cases w3:aN x3 0 with
     | false =>
      refine aM ?_
      exact q' false (by rw [k5,w1,w2,w3]; rfl)
     | true =>
      refine aY ⟨_,rfl,x4,T4,0,rfl,Ty.same s1 t4,_,rfl,?_⟩
      cases w4:aN x4 0 with
      | false =>
       refine aM ?_
       exact q' false (by rw [k5,w1,w2,w3,w4]; rfl)
      | true =>
       refine aY ⟨_,rfl,x5,T5,rfl,Ty.same s1 t5,?_⟩
       exact q' _ (by rw [k5,w1,w2,w3,w4]; rfl)
end
section
variable {P:Program} {w:World} {K:PySem.W.Frag} {mg:Str→Option Value} {base:Heap}
theorem scInit:FnScope ["self","blade","kinds","kind"] ["self","blade","kinds"] (defScope bU):=⟨rfl,rfl,rfl,by decide +kernel,rfl,by decide +kernel,by decide +kernel⟩
theorem pN {f C:Addr} {fd:FuncData} (F:Fun K "__init__" "Shop.__init__" bU f fd) (B:Blt mg) (T:ShopTxt K C) (DW:Dn P w K mg base "is_whole" ["thing","least"] 1 (cH K)) (DR:Dn P w K mg base "is_row" ["thing"] 1 (gi K))
  (DK:Dn P w K mg base "is_kind" ["thing"] 2 (dJ K)):FnOk P w K mg base CX0 3 f fd ["self","blade","kinds"] (jt C):=by
 refine F.ok scInit (fun vs H Q E h=>?_) (fun cdv A outer s H vs Q E hr h=>?_)
 ·obtain ⟨x,dx,ks,b,rs,kds,rfl,_⟩:=h
  rfl
 obtain ⟨x,dx,ks,b,rs,kds,rfl,hx,b0,hks,hrs,hgd,n1,n8,q⟩:=h
 have hr1:=hr.mono (show 1≤2 by decide)
 obtain ⟨tk,htk⟩:=B.mostk
 have nd:=scInit.nd
 have n8':(8:Nat) < sizeLine:=by decide
 refine ⟨_,ae (aI (aL (aH (ao DW hr1 rfl (aa (pv 1) (aa ad ab))))) el aA)
  (ae (aI (PW.pt (be (aL (aH (ao DR hr1 rfl (aa (pv 2) ab)))) (bg (aL (mL dz dz ad (ay aK rfl B.len PySem.boot_len (aa (pv 2) ab)) (bj (v:=.int 8) rfl htk ⟨tk,rfl⟩)))))) el aA)
  (ae (bO PassesOwn.never rfl (fz (pv 2)) (aj (i:=3) nd rfl (Or.inl rfl)) (af (aI (aL (aH (ao DK hr rfl (aa (pv 3) ab)))) el aA)))
  (ae (mP (pv 0) (pv 1) rfl)
  (af (mP (pv 0) (aU bJ rfl B.tuple PyProof.Rows.boot_tuple (aa (eY (own:=["kind"]) (cs:=[]) (cap:=[]) rfl (fz (pv 2))
   (bm (sc:=defScope bU) (N:=["self","blade","kinds","kind"]) rfl rfl (by decide +kernel))
   (fun _ _ _ _ _=>aj (i:=0) (by show List.Nodup (["kind"]:List Str); decide +kernel) rfl (Or.inl rfl) (Or.inr rfl)) (fun _ _ _ _ _=>bX)
   (fun _ _ _ _ _=>aU (r:=iu K) bJ rfl B.tuple PyProof.Rows.boot_tuple (aa (pv 0) ab))) ab)) rfl))))),?_⟩
 refine ⟨_,rfl,.int b,_,0,rfl,.int,_,rfl,?_⟩
 have wb:aN (.int b) 0=true:=decide_eq_true b0
 rw [wb]
 refine aM ?_
 have tyk:∃T,Ty K H (.ref ks) T∧(T == "list" || T == "tuple")=true:=by
  rcases hks with e | e
  ·exact ⟨_,.lst e,rfl⟩
  ·exact ⟨_,.tup e,rfl⟩
 obtain ⟨T0,ty0,te0⟩:=tyk
 refine ⟨_,rfl,.ref ks,T0,rfl,ty0,fun H1 s1=>⟨_,rfl,?_⟩⟩
 rw [te0]
 have sq:∀ {H2:Hp},Same H H2→SqL K H2 ks rs∨SqT K H2 ks rs:=fun s2=>by
  rcases hks with z | z
  ·exact .inl (SqL.of (s2 _ _ z))
  ·exact .inr (SqT.of (s2 _ _ z))
 refine aM ⟨_,rfl,ks,rs,rfl,sq s1,_,_,rfl,rfl,_,rfl,?_⟩
 rw [decide_eq_true (show (1:Int)≤(rs.length:Int) by omega)]
 refine aY ⟨_,_,rfl,rfl,_,rfl,?_⟩
 rw [decide_eq_true (show (rs.length:Int)≤8 by omega)]
 refine aM ?_
 have ek:=Paired.length hrs
 refine nu (j:=2) (a:=ks) (xs:=rs) rfl (hks.imp (fun z=>s1 _ _ z) fun z=>s1 _ _ z) (fun i σ H2=>∃v,σ=[some (.ref x),some (.int b),some (.ref ks),v]∧Same H1 H2) ⟨none,rfl,Same.refl _⟩ (fun i σ H2 _ ⟨_,_,s2⟩ o e=>s2 _ _ e) ?_ ?_
 ·rintro i y σ H2 hi ⟨v,rfl,s2⟩
  obtain ⟨k,hk,rk⟩:=Paired.getR hrs hi
  refine ⟨_,rfl,?_⟩
  simp only [kY,List.append_nil]
  refine li ((rk.same s1).same s2) (hgd k (List.mem_of_getElem? hk)) fun H3 s3=>⟨_,rfl,aM ?_⟩
  exact ⟨_,rfl,s2.trans s3⟩
 rintro σ H2 ⟨v,rfl,s12⟩
 have s2:Same H H2:=s1.trans s12
 refine ⟨_,rfl,_,rfl,x,C,dx,[],rfl,s2 _ _ hx,T.cl,T.nB,(by show 0 < 1000; decide),?_⟩
 have k3:∀c o,c≠x→H c=some o→(upd H2 x (.ins C dx (cj "blade_width" (.int b) []))) c=some o:=fun c o n e=>by rw [aw n]; exact s2 c o e
 have x3:(upd H2 x (.ins C dx (cj "blade_width" (.int b) []))) x=some (.ins C dx (cj "blade_width" (.int b) [])):=upd_same
 generalize upd H2 x (.ins C dx (cj "blade_width" (.int b) []))=H3 at k3 x3 ⊢
 have rx:∀c xs,H c=some (.lst xs)∨H c=some (.tup xs)→c≠x:=fun c xs e z=>by
  subst z
  rcases e with e | e <;> (rw [hx] at e; cases e)
 dsimp only [uL,tCB,kh]
 refine cT (j:=2) (a:=ks) (xs:=rs) rfl (hks.imp (fun z=>k3 _ _ (rx _ _ (.inl z)) z) fun z=>k3 _ _ (rx _ _ (.inr z)) z) (fun i ys H4=>ys.length=i∧Same H3 H4∧Tups H4 ys (kds.take i)) (fun i ys H4 _ ⟨_,s4,_⟩ o e=>s4 _ _ e) ⟨rfl,Same.refl _,.nil⟩ ?_ ?_
 ·rintro i y ys H4 hi ⟨hy,s4,ty4⟩
  have hin:i < rs.length:=(List.getElem?_eq_some_iff.mp hi).1
  obtain ⟨k,hk,rk⟩:=Paired.getR hrs hi
  have tk1:kds.take (i + 1)=kds.take i ++ [k]:=by rw [List.take_add_one,hk]; rfl
  refine ⟨by omega,leS.set rfl,bM ?_⟩
  rcases rk with ⟨a,rfl,h⟩ | ⟨a,rfl,h⟩
  ·have h4:=s4 _ _ (k3 _ _ (rx _ _ (.inr h)) h)
   exact ⟨_,rfl,a,_,rfl,.inr ⟨SqT.of h4,Nx.of hin ⟨by rw [List.length_append,hy]; rfl,s4,by rw [tk1]; exact Paired.snoc ty4 ⟨a,rfl,h4⟩⟩⟩⟩
  ·have h4:=s4 _ _ (k3 _ _ (rx _ _ (.inl h)) h)
   refine ⟨_,rfl,a,_,rfl,.inl ⟨SqL.of h4,fun l hl=>Nx.of hin ⟨by rw [List.length_append,hy]; rfl,fun c o e=>?_,?_⟩⟩⟩
   ·have e4:=s4 c o e
    rw [aw (ag e4 hl)]; exact e4
   ·rw [tk1]
    exact Paired.snoc (Tups.keep (fun c xs e=>by rw [aw (ag e hl)]; exact e) ty4) ⟨l,rfl,upd_same⟩
 rintro ys H4 ⟨hy,s4,ty4⟩
 refine ⟨by omega,fun p hp=>?_⟩
 refine ⟨p,ys,rfl,.inl ⟨SqL.of upd_same,fun r hr'=>?_⟩⟩
 have hpr:r≠p:=fun z=>by rw [z,upd_same] at hr'; cases hr'
 have hr4:H4 r=none:=by rw [aw hpr] at hr'; exact hr'
 have x4:=s4 _ _ x3
 have xp:x≠p:=ag x4 hp
 have xr:x≠r:=ag x4 hr4
 refine ⟨_,rfl,x,C,dx,_,rfl,(by rw [aw xr,aw xp]; exact x4),T.cl,T.nK,(Nat.lt_of_le_of_lt (cM _ _ _) (by decide)),?_⟩
 rw [ek,List.take_length] at ty4
 refine q _ ⟨dx,r,ys,upd_same,by rw [aw (Ne.symm xr),upd_same],?_⟩ fun c o n e=>?_
 ·refine Tups.keep (fun c xs e=>?_) ty4
  rw [aw (fun z=>by rw [z,x4] at e; cases e),aw (ag e hr4),aw (ag e hp)]
  exact e
 ·have e4:=s4 _ _ (k3 c o n e)
  rw [aw n,aw (ag e4 hr4),aw (ag e4 hp)]
  exact e4
theorem pO:FnScope ["self"] ["self"] (defScope ce):=⟨rfl,rfl,rfl,by decide +kernel,rfl,by decide +kernel,by decide +kernel⟩
theorem nI {f C:Addr} {fd:FuncData} (F:Fun K "blade" "Shop.blade" ce f fd) (T:ShopTxt K C):FnOk P w K mg base CX0 1 f fd ["self"] (dL C):=by
 refine F.ok pO (fun vs H Q E h=>?_) (fun cdv A outer s H vs Q E hr h=>?_)
 ·obtain ⟨x,b,ks,rfl,_⟩:=h
  rfl
 obtain ⟨x,b,ks,rfl,⟨dx,r,rs,h1,h2,h3⟩,q⟩:=h
 exact ⟨_,af (ar (gE (pv 0) rfl)),_,rfl,x,C,dx,_,_,rfl,h1,T.cl,T.nB,js _ _,q⟩
end
section
variable {P:Program} {w:World} {K:PySem.W.Frag} {mg:Str→Option Value} {base:Heap}
theorem nJ:FnScope ["kind"] ["kind"] (defScope dQ):=⟨rfl,rfl,rfl,by decide +kernel,rfl,by decide +kernel,by decide +kernel⟩
theorem lD {f:Addr} {fd:FuncData} (F:Fun K "can_lie_turned" "can_lie_turned" dQ f fd):FnOk P w K mg base CX0 1 f fd ["kind"] (fC K):=by
 refine F.ok nJ (fun vs H Q E h=>?_) (fun cdv A outer s H vs Q E hr h=>?_)
 ·obtain ⟨a,k,rfl,_⟩:=h
  rfl
 obtain ⟨a,k,rfl,ha,q⟩:=h
 refine ⟨_,af (ar (bV (au ix_tup (pv 0) ad (fun _ _=>rfl)) (cF (aZ dw (au ix_tup (pv 0) ad (fun _ _=>rfl)) (au ix_tup (pv 0) ad (fun _ _=>rfl)) (az _))))),?_⟩
 refine ⟨_,rfl,a,_,4,_,rfl,rfl,SqT.of ha,rfl,_,rfl,?_⟩
 unfold aQ at q
 refine ck (fun c=>?_) (fun c=>?_)
 ·rw [c,Bool.true_and] at q
  refine ⟨_,rfl,a,_,0,_,rfl,rfl,SqT.of ha,rfl,_,rfl,a,_,1,_,rfl,rfl,SqT.of ha,rfl,rfl,?_⟩
  rw [gC]
  rw [show (decide (k.w=k.h))=(k.w == k.h) from rfl] at q
  exact q
 ·have c':k.tu=false:=by simpa using c
  rw [c',Bool.false_and] at q
  exact q
theorem lE:FnScope ["self","kind","turned"] ["self","kind","turned"] (defScope bB):=⟨rfl,rfl,rfl,by decide +kernel,rfl,by decide +kernel,by decide +kernel⟩
theorem jC {f C:Addr} {fd:FuncData} (F:Fun K "is_lying" "Shop.is_lying" bB f fd) (B:Blt mg) (T:ShopTxt K C) (DW:Dn P w K mg base "is_whole" ["thing","least"] 1 (cH K)) (DU:Dn P w K mg base "is_truth" ["thing"] 1 (eZ K)) (DT:Dn P w K mg base "can_lie_turned" ["kind"] 1 (fC K)) :
  FnOk P w K mg base CX0 2 f fd ["self","kind","turned"] (cV K C):=by
 refine F.ok lE (fun vs H Q E h=>?_) (fun cdv A outer s H vs Q E hr h=>?_)
 ·obtain ⟨s,b,ks,x,t,T0,U,rfl,_⟩:=h
  rfl
 obtain ⟨s,b,ks,x,t,T0,U,rfl,⟨dx,r,rs,h1,h2,h3⟩,tx,tt,q⟩:=h
 have hZ:=Paired.length h3
 refine ⟨_,ae (aI (PW.pt (be (aL (aH (ao DW hr rfl (aa (pv 1) (aa ad ab))))) (be (aB ik (pv 1) (ay aK rfl B.len PySem.boot_len (aa (gE (pv 0) rfl) ab)) (az _))
   (bg (aL (aH (ao DU hr rfl (aa (pv 2) ab)))))))) (af (ar bD)) aA)
  (af (ar (ux (jd (pv 2)) (cF (ao DT hr rfl (aa (au ix_tup (gE (pv 0) rfl) (pv 1) (fun _ _=>rfl)) ab)))))),?_⟩
 refine ⟨_,rfl,x,_,0,rfl,tx,_,rfl,?_⟩
 cases hw:aN x 0 with
 | false =>
  have e:bS ks x t=false:=by
   cases x with
   | int i =>
    have h0:decide (0≤i)=false:=hw
    cases t <;> first | rfl | (show (decide (0≤i) && _)=false; rw [h0,Bool.false_and])
   | _=>rfl
  rw [e] at q
  exact aY (aY q)
 | true =>
  have ex:∃i,x=.int i∧0≤i:=by
   cases x with
   | int i=>exact ⟨i,rfl,of_decide_eq_true hw⟩
   | _=>cases hw
  obtain ⟨i,rfl,i0⟩:=ex
  refine aM ⟨_,rfl,_,rfl,s,C,dx,_,_,rfl,h1,T.cl,T.nK,eK _ _,r,rs,rfl,.inr (SqT.of h2),i,_,rfl,rfl,_,rfl,?_⟩
  by_cases hi:(rs.length:Int)≤i
  ·rw [decide_eq_true hi]
   have e:bS ks (.int i) t=false:=by
    have hn:ks[i.toNat]? = none:=List.getElem?_eq_none (by omega)
    cases t <;> first | rfl | (show (decide (0≤i) && match ks[i.toNat]? with | some k=>_ | none=>false)=false; rw [hn,Bool.and_false])
   rw [e] at q
   exact aY (aY q)
  ·rw [decide_eq_false hi]
   refine aM ⟨_,rfl,t,_,rfl,tt,_,rfl,?_⟩
   have hlt:i.toNat < ks.length:=by omega
   cases hb:lh t with
   | false =>
    have e:bS ks (.int i) t=false:=by cases t <;> first | rfl | cases hb
    rw [e] at q
    exact aY q
   | true =>
    have ex:∃c,t=.bl c:=by cases t <;> first | exact ⟨_,rfl⟩ | cases hb
    obtain ⟨c,rfl⟩:=ex
    obtain ⟨y,hy⟩:∃y,rs[i.toNat]? = some y:=⟨rs[i.toNat]'(by omega),by simp [show i.toNat < rs.length by omega]⟩
    obtain ⟨k,hk,a,rfl,ha⟩:=Paired.getR h3 hy
    have e:bS ks (.int i) (.bl c)=(!c || aQ k):=by
     show (decide (0≤i) && match ks[i.toNat]? with | some k=>(!c || aQ k) | none=>false)=_
     rw [hk,decide_eq_true i0,Bool.true_and]
    rw [e] at q
    refine aM ⟨_,rfl,c,rfl,_,rfl,?_⟩
    refine ck (fun d=>?_) (fun d=>?_)
    ·rw [d,Bool.true_or] at q
     exact q
    ·have d':(!c)=false:=by simpa using d
     rw [d',Bool.false_or] at q
     have at':atI rs i=some (.ref a):=by
      have en:ixN rs.length i=some i.toNat:=by
       unfold ixN
       rw [if_pos i0,if_pos (by omega)]
      unfold atI
      rw [en]
      exact hy
     exact ⟨_,rfl,s,C,dx,_,_,rfl,h1,T.cl,T.nK,eK _ _,_,rfl,r,rs,i,_,rfl,rfl,SqT.of h2,at',a,k,rfl,ha,q⟩
end
def gQ (k:Kd) (c:Bool):List V:=if c=true then [.int k.h,.int k.w] else [.int k.w,.int k.h]
def fb (K:PySem.W.Frag) (C:Addr):Sp:=fun vs H Q _=>∃ (s:Addr) (b:Int) (ks:List Kd) (x t:V) (T U:String),vs=[.ref s,x,t]∧ShopAt C H s b ks∧Ty K H x T∧Ty K H t U ∧
 bS ks x t=true∧∀ (i:Int) (c:Bool) (k:Kd) (p:Addr),x=.int i→t=.bl c→ks[i.toNat]? = some k→bS ks x t=true→H p=none→Q (.ref p) (upd H p (.tup (gQ k c)))
theorem eN {ks:List Kd} {x t:V} (h:bS ks x t=true):∃ (i:Int) (c:Bool) (k:Kd),x=.int i∧t=.bl c∧0≤i∧ks[i.toNat]? = some k:=by
 unfold bS at h
 split at h
 ·rename_i i c
  rw [Bool.and_eq_true] at h
  obtain ⟨h1,h2⟩:=h
  split at h2
  ·rename_i k hk
   exact ⟨i,c,k,rfl,rfl,of_decide_eq_true h1,hk⟩
  ·cases h2
 ·cases h
theorem rG {rs:List V} {i:Int} {v:V} (i0:0≤i) (h:rs[i.toNat]? = some v):atI rs i=some v:=by
 have en:ixN rs.length i=some i.toNat:=by
  unfold ixN
  have:=(List.getElem?_eq_some_iff.mp h).1
  rw [if_pos i0,if_pos (by omega)]
 unfold atI
 rw [en]
 exact h
section
variable {P:Program} {w:World} {K:PySem.W.Frag} {mg:Str→Option Value} {base:Heap}
theorem scSides:FnScope ["self","kind","turned","row"] ["self","kind","turned"] (defScope cf):=⟨rfl,rfl,rfl,by decide +kernel,rfl,by decide +kernel,by decide +kernel⟩
theorem nL {f C:Addr} {fd:FuncData} (F:Fun K "sides" "Shop.sides" cf f fd) (T:ShopTxt K C) (ML:Mn P w K mg base C "is_lying" ["self","kind","turned"] 2 (cV K C)) :
  FnOk P w K mg base CX0 3 f fd ["self","kind","turned"] (fb K C):=by
 refine F.ok scSides (fun vs H Q E h=>?_) (fun cdv A outer s H vs Q E hr h=>?_)
 ·obtain ⟨s,b,ks,x,t,T0,U,rfl,_⟩:=h
  rfl
 obtain ⟨s,b,ks,x,t,T0,U,rfl,S,tx,tt,he,hq⟩:=h
 have nd:=scSides.nd
 refine ⟨_,ae (aI (aL (aH (kB (pv 0) T.cl ML hr (aa (pv 1) (aa (pv 2) ab))))) (af ff) aA)
  (ae (aE (i:=3) nd rfl (Or.inl rfl) (au ix_tup (gE (pv 0) rfl) (pv 1) (fun _ _=>rfl)))
  (ae (aI (aH (pv 2)) (af (ar (aF (aa (au ix_tup (pv 3) ad (fun _ _=>rfl)) (aa (au ix_tup (pv 3) ad (fun _ _=>rfl)) ab))))) aA)
  (af (ar (aF (aa (au ix_tup (pv 3) ad (fun _ _=>rfl)) (aa (au ix_tup (pv 3) ad (fun _ _=>rfl)) ab))))))),?_⟩
 obtain ⟨dx,r,rs,h1,h2,h3⟩:=id S
 refine ⟨_,rfl,s,dx,_,rfl,h1,cU _ _ (by decide +kernel) (by decide +kernel),_,rfl,_,rfl,s,b,ks,x,t,T0,U,rfl,S,tx,tt,_,rfl,?_⟩
 cases hl:bS ks x t with
 | false=>rw [hl] at he; cases he
 | true =>
  obtain ⟨i,c,k,rfl,rfl,i0,hk⟩:=eN hl
  have hZ:=Paired.length h3
  have hik:=(List.getElem?_eq_some_iff.mp hk).1
  obtain ⟨y,hy⟩:∃y,rs[i.toNat]? = some y:=⟨rs[i.toNat]'(by omega),by simp [show i.toNat < rs.length by omega]⟩
  obtain ⟨k',hk',a,rfl,ha⟩:=Paired.getR h3 hy
  rw [hk] at hk'
  obtain rfl:=Option.some.inj hk'
  refine aM ?_
  refine ⟨_,rfl,s,C,dx,_,_,rfl,h1,T.cl,T.nK,eK _ _,_,rfl,r,rs,i,_,rfl,rfl,SqT.of h2,rG i0 hy,?_⟩
  refine ⟨_,rfl,_,rfl,?_⟩
  cases c with
  | true =>
   refine aY ?_
   refine ⟨_,rfl,a,_,1,_,rfl,rfl,SqT.of ha,rfl,_,rfl,a,_,0,_,rfl,rfl,SqT.of ha,rfl,(by show 2≤sizeLine; decide),fun p hp=>?_⟩
   exact hq i true k p rfl rfl hk hl hp
  | false =>
   refine aM ?_
   refine ⟨_,rfl,a,_,0,_,rfl,rfl,SqT.of ha,rfl,_,rfl,a,_,1,_,rfl,rfl,SqT.of ha,rfl,(by show 2≤sizeLine; decide),fun p hp=>?_⟩
   exact hq i false k p rfl rfl hk hl hp
end
mutual
inductive Dt (p:Addr) (H:Hp):V→PyData→Prop
 | non:Dt p H .non .none
 | bl (b:Bool):Dt p H (.bl b) (.bool b)
 | int (i:Int):Dt p H (.int i) (.int i)
 | str (z:Str):Dt p H (.str z) (.str z)
 | lst {a:Addr} {xs:List V} {ds:List PyData}:a≠p→H a=some (.lst xs)→Dts p H xs ds→Dt p H (.ref a) (.list ds)
 | tup {a:Addr} {xs:List V} {ds:List PyData}:H a=some (.tup xs)→Dts p H xs ds→Dt p H (.ref a) (.tuple ds)
 | emp {a:Addr}:H a=some (.dK [])→Dt p H (.ref a) (.dict [])
inductive Dts (p:Addr) (H:Hp):List V→List PyData→Prop
 | nil:Dts p H [] []
 | cons {x:V} {d:PyData} {xs:List V} {ds:List PyData}:Dt p H x d→Dts p H xs ds→Dts p H (x :: xs) (d :: ds)
end
mutual
theorem Dt.same {p:Addr} {H H':Hp} (s:Same H H'):∀ {v:V} {d:PyData},Dt p H v d→Dt p H' v d
 | _,_,.non=>.non
 | _,_,.bl b=>.bl b
 | _,_,.int i=>.int i
 | _,_,.str z=>.str z
 | _,_,.lst n h r=>.lst n (s _ _ h) (r.same s)
 | _,_,.tup h r=>.tup (s _ _ h) (r.same s)
 | _,_,.emp h=>.emp (s _ _ h)
theorem Dts.same {p:Addr} {H H':Hp} (s:Same H H'):∀ {vs:List V} {ds:List PyData},Dts p H vs ds→Dts p H' vs ds
 | _,_,.nil=>.nil
 | _,_,.cons a r=>.cons (a.same s) (r.same s)
end
theorem Dts.length {p:Addr} {H:Hp}:∀ {vs:List V} {ds:List PyData},Dts p H vs ds→vs.length=ds.length
 | _,_,.nil=>rfl
 | _,_,.cons _ r=>by rw [List.length_cons,List.length_cons,r.length]
theorem Dt.ty {K:PySem.W.Frag} {p:Addr} {H:Hp} {v:V} {d:PyData} (h:Dt p H v d):∃T,Ty K H v T:=by
 cases h with
 | non=>exact ⟨_,Ty.non⟩
 | bl b=>exact ⟨_,Ty.bl⟩
 | int i=>exact ⟨_,Ty.int⟩
 | str z=>exact ⟨_,Ty.str⟩
 | lst _ h _=>exact ⟨_,Ty.lst h⟩
 | tup h _=>exact ⟨_,Ty.tup h⟩
 | emp h=>exact ⟨_,Ty.dK h⟩
mutual
theorem Dt.but {p:Addr} {H H':Hp} (hp:∃xs,H p=some (.lst xs)) (b:But p H H'):∀ {v:V} {d:PyData},Dt p H v d→Dt p H' v d
 | _,_,.non=>.non
 | _,_,.bl b=>.bl b
 | _,_,.int i=>.int i
 | _,_,.str z=>.str z
 | _,_,.lst n h r=>.lst n (b _ _ n h) (r.but hp b)
 | _,_,.tup h r=>.tup (b _ _ (fun z=>by obtain ⟨_,e⟩:=hp; rw [z,e] at h; cases h) h) (r.but hp b)
 | _,_,.emp h=>.emp (b _ _ (fun z=>by obtain ⟨_,e⟩:=hp; rw [z,e] at h; cases h) h)
theorem Dts.but {p:Addr} {H H':Hp} (hp:∃xs,H p=some (.lst xs)) (b:But p H H'):∀ {vs:List V} {ds:List PyData},Dts p H vs ds→Dts p H' vs ds
 | _,_,.nil=>.nil
 | _,_,.cons a r=>.cons (a.but hp b) (r.but hp b)
end
mutual
def wt:PyData→Nat
 | .str z=>z.length + 1
 | .list ds=>wts ds + 1
 | .tuple ds=>wts ds + 1
 | _=>1
def wts:List PyData→Nat
 | []=>0
 | d :: r=>wt d + wts r
end
theorem va (d:PyData):1≤wt d:=by cases d <;> simp only [wt] <;> omega
def cg:PyData→Option (List PyData)
 | .list ds=>some ds
 | .tuple ds=>some ds
 | _=>none
theorem Dt.row {K:PySem.W.Frag} {p:Addr} {H:Hp} {v:V} {d:PyData} (h:Dt p H v d):(cg d=none∧∃T,Ty K H v T∧(T == "list" || T == "tuple")=false)∨∃a xs ds T,cg d=some ds∧v=.ref a∧(H a=some (.lst xs)∨H a=some (.tup xs))∧Dts p H xs ds∧Ty K H v T∧(T == "list" || T == "tuple")=true:=by
 cases h with
 | non=>exact .inl ⟨rfl,_,Ty.non,rfl⟩
 | bl b=>exact .inl ⟨rfl,_,Ty.bl,rfl⟩
 | int i=>exact .inl ⟨rfl,_,Ty.int,rfl⟩
 | str z=>exact .inl ⟨rfl,_,Ty.str,rfl⟩
 | lst _ h r=>exact .inr ⟨_,_,_,_,rfl,rfl,.inl h,r,Ty.lst h,rfl⟩
 | tup h r=>exact .inr ⟨_,_,_,_,rfl,rfl,.inr h,r,Ty.tup h,rfl⟩
 | emp h=>exact .inl ⟨rfl,_,Ty.dK h,rfl⟩
def bw (d:PyData) (z:Str) (n:Nat):Bool:=match cg d with
 | some (.str y :: r)=>decide (r.length + 1=n) && decide (y=z)
 | _=>false
section
variable {P:Program} {w:World} {K:PySem.W.Frag} {mg:Str→Option Value} {base:Heap}
def sd1 (k:Kd) (c:Bool):Int:=if c=true then k.h else k.w
def sd2 (k:Kd) (c:Bool):Int:=if c=true then k.w else k.h
theorem nM (k:Kd) (c:Bool):gQ k c=[.int (sd1 k c),.int (sd2 k c)]:=by cases c <;> rfl
def dY (ks:List Kd) (w h:Int) (kv tv xv yv:V):Bool:=bS ks kv tv && aN xv 0 && aN yv 0 && (match kv,tv,xv,yv with
 | .int i,.bl c,.int x,.int y=>(match ks[i.toNat]? with
  | some k=>decide (x + sd1 k c≤w) && decide (y + sd2 k c≤h)
  | none=>false)
 | _,_,_,_=>false)
def gR (K:PySem.W.Frag) (C:Addr):Sp:=fun vs H Q _=>∃ (s:Addr) (b:Int) (ks:List Kd) (w h:Int) (kv tv xv yv:V) (T1 T2 T3 T4:String),vs=[.ref s,.int w,.int h,kv,tv,xv,yv]∧ShopAt C H s b ks∧Ty K H kv T1∧Ty K H tv T2∧Ty K H xv T3∧Ty K H yv T4∧∀H',Same H H'→Q (.bl (dY ks w h kv tv xv yv)) H'
theorem scliesG:FnScope ["shop","wide","high","kind","turned","x","y","piece_wide","piece_high"] ["shop","wide","high","kind","turned","x","y"] (defScope dN):=⟨rfl,rfl,rfl,by decide +kernel,rfl,by decide +kernel,by decide +kernel⟩
theorem nN {f C:Addr} {fd:FuncData} (F:Fun K "lies_in" "lies_in" dN f fd) (T:ShopTxt K C) (DW:Dn P w K mg base "is_whole" ["thing","least"] 1 (cH K)) (MI:Mn P w K mg base C "is_lying" ["self","kind","turned"] 2 (cV K C)) (MS:Mn P w K mg base C "sides" ["self","kind","turned"] 3 (fb K C)):FnOk P w K mg base CX0 4 f fd ["shop","wide","high","kind","turned","x","y"] (gR K C):=by
 refine F.ok scliesG (fun vs H Q E h=>?_) (fun cdv A outer s H vs Q E hr h=>?_)
 ·obtain ⟨s,b,ks,w1,h1,kv,tv,xv,yv,T1,T2,T3,T4,rfl,_⟩:=h
  rfl
 obtain ⟨s,b,ks,w1,h1',kv,tv,xv,yv,T1,T2,T3,T4,rfl,S,t1,t2,t3,t4,q⟩:=h
 have nd:=scliesG.nd
 have hr1:=hr.mono (show 1≤3 by decide)
 have hr2:=hr.mono (show 2≤3 by decide)
 refine ⟨_,(@ae _ _ _ _ _ (@aI _ _ _ _ _ _ _ _ (PW.pt (be (@aL _ _ _ _ (@aH _ _ _ (kB (pv 0) T.cl MI hr2 (@aa _ _ _ _ _ (pv 3) (@aa _ _ _ _ _ (pv 4) ab rfl) rfl)) (by intro _; rfl))) (be (@aL _ _ _ _ (@aH _ _ _ (@ao _ _ _ _ _ _ _ _ _ _ DW hr1 rfl (@aa _ _ _ _ _ (pv 5) (@aa _ _ _ _ _ ad ab rfl) rfl) (by decide) rfl rfl) (by intro _; rfl))) (bg (@aL _ _ _ _ (@aH _ _ _ (@ao _ _ _ _ _ _ _ _ _ _ DW hr1 rfl (@aa _ _ _ _ _ (pv 6) (@aa _ _ _ _ _ ad ab rfl) rfl) (by decide) rfl rfl) (by intro _; rfl))))))) (@af _ _ _ (@ar _ _ _ _ bD)) aA) (@ae _ _ _ _ _ (@bn _ _ _ _ _ _ (kB (pv 0) T.cl MS hr (@aa _ _ _ _ _ (pv 3) (@aa _ _ _ _ _ (pv 4) ab rfl) rfl)) (bd rfl (ai (aj (i:=7) nd rfl (Or.inl rfl)) (ai (aj (i:=8) nd rfl (Or.inl rfl)) aP))) rfl rfl rfl) (@af _ _ _ (@ar _ _ _ _ (bV (@aZ _ _ _ _ _ _ _ _ dz (@aD _ _ _ _ _ _ _ _ aO (pv 5) (pv 7)) (pv 1) (az _)) (cF (@aZ _ _ _ _ _ _ _ _ dz (@aD _ _ _ _ _ _ _ _ aO (pv 6) (pv 8)) (pv 2) (az _)))))))),?_⟩
 obtain ⟨dx,r,rs,h1,h2,h3⟩:=id S
 refine ⟨_,rfl,s,dx,_,rfl,h1,(cU _ _ (by decide +kernel) (by decide +kernel)),_,rfl,_,rfl,s,b,ks,kv,tv,T1,T2,rfl,S,t1,t2,_,rfl,?_⟩
 cases ly:bS ks kv tv with
 | false =>
  have q1:=q H (Same.refl _)
  unfold dY at q1
  rw [ly] at q1
  exact aY (aY q1)
 | true =>
 refine aM ⟨_,rfl,xv,T3,0,rfl,t3,_,rfl,?_⟩
 cases hx:aN xv 0 with
 | false =>
  have q1:=q H (Same.refl _)
  unfold dY at q1
  rw [ly,hx] at q1
  exact aY (aY q1)
 | true =>
 refine aM ⟨_,rfl,yv,T4,0,rfl,t4,_,rfl,?_⟩
 cases hy:aN yv 0 with
 | false =>
  have q1:=q H (Same.refl _)
  unfold dY at q1
  rw [ly,hx,hy] at q1
  exact aY q1
 | true =>
 refine aM ?_
 obtain ⟨i,c,k,rfl,rfl,i0,hk⟩:=eN ly
 obtain ⟨x1,rfl⟩:∃i,xv=.int i:=by cases xv <;> first | exact ⟨_,rfl⟩ | cases hx
 obtain ⟨y1,rfl⟩:∃i,yv=.int i:=by cases yv <;> first | exact ⟨_,rfl⟩ | cases hy
 refine ⟨_,rfl,s,dx,_,rfl,h1,(cU _ _ (by decide +kernel) (by decide +kernel)),_,rfl,_,rfl,s,b,ks,.int i,.bl c,T1,T2,rfl,S,t1,t2,ly,fun i' c' k' p e1 e2 hk' _ hp=>?_⟩
 cases e1
 cases e2
 rw [hk] at hk'
 cases hk'
 rw [nM]
 have q1:=q _ (Same.new hp (o:=.tup [.int (sd1 k c),.int (sd2 k c)]))
 refine ⟨p,_,rfl,SqT.of upd_same,rfl,_,_,rfl,_,_,rfl,rfl,?_⟩
 refine ⟨_,rfl,_,rfl,_,_,rfl,rfl,_,rfl,_,_,rfl,rfl,_,rfl,?_⟩
 unfold dY at q1
 rw [ly,hx,hy] at q1
 simp only [hk,Bool.true_and] at q1
 refine ck (fun cc=>?_) (fun cc=>?_)
 ·refine ⟨_,rfl,_,rfl,_,_,rfl,rfl,_,rfl,_,_,rfl,rfl,?_⟩
  rw [cc,Bool.true_and] at q1
  exact q1
 ·rw [show decide (x1 + sd1 k c≤w1)=false by simpa using cc,Bool.false_and] at q1
  exact q1
end
def PotC (H:Hp) (p:Addr):Prop:=∃a b:Int,0≤a∧0≤b∧b < 4294967296∧H p=some (.lst [.int a,.int b])
theorem PotC.same {H H':Hp} {p:Addr} (x:PotC H p) (s:Same H H'):PotC H' p:=by
 obtain ⟨a,b,h1,h2,h3,e⟩:=x
 exact ⟨a,b,h1,h2,h3,s _ _ e⟩
theorem PotC.new {H:Hp} {p q:Addr} {o:HO} (x:PotC H p) (h:H q=none):PotC (upd H q o) p:=x.same (Same.new h)
theorem PotC.some {H:Hp} {p:Addr} (x:PotC H p):H p≠none:=by
 obtain ⟨a,b,h1,h2,h3,e⟩:=x
 rw [e]; exact fun z=>by cases z
theorem PotC.ne {H:Hp} {p q:Addr} (x:PotC H p) (h:H q=none):p≠q:=fun z=>x.some (z ▸ h)
theorem iP {H:Hp} {p:Addr} (h:PotC H p):∃xs,H p=some (.lst xs):=by
 obtain ⟨_,_,_,_,_,e⟩:=h
 exact ⟨_,e⟩
theorem PotC.put {H:Hp} {p l:Addr} {o:HO} (x:PotC H p) (n:p≠l):PotC (upd H l o) p:=by
 obtain ⟨a,b,h1,h2,h3,e⟩:=x
 exact ⟨a,b,h1,h2,h3,by rw [aw n]; exact e⟩
theorem But.freeC {p q:Addr} {H H':Hp} (b:But p H H') (x:PotC H' p) (h:H' q=none):q≠p∧H q=none:=by
 have n:q≠p:=fun z=>x.some (z ▸ h)
 refine ⟨n,?_⟩
 cases e:H q with
 | none=>rfl
 | some o=>rw [b q o n e] at h; cases h
theorem cJ {p c:Addr} {H0 H:Hp} {o:HO} (b:But p H0 H) (pt:PotC H p) (h:H c=none):∃H',upd H c o=H'∧H' c=some o∧c≠p∧Same H H'∧But p H0 H'∧PotC H' p :=
 ⟨_,rfl,upd_same,Ne.symm (pt.ne h),Same.new h,b.trans (But.new h),pt.new h⟩
theorem gS {p:Addr} {H H':Hp} (b:But p H H') (pt:PotC H p) {c:Addr} {xs:List V} (e:H c=some (.tup xs)):H' c=some (.tup xs):=by
 obtain ⟨_,hp⟩:=iP pt
 exact b _ _ (fun z=>by rw [z,hp] at e; cases e) e
theorem qI {p:Addr} {rs:List V} {ks:List Kd} {H H':Hp} (b:But p H H') (pt:PotC H p) (h:Tups H rs ks):Tups H' rs ks:=Tups.keep (fun x xs e=>gS b pt e) h
theorem But.refl' {p:Addr} {H:Hp}:But p H H:=fun _ _ _ e=>e
section
variable {P:Program} {w:World} {K:PySem.W.Frag} {mg:Str→Option Value} {base:Heap}
def jD:Sp:=fun vs H Q _=>∃ (c k:Int),vs=[.int c,.int k]∧0≤k∧k≤63∧∀ (p:Addr) (H':Hp),H p=none→PotC H' p→Same H H'→Q (.ref p) H'
def ci:Sp:=fun vs H Q _=>∃ (p:Addr) (m:Int),vs=[.ref p,.int m]∧PotC H p∧0 < m∧m≤10 ^ 60∧∀ (r:Int) (H':Hp),0≤r→r < m→PotC H' p→But p H H'→Q (.int r) H'
def jE:Sp:=fun vs H Q _=>∃ (p:Addr),vs=[.ref p]∧PotC H p∧∀ (r:Int) (H':Hp),1≤r→r < 2 * 10 ^ 56→PotC H' p→But p H H'→Q (.int r) H'
def fc:Sp:=fun vs H Q _=>∃ (p:Addr) (u m:Int),vs=[.ref p,.int u,.int m]∧PotC H p∧1≤u∧u < 2 * 10 ^ 56∧1≤m∧m≤40∧∀ (r:Int) (H':Hp),1≤r→r < 10 ^ 58→PotC H' p→But p H H'→Q (.int r) H'
def fP:Sp:=fun vs H Q _=>∃ (p:Addr),vs=[.ref p]∧PotC H p∧∀ (r:Int) (H':Hp),0≤r→r < 10 ^ 60→PotC H' p→But p H H'→Q (.int r) H'
theorem sccell:FnScope ["_law_script","_law_k"] ["_law_script","_law_k"] (defScope iJ):=⟨rfl,rfl,rfl,by decide +kernel,rfl,by decide +kernel,by decide +kernel⟩
theorem pP {f:Addr} {fd:FuncData} (F:Fun K "_law_cell" "_law_cell" iJ f fd) (B:Blt mg):FnOk P w K mg base CX0 1 f fd ["_law_script","_law_k"] (jw K):=by
 refine F.ok sccell (fun vs H Q E h=>?_) (fun cdv A outer s H vs Q E hr h=>?_)
 ·obtain ⟨a,ns,n,rfl,_⟩:=h
  rfl
 obtain ⟨a,ns,n,rfl,hS,n0,q⟩:=h
 have nd:=sccell.nd
 refine ⟨_,(@ae _ _ _ _ _ (@aI _ _ _ _ _ _ _ _ (@aB _ _ _ _ _ _ _ _ ij (pv 1) (@ay _ _ _ _ _ _ _ _ _ aK rfl B.len PySem.boot_len (@aa _ _ _ _ _ (pv 0) ab rfl) (by decide) (by decide) rfl rfl) (az _)) (@af _ _ _ (@ar _ _ _ _ (@au _ _ _ _ _ _ _ ix_list (pv 0) (pv 1) (fun _ _=>rfl)))) aA) (@af _ _ _ (@ar _ _ _ _ ad))),?_⟩
 have hl:(ns.map V.int).length=ns.length:=List.length_map _
 refine ⟨_,rfl,_,rfl,a,_,rfl,.inl hS,_,_,rfl,rfl,_,rfl,?_⟩
 refine ck (fun c=>?_) (fun c=>?_)
 ·have c':n < ((ns.map V.int).length:Int):=of_decide_eq_true c
  rw [hl] at c'
  have hk:n.toNat < ns.length:=by omega
  have hv:atI (ns.map V.int) n=some (.int ns[n.toNat]):=cX n0 (by rw [List.getElem?_map,List.getElem?_eq_getElem hk]; rfl)
  exact ⟨_,rfl,_,rfl,a,_,_,_,rfl,rfl,hS,hv,q _⟩
 ·exact q _
theorem scpotc:FnScope ["_law_cell_here","_law_k"] ["_law_cell_here","_law_k"] (defScope nF):=⟨rfl,rfl,rfl,by decide +kernel,rfl,by decide +kernel,by decide +kernel⟩
theorem pQ {f:Addr} {fd:FuncData} (F:Fun K "_law_pot" "_law_pot" nF f fd) (B:Blt mg):FnOk P w K mg base CX0 1 f fd ["_law_cell_here","_law_k"] (jD):=by
 refine F.ok scpotc (fun vs H Q E h=>?_) (fun cdv A outer s H vs Q E hr h=>?_)
 ·obtain ⟨c,k,rfl,_⟩:=h
  rfl
 obtain ⟨c,k,rfl,k0,k1,q⟩:=h
 have nd:=scpotc.nd
 refine ⟨_,(@af _ _ _ (@ar _ _ _ _ (@aT _ _ _ _ (@aa _ _ _ _ _ (@ay _ _ _ _ _ _ _ _ _ (eD rfl) rfl B.max PyProof.Rows.boot_max (@aa _ _ _ _ _ ad (@aa _ _ _ _ _ (@aD _ _ _ _ _ _ _ _ bf (@ay _ _ _ _ _ _ _ _ _ il rfl B.abs PyProof.Rows.boot_abs (@aa _ _ _ _ _ (pv 0) ab rfl) (by decide) (by decide) rfl rfl) (@aD _ _ _ _ _ _ _ _ eA ad ad)) ab rfl) rfl) (by decide) (by decide) rfl rfl) (@aa _ _ _ _ _ (@aD _ _ _ _ _ _ _ _ aO (@aD _ _ _ _ _ _ _ _ aO (@aD _ _ _ _ _ _ _ _ fh (@ay _ _ _ _ _ _ _ _ _ il rfl B.abs PyProof.Rows.boot_abs (@aa _ _ _ _ _ (pv 0) ab rfl) (by decide) (by decide) rfl rfl) ad) (@aD _ _ _ _ _ _ _ _ em ad (pv 1))) ad) ab rfl) rfl)))),?_⟩
 refine ⟨_,rfl,_,rfl,_,_,rfl,rfl,⟨by decide,by decide,by decide⟩,_,_,rfl,rfl,_,_,rfl,_,rfl,_,rfl,_,_,rfl,rfl,(by show (0:Int) < 2147483563; decide),_,rfl,_,_,rfl,rfl,.inl ⟨by decide,by decide⟩,_,_,rfl,rfl,_,_,rfl,rfl,(by show 2≤sizeLine; decide),fun p hp=>?_⟩
 have e1:=Int.emod_nonneg (if c < 0 then -c else c) (show (2147483563:Int)≠0 by decide)
 have e2:=Int.emod_lt_of_pos (if c < 0 then -c else c) (show (0:Int) < 2147483563 by decide)
 refine q p _ hp ⟨_,_,?_,?_,?_,upd_same⟩ (Same.new hp)
 ·split <;> omega
 ·omega
 ·omega
theorem sctake:FnScope ["_law_pot_here","_law_many","_law_digit"] ["_law_pot_here","_law_many"] (defScope iK):=⟨rfl,rfl,rfl,by decide +kernel,rfl,by decide +kernel,by decide +kernel⟩
theorem pR {f:Addr} {fd:FuncData} (F:Fun K "_law_take" "_law_take" iK f fd) (B:Blt mg):FnOk P w K mg base CX0 1 f fd ["_law_pot_here","_law_many"] (ci):=by
 refine F.ok sctake (fun vs H Q E h=>?_) (fun cdv A outer s H vs Q E hr h=>?_)
 ·obtain ⟨p,m,rfl,_⟩:=h
  rfl
 obtain ⟨p,m,rfl,⟨a,b,a0,b0,b1,hp⟩,m0,m1,q⟩:=h
 have nd:=sctake.nd
 refine ⟨_,(@ae _ _ _ _ _ (@aI _ _ _ _ _ _ _ _ (@aB _ _ _ _ _ _ _ _ mK (@au _ _ _ _ _ _ _ ix_list (pv 0) ad (fun _ _=>rfl)) ad (az _)) (@ae _ _ _ _ _ (@aE _ _ 2 _ _ _ _ nd rfl (Or.inl rfl) (@aD _ _ _ _ _ _ _ _ fh (@au _ _ _ _ _ _ _ ix_list (pv 0) ad (fun _ _=>rfl)) (pv 1)) rfl (Or.inl rfl)) (@ae _ _ _ _ _ (@bn _ _ _ _ _ _ (@aD _ _ _ _ _ _ _ _ fu (@au _ _ _ _ _ _ _ ix_list (pv 0) ad (fun _ _=>rfl)) (pv 1)) (gz (pv 0) ad dE) rfl rfl rfl) (@af _ _ _ (@ar _ _ _ _ (pv 2))))) aA) (@ae _ _ _ _ _ (@bn _ _ _ _ _ _ (@aD _ _ _ _ _ _ _ _ fh (@aD _ _ _ _ _ _ _ _ aO (@aD _ _ _ _ _ _ _ _ em (@au _ _ _ _ _ _ _ ix_list (pv 0) ad (fun _ _=>rfl)) ad) ad) ad) (gz (pv 0) ad dE) rfl rfl rfl) (@af _ _ _ (@ar _ _ _ _ (@aD _ _ _ _ _ _ _ _ fh (@aD _ _ _ _ _ _ _ _ fu (@aD _ _ _ _ _ _ _ _ fh (@aD _ _ _ _ _ _ _ _ em (@au _ _ _ _ _ _ _ ix_list (pv 0) ad (fun _ _=>rfl)) (@au _ _ _ _ _ _ _ ix_list (pv 0) ad (fun _ _=>rfl))) ad) ad) (pv 1)))))),?_⟩
 have at0:atI [V.int a,V.int b] 0=some (.int a):=rfl
 have at1:atI [V.int a,V.int b] 1=some (.int b):=rfl
 refine ⟨_,rfl,p,_,_,_,rfl,rfl,SqL.of hp,at0,_,_,rfl,rfl,_,rfl,?_⟩
 refine ck (fun c=>?_) (fun c=>?_)
 ·have c':0 < a:=of_decide_eq_true c
  refine ⟨_,rfl,p,_,_,_,rfl,rfl,SqL.of hp,at0,_,rfl,_,_,rfl,rfl,m0,?_⟩
  refine ⟨_,rfl,p,_,_,_,rfl,rfl,SqL.of hp,at0,_,rfl,_,_,rfl,rfl,⟨m0,m1⟩,_,rfl,p,_,_,_,rfl,rfl,hp,rfl,?_⟩
  refine ⟨_,rfl,q _ _ (Int.emod_nonneg _ (by omega)) (Int.emod_lt_of_pos _ m0) ⟨a / m,b,Int.ediv_nonneg a0 (by omega),b0,b1,upd_same⟩ But.upd⟩
 ·refine ⟨_,rfl,p,_,_,_,rfl,rfl,SqL.of hp,at1,_,_,rfl,rfl,.inr ⟨by decide,by decide⟩,_,_,rfl,rfl,_,_,rfl,rfl,(by show (0:Int) < 2147483629; decide),_,rfl,p,_,_,_,rfl,rfl,hp,rfl,?_⟩
  have n0:0≤(b * 39373 + 7919) % 2147483629:=Int.emod_nonneg _ (by decide)
  have n1:(b * 39373 + 7919) % 2147483629 < 2147483629:=Int.emod_lt_of_pos _ (by decide)
  refine ⟨_,rfl,p,_,_,_,rfl,rfl,SqL.of upd_same,rfl,_,rfl,p,_,_,_,rfl,rfl,SqL.of upd_same,rfl,_,_,rfl,rfl,.inl ⟨by omega,by omega⟩,_,_,rfl,rfl,(by show (0:Int) < 2147483563; decide),_,_,rfl,rfl,⟨by decide,by decide⟩,_,rfl,_,_,rfl,rfl,m0,?_⟩
  exact q _ _ (Int.emod_nonneg _ (by omega)) (Int.emod_lt_of_pos _ m0) ⟨a,_,a0,n0,by omega,upd_same⟩ But.upd
theorem scunit:FnScope ["_law_pot_here","_law_some"] ["_law_pot_here"] (defScope iL):=⟨rfl,rfl,rfl,by decide +kernel,rfl,by decide +kernel,by decide +kernel⟩
theorem pS {f:Addr} {fd:FuncData} (F:Fun K "_law_unit" "_law_unit" iL f fd) (B:Blt mg) (DD:Dn P w K mg base "_law_take" ["_law_pot_here","_law_many"] 1 (ci)):FnOk P w K mg base CX0 2 f fd ["_law_pot_here"] (jE):=by
 refine F.ok scunit (fun vs H Q E h=>?_) (fun cdv A outer s H vs Q E hr h=>?_)
 ·obtain ⟨p,rfl,_⟩:=h
  rfl
 obtain ⟨p,rfl,pt,q⟩:=h
 have nd:=scunit.nd
 refine ⟨_,(@ae _ _ _ _ _ (@aE _ _ 1 _ _ _ _ nd rfl (Or.inl rfl) (@aT _ _ _ _ (@aa _ _ _ _ _ ad (@aa _ _ _ _ _ ad (@aa _ _ _ _ _ (@aD _ _ _ _ _ _ _ _ aO ad (@ao _ _ _ _ _ _ _ _ _ _ DD hr rfl (@aa _ _ _ _ _ (pv 0) (@aa _ _ _ _ _ (@aD _ _ _ _ _ _ _ _ eA ad ad) ab rfl) rfl) (by decide) rfl rfl)) (@aa _ _ _ _ _ (@aD _ _ _ _ _ _ _ _ aO (@aD _ _ _ _ _ _ _ _ eA ad ad) (@ao _ _ _ _ _ _ _ _ _ _ DD hr rfl (@aa _ _ _ _ _ (pv 0) (@aa _ _ _ _ _ (@aD _ _ _ _ _ _ _ _ eA ad ad) ab rfl) rfl) (by decide) rfl rfl)) ab rfl) rfl) rfl) rfl)) rfl (Or.inl rfl)) (@af _ _ _ (@ar _ _ _ _ (@au _ _ _ _ _ _ _ ix_list (pv 1) (@ao _ _ _ _ _ _ _ _ _ _ DD hr rfl (@aa _ _ _ _ _ (pv 0) (@aa _ _ _ _ _ ad ab rfl) rfl) (by decide) rfl rfl) (fun _ _=>rfl))))),?_⟩
 have e56:(10:Int) ^ (56:Int).toNat=10 ^ 56:=rfl
 have e66:(10:Int) ^ 6 < 10 ^ 56:=by decide
 refine ah (fun σ' H'=>∃ (l:Addr) (c d:Int),σ'=[some (.ref p),some (.ref l)]∧l≠p∧H' l=some (.lst [.int 1,.int 1,.int c,.int d])∧1≤c∧c < 2 * 10 ^ 56∧1≤d∧d < 2 * 10 ^ 56∧PotC H' p∧But p H H') (fun R hR=>?_) ?_
 ·refine ⟨_,rfl,_,_,rfl,rfl,⟨by decide,by decide,by decide⟩,p,_,rfl,pt,(by show (0:Int) < 10 ^ (6:Int).toNat; decide),(by show (10:Int) ^ (6:Int).toNat≤10 ^ 60; decide),fun r H1 r0 r1 pt1 b1=>⟨_,_,rfl,rfl,_,_,rfl,rfl,⟨by decide,by decide,by decide⟩,_,rfl,_,_,rfl,rfl,⟨by decide,by decide,by decide⟩,p,_,rfl,pt1,(by show (0:Int) < 10 ^ (56:Int).toNat; decide),(by show (10:Int) ^ (56:Int).toNat≤10 ^ 60; decide),fun r2 H2 r20 r21 pt2 b2=>⟨_,_,rfl,rfl,(by show 4≤sizeLine; decide),fun l hl=>?_⟩⟩⟩
  have r1:r < 10 ^ 6:=r1
  rw [e56] at r21
  obtain ⟨H3,e3,k3,n3,s3,b3,pt3⟩:=cJ (o:=.lst [.int 1,.int 1,.int (1 + r),.int (10 ^ (56:Int).toNat + r2)]) (b1.trans b2) pt2 hl
  rw [show upd H2 l _=H3 from e3]
  exact hR _ _ ⟨l,_,_,rfl,n3,k3,by omega,by omega,by rw [e56]; omega,by rw [e56]; omega,pt3,b3⟩
 rintro _ H1 ⟨l,c,d,rfl,nlp,hl1,c0,c1,d0,d1,pt1,b1⟩
 refine ⟨_,rfl,_,rfl,p,4,rfl,pt1,by decide,by decide,fun r H2 r0 r1 pt2 b2=>?_⟩
 have hl2:=b2 _ _ nlp hl1
 have one:(1:Int) < 2 * 10 ^ 56:=by decide
 obtain ⟨x,hx,x0,x1⟩:∃x:Int,atI [V.int 1,V.int 1,V.int c,V.int d] r=some (.int x)∧1≤x∧x < 2 * 10 ^ 56:=by
  have:r=0∨r=1∨r=2∨r=3:=by omega
  rcases this with rfl | rfl | rfl | rfl
  ·exact ⟨1,rfl,by decide,one⟩
  ·exact ⟨1,rfl,by decide,one⟩
  ·exact ⟨c,rfl,c0,c1⟩
  ·exact ⟨d,rfl,d0,d1⟩
 exact ⟨l,_,_,_,rfl,rfl,SqL.of hl2,hx,q x H2 x0 x1 pt2 (b1.trans b2)⟩
theorem scsidecc:FnScope ["_law_pot_here","_law_unit_here","_law_most"] ["_law_pot_here","_law_unit_here","_law_most"] (defScope iM):=⟨rfl,rfl,rfl,by decide +kernel,rfl,by decide +kernel,by decide +kernel⟩
theorem lF {f:Addr} {fd:FuncData} (F:Fun K "_law_side" "_law_side" iM f fd) (B:Blt mg) (DD:Dn P w K mg base "_law_take" ["_law_pot_here","_law_many"] 1 (ci)):FnOk P w K mg base CX0 2 f fd ["_law_pot_here","_law_unit_here","_law_most"] (fc):=by
 refine F.ok scsidecc (fun vs H Q E h=>?_) (fun cdv A outer s H vs Q E hr h=>?_)
 ·obtain ⟨p,u,m,rfl,_⟩:=h
  rfl
 obtain ⟨p,u,m,rfl,pt,u0,u1,m1,m40,q⟩:=h
 have nd:=scsidecc.nd
 refine ⟨_,(@ae _ _ _ _ _ (@aI _ _ _ _ _ _ _ _ (@aB _ _ _ _ _ _ _ _ bK (@ao _ _ _ _ _ _ _ _ _ _ DD hr rfl (@aa _ _ _ _ _ (pv 0) (@aa _ _ _ _ _ ad ab rfl) rfl) (by decide) rfl rfl) ad (az _)) (@af _ _ _ (@ar _ _ _ _ (@aD _ _ _ _ _ _ _ _ em (pv 1) (@aD _ _ _ _ _ _ _ _ aO ad (@ao _ _ _ _ _ _ _ _ _ _ DD hr rfl (@aa _ _ _ _ _ (pv 0) (@aa _ _ _ _ _ (pv 2) ab rfl) rfl) (by decide) rfl rfl))))) aA) (@af _ _ _ (@ar _ _ _ _ (@aD _ _ _ _ _ _ _ _ aO ad (@ao _ _ _ _ _ _ _ _ _ _ DD hr rfl (@aa _ _ _ _ _ (pv 0) (@aa _ _ _ _ _ (@aD _ _ _ _ _ _ _ _ em (pv 2) (pv 1)) ab rfl) rfl) (by decide) rfl rfl))))),?_⟩
 have e58:40 * (2 * 10 ^ 56) < (10:Int) ^ 58:=by decide
 have e60:40 * (2 * 10 ^ 56) < (10:Int) ^ 60:=by decide
 have mu:m * u≤40 * (2 * 10 ^ 56):=Int.mul_le_mul m40 (Int.le_of_lt u1) (by omega) (by decide)
 have mu1:1≤m * u:=by have:=Int.mul_le_mul m1 u0 (by decide) (by omega); omega
 refine ah (fun σ' H'=>σ'=[some (.ref p),some (.int u),some (.int m)]∧PotC H' p∧But p H H') (fun R hR=>?_) ?_
 ·refine ⟨_,rfl,p,2,rfl,pt,by decide,by decide,fun z H1 z0 z1 pt1 b1=>⟨rfl,_,rfl,?_⟩⟩
  refine ck (fun cc=>?_) (fun cc=>hR _ _ ⟨rfl,pt1,b1⟩)
  refine ⟨_,rfl,_,rfl,_,rfl,p,m,rfl,pt1,by omega,by omega,fun r H2 r0 r1 pt2 b2=>⟨_,_,rfl,rfl,_,_,rfl,rfl,.inr ⟨by omega,by omega⟩,q _ H2 ?_ ?_ pt2 (b1.trans b2)⟩⟩
  ·have:=Int.mul_le_mul u0 (show (1:Int)≤1 + r by omega) (by decide) (by omega)
   omega
  ·have:u * (1 + r)≤u * m:=Int.mul_le_mul_of_nonneg_left (by omega) (by omega)
   rw [Int.mul_comm u m] at this
   omega
 rintro _ H1 ⟨rfl,pt1,b1⟩
 exact ⟨_,rfl,_,rfl,_,rfl,_,_,rfl,rfl,.inl ⟨by omega,by omega⟩,p,m * u,rfl,pt1,by omega,by omega,fun r H2 r0 r1 pt2 b2=>⟨_,_,rfl,rfl,q _ H2 (by omega) (by omega) pt2 (b1.trans b2)⟩⟩
theorem scworthc:FnScope ["_law_pot_here","_law_some"] ["_law_pot_here"] (defScope fJ):=⟨rfl,rfl,rfl,by decide +kernel,rfl,by decide +kernel,by decide +kernel⟩
theorem lG {f:Addr} {fd:FuncData} (F:Fun K "_law_worth" "_law_worth" fJ f fd) (B:Blt mg) (DD:Dn P w K mg base "_law_take" ["_law_pot_here","_law_many"] 1 (ci)):FnOk P w K mg base CX0 2 f fd ["_law_pot_here"] (fP):=by
 refine F.ok scworthc (fun vs H Q E h=>?_) (fun cdv A outer s H vs Q E hr h=>?_)
 ·obtain ⟨p,rfl,_⟩:=h
  rfl
 obtain ⟨p,rfl,pt,q⟩:=h
 have nd:=scworthc.nd
 refine ⟨_,(@ae _ _ _ _ _ (@aE _ _ 1 _ _ _ _ nd rfl (Or.inl rfl) (@aT _ _ _ _ (@aa _ _ _ _ _ (@ao _ _ _ _ _ _ _ _ _ _ DD hr rfl (@aa _ _ _ _ _ (pv 0) (@aa _ _ _ _ _ ad ab rfl) rfl) (by decide) rfl rfl) (@aa _ _ _ _ _ (@ao _ _ _ _ _ _ _ _ _ _ DD hr rfl (@aa _ _ _ _ _ (pv 0) (@aa _ _ _ _ _ (@aD _ _ _ _ _ _ _ _ eA ad ad) ab rfl) rfl) (by decide) rfl rfl) (@aa _ _ _ _ _ (@aD _ _ _ _ _ _ _ _ bf (@aD _ _ _ _ _ _ _ _ bf (@aD _ _ _ _ _ _ _ _ eA ad ad) ad) (@ao _ _ _ _ _ _ _ _ _ _ DD hr rfl (@aa _ _ _ _ _ (pv 0) (@aa _ _ _ _ _ ad ab rfl) rfl) (by decide) rfl rfl)) ab rfl) rfl) rfl)) rfl (Or.inl rfl)) (@af _ _ _ (@ar _ _ _ _ (@au _ _ _ _ _ _ _ ix_list (pv 1) (@ao _ _ _ _ _ _ _ _ _ _ DD hr rfl (@aa _ _ _ _ _ (pv 0) (@aa _ _ _ _ _ ad ab rfl) rfl) (by decide) rfl rfl) (fun _ _=>rfl))))),?_⟩
 have e60:(10:Int) ^ (60:Int).toNat=10 ^ 60:=rfl
 have e100:(100:Int) < 10 ^ 60:=by decide
 refine ah (fun σ' H'=>∃ (l:Addr) (c d e:Int),σ'=[some (.ref p),some (.ref l)]∧l≠p∧H' l=some (.lst [.int c,.int d,.int e])∧0≤c∧c < 10 ^ 60∧0≤d∧d < 10 ^ 60∧0≤e∧e < 10 ^ 60∧PotC H' p∧But p H H') (fun R hR=>?_) ?_
 ·refine ⟨_,rfl,p,10,rfl,pt,by decide,by decide,fun r H1 r0 r1 pt1 b1=>⟨_,rfl,_,_,rfl,rfl,⟨by decide,by decide,by decide⟩,p,_,rfl,pt1,(by show (0:Int) < 10 ^ (60:Int).toNat; decide),(by show (10:Int) ^ (60:Int).toNat≤10 ^ 60; decide),fun r2 H2 r20 r21 pt2 b2=>⟨_,_,rfl,rfl,⟨by decide,by decide,by decide⟩,_,_,rfl,rfl,_,rfl,p,10,rfl,pt2,by decide,by decide,fun r3 H3 r30 r31 pt3 b3=>⟨_,_,rfl,rfl,(by show 3≤sizeLine; decide),fun l hl=>?_⟩⟩⟩⟩
  rw [e60] at r21
  obtain ⟨H4,e4,k4,n4,s4,b4,pt4⟩:=cJ (o:=.lst [.int r,.int r2,.int (10 ^ (60:Int).toNat - 1 - r3)]) (b1.trans (b2.trans b3)) pt3 hl
  rw [show upd H3 l _=H4 from e4]
  exact hR _ _ ⟨l,_,_,_,rfl,n4,k4,r0,by omega,r20,r21,by rw [e60]; omega,by rw [e60]; omega,pt4,b4⟩
 rintro _ H1 ⟨l,c,d,e,rfl,nlp,hl1,c0,c1,d0,d1,e0,e1,pt1,b1⟩
 refine ⟨_,rfl,_,rfl,p,3,rfl,pt1,by decide,by decide,fun r H2 r0 r1 pt2 b2=>?_⟩
 have hl2:=b2 _ _ nlp hl1
 obtain ⟨x,hx,x0,x1⟩:∃x:Int,atI [V.int c,V.int d,V.int e] r=some (.int x)∧0≤x∧x < 10 ^ 60:=by
  have:r=0∨r=1∨r=2:=by omega
  rcases this with rfl | rfl | rfl
  ·exact ⟨c,rfl,c0,c1⟩
  ·exact ⟨d,rfl,d0,d1⟩
  ·exact ⟨e,rfl,e0,e1⟩
 exact ⟨l,_,_,_,rfl,rfl,SqL.of hl2,hx,q x H2 x0 x1 pt2 (b1.trans b2)⟩
end
def LS (H:Hp) (t:Addr) (b:Int) (ks:List Kd) (kl:Addr):Prop:=∃rs,H t=some (.tup [.int b,.ref kl])∧H kl=some (.lst rs)∧Tups H rs ks
theorem LS.same {H H':Hp} {t kl:Addr} {b:Int} {ks:List Kd} (x:LS H t b ks kl) (s:Same H H'):LS H' t b ks kl:=by
 obtain ⟨rs,h1,h2,h3⟩:=x
 exact ⟨rs,s _ _ h1,s _ _ h2,Tups.keep (fun c xs e=>s _ _ e) h3⟩
theorem LS.but {p:Addr} {H H':Hp} {t kl:Addr} {b:Int} {ks:List Kd} (x:LS H t b ks kl) (n:kl≠p) (pt:PotC H p) (bt:But p H H'):LS H' t b ks kl:=by
 obtain ⟨rs,h1,h2,h3⟩:=x
 exact ⟨rs,gS bt pt h1,bt _ _ n h2,qI bt pt h3⟩
def LyC (H:Hp) (v:V) (q:Nat×Bool):Prop:=∃a,v=.ref a∧H a=some (.tup [.int q.1,.bl q.2])
theorem LyC.keep {H H':Hp} (k:∀a xs,H a=some (.tup xs)→H' a=some (.tup xs)) {v:V} {q:Nat×Bool} (h:LyC H v q):LyC H' v q:=by
 obtain ⟨a,e,h⟩:=h
 exact ⟨a,e,k _ _ h⟩
structure Pq where
 k:Nat
 c:Bool
 x:Int
 y:Int
def pqV (p:Pq):List V:=[.int p.k,.bl p.c,.int p.x,.int p.y]
structure Bx where
 a:Int
 b:Int
 c:Int
 d:Int
def bxV (x:Bx):List V:=[.int x.a,.int x.b,.int x.c,.int x.d]
def nO (k:Kd) (p:Pq):Bx:=⟨p.x,p.y,p.x + sd1 k p.c,p.y + sd2 k p.c⟩
def apB (o r:Bx):Bool:=decide (o.c≤r.a) || decide (r.c≤o.a) || decide (o.d≤r.b) || decide (r.d≤o.b)
def Sq (H:Hp) (a:Addr) (xs:List V):Prop:=H a=some (.lst xs)∨H a=some (.tup xs)
theorem Sq.same {H H':Hp} {a:Addr} {xs:List V} (h:Sq H a xs) (s:Same H H'):Sq H' a xs:=h.imp (fun e=>s _ _ e) (fun e=>s _ _ e)
theorem ixS {K:PySem.W.Frag} {H:Hp} {a:Addr} {xs:List V} {i:Int} {v:V} {R:VK} (h:Sq H a xs) (e:atI xs i=some v) (r:R v H):rIx K (.ref a) (.int i) H R :=
 h.elim (fun z=>.inl ⟨a,xs,i,v,rfl,rfl,SqL.of z,e,r⟩) (fun z=>.inr (.inl ⟨a,xs,i,v,rfl,rfl,SqT.of z,e,r⟩))
theorem eO {α β:Type} {R:α→β→Prop}:∀ {xs:List α} {ys:List β} {xs':List α} {ys':List β},Paired R xs ys→Paired R xs' ys'→Paired R (xs ++ xs') (ys ++ ys')
 | _,_,_,_,.nil,h=>h
 | _,_,_,_,.cons a r,h=>.cons a (eO r h)
def nP (k:Kd):Prop:=Good k∧k.w < 10 ^ 58∧k.h < 10 ^ 58
section
variable {P:Program} {w:World} {K:PySem.W.Frag} {mg:Str→Option Value} {base:Heap}
def gT:Sp:=fun vs H Q _=>∃ (p:Addr) (u:Int),vs=[.ref p,.int u]∧PotC H p∧1≤u∧u < 2 * 10 ^ 56∧∀ (t kl:Addr) (b:Int) (ks:List Kd) (H':Hp),LS H' t b ks kl→kl≠p→H kl=none→(∀k∈ks,nP k)→1≤ks.length→ks.length≤8→0≤b→b < 10 ^ 60→PotC H' p→But p H H'→Q (.ref t) H'
def dZ:Sp:=fun vs H Q _=>∃ (t kl:Addr) (b:Int) (ks:List Kd) (i:Nat) (c:Bool) (k:Kd),vs=[.ref t,.int i,.bl c]∧LS H t b ks kl∧ks[i]? = some k∧∀ (r:Addr) (H':Hp),H' r=some (.tup [.int (sd1 k c),.int (sd2 k c)])→Same H H'→Q (.ref r) H'
def cY:Sp:=fun vs H Q _=>∃ (t kl:Addr) (b:Int) (ks:List Kd),vs=[.ref t]∧LS H t b ks kl∧ks.length≤8∧∀ (l:Addr) (ys:List V) (H':Hp),H' l=some (.lst ys)→H l=none→Paired (LyC H') ys (lyK ks 0)→Same H H'→Q (.ref l) H'
def CF:Sp:=fun vs H Q _=>∃ (t kl a:Addr) (b:Int) (ks:List Kd) (p:Pq) (k:Kd),vs=[.ref t,.ref a]∧LS H t b ks kl∧Sq H a (pqV p)∧ks[p.k]? = some k∧∀ (r:Addr) (H':Hp),H' r=some (.tup (bxV (nO k p)))→Same H H'→Q (.ref r) H'
def AD:Sp:=fun vs H Q _=>∃ (a1 a2:Addr) (o r:Bx),vs=[.ref a1,.ref a2]∧H a1=some (.tup (bxV o))∧H a2=some (.tup (bxV r))∧Q (.bl (apB o r)) H
theorem scshopc:FnScope ["_law_pot_here","_law_unit_here","_law_blade","_law_kinds","_law_k","_law_wide","_law_high"] ["_law_pot_here","_law_unit_here"] (defScope iN):=⟨rfl,rfl,rfl,by decide +kernel,rfl,by decide +kernel,by decide +kernel⟩
theorem nQ {f:Addr} {fd:FuncData} (F:Fun K "_law_shop" "_law_shop" iN f fd) (B:Blt mg) (DD:Dn P w K mg base "_law_take" ["_law_pot_here","_law_many"] 1 (ci)) (DSi:Dn P w K mg base "_law_side" ["_law_pot_here","_law_unit_here","_law_most"] 2 (fc)) (DWo:Dn P w K mg base "_law_worth" ["_law_pot_here"] 2 (fP)):FnOk P w K mg base CX0 3 f fd ["_law_pot_here","_law_unit_here"] (gT):=by
 refine F.ok scshopc (fun vs H Q E h=>?_) (fun cdv A outer s H vs Q E hr h=>?_)
 ·obtain ⟨p,u,rfl,_⟩:=h
  rfl
 obtain ⟨p,u,rfl,pt,u0,u1,q⟩:=h
 have nd:=scshopc.nd
 refine ⟨_,(@ae _ _ _ _ _ (@aE _ _ 2 _ _ _ _ nd rfl (Or.inl rfl) (@au _ _ _ _ _ _ _ ix_list (@aT _ _ _ _ (@aa _ _ _ _ _ ad (@aa _ _ _ _ _ (pv 1) (@aa _ _ _ _ _ (@ao _ _ _ _ _ _ _ _ _ _ DD (hr.mono (by decide)) rfl (@aa _ _ _ _ _ (pv 0) (@aa _ _ _ _ _ ad ab rfl) rfl) (by decide) rfl rfl) (@aa _ _ _ _ _ (@ao _ _ _ _ _ _ _ _ _ _ DD (hr.mono (by decide)) rfl (@aa _ _ _ _ _ (pv 0) (@aa _ _ _ _ _ (@aD _ _ _ _ _ _ _ _ aO (@aD _ _ _ _ _ _ _ _ em ad (pv 1)) ad) ab rfl) rfl) (by decide) rfl rfl) ab rfl) rfl) rfl) rfl)) (@ao _ _ _ _ _ _ _ _ _ _ DD (hr.mono (by decide)) rfl (@aa _ _ _ _ _ (pv 0) (@aa _ _ _ _ _ ad ab rfl) rfl) (by decide) rfl rfl) (fun _ _=>rfl)) rfl (Or.inl rfl)) (@ae _ _ _ _ _ (@aE _ _ 3 _ _ _ _ nd rfl (Or.inl rfl) (@aT _ _ _ _ ab) rfl (Or.inl rfl)) (@ae _ _ _ _ _ (@bO _ _ _ _ _ _ _ _ PassesOwn.never rfl (fZ rfl B.range (@aa _ _ _ _ _ (@aD _ _ _ _ _ _ _ _ aO ad (@ao _ _ _ _ _ _ _ _ _ _ DD (hr.mono (by decide)) rfl (@aa _ _ _ _ _ (pv 0) (@aa _ _ _ _ _ ad ab rfl) rfl) (by decide) rfl rfl)) ab rfl)) (aj (i:=4) nd rfl (Or.inl rfl)) (@ae _ _ _ _ _ (@aE _ _ 5 _ _ _ _ nd rfl (Or.inl rfl) (@ao _ _ _ _ _ _ _ _ _ _ DSi hr rfl (@aa _ _ _ _ _ (pv 0) (@aa _ _ _ _ _ (pv 1) (@aa _ _ _ _ _ ad ab rfl) rfl) rfl) (by decide) rfl rfl) rfl (Or.inl rfl)) (@ae _ _ _ _ _ (@aE _ _ 6 _ _ _ _ nd rfl (Or.inl rfl) (@au _ _ _ _ _ _ _ ix_list (@aT _ _ _ _ (@aa _ _ _ _ _ (pv 5) (@aa _ _ _ _ _ (@ao _ _ _ _ _ _ _ _ _ _ DSi hr rfl (@aa _ _ _ _ _ (pv 0) (@aa _ _ _ _ _ (pv 1) (@aa _ _ _ _ _ ad ab rfl) rfl) rfl) (by decide) rfl rfl) ab rfl) rfl)) (@aU _ _ _ _ _ _ _ _ _ bT rfl B.int PyProof.Rows.boot_int (@aa _ _ _ _ _ (@aZ _ _ _ _ _ _ _ _ mK (@ao _ _ _ _ _ _ _ _ _ _ DD (hr.mono (by decide)) rfl (@aa _ _ _ _ _ (pv 0) (@aa _ _ _ _ _ ad ab rfl) rfl) (by decide) rfl rfl) ad (az _)) ab rfl) (by decide) (by decide) rfl rfl) (fun _ _=>rfl)) rfl (Or.inl rfl)) (@af _ _ _ (@cn _ _ _ _ (@gg _ _ _ _ _ _ _ _ _ _ _ _ PySem.F.plainAttrs_list PySem.F.slot_list_append PySem.F.type_list_append cA (pv 3) (@aa _ _ _ _ _ (@aF _ _ _ _ _ (@aa _ _ _ _ _ (pv 5) (@aa _ _ _ _ _ (pv 6) (@aa _ _ _ _ _ (@ao _ _ _ _ _ _ _ _ _ _ DWo hr rfl (@aa _ _ _ _ _ (pv 0) ab rfl) (by decide) rfl rfl) (@aa _ _ _ _ _ (@ao _ _ _ _ _ _ _ _ _ _ DWo hr rfl (@aa _ _ _ _ _ (pv 0) ab rfl) (by decide) rfl rfl) (@aa _ _ _ _ _ (@aZ _ _ _ _ _ _ _ _ bK (@ao _ _ _ _ _ _ _ _ _ _ DD (hr.mono (by decide)) rfl (@aa _ _ _ _ _ (pv 0) (@aa _ _ _ _ _ ad ab rfl) rfl) (by decide) rfl rfl) ad (az _)) ab rfl) rfl) rfl) rfl) rfl)) ab rfl) rfl rfl rfl rfl rfl) rfl)))) (by intro _; rfl)) (@af _ _ _ (@ar _ _ _ _ (@aF _ _ _ _ _ (@aa _ _ _ _ _ (pv 2) (@aa _ _ _ _ _ (pv 3) ab rfl) rfl))))))),?_⟩
 have e60:(100:Int) < 10 ^ 60:=by decide
 have e58:(10:Int) ^ 58 < 10 ^ 60:=by decide
 have e57:2 * (2 * 10 ^ 56) + 1 < (10:Int) ^ 60:=by decide
 have sz:(100:Nat) < sizeLine:=by decide
 refine ah (fun σ' H'=>∃b:Int,σ'=[some (.ref p),some (.int u),some (.int b),none,none,none,none]∧0≤b∧b < 10 ^ 60∧PotC H' p∧But p H H') (fun R hR=>?_) ?_
 ·refine ⟨_,rfl,_,rfl,p,3,rfl,pt,by decide,by decide,fun r1 H1 r10 r11 pt1 b1=>⟨_,rfl,_,rfl,_,_,rfl,rfl,.inl ⟨by decide,by decide⟩,_,_,rfl,rfl,p,_,rfl,pt1,by omega,by omega,fun r2 H2 r20 r21 pt2 b2=>⟨(by show 4≤sizeLine; decide),fun l hl=>?_⟩⟩⟩
  obtain ⟨H3,e3,k3,n3,s3,b3,pt3⟩:=cJ (o:=.lst [.int 0,.int u,.int r1,.int r2]) (b1.trans b2) pt2 hl
  rw [show upd H2 l _=H3 from e3]
  refine ⟨_,rfl,p,4,rfl,pt3,by decide,by decide,fun r H4 r0 r1' pt4 b4=>?_⟩
  have hl4:=b4 _ _ n3 k3
  obtain ⟨x,hx,x0,x1⟩:∃x:Int,atI [V.int 0,V.int u,V.int r1,V.int r2] r=some (.int x)∧0≤x∧x < 10 ^ 60:=by
   have:r=0∨r=1∨r=2∨r=3:=by omega
   rcases this with rfl | rfl | rfl | rfl
   ·exact ⟨0,rfl,by decide,by omega⟩
   ·exact ⟨u,rfl,by omega,by omega⟩
   ·exact ⟨r1,rfl,r10,by omega⟩
   ·exact ⟨r2,rfl,r20,by omega⟩
  exact ⟨l,_,_,_,rfl,rfl,SqL.of hl4,hx,hR _ _ ⟨x,rfl,x0,x1,pt4,b3.trans b4⟩⟩
 rintro _ H1 ⟨b,rfl,b0,b1',pt1,b1⟩
 refine ah (fun σ' H'=>∃l:Addr,σ'=[some (.ref p),some (.int u),some (.int b),some (.ref l),none,none,none]∧l≠p∧H1 l=none∧H' l=some (.lst [])∧PotC H' p∧But p H H') (fun R hR=>?_) ?_
 ·refine ⟨by decide,fun l hl=>?_⟩
  obtain ⟨H2,e2,k2,n2,s2,b2,pt2⟩:=cJ (o:=.lst []) b1 pt1 hl
  rw [show upd H1 l _=H2 from e2]
  exact hR _ _ ⟨l,rfl,n2,hl,k2,pt2,b2⟩
 rintro _ H2 ⟨l,rfl,nlp,hl1,hl2,pt2,b2⟩
 have hl0:H l=none:=(b1.freeC pt1 hl1).2
 refine ah (fun σ' H'=>(∃ (v4 v5 v6:Option V) (rs:List V) (ks:List Kd),σ'=[some (.ref p),some (.int u),some (.int b),some (.ref l),v4,v5,v6]∧H' l=some (.lst rs)∧Tups H' rs ks∧(∀k∈ks,nP k)∧(1≤rs.length∧rs.length≤8)∧PotC H' p∧But p H H')) (fun R hR=>?_) ?_
 ·refine ⟨_,rfl,p,8,rfl,pt2,by decide,by decide,fun m H3 m0 m1 pt3 b3=>⟨_,_,rfl,rfl,_,rfl,by omega,by omega,?_⟩⟩
  refine ga (n:=(1 + m).toNat) (fun i σ' H'=>(∃ (v4 v5 v6:Option V) (rs:List V) (ks:List Kd),σ'=[some (.ref p),some (.int u),some (.int b),some (.ref l),v4,v5,v6]∧H' l=some (.lst rs)∧Tups H' rs ks∧(∀k∈ks,nP k)∧rs.length=i∧PotC H' p∧But p H H')) ⟨_,_,_,[],[],rfl,b3 _ _ nlp hl2,.nil,fun k hk=>by simp at hk,rfl,pt3,b2.trans b3⟩ ?_ ?_
  ·rintro i _ H4 hi ⟨v4,v5,v6,rs,ks,rfl,hl4,tp4,gk4,rl4,pt4,bt4⟩
   refine ⟨_,rfl,_,rfl,p,u,6,rfl,pt4,u0,u1,by decide,by decide,fun w1 H5 w0 w1' pt5 b5=>?_⟩
   refine ⟨_,rfl,_,rfl,_,rfl,p,u,6,rfl,pt5,u0,u1,by decide,by decide,fun h1 H6 h0 h1' pt6 b6=>⟨(by show 2≤sizeLine; decide),fun l2 hl2'=>?_⟩⟩
   obtain ⟨H7,e7,k7,n7,s7,b7,pt7⟩:=cJ (o:=.lst [.int w1,.int h1]) (b5.trans b6) pt6 hl2'
   rw [show upd H6 l2 _=H7 from e7]
   refine ⟨_,rfl,p,5,rfl,pt7,by decide,by decide,fun z H8 z0 z1 pt8 b8=>⟨_,_,rfl,rfl,.inr ⟨_,rfl,?_⟩⟩⟩
   have l28:=b8 _ _ n7 k7
   obtain ⟨nn,hnn,nn0,nn1⟩:∃nn:Int,atI [V.int w1,V.int h1] (if decide (0 < z)=true then (1:Int) else 0)=some (.int nn)∧1≤nn∧nn < 10 ^ 58:=by
    by_cases c:(0:Int) < z
    ·exact ⟨h1,by rw [decide_eq_true c]; rfl,h0,h1'⟩
    ·exact ⟨w1,by rw [decide_eq_false c]; rfl,w0,w1'⟩
   refine ⟨l2,_,_,_,rfl,rfl,SqL.of l28,hnn,?_⟩
   have b48:=b7.trans b8
   have hl8:=b48 _ _ nlp hl4
   refine ⟨_,rfl,.inl ⟨rfl,_,SqL.of hl8⟩,_,rfl,_,rfl,_,rfl,p,rfl,pt8,fun wo H9 wo0 wo1 pt9 b9=>?_⟩
   refine ⟨_,rfl,p,rfl,pt9,fun wa Ha wa0 wa1 pta ba=>?_⟩
   refine ⟨_,rfl,p,2,rfl,pta,by decide,by decide,fun tu Hb tu0 tu1 ptb bb=>⟨rfl,(by show 5≤sizeLine; decide),fun t ht=>?_⟩⟩
   have b4b:=b48.trans (b9.trans (ba.trans bb))
   obtain ⟨H12,e12,k12,n12,s12,b12,pt12⟩:=cJ (o:=.tup [.int w1,.int nn,.int wo,.int wa,.bl (decide (V.int tu=V.int 0))]) (bt4.trans b4b) ptb ht
   rw [show upd Hb t _=H12 from e12]
   have k12:H12 t=some (.tup (kdV ⟨w1,nn,wo,wa,decide (V.int tu=V.int 0)⟩)):=k12
   have hlc:=s12 _ _ (b4b _ _ nlp hl4)
   refine ⟨l,_,_,rfl,rfl,hlc,(by have:i < (1 + m).toNat:=hi; omega),?_⟩
   have kt:∀ {c:Addr} {xs:List V},H12 c=some (.tup xs)→(upd H12 l (.lst (rs ++ [.ref t]))) c=some (.tup xs):=fun {c xs} e=>by
    rw [aw (fun z=>by rw [z,hlc] at e; cases e)]; exact e
   refine ⟨_,_,_,rs ++ [.ref t],ks ++ [⟨w1,nn,wo,wa,decide (V.int tu=V.int 0)⟩],rfl,upd_same,?_,fun k hk=>?_,by rw [List.length_append,rl4]; rfl,pt12.put (Ne.symm nlp),fun c o n e=>?_⟩
   ·exact eO (Tups.keep (fun c xs e=>kt (s12 _ _ e)) (qI b4b pt4 tp4)) (.cons ⟨t,rfl,kt k12⟩ .nil)
   ·rcases List.mem_append.mp hk with hk | hk
    ·exact gk4 k hk
    ·rw [List.mem_singleton.mp hk]
     exact ⟨⟨by show (1:Int)≤w1; omega,by show (1:Int)≤nn; omega,wo0,wa0,by show w1 < _; omega,by show nn < _; omega,wo1,wa1⟩,w1',nn1⟩
   ·rw [aw (fun z=>by rw [z,hl0] at e; cases e)]
    exact b12 _ _ n e
  ·rintro _ H4 ⟨v4,v5,v6,rs,ks,rfl,hl4,tp4,gk4,rl4,pt4,bt4⟩
   exact hR _ _ ⟨_,_,_,rs,ks,rfl,hl4,tp4,gk4,⟨by omega,by omega⟩,pt4,bt4⟩
 rintro _ H3 ⟨v4,v5,v6,rs,ks,rfl,hl3,tp3,gk3,⟨r1,r8⟩,pt3,bt3⟩
 refine ⟨_,rfl,_,rfl,(by show 2≤sizeLine; decide),fun t ht=>?_⟩
 obtain ⟨H6,e6,k6,n6,s6,b6,pt6⟩:=cJ (o:=.tup [.int b,.ref l]) bt3 pt3 ht
 rw [show upd H3 t _=H6 from e6]
 have rl:=Paired.length tp3
 exact q t l b ks H6 ⟨rs,k6,s6 _ _ hl3,Tups.keep (fun c xs e=>s6 _ _ e) tp3⟩ nlp hl0 gk3 (by omega) (by omega) b0 b1' pt6 b6
theorem scsidesc:FnScope ["_law_shop_here","_law_kind","_law_turned","_law_wide","_law_high"] ["_law_shop_here","_law_kind","_law_turned"] (defScope fK):=⟨rfl,rfl,rfl,by decide +kernel,rfl,by decide +kernel,by decide +kernel⟩
theorem lH {f:Addr} {fd:FuncData} (F:Fun K "_law_sides" "_law_sides" fK f fd) (B:Blt mg):FnOk P w K mg base CX0 1 f fd ["_law_shop_here","_law_kind","_law_turned"] (dZ):=by
 refine F.ok scsidesc (fun vs H Q E h=>?_) (fun cdv A outer s H vs Q E hr h=>?_)
 ·obtain ⟨t,kl,b,ks,i,c,k,rfl,_⟩:=h
  rfl
 obtain ⟨t,kl,b,ks,i,c,k,rfl,sh,hi,q⟩:=h
 have nd:=scsidesc.nd
 refine ⟨_,(@ae _ _ _ _ _ (@bn _ _ _ _ _ _ (@dD _ _ _ _ _ _ _ _ _ _ mT (@au _ _ _ _ _ _ _ ix_list (@au _ _ _ _ _ _ _ ix_tup (pv 0) ad (fun _ _=>rfl)) (pv 1) (fun _ _=>rfl)) gF (dC ad)) (bd rfl (ai (aj (i:=3) nd rfl (Or.inl rfl)) (ai (aj (i:=4) nd rfl (Or.inl rfl)) aP))) rfl rfl rfl) (@af _ _ _ (@ar _ _ _ _ (@au _ _ _ _ _ _ _ ix_list (@aT _ _ _ _ (@aa _ _ _ _ _ (@aF _ _ _ _ _ (@aa _ _ _ _ _ (pv 3) (@aa _ _ _ _ _ (pv 4) ab rfl) rfl)) (@aa _ _ _ _ _ (@aF _ _ _ _ _ (@aa _ _ _ _ _ (pv 4) (@aa _ _ _ _ _ (pv 3) ab rfl) rfl)) ab rfl) rfl)) (@aU _ _ _ _ _ _ _ _ _ bT rfl B.int PyProof.Rows.boot_int (@aa _ _ _ _ _ (pv 2) ab rfl) (by decide) (by decide) rfl rfl) (fun _ _=>rfl))))),?_⟩
 have sz:(100:Nat) < sizeLine:=by decide
 obtain ⟨rs,h1,h2,h3⟩:=id sh
 obtain ⟨vv,hvv,ak,rfl,hak⟩:=Paired.getL h3 hi
 have hak:H ak=some (.tup [.int k.w,.int k.h,.int k.wo,.int k.wa,.bl k.tu]):=hak
 have hat:atI rs (i:Int)=some (.ref ak):=cX (by omega) (by rw [Int.toNat_natCast]; exact hvv)
 refine ah (fun σ' H'=>σ'=[some (.ref t),some (.int i),some (.bl c),some (.int k.w),some (.int k.h)]∧Same H H') (fun R hR=>?_) ?_
 ·refine ⟨_,rfl,t,_,1,_,rfl,rfl,SqT.of h1,rfl,_,rfl,kl,_,_,_,rfl,rfl,SqL.of h2,hat,_,rfl,ak,_,rfl,SqT.of hak,(fun z=>absurd z.2 (show ¬ HT.sIx 5 5 (some 2)=5 by decide)),fun a ha=>?_⟩
  obtain ⟨H1,e1,k1,s1⟩:∃H',upd H a (.tup (cz [.int k.w,.int k.h,.int k.wo,.int k.wa,.bl k.tu] none (some 2)))=H'∧H' a=some (.tup (cz [.int k.w,.int k.h,.int k.wo,.int k.wa,.bl k.tu] none (some 2)))∧Same H H':=⟨_,rfl,upd_same,Same.new ha⟩
  rw [show upd H a _=H1 from e1]
  exact ⟨a,_,rfl,SqT.of (show H1 a=some (.tup [.int k.w,.int k.h]) from k1),rfl,_,_,rfl,_,_,rfl,rfl,hR _ _ ⟨rfl,s1⟩⟩
 rintro _ H1 ⟨rfl,s1⟩
 refine ⟨_,rfl,_,rfl,(by show 2≤sizeLine; decide),fun a ha=>?_⟩
 obtain ⟨H2,e2,k2,s2⟩:∃H',upd H1 a (.tup [.int k.w,.int k.h])=H'∧H' a=some (.tup [.int k.w,.int k.h])∧Same H1 H':=⟨_,rfl,upd_same,Same.new ha⟩
 rw [show upd H1 a _=H2 from e2]
 refine ⟨_,rfl,_,rfl,(by show 2≤sizeLine; decide),fun a2 ha2=>?_⟩
 obtain ⟨H3,e3,k3,s3⟩:∃H',upd H2 a2 (.tup [.int k.h,.int k.w])=H'∧H' a2=some (.tup [.int k.h,.int k.w])∧Same H2 H':=⟨_,rfl,upd_same,Same.new ha2⟩
 rw [show upd H2 a2 _=H3 from e3]
 refine ⟨(by show 2≤sizeLine; decide),fun l hl=>?_⟩
 obtain ⟨H4,e4,k4,s4⟩:∃H',upd H3 l (.lst [.ref a,.ref a2])=H'∧H' l=some (.lst [.ref a,.ref a2])∧Same H3 H':=⟨_,rfl,upd_same,Same.new hl⟩
 rw [show upd H3 l _=H4 from e4]
 refine ⟨_,rfl,.inr ⟨_,rfl,?_⟩⟩
 cases c with
 | true=>exact ⟨l,_,_,_,rfl,rfl,SqL.of k4,rfl,q a2 H4 (s4 _ _ k3) (s1.trans (s2.trans (s3.trans s4)))⟩
 | false=>exact ⟨l,_,_,_,rfl,rfl,SqL.of k4,rfl,q a H4 (s4 _ _ (s3 _ _ k2)) (s1.trans (s2.trans (s3.trans s4)))⟩
theorem sclyingsc:FnScope ["_law_shop_here","_law_found","_law_k","_law_kind"] ["_law_shop_here"] (defScope dR):=⟨rfl,rfl,rfl,by decide +kernel,rfl,by decide +kernel,by decide +kernel⟩
theorem jF {f:Addr} {fd:FuncData} (F:Fun K "_law_lyings" "_law_lyings" dR f fd) (B:Blt mg):FnOk P w K mg base CX0 1 f fd ["_law_shop_here"] (cY):=by
 refine F.ok sclyingsc (fun vs H Q E h=>?_) (fun cdv A outer s H vs Q E hr h=>?_)
 ·obtain ⟨t,kl,b,ks,rfl,_⟩:=h
  rfl
 obtain ⟨t,kl,b,ks,rfl,sh,k8,q⟩:=h
 have nd:=sclyingsc.nd
 refine ⟨_,(@ae _ _ _ _ _ (@aE _ _ 1 _ _ _ _ nd rfl (Or.inl rfl) (@aT _ _ _ _ ab) rfl (Or.inl rfl)) (@ae _ _ _ _ _ (@bO _ _ _ _ _ _ _ _ PassesOwn.never rfl (kA rfl B.enumerate (@aa _ _ _ _ _ (@au _ _ _ _ _ _ _ ix_tup (pv 0) ad (fun _ _=>rfl)) ab rfl)) (bd rfl (ai (aj (i:=2) nd rfl (Or.inl rfl)) (ai (aj (i:=3) nd rfl (Or.inl rfl)) aP))) (@ae _ _ _ _ _ (@cn _ _ _ _ (@gg _ _ _ _ _ _ _ _ _ _ _ _ PySem.F.plainAttrs_list PySem.F.slot_list_append PySem.F.type_list_append cA (pv 1) (@aa _ _ _ _ _ (@aF _ _ _ _ _ (@aa _ _ _ _ _ (pv 2) (@aa _ _ _ _ _ bD ab rfl) rfl)) ab rfl) rfl rfl rfl rfl rfl) rfl) (@af _ _ _ (@aI _ _ _ _ _ _ _ _ (PW.pt (jc (@aH _ _ _ (@au _ _ _ _ _ _ _ ix_tup (pv 3) ad (fun _ _=>rfl)) (by intro _; rfl)) (gy (@aB _ _ _ _ _ _ _ _ dw (@au _ _ _ _ _ _ _ ix_tup (pv 3) ad (fun _ _=>rfl)) (@au _ _ _ _ _ _ _ ix_tup (pv 3) ad (fun _ _=>rfl)) (az _))))) (@af _ _ _ (@cn _ _ _ _ (@gg _ _ _ _ _ _ _ _ _ _ _ _ PySem.F.plainAttrs_list PySem.F.slot_list_append PySem.F.type_list_append cA (pv 1) (@aa _ _ _ _ _ (@aF _ _ _ _ _ (@aa _ _ _ _ _ (pv 2) (@aa _ _ _ _ _ bD ab rfl) rfl)) ab rfl) rfl rfl rfl rfl rfl) rfl)) aA))) (by intro _; rfl)) (@af _ _ _ (@ar _ _ _ _ (pv 1))))),?_⟩
 have sz:(100:Nat) < sizeLine:=by decide
 obtain ⟨rs,h1,h2,h3⟩:=id sh
 have rl:=Paired.length h3
 refine ah (fun σ' H'=>∃l:Addr,σ'=[some (.ref t),some (.ref l),none,none]∧H l=none∧H' l=some (.lst [])∧Same H H') (fun R hR=>?_) ?_
 ·refine ⟨by decide,fun l hl=>?_⟩
  obtain ⟨H1,e1,k1,s1⟩:∃H',upd H l (.lst [])=H'∧H' l=some (.lst [])∧Same H H':=⟨_,rfl,upd_same,Same.new hl⟩
  rw [show upd H l _=H1 from e1]
  exact hR _ _ ⟨l,rfl,hl,k1,s1⟩
 rintro _ H1 ⟨l,rfl,hl,hl1,s1⟩
 have nkl:kl≠l:=ag h2 hl
 refine ah (fun σ' H'=>(∃v2 v3:Option V,σ'=[some (.ref t),some (.ref l),v2,v3])∧(∃ys,H' l=some (.lst ys)∧Paired (LyC H') ys (lyK ks 0))∧But l H1 H') (fun R hR=>?_) ?_
 ·refine ⟨_,rfl,t,_,1,_,rfl,rfl,SqT.of (s1 _ _ h1),rfl,kl,rs,rfl,.inl ⟨s1 _ _ h2,iy (f:=.lst) (fun _ _ e=>by cases e; rfl) (l:=kl) (xs:=rs) (fun i σ' H'=>(∃ (v2 v3:Option V) (ys:List V),σ'=[some (.ref t),some (.ref l),v2,v3]∧H' l=some (.lst ys)∧Paired (LyC H') ys (lyK (ks.take i) 0)∧But l H1 H')) ⟨_,_,[],rfl,hl1,.nil,fun _ _ _ e=>e⟩ (fun i σ Hx ⟨v2,v3,ys,_,_,_,b⟩=>b _ _ nkl (s1 _ _ h2)) ?_ (fun σ Hx ⟨v2,v3,ys,e,hy,py,b⟩=>hR _ _ ⟨⟨v2,v3,e⟩,⟨ys,hy,by rw [rl,List.take_length] at py; exact py⟩,b⟩)⟩⟩
  rintro i x pp σ H2 hx hp ⟨v2,v3,ys,rfl,l2,py,b2⟩
  obtain ⟨k,hk',ka,rfl,hka⟩:=Paired.getR h3 hx
  have hin:i < rs.length:=(List.getElem?_eq_some_iff.mp hx).1
  obtain ⟨H3,e3,k3,s3⟩:∃H',upd H2 pp (.tup [.int i,.ref ka])=H'∧H' pp=some (.tup [.int i,.ref ka])∧Same H2 H':=⟨_,rfl,upd_same,Same.new hp⟩
  rw [show upd H2 pp _=H3 from e3]
  have nka:ka≠l:=ag hka hl
  have ka3:H3 ka=some (.tup [.int k.w,.int k.h,.int k.wo,.int k.wa,.bl k.tu]):=s3 _ _ (b2 _ _ nka (s1 _ _ hka))
  have yl:=Paired.length py
  have yl2:=gN (ks.take i) 0
  rw [List.length_take] at yl2
  have lt:lyK (ks.take (i + 1)) 0=lyK (ks.take i) 0 ++ lyT i k:=by
   rw [List.take_add_one,hk']
   show lyK (ks.take i ++ [k]) 0=_
   rw [iz,List.length_take,Nat.zero_add,Nat.min_eq_left (by omega)]
  refine ⟨pp,_,rfl,SqT.of k3,rfl,_,_,rfl,_,_,rfl,rfl,?_⟩
  have app:∀ (Hx:Hp) (a:Addr) (zs:List V) (q:Nat×Bool) (L:List (Nat×Bool)),Hx l=some (.lst zs)→Paired (LyC Hx) zs L→Hx a=some (.tup [.int q.1,.bl q.2])→But l H1 Hx→Paired (LyC (upd Hx l (.lst (zs ++ [.ref a])))) (zs ++ [.ref a]) (L ++ [q])∧But l H1 (upd Hx l (.lst (zs ++ [.ref a]))):=fun Hx a zs q L hx pz ha bx=>by
   have kt:∀c xs,Hx c=some (.tup xs)→(upd Hx l (.lst (zs ++ [.ref a]))) c=some (.tup xs):=fun c xs e=>by
    rw [aw (fun z=>by rw [z,hx] at e; cases e)]; exact e
   exact ⟨eO (Paired.mapP pz fun v q h=>h.keep kt) (.cons ⟨a,rfl,kt _ _ ha⟩ .nil),fun c o n e=>by rw [aw n]; exact bx _ _ n e⟩
  refine ah (fun σ' H'=>σ'=[some (.ref t),some (.ref l),some (.int i),some (.ref ka)]∧(∃ys,H' l=some (.lst ys)∧ys.length≤2 * i + 1∧Paired (LyC H') ys (lyK (ks.take i) 0 ++ [(i,false)]))∧But l H1 H') (fun R hR=>?_) ?_
  ·refine ⟨_,rfl,.inl ⟨rfl,_,SqL.of (s3 _ _ l2)⟩,_,rfl,(by show 2≤sizeLine; decide),fun a ha=>?_⟩
   obtain ⟨H4,e4,k4,s4⟩:∃H',upd H3 a (.tup [.int i,.bl false])=H'∧H' a=some (.tup [.int i,.bl false])∧Same H3 H':=⟨_,rfl,upd_same,Same.new ha⟩
   rw [show upd H3 a _=H4 from e4]
   have l4:=s4 _ _ (s3 _ _ l2)
   obtain ⟨a1,a2⟩:=app H4 a ys (i,false) _ l4 (Paired.mapP py fun v q h=>h.keep fun c xs e=>s4 _ _ (s3 _ _ e)) k4 (fun c o n e=>s4 _ _ (s3 _ _ (b2 _ _ n e)))
   exact ⟨l,_,_,rfl,rfl,l4,by omega,hR _ _ ⟨rfl,⟨_,upd_same,by rw [List.length_append]; show ys.length + 1≤_; omega,a1⟩,a2⟩⟩
  rintro _ H4 ⟨rfl,⟨zs,l4,zl,py4⟩,b4⟩
  have ka4:H4 ka=some (.tup [.int k.w,.int k.h,.int k.wo,.int k.wa,.bl k.tu]):=b4 _ _ nka (s1 _ _ hka)
  have no:aQ k=false→(∃ (v2 v3:Option V) (ys:List V),([some (.ref t),some (.ref l),some (.int i),some (.ref ka)]:St)=[some (.ref t),some (.ref l),v2,v3]∧H4 l=some (.lst ys)∧Paired (LyC H4) ys (lyK (ks.take (i + 1)) 0)∧But l H1 H4):=fun ht=>⟨_,_,zs,rfl,l4,by rw [lt]; unfold lyT; rw [ht]; exact py4,b4⟩
  refine ⟨_,rfl,ka,_,4,_,rfl,rfl,SqT.of ka4,rfl,_,rfl,?_⟩
  cases htu:k.tu with
  | false=>exact aM (no (by unfold aQ; rw [htu]; rfl))
  | true =>
   refine aY ⟨_,rfl,ka,_,0,_,rfl,rfl,SqT.of ka4,rfl,_,rfl,ka,_,1,_,rfl,rfl,SqT.of ka4,rfl,rfl,_,rfl,?_⟩
   by_cases hwh:k.w=k.h
   ·rw [show (!decide (V.int k.w=V.int k.h))=false by rw [decide_eq_true (by rw [hwh])]; rfl]
    exact aM (no (by unfold aQ; rw [decide_eq_true hwh]; simp))
   ·rw [show (!decide (V.int k.w=V.int k.h))=true by rw [decide_eq_false (fun z=>hwh (V.int.inj z))]; rfl]
    have ht:aQ k=true:=by unfold aQ; rw [htu,decide_eq_false hwh]; rfl
    refine aY ⟨_,rfl,.inl ⟨rfl,_,SqL.of l4⟩,_,rfl,(by show 2≤sizeLine; decide),fun a ha=>?_⟩
    obtain ⟨H5,e5,k5,s5⟩:∃H',upd H4 a (.tup [.int i,.bl true])=H'∧H' a=some (.tup [.int i,.bl true])∧Same H4 H':=⟨_,rfl,upd_same,Same.new ha⟩
    rw [show upd H4 a _=H5 from e5]
    have l5:=s5 _ _ l4
    obtain ⟨a1,a2⟩:=app H5 a zs (i,true) _ l5 (Paired.mapP py4 fun v q h=>h.keep fun c xs e=>s5 _ _ e) k5 (fun c o n e=>s5 _ _ (b4 _ _ n e))
    exact ⟨l,_,_,rfl,rfl,l5,by omega,_,_,_,rfl,upd_same,by rw [lt]; unfold lyT; rw [if_pos ht]; rw [List.append_assoc] at a1; exact a1,a2⟩
 rintro _ H2 ⟨⟨v2,v3,rfl⟩,⟨ys,hy,py⟩,b2⟩
 exact ⟨_,rfl,q l ys H2 hy hl py (fun c o e=>b2 _ _ (ag e hl) (s1 _ _ e))⟩
end
def jG (ks:List Kd) (w h:Int):PyData→PyData→PyData→PyData→Bool
 | .int i,.bool c,.int x,.int y=>dY ks w h (.int i) (.bl c) (.int x) (.int y)
 | _,_,_,_=>false
theorem Dts.one {p:Addr} {H:Hp} {xs:List V} {ds:List PyData} {n:Nat} (h:Dts p H xs ds) (hl:ds.length=n + 1):∃x d xs' ds',xs=x :: xs'∧ds=d :: ds'∧Dt p H x d∧Dts p H xs' ds'∧ds'.length=n:=by
 cases h with
 | nil=>cases hl
 | cons a r=>exact ⟨_,_,_,_,rfl,rfl,a,r,Nat.succ.inj hl⟩
theorem Dts.zero {p:Addr} {H:Hp} {xs:List V} {ds:List PyData} (h:Dts p H xs ds) (hl:ds.length=0):xs=[]∧ds=[]:=by
 cases h with
 | nil=>exact ⟨rfl,rfl⟩
 | cons a r=>cases hl
theorem Dts.four {p:Addr} {H:Hp} {xs:List V} {ds:List PyData} (h:Dts p H xs ds) (hl:ds.length=4):∃x1 x2 x3 x4 d1 d2 d3 d4,xs=[x1,x2,x3,x4]∧ds=[d1,d2,d3,d4]∧Dt p H x1 d1∧Dt p H x2 d2∧Dt p H x3 d3∧Dt p H x4 d4:=by
 obtain ⟨x1,d1,xs,ds,rfl,rfl,h1,h,hl⟩:=h.one hl
 obtain ⟨x2,d2,xs,ds,rfl,rfl,h2,h,hl⟩:=h.one hl
 obtain ⟨x3,d3,xs,ds,rfl,rfl,h3,h,hl⟩:=h.one hl
 obtain ⟨x4,d4,xs,ds,rfl,rfl,h4,h,hl⟩:=h.one hl
 obtain ⟨rfl,rfl⟩:=h.zero hl
 exact ⟨_,_,_,_,_,_,_,_,rfl,rfl,h1,h2,h3,h4⟩
theorem cr {C:Addr} {H H':Hp} {s:Addr} {b:Int} {ks:List Kd} (k:Same H H') (h:ShopAt C H s b ks):ShopAt C H' s b ks:=h.keep (fun c o e=>k _ _ e) (fun c C' d fs e=>k _ _ e)
def aS (ks:List Kd) (p:Pq):Bx:=match ks[p.k]? with
 | some k=>nO k p
 | none=>⟨0,0,0,0⟩
theorem cu {ks:List Kd} {p:Pq} {k:Kd} (h:ks[p.k]? = some k):aS ks p=nO k p:=by unfold aS; rw [h]
def onB (ks:List Kd) (W h:Int) (p:Pq):Bool:=!(decide (W < (aS ks p).c) || decide (h < (aS ks p).d))
def qJ (ks:List Kd) (W h:Int) (ps:List Pq) (p:Pq):Bool:=onB ks W h p && (ps.map fun o=>apB (aS ks p) (aS ks o)).all id
def PqS (ks:List Kd) (H:Hp) (v:V) (q:Pq):Prop:=∃a k,v=.ref a∧Sq H a (pqV q)∧ks[q.k]? = some k
def bQ (ks:List Kd) (w h:Int) (d:PyData):Bool:=match cg d with
 | some [k,t,x,y]=>jG ks w h k t x y
 | _=>false
theorem rH (k:Kd) (c:Bool):gQ k c=[V.int (sd1 k c),V.int (sd2 k c)]:=by
 unfold gQ sd1 sd2
 cases c <;> rfl
section
variable {P:Program} {w:World} {K:PySem.W.Frag} {mg:Str→Option Value} {base:Heap}
def AE:Sp:=fun vs H Q _=>∃ (t kl pl a:Addr) (b W h:Int) (ks:List Kd) (ys:List V) (ps:List Pq) (p:Pq) (k:Kd),vs=[.ref t,.int W,.int h,.ref pl,.ref a]∧LS H t b ks kl∧H pl=some (.lst ys)∧Paired (PqS ks H) ys ps∧ys.length≤100∧Sq H a (pqV p)∧ks[p.k]? = some k∧∀H',Same H H'→Q (.bl (qJ ks W h ps p)) H'
def jH:Sp:=fun vs H Q _=>∃ (a1 a2:Addr) (i j k l:Int),vs=[.ref a1,.ref a2]∧H a1=some (.tup [.int i,.int j])∧H a2=some (.tup [.int k,.int l])∧Q (.bl (decide (i < l) && decide (k < j))) H
def fe (C:Addr):Sp:=fun vs H Q _=>∃ (s a:Addr) (b:Int) (ks:List Kd) (p:Pq) (k:Kd),vs=[.ref s,.ref a]∧ShopAt C H s b ks∧Sq H a (pqV p)∧bS ks (.int p.k) (.bl p.c)=true∧ks[p.k]? = some k∧∀ (r r1 r2:Addr) (H':Hp),H' r=some (.tup [.ref r1,.ref r2])→H' r1=some (.tup [.int p.x,.int (p.x + sd1 k p.c)])→H' r2=some (.tup [.int p.y,.int (p.y + sd2 k p.c)])→Same H H'→Q (.ref r) H'
def fQ (C:Addr):Sp:=fun vs H Q _=>∃ (pp s:Addr) (b w h:Int) (ks:List Kd) (v:V) (d:PyData),vs=[.ref s,.int w,.int h,v]∧ShopAt C H s b ks∧Dt pp H v d∧∀H',Same H H'→Q (.bl (bQ ks w h d)) H'
theorem scmeet:FnScope ["one","other"] ["one","other"] (defScope iG):=⟨rfl,rfl,rfl,by decide +kernel,rfl,by decide +kernel,by decide +kernel⟩
theorem pT {f:Addr} {fd:FuncData} (F:Fun K "meet" "meet" iG f fd)  : FnOk P w K mg base CX0 1 f fd ["one","other"] (jH):=by
 refine F.ok scmeet (fun vs H Q E h=>?_) (fun cdv A outer s H vs Q E hr h=>?_)
 ·obtain ⟨a1,a2,i,j,k,l,rfl,_⟩:=h
  rfl
 obtain ⟨a1,a2,i,j,k,l,rfl,h1,h2,q⟩:=h
 have nd:=scmeet.nd
 refine ⟨_,(@af _ _ _ (@ar _ _ _ _ (bV (@aZ _ _ _ _ _ _ _ _ ij (@au _ _ _ _ _ _ _ ix_tup (pv 0) ad (fun _ _=>rfl)) (@au _ _ _ _ _ _ _ ix_tup (pv 1) ad (fun _ _=>rfl)) (az _)) (cF (@aZ _ _ _ _ _ _ _ _ ij (@au _ _ _ _ _ _ _ ix_tup (pv 1) ad (fun _ _=>rfl)) (@au _ _ _ _ _ _ _ ix_tup (pv 0) ad (fun _ _=>rfl)) (az _)))))),?_⟩
 refine ⟨_,rfl,a1,_,0,_,rfl,rfl,SqT.of h1,rfl,_,rfl,a2,_,1,_,rfl,rfl,SqT.of h2,rfl,_,_,rfl,rfl,_,rfl,?_⟩
 refine ck (fun c=>?_) (fun c=>?_)
 ·rw [show decide (i < l)=true from c] at q
  exact ⟨_,rfl,a2,_,0,_,rfl,rfl,SqT.of h2,rfl,_,rfl,a1,_,1,_,rfl,rfl,SqT.of h1,rfl,_,_,rfl,rfl,q⟩
 ·rw [show decide (i < l)=false by simpa using c] at q
  exact q
theorem scspans:FnScope ["shop","piece","kind","turned","x","y","wide","high"] ["shop","piece"] (defScope cQ):=⟨rfl,rfl,rfl,by decide +kernel,rfl,by decide +kernel,by decide +kernel⟩
theorem nR {f C:Addr} {fd:FuncData} (F:Fun K "spans_of" "spans_of" cQ f fd) (T:ShopTxt K C) (MS:Mn P w K mg base C "sides" ["self","kind","turned"] 3 (fb K C)):FnOk P w K mg base CX0 4 f fd ["shop","piece"] (fe C):=by
 refine F.ok scspans (fun vs H Q E h=>?_) (fun cdv A outer s H vs Q E hr h=>?_)
 ·obtain ⟨s,a,b,ks,p,k,rfl,_⟩:=h
  rfl
 obtain ⟨s,a,b,ks,p,k,rfl,S0,hp,ly,hk,q⟩:=h
 have nd:=scspans.nd
 refine ⟨_,(@ae _ _ _ _ _ (@bn _ _ _ _ _ _ (pv 1) (nh rfl (ai (aj (i:=2) nd rfl (Or.inl rfl)) (ai (aj (i:=3) nd rfl (Or.inl rfl)) (ai (aj (i:=4) nd rfl (Or.inl rfl)) (ai (aj (i:=5) nd rfl (Or.inl rfl)) aP))))) rfl rfl rfl) (@ae _ _ _ _ _ (@bn _ _ _ _ _ _ (kB (pv 0) T.cl MS hr (@aa _ _ _ _ _ (pv 2) (@aa _ _ _ _ _ (pv 3) ab rfl) rfl)) (bd rfl (ai (aj (i:=6) nd rfl (Or.inl rfl)) (ai (aj (i:=7) nd rfl (Or.inl rfl)) aP))) rfl rfl rfl) (@af _ _ _ (@ar _ _ _ _ (@aF _ _ _ _ _ (@aa _ _ _ _ _ (@aF _ _ _ _ _ (@aa _ _ _ _ _ (pv 4) (@aa _ _ _ _ _ (@aD _ _ _ _ _ _ _ _ aO (pv 4) (pv 6)) ab rfl) rfl)) (@aa _ _ _ _ _ (@aF _ _ _ _ _ (@aa _ _ _ _ _ (pv 5) (@aa _ _ _ _ _ (@aD _ _ _ _ _ _ _ _ aO (pv 5) (pv 7)) ab rfl) rfl)) ab rfl) rfl)))))),?_⟩
 refine ah (fun σ' H'=>σ'=[some (.ref s),some (.ref a),some (.int p.k),some (.bl p.c),some (.int p.x),some (.int p.y),none,none]∧H=H') (fun R hR=>?_) ?_
 ·exact ⟨_,rfl,a,_,rfl,hp.imp (fun z=>SqL.of z) (fun z=>SqT.of z),rfl,_,_,rfl,_,_,rfl,_,_,rfl,_,_,rfl,rfl,hR _ _ ⟨rfl,rfl⟩⟩
 rintro _ _ ⟨rfl,rfl⟩
 obtain ⟨dx,r0,rs,h1,h2,h3⟩:=id S0
 refine ah (fun σ' H'=>σ'=[some (.ref s),some (.ref a),some (.int p.k),some (.bl p.c),some (.int p.x),some (.int p.y),some (.int (sd1 k p.c)),some (.int (sd2 k p.c))]∧Same H H') (fun R hR=>?_) ?_
 ·refine ⟨_, rfl, s, dx, _, rfl, h1, cU _ _ (by decide +kernel) (by decide +kernel), _, rfl, _, rfl, s, b, ks, .int p.k, .bl p.c, "int", "bool", rfl, S0, Ty.int, Ty.bl, ly, fun i' c' k' r e1 e2 hk' _ hr=>?_⟩
  cases e1
  cases e2
  rw [Int.toNat_natCast,hk] at hk'
  cases hk'
  rw [rH]
  exact ⟨r,_,rfl,SqT.of upd_same,rfl,_,_,rfl,_,_,rfl,rfl,hR _ _ ⟨rfl,Same.new hr⟩⟩
 rintro _ H1 ⟨rfl,s1⟩
 refine ⟨_,rfl,_,rfl,_,rfl,_,_,rfl,rfl,(by show 2≤sizeLine; decide),fun r1 hr1=>?_⟩
 obtain ⟨H2,e2,k2,s2⟩:∃H',upd H1 r1 (.tup [.int p.x,.int (p.x + sd1 k p.c)])=H'∧H' r1=some (.tup [.int p.x,.int (p.x + sd1 k p.c)])∧Same H1 H':=⟨_,rfl,upd_same,Same.new hr1⟩
 rw [show upd H1 r1 _=H2 from e2]
 refine ⟨_,rfl,_,rfl,_,rfl,_,_,rfl,rfl,(by show 2≤sizeLine; decide),fun r2 hr2=>?_⟩
 obtain ⟨H3,e3,k3,s3⟩:∃H',upd H2 r2 (.tup [.int p.y,.int (p.y + sd2 k p.c)])=H'∧H' r2=some (.tup [.int p.y,.int (p.y + sd2 k p.c)])∧Same H2 H':=⟨_,rfl,upd_same,Same.new hr2⟩
 rw [show upd H2 r2 _=H3 from e3]
 refine ⟨(by show 2≤sizeLine; decide),fun r hr'=>?_⟩
 obtain ⟨H4,e4,k4,s4⟩:∃H',upd H3 r (.tup [.ref r1,.ref r2])=H'∧H' r=some (.tup [.ref r1,.ref r2])∧Same H3 H':=⟨_,rfl,upd_same,Same.new hr'⟩
 rw [show upd H3 r _=H4 from e4]
 exact q r r1 r2 H4 k4 (s4 _ _ (s3 _ _ k2)) (s4 _ _ k3) (s1.trans (s2.trans (s3.trans s4)))
theorem scplaced:FnScope ["shop","wide","high","thing"] ["shop","wide","high","thing"] (defScope cC):=⟨rfl,rfl,rfl,by decide +kernel,rfl,by decide +kernel,by decide +kernel⟩
theorem lI {f C:Addr} {tn4:Tok} {fd:FuncData} (F:Fun K "is_placed" "is_placed" cC f fd) (B:Blt mg) (n4:mg "THINGS_OF_A_PIECE" = some (.int 4 tn4)) (DR:Dn P w K mg base "is_row" ["thing"] 1 (gi K)) (DL:Dn P w K mg base "lies_in" ["shop","wide","high","kind","turned","x","y"] 4 (gR K C)):FnOk P w K mg base CX0 5 f fd ["shop","wide","high","thing"] (fQ C):=by
 refine F.ok scplaced (fun vs H Q E h=>?_) (fun cdv A outer s H vs Q E hr h=>?_)
 ·obtain ⟨pp,s,b',w1,h1,ks,v,d,rfl,_⟩:=h
  rfl
 obtain ⟨pp,s,b',w1,h1,ks,v,d,rfl,S,hd,q⟩:=h
 have nd:=scplaced.nd
 refine ⟨_,(@ae _ _ _ _ _ (@aI _ _ _ _ _ _ _ _ (PW.pt (be (@aL _ _ _ _ (@aH _ _ _ (@ao _ _ _ _ _ _ _ _ _ _ DR (hr.mono (by decide)) rfl (@aa _ _ _ _ _ (pv 3) ab rfl) (by decide) rfl rfl) (by intro _; rfl))) (bg (@aB _ _ _ _ _ _ _ _ dw (@ay _ _ _ _ _ _ _ _ _ aK rfl B.len PySem.boot_len (@aa _ _ _ _ _ (pv 3) ab rfl) (by decide) (by decide) rfl rfl) (bj (v:=.int 4) rfl n4 ⟨tn4,rfl⟩) (az _))))) (@af _ _ _ (@ar _ _ _ _ bD)) aA) (@af _ _ _ (@ar _ _ _ _ (@ao _ _ _ _ _ _ _ _ _ _ DL hr rfl (@aa _ _ _ _ _ (pv 0) (@aa _ _ _ _ _ (pv 1) (@aa _ _ _ _ _ (pv 2) (@aa _ _ _ _ _ (@au _ _ _ _ _ _ _ gH (pv 3) ad (fun _ _=>rfl)) (@aa _ _ _ _ _ (@au _ _ _ _ _ _ _ gH (pv 3) ad (fun _ _=>rfl)) (@aa _ _ _ _ _ (@au _ _ _ _ _ _ _ gH (pv 3) ad (fun _ _=>rfl)) (@aa _ _ _ _ _ (@au _ _ _ _ _ _ _ gH (pv 3) ad (fun _ _=>rfl)) ab rfl) rfl) rfl) rfl) rfl) rfl) rfl) (by decide) rfl rfl)))),?_⟩
 refine ah (fun σ' H'=>σ'=[some (.ref s),some (.int w1),some (.int h1),some v]∧Same H H'∧∃ (a:Addr) (xs:List V) (ds:List PyData),v=.ref a∧Sq H a xs∧Dts pp H xs ds∧cg d=some ds∧ds.length=4) (fun R hR=>?_) ?_
 ·have no:∀H',Same H H'→(∀a b c e,cg d≠some [a,b,c,e])→Q (.bl false) H':=fun H' s hn=>by
   have:=q H' s
   rw [show bQ ks w1 h1 d=false by
    unfold bQ
    split
    ·exact absurd ‹_› (hn _ _ _ _)
    ·rfl] at this
   exact this
  rcases hd.row (K:=K) with ⟨er,T1,t1,e1⟩ | ⟨a,xs,ds,T1,er,rfl,hx,dx,t1,e1⟩
  ·refine ⟨_,rfl,v,T1,rfl,t1,fun H1 s1=>⟨_,rfl,?_⟩⟩
   rw [e1]
   exact aY (no H1 s1 (fun a b c e z=>by rw [er] at z; cases z))
  ·refine ⟨_,rfl,.ref a,T1,rfl,t1,fun H1 s1=>⟨_,rfl,?_⟩⟩
   rw [e1]
   refine aM ⟨_,rfl,a,_,rfl,(Sq.same hx s1).imp (fun z=>SqL.of z) (fun z=>SqT.of z),rfl,_,rfl,?_⟩
   have dl:=dx.length
   by_cases h4:ds.length=4
   ·rw [show (!decide (V.int (xs.length:Int)=V.int 4))=false by rw [decide_eq_true (by rw [dl,h4]; rfl)]; rfl]
    exact aM (hR _ _ ⟨rfl,s1,a,xs,ds,rfl,hx,dx,er,h4⟩)
   ·rw [show (!decide (V.int (xs.length:Int)=V.int 4))=true by rw [decide_eq_false (fun z=>h4 (by have:=V.int.inj z; omega))]; rfl]
    exact aY (no H1 s1 (fun a b c e z=>h4 (by rw [er] at z; cases z; rfl)))
 rintro _ H1 ⟨rfl,s1,a,xs,ds,rfl,hx,dx,er,h4⟩
 obtain ⟨x1,x2,x3,x4,d1,d2,d3,d4,rfl,rfl,hd1,hd2,hd3,hd4⟩:=dx.four h4
 obtain ⟨T2,t2⟩:=(hd1.same s1).ty (K:=K)
 obtain ⟨T3,t3⟩:=(hd2.same s1).ty (K:=K)
 obtain ⟨T4,t4⟩:=(hd3.same s1).ty (K:=K)
 obtain ⟨T5,t5⟩:=(hd4.same s1).ty (K:=K)
 have hx1:Sq H1 a [x1,x2,x3,x4]:=Sq.same hx s1
 refine ⟨_,rfl,_,rfl,_,rfl,_,rfl,ixS hx1 rfl ⟨_,rfl,ixS hx1 rfl ⟨_,rfl,ixS hx1 rfl ⟨_,rfl,ixS hx1 rfl ?_⟩⟩⟩⟩
 refine ⟨s,b',ks,w1,h1,x1,x2,x3,x4,T2,T3,T4,T5,rfl,cr s1 S,t2,t3,t4,t5,fun H2 s2=>?_⟩
 have q1:=q H2 (s1.trans s2)
 unfold bQ at q1
 rw [er] at q1
 have e:jG ks w1 h1 d1 d2 d3 d4=dY ks w1 h1 x1 x2 x3 x4:=by
  cases hd1 with
  | int i=>cases hd2 with
   | bl c=>cases hd3 with
    | int x=>cases hd4 with
     | int y=>rfl
     | _=>simp [jG,dY,aN]
    | _=>simp [jG,dY,aN]
   | _=>simp [jG,dY,bS]
  | _=>simp [jG,dY,bS]
 rw [← e]
 exact q1
end
def PqT (ks:List Kd) (H:Hp) (v:V) (q:Pq):Prop:=∃a,v=.ref a∧H a=some (.tup (pqV q))∧(q.k,q.c)∈lyK ks 0∧0≤q.x∧0≤q.y
theorem jI:∀ {ks:List Kd} {i:Nat} {q:Nat×Bool},q∈lyK ks i→i≤q.1∧∃k,ks[q.1 - i]? = some k∧(q.2=false∨aQ k=true)
 | [],_,_,h=>by simp [lyK] at h
 | x :: ks,i,q,h=>by
  rcases List.mem_append.mp (show q∈lyT i x ++ lyK ks (i + 1) from h) with h | h
  ·unfold lyT at h
   rcases List.mem_cons.mp h with rfl | h
   ·exact ⟨Nat.le_refl _,x,by simp,.inl rfl⟩
   ·split at h
    ·rename_i ht
     rw [List.mem_singleton.mp h]
     exact ⟨Nat.le_refl _,x,by simp,.inr ht⟩
    ·simp at h
  ·obtain ⟨h1,k,h2,h3⟩:=jI h
   exact ⟨by omega,k,by rw [show q.1 - i=(q.1 - (i + 1)) + 1 by omega,List.getElem?_cons_succ]; exact h2,h3⟩
def vb (ks:List Kd) (W h:Int) (ps:List Pq):Prop:=∀i p,ps[i]? = some p→qJ ks W h (ps.take i) p=true
theorem rJ {ds:List PyData} (d3:PyData.canLayAll0 ds=true) (d4:PyData.depthAll ds≤1):SeqAt.shaped (.list ds)=true∧(ds=[]→PyData.eqv (.list ds) (.list [])=true)∧(ds≠[]→PyData.eqv (.list ds) (.list [])=false):=by
 refine ⟨?_,fun e=>by subst e; exact PySem.SeqAt.eqv_refl _ rfl,fun e=>?_⟩
 ·unfold SeqAt.shaped
  rw [PyData.canLay0,d3,PyData.depth,decide_eq_true (show PyData.depthAll ds + 1≤64 by omega)]; rfl
 ·cases ds with
  | nil=>exact absurd rfl e
  | cons d r=>rfl
theorem Paired.impS {α β:Type} {R S:α→β→Prop} (k:∀a b,R a b→S a b):∀ {xs:List α} {ys:List β},Paired R xs ys→Paired S xs ys
 | _,_,.nil=>.nil
 | _,_,.cons a r=>.cons (k _ _ a) (Paired.impS k r)
section
variable {P:Program} {w:World} {K:PySem.W.Frag} {mg:Str→Option Value} {base:Heap}
def Bf:Sp:=fun vs H Q _=>∃ (p t kl pl:Addr) (b W h m:Int) (ks:List Kd) (ys:List V) (ps:List Pq),vs=[.ref p,.ref t,.int W,.int h,.ref pl,.int m]∧PotC H p∧LS H t b ks kl∧kl≠p∧1≤ks.length∧ks.length≤8∧(∀k∈ks,Good k)∧0≤b∧1≤W∧W < 10 ^ 58∧1≤h∧h < 10 ^ 58∧0≤m∧m≤20∧pl≠p∧H pl=some (.lst ys)∧Paired (PqT ks H) ys ps∧ys.length≤4∧vb ks W h ps ∧
 ∀ (l:Addr) (zs:List V) (qs:List Pq) (H':Hp),H l=none→l≠p→H' l=some (.lst zs)→Paired (PqT ks H') zs qs→vb ks W h qs→(zs.length:Int)≤ys.length + m→PotC H' p→But p H H'→Q (.ref l) H'
end
theorem Dt.ref_row {p:Addr} {H:Hp} {v:V} {d:PyData} {ds:List PyData} (h:Dt p H v d) (e:cg d=some ds):∃a xs,v=.ref a∧(H a=some (.lst xs)∨H a=some (.tup xs))∧Dts p H xs ds:=by
 cases h <;> simp only [cg,Option.some.injEq,reduceCtorEq] at e
 ·subst e; exact ⟨_,_,rfl,.inl ‹_›,‹_›⟩
 ·subst e; exact ⟨_,_,rfl,.inr ‹_›,‹_›⟩
theorem gU:∀ds:List PyData,ds.length≤wts ds
 | []=>Nat.le_refl _
 | d :: r=>by have:=gU r; have:=va d; rw [List.length_cons,wts]; omega
theorem Dts.get {p:Addr} {H:Hp}:∀ {vs:List V} {ds:List PyData} {i:Nat} {x:V},Dts p H vs ds→vs[i]? = some x→∃d,ds[i]? = some d∧Dt p H x d
 | _,_,0,_,.cons a _,e=>⟨_,rfl,by cases e; exact a⟩
 | _,_,i + 1,_,.cons _ r,e=>by
  obtain ⟨d,h1,h2⟩:=r.get (i:=i) (by simpa using e)
  exact ⟨d,by simpa using h1,h2⟩
theorem iQ {d:PyData} {ds:List PyData} (h:cg d=some ds):wt d=wts ds + 1:=by
 cases d <;> simp only [cg,Option.some.injEq,reduceCtorEq] at h
 ·subst h; rw [wt]
 ·subst h; rw [wt]
def de (o r:Bx):Bool:=(decide (o.a < r.c) && decide (r.a < o.c)) && (decide (o.b < r.d) && decide (r.b < o.d))
def PqD (d:PyData) (p:Pq):Prop:=cg d=some [.int p.k,.bool p.c,.int p.x,.int p.y]
def nS (ks:List Kd) (ps:List Pq):Prop:=∀i p,ps[i]? = some p→∀q∈ps.take i,de (aS ks p) (aS ks q)=false
def pU (ks:List Kd) (w h:Int) (d:PyData):Prop:=∃ds ps,cg d=some ds∧Paired PqD ds ps∧(∀x∈ds,bQ ks w h x=true)∧nS ks ps
theorem Paired.uniq {α β:Type} {R:α→β→Prop} (u:∀a b c,R a b→R a c→b=c):∀ {xs:List α} {ys zs:List β},Paired R xs ys→Paired R xs zs→ys=zs
 | _,_,_,.nil,.nil=>rfl
 | _,_,_,.cons a r,.cons b s=>by rw [u _ _ _ a b,Paired.uniq u r s]
theorem PqD.uniq (d:PyData) (p q:Pq) (h:PqD d p) (h':PqD d q):p=q:=by
 unfold PqD at h h'
 rw [h] at h'
 obtain ⟨a,b,c,e⟩:=p
 obtain ⟨a',b',c',e'⟩:=q
 simp only [Option.some.injEq,List.cons.injEq,PyData.int.injEq,PyData.bool.injEq,and_true] at h'
 obtain ⟨h1,h2,h3,h4⟩:=h'
 have h1:(a:Int)=(a':Int):=h1
 have h1:a=a':=by omega
 subst h1
 have h2:b=b':=h2
 have h3:c=c':=h3
 have h4:e=e':=h4
 subst h2; subst h3; subst h4
 rfl
theorem pV {ks:List Kd} {w h:Int} {d:PyData} (x:bQ ks w h d=true):∃p k,PqD d p∧bS ks (.int p.k) (.bl p.c)=true∧ks[p.k]? = some k∧0≤p.x∧0≤p.y∧p.x + sd1 k p.c≤w∧p.y + sd2 k p.c≤h:=by
 unfold bQ at x
 split at x
 ·rename_i d1 d2 d3 d4 er
  unfold jG at x
  split at x
  ·rename_i i c xx yy
   unfold dY at x
   simp only [Bool.and_eq_true] at x
   obtain ⟨⟨⟨x1,x2⟩,x3⟩,x4⟩:=x
   obtain ⟨i',c',k',e1,e2,i0,hk⟩:=eN x1
   cases e1
   cases e2
   rw [hk] at x4
   have ei:((i.toNat:Nat):Int)=i:=by omega
   have x4:=Bool.and_eq_true_iff.mp x4
   have w1:aN (.int xx) 0=decide (0≤xx):=rfl
   have w2:aN (.int yy) 0=decide (0≤yy):=rfl
   rw [w1] at x2; rw [w2] at x3
   exact ⟨⟨i.toNat,c,xx,yy⟩,k',by unfold PqD; rw [er]; show some [PyData.int i,_,_,_]=some [PyData.int ((i.toNat:Nat):Int),_,_,_]; rw [ei],by show bS ks (.int ((i.toNat:Nat):Int)) _=true; rw [ei]; exact x1,hk,of_decide_eq_true x2,of_decide_eq_true x3,of_decide_eq_true x4.1,of_decide_eq_true x4.2⟩
  ·cases x
 ·cases x
theorem iR {ks:List Kd} {w h:Int}:∀ {ds:List PyData},(∀x∈ds,bQ ks w h x=true)→∃ps,Paired PqD ds ps∧∀p∈ps,∃k,bS ks (.int p.k) (.bl p.c)=true∧ks[p.k]? = some k∧0≤p.x∧0≤p.y∧p.x + sd1 k p.c≤w∧p.y + sd2 k p.c≤h
 | [],_=>⟨[],.nil,fun p hp=>by simp at hp⟩
 | d :: ds,hh=>by
  obtain ⟨p,k,h1,h2⟩:=pV (hh d List.mem_cons_self)
  obtain ⟨ps,g1,g2⟩:=iR (fun x hx=>hh x (List.mem_cons_of_mem _ hx))
  refine ⟨p :: ps,.cons h1 g1,fun q hq=>?_⟩
  rcases List.mem_cons.mp hq with rfl | hq
  ·exact ⟨k,h2⟩
  ·exact g2 q hq
theorem Dt.pq {p:Addr} {H:Hp} {v:V} {d:PyData} {q:Pq} (h:Dt p H v d) (e:PqD d q):∃a,v=.ref a∧Sq H a (pqV q):=by
 obtain ⟨a,xs,rfl,hx,dx⟩:=h.ref_row e
 obtain ⟨x1,x2,x3,x4,d1,d2,d3,d4,rfl,e2,h1,h2,h3,h4⟩:=dx.four rfl
 cases e2
 cases h1; cases h2; cases h3; cases h4
 exact ⟨a,rfl,hx⟩
def SpAt (H:Hp) (v:V) (g:Bx):Prop:=∃r r1 r2,v=.ref r∧H r=some (.tup [.ref r1,.ref r2])∧H r1=some (.tup [.int g.a,.int g.c])∧H r2=some (.tup [.int g.b,.int g.d])
theorem SpAt.same {H H':Hp} (s:Same H H') {v:V} {g:Bx} (h:SpAt H v g):SpAt H' v g:=by
 obtain ⟨r,r1,r2,e,h1,h2,h3⟩:=h
 exact ⟨r,r1,r2,e,s _ _ h1,s _ _ h2,s _ _ h3⟩
section
variable {P:Program} {w:World} {K:PySem.W.Frag} {mg:Str→Option Value} {base:Heap}
def rK:Sp:=fun vs H Q _=>∃ (w h:Int),vs=[.int w,.int h]∧1≤w∧1≤h∧Q .non H
def gW (C:Addr):Sp:=fun vs H Q _=>∃ (pp s:Addr) (b w h:Int) (ks:List Kd) (v:V) (d:PyData),vs=[.ref s,.int w,.int h,v]∧ShopAt C H s b ks∧1≤w∧1≤h∧Dt pp H v d∧wt d≤30000∧∀ (r:Bool) (H':Hp),(r=true↔pU ks w h d)→Same H H'→Q (.bl r) H'
theorem sccplate:FnScope ["wide","high"] ["wide","high"] (defScope bN):=⟨rfl,rfl,rfl,by decide +kernel,rfl,by decide +kernel,by decide +kernel⟩
theorem lJ {f:Addr} {fd:FuncData} (F:Fun K "check_plate" "check_plate" bN f fd) (DW:Dn P w K mg base "is_whole" ["thing","least"] 1 (cH K)):FnOk P w K mg base CX0 2 f fd ["wide","high"] (rK):=by
 refine F.ok sccplate (fun vs H Q E h=>?_) (fun cdv A outer s H vs Q E hr h=>?_)
 ·obtain ⟨w1,h1,rfl,_⟩:=h
  rfl
 obtain ⟨w1,h1,rfl,w0,h0,q⟩:=h
 have nd:=sccplate.nd
 refine ⟨_,(@af _ _ _ (@aI _ _ _ _ _ _ _ _ (PW.pt (be (@aL _ _ _ _ (@aH _ _ _ (@ao _ _ _ _ _ _ _ _ _ _ DW hr rfl (@aa _ _ _ _ _ (pv 0) (@aa _ _ _ _ _ ad ab rfl) rfl) (by decide) rfl rfl) (by intro _; rfl))) (bg (@aL _ _ _ _ (@aH _ _ _ (@ao _ _ _ _ _ _ _ _ _ _ DW hr rfl (@aa _ _ _ _ _ (pv 1) (@aa _ _ _ _ _ ad ab rfl) rfl) (by decide) rfl rfl) (by intro _; rfl)))))) (@af _ _ _ ff) aA)),?_⟩
 refine ⟨_,rfl,.int w1,"int",1,rfl,Ty.int,_,rfl,?_⟩
 rw [show aN (.int w1) 1=true from decide_eq_true w0]
 refine aM ⟨_,rfl,.int h1,"int",1,rfl,Ty.int,_,rfl,?_⟩
 rw [show aN (.int h1) 1=true from decide_eq_true h0]
 exact aM q
theorem scislay:FnScope ["shop","wide","high","thing","spans","at","columns","rows","other_columns","other_rows"] ["shop","wide","high","thing"] (defScope bH):=⟨rfl,rfl,rfl,by decide +kernel,rfl,by decide +kernel,by decide +kernel⟩
set_option maxHeartbeats 1000000 in
theorem nT {f C:Addr} {fd:FuncData} (F:Fun K "is_laying" "is_laying" bH f fd) (B:Blt mg) (DCP:Dn P w K mg base "check_plate" ["wide","high"] 2 (rK)) (DR:Dn P w K mg base "is_row" ["thing"] 1 (gi K)) (DPl:Dn P w K mg base "is_placed" ["shop","wide","high","thing"] 5 (fQ C)) (DSn:Dn P w K mg base "spans_of" ["shop","piece"] 4 (fe C)) (DM:Dn P w K mg base "meet" ["one","other"] 1 (jH)):FnOk P w K mg base CX0 6 f fd ["shop","wide","high","thing"] (gW C):=by
 refine F.ok scislay (fun vs H Q E h=>?_) (fun cdv A outer s H vs Q E hr h=>?_)
 ·obtain ⟨pp,s,b',w1,h1,ks,v,d,rfl,_⟩:=h
  rfl
 obtain ⟨pp,s,b',w1,h1,ks,v,d,rfl,S,hw,hh,hd,wd,q⟩:=h
 have nd:=scislay.nd
 refine ⟨_,(@ae _ _ _ _ _ (@cn _ _ _ _ (@ao _ _ _ _ _ _ _ _ _ _ DCP (hr.mono (by decide)) rfl (@aa _ _ _ _ _ (pv 1) (@aa _ _ _ _ _ (pv 2) ab rfl) rfl) (by decide) rfl rfl) rfl) (@ae _ _ _ _ _ (@aI _ _ _ _ _ _ _ _ (PW.pt (be (@aL _ _ _ _ (@aH _ _ _ (@ao _ _ _ _ _ _ _ _ _ _ DR (hr.mono (by decide)) rfl (@aa _ _ _ _ _ (pv 3) ab rfl) (by decide) rfl rfl) (by intro _; rfl))) (bg (@aL _ _ _ _ (@aH _ _ _ (@ay _ _ _ _ _ _ _ _ _ (lq rfl) rfl B.all PyProof.Rows.boot_all (@aa _ _ _ _ _ (eY (own:=["piece"]) (cs:=["shop","wide","high"]) (cap:=[0,1,2]) rfl (fz (pv 3)) (bm (sc:=defScope bH) (N:=["shop","wide","high","thing","spans","at","columns","rows","other_columns","other_rows"]) rfl rfl (by decide +kernel)) (fun _ _ _ _ _=>aj (i:=0) (by show List.Nodup (["piece","shop","wide","high"]:List Str) ; decide +kernel) rfl (Or.inl rfl) (Or.inr rfl)) (fun _ _ _ _ _=>bX) (fun _ _ _ _ _=>(@ao _ _ _ _ _ _ _ _ _ _ DPl hr rfl (@aa _ _ _ _ _ (pv 1) (@aa _ _ _ _ _ (pv 2) (@aa _ _ _ _ _ (pv 3) (@aa _ _ _ _ _ (pv 0) ab rfl) rfl) rfl) rfl) (by decide) rfl rfl))) ab rfl) (by decide) (by decide) rfl rfl) (by intro _; rfl)))))) (@af _ _ _ (@ar _ _ _ _ bD)) aA) (@ae _ _ _ _ _ (dG (i:=4) (own:=["piece"]) (cs:=["shop"]) (cap:=[0]) rfl nd rfl rfl rfl (fz (pv 3)) (bm (sc:=defScope bH) (N:=["shop","wide","high","thing","spans","at","columns","rows","other_columns","other_rows"]) rfl rfl (by decide +kernel)) (fun _ _ _ _ _=>aj (i:=0) (by show List.Nodup (["piece","shop"]:List Str) ; decide +kernel) rfl (Or.inl rfl) (Or.inr rfl)) (fun _ _ _ _ _=>bX) (fun _ _ _ _ _=>(@ao _ _ _ _ _ _ _ _ _ _ DSn (hr.mono (by decide)) rfl (@aa _ _ _ _ _ (pv 1) (@aa _ _ _ _ _ (pv 0) ab rfl) rfl) (by decide) rfl rfl))) (@ae _ _ _ _ _ (@bO _ _ _ _ _ _ _ _ PassesOwn.never rfl (kA rfl B.enumerate (@aa _ _ _ _ _ (pv 4) ab rfl)) (bd rfl (ai (aj (i:=5) nd rfl (Or.inl rfl)) (ai (bd rfl (ai (aj (i:=6) nd rfl (Or.inl rfl)) (ai (aj (i:=7) nd rfl (Or.inl rfl)) aP))) aP))) (@af _ _ _ (@bO _ _ _ _ _ _ _ _ PassesOwn.never rfl (bR (@dD _ _ _ _ _ _ _ _ _ _ kn (pv 4) gF (dC (pv 5)))) (bd rfl (ai (aj (i:=8) nd rfl (Or.inl rfl)) (ai (aj (i:=9) nd rfl (Or.inl rfl)) aP))) (@af _ _ _ (@aI _ _ _ _ _ _ _ _ (PW.pt (jc (@aH _ _ _ (@ao _ _ _ _ _ _ _ _ _ _ DM (hr.mono (by decide)) rfl (@aa _ _ _ _ _ (pv 6) (@aa _ _ _ _ _ (pv 8) ab rfl) rfl) (by decide) rfl rfl) (by intro _; rfl)) (gy (@aH _ _ _ (@ao _ _ _ _ _ _ _ _ _ _ DM (hr.mono (by decide)) rfl (@aa _ _ _ _ _ (pv 7) (@aa _ _ _ _ _ (pv 9) ab rfl) rfl) (by decide) rfl rfl) (by intro _; rfl))))) (@af _ _ _ (@ar _ _ _ _ bD)) aA)) (by intro _; rfl))) (by intro _; rfl)) (@af _ _ _ (@ar _ _ _ _ bD)))))),?_⟩
 have sz:(40000:Nat) < sizeLine:=by decide
 refine ah (fun σ' H'=>σ'=[some (.ref s),some (.int w1),some (.int h1),some v,none,none,none,none,none,none]∧H=H') (fun R hR=>?_) ?_
 ·exact ⟨_,rfl,_,rfl,w1,h1,rfl,hw,hh,hR _ _ ⟨rfl,rfl⟩⟩
 rintro _ _ ⟨rfl,rfl⟩
 refine ah (fun σ' H'=>∃ (a:Addr) (xs:List V) (ds:List PyData) (ps:List Pq),v=.ref a∧σ'=[some (.ref s),some (.int w1),some (.int h1),some (.ref a),none,none,none,none,none,none]∧Same H H'∧Sq H a xs∧Dts pp H xs ds∧cg d=some ds∧Paired PqD ds ps∧(∀x∈ds,bQ ks w1 h1 x=true)∧∀p∈ps,∃k,bS ks (.int p.k) (.bl p.c)=true∧ks[p.k]? = some k∧0≤p.x∧0≤p.y∧p.x + sd1 k p.c≤w1∧p.y + sd2 k p.c≤h1) (fun R hR=>?_) ?_
 ·rcases hd.row (K:=K) with ⟨er,T1,t1,e1⟩ | ⟨a,xs,ds,T1,er,rfl,hx,dx,t1,e1⟩
  ·refine ⟨_,rfl,v,T1,rfl,t1,fun H1 s1=>⟨_,rfl,?_⟩⟩
   rw [e1]
   exact aY (q false H1 ⟨fun z=>(by cases z),fun ⟨ds,_,e,_⟩=>by rw [er] at e; cases e⟩ s1)
  ·refine ⟨_,rfl,.ref a,T1,rfl,t1,fun H1 s1=>⟨_,rfl,?_⟩⟩
   rw [e1]
   have dl:=dx.length
   have wl:=gU ds
   have wd':wts ds + 1=wt d:=(iQ er).symm
   refine aM ?_
   dsimp only [ut,tB,tCB,kh,kY]
   refine cT (j:=3) (a:=a) (xs:=xs) rfl (Sq.same hx s1) (fun i us Hx=>Same H1 Hx∧us=((ds.take i).map (bQ ks w1 h1)).map V.bl) (fun i us Hx _ ⟨sx,_⟩ o e=>sx _ _ e) ⟨Same.refl _,rfl⟩ ?_ ?_
   ·rintro i x us Hx hi ⟨sx,rfl⟩
    have hin:i < xs.length:=(List.getElem?_eq_some_iff.mp hi).1
    obtain ⟨dd,hdd,hxx⟩:=dx.get hi
    refine ⟨by rw [List.length_map,List.length_map,List.length_take]; omega,leS.set rfl,bM ?_⟩
    refine ⟨_,rfl,_,rfl,_,rfl,_,rfl,pp,s,b',w1,h1,ks,x,dd,rfl,cr (s1.trans sx) S,hxx.same (s1.trans sx),fun H3 s3=>Nx.of hin ⟨sx.trans s3,?_⟩⟩
    rw [List.take_add_one,hdd]
    simp only [Option.toList_some,List.map_append,List.map_cons,List.map_nil]
   ·rintro us Hx ⟨sx,rfl⟩
    rw [dl,List.take_length]
    refine ⟨by rw [List.length_map,List.length_map]; omega,fun l hl=>⟨l,_,rfl,SqL.of upd_same,_,rfl,?_⟩⟩
    have sl:=s1.trans (sx.trans (Same.new hl (o:=.lst ((ds.map (bQ ks w1 h1)).map V.bl))))
    cases ha:(ds.map (bQ ks w1 h1)).all id with
    | false =>
     refine aY (q false _ ⟨fun z=>(by cases z),fun ⟨ds',_,e,_,hp,_⟩=>?_⟩ sl)
     rw [er] at e
     cases e
     rw [List.all_eq_false] at ha
     obtain ⟨z,hz,hz2⟩:=ha
     obtain ⟨x,hx,rfl⟩:=List.mem_map.mp hz
     exact absurd (hp x hx) hz2
    | true =>
     have hall:∀x∈ds,bQ ks w1 h1 x=true:=fun x hx=>(List.all_eq_true.mp ha) _ (List.mem_map.mpr ⟨x,hx,rfl⟩)
     obtain ⟨ps,g1,g2⟩:=iR hall
     exact aM (hR _ _ ⟨a,xs,ds,ps,rfl,rfl,sl,hx,dx,er,g1,hall,g2⟩)
 rintro _ H1 ⟨a,xs,ds,ps,rfl,rfl,s1,hx,dx,er,pd,hall,hps⟩
 have dl:=dx.length
 have wl:=gU ds
 have wd':wts ds + 1=wt d:=(iQ er).symm
 have pl:=Paired.length pd
 have lay_iff:pU ks w1 h1 d↔nS ks ps:=⟨fun ⟨ds',ps',e,pd',_,ok⟩=>by
  rw [er] at e
  cases e
  rw [Paired.uniq PqD.uniq pd pd']
  exact ok,fun ok=>⟨ds,ps,er,pd,hall,ok⟩⟩
 refine ah (fun σ' H'=>∃ (sl:Addr) (ss:List V),σ'=[some (.ref s),some (.int w1),some (.int h1),some (.ref a),some (.ref sl),none,none,none,none,none]∧H' sl=some (.lst ss)∧Paired (SpAt H') ss (ps.map (aS ks))∧Same H H') (fun R hR=>?_) ?_
 ·refine cT (K:=K) (j:=3) rfl (Sq.same hx s1) (fun i us Hx=>Same H1 Hx∧Paired (SpAt Hx) us ((ps.take i).map (aS ks))) (fun i us Hx _ ⟨sx,_⟩ o e=>sx _ _ e) ⟨Same.refl _,.nil⟩ ?_ ?_
  ·rintro i x us Hx hi ⟨sx,pu⟩
   have hin:i < xs.length:=(List.getElem?_eq_some_iff.mp hi).1
   obtain ⟨dd,hdd,hxx⟩:=dx.get hi
   obtain ⟨p0,hp0,hpq⟩:=Paired.getR pd hdd
   obtain ⟨ap,rfl,hap⟩:=hxx.pq hpq
   obtain ⟨k0,g1,g2,g3⟩:=hps p0 (List.mem_of_getElem? hp0)
   have ul:=Paired.length pu
   rw [List.length_map,List.length_take] at ul
   refine ⟨by omega,leS.set rfl,bM ?_⟩
   refine ⟨_,rfl,_,rfl,s,ap,b',ks,p0,k0,rfl,cr (s1.trans sx) S,hap.same (s1.trans sx),g1,g2,fun r r1 r2 H3 e1 e2 e3 s3=>Nx.of hin ⟨sx.trans s3,?_⟩⟩
   rw [List.take_add_one,hp0]
   simp only [Option.toList_some,List.map_append,List.map_cons,List.map_nil]
   refine eO (Paired.mapP pu fun v g h=>h.same s3) (.cons ⟨r,r1,r2,rfl,e1,?_,?_⟩ .nil)
   ·rw [cu g2]; exact e2
   ·rw [cu g2]; exact e3
  ·rintro us Hx ⟨sx,pu⟩
   have ul:=Paired.length pu
   rw [List.length_map,List.length_take] at ul
   rw [show xs.length=ps.length by omega,List.take_length] at pu
   refine ⟨by omega,fun l hl=>?_⟩
   obtain ⟨Hy,e2,k2,s2⟩:∃H',upd Hx l (.lst us)=H'∧H' l=some (.lst us)∧Same Hx H':=⟨_,rfl,upd_same,Same.new hl⟩
   rw [show upd Hx l _=Hy from e2]
   exact hR _ _ ⟨l,us,rfl,k2,Paired.mapP pu fun v g h=>h.same s2,s1.trans (sx.trans s2)⟩
 rintro _ H2 ⟨sl,ss,rfl,hsl,pss,s02⟩
 have ssl:=Paired.length pss
 rw [List.length_map] at ssl
 have z4:ss.length < sizeLine:=by omega
 refine ah (fun σ' H'=>∃v5 v6 v7 v8 v9:Option V,σ'=[some (.ref s),some (.int w1),some (.int h1),some (.ref a),some (.ref sl),v5,v6,v7,v8,v9]∧Same H2 H'∧nS ks ps) (fun R hR=>?_) ?_
 ·refine ⟨_,rfl,sl,ss,rfl,.inl ⟨hsl,iy (f:=.lst) (fun _ _ e=>by cases e; rfl) (l:=sl) (xs:=ss) (fun i σ' H'=>∃v5 v6 v7 v8 v9:Option V,σ'=[some (.ref s),some (.int w1),some (.int h1),some (.ref a),some (.ref sl),v5,v6,v7,v8,v9]∧Same H2 H'∧∀j p,j < i→ps[j]? = some p→∀q∈ps.take j,de (aS ks p) (aS ks q)=false) ⟨_,_,_,_,_,rfl,Same.refl _,fun j p hj=>absurd hj (Nat.not_lt_zero _)⟩ (fun i σ Hx ⟨_,_,_,_,_,_,sx,_⟩=>sx _ _ hsl) ?_ (fun σ Hx ⟨v5,v6,v7,v8,v9,e,sx,ok⟩=>hR _ _ ⟨v5,v6,v7,v8,v9,e,sx,fun j p hp=>ok j p (by rw [ssl]; exact (List.getElem?_eq_some_iff.mp hp).1) hp⟩)⟩⟩
  rintro i x pt σ Hx hx' hp' ⟨v5,v6,v7,v8,v9,rfl,sx,okj⟩
  obtain ⟨g,hg,r,r1,r2,rfl,u1,u2,u3⟩:=Paired.getR pss hx'
  rw [List.getElem?_map] at hg
  obtain ⟨p0,hp0,rfl⟩:=Option.map_eq_some_iff.mp hg
  obtain ⟨Hy,e3,k3,s3⟩:∃H',upd Hx pt (.tup [.int i,.ref r])=H'∧H' pt=some (.tup [.int i,.ref r])∧Same Hx H':=⟨_,rfl,upd_same,Same.new hp'⟩
  rw [show upd Hx pt _=Hy from e3]
  have s2y:=sx.trans s3
  refine ⟨pt,_,rfl,SqT.of k3,rfl,_,_,rfl,_,_,rfl,r,_,rfl,SqT.of (s2y _ _ u1),rfl,_,_,rfl,_,_,rfl,rfl,rfl,?_⟩
  refine ⟨_,rfl,_,rfl,_,rfl,sl,_,rfl,SqL.of (s2y _ _ hsl),fun l hl=>?_⟩
  obtain ⟨Hz,e4,k4,s4⟩:∃H',upd Hy l (.lst (cz ss none (some (i:Int))))=H'∧H' l=some (.lst (cz ss none (some (i:Int))))∧Same Hy H':=⟨_,rfl,upd_same,Same.new hl⟩
  rw [show upd Hy l _=Hz from e4]
  have ec:cz ss none (some (i:Int))=ss.take i:=lj ss i
  have k4:Hz l=some (.lst (ss.take i)):=by rw [k4,ec]
  have s2z:=s2y.trans s4
  refine ⟨l,rfl,⟨_,SqL.of k4⟩,bW (xs:=ss.take i) (fun j σ' H'=>∃v8 v9:Option V,σ'=[some (.ref s),some (.int w1),some (.int h1),some (.ref a),some (.ref sl),some (.int i),some (.ref r1),some (.ref r2),v8,v9]∧Same Hz H'∧∀q∈ps.take j,de (aS ks p0) (aS ks q)=false) ⟨_,_,rfl,Same.refl _,fun q hq=>by simp at hq⟩ (fun j σ Hw _ ⟨_,_,_,sw,_⟩=>SqL.of (sw _ _ k4)) ?_ ?_⟩
  ·rintro j x σ Hw hj ⟨v8,v9,rfl,sw,okq⟩
   have hjl:j < (ss.take i).length:=(List.getElem?_eq_some_iff.mp hj).1
   rw [List.length_take] at hjl
   have hj':ss[j]? = some x:=by rw [List.getElem?_take_of_lt (by omega)] at hj; exact hj
   obtain ⟨g,hg,o,o1,o2,rfl,f1,f2,f3⟩:=Paired.getR pss hj'
   rw [List.getElem?_map] at hg
   obtain ⟨q0,hq0,rfl⟩:=Option.map_eq_some_iff.mp hg
   have s2w:=s2z.trans sw
   refine ⟨o,_,rfl,SqT.of (s2w _ _ f1),rfl,_,_,rfl,_,_,rfl,rfl,?_⟩
   have stepOk:de (aS ks p0) (aS ks q0)=false→∀q∈ps.take (j + 1),de (aS ks p0) (aS ks q)=false:=fun hov q hq=>by
    rw [List.take_add_one,hq0] at hq
    rcases List.mem_append.mp hq with hq | hq
    ·exact okq q hq
    ·rw [List.mem_singleton.mp hq]; exact hov
   refine ⟨_,rfl,_,rfl,r1,o1,_,_,_,_,rfl,s2w _ _ u2,s2w _ _ f2,_,rfl,?_⟩
   cases c1:(decide ((aS ks p0).a < (aS ks q0).c) && decide ((aS ks q0).a < (aS ks p0).c)) with
   | false =>
    exact aM (aM ⟨_,_,rfl,sw,stepOk (by unfold de; rw [c1]; rfl)⟩)
   | true =>
    refine aY ⟨_,rfl,_,rfl,r2,o2,_,_,_,_,rfl,s2w _ _ u3,s2w _ _ f3,_,rfl,?_⟩
    cases c2:(decide ((aS ks p0).b < (aS ks q0).d) && decide ((aS ks q0).b < (aS ks p0).d)) with
    | false=>exact aM ⟨_,_,rfl,sw,stepOk (by unfold de; rw [c1,c2]; rfl)⟩
    | true =>
     refine aY (q false _ ⟨fun z=>(by cases z),fun ld=>?_⟩ (s02.trans s2w))
     have:=(lay_iff.mp ld) i p0 hp0 q0 (List.mem_of_getElem? (show (ps.take i)[j]? = some q0 by rw [List.getElem?_take_of_lt (by omega)]; exact hq0))
     unfold de at this
     rw [c1,c2] at this
     cases this
  ·rintro σ Hw ⟨v8,v9,rfl,sw,okq⟩
   refine ⟨_,_,_,_,_,rfl,s2z.trans sw,fun j p hj hp=>?_⟩
   rcases Nat.lt_or_eq_of_le (Nat.le_of_lt_succ hj) with hj | rfl
   ·exact okj j p hj hp
   ·rw [hp0] at hp
    cases hp
    have:(ss.take j).length=j:=by rw [List.length_take]; have:=(List.getElem?_eq_some_iff.mp hx').1; omega
    rw [this] at okq
    exact okq
 rintro _ H3 ⟨v5,v6,v7,v8,v9,rfl,s23,ok⟩
 exact q true H3 ⟨fun _=>lay_iff.mpr ok,fun _=>rfl⟩ (s02.trans s23)
end
inductive Tr where
 | rest
 | piece (i:Nat) (c:Bool) (x y:Int)
 | cut (dn:Bool) (p:Int) (l r:Tr)
def TrV (H:Hp):Tr→V→Prop
 | .rest,v=>∃a,v=.ref a∧H a=some (.tup [.str "rest"])
 | .piece i c x y,v=>∃a,v=.ref a∧H a=some (.tup [.str "piece",.int i,.bl c,.int x,.int y])
 | .cut dn p l r,v=>∃a x y,v=.ref a∧H a=some (.tup [.str (if dn=true then "down" else "across"),.int p,x,y])∧TrV H l x∧TrV H r y
theorem TrV.keep {H H':Hp} (k:∀a xs,H a=some (.tup xs)→H' a=some (.tup xs)):∀ (t:Tr) {v:V},TrV H t v→TrV H' t v
 | .rest,_,⟨a,e,h⟩=>⟨a,e,k _ _ h⟩
 | .piece ..,_,⟨a,e,h⟩=>⟨a,e,k _ _ h⟩
 | .cut _ _ l r,_,⟨a,x,y,e,h,h1,h2⟩=>⟨a,x,y,e,k _ _ h,TrV.keep k l h1,TrV.keep k r h2⟩
def lvN:Tr→Nat
 | .cut _ _ l r=>lvN l + lvN r
 | _=>1
def dT:Tr→Nat
 | .cut _ _ l r=>max (dT l) (dT r) + 1
 | _=>0
def okU (b:Int) (ks:List Kd):Int→Int→Tr→Prop
 | _,_,.rest=>True
 | w,h,.piece i c x y=>∃k,ks[i]? = some k∧(i,c)∈lyK ks 0∧0≤x∧0≤y∧x + sd1 k c≤w∧y + sd2 k c≤h
 | w,h,.cut dn p l r=>1≤p∧(if dn=true then p + b < w∧okU b ks p h l∧okU b ks (w - p - b) h r else p + b < h∧okU b ks w p l∧okU b ks w (h - p - b) r)
def pcT (b:Int):Tr→Int→Int→List Pq
 | .rest,_,_=>[]
 | .piece i c px py,x,y=>[⟨i,c,x + px,y + py⟩]
 | .cut dn p l r,x,y=>pcT b l x y ++ (if dn=true then pcT b r (x + (p + b)) y else pcT b r x (y + (p + b)))
theorem kI {k:Kd} {c:Bool} (hc:c=false∨aQ k=true):∀ {ks:List Kd} {i j:Nat},ks[i]? = some k→(j + i,c)∈lyK ks j
 | [],i,j,h=>by simp at h
 | x :: ks,0,j,h=>by
  cases h
  refine List.mem_append.mpr (.inl ?_)
  unfold lyT
  cases c with
  | false=>exact List.mem_cons_self
  | true =>
   rw [if_pos (hc.resolve_left (by decide))]
   exact List.mem_cons_of_mem _ (List.mem_singleton.mpr rfl)
 | x :: ks,i + 1,j,h=>by
  have:=kI hc (ks:=ks) (i:=i) (j:=j + 1) (by simpa using h)
  rw [show j + (i + 1)=j + 1 + i by omega]
  exact List.mem_append.mpr (.inr this)
theorem nU {ks:List Kd} {i:Nat} {c:Bool} {k:Kd} (h:bS ks (.int i) (.bl c)=true) (hk:ks[i]? = some k):(i,c)∈lyK ks 0:=by
 have h:(decide (0≤(i:Int)) && match ks[(i:Int).toNat]? with
  | some k=>!c || aQ k
  | none=>false)=true:=h
 rw [Int.toNat_natCast,hk] at h
 have h:=(Bool.and_eq_true_iff.mp h).2
 have h:(!c || aQ k)=true:=h
 have:=kI (c:=c) (k:=k) (by cases c <;> simp_all) (ks:=ks) (i:=i) (j:=0) hk
 simpa using this
theorem pW {p q:Pq} (h:pqV p=pqV q):p=q:=by
 obtain ⟨a,b,c,d⟩:=p
 obtain ⟨a',b',c',d'⟩:=q
 unfold pqV at h
 simp only [List.cons.injEq,V.int.injEq,V.bl.injEq,and_true] at h
 obtain ⟨h1,h2,h3,h4⟩:=h
 have h1:a=a':=by omega
 rw [h1,h2,h3,h4]
def PzP (ks:List Kd) (H:Hp) (a:Addr):Prop:=∃p k,H a=some (.tup (pqV p))∧bS ks (.int p.k) (.bl p.c)=true∧ks[p.k]? = some k
theorem PzP.same {ks:List Kd} {H H':Hp} {a:Addr} (s:Same H H') (h:PzP ks H a):PzP ks H' a:=by
 obtain ⟨p,k,h1,h2⟩:=h
 exact ⟨p,k,s _ _ h1,h2⟩
def Pts (b:Int) (as:List Addr) (g:Addr→Int×Int) (r:Int):Prop:=(∃a∈as,(g a).2≤r)∧(∃a∈as,r + b≤(g a).1)∧∀a∈as,(g a).2≤r∨r + b≤(g a).1
theorem df {g:Addr→Int×Int}:∀ {as:List Addr},(as.map fun a=>[(g a).1,(g a).2]).Pairwise (fun x y=>bC y x=false)→as.Pairwise fun x y=>(g x).1≤(g y).1
 | [],_=>List.Pairwise.nil
 | a :: r,h=>by
  rw [List.map_cons,List.pairwise_cons] at h
  rw [List.pairwise_cons]
  refine ⟨fun y hy=>?_,df h.2⟩
  have:=h.1 _ (List.mem_map.mpr ⟨y,hy,rfl⟩)
  have this:(if (g y).1=(g a).1 then bC [(g y).2] [(g a).2] else decide ((g y).1 < (g a).1))=false:=this
  split at this
  ·omega
  ·have:=of_decide_eq_false this
   omega
theorem iS {b:Int} {g:Addr→Int×Int} (b0:0≤b):∀ (r0:List Addr) (z:Int) (p:Int),(∀a∈r0,(g a).1 < (g a).2)→r0.Pairwise (fun x y=>(g x).1≤(g y).1)→z≤p→(∃a∈r0,p + b≤(g a).1)→(∀a∈r0,(g a).2≤p∨p + b≤(g a).1)→∃ (i:Nat) (a:Addr),r0[i]? = some a∧(∀c∈r0.take i,(g c).2≤p)∧p + b≤(g a).1
 | [],_,_,_,_,_,h,_=>by obtain ⟨a,ha,_⟩:=h; simp at ha
 | a :: r,z,p,lt,so,hz,he,al=>by
  rcases al a List.mem_cons_self with h | h
  ·obtain ⟨i,c,h1,h2,h3⟩:=iS b0 r z p (fun x hx=>lt x (List.mem_cons_of_mem _ hx)) (List.pairwise_cons.mp so).2 hz (by
    obtain ⟨x,hx,hp⟩:=he
    rcases List.mem_cons.mp hx with rfl | hx
    ·have:=lt x List.mem_cons_self
     omega
    ·exact ⟨x,hx,hp⟩) (fun x hx=>al x (List.mem_cons_of_mem _ hx))
   refine ⟨i + 1,c,by simpa using h1,fun x hx=>?_,h3⟩
   rw [List.take_succ_cons] at hx
   rcases List.mem_cons.mp hx with rfl | hx
   ·exact h
   ·exact h2 x hx
  ·exact ⟨0,a,rfl,fun x hx=>by simp at hx,h⟩
section
variable {P:Program} {w:World} {K:PySem.W.Frag} {mg:Str→Option Value} {base:Heap}
def gX:Sp:=fun vs H Q _=>∃ (b:Int) (l:Addr) (as:List Addr) (g:Addr→Int×Int),vs=[.int b,.ref l]∧0≤b∧H l=some (.lst (as.map V.ref))∧as≠[]∧as.length < 64∧(∀a∈as,(g a).1 < (g a).2)∧(∀a∈as,H a=some (.tup [.int (g a).1,.int (g a).2]))∧∀H',Same H H'→((∀r,¬ Pts b as g r)→Q .non H')∧∀r,Pts b as g r→Q (.int r) H'
def ee:Sp:=fun vs H Q _=>∃ (x y:Int) (l:Addr) (as:List Addr), vs=[.int x, .int y, .ref l]∧H l=some (.lst (as.map V.ref))∧(∀a∈as, ∃p, H a=some (.tup (pqV p)))∧∀ (r:Addr) (H':Hp), (as=[]→H' r=some (.tup [.str "rest"]))→(∀a0 r0 p, as=a0 :: r0→H a0=some (.tup (pqV p))→H' r=some (.tup [.str "piece", .int p.k, .bl p.c, .int (p.x - x), .int (p.y - y)]))→Same H H'→Q (.ref r) H'
theorem scplace:FnScope ["blade","spans","ordered","reach","start","end"] ["blade","spans"] (defScope bo):=⟨rfl,rfl,rfl,by decide +kernel,rfl,by decide +kernel,by decide +kernel⟩
theorem nV {f:Addr} {fd:FuncData} (F:Fun K "parting_place" "parting_place" bo f fd) (B:Blt mg):FnOk P w K mg base CX0 1 f fd ["blade","spans"] (gX):=by
 refine F.ok scplace (fun vs H Q E h=>?_) (fun cdv A outer s H vs Q E hr h=>?_)
 ·obtain ⟨b,l,as,g,rfl,_⟩:=h
  rfl
 obtain ⟨b,l,as,g,rfl,b0,hl,ne,l64,glt,hg,q⟩:=h
 have nd:=scplace.nd
 refine ⟨_,(@ae _ _ _ _ _ (@aE _ _ 2 _ _ _ _ nd rfl (Or.inl rfl) (@ay _ _ _ _ _ _ _ _ _ cI rfl B.sorted PyProof.Rows.boot_sorted (@aa _ _ _ _ _ (pv 1) ab rfl) (by decide) (by decide) rfl rfl) rfl (Or.inl rfl)) (@ae _ _ _ _ _ (@aE _ _ 3 _ _ _ _ nd rfl (Or.inl rfl) (@au _ _ _ _ _ _ _ ix_tup (@au _ _ _ _ _ _ _ ix_list (pv 2) ad (fun _ _=>rfl)) ad (fun _ _=>rfl)) rfl (Or.inl rfl)) (@ae _ _ _ _ _ (@bO _ _ _ _ _ _ _ _ PassesOwn.never rfl (bR (@dD _ _ _ _ _ _ _ _ _ _ kn (pv 2) (dC ad) gF)) (bd rfl (ai (aj (i:=4) nd rfl (Or.inl rfl)) (ai (aj (i:=5) nd rfl (Or.inl rfl)) aP))) (@ae _ _ _ _ _ (@aI _ _ _ _ _ _ _ _ (@aB _ _ _ _ _ _ _ _ ik (pv 4) (@aD _ _ _ _ _ _ _ _ aO (pv 3) (pv 0)) (az _)) (@af _ _ _ (@ar _ _ _ _ (pv 3))) aA) (@af _ _ _ (@aE _ _ 3 _ _ _ _ nd rfl (Or.inl rfl) (@ay _ _ _ _ _ _ _ _ _ (eD rfl) rfl B.max PyProof.Rows.boot_max (@aa _ _ _ _ _ (pv 3) (@aa _ _ _ _ _ (pv 5) ab rfl) rfl) (by decide) (by decide) rfl rfl) rfl (Or.inl rfl)))) (by intro _; rfl)) (@af _ _ _ (@ar _ _ _ _ bF))))),?_⟩
 have sz:(1000:Nat) < sizeLine:=by decide
 refine ah (fun σ' H'=>∃ (lo:Addr) (as':List Addr),σ'=[some (.int b),some (.ref l),some (.ref lo),none,none,none]∧H' lo=some (.lst (as'.map V.ref))∧as'.Perm as∧as'.Pairwise (fun x y=>(g x).1≤(g y).1)∧Same H H') (fun R hR=>?_) ?_
 ·exact ⟨_,rfl,l,as,[false,false],fun a=>[(g a).1,(g a).2],rfl,SqL.of hl,by omega,rfl,fun a ha=>⟨_,SqT.of (hg a ha),rfl⟩,fun lo as' hlo pa so=>hR _ _ ⟨lo,as',rfl,upd_same,pa,df so,Same.new hlo⟩⟩
 rintro _ H1 ⟨lo,as',rfl,hlo,pa,sor,s1⟩
 obtain ⟨a0,r0,rfl⟩:∃a0 r0,as'=a0 :: r0:=by
  cases as' with
  | nil=>exact absurd (List.nil_perm.mp pa) ne
  | cons a r=>exact ⟨a,r,rfl⟩
 have mem:∀a∈a0 :: r0,a∈as:=fun a ha=>pa.mem_iff.mp ha
 have hg1:∀a∈a0 :: r0,H1 a=some (.tup [.int (g a).1,.int (g a).2]):=fun a ha=>s1 _ _ (hg a (mem a ha))
 refine ah (fun σ' H'=>σ'=[some (.int b),some (.ref l),some (.ref lo),some (.int (g a0).2),none,none]∧H1=H') (fun R hR=>?_) ?_
 ·exact ⟨_,rfl,lo,_,0,_,rfl,rfl,SqL.of hlo,cX (Int.le_refl _) rfl,a0,_,1,_,rfl,rfl,SqT.of (hg1 a0 List.mem_cons_self),rfl,hR _ _ ⟨rfl,rfl⟩⟩
 rintro _ _ ⟨rfl,rfl⟩
 have pm:∀ {r:Int},Pts b (a0 :: r0) g r↔Pts b as g r:=by
  intro r
  unfold Pts
  simp only [pa.mem_iff]
 obtain ⟨so1,so2⟩:=List.pairwise_cons.mp sor
 refine ah (fun σ' H'=>(∃ (z:Int) (v4 v5:Option V),σ'=[some (.int b),some (.ref l),some (.ref lo),some (.int z),v4,v5])∧Same H H'∧∀r,¬ Pts b as g r) (fun R hR=>?_) ?_
 ·refine ⟨_,rfl,_,rfl,lo,_,rfl,SqL.of hlo,fun sl hsl=>?_⟩
  obtain ⟨H2,e2,k2,s2⟩:∃H',upd H1 sl (.lst (cz ((a0 :: r0).map V.ref) (some 1) none))=H'∧H' sl=some (.lst (cz ((a0 :: r0).map V.ref) (some 1) none))∧Same H1 H':=⟨_,rfl,upd_same,Same.new hsl⟩
  rw [show upd H1 sl _=H2 from e2]
  have k2:H2 sl=some (.lst (r0.map V.ref)):=by rw [k2,show cz ((a0 :: r0).map V.ref) (some 1) none=r0.map V.ref from lm _ 1]
  refine ⟨sl,rfl,⟨_,SqL.of k2⟩,bW (xs:=r0.map V.ref) (fun i σ' H'=>(∃ (z:Int) (v4 v5:Option V),σ'=[some (.int b),some (.ref l),some (.ref lo),some (.int z),v4,v5]∧(g a0).2≤z∧(∀c∈r0.take i,(g c).2≤z)∧(z=(g a0).2∨∃c∈r0.take i,z=(g c).2)∧∀ (j:Nat) (a:Addr) (p:Int),j < i→r0[j]? = some a→(g a0).2≤p→(∀c∈r0.take j,(g c).2≤p)→(g a).1 < p + b)∧Same H2 H') ⟨⟨_,_,_,rfl,Int.le_refl _,fun c hc=>by simp at hc,.inl rfl,fun j a p hj=>absurd hj (Nat.not_lt_zero _)⟩,Same.refl _⟩ (fun i σ Hx _ ⟨_,sx⟩=>SqL.of (sx _ _ k2)) ?_ ?_⟩
  ·rintro i x σ Hx hi ⟨⟨z,v4,v5,rfl,hz,hzt,hze,hno⟩,sx⟩
   rw [List.getElem?_map] at hi
   obtain ⟨a,ha,rfl⟩:=Option.map_eq_some_iff.mp hi
   have am:a∈a0 :: r0:=List.mem_cons_of_mem _ (List.mem_of_getElem? ha)
   have hil:i < r0.length:=(List.getElem?_eq_some_iff.mp ha).1
   refine ⟨a,_,rfl,SqT.of (sx _ _ (s2 _ _ (hg1 a am))),rfl,_,_,rfl,_,_,rfl,rfl,?_⟩
   refine ⟨_,rfl,_,rfl,_,rfl,_,_,rfl,rfl,_,_,rfl,rfl,_,rfl,?_⟩
   refine ck (fun cc=>?_) (fun cc=>?_)
   ·have cc:z + b≤(g a).1:=of_decide_eq_true cc
    refine ⟨_,rfl,(q Hx (s1.trans (s2.trans sx))).2 z (pm.mp ⟨⟨a0,List.mem_cons_self,hz⟩,⟨a,am,cc⟩,fun c hc=>?_⟩)⟩
    rcases List.mem_cons.mp hc with rfl | hc
    ·exact .inl hz
    obtain ⟨j,hj⟩:=List.mem_iff_getElem?.mp hc
    by_cases hji:j < i
    ·exact .inl (hzt c (List.mem_of_getElem? (show (r0.take i)[j]? = some c by rw [List.getElem?_take_of_lt hji]; exact hj)))
    ·refine .inr (Int.le_trans cc ?_)
     by_cases hje:j=i
     ·subst hje
      rw [ha] at hj
      cases hj
      exact Int.le_refl _
     ·have hjl:=(List.getElem?_eq_some_iff.mp hj).1
      have:=List.pairwise_iff_getElem.mp so2 i j hil hjl (by omega)
      rw [List.getElem?_eq_getElem hil] at ha
      rw [List.getElem?_eq_getElem hjl] at hj
      cases ha
      cases hj
      exact this
   ·have cc:¬ z + b≤(g a).1:=fun h=>cc (decide_eq_true h)
    have tk:r0.take (i + 1)=r0.take i ++ [a]:=by rw [List.take_add_one,ha]; rfl
    have nw:∀z':Int,z≤z'→(g a).2≤z'→(z'=z∨z'=(g a).2)→(g a0).2≤z'∧(∀c∈r0.take (i + 1),(g c).2≤z')∧(z'=(g a0).2∨∃c∈r0.take (i + 1),z'=(g c).2)∧∀ (j:Nat) (a:Addr) (p:Int),j < i + 1→r0[j]? = some a→(g a0).2≤p→(∀c∈r0.take j,(g c).2≤p)→(g a).1 < p + b:=fun z' h1 h2 h3=>by
     rw [tk]
     refine ⟨by omega,fun c hc=>?_,?_,fun j a' p hj hja h0p htp=>?_⟩
     ·rcases List.mem_append.mp hc with hc | hc
      ·have:=hzt c hc; omega
      ·rw [List.mem_singleton.mp hc]; exact h2
     ·rcases h3 with h3 | h3
      ·rcases hze with e | ⟨c,hc,e⟩
       ·exact .inl (by omega)
       ·exact .inr ⟨c,List.mem_append_left _ hc,by omega⟩
      ·exact .inr ⟨a,List.mem_append_right _ (List.mem_singleton.mpr rfl),h3⟩
     ·by_cases hje:j=i
      ·subst hje
       rw [ha] at hja
       cases hja
       have:z≤p:=by
        rcases hze with e | ⟨c,hc,e⟩
        ·omega
        ·have:=htp c hc; omega
       omega
      ·exact hno j a' p (by omega) hja h0p htp
    refine ⟨_,rfl,_,rfl,_,_,rfl,⟨_,_,_,rfl,nw _ ?_ ?_ ?_⟩,sx⟩
    ·split <;> omega
    ·split <;> omega
    ·split
     ·exact .inr rfl
     ·exact .inl rfl
  ·rintro σ Hx ⟨⟨z,v4,v5,e,hz,hzt,hze,hno⟩,sx⟩
   refine hR _ _ ⟨⟨z,v4,v5,e⟩,s1.trans (s2.trans sx),fun p hp=>?_⟩
   obtain ⟨⟨c,hc,hcp⟩,⟨d,hd,hdp⟩,al⟩:=pm.mpr hp
   have glt':∀a∈a0 :: r0,(g a).1 < (g a).2:=fun a ha=>glt a (mem a ha)
   have a0p:(g a0).2≤p:=by
    rcases al a0 List.mem_cons_self with h | h
    ·exact h
    ·exfalso
     have l1:=glt' c hc
     rcases List.mem_cons.mp hc with e | hc
     ·rw [e] at hcp l1; omega
     ·have:=so1 c hc; omega
   have dr:d∈r0:=by
    rcases List.mem_cons.mp hd with e | hd
    ·exfalso
     rw [e] at hdp
     have:=glt' a0 List.mem_cons_self
     omega
    ·exact hd
   obtain ⟨i,a,h1,h2,h3⟩:=iS b0 r0 p p (fun x hx=>glt' x (List.mem_cons_of_mem _ hx)) so2 (Int.le_refl _) ⟨d,dr,hdp⟩ (fun x hx=>al x (List.mem_cons_of_mem _ hx))
   have:=hno i a p (by rw [List.length_map]; exact (List.getElem?_eq_some_iff.mp h1).1) h1 a0p h2
   omega
 rintro _ H2 ⟨⟨z,v4,v5,rfl⟩,s2,no⟩
 exact (q H2 s2).1 no
theorem scleafof:FnScope ["x","y","pieces","kind","turned","piece_x","piece_y"] ["x","y","pieces"] (defScope dO):=⟨rfl,rfl,rfl,by decide +kernel,rfl,by decide +kernel,by decide +kernel⟩
theorem lK {f:Addr} {trs tpc:Tok} {fd:FuncData} (F:Fun K "leaf_of" "leaf_of" dO f fd) (hrs:mg "REST" = some (.str "rest" trs)) (hpc:mg "PIECE" = some (.str "piece" tpc)):FnOk P w K mg base CX0 1 f fd ["x","y","pieces"] (ee):=by
 refine F.ok scleafof (fun vs H Q E h=>?_) (fun cdv A outer s H vs Q E hr h=>?_)
 ·obtain ⟨x,y,l,as,rfl,_⟩:=h
  rfl
 obtain ⟨x,y,l,as,rfl,hl,hp,q⟩:=h
 have nd:=scleafof.nd
 refine ⟨_,(@ae _ _ _ _ _ (@aI _ _ _ _ _ _ _ _ (aL (mM (pv 2) (fun _=>rfl))) (@af _ _ _ (@ar _ _ _ _ (@aF _ _ _ _ _ (@aa _ _ _ _ _ (bj (v:=.str "rest") rfl hrs ⟨trs,rfl⟩) ab rfl)))) aA) (@ae _ _ _ _ _ (@bn _ _ _ _ _ _ (@au _ _ _ _ _ _ _ ix_list (pv 2) ad (fun _ _=>rfl)) (bd rfl (ai (aj (i:=3) nd rfl (Or.inl rfl)) (ai (aj (i:=4) nd rfl (Or.inl rfl)) (ai (aj (i:=5) nd rfl (Or.inl rfl)) (ai (aj (i:=6) nd rfl (Or.inl rfl)) aP))))) rfl rfl rfl) (@af _ _ _ (@ar _ _ _ _ (@aF _ _ _ _ _ (@aa _ _ _ _ _ (bj (v:=.str "piece") rfl hpc ⟨tpc,rfl⟩) (@aa _ _ _ _ _ (pv 3) (@aa _ _ _ _ _ (pv 4) (@aa _ _ _ _ _ (@aD _ _ _ _ _ _ _ _ bf (pv 5) (pv 0)) (@aa _ _ _ _ _ (@aD _ _ _ _ _ _ _ _ bf (pv 6) (pv 1)) ab rfl) rfl) rfl) rfl) rfl)))))),?_⟩
 refine ah (fun σ' H'=>σ'=[some (.int x),some (.int y),some (.ref l),none,none,none,none]∧H=H'∧as≠[]) (fun R hR=>?_) ?_
 ·refine ⟨_,rfl,_,.inl ⟨_,SqL.of hl,rfl⟩,?_⟩
  cases as with
  | nil=>exact aY ⟨(by show 1≤sizeLine; decide),fun r hr=>q r _ (fun _=>upd_same) (fun a0 r0 p e=>nomatch e) (Same.new hr)⟩
  | cons a r=>exact aM (hR _ _ ⟨rfl,rfl,List.cons_ne_nil _ _⟩)
 rintro _ _ ⟨rfl,rfl,ne⟩
 obtain ⟨a0,r0,rfl⟩:∃a0 r0,as=a0 :: r0:=by
  cases as with
  | nil=>exact absurd rfl ne
  | cons a r=>exact ⟨a,r,rfl⟩
 obtain ⟨p,ha⟩:=hp a0 List.mem_cons_self
 refine ah (fun σ' H'=>σ'=[some (.int x),some (.int y),some (.ref l),some (.int p.k),some (.bl p.c),some (.int p.x),some (.int p.y)]∧H=H') (fun R hR=>?_) ?_
 ·exact ⟨_,rfl,l,_,0,_,rfl,rfl,SqL.of hl,cX (Int.le_refl _) rfl,a0,_,rfl,SqT.of ha,rfl,_,_,rfl,_,_,rfl,_,_,rfl,_,_,rfl,rfl,hR _ _ ⟨rfl,rfl⟩⟩
 rintro _ _ ⟨rfl,rfl⟩
 refine ⟨_,rfl,_,rfl,_,rfl,_,rfl,_,_,rfl,rfl,_,rfl,_,rfl,_,_,rfl,rfl,(by show 5≤sizeLine; decide),fun r hr=>q r _ (fun e=>nomatch e) (fun a1 r1 p1 e e1=>?_) (Same.new hr)⟩
 cases e
 rw [ha] at e1
 have e2:=pW (HO.tup.inj (Option.some.inj e1))
 subst e2
 exact upd_same
end
def SpA (H:Hp) (r:Addr) (g:Bx):Prop:=∃r1 r2,H r=some (.tup [.ref r1,.ref r2])∧H r1=some (.tup [.int g.a,.int g.c])∧H r2=some (.tup [.int g.b,.int g.d])
theorem SpA.same {H H':Hp} (s:Same H H') {r:Addr} {g:Bx} (h:SpA H r g):SpA H' r g:=by
 obtain ⟨r1,r2,h1,h2,h3⟩:=h
 exact ⟨r1,r2,s _ _ h1,s _ _ h2,s _ _ h3⟩
def axA (H:Hp) (i:Nat) (sp:Addr):Addr:=match H sp with
 | some (.tup [.ref r1,.ref r2])=>if i=0 then r1 else r2
 | _=>sp
def ivA (H:Hp) (a:Addr):Int×Int:=match H a with
 | some (.tup [.int x,.int y])=>(x,y)
 | _=>(0,0)
theorem jJ {H:Hp} {sp r1 r2:Addr} (h:H sp=some (.tup [.ref r1,.ref r2])) (i:Nat):axA H i sp=if i=0 then r1 else r2:=by unfold axA; rw [h]
theorem gY {H:Hp} {a:Addr} {x y:Int} (h:H a=some (.tup [.int x,.int y])):ivA H a=(x,y):=by unfold ivA; rw [h]
theorem SpA.ax {H:Hp} {r:Addr} {g:Bx} (h:SpA H r g) (hg:g.a < g.c∧g.b < g.d) (i:Nat):∃x y,H (axA H i r)=some (.tup [.int x,.int y])∧ivA H (axA H i r)=(x,y)∧x < y:=by
 obtain ⟨r1,r2,h1,h2,h3⟩:=h
 rw [jJ h1]
 split
 ·exact ⟨_,_,h2,gY h2,hg.1⟩
 ·exact ⟨_,_,h3,gY h3,hg.2⟩
theorem vc {a b c:St} (h1:leS a b) (h2:leS b c):leS a c:=⟨h2.1.trans h1.1,fun i v e=>h2.2 i v (h1.2 i v e)⟩
theorem fR {α:Type} (f:α→Bool):∀l:List α,(l.filter f).length + (l.filter fun x=>!f x).length=l.length
 | []=>rfl
 | x :: l=>by
  have:=fR f l
  rw [List.filter_cons,List.filter_cons]
  cases f x <;> simp <;> omega
theorem fS {α:Type} {f:α→Bool} {l:List α} {x:α} (hx:x∈l) (h:f x=true):1≤(l.filter f).length:=List.length_pos_of_mem (List.mem_filter.mpr ⟨hx,h⟩)
def gA (ks:List Kd) (H:Hp) (i:Nat) (a:Addr):Int×Int:=match H a with
 | some (.tup [.int k,.bl c,.int x,.int y])=>(match ks[k.toNat]? with
  | some kd=>if i=0 then (x,x + sd1 kd c) else (y,y + sd2 kd c)
  | none=>(0,1))
 | _=>(0,1)
theorem dg {ks:List Kd} {H:Hp} {a:Addr} {p:Pq} {k:Kd} (h:H a=some (.tup (pqV p))) (hk:ks[p.k]? = some k) (i:Nat):gA ks H i a=if i=0 then (p.x,p.x + sd1 k p.c) else (p.y,p.y + sd2 k p.c):=by
 unfold gA
 rw [h]
 show (match ks[(p.k:Int).toNat]? with
  | some kd=>if i=0 then (p.x,p.x + sd1 kd p.c) else (p.y,p.y + sd2 kd p.c)
  | none=>(0,1))=_
 rw [Int.toNat_natCast,hk]
def pX (ks:List Kd) (H:Hp) (a:Addr):Bx:=⟨(gA ks H 0 a).1,(gA ks H 1 a).1,(gA ks H 0 a).2,(gA ks H 1 a).2⟩
theorem pY {ks:List Kd} {H:Hp} {a:Addr} {p:Pq} {k:Kd} (h:H a=some (.tup (pqV p))) (hk:ks[p.k]? = some k):pX ks H a=nO k p:=by
 unfold pX
 rw [dg h hk,dg h hk]
 rfl
theorem dq {f g:Addr→Bool}:∀ {as ss:List Addr},as.length=ss.length→(∀ (j:Nat) (a s:Addr),as[j]? = some a→ss[j]? = some s→g s=f a)→((as.zip ss).filter fun z=>g z.2).map (·.1)=as.filter f
 | [],_,_,_=>by simp
 | a :: as,[],h,_=>by cases h
 | a :: as,s :: ss,h,e=>by
  have ih:=dq (f:=f) (g:=g) (as:=as) (ss:=ss) (by simpa using h) fun j a s h1 h2=>e (j + 1) a s (by simpa using h1) (by simpa using h2)
  have e0:=e 0 a s rfl rfl
  rw [List.zip_cons_cons,List.filter_cons,List.filter_cons]
  show (if g s=true then _ else _:List (Addr×Addr)).map (·.1)=_
  rw [e0]
  cases f a
  ·exact ih
  ·show a :: _=a :: _
   rw [ih]
section
variable {P:Program} {w:World} {K:PySem.W.Frag} {mg:Str→Option Value} {base:Heap}
def gZ (C:Addr):Sp:=fun vs H Q _=>∃ (s l:Addr) (b:Int) (ks:List Kd) (as:List Addr),vs=[.ref s,.ref l]∧ShopAt C H s b ks∧0≤b∧(∀k∈ks,Good k)∧H l=some (.lst (as.map V.ref))∧(∀a∈as,PzP ks H a)∧2≤as.length∧as.length < 64 ∧
 (∀H', Same H H'→(∀i < 2, ∀r, ¬ Pts b as (gA ks H i) r)→Q .non H')∧∀ (t la lb:Addr) (i:Nat) (r:Int) (H':Hp), i < 2→H' t=some (.tup [.str (if i=0 then "down" else "across"), .int r, .ref la, .ref lb])→H' la=some (.lst ((as.filter fun a=>decide ((gA ks H i a).2≤r)).map V.ref))→H' lb=some (.lst ((as.filter fun a=>decide (r < (gA ks H i a).2)).map V.ref))→Pts b as (gA ks H i) r→Same H H'→Q (.ref t) H'
theorem scpcut:FnScope ["shop","pieces","spans","axis","way","place","ahead","behind"] ["shop","pieces"] (defScope aX):=⟨rfl,rfl,rfl,by decide +kernel,rfl,by decide +kernel,by decide +kernel⟩
set_option maxHeartbeats 1000000 in
theorem pZ {f C wa:Addr} {fd:FuncData} (F:Fun K "parting_cut" "parting_cut" aX f fd) (B:Blt mg) (T:ShopTxt K C) (wy:mg "WAYS" = some (.ref wa)) (wq:∀H,SqT K H wa [.str "down",.str "across"]) (MB:Mn P w K mg base C "blade" ["self"] 1 (dL C)) (DSn:Dn P w K mg base "spans_of" ["shop","piece"] 4 (fe C)) (DPp:Dn P w K mg base "parting_place" ["blade","spans"] 1 (gX)):FnOk P w K mg base CX0 5 f fd ["shop","pieces"] (gZ C):=by
 refine F.ok scpcut (fun vs H Q E h=>?_) (fun cdv A outer s H vs Q E hr h=>?_)
 ·obtain ⟨s,l,b,ks,as,rfl,_⟩:=h
  rfl
 obtain ⟨s,l,b,ks,as,rfl,S0,b0,gk,hl,hp,l2,l64,q1',q2'⟩:=h
 have nd:=scpcut.nd
 refine ⟨_,(@ae _ _ _ _ _ (dG (i:=2) (own:=["piece"]) (cs:=["shop"]) (cap:=[0]) rfl nd rfl rfl rfl (bR (pv 1)) (bm (sc:=defScope aX) (N:=["shop","pieces","spans","axis","way","place","ahead","behind"]) rfl rfl (by decide +kernel)) (fun _ _ _ _ _=>aj (i:=0) (by show List.Nodup (["piece","shop"]:List Str) ; decide +kernel) rfl (Or.inl rfl) (Or.inr rfl)) (fun _ _ _ _ _=>bX) (fun _ _ _ _ _=>(@ao _ _ _ _ _ _ _ _ _ _ DSn hr rfl (@aa _ _ _ _ _ (pv 1) (@aa _ _ _ _ _ (pv 0) ab rfl) rfl) (by decide) rfl rfl))) (@ae _ _ _ _ _ (@bO _ _ _ _ _ _ _ _ PassesOwn.never rfl (nC rfl B.enumerate (@aa _ _ _ _ _ (bj (v:=.ref wa) rfl wy rfl) ab rfl)) (bd rfl (ai (aj (i:=3) nd rfl (Or.inr rfl)) (ai (aj (i:=4) nd rfl (Or.inl rfl)) aP))) (@ae _ _ _ _ _ (@aE _ _ 5 _ _ _ _ nd rfl (Or.inr rfl) (@ao _ _ _ _ _ _ _ _ _ _ DPp (hr.mono (by decide)) rfl (@aa _ _ _ _ _ (nv (pv 0) T.cl MB (hr.mono (by decide))) (@aa _ _ _ _ _ (eY (own:=["both"]) (cs:=["axis"]) (cap:=[3]) rfl (bR (pv 2)) (bm (sc:=defScope aX) (N:=["shop","pieces","spans","axis","way","place","ahead","behind"]) rfl rfl (by decide +kernel)) (fun _ _ _ _ _=>aj (i:=0) (by show List.Nodup (["both","axis"]:List Str) ; decide +kernel) rfl (Or.inl rfl) (Or.inr rfl)) (fun _ _ _ _ _=>bX) (fun _ _ _ _ _=>(au (r:=jn K) ix_tup (pv 0) (pv 1) (fun _ _=>rfl)))) ab rfl) rfl) (by decide) rfl rfl) rfl (Or.inl rfl)) (@af _ _ _ (@aI _ _ _ _ _ _ _ _ (@aB _ _ _ _ _ _ _ _ kg (pv 5) bF (az _)) (@ae _ _ _ _ _ (dG (i:=6) (own:=["piece","both"]) (cs:=["axis","place"]) (cap:=[3,5]) rfl nd rfl rfl rfl (nj rfl B.zip (@aa _ _ _ _ _ (pv 1) (@aa _ _ _ _ _ (pv 2) ab rfl) rfl)) (bm (sc:=defScope aX) (N:=["shop","pieces","spans","axis","way","place","ahead","behind"]) rfl rfl (by decide +kernel)) (fun _ _ _ _ _=>nz K rfl rfl (by show List.Nodup (["piece","both","axis","place"]:List Str) ; decide +kernel) rfl rfl rfl rfl) (fun _ _ _ _ _=>(ip (@aB _ _ _ _ _ _ _ _ dz (au (r:=jn K) ix_tup (au (r:=jn K) ix_tup (pv 1) (pv 2) (fun _ _=>rfl)) ad (fun _ _=>rfl)) (pv 3) (az _)))) (fun _ _ _ _ _=>(pv 0))) (@ae _ _ _ _ _ (dG (i:=7) (own:=["piece","both"]) (cs:=["axis","place"]) (cap:=[3,5]) rfl nd rfl rfl rfl (nj rfl B.zip (@aa _ _ _ _ _ (pv 1) (@aa _ _ _ _ _ (pv 2) ab rfl) rfl)) (bm (sc:=defScope aX) (N:=["shop","pieces","spans","axis","way","place","ahead","behind"]) rfl rfl (by decide +kernel)) (fun _ _ _ _ _=>nz K rfl rfl (by show List.Nodup (["piece","both","axis","place"]:List Str) ; decide +kernel) rfl rfl rfl rfl) (fun _ _ _ _ _=>(ip (@aB _ _ _ _ _ _ _ _ mK (au (r:=jn K) ix_tup (au (r:=jn K) ix_tup (pv 1) (pv 2) (fun _ _=>rfl)) ad (fun _ _=>rfl)) (pv 3) (az _)))) (fun _ _ _ _ _=>(pv 0))) (@af _ _ _ (@ar _ _ _ _ (@aF _ _ _ _ _ (@aa _ _ _ _ _ (pv 4) (@aa _ _ _ _ _ (pv 5) (@aa _ _ _ _ _ (pv 6) (@aa _ _ _ _ _ (pv 7) ab rfl) rfl) rfl) rfl)))))) aA))) (by intro _; rfl)) (@af _ _ _ (@ar _ _ _ _ bF)))),?_⟩
 have sz:(1000:Nat) < sizeLine:=by decide
 obtain ⟨dx,r0,rs,h1,h2,h3⟩:=id S0
 refine ah (fun σ' H'=>∃ (sl:Addr) (ss:List Addr) (gs:List Bx),σ'=[some (.ref s),some (.ref l),some (.ref sl),none,none,none,none,none]∧H' sl=some (.lst (ss.map V.ref))∧Paired (SpA H') ss gs∧(∀g∈gs,g.a < g.c∧g.b < g.d)∧gs=as.map (pX ks H)∧Same H H') (fun R hR=>?_) ?_
 ·refine ⟨_,rfl,l,rfl,⟨_,SqL.of hl⟩,(cN (K:=K) (.inl hl) (fun i us Hx=>Same H Hx∧∃ (ss:List Addr) (gs:List Bx),us=ss.map V.ref∧Paired (SpA Hx) ss gs∧(∀g∈gs,g.a < g.c∧g.b < g.d)∧gs=(as.take i).map (pX ks H)) (fun i us Hx _ ⟨sx,_⟩ o e=>sx _ _ e) ⟨Same.refl _,[],[],rfl,.nil,fun g hg=>by simp at hg,rfl⟩ ?_ ?_).1 hl⟩
  ·rintro i x us Hx hi ⟨sx,ss,gs,rfl,pg,hgs,gl⟩
   have hin:i < (as.map V.ref).length:=(List.getElem?_eq_some_iff.mp hi).1
   rw [List.getElem?_map] at hi
   obtain ⟨a,ha,rfl⟩:=Option.map_eq_some_iff.mp hi
   obtain ⟨p,k,e1,e2,e3⟩:=hp a (List.mem_of_getElem? ha)
   have g0:=gk k (List.mem_of_getElem? e3)
   have sl:=Paired.length pg
   rw [List.length_map] at hin
   have gll:gs.length=i:=by rw [gl,List.length_map,List.length_take]; omega
   refine ⟨by rw [List.length_map]; omega,leS.set rfl,bM ?_⟩
   refine ⟨_,rfl,_,rfl,s,a,b,ks,p,k,rfl,cr sx S0,.inr (sx _ _ e1),e2,e3,fun r r1 r2 H3 f1 f2 f3 s3=>Nx.of (by rw [List.length_map]; exact hin) ⟨sx.trans s3,ss ++ [r],gs ++ [nO k p],by rw [List.map_append]; rfl,eO (Paired.mapP pg fun v g h=>h.same s3) (.cons ⟨r1,r2,f1,f2,f3⟩ .nil),fun g hg=>?_,by rw [gl,List.take_add_one,ha,List.map_append,← pY e1 e3]; rfl⟩⟩
   rcases List.mem_append.mp hg with hg | hg
   ·exact hgs g hg
   ·rw [List.mem_singleton.mp hg]
    have w1:=g0.w; have w2:=g0.h
    constructor
    ·show p.x < p.x + sd1 k p.c
     unfold sd1; split <;> omega
    ·show p.y < p.y + sd2 k p.c
     unfold sd2; split <;> omega
  ·rintro us Hx ⟨sx,ss,gs,rfl,pg,hgs,gl⟩
   have sl:=Paired.length pg
   rw [List.length_map,List.take_length] at gl
   have gll:gs.length=as.length:=by rw [gl,List.length_map]
   refine ⟨by rw [List.length_map]; omega,fun lo hlo=>?_⟩
   obtain ⟨Hy,e1,k1,s1⟩:∃H',upd Hx lo (.lst (ss.map V.ref))=H'∧H' lo=some (.lst (ss.map V.ref))∧Same Hx H':=⟨_,rfl,upd_same,Same.new hlo⟩
   rw [show upd Hx lo _=Hy from e1]
   exact hR _ _ ⟨lo,ss,gs,rfl,k1,Paired.mapP pg fun v g h=>h.same s1,hgs,gl,sx.trans s1⟩
 rintro _ H2 ⟨sl,ss,gs,rfl,hsl,pg,hgs,gl,s02⟩
 have ssl:=Paired.length pg
 have gll:gs.length=as.length:=by rw [gl,List.length_map]
 have asl:as.length=ss.length:=by omega
 have axf:∀ (i:Nat) (sp:Addr),sp∈ss→∃x y,H2 (axA H2 i sp)=some (.tup [.int x,.int y])∧ivA H2 (axA H2 i sp)=(x,y)∧x < y:=fun i sp hsp=>by
  obtain ⟨j,hj,e⟩:=List.getElem_of_mem hsp
  obtain ⟨g,hg,h⟩:=Paired.getR pg (show ss[j]? = some sp by rw [List.getElem?_eq_getElem hj,e])
  exact h.ax (hgs g (List.mem_of_getElem? hg)) i
 have axt:∀ (i:Nat) (sp:Addr),i < 2→sp∈ss→∃r1 r2:Addr,H2 sp=some (.tup [.ref r1,.ref r2])∧atI [V.ref r1,V.ref r2] (i:Int)=some (.ref (axA H2 i sp)):=fun i sp hi hsp=>by
  obtain ⟨j,hj,e⟩:=List.getElem_of_mem hsp
  obtain ⟨g,hg,r1,r2,f1,_⟩:=Paired.getR pg (show ss[j]? = some sp by rw [List.getElem?_eq_getElem hj,e])
  refine ⟨r1,r2,f1,?_⟩
  rw [jJ f1]
  match i,hi with
  | 0,_=>rfl
  | 1,_=>rfl
 have link:∀ (i j:Nat) (a sp:Addr),i < 2→as[j]? = some a→ss[j]? = some sp→ivA H2 (axA H2 i sp)=gA ks H i a:=fun i j a sp hi ha hsp=>by
  obtain ⟨g,hg,r1,r2,f1,f2,f3⟩:=Paired.getR pg hsp
  rw [gl,List.getElem?_map,ha] at hg
  cases hg
  rw [jJ f1]
  match i,hi with
  | 0,_=>exact gY f2
  | 1,_=>exact gY f3
 have pif:∀ (i:Nat) (r:Int),i < 2→(Pts b (ss.map (axA H2 i)) (ivA H2) r↔Pts b as (gA ks H i) r):=fun i r hi=>by
  have m1:∀a∈as,∃c∈ss.map (axA H2 i),ivA H2 c=gA ks H i a:=fun a ha=>by
   obtain ⟨j,hj⟩:=List.mem_iff_getElem?.mp ha
   have hjl:=(List.getElem?_eq_some_iff.mp hj).1
   exact ⟨_,List.mem_map.mpr ⟨_,List.getElem_mem (show j < ss.length by omega),rfl⟩,link i j a _ hi hj (List.getElem?_eq_getElem (by omega))⟩
  have m2:∀c∈ss.map (axA H2 i),∃a∈as,ivA H2 c=gA ks H i a:=fun c hc=>by
   obtain ⟨sp,hsp,rfl⟩:=List.mem_map.mp hc
   obtain ⟨j,hj⟩:=List.mem_iff_getElem?.mp hsp
   have hjl:=(List.getElem?_eq_some_iff.mp hj).1
   exact ⟨_,List.getElem_mem (show j < as.length by omega),link i j _ sp hi (List.getElem?_eq_getElem (by omega)) hj⟩
  constructor
  ·rintro ⟨⟨c,hc,h1⟩,⟨d,hd,h2⟩,h3⟩
   obtain ⟨a,ha,e⟩:=m2 c hc
   obtain ⟨a',ha',e'⟩:=m2 d hd
   refine ⟨⟨a,ha,by rw [← e]; exact h1⟩,⟨a',ha',by rw [← e']; exact h2⟩,fun x hx=>?_⟩
   obtain ⟨y,hy,e⟩:=m1 x hx
   rw [← e]; exact h3 y hy
  ·rintro ⟨⟨c,hc,h1⟩,⟨d,hd,h2⟩,h3⟩
   obtain ⟨a,ha,e⟩:=m1 c hc
   obtain ⟨a',ha',e'⟩:=m1 d hd
   refine ⟨⟨a,ha,by rw [e]; exact h1⟩,⟨a',ha',by rw [e']; exact h2⟩,fun x hx=>?_⟩
   obtain ⟨y,hy,e⟩:=m2 x hx
   rw [e]; exact h3 y hy
 refine ah (fun σ' H'=>(∃v3 v4 v5 v6 v7:Option V,σ'=[some (.ref s),some (.ref l),some (.ref sl),v3,v4,v5,v6,v7])∧Same H2 H'∧∀i < 2,∀r,¬ Pts b as (gA ks H i) r) (fun R hR=>?_) ?_
 ·refine ⟨wa, _, rfl, wq _, lz (K:=K) (l:=wa) (xs:=[.str "down", .str "across"]) (fun i σ' H'=>(∃v3 v4 v5 v6 v7:Option V, σ'=[some (.ref s), some (.ref l), some (.ref sl), v3, v4, v5, v6, v7])∧Same H2 H'∧∀i' < i, ∀r, ¬ Pts b as (gA ks H i') r) ⟨⟨_, _, _, _, _, rfl⟩, Same.refl _, fun i' h=>absurd h (Nat.not_lt_zero _)⟩ (fun i σ Hx _=>wq Hx) ?_ (fun σ Hx h=>hR _ _ h)⟩
  rintro i x pt σ Hx hi hpt ⟨⟨v3,v4,v5,v6,v7,rfl⟩,sx,nop⟩
  have i2:i < 2:=(List.getElem?_eq_some_iff.mp hi).1
  obtain ⟨wy,rfl,ewy⟩:∃wy:Str,x=.str wy∧wy=(if i=0 then ("down" : Str) else ("across" : Str)):=by
   match i,i2,hi with
   | 0,_,hi=>exact ⟨_,(Option.some.inj hi).symm,rfl⟩
   | 1,_,hi=>exact ⟨_,(Option.some.inj hi).symm,rfl⟩
  obtain ⟨Hy,e3,k3,s3⟩:∃H',upd Hx pt (.tup [.int i,.str wy])=H'∧H' pt=some (.tup [.int i,.str wy])∧Same Hx H':=⟨_,rfl,upd_same,Same.new hpt⟩
  rw [show upd Hx pt _=Hy from e3]
  have s2y:=sx.trans s3
  refine ⟨pt,_,rfl,SqT.of k3,rfl,_,_,rfl,_,_,rfl,rfl,?_⟩
  refine ah (fun σ' H'=>∃pv:V,σ'=[some (.ref s),some (.ref l),some (.ref sl),some (.int i),some (.str wy),some pv,v6,v7]∧((pv=.non∧∀r,¬ Pts b as (gA ks H i) r)∨∃r,pv=.int r∧Pts b as (gA ks H i) r)∧Same H2 H') (fun R hR=>?_) ?_
  ·refine ⟨_,rfl,s,dx,_,rfl,s2y _ _ (s02 _ _ h1),cU _ _ (by decide +kernel) (by decide +kernel),s,b,ks,rfl,cr (s02.trans s2y) S0,_,rfl,sl,rfl,⟨_,SqL.of (s2y _ _ hsl)⟩,(cN (K:=K) (.inl (s2y _ _ hsl)) (fun j us Hz=>Same Hy Hz∧us=((ss.take j).map (axA H2 i)).map V.ref) (fun j us Hz _ ⟨sz,_⟩ o e=>sz _ _ e) ⟨Same.refl _,rfl⟩ ?_ ?_).1 (s2y _ _ hsl)⟩
   ·rintro j x us Hz hj ⟨syz,rfl⟩
    have hjn:j < (ss.map V.ref).length:=(List.getElem?_eq_some_iff.mp hj).1
    rw [List.getElem?_map] at hj
    obtain ⟨sp,hsp,rfl⟩:=Option.map_eq_some_iff.mp hj
    obtain ⟨r1,r2,f1,f2⟩:=axt i sp i2 (List.mem_of_getElem? hsp)
    rw [List.length_map] at hjn
    refine ⟨by rw [List.length_map,List.length_map,List.length_take]; omega,leS.set rfl,bM ?_⟩
    refine ⟨_,rfl,_,rfl,sp,_,_,_,rfl,rfl,SqT.of (syz _ _ (s2y _ _ f1)),f2,Nx.of (by rw [List.length_map]; exact hjn) ⟨syz,?_⟩⟩
    rw [List.take_add_one,hsp]
    simp only [Option.toList_some,List.map_append,List.map_cons,List.map_nil]
   ·rintro us Hz ⟨syz,rfl⟩
    rw [show (ss.map V.ref).length=ss.length from List.length_map _,List.take_length]
    refine ⟨by rw [List.length_map,List.length_map]; omega,fun lo hlo=>?_⟩
    obtain ⟨Hw,e4,k4,s4⟩:∃H',upd Hz lo (.lst ((ss.map (axA H2 i)).map V.ref))=H'∧H' lo=some (.lst ((ss.map (axA H2 i)).map V.ref))∧Same Hz H':=⟨_,rfl,upd_same,Same.new hlo⟩
    rw [show upd Hz lo _=Hw from e4]
    have s2w:=s2y.trans (syz.trans s4)
    refine ⟨b,lo,ss.map (axA H2 i),ivA H2,rfl,b0,k4,fun z=>?_,by rw [List.length_map]; omega,fun a ha=>?_,fun a ha=>?_,fun H' s'=>⟨fun no=>hR _ _ ⟨.non,rfl,.inl ⟨rfl,fun r hr=>no r ((pif i r i2).mpr hr)⟩,s2w.trans s'⟩,fun r hr=>hR _ _ ⟨.int r,rfl,.inr ⟨r,rfl,(pif i r i2).mp hr⟩,s2w.trans s'⟩⟩⟩
    ·have z0:=congrArg List.length z
     rw [List.length_map] at z0
     have z0:ss.length=0:=z0
     omega
    ·obtain ⟨sp,hsp,rfl⟩:=List.mem_map.mp ha
     obtain ⟨x,y,f1,f2,f3⟩:=axf i sp hsp
     rw [f2]; exact f3
    ·obtain ⟨sp,hsp,rfl⟩:=List.mem_map.mp ha
     obtain ⟨x,y,f1,f2,_⟩:=axf i sp hsp
     rw [f2]; exact s2w _ _ f1
  rintro _ H4 ⟨pv,rfl,hpv,s24⟩
  refine ⟨_,rfl,rfl,_,rfl,?_⟩
  rcases hpv with ⟨rfl,npi⟩ | ⟨r,rfl,hpts⟩
  ·refine aM ⟨⟨_,_,_,_,_,rfl⟩,s24,fun i' hi'=>?_⟩
   rcases Nat.lt_or_eq_of_le (Nat.le_of_lt_succ hi') with h | rfl
   ·exact nop i' h
   ·exact npi
  refine aY ?_
  have s04:=s02.trans s24
  refine ah (fun σ' H'=>∃la:Addr,σ'=[some (.ref s),some (.ref l),some (.ref sl),some (.int i),some (.str wy),some (.int r),some (.ref la),v7]∧H' la=some (.lst ((((as.zip ss).filter fun z=>decide ((ivA H2 (axA H2 i z.2)).2≤r)).map (·.1)).map V.ref))∧Same H4 H') (fun R hR=>?_) ?_
  ·refine ⟨_,rfl,_,rfl,l,sl,_,_,rfl,s04 _ _ hl,s24 _ _ hsl,iB (xs:=as.map V.ref) (ys:=ss.map V.ref) (fun j zs Hz=>Same H4 Hz∧zs=((((as.zip ss).take j).filter fun z=>decide ((ivA H2 (axA H2 i z.2)).2≤r)).map (·.1)).map V.ref) (by rw [List.length_map,List.length_map,asl]) (fun j zs Hz ⟨sz,_⟩=>⟨sz _ _ (s04 _ _ hl),sz _ _ (s24 _ _ hsl)⟩) ⟨Same.refl _,rfl⟩ (fun j zs Hz hj ⟨_,e⟩=>?_) ?_ ?_⟩
   ·rw [e,List.length_map,List.length_map]
    refine Nat.lt_of_le_of_lt (List.length_filter_le _ _) ?_
    rw [List.length_take,List.length_zip]; omega
   ·rintro j x y tz zs Hz hx hy htz ⟨sz,rfl⟩
    rw [List.getElem?_map] at hx hy
    obtain ⟨a,ha,rfl⟩:=Option.map_eq_some_iff.mp hx
    obtain ⟨sp,hsp,rfl⟩:=Option.map_eq_some_iff.mp hy
    have hjn:j < as.length:=(List.getElem?_eq_some_iff.mp ha).1
    obtain ⟨r1,r2,f1,f2⟩:=axt i sp i2 (List.mem_of_getElem? hsp)
    obtain ⟨xx,yy,f3,f4,_⟩:=axf i sp (List.mem_of_getElem? hsp)
    obtain ⟨Hw,e8,k8,s8⟩:∃H',upd Hz tz (.tup [.ref a,.ref sp])=H'∧H' tz=some (.tup [.ref a,.ref sp])∧Same Hz H':=⟨_,rfl,upd_same,Same.new htz⟩
    rw [show upd Hz tz _=Hw from e8]
    have szw:=sz.trans s8
    refine ⟨tz,_,rfl,SqT.of k8,rfl,_,_,rfl,_,_,rfl,rfl,vc (leS.set rfl) (leS.set rfl),?_⟩
    refine ⟨_,rfl,_,rfl,sp,_,_,_,rfl,rfl,SqT.of (szw _ _ (s24 _ _ f1)),f2,_,_,1,_,rfl,rfl,SqT.of (szw _ _ (s24 _ _ f3)),rfl,_,rfl,_,_,rfl,rfl,_,rfl,?_⟩
    have hzz:(as.zip ss)[j]? = some (a,sp):=List.getElem?_zip_eq_some.mpr ⟨ha,hsp⟩
    have ey:(ivA H2 (axA H2 i sp)).2=yy:=by rw [f4]
    have nx:∀us:List V,us=(((((as.zip ss).take (j + 1)).filter fun z=>decide ((ivA H2 (axA H2 i z.2)).2≤r)).map (·.1)).map V.ref)→Nx (as.map V.ref).length (fun j zs Hz=>Same H4 Hz∧zs=((((as.zip ss).take j).filter fun z=>decide ((ivA H2 (axA H2 i z.2)).2≤r)).map (·.1)).map V.ref) j us Hw:=fun us e=>Nx.of (by rw [List.length_map]; exact hjn) ⟨szw,e⟩
    rw [List.take_add_one,hzz,Option.toList_some,List.filter_append] at nx
    refine ck (fun cc=>?_) (fun cc=>?_)
    ·refine ⟨_,rfl,nx _ ?_⟩
     rw [show [(a,sp)].filter (fun z:Addr×Addr=>decide ((ivA H2 (axA H2 i z.2)).2≤r))=[(a,sp)] by rw [List.filter_cons_of_pos (by show decide _=true; rw [ey]; exact cc)]; rfl,List.map_append,List.map_append]
     rfl
    ·refine nx _ ?_
     rw [show [(a,sp)].filter (fun z:Addr×Addr=>decide ((ivA H2 (axA H2 i z.2)).2≤r))=[] by rw [List.filter_cons_of_neg (by show ¬ decide _=true; rw [ey]; exact cc)]; rfl,List.append_nil]
   ·rintro zs Hz ⟨sz,rfl⟩
    rw [show (as.map V.ref).length=(as.zip ss).length by rw [List.length_map,List.length_zip]; omega,List.take_length]
    refine ⟨by rw [List.length_map,List.length_map]; exact Nat.le_trans (List.length_filter_le _ _) (by rw [List.length_zip]; omega),fun lo hlo=>?_⟩
    obtain ⟨Hw,e9,k9,s9⟩:∃H',upd Hz lo (.lst ((((as.zip ss).filter fun z=>decide ((ivA H2 (axA H2 i z.2)).2≤r)).map (·.1)).map V.ref))=H'∧H' lo=some (.lst ((((as.zip ss).filter fun z=>decide ((ivA H2 (axA H2 i z.2)).2≤r)).map (·.1)).map V.ref))∧Same Hz H':=⟨_,rfl,upd_same,Same.new hlo⟩
    rw [show upd Hz lo _=Hw from e9]
    exact hR _ _ ⟨lo,rfl,k9,sz.trans s9⟩
  rintro _ H5 ⟨la,rfl,hla,s45⟩
  refine ah (fun σ' H'=>∃lb:Addr,σ'=[some (.ref s),some (.ref l),some (.ref sl),some (.int i),some (.str wy),some (.int r),some (.ref la),some (.ref lb)]∧H' lb=some (.lst ((((as.zip ss).filter fun z=>decide (r < (ivA H2 (axA H2 i z.2)).2)).map (·.1)).map V.ref))∧Same H5 H') (fun R hR=>?_) ?_
  ·refine ⟨_,rfl,_,rfl,l,sl,_,_,rfl,(s04.trans s45) _ _ hl,(s24.trans s45) _ _ hsl,iB (xs:=as.map V.ref) (ys:=ss.map V.ref) (fun j zs Hz=>Same H5 Hz∧zs=((((as.zip ss).take j).filter fun z=>decide (r < (ivA H2 (axA H2 i z.2)).2)).map (·.1)).map V.ref) (by rw [List.length_map,List.length_map,asl]) (fun j zs Hz ⟨sz,_⟩=>⟨sz _ _ ((s04.trans s45) _ _ hl),sz _ _ ((s24.trans s45) _ _ hsl)⟩) ⟨Same.refl _,rfl⟩ (fun j zs Hz hj ⟨_,e⟩=>?_) ?_ ?_⟩
   ·rw [e,List.length_map,List.length_map]
    refine Nat.lt_of_le_of_lt (List.length_filter_le _ _) ?_
    rw [List.length_take,List.length_zip]; omega
   ·rintro j x y tz zs Hz hx hy htz ⟨sz,rfl⟩
    rw [List.getElem?_map] at hx hy
    obtain ⟨a,ha,rfl⟩:=Option.map_eq_some_iff.mp hx
    obtain ⟨sp,hsp,rfl⟩:=Option.map_eq_some_iff.mp hy
    have hjn:j < as.length:=(List.getElem?_eq_some_iff.mp ha).1
    obtain ⟨r1,r2,f1,f2⟩:=axt i sp i2 (List.mem_of_getElem? hsp)
    obtain ⟨xx,yy,f3,f4,_⟩:=axf i sp (List.mem_of_getElem? hsp)
    obtain ⟨Hw,e8,k8,s8⟩:∃H',upd Hz tz (.tup [.ref a,.ref sp])=H'∧H' tz=some (.tup [.ref a,.ref sp])∧Same Hz H':=⟨_,rfl,upd_same,Same.new htz⟩
    rw [show upd Hz tz _=Hw from e8]
    have szw:=sz.trans s8
    refine ⟨tz,_,rfl,SqT.of k8,rfl,_,_,rfl,_,_,rfl,rfl,vc (leS.set rfl) (leS.set rfl),?_⟩
    refine ⟨_,rfl,_,rfl,sp,_,_,_,rfl,rfl,SqT.of (szw _ _ ((s24.trans s45) _ _ f1)),f2,_,_,1,_,rfl,rfl,SqT.of (szw _ _ ((s24.trans s45) _ _ f3)),rfl,_,rfl,_,_,rfl,rfl,_,rfl,?_⟩
    have hzz:(as.zip ss)[j]? = some (a,sp):=List.getElem?_zip_eq_some.mpr ⟨ha,hsp⟩
    have ey:(ivA H2 (axA H2 i sp)).2=yy:=by rw [f4]
    have nx:∀us:List V,us=(((((as.zip ss).take (j + 1)).filter fun z=>decide (r < (ivA H2 (axA H2 i z.2)).2)).map (·.1)).map V.ref)→Nx (as.map V.ref).length (fun j zs Hz=>Same H5 Hz∧zs=((((as.zip ss).take j).filter fun z=>decide (r < (ivA H2 (axA H2 i z.2)).2)).map (·.1)).map V.ref) j us Hw:=fun us e=>Nx.of (by rw [List.length_map]; exact hjn) ⟨szw,e⟩
    rw [List.take_add_one,hzz,Option.toList_some,List.filter_append] at nx
    refine ck (fun cc=>?_) (fun cc=>?_)
    ·refine ⟨_,rfl,nx _ ?_⟩
     rw [show [(a,sp)].filter (fun z:Addr×Addr=>decide (r < (ivA H2 (axA H2 i z.2)).2))=[(a,sp)] by rw [List.filter_cons_of_pos (by show decide _=true; rw [ey]; exact cc)]; rfl,List.map_append,List.map_append]
     rfl
    ·refine nx _ ?_
     rw [show [(a,sp)].filter (fun z:Addr×Addr=>decide (r < (ivA H2 (axA H2 i z.2)).2))=[] by rw [List.filter_cons_of_neg (by show ¬ decide _=true; rw [ey]; exact cc)]; rfl,List.append_nil]
   ·rintro zs Hz ⟨sz,rfl⟩
    rw [show (as.map V.ref).length=(as.zip ss).length by rw [List.length_map,List.length_zip]; omega,List.take_length]
    refine ⟨by rw [List.length_map,List.length_map]; exact Nat.le_trans (List.length_filter_le _ _) (by rw [List.length_zip]; omega),fun lo hlo=>?_⟩
    obtain ⟨Hw,e9,k9,s9⟩:∃H',upd Hz lo (.lst ((((as.zip ss).filter fun z=>decide (r < (ivA H2 (axA H2 i z.2)).2)).map (·.1)).map V.ref))=H'∧H' lo=some (.lst ((((as.zip ss).filter fun z=>decide (r < (ivA H2 (axA H2 i z.2)).2)).map (·.1)).map V.ref))∧Same Hz H':=⟨_,rfl,upd_same,Same.new hlo⟩
    rw [show upd Hz lo _=Hw from e9]
    exact hR _ _ ⟨lo,rfl,k9,sz.trans s9⟩
  rintro _ H6 ⟨lb,rfl,hlb,s56⟩
  refine ⟨_,rfl,_,rfl,_,rfl,_,rfl,(by show 4≤sizeLine; decide),fun t ht=>?_⟩
  obtain ⟨H7,e7,k7,s7⟩:∃H',upd H6 t (.tup [.str wy,.int r,.ref la,.ref lb])=H'∧H' t=some (.tup [.str wy,.int r,.ref la,.ref lb])∧Same H6 H':=⟨_,rfl,upd_same,Same.new ht⟩
  rw [show upd H6 t _=H7 from e7]
  have f1:=dq (f:=fun a=>decide ((gA ks H i a).2≤r)) (g:=fun s=>decide ((ivA H2 (axA H2 i s)).2≤r)) asl fun j a s ha hs=>by
   show decide _=decide _
   rw [link i j a s i2 ha hs]
  have f2:=dq (f:=fun a=>decide (r < (gA ks H i a).2)) (g:=fun s=>decide (r < (ivA H2 (axA H2 i s)).2)) asl fun j a s ha hs=>by
   show decide _=decide _
   rw [link i j a s i2 ha hs]
  have hla':=s7 _ _ (s56 _ _ hla)
  have hlb':=s7 _ _ hlb
  rw [f1] at hla'
  rw [f2] at hlb'
  rw [ewy] at k7
  exact q2' t la lb i r H7 i2 k7 hla' hlb' hpts (s04.trans (s45.trans (s56.trans s7)))
 rintro _ H3 ⟨⟨v3,v4,v5,v6,v7,rfl⟩,s23,nop⟩
 exact q1' H3 (s02.trans s23) nop
end
def nW (H:Hp) (a:Addr):List Int:=match H a with
 | some (.tup [.int i,.bl c,.int x,.int y])=>[i,if c=true then 1 else 0,x,y]
 | _=>[]
theorem hG {H:Hp} {a:Addr} {p:Pq} (h:H a=some (.tup (pqV p))):nW H a=[(p.k:Int),if p.c=true then 1 else 0,p.x,p.y]:=by
 unfold nW
 rw [h]
 rfl
def Kn2 (b:Int) (g:Nat→Addr→Int×Int) (L:List Addr):Prop:=2≤L.length∧∀i < 2,∀r,¬ Pts b L (g i) r
def KT (b:Int) (g:Nat→Addr→Int×Int) (as:List Addr) (z:Str):Prop:=(z = "knot" ∧ ∃L,L.Sublist as∧Kn2 b g L)∨(z = "tree" ∧ ∀L,L.Sublist as→¬ Kn2 b g L)
theorem Kn2.congr {b:Int} {g g':Nat→Addr→Int×Int} {L:List Addr} (e:∀a∈L,∀i,g i a=g' i a) (h:Kn2 b g L):Kn2 b g' L:=by
 refine ⟨h.1,fun i hi r hp=>h.2 i hi r ?_⟩
 obtain ⟨⟨a,ha,h1⟩,⟨c,hc,h2⟩,h3⟩:=hp
 exact ⟨⟨a,ha,by rw [e a ha]; exact h1⟩,⟨c,hc,by rw [e c hc]; exact h2⟩,fun x hx=>by rw [e x hx]; exact h3 x hx⟩
theorem KT.congr {b:Int} {g g':Nat→Addr→Int×Int} {as:List Addr} {z:Str} (e:∀a∈as,∀i,g i a=g' i a) (h:KT b g as z):KT b g' as z:=by
 rcases h with ⟨hz,L,hL,hk⟩ | ⟨hz,hn⟩
 ·exact .inl ⟨hz,L,hL,hk.congr fun a ha=>e a (hL.subset ha)⟩
 ·exact .inr ⟨hz,fun L hL hk=>hn L hL (hk.congr fun a ha i=>(e a (hL.subset ha) i).symm)⟩
theorem KT.sub {b:Int} {g:Nat→Addr→Int×Int} {as as1:List Addr} {z:Str} (s:as1.Sublist as) (hz:z = "knot") (h:KT b g as1 z):KT b g as z:=by
 rcases h with ⟨_,L,hL,hk⟩ | ⟨hz',_⟩
 ·exact .inl ⟨hz,L,hL.trans s,hk⟩
 ·rw [hz] at hz'
  exact absurd hz' (by decide +kernel)
theorem KT.tree {b:Int} {g:Nat→Addr→Int×Int} {as:List Addr} {z:Str} (hz:z ≠ "knot") (h:KT b g as z):∀L,L.Sublist as→¬ Kn2 b g L:=by
 rcases h with ⟨h,_⟩ | ⟨_,h⟩
 ·exact absurd h hz
 ·exact h
theorem KT.cut {b:Int} {g:Nat→Addr→Int×Int} {as:List Addr} {i:Nat} {r:Int} (hi:i < 2) (hp:Pts b as (g i) r) (h1:∀L,L.Sublist (as.filter fun a=>decide ((g i a).2≤r))→¬ Kn2 b g L) (h2:∀L,L.Sublist (as.filter fun a=>decide (r < (g i a).2))→¬ Kn2 b g L):∀L,L.Sublist as→¬ Kn2 b g L:=fun L hL hk=>by
 by_cases a1:∃a∈L,(g i a).2≤r
 ·by_cases a2:∃a∈L,r < (g i a).2
  ·obtain ⟨c,hc,hcr⟩:=a2
   refine hk.2 i hi r ⟨a1,⟨c,hc,?_⟩,fun a ha=>hp.2.2 a (hL.subset ha)⟩
   rcases hp.2.2 c (hL.subset hc) with h | h
   ·omega
   ·exact h
  ·refine h1 L ?_ hk
   have:=hL.filter (fun a=>decide ((g i a).2≤r))
   rwa [List.filter_eq_self.mpr (fun a ha=>decide_eq_true (by
    by_cases h:(g i a).2≤r
    ·exact h
    ·exact absurd ⟨a,ha,by omega⟩ a2))] at this
 ·refine h2 L ?_ hk
  have:=hL.filter (fun a=>decide (r < (g i a).2))
  rwa [List.filter_eq_self.mpr (fun a ha=>decide_eq_true (by
   by_cases h:(g i a).2≤r
   ·exact absurd ⟨a,ha,h⟩ a1
   ·omega))] at this
theorem ef {ks:List Kd} {H H':Hp} {a:Addr} (s:Same H H') (h:PzP ks H a) (i:Nat):gA ks H' i a=gA ks H i a:=by
 obtain ⟨p,k,h1,_,h3⟩:=h
 rw [dg h1 h3,dg (s _ _ h1) h3]
theorem qK {ks:List Kd} {H:Hp} {a:Addr} (gk:∀k∈ks,Good k) (h:PzP ks H a) (i:Nat):(gA ks H i a).1 < (gA ks H i a).2:=by
 obtain ⟨p,k,h1,_,h3⟩:=h
 have g:=gk k (List.mem_of_getElem? h3)
 have g1:=g.w
 have g2:=g.h
 rw [dg h1 h3]
 split
 ·show p.x < p.x + sd1 k p.c
  unfold sd1; split <;> omega
 ·show p.y < p.y + sd2 k p.c
  unfold sd2; split <;> omega
def qA (H:Hp) (a:Addr):Pq:=match H a with
 | some (.tup [.int k,.bl c,.int x,.int y])=>⟨k.toNat,c,x,y⟩
 | _=>⟨0,false,0,0⟩
theorem gr {H:Hp} {a:Addr} {p:Pq} (h:H a=some (.tup (pqV p))):qA H a=p:=by
 unfold qA
 rw [h]
 show (⟨(p.k:Int).toNat,p.c,p.x,p.y⟩:Pq)=p
 rw [Int.toNat_natCast]
theorem qa {ks:List Kd} {H H':Hp} {a:Addr} (s:Same H H') (h:PzP ks H a):qA H' a=qA H a:=by
 obtain ⟨p,k,h1,_⟩:=h
 rw [gr h1,gr (s _ _ h1)]
def InB (ks:List Kd) (H:Hp) (x y W h:Int) (a:Addr):Prop:=x≤(gA ks H 0 a).1∧(gA ks H 0 a).2≤x + W∧y≤(gA ks H 1 a).1∧(gA ks H 1 a).2≤y + h
def PT (b:Int) (ks:List Kd) (H:Hp) (x y:Int) (as:List Addr) (T:Tr):Prop:=dT T≤as.length∧lvN T≤max 1 as.length∧(pcT b T x y).Perm (as.map (qA H))∧∀W h,(∀a∈as,InB ks H x y W h a)→okU b ks W h T
theorem PT.congr {b x y:Int} {ks:List Kd} {H H':Hp} {as:List Addr} {T:Tr} (s:Same H H') (hp:∀a∈as,PzP ks H a) (h:PT b ks H' x y as T):PT b ks H x y as T:=by
 obtain ⟨h1,hl,h2,h3⟩:=h
 refine ⟨h1,hl,?_,fun W h hin=>h3 W h fun a ha=>?_⟩
 ·rw [List.map_congr_left (fun a ha=>(qa s (hp a ha)).symm)]
  exact h2
 ·have:=hin a ha
  unfold InB at *
  rw [ef s (hp a ha),ef s (hp a ha)]
  exact this
theorem PT.leaf {b x y:Int} {ks:List Kd} {H H1:Hp} {as:List Addr} {r:Addr} (hl:as.length < 2) (hp:∀a∈as,PzP ks H a) (h0:as=[]→H1 r=some (.tup [.str "rest"])) (h1:∀a0 r0 p,as=a0 :: r0→H a0=some (.tup (pqV p))→H1 r=some (.tup [.str "piece",.int p.k,.bl p.c,.int (p.x - x),.int (p.y - y)])):∃T,TrV H1 T (.ref r)∧PT b ks H x y as T:=by
 cases as with
 | nil=>exact ⟨.rest,⟨r,rfl,h0 rfl⟩,Nat.le_refl _,Nat.le_refl _,List.Perm.refl _,fun _ _ _=>trivial⟩
 | cons a r0 =>
  cases r0 with
  | cons c r1 =>
   simp only [List.length_cons] at hl
   omega
  | nil =>
   obtain ⟨p,k,e1,ly,hk⟩:=hp a List.mem_cons_self
   refine ⟨.piece p.k p.c (p.x - x) (p.y - y),⟨r,rfl,h1 a [] p rfl e1⟩,Nat.zero_le _,Nat.le_refl _,?_,fun W h hin=>?_⟩
   ·show List.Perm [(⟨p.k,p.c,x + (p.x - x),y + (p.y - y)⟩:Pq)] [qA H a]
    rw [gr e1,show x + (p.x - x)=p.x by omega,show y + (p.y - y)=p.y by omega]
   ·obtain ⟨i1,i2,i3,i4⟩:=hin a List.mem_cons_self
    rw [dg e1 hk] at i1 i2 i3 i4
    have i1:x≤p.x:=i1
    have i2:p.x + sd1 k p.c≤x + W:=i2
    have i3:y≤p.y:=i3
    have i4:p.y + sd2 k p.c≤y + h:=i4
    exact ⟨k,hk,nU ly hk,by omega,by omega,by omega,by omega⟩
theorem PT.cut {b x y r:Int} {ks:List Kd} {H:Hp} {as:List Addr} {T1 T2:Tr} {i:Nat} (hi:i < 2) (b0:0≤b) (lt:∀a∈as,∀i,(gA ks H i a).1 < (gA ks H i a).2) (hp:Pts b as (gA ks H i) r) (h1:PT b ks H x y (as.filter fun a=>decide ((gA ks H i a).2≤r)) T1) (h2:PT b ks H (if i=0 then r + b else x) (if i=0 then y else r + b) (as.filter fun a=>decide (r < (gA ks H i a).2)) T2):PT b ks H x y as (.cut (decide (i=0)) (if i=0 then r - x else r - y) T1 T2):=by
 have m1:∀a∈as,(gA ks H i a).2≤r→a∈as.filter fun a=>decide ((gA ks H i a).2≤r):=fun a ha h=>List.mem_filter.mpr ⟨ha,decide_eq_true h⟩
 have m2:∀a∈as,r < (gA ks H i a).2→a∈as.filter fun a=>decide (r < (gA ks H i a).2):=fun a ha h=>List.mem_filter.mpr ⟨ha,decide_eq_true h⟩
 obtain ⟨⟨a1,ha1,q1⟩,⟨a2,ha2,q2⟩,q3⟩:=hp
 have l1:=lt a1 ha1 i
 have l2:=lt a2 ha2 i
 have p1:=List.length_pos_of_mem (m1 a1 ha1 q1)
 have p2:=List.length_pos_of_mem (m2 a2 ha2 (by omega))
 have pm:((as.filter fun a=>decide ((gA ks H i a).2≤r)) ++ (as.filter fun a=>decide (r < (gA ks H i a).2))).Perm as:=by
  have:=List.filter_append_perm (fun a=>decide ((gA ks H i a).2≤r)) as
  have e:(as.filter fun a=>!decide ((gA ks H i a).2≤r))=as.filter fun a=>decide (r < (gA ks H i a).2):=List.filter_congr fun a _=>by
   by_cases c:(gA ks H i a).2≤r
   ·rw [decide_eq_true c,decide_eq_false (by omega)]; rfl
   ·rw [decide_eq_false c,decide_eq_true (by omega)]; rfl
  rw [e] at this
  exact this
 have ll:=pm.length_eq
 rw [List.length_append] at ll
 obtain ⟨d1,v1,e1,o1⟩:=h1
 obtain ⟨d2,v2,e2,o2⟩:=h2
 refine ⟨by show max (dT T1) (dT T2) + 1≤_; omega,by show lvN T1 + lvN T2≤_; omega,?_,fun W h hin=>?_⟩
 ·refine List.Perm.trans ?_ (pm.map (qA H))
  rw [List.map_append]
  refine List.Perm.append e1 ?_
  have:i=0∨i=1:=by omega
  rcases this with rfl | rfl
  ·show List.Perm (pcT b T2 (x + (r - x + b)) y) _
   rw [show x + (r - x + b)=r + b by omega]
   exact e2
  ·show List.Perm (pcT b T2 x (y + (r - y + b))) _
   rw [show y + (r - y + b)=r + b by omega]
   exact e2
 ·have in1:=hin a1 ha1
  have in2:=hin a2 ha2
  have:i=0∨i=1:=by omega
  rcases this with rfl | rfl
  ·refine ⟨by have:=in1.1; show 1≤r - x; omega,?_⟩
   show r - x + b < W∧okU b ks (r - x) h T1∧okU b ks (W - (r - x) - b) h T2
   refine ⟨by have:=in2.2.1; omega,o1 _ _ fun a ha=>?_,o2 _ _ fun a ha=>?_⟩
   ·obtain ⟨ha,hr⟩:=List.mem_filter.mp ha
    have hr:=of_decide_eq_true hr
    obtain ⟨i1,i2,i3,i4⟩:=hin a ha
    exact ⟨i1,by omega,i3,i4⟩
   ·obtain ⟨ha,hr⟩:=List.mem_filter.mp ha
    have hr:=of_decide_eq_true hr
    obtain ⟨i1,i2,i3,i4⟩:=hin a ha
    have:=(q3 a ha).resolve_left (by omega)
    exact ⟨this,by show _≤r + b + _; omega,i3,i4⟩
  ·refine ⟨by have:=in1.2.2.1; show 1≤r - y; omega,?_⟩
   show r - y + b < h∧okU b ks W (r - y) T1∧okU b ks W (h - (r - y) - b) T2
   refine ⟨by have:=in2.2.2.2; omega,o1 _ _ fun a ha=>?_,o2 _ _ fun a ha=>?_⟩
   ·obtain ⟨ha,hr⟩:=List.mem_filter.mp ha
    have hr:=of_decide_eq_true hr
    obtain ⟨i1,i2,i3,i4⟩:=hin a ha
    exact ⟨i1,i2,i3,by omega⟩
   ·obtain ⟨ha,hr⟩:=List.mem_filter.mp ha
    have hr:=of_decide_eq_true hr
    obtain ⟨i1,i2,i3,i4⟩:=hin a ha
    have:=(q3 a ha).resolve_left (by omega)
    exact ⟨i1,i2,this,by show _≤r + b + _; omega⟩
theorem KT.word {b:Int} {g:Nat→Addr→Int×Int} {as:List Addr} {z:Str} (h:KT b g as z) (n:z ≠ "knot"):z = "tree" := (h.resolve_left fun e=>n e.1).1
section
variable {P:Program} {w:World} {K:PySem.W.Frag} {mg:Str→Option Value} {base:Heap}
def cR (C:Addr) (n:Nat):Sp:=fun vs H Q _=>∃ (s l:Addr) (x y b:Int) (ks:List Kd) (as:List Addr), vs=[.ref s, .int x, .int y, .ref l]∧ShopAt C H s b ks∧0≤b∧(∀k∈ks, Good k)∧H l=some (.lst (as.map V.ref))∧(∀a∈as, PzP ks H a)∧as.length < 64∧as.length < n∧∀ (t:Addr) (z:Str) (u:V) (H':Hp), H' t=some (.tup [.str z, u])→KT b (gA ks H) as z→(z = "tree" → ∃T, TrV H' T u∧PT b ks H x y as T)→Same H H'→Q (.ref t) H'
theorem scpart:FnScope ["shop","x","y","pieces","cut","way","place","ahead","behind","first","step","second"] ["shop","x","y","pieces"] (defScope bi):=⟨rfl,rfl,rfl,by decide +kernel,rfl,by decide +kernel,by decide +kernel⟩
set_option maxHeartbeats 1000000 in
theorem qb {f C:Addr} {ttr tkn tdn:Tok} {fd:FuncData} (F:Fun K "part_pieces" "part_pieces" bi f fd) (n:Nat) (B:Blt mg) (T:ShopTxt K C) (htr:mg "TREE" = some (.str "tree" ttr)) (hkn:mg "KNOT" = some (.str "knot" tkn)) (hdn:mg "DOWN" = some (.str "down" tdn)) (MB:Mn P w K mg base C "blade" ["self"] 1 (dL C)) (DLf:Dn P w K mg base "leaf_of" ["x","y","pieces"] 1 (ee)) (DCu:Dn P w K mg base "parting_cut" ["shop","pieces"] 5 (gZ C)) (DPt:Dn P w K mg base "part_pieces" ["shop","x","y","pieces"] (5 + n) (cR C n)):FnOk P w K mg base CX0 (5 + (n + 1)) f fd ["shop","x","y","pieces"] (cR C (n + 1)):=by
 refine F.ok scpart (fun vs H Q E h=>?_) (fun cdv A outer s H vs Q E hr h=>?_)
 ·obtain ⟨s,l,x,y,b,ks,as,rfl,_⟩:=h
  rfl
 obtain ⟨s,l,x,y,b,ks,as,rfl,S0,b0,gk,hl,hp,l64,ln,q⟩:=h
 have nd:=scpart.nd
 refine ⟨_,(@ae _ _ _ _ _ (@aI _ _ _ _ _ _ _ _ (@aB _ _ _ _ _ _ _ _ ij (@ay _ _ _ _ _ _ _ _ _ aK rfl B.len PySem.boot_len (@aa _ _ _ _ _ (pv 3) ab rfl) (by decide) (by decide) rfl rfl) ad (az _)) (@af _ _ _ (@ar _ _ _ _ (@aF _ _ _ _ _ (@aa _ _ _ _ _ (bj (v:=.str "tree") rfl htr ⟨ttr,rfl⟩) (@aa _ _ _ _ _ (@ao _ _ _ _ _ _ _ _ _ _ DLf (hr.mono (show 1≤5 + n by omega)) rfl (@aa _ _ _ _ _ (pv 1) (@aa _ _ _ _ _ (pv 2) (@aa _ _ _ _ _ (pv 3) ab rfl) rfl) rfl) (by decide) rfl rfl) ab rfl) rfl)))) aA) (@ae _ _ _ _ _ (@aE _ _ 4 _ _ _ _ nd rfl (Or.inl rfl) (@ao _ _ _ _ _ _ _ _ _ _ DCu (hr.mono (show 5≤5 + n by omega)) rfl (@aa _ _ _ _ _ (pv 0) (@aa _ _ _ _ _ (pv 3) ab rfl) rfl) (by decide) rfl rfl) rfl (Or.inl rfl)) (@ae _ _ _ _ _ (@aI _ _ _ _ _ _ _ _ (@aB _ _ _ _ _ _ _ _ gD (pv 4) bF (az _)) (@af _ _ _ (@ar _ _ _ _ (@aF _ _ _ _ _ (@aa _ _ _ _ _ (bj (v:=.str "knot") rfl hkn ⟨tkn,rfl⟩) (@aa _ _ _ _ _ (@ay _ _ _ _ _ _ _ _ _ cI rfl B.sorted PyProof.Rows.boot_sorted (@aa _ _ _ _ _ (pv 3) ab rfl) (by decide) (by decide) rfl rfl) ab rfl) rfl)))) aA) (@ae _ _ _ _ _ (@bn _ _ _ _ _ _ (pv 4) (bd rfl (ai (aj (i:=5) nd rfl (Or.inl rfl)) (ai (aj (i:=6) nd rfl (Or.inl rfl)) (ai (aj (i:=7) nd rfl (Or.inl rfl)) (ai (aj (i:=8) nd rfl (Or.inl rfl)) aP))))) rfl rfl rfl) (@ae _ _ _ _ _ (@aE _ _ 9 _ _ _ _ nd rfl (Or.inl rfl) (@ao _ _ _ _ _ _ _ _ _ _ DPt hr rfl (@aa _ _ _ _ _ (pv 0) (@aa _ _ _ _ _ (pv 1) (@aa _ _ _ _ _ (pv 2) (@aa _ _ _ _ _ (pv 7) ab rfl) rfl) rfl) rfl) (by decide) rfl rfl) rfl (Or.inl rfl)) (@ae _ _ _ _ _ (@aI _ _ _ _ _ _ _ _ (@aB _ _ _ _ _ _ _ _ bK (@au _ _ _ _ _ _ _ ix_tup (pv 9) ad (fun _ _=>rfl)) (bj (v:=.str "knot") rfl hkn ⟨tkn,rfl⟩) (az _)) (@af _ _ _ (@ar _ _ _ _ (pv 9))) aA) (@ae _ _ _ _ _ (@aE _ _ 10 _ _ _ _ nd rfl (Or.inl rfl) (@aD _ _ _ _ _ _ _ _ aO (pv 6) (nv (pv 0) T.cl MB (hr.mono (show 1≤5 + n by omega)))) rfl (Or.inl rfl)) (@ae _ _ _ _ _ (@aE _ _ 11 _ _ _ _ nd rfl (Or.inl rfl) (ig (@aB _ _ _ _ _ _ _ _ bK (pv 5) (bj (v:=.str "down") rfl hdn ⟨tdn,rfl⟩) (az _)) (@ao _ _ _ _ _ _ _ _ _ _ DPt hr rfl (@aa _ _ _ _ _ (pv 0) (@aa _ _ _ _ _ (pv 10) (@aa _ _ _ _ _ (pv 2) (@aa _ _ _ _ _ (pv 8) ab rfl) rfl) rfl) rfl) (by decide) rfl rfl) (@ao _ _ _ _ _ _ _ _ _ _ DPt hr rfl (@aa _ _ _ _ _ (pv 0) (@aa _ _ _ _ _ (pv 1) (@aa _ _ _ _ _ (pv 10) (@aa _ _ _ _ _ (pv 8) ab rfl) rfl) rfl) rfl) (by decide) rfl rfl)) rfl (Or.inl rfl)) (@ae _ _ _ _ _ (@aI _ _ _ _ _ _ _ _ (@aB _ _ _ _ _ _ _ _ bK (@au _ _ _ _ _ _ _ ix_tup (pv 11) ad (fun _ _=>rfl)) (bj (v:=.str "knot") rfl hkn ⟨tkn,rfl⟩) (az _)) (@af _ _ _ (@ar _ _ _ _ (pv 11))) aA) (@af _ _ _ (@ar _ _ _ _ (@aF _ _ _ _ _ (@aa _ _ _ _ _ (bj (v:=.str "tree") rfl htr ⟨ttr,rfl⟩) (@aa _ _ _ _ _ (@aF _ _ _ _ _ (@aa _ _ _ _ _ (pv 5) (@aa _ _ _ _ _ (ig (@aB _ _ _ _ _ _ _ _ bK (pv 5) (bj (v:=.str "down") rfl hdn ⟨tdn,rfl⟩) (az _)) (@aD _ _ _ _ _ _ _ _ bf (pv 6) (pv 1)) (@aD _ _ _ _ _ _ _ _ bf (pv 6) (pv 2))) (@aa _ _ _ _ _ (@au _ _ _ _ _ _ _ ix_tup (pv 9) ad (fun _ _=>rfl)) (@aa _ _ _ _ _ (@au _ _ _ _ _ _ _ ix_tup (pv 11) ad (fun _ _=>rfl)) ab rfl) rfl) rfl) rfl)) ab rfl) rfl))))))))))))),?_⟩
 have sz:(1000:Nat) < sizeLine:=by decide
 obtain ⟨dx,r0,rs,h1,h2,h3⟩:=id S0
 refine ah (fun σ' H'=>σ'=[some (.ref s),some (.int x),some (.int y),some (.ref l),none,none,none,none,none,none,none,none]∧H=H'∧2≤as.length) (fun R hR=>?_) ?_
 ·refine ⟨_,rfl,l,_,rfl,.inl (SqL.of hl),_,_,rfl,rfl,_,rfl,?_⟩
  refine ck (fun cc=>?_) (fun cc=>hR _ _ ⟨rfl,rfl,?_⟩)
  ·refine ⟨_,rfl,_,rfl,_,rfl,x,y,l,as,rfl,hl,fun a ha=>let ⟨p,_,e,_⟩:=hp a ha; ⟨p,e⟩,fun r H1 hr0 hr1 s1=>⟨(by show 2≤sizeLine; decide),fun t ht=>q t _ _ _ upd_same (.inr ⟨rfl,fun L hL hk=>?_⟩) (fun _=>?_) (s1.trans (Same.new ht))⟩⟩
   ·have cc:(((as.map V.ref).length:Int) < 2):=of_decide_eq_true cc
    rw [List.length_map] at cc
    have:=hL.length_le
    have:=hk.1
    omega
   ·have cc:(((as.map V.ref).length:Int) < 2):=of_decide_eq_true cc
    rw [List.length_map] at cc
    obtain ⟨T,tv,pt⟩:=PT.leaf (b:=b) (x:=x) (y:=y) (by omega) hp hr0 hr1
    exact ⟨T,TrV.keep (fun a xs e=>Same.new ht _ _ e) T tv,pt⟩
  ·have cc:¬ (((as.map V.ref).length:Int) < 2):=fun z=>cc (decide_eq_true z)
   rw [List.length_map] at cc
   omega
 rintro _ _ ⟨rfl,rfl,l2⟩
 refine ah (fun σ' H'=>∃cv:V, σ'=[some (.ref s), some (.int x), some (.int y), some (.ref l), some cv, none, none, none, none, none, none, none]∧Same H H'∧((cv=.non∧∀i < 2, ∀r, ¬ Pts b as (gA ks H i) r)∨∃ (t0 la lb:Addr) (wy:Str) (r:Int) (as1 as2:List Addr) (i:Nat), wy=(if i=0 then ("down" : Str) else "across")∧cv=.ref t0∧H' t0=some (.tup [.str wy, .int r, .ref la, .ref lb])∧H' la=some (.lst (as1.map V.ref))∧H' lb=some (.lst (as2.map V.ref))∧i < 2∧Pts b as (gA ks H i) r∧as1=as.filter (fun a=>decide ((gA ks H i a).2≤r))∧as2=as.filter (fun a=>decide (r < (gA ks H i a).2)))) (fun R hR=>?_) ?_
 ·exact ⟨_,rfl,_,rfl,s,l,b,ks,as,rfl,S0,b0,gk,hl,hp,l2,l64,fun H1 s1 no=>hR _ _ ⟨.non,rfl,s1,.inl ⟨rfl,no⟩⟩,fun t la lb i r H1 hi e1 e2 e3 hp s1=>hR _ _ ⟨.ref t,rfl,s1,.inr ⟨t,la,lb,_,r,_,_,i,rfl,rfl,e1,e2,e3,hi,hp,rfl,rfl⟩⟩⟩
 rintro _ H1 ⟨cv,rfl,s1,hcv⟩
 refine ah (fun σ' H'=>σ'=[some (.ref s),some (.int x),some (.int y),some (.ref l),some cv,none,none,none,none,none,none,none]∧H1=H'∧cv≠.non) (fun R hR=>?_) ?_
 ·refine ⟨_,rfl,rfl,_,rfl,?_⟩
  by_cases hc:cv=.non
  ·have no:∀i < 2,∀r,¬ Pts b as (gA ks H i) r:=by
    rcases hcv with ⟨_,no⟩ | ⟨t0,_,_,_,_,_,_,_,_,e,_⟩
    ·exact no
    ·rw [hc] at e; cases e
   rw [decide_eq_true hc]
   refine aY ⟨_,rfl,l,as,[false,true,false,false],nW H1,rfl,SqL.of (s1 _ _ hl),l64,rfl,fun a ha=>?_,fun lo as' hlo pa so=>⟨(by show 2≤sizeLine; decide),fun t ht=>q t _ _ _ upd_same (.inl ⟨rfl,as,List.Sublist.refl _,l2,no⟩) (fun e=>absurd e (by decide +kernel)) (s1.trans ((Same.new hlo).trans (Same.new ht)))⟩⟩
   obtain ⟨p,k,e1,_⟩:=hp a ha
   exact ⟨_,SqT.of (s1 _ _ e1),by rw [hG (s1 _ _ e1)]; rfl⟩
  ·rw [decide_eq_false hc]
   exact aM (hR _ _ ⟨rfl,rfl,hc⟩)
 rintro _ _ ⟨rfl,rfl,hc⟩
 obtain ⟨t0,la,lb,wy,r,as1,as2,ix,ewy,rfl,ht0,hla,hlb,ix2,hpts,eas1,eas2⟩:=hcv.resolve_left fun z=>hc z.1
 have sb1:as1.Sublist as:=eas1 ▸ List.filter_sublist
 have sb2:as2.Sublist as:=eas2 ▸ List.filter_sublist
 have m1:∀a∈as1,a∈as:=fun a ha=>sb1.subset ha
 have m2:∀a∈as2,a∈as:=fun a ha=>sb2.subset ha
 have n1:1≤as1.length:=by
  obtain ⟨a,ha,h⟩:=hpts.1
  rw [eas1]; exact fS ha (decide_eq_true h)
 have n2:1≤as2.length:=by
  obtain ⟨a,ha,h⟩:=hpts.2.1
  have:=qK gk (hp a ha) ix
  rw [eas2]; exact fS ha (decide_eq_true (by omega))
 have n12:as1.length + as2.length=as.length:=by
  have:=fR (fun a=>decide ((gA ks H ix a).2≤r)) as
  rw [eas1,eas2,← this]
  congr 2
  refine List.filter_congr fun a _=>?_
  by_cases c:(gA ks H ix a).2≤r
  ·rw [decide_eq_true c,decide_eq_false (by omega)]; rfl
  ·rw [decide_eq_false c,decide_eq_true (by omega)]; rfl
 refine ah (fun σ' H'=>σ'=[some (.ref s),some (.int x),some (.int y),some (.ref l),some (.ref t0),some (.str wy),some (.int r),some (.ref la),some (.ref lb),none,none,none]∧H1=H') (fun R hR=>?_) ?_
 ·exact ⟨_,rfl,t0,_,rfl,SqT.of ht0,rfl,_,_,rfl,_,_,rfl,_,_,rfl,_,_,rfl,rfl,hR _ _ ⟨rfl,rfl⟩⟩
 rintro _ _ ⟨rfl,rfl⟩
 refine ah (fun σ' H'=>∃ (t1:Addr) (z:Str) (u:V), σ'=[some (.ref s), some (.int x), some (.int y), some (.ref l), some (.ref t0), some (.str wy), some (.int r), some (.ref la), some (.ref lb), some (.ref t1), none, none]∧H' t1=some (.tup [.str z, u])∧KT b (gA ks H) as1 z∧(z = "tree" → ∃T, TrV H' T u∧PT b ks H x y as1 T)∧Same H1 H') (fun R hR=>?_) ?_
 ·exact ⟨_,rfl,_,rfl,_,rfl,_,rfl,s,la,x,y,b,ks,as1,rfl,cr s1 S0,b0,gk,hla,fun a ha=>(hp a (m1 a ha)).same s1,by omega,by omega,fun t z u H2 ht kt tr s2=>hR _ _ ⟨t,z,u,rfl,ht,kt.congr (fun a ha i=>ef s1 (hp a (m1 a ha)) i),fun e=>(by obtain ⟨T,tv,pt⟩:=tr e; exact ⟨T,tv,pt.congr s1 fun a ha=>hp a (m1 a ha)⟩),s2⟩⟩
 rintro _ H2 ⟨t1,z1,u1,rfl,ht1,kt1,tr1,s12⟩
 have s02:=s1.trans s12
 refine ah (fun σ' H'=>σ'=[some (.ref s), some (.int x), some (.int y), some (.ref l), some (.ref t0), some (.str wy), some (.int r), some (.ref la), some (.ref lb), some (.ref t1), none, none]∧H2=H'∧z1 ≠ "knot") (fun R hR=>?_) ?_
 ·refine ⟨_,rfl,t1,_,0,_,rfl,rfl,SqT.of (ht1),rfl,rfl,_,rfl,?_⟩
  exact ck (fun cc=>⟨_,rfl,q t1 z1 u1 H2 ht1 (kt1.sub sb1 (V.str.inj (of_decide_eq_true cc))) (fun e=>absurd (e ▸ V.str.inj (of_decide_eq_true cc):("tree" : Str) = "knot") (by decide +kernel)) s02⟩) (fun cc=>hR _ _ ⟨rfl,rfl,fun e=>cc (decide_eq_true (by rw [e]))⟩)
 rintro _ _ ⟨rfl,rfl,nz1⟩
 refine ah (fun σ' H'=>σ'=[some (.ref s),some (.int x),some (.int y),some (.ref l),some (.ref t0),some (.str wy),some (.int r),some (.ref la),some (.ref lb),some (.ref t1),some (.int (r + b)),none]∧H2=H') (fun R hR=>?_) ?_
 ·exact ⟨_,rfl,_,rfl,s,dx,_,rfl,s02 _ _ h1,cU _ _ (by decide +kernel) (by decide +kernel),s,b,ks,rfl,cr s02 S0,_,_,rfl,rfl,hR _ _ ⟨rfl,rfl⟩⟩
 rintro _ _ ⟨rfl,rfl⟩
 have hlb2:=s12 _ _ hlb
 have ewD:decide (V.str wy=V.str "down")=true→ix=0:=fun c=>by
  have c:wy = "down" := V.str.inj (of_decide_eq_true c)
  by_cases h:ix=0
  ·exact h
  ·rw [ewy,if_neg h] at c
   exact absurd c (by decide +kernel)
 have ewA:¬ decide (V.str wy=V.str "down")=true→ix≠0:=fun c h=>c (decide_eq_true (by rw [ewy,if_pos h]))
 refine ah (fun σ' H'=>∃ (t2:Addr) (z:Str) (u:V), σ'=[some (.ref s), some (.int x), some (.int y), some (.ref l), some (.ref t0), some (.str wy), some (.int r), some (.ref la), some (.ref lb), some (.ref t1), some (.int (r + b)), some (.ref t2)]∧H' t2=some (.tup [.str z, u])∧KT b (gA ks H) as2 z∧(z = "tree" → ∃T, TrV H' T u∧PT b ks H (if ix=0 then r + b else x) (if ix=0 then y else r + b) as2 T)∧Same H2 H') (fun R hR=>?_) ?_
 ·refine ⟨_,rfl,rfl,_,rfl,?_⟩
  refine ck (fun cc=>?_) (fun cc=>?_)
  ·exact ⟨_,rfl,_,rfl,_,rfl,_,rfl,s,lb,(r + b),y,b,ks,as2,rfl,cr s02 S0,b0,gk,hlb2,fun a ha=>(hp a (m2 a ha)).same s02,by omega,by omega,fun t z u H3 ht kt tr s3=>hR _ _ ⟨t,z,u,rfl,ht,kt.congr (fun a ha i=>ef s02 (hp a (m2 a ha)) i),fun e=>(by obtain ⟨T,tv,pt⟩:=tr e; exact ⟨T,tv,by rw [if_pos (ewD cc),if_pos (ewD cc)]; exact pt.congr s02 fun a ha=>hp a (m2 a ha)⟩),s3⟩⟩
  ·exact ⟨_,rfl,_,rfl,_,rfl,_,rfl,s,lb,x,(r + b),b,ks,as2,rfl,cr s02 S0,b0,gk,hlb2,fun a ha=>(hp a (m2 a ha)).same s02,by omega,by omega,fun t z u H3 ht kt tr s3=>hR _ _ ⟨t,z,u,rfl,ht,kt.congr (fun a ha i=>ef s02 (hp a (m2 a ha)) i),fun e=>(by obtain ⟨T,tv,pt⟩:=tr e; exact ⟨T,tv,by rw [if_neg (ewA cc),if_neg (ewA cc)]; exact pt.congr s02 fun a ha=>hp a (m2 a ha)⟩),s3⟩⟩
 rintro _ H3 ⟨t2,z2,u2,rfl,ht2,kt2,tr2,s23⟩
 have s03:=s02.trans s23
 have ht13:=s23 _ _ ht1
 refine ah (fun σ' H'=>σ'=[some (.ref s), some (.int x), some (.int y), some (.ref l), some (.ref t0), some (.str wy), some (.int r), some (.ref la), some (.ref lb), some (.ref t1), some (.int (r + b)), some (.ref t2)]∧H3=H'∧z2 ≠ "knot") (fun R hR=>?_) ?_
 ·refine ⟨_,rfl,t2,_,0,_,rfl,rfl,SqT.of (ht2),rfl,rfl,_,rfl,?_⟩
  exact ck (fun cc=>⟨_,rfl,q t2 z2 u2 H3 ht2 (kt2.sub sb2 (V.str.inj (of_decide_eq_true cc))) (fun e=>absurd (e ▸ V.str.inj (of_decide_eq_true cc):("tree" : Str) = "knot") (by decide +kernel)) s03⟩) (fun cc=>hR _ _ ⟨rfl,rfl,fun e=>cc (decide_eq_true (by rw [e]))⟩)
 rintro _ _ ⟨rfl,rfl,nz2⟩
 have kt:KT b (gA ks H) as "tree" := .inr ⟨rfl,KT.cut ix2 hpts (eas1 ▸ kt1.tree nz1) (eas2 ▸ kt2.tree nz2)⟩
 obtain ⟨T1,tv1,pt1⟩:=tr1 (kt1.word nz1)
 obtain ⟨T2,tv2,pt2⟩:=tr2 (kt2.word nz2)
 have pt:=PT.cut ix2 b0 (fun a ha i=>qK gk (hp a ha) i) hpts (eas1 ▸ pt1) (eas2 ▸ pt2)
 refine ⟨_,rfl,_,rfl,rfl,_,rfl,?_⟩
 refine ck (fun cc=>?_) (fun cc=>?_)
 ·exact ⟨_,rfl,_,rfl,_,_,rfl,rfl,_,rfl,t1,_,1,_,rfl,rfl,SqT.of (ht13),rfl,_,rfl,t2,_,1,_,rfl,rfl,SqT.of (ht2),rfl,(by show 4≤sizeLine; decide),fun a ha=>⟨(by show 2≤sizeLine; decide),fun t ht=>q t _ _ _ upd_same kt (fun _=>⟨.cut (decide (ix=0)) (if ix=0 then r - x else r - y) T1 T2,⟨a,u1,u2,rfl,(Same.new ht _ _ (upd_same.trans (congrArg (fun l=>some (HO.tup l)) (show [V.str wy,V.int (r - x),u1,u2]=[V.str (if decide (ix=0)=true then "down" else "across"),V.int (if ix=0 then r - x else r - y),u1,u2] by simp [ewy,ewD cc])))),TrV.keep (fun c xs e=>Same.new ht _ _ (Same.new ha _ _ (s23 _ _ e))) T1 tv1,TrV.keep (fun c xs e=>Same.new ht _ _ (Same.new ha _ _ e)) T2 tv2⟩,pt⟩) (s03.trans ((Same.new ha).trans (Same.new ht)))⟩⟩
 ·exact ⟨_,rfl,_,rfl,_,_,rfl,rfl,_,rfl,t1,_,1,_,rfl,rfl,SqT.of (ht13),rfl,_,rfl,t2,_,1,_,rfl,rfl,SqT.of (ht2),rfl,(by show 4≤sizeLine; decide),fun a ha=>⟨(by show 2≤sizeLine; decide),fun t ht=>q t _ _ _ upd_same kt (fun _=>⟨.cut (decide (ix=0)) (if ix=0 then r - x else r - y) T1 T2,⟨a,u1,u2,rfl,(Same.new ht _ _ (upd_same.trans (congrArg (fun l=>some (HO.tup l)) (show [V.str wy,V.int (r - y),u1,u2]=[V.str (if decide (ix=0)=true then "down" else "across"),V.int (if ix=0 then r - x else r - y),u1,u2] by simp [ewy,ewA cc])))),TrV.keep (fun c xs e=>Same.new ht _ _ (Same.new ha _ _ (s23 _ _ e))) T1 tv1,TrV.keep (fun c xs e=>Same.new ht _ _ (Same.new ha _ _ e)) T2 tv2⟩,pt⟩) (s03.trans ((Same.new ha).trans (Same.new ht)))⟩⟩
theorem nX {f C:Addr} {fd:FuncData} (F:Fun K "part_pieces" "part_pieces" bi f fd):FnOk P w K mg base CX0 5 f fd ["shop","x","y","pieces"] (cR C 0):=by
 refine F.ok scpart (fun vs H Q E h=>?_) (fun cdv A outer s H vs Q E hr h=>?_)
 ·obtain ⟨s,l,x,y,b,ks,as,rfl,_⟩:=h
  rfl
 ·obtain ⟨s,l,x,y,b,ks,as,_,_,_,_,_,_,_,z,_⟩:=h
  exact absurd z (Nat.not_lt_zero _)
theorem iT {f C:Addr} {ttr tkn tdn:Tok} {fd:FuncData} (F:Fun K "part_pieces" "part_pieces" bi f fd) (B:Blt mg) (T:ShopTxt K C) (htr:mg "TREE" = some (.str "tree" ttr)) (hkn:mg "KNOT" = some (.str "knot" tkn)) (hdn:mg "DOWN" = some (.str "down" tdn)) (MB:Mn P w K mg base C "blade" ["self"] 1 (dL C)) (DLf:Dn P w K mg base "leaf_of" ["x","y","pieces"] 1 (ee)) (DCu:Dn P w K mg base "parting_cut" ["shop","pieces"] 5 (gZ C)) (mk:∀n,FnOk P w K mg base CX0 (5 + n) f fd ["shop","x","y","pieces"] (cR C n)→Dn P w K mg base "part_pieces" ["shop","x","y","pieces"] (5 + n) (cR C n)):∀n,FnOk P w K mg base CX0 (5 + n) f fd ["shop","x","y","pieces"] (cR C n)
 | 0=>nX F
 | n + 1=>qb F n B T htr hkn hdn MB DLf DCu (mk n (iT F B T htr hkn hdn MB DLf DCu mk n))
end
def loB (i:Nat) (x:Bx):Int:=if i=0 then x.a else x.b
def hiB (i:Nat) (x:Bx):Int:=if i=0 then x.c else x.d
def PtB (b:Int) (i:Nat) (bs:List Bx) (r:Int):Prop:=(∃x∈bs,hiB i x≤r)∧(∃x∈bs,r + b≤loB i x)∧∀x∈bs,hiB i x≤r∨r + b≤loB i x
theorem nY (o r:Bx):apB o r=Bool.not (de o r):=by
 unfold apB de
 by_cases h1:o.c≤r.a <;> by_cases h2:r.c≤o.a <;> by_cases h3:o.d≤r.b <;> by_cases h4:r.d≤o.b <;> simp [h1,h2,h3,h4] <;> omega
theorem eg {ks:List Kd} {i:Nat} {c:Bool} (h:(i,c)∈lyK ks 0):∃k,ks[i]? = some k∧bS ks (.int (i:Int)) (.bl c)=true:=by
 obtain ⟨_,k,hk,hc⟩:=jI h
 have hk:ks[i]? = some k:=by simpa using hk
 refine ⟨k,hk,?_⟩
 show (decide (0≤(i:Int)) && match ks[(i:Int).toNat]? with
  | some k=>!c || aQ k
  | none=>false)=true
 rw [Int.toNat_natCast,hk,decide_eq_true (Int.natCast_nonneg i)]
 rcases hc with hc | hc
 ·have hc:c=false:=hc
  rw [hc]; rfl
 ·show (true && (!c || aQ k))=true
  rw [hc,Bool.or_true]; rfl
theorem qc {ks:List Kd} {W h:Int} {d:PyData} {p:Pq} {k:Kd} (pd:PqD d p) (ly:bS ks (.int p.k) (.bl p.c)=true) (hk:ks[p.k]? = some k) (x0:0≤p.x) (y0:0≤p.y) (on:onB ks W h p=true):bQ ks W h d=true:=by
 unfold bQ
 rw [pd]
 show dY ks W h (.int p.k) (.bl p.c) (.int p.x) (.int p.y)=true
 unfold onB at on
 rw [cu hk] at on
 simp only [Bool.not_eq_true',Bool.or_eq_false_iff,decide_eq_false_iff_not] at on
 have e1:aN (.int p.x) 0=true:=decide_eq_true x0
 have e2:aN (.int p.y) 0=true:=decide_eq_true y0
 unfold dY
 rw [ly,e1,e2]
 show (true && true && true && (match ks[(p.k:Int).toNat]? with
  | some k=>decide (p.x + sd1 k p.c≤W) && decide (p.y + sd2 k p.c≤h)
  | none=>false))=true
 rw [Int.toNat_natCast,hk]
 have a1:¬ W < p.x + sd1 k p.c:=on.1
 have a2:¬ h < p.y + sd2 k p.c:=on.2
 show (true && true && true && (decide (p.x + sd1 k p.c≤W) && decide (p.y + sd2 k p.c≤h)))=true
 rw [decide_eq_true (show p.x + sd1 k p.c≤W by omega),decide_eq_true (show p.y + sd2 k p.c≤h by omega)]
 rfl
theorem lL {C x dx:Addr} {H:Hp} (hx:H x=none) (hd:H dx=none):Same H (upd (upd H dx (.own x)) x (.ins C dx [])):=fun c o e=>by
 rw [aw (ag e hx),aw (ag e hd)]; exact e
theorem nZ {C p s:Addr} {H H':Hp} {b:Int} {ks:List Kd} (pt:PotC H p) (bt:But p H H') (S:ShopAt C H s b ks):ShopAt C H' s b ks:=by
 obtain ⟨_,hp⟩:=iP pt
 exact S.keep (fun c xs e=>bt _ _ (fun z=>by rw [z,hp] at e; cases e) e) (fun c C' d fs e=>bt _ _ (fun z=>by rw [z,hp] at e; cases e) e)
def bA (ks:List Kd) (H:Hp) (a:Addr):Bx:=⟨(gA ks H 0 a).1,(gA ks H 1 a).1,(gA ks H 0 a).2,(gA ks H 1 a).2⟩
theorem vd {ks:List Kd} {H:Hp} {a:Addr} {p:Pq} {k:Kd} (h:H a=some (.tup (pqV p))) (hk:ks[p.k]? = some k):bA ks H a=aS ks p:=by
 rw [cu hk]
 unfold bA
 rw [dg h hk,dg h hk]
 rfl
theorem oe {ks:List Kd} {H:Hp}:∀ {as:List Addr} {ps:List Pq},Paired (PqT ks H) (as.map V.ref) ps→ps.map (aS ks)=as.map (bA ks H)
 | [],_,.nil=>rfl
 | a :: as,_,.cons ⟨c,e,h,hin,_⟩ r=>by
  cases e
  obtain ⟨k,hk,_⟩:=eg hin
  rw [List.map_cons,List.map_cons,oe r,vd h hk]
theorem kJ {ks:List Kd} {H:Hp}:∀ {ys:List V} {ps:List Pq},Paired (PqT ks H) ys ps→∃as:List Addr,ys=as.map V.ref∧∀a∈as,PzP ks H a
 | _,_,.nil=>⟨[],rfl,fun a h=>by simp at h⟩
 | _,_,.cons (b:=p) ⟨a,e,h,hin,_⟩ r=>by
  obtain ⟨as,e2,h2⟩:=kJ r
  obtain ⟨k,hk,ly⟩:=eg hin
  refine ⟨a :: as,by rw [e,e2]; rfl,fun c hc=>?_⟩
  rcases List.mem_cons.mp hc with rfl | hc
  ·exact ⟨p,k,h,ly,hk⟩
  ·exact h2 c hc
theorem og {ks:List Kd} {H:Hp} {b r:Int} {L:List Addr} {i:Nat} (hi:i < 2):Pts b L (gA ks H i) r↔PtB b i (L.map (bA ks H)) r:=by
 have lo:∀a,loB i (bA ks H a)=(gA ks H i a).1:=fun a=>by
  have:i=0∨i=1:=by omega
  rcases this with rfl | rfl <;> rfl
 have hi:∀a,hiB i (bA ks H a)=(gA ks H i a).2:=fun a=>by
  have:i=0∨i=1:=by omega
  rcases this with rfl | rfl <;> rfl
 constructor
 ·rintro ⟨⟨a,ha,h1⟩,⟨c,hc,h2⟩,h3⟩
  refine ⟨⟨_,List.mem_map_of_mem ha,by rw [hi]; exact h1⟩,⟨_,List.mem_map_of_mem hc,by rw [lo]; exact h2⟩,fun x hx=>?_⟩
  obtain ⟨d,hd,rfl⟩:=List.mem_map.mp hx
  rw [lo,hi]
  exact h3 d hd
 ·rintro ⟨⟨x,hx,h1⟩,⟨y,hy,h2⟩,h3⟩
  obtain ⟨a,ha,rfl⟩:=List.mem_map.mp hx
  obtain ⟨c,hc,rfl⟩:=List.mem_map.mp hy
  rw [hi] at h1
  rw [lo] at h2
  refine ⟨⟨a,ha,h1⟩,⟨c,hc,h2⟩,fun d hd=>?_⟩
  have:=h3 _ (List.mem_map_of_mem hd)
  rw [lo,hi] at this
  exact this
def KnX (b:Int) (L:List Bx):Prop:=2≤L.length∧∀i < 2,∀r,¬ PtB b i L r
def HasK (b:Int) (bs:List Bx):Prop:=∃L,L.Sublist bs∧KnX b L
def KTB (b:Int) (bs:List Bx) (z:Str):Prop:=(z = "knot" ∧ HasK b bs)∨(z = "tree" ∧ ¬ HasK b bs)
theorem rL {ks:List Kd} {H:Hp} {b:Int} {as:List Addr} {z:Str} (h:KT b (gA ks H) as z):KTB b (as.map (bA ks H)) z:=by
 have e:∀L:List Addr,Kn2 b (gA ks H) L↔KnX b (L.map (bA ks H)):=fun L =>
  ⟨fun k=>⟨by rw [List.length_map]; exact k.1,fun i hi r p=>k.2 i hi r ((og hi).mpr p)⟩,fun k=>⟨by have:=k.1; rwa [List.length_map] at this,fun i hi r p=>k.2 i hi r ((og hi).mp p)⟩⟩
 rcases h with ⟨hz,L,hL,hk⟩ | ⟨hz,no⟩
 ·exact .inl ⟨hz,_,hL.map _,(e L).mp hk⟩
 ·refine .inr ⟨hz,fun ⟨L,hL,hk⟩=>?_⟩
  obtain ⟨L',hL',rfl⟩:=List.sublist_map_iff.mp hL
  exact no L' hL' ((e L').mpr hk)
theorem qd {b:Int} {i:Nat} {L L':List Bx} {r:Int} (h:∀x,x∈L↔x∈L') (p:PtB b i L r):PtB b i L' r:=by
 obtain ⟨⟨x,hx,h1⟩,⟨y,hy,h2⟩,h3⟩:=p
 exact ⟨⟨x,(h x).mp hx,h1⟩,⟨y,(h y).mp hy,h2⟩,fun z hz=>h3 z ((h z).mpr hz)⟩
theorem HasK.perm {b:Int} {bs bs':List Bx} (p:bs.Perm bs') (h:HasK b bs):HasK b bs':=by
 obtain ⟨L,hL,l2,no⟩:=h
 obtain ⟨L',pL,sL⟩:=List.exists_perm_sublist hL p
 exact ⟨L',sL,by rw [pL.length_eq]; exact l2,fun i hi r q=>no i hi r (qd (fun x=>pL.mem_iff) q)⟩
def shB (x y:Int) (g:Bx):Bx:=⟨g.a + x,g.b + y,g.c + x,g.d + y⟩
def exB (g:Bx):Bx:=⟨g.b,g.a,g.d,g.c⟩
def enB (m:Int) (g:Bx):Bx:=⟨g.a * m,g.b * m,g.c * m,g.d * m⟩
def OnP (ks:List Kd) (W h:Int) (q:Pq):Prop:=(q.k,q.c)∈lyK ks 0∧0≤q.x∧0≤q.y∧(aS ks q).c≤W∧(aS ks q).d≤h
def Lay (ks:List Kd) (W h:Int) (ps:List Pq):Prop:=(∀q∈ps,OnP ks W h q)∧ps.Pairwise (fun o p=>apB (aS ks o) (aS ks p)=true)
theorem iU (o r:Bx):apB o r=apB r o:=by
 unfold apB
 cases decide (o.c≤r.a) <;> cases decide (r.c≤o.a) <;> cases decide (o.d≤r.b) <;> cases decide (r.d≤o.b) <;> rfl
theorem Lay.perm {ks:List Kd} {W h:Int} {ps qs:List Pq} (p:ps.Perm qs) (l:Lay ks W h ps):Lay ks W h qs :=
 ⟨fun q hq=>l.1 q (p.mem_iff.mpr hq),(List.Perm.pairwise_iff (fun {x y} e=>by rw [iU]; exact e) p).mp l.2⟩
theorem OnP.kd {ks:List Kd} {W h:Int} {q:Pq} (o:OnP ks W h q):∃k,ks[q.k]? = some k∧bS ks (.int q.k) (.bl q.c)=true:=eg o.1
theorem OnP.plac {ks:List Kd} {W h:Int} {q:Pq} {d:PyData} (o:OnP ks W h q) (pd:PqD d q):bQ ks W h d=true:=by
 obtain ⟨k,hk,ly⟩:=o.kd
 obtain ⟨_,x0,y0,h1,h2⟩:=o
 refine qc pd ly hk x0 y0 ?_
 unfold onB
 rw [decide_eq_false (by omega),decide_eq_false (by omega)]
 rfl
theorem ve {ks:List Kd} {W h:Int} {d:PyData} {ds:List PyData} {ps:List Pq} (l:Lay ks W h ps) (hd:cg d=some ds) (pd:Paired PqD ds ps):pU ks W h d:=by
 refine ⟨ds,ps,hd,pd,fun x hx=>?_,fun i p hp o ho=>?_⟩
 ·obtain ⟨i,hi⟩:=List.mem_iff_getElem?.mp hx
  obtain ⟨q,hq,e⟩:=Paired.getR pd hi
  exact (l.1 q (List.mem_of_getElem? hq)).plac e
 ·obtain ⟨j,hj,rfl⟩:=List.mem_take_iff_getElem.mp ho
  obtain ⟨hi,rfl⟩:=List.getElem?_eq_some_iff.mp hp
  have:=List.pairwise_iff_getElem.mp l.2 j i (by omega) hi (by omega)
  rw [iU,nY] at this
  simpa using this
def mvQ (x y:Int) (q:Pq):Pq:=⟨q.k,q.c,q.x + x,q.y + y⟩
def exQ (q:Pq):Pq:=⟨q.k,q.c,q.y,q.x⟩
def enQ (m:Int) (q:Pq):Pq:=⟨q.k,q.c,q.x * m,q.y * m⟩
def swK (k:Kd):Kd:=⟨k.h,k.w,k.wo,k.wa,k.tu⟩
def tmK (m:Int) (k:Kd):Kd:=⟨k.w * m,k.h * m,k.wo,k.wa,k.tu⟩
def PqU (H:Hp) (v:V) (q:Pq):Prop:=∃a,v=.ref a∧H a=some (.tup (pqV q))
theorem PqU.keep {H H':Hp} (k:∀a xs,H a=some (.tup xs)→H' a=some (.tup xs)) {v:V} {q:Pq} (h:PqU H v q):PqU H' v q:=by
 obtain ⟨a,e,h⟩:=h
 exact ⟨a,e,k _ _ h⟩
def PqI (p:Addr) (H:Hp) (v:V) (q:Pq):Prop:=∃a,v=.ref a∧a≠p∧Sq H a (pqV q)
theorem kL {p:Addr} {H:Hp}:∀ {ys:List V} {ps:List Pq},Paired (PqI p H) ys ps→∃ds,Dts p H ys ds∧Paired PqD ds ps∧wts ds=5 * ps.length
 | _,_,.nil=>⟨[],.nil,.nil,rfl⟩
 | _,_,.cons (b:=q) ⟨a,e,n,h⟩ r=>by
  subst e
  obtain ⟨ds,d1,d2,d3⟩:=kL r
  have it:Dts p H (pqV q) [.int q.k,.bool q.c,.int q.x,.int q.y]:=.cons (.int _) (.cons (.bl _) (.cons (.int _) (.cons (.int _) .nil)))
  rcases h with h | h
  ·exact ⟨_ :: ds,.cons (.lst n h it) d1,.cons rfl d2,by rw [wts,d3,List.length_cons]; simp only [wt,wts]; omega⟩
  ·exact ⟨_ :: ds,.cons (.tup h it) d1,.cons rfl d2,by rw [wts,d3,List.length_cons]; simp only [wt,wts]; omega⟩
theorem qL {ks:List Kd} {W h:Int} {H:Hp}:∀ {ys:List V} {ps:List Pq},Paired (PqU H) ys ps→(∀q∈ps,OnP ks W h q)→Paired (PqT ks H) ys ps
 | _,_,.nil,_=>.nil
 | _,_,.cons ⟨a,e,h⟩ r,l=>by
  have o:=l _ List.mem_cons_self
  exact .cons ⟨a,e,h,o.1,o.2.1,o.2.2.1⟩ (qL r fun q hq=>l q (List.mem_cons_of_mem _ hq))
theorem oh {ks:List Kd} {H:Hp}:∀ {as:List Addr} {ps:List Pq},Paired (PqT ks H) (as.map V.ref) ps→as.map (qA H)=ps
 | [],_,.nil=>rfl
 | a :: as,_,.cons ⟨c,e,h,_⟩ r=>by
  cases e
  rw [List.map_cons,oh r,gr h]
theorem qM {ks:List Kd} {W h:Int} {H:Hp}:∀ {as:List Addr} {ps:List Pq},Paired (PqT ks H) (as.map V.ref) ps→(∀q∈ps,OnP ks W h q)→∀a∈as,InB ks H 0 0 W h a
 | [],_,_,_,a,ha=>by simp at ha
 | c :: as,_,.cons (b:=q) ⟨c',e,h1,hin,x0,y0⟩ r,l,a,ha=>by
  cases e
  rcases List.mem_cons.mp ha with rfl | ha
  ·obtain ⟨k,hk,_⟩:=eg hin
   obtain ⟨_,_,_,o1,o2⟩:=l q List.mem_cons_self
   rw [cu hk] at o1 o2
   have o1:q.x + sd1 k q.c≤W:=o1
   have o2:q.y + sd2 k q.c≤h:=o2
   unfold InB
   rw [dg h1 hk,dg h1 hk]
   exact ⟨x0,by show q.x + sd1 k q.c≤0 + W; omega,y0,by show q.y + sd2 k q.c≤0 + h; omega⟩
  ·exact qM r (fun q hq=>l q (List.mem_cons_of_mem _ hq)) a ha
section
variable {P:Program} {w:World} {K:PySem.W.Frag} {mg:Str→Option Value} {base:Heap}
def oi (C:Addr):Sp:=fun vs H Q _=>∃ (pp s l:Addr) (b w h:Int) (ks:List Kd) (ys:List V) (ps:List Pq), vs=[.ref s, .int w, .int h, .ref l]∧ShopAt C H s b ks∧0≤b∧(∀k∈ks, Good k)∧1≤w∧1≤h∧l≠pp∧Sq H l ys∧Paired (PqI pp H) ys ps∧ys.length < 32∧Lay ks w h ps∧∀ (t:Addr) (z:Str) (u:V) (H':Hp), H' t=some (.tup [.str z, u])→KTB b (ps.map (aS ks)) z→(z = "tree" → ∃T, TrV H' T u∧okU b ks w h T∧(pcT b T 0 0).Perm ps∧dT T < 32∧lvN T≤32)→Same H H'→Q (.ref t) H'
theorem sctkz:FnScope ["shop","wide","high","laying"] ["shop","wide","high","laying"] (defScope bq):=⟨rfl,rfl,rfl,by decide +kernel,rfl,by decide +kernel,by decide +kernel⟩
theorem rM {f C:Addr} {fd:FuncData} (F:Fun K "tree_or_knot" "tree_or_knot" bq f fd) (B:Blt mg) (DI:Dn P w K mg base "is_laying" ["shop","wide","high","thing"] 6 (gW C)) (DPt:Dn P w K mg base "part_pieces" ["shop","x","y","pieces"] 37 (cR C 32)):FnOk P w K mg base CX0 38 f fd ["shop","wide","high","laying"] (oi C):=by
 refine F.ok sctkz (fun vs H Q E h=>?_) (fun cdv A outer s H vs Q E hr h=>?_)
 ·obtain ⟨pp,s,l,b,w1,h1,ks,ys,ps,rfl,_⟩:=h
  rfl
 obtain ⟨pp,s,l,b,w1,h1,ks,ys,ps,rfl,S0,b0,gk,w0,h0,nl,hl,pz,l32,la,q⟩:=h
 have nd:=sctkz.nd
 refine ⟨_,(@ae _ _ _ _ _ (@aI _ _ _ _ _ _ _ _ (@aL _ _ _ _ (@aH _ _ _ (@ao _ _ _ _ _ _ _ _ _ _ DI (hr.mono (by decide)) rfl (@aa _ _ _ _ _ (pv 0) (@aa _ _ _ _ _ (pv 1) (@aa _ _ _ _ _ (pv 2) (@aa _ _ _ _ _ (pv 3) ab rfl) rfl) rfl) rfl) (by decide) rfl rfl) (by intro _; rfl))) (@af _ _ _ ff) aA) (@af _ _ _ (@ar _ _ _ _ (@ao _ _ _ _ _ _ _ _ _ _ DPt hr rfl (@aa _ _ _ _ _ (pv 0) (@aa _ _ _ _ _ ad (@aa _ _ _ _ _ ad (@aa _ _ _ _ _ (eY (own:=["piece"]) (cs:=[]) (cap:=[]) rfl (fz (pv 3)) (bm (sc:=defScope bq) (N:=["shop","wide","high","laying"]) rfl rfl (by decide +kernel)) (fun _ _ _ _ _=>aj (i:=0) (by show List.Nodup (["piece"]:List Str) ; decide +kernel) rfl (Or.inl rfl) (Or.inr rfl)) (fun _ _ _ _ _=>bX) (fun _ _ _ _ _=>(aU (r:=iu K) bJ rfl B.tuple PyProof.Rows.boot_tuple (@aa _ _ _ _ _ (pv 0) ab rfl)))) ab rfl) rfl) rfl) rfl) (by decide) rfl rfl)))),?_⟩
 have sz:(40000:Nat) < sizeLine:=by decide
 have yl:=Paired.length pz
 obtain ⟨ds,d1,d2,d3⟩:=kL pz
 obtain ⟨d,hdr,hd,hwt⟩:∃d,cg d=some ds∧Dt pp H (.ref l) d∧wt d=wts ds + 1:=by
  rcases hl with z | z
  ·exact ⟨.list ds,rfl,.lst nl z d1,by rw [wt]⟩
  ·exact ⟨.tuple ds,rfl,.tup z d1,by rw [wt]⟩
 have ld:pU ks w1 h1 d:=ve la hdr d2
 refine ah (fun σ' H'=>σ'=[some (.ref s),some (.int w1),some (.int h1),some (.ref l)]∧Same H H') (fun R hR=>?_) ?_
 ·refine ⟨_,rfl,_,rfl,_,rfl,_,rfl,pp,s,b,w1,h1,ks,.ref l,d,rfl,S0,w0,h0,hd,by omega,fun r H1 hri s1=>⟨_,rfl,?_⟩⟩
  obtain rfl:=hri.mpr ld
  exact aM (hR _ _ ⟨rfl,s1⟩)
 rintro _ H1 ⟨rfl,s1⟩
 have hl1:=hl.same s1
 refine ⟨_,rfl,?_⟩
 dsimp only [kh,tC,kY]
 refine cT (K:=K) (j:=3) rfl hl1 (fun i us Hx=>Same H1 Hx∧Paired (PqU Hx) us (ps.take i)) (fun i us Hx _ e o h=>e.1 _ _ h) ⟨Same.refl _,.nil⟩ ?_ ?_
 ·rintro i x us Hx hi ⟨sx,pu⟩
  have hin:i < ys.length:=(List.getElem?_eq_some_iff.mp hi).1
  obtain ⟨q0,hq0,a,rfl,na,ha⟩:=Paired.getR pz hi
  have ul:=Paired.length pu
  rw [List.length_take] at ul
  refine ⟨by omega,leS.set rfl,bM ?_⟩
  refine ⟨_,rfl,a,pqV q0,rfl,?_⟩
  rcases (ha.same s1).same sx with z | z
  ·refine .inl ⟨SqL.of z,fun l2 hl2=>Nx.of hin ⟨sx.trans (Same.new hl2),?_⟩⟩
   rw [List.take_add_one,hq0]
   exact eO (Paired.mapP pu fun v q h=>h.keep fun a xs e=>Same.new hl2 _ _ e) (.cons ⟨l2,rfl,upd_same⟩ .nil)
  ·refine .inr ⟨SqT.of z,Nx.of hin ⟨sx,?_⟩⟩
   rw [List.take_add_one,hq0]
   exact eO pu (.cons ⟨a,rfl,z⟩ .nil)
 ·rintro us Hx ⟨sx,pu⟩
  rw [yl,List.take_length] at pu
  have ul:=Paired.length pu
  refine ⟨by omega,fun lo hlo=>?_⟩
  obtain ⟨H2,e2,k2,s2⟩:∃H',upd Hx lo (.lst us)=H'∧H' lo=some (.lst us)∧Same Hx H':=⟨_,rfl,upd_same,Same.new hlo⟩
  rw [show upd Hx lo _=H2 from e2]
  have s02:=(s1.trans sx).trans s2
  have pt2:Paired (PqT ks H2) us ps:=qL (Paired.mapP pu fun v q h=>h.keep fun a xs e=>s2 _ _ e) la.1
  obtain ⟨as,rfl,hzp⟩:=kJ pt2
  rw [List.length_map] at ul
  exact ⟨s,lo,0,0,b,ks,as,rfl,cr s02 S0,b0,gk,k2,hzp,by omega,by omega,fun t z u H' ht kt tr s'=>q t z u H' ht (by rw [oe pt2]; exact rL kt) (fun e=>(by obtain ⟨T,tv,d,lv,pm,ok⟩:=tr e; exact ⟨T,tv,ok _ _ (qM pt2 la.1),by rw [oh pt2] at pm; exact pm,by omega,by omega⟩)) (s02.trans s')⟩
end
structure Lf where
 x:Int
 y:Int
 w:Int
 h:Int
 t:Tr
def lvT (b:Int):Tr→Int→Int→Int→Int→List Lf
 | .cut dn p l r,x,y,w,h=>if dn=true then lvT b l x y p h ++ lvT b r (x + (p + b)) y (w - p - b) h else lvT b l x y w p ++ lvT b r x (y + (p + b)) w (h - p - b)
 | .rest,x,y,w,h=>[⟨x,y,w,h,.rest⟩]
 | .piece i c px py,x,y,w,h=>[⟨x,y,w,h,.piece i c px py⟩]
def lfQ (f:Lf):Option Pq:=match f.t with
 | .piece i c px py=>some ⟨i,c,f.x + px,f.y + py⟩
 | _=>none
theorem du (b:Int):∀ (t:Tr) (x y w h:Int),(lvT b t x y w h).filterMap lfQ=pcT b t x y
 | .rest,_,_,_,_=>rfl
 | .piece ..,_,_,_,_=>rfl
 | .cut true p l r,x,y,w,h=>by
  show (lvT b l x y p h ++ lvT b r (x + (p + b)) y (w - p - b) h).filterMap lfQ=pcT b l x y ++ pcT b r (x + (p + b)) y
  rw [List.filterMap_append,du b l,du b r]
 | .cut false p l r,x,y,w,h=>by
  show (lvT b l x y w p ++ lvT b r x (y + (p + b)) w (h - p - b)).filterMap lfQ=pcT b l x y ++ pcT b r x (y + (p + b))
  rw [List.filterMap_append,du b l,du b r]
theorem cw (b:Int):∀ (t:Tr) (x y w h:Int),(lvT b t x y w h).length=lvN t
 | .rest,_,_,_,_=>rfl
 | .piece ..,_,_,_,_=>rfl
 | .cut true p l r,x,y,w,h=>by
  show (lvT b l x y p h ++ lvT b r (x + (p + b)) y (w - p - b) h).length=lvN l + lvN r
  rw [List.length_append,cw b l,cw b r]
 | .cut false p l r,x,y,w,h=>by
  show (lvT b l x y w p ++ lvT b r x (y + (p + b)) w (h - p - b)).length=lvN l + lvN r
  rw [List.length_append,cw b l,cw b r]
theorem rN (b:Int) (t:Tr) (x y:Int):(pcT b t x y).length≤lvN t:=by
 rw [← du b t x y 0 0,← cw b t x y 0 0]
 exact List.length_filterMap_le _ _
def InP (ks:List Kd) (x y w h:Int) (q:Pq):Prop:=(q.k,q.c)∈lyK ks 0∧x≤(aS ks q).a∧(aS ks q).c≤x + w∧y≤(aS ks q).b∧(aS ks q).d≤y + h
theorem bI {b:Int} {ks:List Kd} (b0:0≤b):∀ {t:Tr} {x y w h:Int},okU b ks w h t→∀q∈pcT b t x y,InP ks x y w h q
 | .rest,_,_,_,_,_,q,hq=>by simp [pcT] at hq
 | .piece i c px py,x,y,w,h,⟨k,hk,hin,h1,h2,h3,h4⟩,q,hq=>by
  rw [List.mem_singleton.mp hq]
  unfold InP
  rw [cu (p:=⟨i,c,x + px,y + py⟩) hk]
  exact ⟨hin,by show x≤x + px; omega,by show x + px + sd1 k c≤_; omega,by show y≤y + py; omega,by show y + py + sd2 k c≤_; omega⟩
 | .cut true p l r,x,y,w,h,⟨p1,hp,hl,hr⟩,q,hq=>by
  rcases List.mem_append.mp hq with hq | hq
  ·obtain ⟨a1,a2,a3,a4,a5⟩:=bI b0 hl q hq
   exact ⟨a1,a2,by omega,a4,a5⟩
  ·obtain ⟨a1,a2,a3,a4,a5⟩:=bI b0 hr q hq
   exact ⟨a1,by omega,by omega,a4,a5⟩
 | .cut false p l r,x,y,w,h,⟨p1,hp,hl,hr⟩,q,hq=>by
  have hp:p + b < h∧okU b ks w p l∧okU b ks w (h - p - b) r:=⟨hp,hl,hr⟩
  rcases List.mem_append.mp hq with hq | hq
  ·obtain ⟨a1,a2,a3,a4,a5⟩:=bI b0 hl q hq
   exact ⟨a1,a2,a3,a4,by omega⟩
  ·obtain ⟨a1,a2,a3,a4,a5⟩:=bI b0 hr q hq
   exact ⟨a1,a2,a3,by omega,by omega⟩
theorem fT {b:Int} {ks:List Kd} (b0:0≤b):∀ {t:Tr} {x y w h:Int},okU b ks w h t→(pcT b t x y).Pairwise (fun o p=>apB (aS ks o) (aS ks p)=true)
 | .rest,_,_,_,_,_=>.nil
 | .piece ..,_,_,_,_,_=>List.pairwise_singleton _ _
 | .cut true p l r,x,y,w,h,⟨p1,hp,hl,hr⟩=>by
  refine List.pairwise_append.mpr ⟨fT b0 hl,fT b0 hr,fun o ho q hq=>?_⟩
  obtain ⟨_,_,a3,_⟩:=bI b0 hl o ho
  obtain ⟨_,c2,_⟩:=bI b0 hr q hq
  unfold apB
  rw [decide_eq_true (show (aS ks o).c≤(aS ks q).a by omega)]
  rfl
 | .cut false p l r,x,y,w,h,⟨p1,hp,hl,hr⟩=>by
  refine List.pairwise_append.mpr ⟨fT b0 hl,fT b0 hr,fun o ho q hq=>?_⟩
  obtain ⟨_,_,_,_,a5⟩:=bI b0 hl o ho
  obtain ⟨_,_,_,c4,_⟩:=bI b0 hr q hq
  unfold apB
  rw [decide_eq_true (show (aS ks o).d≤(aS ks q).b by omega),Bool.or_true]
  rfl
theorem rO {ks:List Kd} {q:Pq} (h:(q.k,q.c)∈lyK ks 0):(aS ks q).a=q.x∧(aS ks q).b=q.y:=by
 obtain ⟨k,hk,_⟩:=eg h
 rw [cu hk]
 exact ⟨rfl,rfl⟩
theorem qe {b:Int} {ks:List Kd} {t:Tr} {w h:Int} (b0:0≤b) (ok:okU b ks w h t):Lay ks w h (pcT b t 0 0):=by
 refine ⟨fun q hq=>?_,fT b0 ok⟩
 obtain ⟨a1,a2,a3,a4,a5⟩:=bI b0 ok q hq
 obtain ⟨e1,e2⟩:=rO a1
 exact ⟨a1,by omega,by omega,by omega,by omega⟩
theorem cS {b:Int} {ks:List Kd} (b0:0≤b):∀ {t:Tr} {x y w h:Int},okU b ks w h t→∀L:List Bx,L.Sublist ((pcT b t x y).map (aS ks))→2≤L.length→∃i,i < 2∧∃r,PtB b i L r
 | .rest,_,_,_,_,_,L,hL,l2=>by
  have:L.length≤0:=hL.length_le
  omega
 | .piece i c px py,x,y,_,_,_,L,hL,l2=>by
  have:L.length≤1:=hL.length_le
  omega
 | .cut true p l r,x,y,w,h,⟨p1,hp,hl,hr⟩,L,hL,l2=>by
  have hL:L.Sublist ((pcT b l x y ++ pcT b r (x + (p + b)) y).map (aS ks)):=hL
  rw [List.map_append] at hL
  obtain ⟨L1,L2,rfl,s1,s2⟩:=List.sublist_append_iff.mp hL
  by_cases z1:L1=[]
  ·subst z1
   exact cS b0 hr _ s2 l2
  by_cases z2:L2=[]
  ·subst z2
   rw [List.append_nil] at l2 ⊢
   exact cS b0 hl _ s1 l2
  have i1:∀g∈L1,g.c≤x + p:=fun g hg=>by
   obtain ⟨q,hq,rfl⟩:=List.mem_map.mp (s1.subset hg)
   exact (bI b0 hl q hq).2.2.1
  have i2:∀g∈L2,x + (p + b)≤g.a:=fun g hg=>by
   obtain ⟨q,hq,rfl⟩:=List.mem_map.mp (s2.subset hg)
   exact (bI b0 hr q hq).2.1
  obtain ⟨g1,r1,rfl⟩:=List.exists_cons_of_ne_nil z1
  obtain ⟨g2,r2,rfl⟩:=List.exists_cons_of_ne_nil z2
  refine ⟨0,by decide,x + p,⟨g1,List.mem_append.mpr (.inl List.mem_cons_self),i1 g1 List.mem_cons_self⟩,⟨g2,List.mem_append.mpr (.inr List.mem_cons_self),?_⟩,fun g hg=>?_⟩
  ·have:=i2 g2 List.mem_cons_self
   show x + p + b≤g2.a
   omega
  ·rcases List.mem_append.mp hg with hg | hg
   ·exact .inl (i1 g hg)
   ·refine .inr ?_
    have:=i2 g hg
    show x + p + b≤g.a
    omega
 | .cut false p l r,x,y,w,h,⟨p1,hp,hl,hr⟩,L,hL,l2=>by
  have hL:L.Sublist ((pcT b l x y ++ pcT b r x (y + (p + b))).map (aS ks)):=hL
  rw [List.map_append] at hL
  obtain ⟨L1,L2,rfl,s1,s2⟩:=List.sublist_append_iff.mp hL
  by_cases z1:L1=[]
  ·subst z1
   exact cS b0 hr _ s2 l2
  by_cases z2:L2=[]
  ·subst z2
   rw [List.append_nil] at l2 ⊢
   exact cS b0 hl _ s1 l2
  have i1:∀g∈L1,g.d≤y + p:=fun g hg=>by
   obtain ⟨q,hq,rfl⟩:=List.mem_map.mp (s1.subset hg)
   exact (bI b0 hl q hq).2.2.2.2
  have i2:∀g∈L2,y + (p + b)≤g.b:=fun g hg=>by
   obtain ⟨q,hq,rfl⟩:=List.mem_map.mp (s2.subset hg)
   exact (bI b0 hr q hq).2.2.2.1
  obtain ⟨g1,r1,rfl⟩:=List.exists_cons_of_ne_nil z1
  obtain ⟨g2,r2,rfl⟩:=List.exists_cons_of_ne_nil z2
  refine ⟨1,by decide,y + p,⟨g1,List.mem_append.mpr (.inl List.mem_cons_self),i1 g1 List.mem_cons_self⟩,⟨g2,List.mem_append.mpr (.inr List.mem_cons_self),?_⟩,fun g hg=>?_⟩
  ·have:=i2 g2 List.mem_cons_self
   show y + p + b≤g2.b
   omega
  ·rcases List.mem_append.mp hg with hg | hg
   ·exact .inl (i1 g hg)
   ·refine .inr ?_
    have:=i2 g hg
    show y + p + b≤g.b
    omega
theorem oj {b:Int} {ks:List Kd} {t:Tr} {w h:Int} (b0:0≤b) (ok:okU b ks w h t):¬ HasK b ((pcT b t 0 0).map (aS ks)):=fun ⟨L,hL,l2,no⟩=>by
 obtain ⟨i,hi,r,p⟩:=cS b0 ok L hL l2
 exact no i hi r p
def iV (q:Pq):List Int:=[(q.k:Int),if q.c=true then 1 else 0,q.x,q.y]
theorem om {p q:Pq} (h:iV p=iV q):p=q:=by
 obtain ⟨a,b,c,d⟩:=p
 obtain ⟨a',b',c',d'⟩:=q
 unfold iV at h
 simp only [List.cons.injEq,and_true] at h
 obtain ⟨h1,h2,h3,h4⟩:=h
 have h1:a=a':=by omega
 have h2:b=b':=by cases b <;> cases b' <;> simp_all
 rw [h1,h2,h3,h4]
theorem vf {ps qs:List Pq} (h:ps.Perm qs) (h1:(ps.map iV).Pairwise fun x y=>bC y x=false) (h2:(qs.map iV).Pairwise fun x y=>bC y x=false):ps=qs:=by
 rw [List.pairwise_map] at h1 h2
 exact h.eq_of_pairwise (fun a c _ _ x y=>om (eM _ _ y x)) h1 h2
def But2 (p q:Addr) (H H':Hp):Prop:=∀c o,c≠p→c≠q→H c=some o→H' c=some o
theorem But2.trans {p q:Addr} {H H' H'':Hp} (a:But2 p q H H') (b:But2 p q H' H''):But2 p q H H'':=fun c o n1 n2 e=>b c o n1 n2 (a c o n1 n2 e)
theorem But2.but {p q:Addr} {H H':Hp} (a:But p H H'):But2 p q H H':=fun c o n1 _ e=>a c o n1 e
def wyS (dn:Bool):Str:=if dn=true then "down" else "across"
theorem vg {K:PySem.W.Frag} {H:Hp}:∀ {ys:List V} {qs:List (Nat×Bool)},Paired (LyC H) ys qs→∃ds,DatVs K H ys ds∧ds.length=ys.length∧PyData.canLayAll0 ds=true∧PyData.depthAll ds≤1
 | _,_,.nil=>⟨[],.nil,rfl,rfl,Nat.zero_le _⟩
 | _,_,.cons ⟨a,e,ha⟩ r=>by
  subst e
  obtain ⟨ds,d1,d2,d3,d4⟩:=vg (K:=K) r
  refine ⟨_ :: ds,.cons (.tup (SqT.of ha) (.cons (.int _) (.cons (.bl _) .nil))) d1,by rw [List.length_cons,List.length_cons,d2],?_,?_⟩
  ·simp [PyData.canLayAll0,PyData.canLay0,d3]
  ·simp only [PyData.depthAll,PyData.depth]; omega
theorem LS.keep2 {H H':Hp} {t kl p rm:Addr} {b:Int} {ks:List Kd} {xs ys:List V} (x:LS H t b ks kl) (hp:H p=some (.lst xs)) (hr:H rm=some (.lst ys)) (n1:kl≠p) (n2:kl≠rm) (bt:But2 p rm H H'):LS H' t b ks kl:=by
 obtain ⟨rs,h1,h2,h3⟩:=x
 have k:∀a zs,H a=some (.tup zs)→H' a=some (.tup zs):=fun a zs e=>bt _ _ (fun z=>by rw [z,hp] at e; cases e) (fun z=>by rw [z,hr] at e; cases e) e
 exact ⟨rs,k _ _ h1,bt _ _ n1 n2 h2,Tups.keep k h3⟩
def FtL (ks:List Kd) (W h:Int) (q:Nat×Bool):Prop:=q∈lyK ks 0∧∃k,ks[q.1]? = some k∧sd1 k q.2≤W∧sd2 k q.2≤h
theorem kM {c:Bool} {a b:Prop} (h:c=true) (x:a):if c=true then a else b:=by rw [if_pos h]; exact x
theorem eU {c:Bool} {a b:Prop} (h:c=false) (x:b):if c=true then a else b:=by rw [if_neg (by rw [h]; exact Bool.false_ne_true)]; exact x
section
variable {P:Program} {w:World} {K:PySem.W.Frag} {mg:Str→Option Value} {base:Heap}
def gt:Sp:=fun vs H Q _=>∃ (t kl:Addr) (b W h p:Int) (ks:List Kd) (dn:Bool),vs=[.ref t,.int W,.int h,.str (wyS dn),.int p]∧LS H t b ks kl∧∀ (r r1 r2:Addr) (H':Hp),H' r=some (.tup [.ref r1,.ref r2])→H' r1=some (.tup [.int (if dn=true then p else W),.int (if dn=true then h else p)])→H' r2=some (.tup [.int (if dn=true then W - p - b else W),.int (if dn=true then h else h - p - b)])→Same H H'→Q (.ref r) H'
def eh:Sp:=fun vs H Q _=>∃ (p t kl:Addr) (b W h:Int) (ks:List Kd),vs=[.ref p,.ref t,.int W,.int h]∧PotC H p∧LS H t b ks kl∧kl≠p∧ks.length≤8∧(∀k∈ks,Good k)∧W < 10 ^ 58∧h < 10 ^ 58∧∀ (v:V) (T:Tr) (H':Hp),TrV H' T v→(∀b,okU b ks W h T)→lvN T=1→dT T=0→PotC H' p→But p H H'→Q v H'
def cx (n:Nat):Sp:=fun vs H Q _=>∃ (p t kl rm:Addr) (b W h r:Int) (ks:List Kd) (deep:Nat),vs=[.ref p,.ref t,.int W,.int h,.int deep,.ref rm]∧PotC H p∧LS H t b ks kl∧kl≠p∧kl≠rm∧rm≠p∧ks.length≤8∧(∀k∈ks,Good k)∧0≤b∧W < 10 ^ 58∧h < 10 ^ 58∧H rm=some (.lst [.int r])∧0≤r∧deep < n∧∀ (v:V) (T:Tr) (r':Int) (H':Hp),TrV H' T v→okU b ks W h T→0≤r'→(lvN T:Int)≤r - r' + 1→dT T≤deep→H' rm=some (.lst [.int r'])→PotC H' p→But2 p rm H H'→Q v H'
theorem scbeh:FnScope ["_law_shop_here","_law_wide","_law_high","_law_way","_law_p"] ["_law_shop_here","_law_wide","_law_high","_law_way","_law_p"] (defScope dS):=⟨rfl,rfl,rfl,by decide +kernel,rfl,by decide +kernel,by decide +kernel⟩
theorem rP {f:Addr} {fd:FuncData} (F:Fun K "_law_behind" "_law_behind" dS f fd) (B:Blt mg):FnOk P w K mg base CX0 1 f fd ["_law_shop_here","_law_wide","_law_high","_law_way","_law_p"] (gt):=by
 refine F.ok scbeh (fun vs H Q E h=>?_) (fun cdv A outer s H vs Q E hr h=>?_)
 ·obtain ⟨t,kl,b,W,h1,p,ks,dn,rfl,_⟩:=h
  rfl
 obtain ⟨t,kl,b,W,h1,p,ks,dn,rfl,sh,q⟩:=h
 have nd:=scbeh.nd
 refine ⟨_,(@ae _ _ _ _ _ (@aI _ _ _ _ _ _ _ _ (@aB _ _ _ _ _ _ _ _ bK (pv 3) br (az _)) (@af _ _ _ (@ar _ _ _ _ (@aF _ _ _ _ _ (@aa _ _ _ _ _ (@aF _ _ _ _ _ (@aa _ _ _ _ _ (pv 4) (@aa _ _ _ _ _ (pv 2) ab rfl) rfl)) (@aa _ _ _ _ _ (@aF _ _ _ _ _ (@aa _ _ _ _ _ (@aD _ _ _ _ _ _ _ _ bf (@aD _ _ _ _ _ _ _ _ bf (pv 1) (pv 4)) (@au _ _ _ _ _ _ _ ix_tup (pv 0) ad (fun _ _=>rfl))) (@aa _ _ _ _ _ (pv 2) ab rfl) rfl)) ab rfl) rfl)))) aA) (@af _ _ _ (@ar _ _ _ _ (@aF _ _ _ _ _ (@aa _ _ _ _ _ (@aF _ _ _ _ _ (@aa _ _ _ _ _ (pv 1) (@aa _ _ _ _ _ (pv 4) ab rfl) rfl)) (@aa _ _ _ _ _ (@aF _ _ _ _ _ (@aa _ _ _ _ _ (pv 1) (@aa _ _ _ _ _ (@aD _ _ _ _ _ _ _ _ bf (@aD _ _ _ _ _ _ _ _ bf (pv 2) (pv 4)) (@au _ _ _ _ _ _ _ ix_tup (pv 0) ad (fun _ _=>rfl))) ab rfl) rfl)) ab rfl) rfl))))),?_⟩
 obtain ⟨kr,ht,_⟩:=id sh
 refine ah (fun σ' H'=>σ'=[some (.ref t),some (.int W),some (.int h1),some (.str (wyS dn)),some (.int p)]∧H=H'∧dn=false) (fun R hR=>?_) ?_
 ·refine ⟨_,rfl,rfl,_,rfl,?_⟩
  cases dn with
  | false=>exact eU (by decide +kernel) (hR _ _ ⟨rfl,rfl,rfl⟩)
  | true =>
   refine kM (by decide +kernel) ?_
   refine ⟨_,rfl,_,rfl,(by show 2≤sizeLine; decide),fun r1 hr1=>?_⟩
   obtain ⟨H1,e1,k1,s1⟩:∃H',upd H r1 (.tup [.int p,.int h1])=H'∧H' r1=some (.tup [.int p,.int h1])∧Same H H':=⟨_,rfl,upd_same,Same.new hr1⟩
   rw [show upd H r1 _=H1 from e1]
   refine ⟨_,rfl,_,rfl,_,_,rfl,rfl,_,rfl,t,_,0,_,rfl,rfl,SqT.of (s1 _ _ ht),rfl,_,_,rfl,rfl,_,rfl,(by show 2≤sizeLine; decide),fun r2 hr2=>?_⟩
   obtain ⟨H2,e2,k2,s2⟩:∃H',upd H1 r2 (.tup [.int (W - p - b),.int h1])=H'∧H' r2=some (.tup [.int (W - p - b),.int h1])∧Same H1 H':=⟨_,rfl,upd_same,Same.new hr2⟩
   rw [show upd H1 r2 _=H2 from e2]
   refine ⟨(by show 2≤sizeLine; decide),fun r hr=>?_⟩
   obtain ⟨H3,e3,k3,s3⟩:∃H',upd H2 r (.tup [.ref r1,.ref r2])=H'∧H' r=some (.tup [.ref r1,.ref r2])∧Same H2 H':=⟨_,rfl,upd_same,Same.new hr⟩
   rw [show upd H2 r _=H3 from e3]
   exact q r r1 r2 H3 k3 (s3 _ _ (s2 _ _ k1)) (s3 _ _ k2) (s1.trans (s2.trans s3))
 rintro _ _ ⟨rfl,rfl,rfl⟩
 refine ⟨_,rfl,_,rfl,(by show 2≤sizeLine; decide),fun r1 hr1=>?_⟩
 obtain ⟨H1,e1,k1,s1⟩:∃H',upd H r1 (.tup [.int W,.int p])=H'∧H' r1=some (.tup [.int W,.int p])∧Same H H':=⟨_,rfl,upd_same,Same.new hr1⟩
 rw [show upd H r1 _=H1 from e1]
 refine ⟨_,rfl,_,rfl,_,rfl,_,_,rfl,rfl,_,rfl,t,_,0,_,rfl,rfl,SqT.of (s1 _ _ ht),rfl,_,_,rfl,rfl,(by show 2≤sizeLine; decide),fun r2 hr2=>?_⟩
 obtain ⟨H2,e2,k2,s2⟩:∃H',upd H1 r2 (.tup [.int W,.int (h1 - p - b)])=H'∧H' r2=some (.tup [.int W,.int (h1 - p - b)])∧Same H1 H':=⟨_,rfl,upd_same,Same.new hr2⟩
 rw [show upd H1 r2 _=H2 from e2]
 refine ⟨(by show 2≤sizeLine; decide),fun r hr=>?_⟩
 obtain ⟨H3,e3,k3,s3⟩:∃H',upd H2 r (.tup [.ref r1,.ref r2])=H'∧H' r=some (.tup [.ref r1,.ref r2])∧Same H2 H':=⟨_,rfl,upd_same,Same.new hr⟩
 rw [show upd H2 r _=H3 from e3]
 exact q r r1 r2 H3 k3 (s3 _ _ (s2 _ _ k1)) (s3 _ _ k2) (s1.trans (s2.trans s3))
theorem scleafc:FnScope ["_law_pot_here","_law_shop_here","_law_wide","_law_high","_law_some","_law_kind","_law_turned","_law_own"] ["_law_pot_here","_law_shop_here","_law_wide","_law_high"] (defScope iO):=⟨rfl,rfl,rfl,by decide +kernel,rfl,by decide +kernel,by decide +kernel⟩
theorem oo {f:Addr} {fd:FuncData} (F:Fun K "_law_leaf" "_law_leaf" iO f fd) (B:Blt mg) (DD:Dn P w K mg base "_law_take" ["_law_pot_here","_law_many"] 1 (ci)) (DSd:Dn P w K mg base "_law_sides" ["_law_shop_here","_law_kind","_law_turned"] 1 (dZ)) (DLy:Dn P w K mg base "_law_lyings" ["_law_shop_here"] 1 (cY)):FnOk P w K mg base CX0 2 f fd ["_law_pot_here","_law_shop_here","_law_wide","_law_high"] (eh):=by
 refine F.ok scleafc (fun vs H Q E h=>?_) (fun cdv A outer s H vs Q E hr h=>?_)
 ·obtain ⟨p,t,kl,b,W,h1,ks,rfl,_⟩:=h
  rfl
 obtain ⟨p,t,kl,b,W,h1,ks,rfl,pt,sh,nk,k8,gk,w58,h58,q⟩:=h
 have nd:=scleafc.nd
 have hu:=hr.units
 refine ⟨_,(@ae _ _ _ _ _ (@aE _ _ 4 _ _ _ _ nd rfl (Or.inl rfl) (@aT _ _ _ _ ab) rfl (Or.inl rfl)) (@ae _ _ _ _ _ (@bO _ _ _ _ _ _ _ _ PassesOwn.never rfl (bR (@ao _ _ _ _ _ _ _ _ _ _ DLy (hr.mono (by decide)) rfl (@aa _ _ _ _ _ (pv 1) ab rfl) (by decide) rfl rfl)) (bd rfl (ai (aj (i:=5) nd rfl (Or.inl rfl)) (ai (aj (i:=6) nd rfl (Or.inl rfl)) aP))) (@ae _ _ _ _ _ (@aE _ _ 7 _ _ _ _ nd rfl (Or.inl rfl) (@ao _ _ _ _ _ _ _ _ _ _ DSd (hr.mono (by decide)) rfl (@aa _ _ _ _ _ (pv 1) (@aa _ _ _ _ _ (pv 5) (@aa _ _ _ _ _ (pv 6) ab rfl) rfl) rfl) (by decide) rfl rfl) rfl (Or.inl rfl)) (@af _ _ _ (@aI _ _ _ _ _ _ _ _ (PW.pt (jc (@aB _ _ _ _ _ _ _ _ dz (@au _ _ _ _ _ _ _ ix_tup (pv 7) ad (fun _ _=>rfl)) (pv 2) (az _)) (gy (@aB _ _ _ _ _ _ _ _ dz (@au _ _ _ _ _ _ _ ix_tup (pv 7) ad (fun _ _=>rfl)) (pv 3) (az _))))) (@af _ _ _ (@cn _ _ _ _ (@gg _ _ _ _ _ _ _ _ _ _ _ _ PySem.F.plainAttrs_list PySem.F.slot_list_append PySem.F.type_list_append cA (pv 4) (@aa _ _ _ _ _ (@aF _ _ _ _ _ (@aa _ _ _ _ _ (pv 5) (@aa _ _ _ _ _ (pv 6) ab rfl) rfl)) ab rfl) rfl rfl rfl rfl rfl) rfl)) aA))) (by intro _; rfl)) (@ae _ _ _ _ _ (@aI _ _ _ _ _ _ _ _ (PW.pt (be (@aB _ _ _ _ _ _ _ _ (jq hu) (pv 4) (@aT _ _ _ _ ab) (az _)) (bg (@aB _ _ _ _ _ _ _ _ bK (@ao _ _ _ _ _ _ _ _ _ _ DD (hr.mono (by decide)) rfl (@aa _ _ _ _ _ (pv 0) (@aa _ _ _ _ _ ad ab rfl) rfl) (by decide) rfl rfl) ad (az _))))) (@af _ _ _ (@ar _ _ _ _ (@aF _ _ _ _ _ (@aa _ _ _ _ _ br ab rfl)))) aA) (@ae _ _ _ _ _ (@bn _ _ _ _ _ _ (@au _ _ _ _ _ _ _ ix_list (pv 4) (@ao _ _ _ _ _ _ _ _ _ _ DD (hr.mono (by decide)) rfl (@aa _ _ _ _ _ (pv 0) (@aa _ _ _ _ _ (@ay _ _ _ _ _ _ _ _ _ aK rfl B.len PySem.boot_len (@aa _ _ _ _ _ (pv 4) ab rfl) (by decide) (by decide) rfl rfl) ab rfl) rfl) (by decide) rfl rfl) (fun _ _=>rfl)) (bd rfl (ai (aj (i:=5) nd rfl (Or.inl rfl)) (ai (aj (i:=6) nd rfl (Or.inl rfl)) aP))) rfl rfl rfl) (@ae _ _ _ _ _ (@aE _ _ 7 _ _ _ _ nd rfl (Or.inl rfl) (@ao _ _ _ _ _ _ _ _ _ _ DSd (hr.mono (by decide)) rfl (@aa _ _ _ _ _ (pv 1) (@aa _ _ _ _ _ (pv 5) (@aa _ _ _ _ _ (pv 6) ab rfl) rfl) rfl) (by decide) rfl rfl) rfl (Or.inl rfl)) (@af _ _ _ (@ar _ _ _ _ (@aF _ _ _ _ _ (@aa _ _ _ _ _ br (@aa _ _ _ _ _ (pv 5) (@aa _ _ _ _ _ (pv 6) (@aa _ _ _ _ _ (@ao _ _ _ _ _ _ _ _ _ _ DD (hr.mono (by decide)) rfl (@aa _ _ _ _ _ (pv 0) (@aa _ _ _ _ _ (@aD _ _ _ _ _ _ _ _ aO (@aD _ _ _ _ _ _ _ _ bf (pv 2) (@au _ _ _ _ _ _ _ ix_tup (pv 7) ad (fun _ _=>rfl))) ad) ab rfl) rfl) (by decide) rfl rfl) (@aa _ _ _ _ _ (@ao _ _ _ _ _ _ _ _ _ _ DD (hr.mono (by decide)) rfl (@aa _ _ _ _ _ (pv 0) (@aa _ _ _ _ _ (@aD _ _ _ _ _ _ _ _ aO (@aD _ _ _ _ _ _ _ _ bf (pv 3) (@au _ _ _ _ _ _ _ ix_tup (pv 7) ad (fun _ _=>rfl))) ad) ab rfl) rfl) (by decide) rfl rfl) ab rfl) rfl) rfl) rfl) rfl))))))))),?_⟩
 have sz:(1000:Nat) < sizeLine:=by decide
 have e58:(10:Int) ^ 58 + 10 < 10 ^ 60:=by decide
 have e60:(100:Int) < 10 ^ 60:=by decide
 have ly8:=gN ks 0
 refine ah (fun σ' H'=>∃so:Addr,σ'=[some (.ref p),some (.ref t),some (.int W),some (.int h1),some (.ref so),none,none,none]∧H so=none∧H' so=some (.lst [])∧Same H H') (fun R hR=>?_) ?_
 ·refine ⟨by decide,fun so hso=>?_⟩
  obtain ⟨H1,e1,k1,s1⟩:∃H',upd H so (.lst [])=H'∧H' so=some (.lst [])∧Same H H':=⟨_,rfl,upd_same,Same.new hso⟩
  rw [show upd H so _=H1 from e1]
  exact hR _ _ ⟨so,rfl,hso,k1,s1⟩
 rintro _ H1 ⟨so,rfl,hso0,hso1,s1⟩
 have sh1:=sh.same s1
 have pt1:=pt.same s1
 have nsp:so≠p:=Ne.symm (pt.ne hso0)
 obtain ⟨kr,lst1,lst2,lst3⟩:=id sh
 have nks:kl≠so:=ag lst2 hso0
 have shk:∀ {Hx:Hp},But so H1 Hx→LS Hx t b ks kl:=fun bx=>by
  have k:∀a zs,H a=some (.tup zs)→_:=fun a zs e=>bx _ _ (ag e hso0) (s1 _ _ e)
  exact ⟨kr,k _ _ lst1,bx _ _ nks (s1 _ _ lst2),Tups.keep k lst3⟩
 have tks:∀ {Hx Hy:Hp} {us:List V},Hx so=some (.lst us)→But so Hx Hy→∀a zs,Hx a=some (.tup zs)→Hy a=some (.tup zs):=fun h bx a zs e=>bx _ _ (fun z=>by rw [z,h] at e; cases e) e
 refine ah (fun σ' H'=>∃ (v5 v6 v7:Option V) (us:List V) (qs:List (Nat×Bool)),σ'=[some (.ref p),some (.ref t),some (.int W),some (.int h1),some (.ref so),v5,v6,v7]∧H' so=some (.lst us)∧Paired (LyC H') us qs∧(∀q∈qs,FtL ks W h1 q)∧us.length≤16∧But so H1 H') (fun R hR=>?_) ?_
 ·refine ⟨_,rfl,t,kl,b,ks,rfl,sh1,k8,fun l ys H2 hl hl0 pl s2=>?_⟩
  have yl:=Paired.length pl
  have nls:l≠so:=fun z=>by rw [z,hso1] at hl0; cases hl0
  refine ⟨l,rfl,⟨_,SqL.of hl⟩,bW (xs:=ys) (fun i σ' H'=>(∃ (v5 v6 v7:Option V) (us:List V) (qs:List (Nat×Bool)),σ'=[some (.ref p),some (.ref t),some (.int W),some (.int h1),some (.ref so),v5,v6,v7]∧H' so=some (.lst us)∧Paired (LyC H') us qs∧(∀q∈qs,FtL ks W h1 q)∧us.length≤i∧But so H1 H')∧But so H2 H') ⟨⟨_,_,_,[],[],rfl,s2 _ _ hso1,.nil,(fun q hq=>by simp at hq),Nat.le_refl _,Be s2⟩,But.refl'⟩ (fun i σ H' _ h=>SqL.of (h.2 _ _ nls hl)) ?_ (fun σ H' h=>hR _ _ (by obtain ⟨v5,v6,v7,us,qs,h1,h2,h3,h4,h5,h6⟩:=h.1; exact ⟨v5,v6,v7,us,qs,h1,h2,h3,h4,by omega,h6⟩))⟩
  rintro i x _ H3 hi ⟨⟨v5,v6,v7,us,qs,rfl,hu3,pu3,ft3,ul3,b13⟩,b23⟩
  obtain ⟨q0,hq0,aq,rfl,haq⟩:=Paired.getR pl hi
  have hin:i < ys.length:=(List.getElem?_eq_some_iff.mp hi).1
  have hly:=List.mem_of_getElem? hq0
  obtain ⟨_,kk,hkk,_⟩:=jI hly
  have hkk:ks[q0.1]? = some kk:=by simpa using hkk
  have haq3:=tks (s2 _ _ hso1) b23 _ _ haq
  refine ⟨aq,_,rfl,SqT.of haq3,rfl,_,_,rfl,_,_,rfl,rfl,?_⟩
  refine ah (fun σ' H'=>∃ow:Addr,σ'=[some (.ref p),some (.ref t),some (.int W),some (.int h1),some (.ref so),some (.int q0.1),some (.bl q0.2),some (.ref ow)]∧H' ow=some (.tup [.int (sd1 kk q0.2),.int (sd2 kk q0.2)])∧Same H3 H') (fun R hR=>?_) ?_
  ·exact ⟨_,rfl,_,rfl,_,rfl,t,kl,b,ks,q0.1,q0.2,kk,rfl,shk b13,hkk,fun r H4 hr s4=>hR _ _ ⟨r,rfl,hr,s4⟩⟩
  rintro _ H4 ⟨ow,rfl,how,s34⟩
  have hu4:=s34 _ _ hu3
  have pu4:Paired (LyC H4) us qs:=Paired.mapP pu3 fun v q h=>h.keep fun a xs e=>s34 _ _ e
  have b14:But so H1 H4:=fun c o n e=>s34 _ _ (b13 _ _ n e)
  have b24:But so H2 H4:=fun c o n e=>s34 _ _ (b23 _ _ n e)
  have skip:(∃ (v5 v6 v7:Option V) (us':List V) (qs':List (Nat×Bool)),[some (.ref p),some (.ref t),some (.int W),some (.int h1),some (.ref so),some (.int q0.1),some (.bl q0.2),some (.ref ow)]=[some (.ref p),some (.ref t),some (.int W),some (.int h1),some (.ref so),v5,v6,v7]∧H4 so=some (.lst us')∧Paired (LyC H4) us' qs'∧(∀q∈qs',FtL ks W h1 q)∧us'.length≤i + 1∧But so H1 H4)∧But so H2 H4:=⟨⟨_,_,_,us,qs,rfl,hu4,pu4,ft3,by omega,b14⟩,b24⟩
  refine ⟨_,rfl,ow,_,0,_,rfl,rfl,SqT.of how,rfl,_,rfl,_,_,rfl,rfl,_,rfl,?_⟩
  refine ck (fun c1=>?_) (fun c1=>skip)
  refine ⟨_,rfl,ow,_,1,_,rfl,rfl,SqT.of how,rfl,_,rfl,_,_,rfl,rfl,_,rfl,?_⟩
  refine ck (fun c2=>?_) (fun c2=>skip)
  refine ⟨_,rfl,.inl ⟨rfl,_,SqL.of hu4⟩,_,rfl,_,rfl,(by show 2≤sizeLine; decide),fun tp htp=>?_⟩
  obtain ⟨H5,e5,k5,s5⟩:∃H',upd H4 tp (.tup [.int q0.1,.bl q0.2])=H'∧H' tp=some (.tup [.int q0.1,.bl q0.2])∧Same H4 H':=⟨_,rfl,upd_same,Same.new htp⟩
  rw [show upd H4 tp _=H5 from e5]
  have hu5:=s5 _ _ hu4
  have bu:But so H5 (upd H5 so (.lst (us ++ [.ref tp]))):=fun c o n e=>by rw [aw n]; exact e
  refine ⟨so,_,_,rfl,rfl,hu5,by omega,⟨_,_,_,us ++ [.ref tp],qs ++ [q0],rfl,upd_same,?_,fun q hq=>?_,by rw [List.length_append]; show us.length + 1≤_; omega,fun c o n e=>bu _ _ n (s5 _ _ (b14 _ _ n e))⟩,fun c o n e=>bu _ _ n (s5 _ _ (b24 _ _ n e))⟩
  ·exact eO (Paired.mapP pu4 fun v q h=>h.keep fun a xs e=>tks hu5 bu _ _ (s5 _ _ e)) (.cons ⟨tp,rfl,tks hu5 bu _ _ k5⟩ .nil)
  ·rcases List.mem_append.mp hq with hq | hq
   ·exact ft3 q hq
   ·rw [List.mem_singleton.mp hq]
    exact ⟨hly,kk,hkk,of_decide_eq_true c1,of_decide_eq_true c2⟩
 rintro _ H2 ⟨v5,v6,v7,us,qs,rfl,hu2,pu2,ft,ul,b12⟩
 have pt2:PotC H2 p:=by
  obtain ⟨a,b,h1,h2,h3,e⟩:=pt1
  exact ⟨a,b,h1,h2,h3,b12 _ _ (Ne.symm nsp) e⟩
 have b02:But p H H2:=fun c o n e=>b12 _ _ (ag e hso0) (s1 _ _ e)
 have sh2:=shk b12
 have rest:∀Hx,But p H Hx→PotC Hx p→∀r,Hx r=none→Q (.ref r) (upd Hx r (.tup [.str "rest"])):=fun Hx bx px r hr=>by
  obtain ⟨H9,e9,k9,n9,s9,b9,pt9⟩:=cJ (o:=.tup [.str "rest"]) bx px hr
  rw [show upd Hx r _=H9 from e9]
  exact q _ .rest H9 ⟨r,rfl,k9⟩ (fun _=>trivial) rfl rfl pt9 b9
 refine ah (fun σ' H'=>σ'=[some (.ref p),some (.ref t),some (.int W),some (.int h1),some (.ref so),v5,v6,v7]∧us≠[]∧H' so=some (.lst us)∧Paired (LyC H') us qs∧LS H' t b ks kl∧PotC H' p∧But p H H') (fun R hR=>?_) ?_
 ·refine ⟨_,rfl,by decide,fun e he=>?_⟩
  obtain ⟨H3,e3,k3,n3,s3,b3,pt3⟩:=cJ (o:=.lst []) b02 pt2 he
  rw [show upd H2 e _=H3 from e3]
  obtain ⟨ds,d1,d2,d3,d4⟩:=vg (K:=K) (Paired.mapP pu2 fun v q h=>h.keep fun a xs e=>s3 _ _ e)
  obtain ⟨sh1,sh2',sh3⟩:=rJ d3 d4
  refine ⟨.list ds,.list [],.lst (SqL.of (s3 _ _ hu2)) d1,.lst (SqL.of k3) .nil,sh1,by decide +kernel,_,rfl,?_⟩
  by_cases hz0:us=[]
  ·rw [sh2' (by rw [hz0] at d2; exact List.eq_nil_of_length_eq_zero d2)]
   exact aY (aY ⟨(by show 1≤sizeLine; decide),fun r hr=>rest _ b3 pt3 r hr⟩)
  rw [sh3 (fun z=>hz0 (by rw [z] at d2; exact List.eq_nil_of_length_eq_zero d2.symm))]
  refine aM ⟨_,rfl,p,5,rfl,pt3,by decide,by decide,fun z H4 z0 z1 pt4 b4=>⟨rfl,_,rfl,?_⟩⟩
  refine ck (fun cc=>⟨(by show 1≤sizeLine; decide),fun r hr=>rest _ (b3.trans b4) pt4 r hr⟩) (fun cc=>?_)
  exact hR _ _ ⟨rfl,hz0,b4 _ _ nsp (s3 _ _ hu2),Paired.mapP pu2 (fun v q h=>h.keep fun a xs e=>gS b4 pt3 (s3 _ _ e)),(sh2.same s3).but nk pt3 b4,pt4,b3.trans b4⟩
 rintro _ H3 ⟨rfl,une,hu3,pu3,sh3,pt3,b03⟩
 have u1:1≤us.length:=Nat.pos_of_ne_zero fun z=>une (List.eq_nil_of_length_eq_zero z)
 refine ah (fun σ' H'=>∃ (i:Nat) (c:Bool) (k:Kd),σ'=[some (.ref p),some (.ref t),some (.int W),some (.int h1),some (.ref so),some (.int i),some (.bl c),v7]∧(i,c)∈lyK ks 0∧ks[i]? = some k∧sd1 k c≤W∧sd2 k c≤h1∧LS H' t b ks kl∧PotC H' p∧But p H H') (fun R hR=>?_) ?_
 ·refine ⟨_,rfl,_,rfl,_,rfl,so,_,rfl,.inl (SqL.of hu3),p,_,rfl,pt3,by omega,by omega,fun r H4 r0 r1 pt4 b4=>?_⟩
  obtain ⟨v,hv⟩:∃v,us[r.toNat]? = some v:=⟨_,List.getElem?_eq_getElem (show r.toNat < us.length by omega)⟩
  obtain ⟨q0,hq0,aq,rfl,haq⟩:=Paired.getR pu3 hv
  obtain ⟨f1,k,hk,f2,f3⟩:=ft q0 (List.mem_of_getElem? hq0)
  exact ⟨so,_,_,_,rfl,rfl,SqL.of (b4 _ _ nsp hu3),cX r0 hv,aq,_,rfl,SqT.of (gS b4 pt3 haq),rfl,_,_,rfl,_,_,rfl,rfl,hR _ _ ⟨q0.1,q0.2,k,rfl,f1,hk,f2,f3,sh3.but nk pt3 b4,pt4,b03.trans b4⟩⟩
 rintro _ H4 ⟨i,c,k,rfl,hly,hk,f2,f3,sh4,pt4,b04⟩
 refine ah (fun σ' H'=>∃ow:Addr,σ'=[some (.ref p),some (.ref t),some (.int W),some (.int h1),some (.ref so),some (.int i),some (.bl c),some (.ref ow)]∧H' ow=some (.tup [.int (sd1 k c),.int (sd2 k c)])∧PotC H' p∧But p H H') (fun R hR=>?_) ?_
 ·exact ⟨_,rfl,_,rfl,_,rfl,t,kl,b,ks,i,c,k,rfl,sh4,hk,fun r H5 hr s5=>hR _ _ ⟨r,rfl,hr,pt4.same s5,fun c o n e=>s5 _ _ (b04 _ _ n e)⟩⟩
 rintro _ H5 ⟨ow,rfl,how,pt5,b05⟩
 have g:=gk k (List.mem_of_getElem? hk)
 have sp:1≤sd1 k c∧1≤sd2 k c:=by have:=g.w; have:=g.h; cases c <;> exact ⟨by assumption,by assumption⟩
 refine ⟨_,rfl,_,rfl,_,rfl,_,rfl,_,rfl,ow,_,0,_,rfl,rfl,SqT.of how,rfl,_,_,rfl,rfl,_,_,rfl,rfl,p,W - sd1 k c + 1,rfl,pt5,by omega,by omega,fun x H6 x0 x1 pt6 b6=>?_⟩
 have how6:=gS b6 pt5 how
 refine ⟨_,rfl,_,rfl,_,rfl,ow,_,1,_,rfl,rfl,SqT.of how6,rfl,_,_,rfl,rfl,_,_,rfl,rfl,p,h1 - sd2 k c + 1,rfl,pt6,by omega,by omega,fun y H7 y0 y1 pt7 b7=>?_⟩
 refine ⟨(by show 5≤sizeLine; decide),fun r hr=>?_⟩
 obtain ⟨H8,e8,k8,n8,s8,b8,pt8⟩:=cJ (o:=.tup [.str "piece",.int i,.bl c,.int x,.int y]) ((b05.trans b6).trans b7) pt7 hr
 rw [show upd H7 r _=H8 from e8]
 exact q _ (.piece i c x y) H8 ⟨r,rfl,k8⟩ (fun _=>⟨k,hk,hly,x0,y0,by omega,by omega⟩) rfl rfl pt8 b8
end
section
variable {P:Program} {w:World} {K:PySem.W.Frag} {mg:Str→Option Value} {base:Heap}
theorem sctreec:FnScope ["_law_pot_here","_law_shop_here","_law_wide","_law_high","_law_deep","_law_room","_law_way","_law_side_here","_law_p","_law_one","_law_other","_law_first"] ["_law_pot_here","_law_shop_here","_law_wide","_law_high","_law_deep","_law_room"] (defScope fL):=⟨rfl,rfl,rfl,by decide +kernel,rfl,by decide +kernel,by decide +kernel⟩
set_option maxHeartbeats 1000000 in
theorem oq {f:Addr} {fd:FuncData} (F:Fun K "_law_tree" "_law_tree" fL f fd) (B:Blt mg) (n:Nat) (DD:Dn P w K mg base "_law_take" ["_law_pot_here","_law_many"] 1 (ci)) (DBh:Dn P w K mg base "_law_behind" ["_law_shop_here","_law_wide","_law_high","_law_way","_law_p"] 1 (gt)) (DLf:Dn P w K mg base "_law_leaf" ["_law_pot_here","_law_shop_here","_law_wide","_law_high"] 2 (eh)) (DT:Dn P w K mg base "_law_tree" ["_law_pot_here","_law_shop_here","_law_wide","_law_high","_law_deep","_law_room"] (3 + n) (cx n)):FnOk P w K mg base CX0 (3 + (n + 1)) f fd ["_law_pot_here","_law_shop_here","_law_wide","_law_high","_law_deep","_law_room"] (cx (n + 1)):=by
 refine F.ok sctreec (fun vs H Q E h=>?_) (fun cdv A outer s H vs Q E hr h=>?_)
 ·obtain ⟨p,t,kl,rm,b,W,h1,r,ks,deep,rfl,_⟩:=h
  rfl
 obtain ⟨p,t,kl,rm,b,W,h1,r,ks,deep,rfl,pt,sh,nk,nkr,nrp,k8,gk,b0,w58,h58,hrm,r0,dn0,q⟩:=h
 have nd:=sctreec.nd
 refine ⟨_,(@ae _ _ _ _ _ (@aE _ _ 6 _ _ _ _ nd rfl (Or.inl rfl) (@au _ _ _ _ _ _ _ ix_list (@aT _ _ _ _ (@aa _ _ _ _ _ br (@aa _ _ _ _ _ br ab rfl) rfl)) (@ao _ _ _ _ _ _ _ _ _ _ DD (hr.mono (show 1≤3 + n by omega)) rfl (@aa _ _ _ _ _ (pv 0) (@aa _ _ _ _ _ ad ab rfl) rfl) (by decide) rfl rfl) (fun _ _=>rfl)) rfl (Or.inl rfl)) (@ae _ _ _ _ _ (@aE _ _ 7 _ _ _ _ nd rfl (Or.inl rfl) (@aD _ _ _ _ _ _ _ _ bf (@aD _ _ _ _ _ _ _ _ bf (@au _ _ _ _ _ _ _ ix_list (@aT _ _ _ _ (@aa _ _ _ _ _ (pv 2) (@aa _ _ _ _ _ (pv 3) ab rfl) rfl)) (@aU _ _ _ _ _ _ _ _ _ bT rfl B.int PyProof.Rows.boot_int (@aa _ _ _ _ _ (@aZ _ _ _ _ _ _ _ _ bK (pv 6) br (az _)) ab rfl) (by decide) (by decide) rfl rfl) (fun _ _=>rfl)) (@au _ _ _ _ _ _ _ ix_tup (pv 1) ad (fun _ _=>rfl))) ad) rfl (Or.inl rfl)) (@ae _ _ _ _ _ (@aI _ _ _ _ _ _ _ _ (PW.pt (be (@aB _ _ _ _ _ _ _ _ bK (pv 4) ad (az _)) (be (@aB _ _ _ _ _ _ _ _ bK (@au _ _ _ _ _ _ _ ix_list (pv 5) ad (fun _ _=>rfl)) ad (az _)) (be (@aB _ _ _ _ _ _ _ _ ij (pv 7) ad (az _)) (bg (@aB _ _ _ _ _ _ _ _ bK (@ao _ _ _ _ _ _ _ _ _ _ DD (hr.mono (show 1≤3 + n by omega)) rfl (@aa _ _ _ _ _ (pv 0) (@aa _ _ _ _ _ ad ab rfl) rfl) (by decide) rfl rfl) ad (az _))))))) (@af _ _ _ (@ar _ _ _ _ (@ao _ _ _ _ _ _ _ _ _ _ DLf (hr.mono (show 2≤3 + n by omega)) rfl (@aa _ _ _ _ _ (pv 0) (@aa _ _ _ _ _ (pv 1) (@aa _ _ _ _ _ (pv 2) (@aa _ _ _ _ _ (pv 3) ab rfl) rfl) rfl) rfl) (by decide) rfl rfl))) aA) (@ae _ _ _ _ _ (@bn _ _ _ _ _ _ (@aD _ _ _ _ _ _ _ _ bf (@au _ _ _ _ _ _ _ ix_list (pv 5) ad (fun _ _=>rfl)) ad) (gz (pv 5) ad dE) rfl rfl rfl) (@ae _ _ _ _ _ (@aE _ _ 8 _ _ _ _ nd rfl (Or.inl rfl) (@aD _ _ _ _ _ _ _ _ aO ad (@au _ _ _ _ _ _ _ ix_list (@aT _ _ _ _ (@aa _ _ _ _ _ (@ao _ _ _ _ _ _ _ _ _ _ DD (hr.mono (show 1≤3 + n by omega)) rfl (@aa _ _ _ _ _ (pv 0) (@aa _ _ _ _ _ (pv 7) ab rfl) rfl) (by decide) rfl rfl) (@aa _ _ _ _ _ (@aD _ _ _ _ _ _ _ _ fu (pv 7) ad) (@aa _ _ _ _ _ (@ao _ _ _ _ _ _ _ _ _ _ DD (hr.mono (show 1≤3 + n by omega)) rfl (@aa _ _ _ _ _ (pv 0) (@aa _ _ _ _ _ (@ay _ _ _ _ _ _ _ _ _ (eE rfl) rfl B.min PyProof.Rows.boot_min (@aa _ _ _ _ _ (pv 7) (@aa _ _ _ _ _ ad ab rfl) rfl) (by decide) (by decide) rfl rfl) ab rfl) rfl) (by decide) rfl rfl) ab rfl) rfl) rfl)) (@ao _ _ _ _ _ _ _ _ _ _ DD (hr.mono (show 1≤3 + n by omega)) rfl (@aa _ _ _ _ _ (pv 0) (@aa _ _ _ _ _ ad ab rfl) rfl) (by decide) rfl rfl) (fun _ _=>rfl))) rfl (Or.inl rfl)) (@ae _ _ _ _ _ (@aE _ _ 8 _ _ _ _ nd rfl (Or.inl rfl) (@ay _ _ _ _ _ _ _ _ _ (eE rfl) rfl B.min PyProof.Rows.boot_min (@aa _ _ _ _ _ (pv 8) (@aa _ _ _ _ _ (pv 7) ab rfl) rfl) (by decide) (by decide) rfl rfl) rfl (Or.inl rfl)) (@ae _ _ _ _ _ (@bn _ _ _ _ _ _ (@ao _ _ _ _ _ _ _ _ _ _ DBh (hr.mono (show 1≤3 + n by omega)) rfl (@aa _ _ _ _ _ (pv 1) (@aa _ _ _ _ _ (pv 2) (@aa _ _ _ _ _ (pv 3) (@aa _ _ _ _ _ (pv 6) (@aa _ _ _ _ _ (pv 8) ab rfl) rfl) rfl) rfl) rfl) (by decide) rfl rfl) (bd rfl (ai (aj (i:=9) nd rfl (Or.inl rfl)) (ai (aj (i:=10) nd rfl (Or.inl rfl)) aP))) rfl rfl rfl) (@ae _ _ _ _ _ (@aE _ _ 11 _ _ _ _ nd rfl (Or.inl rfl) (@ao _ _ _ _ _ _ _ _ _ _ DT hr rfl (@aa _ _ _ _ _ (pv 0) (@aa _ _ _ _ _ (pv 1) (@aa _ _ _ _ _ (@au _ _ _ _ _ _ _ ix_tup (pv 9) ad (fun _ _=>rfl)) (@aa _ _ _ _ _ (@au _ _ _ _ _ _ _ ix_tup (pv 9) ad (fun _ _=>rfl)) (@aa _ _ _ _ _ (@aD _ _ _ _ _ _ _ _ bf (pv 4) ad) (@aa _ _ _ _ _ (pv 5) ab rfl) rfl) rfl) rfl) rfl) rfl) (by decide) rfl rfl) rfl (Or.inl rfl)) (@af _ _ _ (@ar _ _ _ _ (@aF _ _ _ _ _ (@aa _ _ _ _ _ (pv 6) (@aa _ _ _ _ _ (pv 8) (@aa _ _ _ _ _ (pv 11) (@aa _ _ _ _ _ (@ao _ _ _ _ _ _ _ _ _ _ DT hr rfl (@aa _ _ _ _ _ (pv 0) (@aa _ _ _ _ _ (pv 1) (@aa _ _ _ _ _ (@au _ _ _ _ _ _ _ ix_tup (pv 10) ad (fun _ _=>rfl)) (@aa _ _ _ _ _ (@au _ _ _ _ _ _ _ ix_tup (pv 10) ad (fun _ _=>rfl)) (@aa _ _ _ _ _ (@aD _ _ _ _ _ _ _ _ bf (pv 4) ad) (@aa _ _ _ _ _ (pv 5) ab rfl) rfl) rfl) rfl) rfl) rfl) (by decide) rfl rfl) ab rfl) rfl) rfl) rfl)))))))))))),?_⟩
 have e58:(10:Int) ^ 58 + 10 < 10 ^ 60:=by decide
 have e60:(100:Int) < 10 ^ 60:=by decide
 have sz:(1000:Nat) < sizeLine:=by decide
 obtain ⟨_,hp0⟩:=iP pt
 refine ah (fun σ' H'=>∃dn:Bool,σ'=[some (.ref p),some (.ref t),some (.int W),some (.int h1),some (.int deep),some (.ref rm),some (.str (wyS dn)),none,none,none,none,none]∧PotC H' p∧But p H H') (fun R hR=>?_) ?_
 ·refine ⟨(by show 2≤sizeLine; decide),fun l hl=>?_⟩
  obtain ⟨H1, e1, k1, n1, s1, b1, pt1⟩:=cJ (o:=.lst [.str "down", .str "across"]) But.refl' pt hl
  rw [show upd H l _=H1 from e1]
  refine ⟨_,rfl,p,2,rfl,pt1,by decide,by decide,fun z H2 z0 z1 pt2 b2=>?_⟩
  have:z=0∨z=1:=by omega
  rcases this with rfl | rfl
  ·exact ⟨l,_,_,_,rfl,rfl,SqL.of (b2 _ _ n1 k1),rfl,hR _ _ ⟨true,rfl,pt2,b1.trans b2⟩⟩
  ·exact ⟨l,_,_,_,rfl,rfl,SqL.of (b2 _ _ n1 k1),rfl,hR _ _ ⟨false,rfl,pt2,b1.trans b2⟩⟩
 rintro _ H1 ⟨dn,rfl,pt1,b1⟩
 have sh1:=sh.but nk pt b1
 have hrm1:=b1 _ _ nrp hrm
 refine ah (fun σ' H'=>∃sd:Int,σ'=[some (.ref p),some (.ref t),some (.int W),some (.int h1),some (.int deep),some (.ref rm),some (.str (wyS dn)),some (.int sd),none,none,none,none]∧sd=(if dn=true then W else h1) - b - 1∧Same H1 H') (fun R hR=>?_) ?_
 ·refine ⟨_,rfl,_,rfl,(by show 2≤sizeLine; decide),fun rl hrl=>?_⟩
  obtain ⟨H2,e2,k2,s2⟩:∃H',upd H1 rl (.lst [.int W,.int h1])=H'∧H' rl=some (.lst [.int W,.int h1])∧Same H1 H':=⟨_,rfl,upd_same,Same.new hrl⟩
  rw [show upd H1 rl _=H2 from e2]
  obtain ⟨kr,ht,_⟩:=id (sh1.same s2)
  refine ⟨_,rfl,rfl,.inr ⟨_,rfl,rl,_,_,.int (if dn=true then W else h1),rfl,rfl,SqL.of k2,?_,_,rfl,t,_,0,_,rfl,rfl,SqT.of ht,rfl,_,_,rfl,rfl,_,_,rfl,rfl,hR _ _ ⟨_,rfl,rfl,s2⟩⟩⟩
  cases dn with
  | true =>
   rw [show decide (V.str (wyS true)=V.str "across")=false by decide +kernel]
   rfl
  | false =>
   rw [show decide (V.str (wyS false)=V.str "across")=true by decide +kernel]
   rfl
 rintro _ H2 ⟨sd,rfl,esd,s12⟩
 have pt2:=pt1.same s12
 have sh2:=sh1.same s12
 have hrm2:=s12 _ _ hrm1
 have b2:But p H H2:=fun c o n e=>s12 _ _ (b1 _ _ n e)
 have leaf:∀Hx,But p H Hx→PotC Hx p→eh [.ref p,.ref t,.int W,.int h1] Hx Q E0:=fun Hx bx px =>
  ⟨p,t,kl,b,W,h1,ks,rfl,px,sh.but nk pt bx,nk,k8,gk,w58,h58,fun v T H' tv ok ln d0 pt' b'=>q v T r H' tv (ok b) r0 (by omega) (by omega) (b' _ _ nrp (bx _ _ nrp hrm)) pt' (But2.but (bx.trans b'))⟩
 refine ah (fun σ' H'=>σ'=[some (.ref p),some (.ref t),some (.int W),some (.int h1),some (.int deep),some (.ref rm),some (.str (wyS dn)),some (.int sd),none,none,none,none]∧1≤r∧1≤deep∧1≤sd∧PotC H' p∧But p H H') (fun R hR=>?_) ?_
 ·refine ⟨_,rfl,rfl,_,rfl,?_⟩
  by_cases c1:deep=0
  ·rw [show decide (V.int (deep:Int)=V.int 0)=true from decide_eq_true (by rw [c1]; rfl)]
   exact aY (aY ⟨_,rfl,_,rfl,_,rfl,_,rfl,leaf _ b2 pt2⟩)
  rw [show decide (V.int (deep:Int)=V.int 0)=false from decide_eq_false (fun z=>c1 (by have:=V.int.inj z; omega))]
  refine aM ⟨_,rfl,rm,_,0,_,rfl,rfl,SqL.of hrm2,rfl,rfl,_,rfl,?_⟩
  by_cases c2:r=0
  ·rw [show decide (V.int r=V.int 0)=true from decide_eq_true (by rw [c2])]
   exact aY (aY ⟨_,rfl,_,rfl,_,rfl,_,rfl,leaf _ b2 pt2⟩)
  rw [show decide (V.int r=V.int 0)=false from decide_eq_false (fun z=>c2 (V.int.inj z))]
  refine aM ⟨_,rfl,_,_,rfl,rfl,_,rfl,?_⟩
  by_cases c3:sd < 1
  ·rw [decide_eq_true c3]
   exact aY (aY ⟨_,rfl,_,rfl,_,rfl,_,rfl,leaf _ b2 pt2⟩)
  rw [decide_eq_false c3]
  refine aM ⟨_,rfl,p,4,rfl,pt2,by decide,by decide,fun z H3 z0 z1 pt3 b3=>⟨rfl,_,rfl,?_⟩⟩
  refine ck (fun cc=>⟨_,rfl,_,rfl,_,rfl,_,rfl,leaf _ (b2.trans b3) pt3⟩) (fun cc=>hR _ _ ⟨rfl,by omega,by omega,by omega,pt3,b2.trans b3⟩)
 clear leaf sh2 pt2 b2 hrm2 s12 sh1 hrm1 b1 pt1
 clear H2 H1
 rintro _ H3 ⟨rfl,r1,deep1,sd1',pt3,b3⟩
 have hrm3:=b3 _ _ nrp hrm
 obtain ⟨d',hd'⟩:∃d',deep=d' + 1:=⟨deep - 1,by omega⟩
 have ed:((deep:Int) - 1)=(d':Int):=by omega
 refine ah (fun σ' H'=>σ'=[some (.ref p),some (.ref t),some (.int W),some (.int h1),some (.int deep),some (.ref rm),some (.str (wyS dn)),some (.int sd),none,none,none,none]∧H' rm=some (.lst [.int (r - 1)])∧PotC H' p∧But2 p rm H H') (fun R hR=>?_) ?_
 ·exact ⟨_,rfl,rm,_,0,_,rfl,rfl,SqL.of hrm3,rfl,_,_,rfl,rfl,_,rfl,rm,_,0,0,rfl,rfl,hrm3,rfl,hR _ _ ⟨rfl,upd_same,pt3.put (Ne.symm nrp),fun c o n1 n2 e=>by rw [aw n2]; exact b3 _ _ n1 e⟩⟩
 rintro _ H4 ⟨rfl,hrm4,pt4,b4⟩
 have sdm:sd < 10 ^ 58:=by rw [esd]; cases dn <;> simp only [if_true,Bool.false_eq_true,if_false] <;> omega
 refine ah (fun σ' H'=>∃pl:Int,σ'=[some (.ref p),some (.ref t),some (.int W),some (.int h1),some (.int deep),some (.ref rm),some (.str (wyS dn)),some (.int sd),some (.int pl),none,none,none]∧1≤pl∧PotC H' p∧But p H4 H') (fun R hR=>?_) ?_
 ·refine ⟨_,rfl,_,rfl,p,sd,rfl,pt4,by omega,by omega,fun z1 H5 z10 z11 pt5 b5=>⟨_,rfl,_,_,rfl,rfl,⟨by decide,by decide⟩,_,rfl,_,rfl,_,_,rfl,p,_,rfl,pt5,?_,?_,fun z2 H6 z20 z21 pt6 b6=>⟨(by show 3≤sizeLine; decide),fun l hl=>?_⟩⟩⟩
  ·show 0 < (if (9:Int) < sd then 9 else sd)
   split <;> omega
  ·show (if (9:Int) < sd then 9 else sd)≤_
   split <;> omega
  obtain ⟨H7,e7,k7,n7,s7,b7,pt7⟩:=cJ (o:=.lst [.int z1,.int (sd / 2),.int z2]) (b5.trans b6) pt6 hl
  rw [show upd H6 l _=H7 from e7]
  refine ⟨_,rfl,p,3,rfl,pt7,by decide,by decide,fun z H8 z0 z1' pt8 b8=>?_⟩
  have d0:0≤sd / 2:=Int.ediv_nonneg (by omega) (by decide)
  obtain ⟨xx,hxx,xx0⟩:∃xx:Int,atI [V.int z1,V.int (sd / 2),V.int z2] z=some (.int xx)∧0≤xx:=by
   have:z=0∨z=1∨z=2:=by omega
   rcases this with rfl | rfl | rfl
   ·exact ⟨_,rfl,z10⟩
   ·exact ⟨_,rfl,d0⟩
   ·exact ⟨_,rfl,z20⟩
  exact ⟨l,_,_,_,rfl,rfl,SqL.of (b8 _ _ n7 k7),hxx,_,_,rfl,rfl,hR _ _ ⟨1 + xx,rfl,by omega,pt8,b7.trans b8⟩⟩
 rintro _ H5 ⟨pl0,rfl,pl01,pt5,b45⟩
 refine ah (fun σ' H'=>∃pl:Int,σ'=[some (.ref p),some (.ref t),some (.int W),some (.int h1),some (.int deep),some (.ref rm),some (.str (wyS dn)),some (.int sd),some (.int pl),none,none,none]∧1≤pl∧pl≤sd∧H5=H') (fun R hR=>?_) ?_
 ·refine ⟨_,rfl,_,rfl,_,_,rfl,hR _ _ ⟨_,rfl,?_,?_,rfl⟩⟩
  ·split <;> omega
  ·split <;> omega
 rintro _ _ ⟨pl,rfl,pl1,pls,rfl⟩
 have b05:But2 p rm H H5:=b4.trans (But2.but b45)
 have hrm5:=b45 _ _ nrp hrm4
 have sh5:LS H5 t b ks kl:=sh.keep2 hp0 hrm nk nkr b05
 refine ah (fun σ' H'=>∃ (o1 o2:Addr),σ'=[some (.ref p),some (.ref t),some (.int W),some (.int h1),some (.int deep),some (.ref rm),some (.str (wyS dn)),some (.int sd),some (.int pl),some (.ref o1),some (.ref o2),none]∧H' o1=some (.tup [.int (if dn=true then pl else W),.int (if dn=true then h1 else pl)])∧H' o2=some (.tup [.int (if dn=true then W - pl - b else W),.int (if dn=true then h1 else h1 - pl - b)])∧Same H5 H') (fun R hR=>?_) ?_
 ·exact ⟨_,rfl,_,rfl,_,rfl,_,rfl,_,rfl,t,kl,b,W,h1,pl,ks,dn,rfl,sh5,fun rr r1 r2 H6 e1 e2 e3 s6=>⟨rr,_,rfl,SqT.of e1,rfl,_,_,rfl,_,_,rfl,rfl,hR _ _ ⟨r1,r2,rfl,e2,e3,s6⟩⟩⟩
 rintro _ H6 ⟨o1,o2,rfl,ho1,ho2,s56⟩
 have pt6:=pt5.same s56
 have hrm6:=s56 _ _ hrm5
 have sh6:=sh5.same s56
 obtain ⟨_,hp6⟩:=iP pt6
 have a1:(if dn=true then pl else W) < 10 ^ 58:=by split <;> omega
 have a2:(if dn=true then h1 else pl) < 10 ^ 58:=by cases dn <;> simp only [if_true,Bool.false_eq_true,if_false] at * <;> omega
 have a3:(if dn=true then W - pl - b else W) < 10 ^ 58:=by split <;> omega
 have a4:(if dn=true then h1 else h1 - pl - b) < 10 ^ 58:=by split <;> omega
 refine ah (fun σ' H'=>∃ (v1:V) (T1:Tr) (r1:Int),σ'=[some (.ref p),some (.ref t),some (.int W),some (.int h1),some (.int deep),some (.ref rm),some (.str (wyS dn)),some (.int sd),some (.int pl),some (.ref o1),some (.ref o2),some v1]∧TrV H' T1 v1∧okU b ks (if dn=true then pl else W) (if dn=true then h1 else pl) T1∧0≤r1∧(lvN T1:Int)≤r - 1 - r1 + 1∧dT T1≤d'∧H' rm=some (.lst [.int r1])∧PotC H' p∧But2 p rm H6 H') (fun R hR=>?_) ?_
 ·exact ⟨_,rfl,_,rfl,_,rfl,o1,_,0,_,rfl,rfl,SqT.of ho1,rfl,_,rfl,o1,_,1,_,rfl,rfl,SqT.of ho1,rfl,_,rfl,_,_,rfl,rfl,_,rfl,p,t,kl,rm,b,_,_,r - 1,ks,d',(by rw [← ed]; rfl),pt6,sh6,nk,nkr,nrp,k8,gk,b0,a1,a2,hrm6,by omega,by omega,fun v T r' H7 tv ok r0' ln dp hrm7 pt7 b7=>hR _ _ ⟨v,T,r',rfl,tv,ok,r0',ln,dp,hrm7,pt7,b7⟩⟩
 rintro _ H7 ⟨v1,T1,q1,rfl,tv1,ok1,q10,ln1,dp1,hrm7,pt7,b67⟩
 have sh7:=sh6.keep2 hp6 hrm6 nk nkr b67
 have kt:∀ {Ha Hb:Hp} {xs ys:List V},Ha p=some (.lst xs)→Ha rm=some (.lst ys)→But2 p rm Ha Hb→∀a zs,Ha a=some (.tup zs)→Hb a=some (.tup zs):=fun e1 e2 bb a zs e=>bb _ _ (fun z=>by rw [z,e1] at e; cases e) (fun z=>by rw [z,e2] at e; cases e) e
 have ho2':=kt hp6 hrm6 b67 _ _ ho2
 refine ⟨_,rfl,_,rfl,_,rfl,_,rfl,_,rfl,_,rfl,o2,_,0,_,rfl,rfl,SqT.of ho2',rfl,_,rfl,o2,_,1,_,rfl,rfl,SqT.of ho2',rfl,_,rfl,_,_,rfl,rfl,_,rfl,p,t,kl,rm,b,_,_,q1,ks,d',(by rw [← ed]; rfl),pt7,sh7,nk,nkr,nrp,k8,gk,b0,a3,a4,hrm7,q10,by omega,fun v2 T2 q2 H8 tv2 ok2 q20 ln2 dp2 hrm8 pt8 b78=>?_⟩
 obtain ⟨_,hp7⟩:=iP pt7
 refine ⟨(by show 4≤sizeLine; decide),fun tt htt=>?_⟩
 obtain ⟨H9,e9,k9,s9⟩:∃H',upd H8 tt (.tup [.str (wyS dn),.int pl,v1,v2])=H'∧H' tt=some (.tup [.str (wyS dn),.int pl,v1,v2])∧Same H8 H':=⟨_,rfl,upd_same,Same.new htt⟩
 rw [show upd H8 tt _=H9 from e9]
 refine q _ (.cut dn pl T1 T2) q2 H9 ⟨tt,v1,v2,rfl,k9,TrV.keep (fun a xs e=>s9 _ _ (kt hp7 hrm7 b78 _ _ e)) T1 tv1,TrV.keep (fun a xs e=>s9 _ _ e) T2 tv2⟩ ⟨pl1,?_⟩ q20 (by show ((lvN T1 + lvN T2:Nat):Int)≤_; omega) (by show max (dT T1) (dT T2) + 1≤_; omega) (s9 _ _ hrm8) (pt8.same s9) (fun c o n1 n2 e=>s9 _ _ (b78 _ _ n1 n2 (b67 _ _ n1 n2 (s56 _ _ (b05 _ _ n1 n2 e)))))
 cases dn with
 | true =>
  have esd:sd=W - b - 1:=esd
  exact ⟨by omega,ok1,ok2⟩
 | false =>
  have esd:sd=h1 - b - 1:=esd
  exact ⟨by omega,ok1,ok2⟩
theorem lM {f:Addr} {fd:FuncData} (F:Fun K "_law_tree" "_law_tree" fL f fd):FnOk P w K mg base CX0 3 f fd ["_law_pot_here","_law_shop_here","_law_wide","_law_high","_law_deep","_law_room"] (cx 0):=by
 refine F.ok sctreec (fun vs H Q E h=>?_) (fun cdv A outer s H vs Q E hr h=>?_)
 ·obtain ⟨p,t,kl,rm,b,W,h1,r,ks,deep,rfl,_⟩:=h
  rfl
 ·obtain ⟨p,t,kl,rm,b,W,h1,r,ks,deep,_,_,_,_,_,_,_,_,_,_,_,_,_,z,_⟩:=h
  exact absurd z (Nat.not_lt_zero _)
theorem gu {f:Addr} {fd:FuncData} (F:Fun K "_law_tree" "_law_tree" fL f fd) (B:Blt mg) (DD:Dn P w K mg base "_law_take" ["_law_pot_here","_law_many"] 1 (ci)) (DBh:Dn P w K mg base "_law_behind" ["_law_shop_here","_law_wide","_law_high","_law_way","_law_p"] 1 (gt)) (DLf:Dn P w K mg base "_law_leaf" ["_law_pot_here","_law_shop_here","_law_wide","_law_high"] 2 (eh)) (mk:∀n,FnOk P w K mg base CX0 (3 + n) f fd ["_law_pot_here","_law_shop_here","_law_wide","_law_high","_law_deep","_law_room"] (cx n)→Dn P w K mg base "_law_tree" ["_law_pot_here","_law_shop_here","_law_wide","_law_high","_law_deep","_law_room"] (3 + n) (cx n)):∀n,FnOk P w K mg base CX0 (3 + n) f fd ["_law_pot_here","_law_shop_here","_law_wide","_law_high","_law_deep","_law_room"] (cx n)
 | 0=>lM F
 | n + 1=>oq F B n DD DBh DLf (mk n (gu F B DD DBh DLf mk n))
end
def toD:Tr→PyData
 | .rest=>.tuple [.str "rest"]
 | .piece i c x y=>.tuple [.str "piece",.int i,.bool c,.int x,.int y]
 | .cut dn p l r=>.tuple [.str (wyS dn),.int p,toD l,toD r]
theorem TrV.dat {K:PySem.W.Frag} {H:Hp}:∀ (t:Tr) {v:V},TrV H t v→DatV K H v (toD t)
 | .rest,_,⟨a,e,h⟩=>by subst e; exact .tup (SqT.of h) (.cons (.str _) .nil)
 | .piece ..,_,⟨a,e,h⟩=>by subst e; exact .tup (SqT.of h) (.cons (.str _) (.cons (.int _) (.cons (.bl _) (.cons (.int _) (.cons (.int _) .nil)))))
 | .cut _ _ l r,_,⟨a,x,y,e,h,h1,h2⟩=>by subst e; exact .tup (SqT.of h) (.cons (.str _) (.cons (.int _) (.cons (TrV.dat l h1) (.cons (TrV.dat r h2) .nil))))
theorem jK:∀t:Tr,(toD t).canLay0=true∧(toD t).depth=dT t + 1
 | .rest=>⟨by decide +kernel,rfl⟩
 | .piece .. => ⟨by simp [toD,PyData.canLay0,PyData.canLayAll0]; decide +kernel,rfl⟩
 | .cut dn p l r=>by
  obtain ⟨l1,l2⟩:=jK l
  obtain ⟨r1,r2⟩:=jK r
  refine ⟨?_,?_⟩
  ·simp [toD,PyData.canLay0,PyData.canLayAll0,l1,r1]
   cases dn <;> decide +kernel
  ·simp only [toD,PyData.depth,PyData.depthAll,l2,r2,dT]
   omega
theorem jL {t:Tr} (h:dT t≤40):SeqAt.shaped (toD t)=true:=by
 obtain ⟨h1,h2⟩:=jK t
 unfold SeqAt.shaped
 rw [h1,h2,decide_eq_true (by omega)]
 rfl
def LfV (H:Hp) (v:V) (f:Lf):Prop:=∃a lv,v=.ref a∧H a=some (.tup [.int f.x,.int f.y,.int f.w,.int f.h,lv])∧TrV H f.t lv∧dT f.t=0
theorem LfV.same {H H':Hp} (s:Same H H') {v:V} {f:Lf} (h:LfV H v f):LfV H' v f:=by
 obtain ⟨a,lv,e,h,t,d⟩:=h
 exact ⟨a,lv,e,s _ _ h,TrV.keep (fun a xs e=>s _ _ e) f.t t,d⟩
theorem ot {H:Hp}:∀ {ys:List V} {qs:List (Nat×Bool)},Paired (LyC H) ys qs→Paired (PrB H) ys (qs.map fun q=>((q.1:Int),q.2))
 | _,_,.nil=>.nil
 | _,_,.cons h r=>.cons h (ot r)
section
variable {P:Program} {w:World} {K:PySem.W.Frag} {mg:Str→Option Value} {base:Heap}
def ej:Sp:=fun vs H Q _=>∃ (i l:Int),vs=[.int i,.int l]∧Q (.bl (decide (l≤i))) H
def hI:Sp:=fun vs H Q _=>∃ (t kl a:Addr) (b W h x y:Int) (ks:List Kd) (i:Nat) (c:Bool), vs=[.ref t, .int W, .int h, .ref a]∧LS H t b ks kl∧ks.length≤8∧H a=some (.tup [.str "piece", .int i, .bl c, .int x, .int y])∧okU b ks W h (.piece i c x y)∧∀H', Same H H'→Q (.bl true) H'
def cK (n:Nat):Sp:=fun vs H Q _=>∃ (t kl pa:Addr) (b x y W h:Int) (ks:List Kd) (v:V) (T:Tr),vs=[.ref t,.ref pa,v]∧LS H t b ks kl∧ks.length≤8∧H pa=some (.tup [.int x,.int y,.int W,.int h])∧TrV H T v∧okU b ks W h T∧dT T≤40∧lvN T≤1000∧dT T < n∧∀ (l:Addr) (us:List V) (H':Hp),H' l=some (.lst us)→Paired (LfV H') us (lvT b T x y W h)→Same H H'→Q (.ref l) H'
def kN (K:PySem.W.Frag):Sp:=fun vs H Q _=>∃ (l:Addr) (us:List V) (fs:List Lf),vs=[.ref l]∧H l=some (.lst us)∧Paired (LfV H) us fs∧fs.length < 64∧∀ (r:Addr) (ys:List V) (qs:List Pq) (H':Hp),H r=none→H' r=some (.lst ys)→Paired (PqU H') ys qs→qs.Perm (fs.filterMap lfQ)→((qs.map iV).Pairwise fun x y=>bC y x=false)→Same H H'→Q (.ref r) H'
theorem scplain:FnScope ["_law_thing","_law_least"] ["_law_thing","_law_least"] (defScope fM):=⟨rfl,rfl,rfl,by decide +kernel,rfl,by decide +kernel,by decide +kernel⟩
theorem ou {f:Addr} {fd:FuncData} (F:Fun K "_law_plain" "_law_plain" fM f fd) (B:Blt mg):FnOk P w K mg base CX0 1 f fd ["_law_thing","_law_least"] (ej):=by
 refine F.ok scplain (fun vs H Q E h=>?_) (fun cdv A outer s H vs Q E hr h=>?_)
 ·obtain ⟨i,l,rfl,_⟩:=h
  rfl
 obtain ⟨i,l,rfl,q⟩:=h
 have nd:=scplain.nd
 refine ⟨_,(@af _ _ _ (@ar _ _ _ _ (bV (@ay _ _ _ _ _ _ _ _ _ aW rfl B.isi PyProof.Rows.boot_isinstance (@aa _ _ _ _ _ (pv 0) (@aa _ _ _ _ _ (bv (v:=.ty "int") rfl B.int PyProof.Rows.boot_int rfl) ab rfl) rfl) (by decide) (by decide) rfl rfl) (bV (jd (@ay _ _ _ _ _ _ _ _ _ aW rfl B.isi PyProof.Rows.boot_isinstance (@aa _ _ _ _ _ (pv 0) (@aa _ _ _ _ _ (bv (v:=.ty "bool") rfl B.bool PyProof.Rows.boot_bool rfl) ab rfl) rfl) (by decide) (by decide) rfl rfl)) (cF (@aZ _ _ _ _ _ _ _ _ ik (pv 0) (pv 1) (az _))))))),?_⟩
 have ty:TyOf K H (.int i) (.type "int"):=.int i
 refine ⟨_,rfl,.int i,_,_,_,_,rfl,ty,rfl,ku "int" (by decide),_,rfl,?_⟩
 refine aY ⟨_,rfl,.int i,_,_,_,_,rfl,ty,rfl,dI "int" (by decide),_,rfl,_,rfl,?_⟩
 exact aY ⟨_,rfl,_,rfl,_,_,rfl,rfl,q⟩
theorem scislf:FnScope ["_law_shop_here","_law_wide","_law_high","_law_tree_here","_law_own"] ["_law_shop_here","_law_wide","_law_high","_law_tree_here"] (defScope dU):=⟨rfl,rfl,rfl,by decide +kernel,rfl,by decide +kernel,by decide +kernel⟩
theorem qg {f:Addr} {fd:FuncData} (F:Fun K "_law_is_leaf" "_law_is_leaf" dU f fd) (B:Blt mg) (DPl:Dn P w K mg base "_law_plain" ["_law_thing","_law_least"] 1 (ej)) (DSd:Dn P w K mg base "_law_sides" ["_law_shop_here","_law_kind","_law_turned"] 1 (dZ)) (DLy:Dn P w K mg base "_law_lyings" ["_law_shop_here"] 1 (cY)):FnOk P w K mg base CX0 2 f fd ["_law_shop_here","_law_wide","_law_high","_law_tree_here"] (hI):=by
 refine F.ok scislf (fun vs H Q E h=>?_) (fun cdv A outer s H vs Q E hr h=>?_)
 ·obtain ⟨t,kl,a,b,W,h1,x,y,ks,i,c,rfl,_⟩:=h
  rfl
 obtain ⟨t,kl,a,b,W,h1,x,y,ks,i,c,rfl,sh,k8,ha,okp,q⟩:=h
 have nd:=scislf.nd
 have hu65:=Nat.lt_of_succ_lt hr.units66
 refine ⟨_,(@ae _ _ _ _ _ (@aI _ _ _ _ _ _ _ _ (PW.pt (be (@aB _ _ _ _ _ _ _ _ dw (@ay _ _ _ _ _ _ _ _ _ aK rfl B.len PySem.boot_len (@aa _ _ _ _ _ (pv 3) ab rfl) (by decide) (by decide) rfl rfl) ad (az _)) (be (@aL _ _ _ _ (@aH _ _ _ (@ao _ _ _ _ _ _ _ _ _ _ DPl (hr.mono (by decide)) rfl (@aa _ _ _ _ _ (@au _ _ _ _ _ _ _ ix_tup (pv 3) ad (fun _ _=>rfl)) (@aa _ _ _ _ _ ad ab rfl) rfl) (by decide) rfl rfl) (by intro _; rfl))) (bg (@aL _ _ _ _ (@aH _ _ _ (@ay _ _ _ _ _ _ _ _ _ aW rfl B.isi PyProof.Rows.boot_isinstance (@aa _ _ _ _ _ (@au _ _ _ _ _ _ _ ix_tup (pv 3) ad (fun _ _=>rfl)) (@aa _ _ _ _ _ (bv (v:=.ty "bool") rfl B.bool PyProof.Rows.boot_bool rfl) ab rfl) rfl) (by decide) (by decide) rfl rfl) (by intro _; rfl))))))) (@af _ _ _ (@ar _ _ _ _ bD)) aA) (@ae _ _ _ _ _ (@aI _ _ _ _ _ _ _ _ (PW.pt (be (@aB _ _ _ _ _ _ _ _ (lA hu65) (@dD _ _ _ _ _ _ _ _ _ _ mT (pv 3) (dC ad) (dC ad)) (@ao _ _ _ _ _ _ _ _ _ _ DLy (hr.mono (by decide)) rfl (@aa _ _ _ _ _ (pv 0) ab rfl) (by decide) rfl rfl) rfl) (be (@aL _ _ _ _ (@aH _ _ _ (@ao _ _ _ _ _ _ _ _ _ _ DPl (hr.mono (by decide)) rfl (@aa _ _ _ _ _ (@au _ _ _ _ _ _ _ ix_tup (pv 3) ad (fun _ _=>rfl)) (@aa _ _ _ _ _ ad ab rfl) rfl) (by decide) rfl rfl) (by intro _; rfl))) (bg (@aL _ _ _ _ (@aH _ _ _ (@ao _ _ _ _ _ _ _ _ _ _ DPl (hr.mono (by decide)) rfl (@aa _ _ _ _ _ (@au _ _ _ _ _ _ _ ix_tup (pv 3) ad (fun _ _=>rfl)) (@aa _ _ _ _ _ ad ab rfl) rfl) (by decide) rfl rfl) (by intro _; rfl))))))) (@af _ _ _ (@ar _ _ _ _ bD)) aA) (@ae _ _ _ _ _ (@aE _ _ 4 _ _ _ _ nd rfl (Or.inl rfl) (@ao _ _ _ _ _ _ _ _ _ _ DSd (hr.mono (by decide)) rfl (@aa _ _ _ _ _ (pv 0) (@aa _ _ _ _ _ (@au _ _ _ _ _ _ _ ix_tup (pv 3) ad (fun _ _=>rfl)) (@aa _ _ _ _ _ (@au _ _ _ _ _ _ _ ix_tup (pv 3) ad (fun _ _=>rfl)) ab rfl) rfl) rfl) (by decide) rfl rfl) rfl (Or.inl rfl)) (@af _ _ _ (@ar _ _ _ _ (bV (@aZ _ _ _ _ _ _ _ _ dz (@aD _ _ _ _ _ _ _ _ aO (@au _ _ _ _ _ _ _ ix_tup (pv 3) ad (fun _ _=>rfl)) (@au _ _ _ _ _ _ _ ix_tup (pv 4) ad (fun _ _=>rfl))) (pv 1) (az _)) (cF (@aZ _ _ _ _ _ _ _ _ dz (@aD _ _ _ _ _ _ _ _ aO (@au _ _ _ _ _ _ _ ix_tup (pv 3) ad (fun _ _=>rfl)) (@au _ _ _ _ _ _ _ ix_tup (pv 4) ad (fun _ _=>rfl))) (pv 2) (az _))))))))),?_⟩
 obtain ⟨k,hk,hly,x0,y0,fx,fy⟩:=okp
 refine ah (fun σ' H'=>σ'=[some (.ref t),some (.int W),some (.int h1),some (.ref a),none]∧H=H') (fun R hR=>?_) ?_
 ·refine ⟨_,rfl,a,_,rfl,.inr (SqT.of ha),rfl,_,rfl,?_⟩
  refine aM ⟨_,rfl,a,_,1,_,rfl,rfl,SqT.of ha,rfl,i,0,rfl,_,rfl,?_⟩
  rw [decide_eq_true (show (0:Int)≤i by omega)]
  refine aM ⟨_,rfl,a,_,2,_,rfl,rfl,SqT.of ha,rfl,.bl c,_,_,_,_,rfl,.bl c,rfl,dI "bool" (by decide),_,rfl,?_⟩
  exact aM (hR _ _ ⟨rfl,rfl⟩)
 rintro _ _ ⟨rfl,rfl⟩
 refine ah (fun σ' H'=>σ'=[some (.ref t),some (.int W),some (.int h1),some (.ref a),none]∧Same H H') (fun R hR=>?_) ?_
 ·refine ⟨_,rfl,_,rfl,_,rfl,a,_,rfl,SqT.of ha,(fun z=>absurd z.1 (show ¬ HT.sIx 5 0 (some 1)=0 by decide)),fun s2 hs2=>?_⟩
  obtain ⟨H1, e1, k1, s1⟩:∃H', upd H s2 (.tup (cz [.str "piece", .int i, .bl c, .int x, .int y] (some 1) (some 3)))=H'∧H' s2=some (.tup (cz [.str "piece", .int i, .bl c, .int x, .int y] (some 1) (some 3)))∧Same H H':=⟨_, rfl, upd_same, Same.new hs2⟩
  rw [show upd H s2 _=H1 from e1]
  have k1:H1 s2=some (.tup [.int i,.bl c]):=k1
  refine ⟨_,rfl,t,kl,b,ks,rfl,sh.same s1,k8,fun l ys H2 hl hl0 pl s12=>?_⟩
  refine ⟨s2,l,.int i,.bl c,ys,_,rfl,rfl,s12 _ _ k1,(.inr (.inr (.inl ⟨i,rfl⟩))),(.inr (.inl ⟨c,rfl⟩)),hl,ot pl,_,rfl,?_⟩
  have ha2:=s12 _ _ (s1 _ _ ha)
  rw [show (!((lyK ks 0).map fun q=>((q.1:Int),q.2)).any fun q=>eI (.int i) q.1 && eB (.bl c) q.2)=false by
   rw [List.any_eq_true.mpr ⟨((i:Int),c),List.mem_map.mpr ⟨(i,c),hly,rfl⟩,by rw [kG,kH]; rfl⟩]
   rfl]
  refine aM ⟨_,rfl,a,_,3,_,rfl,rfl,SqT.of ha2,rfl,x,0,rfl,_,rfl,?_⟩
  rw [decide_eq_true x0]
  refine aM ⟨_,rfl,a,_,4,_,rfl,rfl,SqT.of ha2,rfl,y,0,rfl,_,rfl,?_⟩
  rw [decide_eq_true y0]
  exact aM (hR _ _ ⟨rfl,s1.trans s12⟩)
 rintro _ H2 ⟨rfl,s2⟩
 have ha2:=s2 _ _ ha
 refine ah (fun σ' H'=>∃ow:Addr,σ'=[some (.ref t),some (.int W),some (.int h1),some (.ref a),some (.ref ow)]∧H' ow=some (.tup [.int (sd1 k c),.int (sd2 k c)])∧Same H2 H') (fun R hR=>?_) ?_
 ·exact ⟨_,rfl,_,rfl,a,_,1,_,rfl,rfl,SqT.of ha2,rfl,_,rfl,a,_,2,_,rfl,rfl,SqT.of ha2,rfl,t,kl,b,ks,i,c,k,rfl,sh.same s2,hk,fun r H3 hr s3=>hR _ _ ⟨r,rfl,hr,s3⟩⟩
 rintro _ H3 ⟨ow,rfl,how,s23⟩
 have ha3:=s23 _ _ ha2
 refine ⟨_,rfl,a,_,3,_,rfl,rfl,SqT.of ha3,rfl,_,rfl,ow,_,0,_,rfl,rfl,SqT.of how,rfl,_,_,rfl,rfl,_,rfl,_,_,rfl,rfl,_,rfl,?_⟩
 rw [decide_eq_true fx]
 refine aY ⟨_,rfl,a,_,4,_,rfl,rfl,SqT.of ha3,rfl,_,rfl,ow,_,1,_,rfl,rfl,SqT.of how,rfl,_,_,rfl,rfl,_,rfl,_,_,rfl,rfl,?_⟩
 have:=q H3 (s2.trans s23)
 rw [show (fun i j:Int=>V.bl (decide (i≤j))) ((fun _=>y + sd2 k c) ()) h1=V.bl true by show V.bl (decide (y + sd2 k c≤h1))=_; rw [decide_eq_true fy]]
 exact this
end
theorem iW {t:Tr} (h:t≠.rest):PyData.eqv (toD t) (.tuple [.str "rest"])=false:=by
 cases t with
 | rest=>exact absurd rfl h
 | piece i c x y=>simp [toD,PyData.eqv,PyData.eqvAll]
 | cut dn p l r=>simp [toD,PyData.eqv,PyData.eqvAll]
theorem vh {H H':Hp} {a b m:Addr} {o:HO} (h:(H'=H∧(m=a∨m=b))∨(H m=none∧H'=upd H m o)):Same H H':=by
 rcases h with ⟨e,_⟩ | ⟨e1,e2⟩
 ·rw [e]; exact Same.refl _
 ·rw [e2]; exact Same.new e1
section
variable {P:Program} {w:World} {K:PySem.W.Frag} {mg:Str→Option Value} {base:Heap}
theorem scwalk:FnScope ["_law_shop_here","_law_part","_law_tree_here","_law_x","_law_y","_law_wide","_law_high","_law_way","_law_p","_law_first","_law_second","_law_one","_law_other","_law_far","_law_start","_law_left","_law_right_here"] ["_law_shop_here","_law_part","_law_tree_here"] (defScope fN):=⟨rfl,rfl,rfl,by decide +kernel,rfl,by decide +kernel,by decide +kernel⟩
set_option maxHeartbeats 1000000 in
theorem qh {f:Addr} {fd:FuncData} (F:Fun K "_law_walk" "_law_walk" fN f fd) (n:Nat) (B:Blt mg) (hst:mg "str" = none) (DPl:Dn P w K mg base "_law_plain" ["_law_thing","_law_least"] 1 (ej)) (DIL:Dn P w K mg base "_law_is_leaf" ["_law_shop_here","_law_wide","_law_high","_law_tree_here"] 2 (hI)) (DBh:Dn P w K mg base "_law_behind" ["_law_shop_here","_law_wide","_law_high","_law_way","_law_p"] 1 (gt)) (DWk:Dn P w K mg base "_law_walk" ["_law_shop_here","_law_part","_law_tree_here"] (3 + n) (cK n)):FnOk P w K mg base CX0 (3 + (n + 1)) f fd ["_law_shop_here","_law_part","_law_tree_here"] (cK (n + 1)):=by
 refine F.ok scwalk (fun vs H Q E h=>?_) (fun cdv A outer s H vs Q E hr h=>?_)
 ·obtain ⟨t,kl,pa,b,x,y,W,h1,ks,v,T,rfl,_⟩:=h
  rfl
 obtain ⟨t,kl,pa,b,x,y,W,h1,ks,v,T,rfl,sh,k8,hpa,tv,okT,d40,l1000,dn0,q⟩:=h
 have nd:=scwalk.nd
 have hu:=hr.units
 refine ⟨_,(@ae _ _ _ _ _ (@bn _ _ _ _ _ _ (pv 1) (bd rfl (ai (aj (i:=3) nd rfl (Or.inl rfl)) (ai (aj (i:=4) nd rfl (Or.inl rfl)) (ai (aj (i:=5) nd rfl (Or.inl rfl)) (ai (aj (i:=6) nd rfl (Or.inl rfl)) aP))))) rfl rfl rfl) (@ae _ _ _ _ _ (@aI _ _ _ _ _ _ _ _ (PW.pt (be (@aL _ _ _ _ (@aH _ _ _ (@ay _ _ _ _ _ _ _ _ _ aW rfl B.isi PyProof.Rows.boot_isinstance (@aa _ _ _ _ _ (pv 2) (@aa _ _ _ _ _ (bv (v:=.ty "tuple") rfl B.tuple PyProof.Rows.boot_tuple rfl) ab rfl) rfl) (by decide) (by decide) rfl rfl) (by intro _; rfl))) (be (@aB _ _ _ _ _ _ _ _ (jq hu) (pv 2) (@aF _ _ _ _ _ ab) (az _)) (bg (@aL _ _ _ _ (@aH _ _ _ (@ay _ _ _ _ _ _ _ _ _ aW rfl B.isi PyProof.Rows.boot_isinstance (@aa _ _ _ _ _ (@au _ _ _ _ _ _ _ ix_tup (pv 2) ad (fun _ _=>rfl)) (@aa _ _ _ _ _ (bv (v:=.ty "str") rfl hst PyProof.Rows.boot_str rfl) ab rfl) rfl) (by decide) (by decide) rfl rfl) (by intro _; rfl))))))) (@af _ _ _ (@ar _ _ _ _ bF)) aA) (@ae _ _ _ _ _ (@aI _ _ _ _ _ _ _ _ (@aB _ _ _ _ _ _ _ _ (jq hu) (pv 2) (@aF _ _ _ _ _ (@aa _ _ _ _ _ br ab rfl)) (az _)) (@af _ _ _ (@ar _ _ _ _ (@aT _ _ _ _ (@aa _ _ _ _ _ (@aF _ _ _ _ _ (@aa _ _ _ _ _ (pv 3) (@aa _ _ _ _ _ (pv 4) (@aa _ _ _ _ _ (pv 5) (@aa _ _ _ _ _ (pv 6) (@aa _ _ _ _ _ (pv 2) ab rfl) rfl) rfl) rfl) rfl)) ab rfl)))) aA) (@ae _ _ _ _ _ (@aI _ _ _ _ _ _ _ _ (@aB _ _ _ _ _ _ _ _ bK (@au _ _ _ _ _ _ _ ix_tup (pv 2) ad (fun _ _=>rfl)) br (az _)) (@af _ _ _ (@ar _ _ _ _ (@au _ _ _ _ _ _ _ ix_list (@aT _ _ _ _ (@aa _ _ _ _ _ bF (@aa _ _ _ _ _ (@aT _ _ _ _ (@aa _ _ _ _ _ (@aF _ _ _ _ _ (@aa _ _ _ _ _ (pv 3) (@aa _ _ _ _ _ (pv 4) (@aa _ _ _ _ _ (pv 5) (@aa _ _ _ _ _ (pv 6) (@aa _ _ _ _ _ (pv 2) ab rfl) rfl) rfl) rfl) rfl)) ab rfl)) ab rfl) rfl)) (@aU _ _ _ _ _ _ _ _ _ bT rfl B.int PyProof.Rows.boot_int (@aa _ _ _ _ _ (@ao _ _ _ _ _ _ _ _ _ _ DIL (hr.mono (show 2≤3 + n by omega)) rfl (@aa _ _ _ _ _ (pv 0) (@aa _ _ _ _ _ (pv 5) (@aa _ _ _ _ _ (pv 6) (@aa _ _ _ _ _ (pv 2) ab rfl) rfl) rfl) rfl) (by decide) rfl rfl) ab rfl) (by decide) (by decide) rfl rfl) (fun _ _=>rfl)))) aA) (@ae _ _ _ _ _ (@aI _ _ _ _ _ _ _ _ (PW.pt (be (@aB _ _ _ _ _ _ _ _ gK (@au _ _ _ _ _ _ _ ix_tup (pv 2) ad (fun _ _=>rfl)) (@aF _ _ _ _ _ (@aa _ _ _ _ _ br (@aa _ _ _ _ _ br ab rfl) rfl)) rfl) (be (@aB _ _ _ _ _ _ _ _ dw (@ay _ _ _ _ _ _ _ _ _ aK rfl B.len PySem.boot_len (@aa _ _ _ _ _ (pv 2) ab rfl) (by decide) (by decide) rfl rfl) ad (az _)) (bg (@aL _ _ _ _ (@aH _ _ _ (@ao _ _ _ _ _ _ _ _ _ _ DPl (hr.mono (show 1≤3 + n by omega)) rfl (@aa _ _ _ _ _ (@au _ _ _ _ _ _ _ ix_tup (pv 2) ad (fun _ _=>rfl)) (@aa _ _ _ _ _ ad ab rfl) rfl) (by decide) rfl rfl) (by intro _; rfl))))))) (@af _ _ _ (@ar _ _ _ _ bF)) aA) (@ae _ _ _ _ _ (@bn _ _ _ _ _ _ (pv 2) (bd rfl (ai (aj (i:=7) nd rfl (Or.inl rfl)) (ai (aj (i:=8) nd rfl (Or.inl rfl)) (ai (aj (i:=9) nd rfl (Or.inl rfl)) (ai (aj (i:=10) nd rfl (Or.inl rfl)) aP))))) rfl rfl rfl) (@ae _ _ _ _ _ (@aI _ _ _ _ _ _ _ _ (@aB _ _ _ _ _ _ _ _ ik (@aD _ _ _ _ _ _ _ _ aO (pv 8) (@au _ _ _ _ _ _ _ ix_tup (pv 0) ad (fun _ _=>rfl))) (@au _ _ _ _ _ _ _ ix_list (@aT _ _ _ _ (@aa _ _ _ _ _ (pv 5) (@aa _ _ _ _ _ (pv 6) ab rfl) rfl)) (@aU _ _ _ _ _ _ _ _ _ bT rfl B.int PyProof.Rows.boot_int (@aa _ _ _ _ _ (@aZ _ _ _ _ _ _ _ _ bK (pv 7) br (az _)) ab rfl) (by decide) (by decide) rfl rfl) (fun _ _=>rfl)) (az _)) (@af _ _ _ (@ar _ _ _ _ bF)) aA) (@ae _ _ _ _ _ (@bn _ _ _ _ _ _ (@ao _ _ _ _ _ _ _ _ _ _ DBh (hr.mono (show 1≤3 + n by omega)) rfl (@aa _ _ _ _ _ (pv 0) (@aa _ _ _ _ _ (pv 5) (@aa _ _ _ _ _ (pv 6) (@aa _ _ _ _ _ (pv 7) (@aa _ _ _ _ _ (pv 8) ab rfl) rfl) rfl) rfl) rfl) (by decide) rfl rfl) (bd rfl (ai (aj (i:=11) nd rfl (Or.inl rfl)) (ai (aj (i:=12) nd rfl (Or.inl rfl)) aP))) rfl rfl rfl) (@ae _ _ _ _ _ (@aE _ _ 13 _ _ _ _ nd rfl (Or.inl rfl) (@aD _ _ _ _ _ _ _ _ aO (pv 8) (@au _ _ _ _ _ _ _ ix_tup (pv 0) ad (fun _ _=>rfl))) rfl (Or.inl rfl)) (@ae _ _ _ _ _ (@aE _ _ 14 _ _ _ _ nd rfl (Or.inl rfl) (@au _ _ _ _ _ _ _ ix_list (@aT _ _ _ _ (@aa _ _ _ _ _ (@aF _ _ _ _ _ (@aa _ _ _ _ _ (@aD _ _ _ _ _ _ _ _ aO (pv 3) (pv 13)) (@aa _ _ _ _ _ (pv 4) ab rfl) rfl)) (@aa _ _ _ _ _ (@aF _ _ _ _ _ (@aa _ _ _ _ _ (pv 3) (@aa _ _ _ _ _ (@aD _ _ _ _ _ _ _ _ aO (pv 4) (pv 13)) ab rfl) rfl)) ab rfl) rfl)) (@aU _ _ _ _ _ _ _ _ _ bT rfl B.int PyProof.Rows.boot_int (@aa _ _ _ _ _ (@aZ _ _ _ _ _ _ _ _ bK (pv 7) br (az _)) ab rfl) (by decide) (by decide) rfl rfl) (fun _ _=>rfl)) rfl (Or.inl rfl)) (@ae _ _ _ _ _ (@aE _ _ 15 _ _ _ _ nd rfl (Or.inl rfl) (@ao _ _ _ _ _ _ _ _ _ _ DWk hr rfl (@aa _ _ _ _ _ (pv 0) (@aa _ _ _ _ _ (@aD _ _ _ _ _ _ _ _ kC (@aF _ _ _ _ _ (@aa _ _ _ _ _ (pv 3) (@aa _ _ _ _ _ (pv 4) ab rfl) rfl)) (pv 11)) (@aa _ _ _ _ _ (pv 9) ab rfl) rfl) rfl) (by decide) rfl rfl) rfl (Or.inl rfl)) (@ae _ _ _ _ _ (@aE _ _ 16 _ _ _ _ nd rfl (Or.inl rfl) (@ao _ _ _ _ _ _ _ _ _ _ DWk hr rfl (@aa _ _ _ _ _ (pv 0) (@aa _ _ _ _ _ (@aD _ _ _ _ _ _ _ _ kC (pv 14) (pv 12)) (@aa _ _ _ _ _ (pv 10) ab rfl) rfl) rfl) (by decide) rfl rfl) rfl (Or.inl rfl)) (@ae _ _ _ _ _ (@aI _ _ _ _ _ _ _ _ (PW.pt (be (@aB _ _ _ _ _ _ _ _ gD (pv 15) bF (az _)) (bg (@aB _ _ _ _ _ _ _ _ gD (pv 16) bF (az _))))) (@af _ _ _ (@ar _ _ _ _ bF)) aA) (@af _ _ _ (@ar _ _ _ _ (@aD _ _ _ _ _ _ _ _ rq (pv 15) (pv 16))))))))))))))))),?_⟩
 have sz:(5000:Nat) < sizeLine:=by decide
 have shT:=jL d40
 have dat:=TrV.dat (K:=K) T tv
 obtain ⟨av,xs,rfl,hav,y0,rest',exs⟩:∃av xs,v=.ref av∧H av=some (.tup xs)∧∃ (y0:Str) (r:List V),xs=.str y0 :: r:=by
  cases T with
  | rest=>obtain ⟨a,e,h⟩:=tv; exact ⟨a,_,e,h,_,_,rfl⟩
  | piece i c px py=>obtain ⟨a,e,h⟩:=tv; exact ⟨a,_,e,h,_,_,rfl⟩
  | cut dn p l r=>obtain ⟨a,x',y',e,h,_⟩:=tv; exact ⟨a,_,e,h,_,_,rfl⟩
 refine ah (fun σ' H'=>σ'=[some (.ref t),some (.ref pa),some (.ref av),some (.int x),some (.int y),some (.int W),some (.int h1),none,none,none,none,none,none,none,none,none,none]∧H=H') (fun R hR=>?_) ?_
 ·exact ⟨_,rfl,pa,_,rfl,SqT.of hpa,rfl,_,_,rfl,_,_,rfl,_,_,rfl,_,_,rfl,rfl,hR _ _ ⟨rfl,rfl⟩⟩
 rintro _ _ ⟨rfl,rfl⟩
 refine ah (fun σ' H'=>σ'=[some (.ref t),some (.ref pa),some (.ref av),some (.int x),some (.int y),some (.int W),some (.int h1),none,none,none,none,none,none,none,none,none,none]∧Same H H') (fun R hR=>?_) ?_
 ·subst exs
  refine ⟨_,rfl,.ref av,_,_,_,_,rfl,.tup hav,rfl,eJ "tuple" (by decide),_,rfl,?_⟩
  refine aM ⟨_,rfl,(by show 0≤sizeLine; decide),fun e he=>?_⟩
  obtain ⟨H1,e1,k1,s1⟩:∃H',upd H e (.tup [])=H'∧H' e=some (.tup [])∧Same H H':=⟨_,rfl,upd_same,Same.new he⟩
  rw [show upd H e _=H1 from e1]
  refine ⟨toD T,.tuple [],TrV.dat (K:=K) T (TrV.keep (fun a xs e=>s1 _ _ e) T tv),.tup (SqT.of k1) .nil,shT,by decide +kernel,_,rfl,?_⟩
  rw [show PyData.eqv (toD T) (.tuple [])=false by cases T <;> rfl]
  refine aM ⟨_,rfl,av,_,0,_,rfl,rfl,SqT.of (s1 _ _ hav),cX (Int.le_refl _) rfl,.str y0,_,_,_,_,rfl,.str y0,rfl,pC "str" (by decide),_,rfl,aM (hR _ _ ⟨rfl,s1⟩)⟩
 rintro _ H1 ⟨rfl,s1⟩
 have ret:∀ {Hx:Hp} {a l:Addr},Same H Hx→dT T=0→lvT b T x y W h1=[⟨x,y,W,h1,T⟩]→Hx a=some (.tup [.int x,.int y,.int W,.int h1,.ref av])→Hx l=some (.lst [.ref a])→Q (.ref l) Hx:=fun sx d0 e ha hl=>by
  refine q _ [.ref _] _ hl ?_ sx
  rw [e]
  exact .cons ⟨_,.ref av,rfl,ha,TrV.keep (fun a xs e=>sx _ _ e) T tv,d0⟩ .nil
 refine ah (fun σ' H'=>σ'=[some (.ref t),some (.ref pa),some (.ref av),some (.int x),some (.int y),some (.int W),some (.int h1),none,none,none,none,none,none,none,none,none,none]∧Same H H'∧T≠.rest) (fun R hR=>?_) ?_
 ·refine ⟨_,rfl,(by show 1≤sizeLine; decide),fun e he=>?_⟩
  obtain ⟨H2, e2, k2, s2⟩:∃H', upd H1 e (.tup [.str "rest"])=H'∧H' e=some (.tup [.str "rest"])∧Same H1 H':=⟨_, rfl, upd_same, Same.new he⟩
  rw [show upd H1 e _=H2 from e2]
  have s02:=s1.trans s2
  refine ⟨toD T,.tuple [.str "rest"],TrV.dat (K:=K) T (TrV.keep (fun a xs e=>s02 _ _ e) T tv),.tup (SqT.of k2) (.cons (.str _) .nil),shT,by decide +kernel,_,rfl,?_⟩
  cases T with
  | rest =>
   rw [show PyData.eqv (toD .rest) (.tuple [.str "rest"])=true by decide +kernel]
   refine aY ⟨_,rfl,_,rfl,_,rfl,_,rfl,_,rfl,(by show 5≤sizeLine; decide),fun a ha=>?_⟩
   obtain ⟨H3,e3,k3,s3⟩:∃H',upd H2 a (.tup [.int x,.int y,.int W,.int h1,.ref av])=H'∧H' a=some (.tup [.int x,.int y,.int W,.int h1,.ref av])∧Same H2 H':=⟨_,rfl,upd_same,Same.new ha⟩
   rw [show upd H2 a _=H3 from e3]
   refine ⟨(by show 1≤sizeLine; decide),fun l hl=>?_⟩
   obtain ⟨H4,e4,k4,s4⟩:∃H',upd H3 l (.lst [.ref a])=H'∧H' l=some (.lst [.ref a])∧Same H3 H':=⟨_,rfl,upd_same,Same.new hl⟩
   rw [show upd H3 l _=H4 from e4]
   exact ret (s02.trans (s3.trans s4)) rfl rfl (s4 _ _ k3) k4
  | piece i c px py =>
   rw [iW (t:=.piece i c px py) (fun z=>nomatch z)]
   exact aM (hR _ _ ⟨rfl,s02,fun z=>nomatch z⟩)
  | cut dn p l r =>
   rw [iW (t:=.cut dn p l r) (fun z=>nomatch z)]
   exact aM (hR _ _ ⟨rfl,s02,fun z=>nomatch z⟩)
 clear s1
 clear H1
 rintro _ H1 ⟨rfl,s1,nr⟩
 refine ah (fun σ' H'=>σ'=[some (.ref t),some (.ref pa),some (.ref av),some (.int x),some (.int y),some (.int W),some (.int h1),none,none,none,none,none,none,none,none,none,none]∧Same H H'∧∃dn p l r,T=.cut dn p l r) (fun R hR=>?_) ?_
 ·cases T with
  | rest=>exact absurd rfl nr
  | piece i c px py =>
   obtain ⟨a0,e0,h0⟩:=id tv
   cases e0
   rw [hav] at h0
   cases h0
   refine ⟨_,rfl,av,_,0,_,rfl,rfl,SqT.of (s1 _ _ hav),rfl,rfl,_,rfl,?_⟩
   refine kM (by decide +kernel) ⟨_,rfl,_,rfl,_,rfl,_,rfl,_,rfl,(by show 5≤sizeLine; decide),fun a ha=>?_⟩
   obtain ⟨H3,e3,k3,s3⟩:∃H',upd H1 a (.tup [.int x,.int y,.int W,.int h1,.ref av])=H'∧H' a=some (.tup [.int x,.int y,.int W,.int h1,.ref av])∧Same H1 H':=⟨_,rfl,upd_same,Same.new ha⟩
   rw [show upd H1 a _=H3 from e3]
   refine ⟨(by show 1≤sizeLine; decide),fun l hl=>?_⟩
   obtain ⟨H4,e4,k4,s4⟩:∃H',upd H3 l (.lst [.ref a])=H'∧H' l=some (.lst [.ref a])∧Same H3 H':=⟨_,rfl,upd_same,Same.new hl⟩
   rw [show upd H3 l _=H4 from e4]
   refine ⟨(by show 2≤sizeLine; decide),fun l2 hl2=>?_⟩
   obtain ⟨H5,e5,k5,s5⟩:∃H',upd H4 l2 (.lst [.non,.ref l])=H'∧H' l2=some (.lst [.non,.ref l])∧Same H4 H':=⟨_,rfl,upd_same,Same.new hl2⟩
   rw [show upd H4 l2 _=H5 from e5]
   have s05:=s1.trans (s3.trans (s4.trans s5))
   refine ⟨_,rfl,_,rfl,_,rfl,_,rfl,t,kl,av,b,W,h1,px,py,ks,i,c,rfl,sh.same s05,k8,s05 _ _ hav,okT,fun H6 s6=>.inr ⟨true,rfl,l2,_,_,.ref l,rfl,rfl,SqL.of (s6 _ _ k5),rfl,ret (s05.trans s6) rfl rfl (s6 _ _ (s5 _ _ (s4 _ _ k3))) (s6 _ _ (s5 _ _ k4))⟩⟩
  | cut dn p l r =>
   obtain ⟨a0,x',y',e0,h0,_⟩:=id tv
   cases e0
   rw [hav] at h0
   cases h0
   refine ⟨_,rfl,av,_,0,_,rfl,rfl,SqT.of (s1 _ _ hav),rfl,rfl,_,rfl,?_⟩
   exact eU (by cases dn <;> decide +kernel) (hR _ _ ⟨rfl,s1,dn,p,l,r,rfl⟩)
 clear s1 ret
 clear H1
 rintro _ H1 ⟨rfl,s1,dn,p,l,r,rfl⟩
 obtain ⟨a0,fv,sv,e0,h0,tl,tr⟩:=id tv
 cases e0
 have h0:H av=some (.tup [.str (wyS dn),.int p,fv,sv]):=h0
 rw [hav] at h0
 obtain rfl:=HO.tup.inj (Option.some.inj h0)
 clear h0
 obtain ⟨p1,okc⟩:=id okT
 refine ah (fun σ' H'=>σ'=[some (.ref t),some (.ref pa),some (.ref av),some (.int x),some (.int y),some (.int W),some (.int h1),none,none,none,none,none,none,none,none,none,none]∧Same H H') (fun R hR=>?_) ?_
 ·refine ⟨_,rfl,av,_,0,_,rfl,rfl,SqT.of (s1 _ _ hav),rfl,(by show 2≤sizeLine; decide),fun tt htt=>?_⟩
  obtain ⟨H2, e2, k2, s2⟩:∃H', upd H1 tt (.tup [.str "down", .str "across"])=H'∧H' tt=some (.tup [.str "down", .str "across"])∧Same H1 H':=⟨_, rfl, upd_same, Same.new htt⟩
  rw [show upd H1 tt _=H2 from e2]
  have hav2:=s2 _ _ (s1 _ _ hav)
  refine ⟨tt,_,rfl,.inr (SqT.of k2),rfl,rfl,_,rfl,?_⟩
  rw [show inV (V.str (wyS dn)) [V.str "down",V.str "across"]=true by cases dn <;> decide +kernel]
  refine aM ⟨_,rfl,av,_,rfl,.inr (SqT.of hav2),rfl,_,rfl,?_⟩
  refine aM ⟨_,rfl,av,_,1,_,rfl,rfl,SqT.of hav2,rfl,p,1,rfl,_,rfl,?_⟩
  rw [decide_eq_true p1]
  exact aM (hR _ _ ⟨rfl,s1.trans s2⟩)
 clear s1
 clear H1
 rintro _ H1 ⟨rfl,s1⟩
 refine ah (fun σ' H'=>σ'=[some (.ref t),some (.ref pa),some (.ref av),some (.int x),some (.int y),some (.int W),some (.int h1),some (.str (wyS dn)),some (.int p),some fv,some sv,none,none,none,none,none,none]∧H1=H') (fun R hR=>?_) ?_
 ·exact ⟨_,rfl,av,_,rfl,SqT.of (s1 _ _ hav),rfl,_,_,rfl,_,_,rfl,_,_,rfl,_,_,rfl,rfl,hR _ _ ⟨rfl,rfl⟩⟩
 rintro _ _ ⟨rfl,rfl⟩
 obtain ⟨kr,ht0,_⟩:=id sh
 have hix:∀ {Hx:Hp} {rl:Addr} {u1 u2:V},Hx rl=some (.lst [u1,u2])→atI [u1,u2] (if decide (V.str (wyS dn)=V.str "across")=true then 1 else 0)=some (if dn=true then u1 else u2):=fun _=>by
  cases dn with
  | true =>
   rw [show decide (V.str (wyS true)=V.str "across")=false by decide +kernel]
   rfl
  | false =>
   rw [show decide (V.str (wyS false)=V.str "across")=true by decide +kernel]
   rfl
 refine ah (fun σ' H'=>σ'=[some (.ref t),some (.ref pa),some (.ref av),some (.int x),some (.int y),some (.int W),some (.int h1),some (.str (wyS dn)),some (.int p),some fv,some sv,none,none,none,none,none,none]∧Same H H') (fun R hR=>?_) ?_
 ·refine ⟨_,rfl,_,rfl,t,_,0,_,rfl,rfl,SqT.of (s1 _ _ ht0),rfl,_,_,rfl,rfl,_,rfl,_,rfl,(by show 2≤sizeLine; decide),fun rl hrl=>?_⟩
  obtain ⟨H2,e2,k2,s2⟩:∃H',upd H1 rl (.lst [.int W,.int h1])=H'∧H' rl=some (.lst [.int W,.int h1])∧Same H1 H':=⟨_,rfl,upd_same,Same.new hrl⟩
  rw [show upd H1 rl _=H2 from e2]
  refine ⟨_,rfl,rfl,.inr ⟨_,rfl,rl,_,_,.int (if dn=true then W else h1),rfl,rfl,SqL.of k2,?_,_,_,rfl,rfl,_,rfl,?_⟩⟩
  ·rw [hix k2]
   cases dn <;> rfl
  ·refine eU (decide_eq_false ?_) (hR _ _ ⟨rfl,s1.trans s2⟩)
   cases dn with
   | true =>
    have:p + b < W:=okc.1
    show ¬ W≤p + b
    omega
   | false =>
    have:p + b < h1:=okc.1
    show ¬ h1≤p + b
    omega
 clear s1
 clear H1
 rintro _ H1 ⟨rfl,s1⟩
 refine ah (fun σ' H'=>∃ (o1 o2:Addr),σ'=[some (.ref t),some (.ref pa),some (.ref av),some (.int x),some (.int y),some (.int W),some (.int h1),some (.str (wyS dn)),some (.int p),some fv,some sv,some (.ref o1),some (.ref o2),none,none,none,none]∧H' o1=some (.tup [.int (if dn=true then p else W),.int (if dn=true then h1 else p)])∧H' o2=some (.tup [.int (if dn=true then W - p - b else W),.int (if dn=true then h1 else h1 - p - b)])∧Same H H') (fun R hR=>?_) ?_
 ·exact ⟨_,rfl,_,rfl,_,rfl,_,rfl,_,rfl,t,kl,b,W,h1,p,ks,dn,rfl,sh.same s1,fun rr r1 r2 H6 e1 e2 e3 s6=>⟨rr,_,rfl,SqT.of e1,rfl,_,_,rfl,_,_,rfl,rfl,hR _ _ ⟨r1,r2,rfl,e2,e3,s1.trans s6⟩⟩⟩
 clear s1
 clear H1
 rintro _ H1 ⟨o1,o2,rfl,ho1,ho2,s1⟩
 refine ah (fun σ' H'=>σ'=[some (.ref t),some (.ref pa),some (.ref av),some (.int x),some (.int y),some (.int W),some (.int h1),some (.str (wyS dn)),some (.int p),some fv,some sv,some (.ref o1),some (.ref o2),some (.int (p + b)),none,none,none]∧H1=H') (fun R hR=>?_) ?_
 ·exact ⟨_,rfl,_,rfl,t,_,0,_,rfl,rfl,SqT.of (s1 _ _ ht0),rfl,_,_,rfl,rfl,hR _ _ ⟨rfl,rfl⟩⟩
 rintro _ _ ⟨rfl,rfl⟩
 refine ah (fun σ' H'=>∃st:Addr,σ'=[some (.ref t),some (.ref pa),some (.ref av),some (.int x),some (.int y),some (.int W),some (.int h1),some (.str (wyS dn)),some (.int p),some fv,some sv,some (.ref o1),some (.ref o2),some (.int (p + b)),some (.ref st),none,none]∧H' st=some (.tup [.int (if dn=true then x + (p + b) else x),.int (if dn=true then y else y + (p + b))])∧Same H1 H') (fun R hR=>?_) ?_
 ·refine ⟨_,rfl,_,rfl,_,_,rfl,rfl,_,rfl,(by show 2≤sizeLine; decide),fun a1 ha1=>?_⟩
  obtain ⟨H2,e2,k2,s2⟩:∃H',upd H1 a1 (.tup [.int (x + (p + b)),.int y])=H'∧H' a1=some (.tup [.int (x + (p + b)),.int y])∧Same H1 H':=⟨_,rfl,upd_same,Same.new ha1⟩
  rw [show upd H1 a1 _=H2 from e2]
  refine ⟨_,rfl,_,rfl,_,rfl,_,_,rfl,rfl,(by show 2≤sizeLine; decide),fun a2 ha2=>?_⟩
  obtain ⟨H3,e3,k3,s3⟩:∃H',upd H2 a2 (.tup [.int x,.int (y + (p + b))])=H'∧H' a2=some (.tup [.int x,.int (y + (p + b))])∧Same H2 H':=⟨_,rfl,upd_same,Same.new ha2⟩
  rw [show upd H2 a2 _=H3 from e3]
  refine ⟨(by show 2≤sizeLine; decide),fun l3 hl3=>?_⟩
  obtain ⟨H4,e4,k4,s4⟩:∃H',upd H3 l3 (.lst [.ref a1,.ref a2])=H'∧H' l3=some (.lst [.ref a1,.ref a2])∧Same H3 H':=⟨_,rfl,upd_same,Same.new hl3⟩
  rw [show upd H3 l3 _=H4 from e4]
  refine ⟨_,rfl,rfl,.inr ⟨_,rfl,l3,_,_,_,rfl,rfl,SqL.of k4,hix k4,?_⟩⟩
  cases dn with
  | true=>exact hR _ _ ⟨a1,rfl,s4 _ _ (s3 _ _ k2),s2.trans (s3.trans s4)⟩
  | false=>exact hR _ _ ⟨a2,rfl,s4 _ _ k3,s2.trans (s3.trans s4)⟩
 rintro _ H2 ⟨st,rfl,hst,s12⟩
 have s02:=s1.trans s12
 have ok1:okU b ks (if dn=true then p else W) (if dn=true then h1 else p) l:=by
  cases dn with
  | true=>exact okc.2.1
  | false=>exact okc.2.1
 have ok2:okU b ks (if dn=true then W - p - b else W) (if dn=true then h1 else h1 - p - b) r:=by
  cases dn with
  | true=>exact okc.2.2
  | false=>exact okc.2.2
 have dd:max (dT l) (dT r) + 1≤40:=d40
 have dn1:max (dT l) (dT r) + 1 < n + 1:=dn0
 have ll:lvN l + lvN r≤1000:=l1000
 refine ah (fun σ' H'=>∃ (ll:Addr) (lu:List V),σ'=[some (.ref t),some (.ref pa),some (.ref av),some (.int x),some (.int y),some (.int W),some (.int h1),some (.str (wyS dn)),some (.int p),some fv,some sv,some (.ref o1),some (.ref o2),some (.int (p + b)),some (.ref st),some (.ref ll),none]∧H' ll=some (.lst lu)∧Paired (LfV H') lu (lvT b l x y (if dn=true then p else W) (if dn=true then h1 else p))∧Same H2 H') (fun R hR=>?_) ?_
 ·refine ⟨_,rfl,_,rfl,_,rfl,(by show 2≤sizeLine; decide),fun a1 ha1=>?_⟩
  obtain ⟨H3,e3,k3,s3⟩:∃H',upd H2 a1 (.tup [.int x,.int y])=H'∧H' a1=some (.tup [.int x,.int y])∧Same H2 H':=⟨_,rfl,upd_same,Same.new ha1⟩
  rw [show upd H2 a1 _=H3 from e3]
  refine ⟨_,rfl,a1,o1,_,_,rfl,rfl,k3,s3 _ _ (s12 _ _ ho1),(by show 2 + 2≤sizeLine; decide),fun mm Hm hm hm'=>?_⟩
  have sm:Same H2 Hm:=s3.trans (vh hm)
  have s0m:=s02.trans sm
  exact ⟨_,rfl,t,kl,mm,b,x,y,_,_,ks,fv,l,rfl,sh.same s0m,k8,hm',TrV.keep (fun a xs e=>s0m _ _ e) l tl,ok1,by omega,by omega,by omega,fun la us H' hl pl s'=>hR _ _ ⟨la,us,rfl,hl,pl,sm.trans s'⟩⟩
 rintro _ H3 ⟨la,lu,rfl,hla,plu,s23⟩
 have s03:=s02.trans s23
 refine ah (fun σ' H'=>∃ (lb:Addr) (lw:List V),σ'=[some (.ref t),some (.ref pa),some (.ref av),some (.int x),some (.int y),some (.int W),some (.int h1),some (.str (wyS dn)),some (.int p),some fv,some sv,some (.ref o1),some (.ref o2),some (.int (p + b)),some (.ref st),some (.ref la),some (.ref lb)]∧H' lb=some (.lst lw)∧Paired (LfV H') lw (lvT b r (if dn=true then x + (p + b) else x) (if dn=true then y else y + (p + b)) (if dn=true then W - p - b else W) (if dn=true then h1 else h1 - p - b))∧Same H3 H') (fun R hR=>?_) ?_
 ·refine ⟨_,rfl,_,rfl,_,rfl,st,o2,_,_,rfl,rfl,s23 _ _ hst,s23 _ _ (s12 _ _ ho2),(by show 2 + 2≤sizeLine; decide),fun mm Hm hm hm'=>?_⟩
  have sm:Same H3 Hm:=vh hm
  have s0m:=s03.trans sm
  exact ⟨_,rfl,t,kl,mm,b,_,_,_,_,ks,sv,r,rfl,sh.same s0m,k8,hm',TrV.keep (fun a xs e=>s0m _ _ e) r tr,ok2,by omega,by omega,by omega,fun lb us H' hl pl s'=>hR _ _ ⟨lb,us,rfl,hl,pl,sm.trans s'⟩⟩
 rintro _ H4 ⟨lb,lw,rfl,hlb,plw,s34⟩
 refine ah (fun σ' H'=>σ'=[some (.ref t),some (.ref pa),some (.ref av),some (.int x),some (.int y),some (.int W),some (.int h1),some (.str (wyS dn)),some (.int p),some fv,some sv,some (.ref o1),some (.ref o2),some (.int (p + b)),some (.ref st),some (.ref la),some (.ref lb)]∧H4=H') (fun R hR=>?_) ?_
 ·exact ⟨_,rfl,rfl,_,rfl,eU rfl ⟨_,rfl,rfl,_,rfl,eU rfl (hR _ _ ⟨rfl,rfl⟩)⟩⟩
 rintro _ _ ⟨rfl,rfl⟩
 have le1:=Paired.length plu
 have le2:=Paired.length plw
 rw [cw] at le1 le2
 refine ⟨_,rfl,_,rfl,la,lb,lu,lw,rfl,rfl,s34 _ _ hla,hlb,by omega,fun lo hlo=>?_⟩
 obtain ⟨H5,e5,k5,s5⟩:∃H',upd H4 lo (.lst (lu ++ lw))=H'∧H' lo=some (.lst (lu ++ lw))∧Same H4 H':=⟨_,rfl,upd_same,Same.new hlo⟩
 rw [show upd H4 lo _=H5 from e5]
 refine q lo _ H5 k5 ?_ (s03.trans (s34.trans s5))
 have pa:=eO (Paired.mapP plu fun v f h=>h.same (s34.trans s5)) (Paired.mapP plw fun v f h=>h.same s5)
 cases dn with
 | true=>exact pa
 | false=>exact pa
theorem oz {f:Addr} {fd:FuncData} (F:Fun K "_law_walk" "_law_walk" fN f fd):FnOk P w K mg base CX0 3 f fd ["_law_shop_here","_law_part","_law_tree_here"] (cK 0):=by
 refine F.ok scwalk (fun vs H Q E h=>?_) (fun cdv A outer s H vs Q E hr h=>?_)
 ·obtain ⟨t,kl,pa,b,x,y,W,h1,ks,v,T,rfl,_⟩:=h
  rfl
 ·obtain ⟨t,kl,pa,b,x,y,W,h1,ks,v,T,_,_,_,_,_,_,_,_,z,_⟩:=h
  exact absurd z (Nat.not_lt_zero _)
theorem iX {f:Addr} {fd:FuncData} (F:Fun K "_law_walk" "_law_walk" fN f fd) (B:Blt mg) (hst:mg "str" = none) (DPl:Dn P w K mg base "_law_plain" ["_law_thing","_law_least"] 1 (ej)) (DIL:Dn P w K mg base "_law_is_leaf" ["_law_shop_here","_law_wide","_law_high","_law_tree_here"] 2 (hI)) (DBh:Dn P w K mg base "_law_behind" ["_law_shop_here","_law_wide","_law_high","_law_way","_law_p"] 1 (gt)) (mk:∀n,FnOk P w K mg base CX0 (3 + n) f fd ["_law_shop_here","_law_part","_law_tree_here"] (cK n)→Dn P w K mg base "_law_walk" ["_law_shop_here","_law_part","_law_tree_here"] (3 + n) (cK n)):∀n,FnOk P w K mg base CX0 (3 + n) f fd ["_law_shop_here","_law_part","_law_tree_here"] (cK n)
 | 0=>oz F
 | n + 1=>qh F n B hst DPl DIL DBh (mk n (iX F B hst DPl DIL DBh mk n))
end
section
variable {P:Program} {w:World} {K:PySem.W.Frag} {mg:Str→Option Value} {base:Heap}
theorem scpcs:FnScope ["_law_leaves","_law_found","_law_x","_law_y","_law_wide","_law_high","_law_leaf_here"] ["_law_leaves"] (defScope dW):=⟨rfl,rfl,rfl,by decide +kernel,rfl,by decide +kernel,by decide +kernel⟩
theorem rQ {f:Addr} {fd:FuncData} (F:Fun K "_law_pieces" "_law_pieces" dW f fd) (B:Blt mg):FnOk P w K mg base CX0 1 f fd ["_law_leaves"] (kN K):=by
 refine F.ok scpcs (fun vs H Q E h=>?_) (fun cdv A outer s H vs Q E hr h=>?_)
 ·obtain ⟨l,us,fs,rfl,_⟩:=h
  rfl
 obtain ⟨l,us,fs,rfl,hl,pf,f64,q⟩:=h
 have nd:=scpcs.nd
 refine ⟨_,(@ae _ _ _ _ _ (@aE _ _ 1 _ _ _ _ nd rfl (Or.inl rfl) (@aT _ _ _ _ ab) rfl (Or.inl rfl)) (@ae _ _ _ _ _ (@bO _ _ _ _ _ _ _ _ PassesOwn.never rfl (bR (pv 0)) (bd rfl (ai (aj (i:=2) nd rfl (Or.inl rfl)) (ai (aj (i:=3) nd rfl (Or.inl rfl)) (ai (aj (i:=4) nd rfl (Or.inl rfl)) (ai (aj (i:=5) nd rfl (Or.inl rfl)) (ai (aj (i:=6) nd rfl (Or.inl rfl)) aP)))))) (@af _ _ _ (@aI _ _ _ _ _ _ _ _ (@aB _ _ _ _ _ _ _ _ bK (@au _ _ _ _ _ _ _ ix_tup (pv 6) ad (fun _ _=>rfl)) br (az _)) (@af _ _ _ (@cn _ _ _ _ (@gg _ _ _ _ _ _ _ _ _ _ _ _ PySem.F.plainAttrs_list PySem.F.slot_list_append PySem.F.type_list_append cA (pv 1) (@aa _ _ _ _ _ (@aF _ _ _ _ _ (@aa _ _ _ _ _ (@au _ _ _ _ _ _ _ ix_tup (pv 6) ad (fun _ _=>rfl)) (@aa _ _ _ _ _ (@au _ _ _ _ _ _ _ ix_tup (pv 6) ad (fun _ _=>rfl)) (@aa _ _ _ _ _ (@aD _ _ _ _ _ _ _ _ aO (pv 2) (@au _ _ _ _ _ _ _ ix_tup (pv 6) ad (fun _ _=>rfl))) (@aa _ _ _ _ _ (@aD _ _ _ _ _ _ _ _ aO (pv 3) (@au _ _ _ _ _ _ _ ix_tup (pv 6) ad (fun _ _=>rfl))) ab rfl) rfl) rfl) rfl)) ab rfl) rfl rfl rfl rfl rfl) rfl)) aA)) (by intro _; rfl)) (@af _ _ _ (@ar _ _ _ _ (@ay _ _ _ _ _ _ _ _ _ cI rfl B.sorted PyProof.Rows.boot_sorted (@aa _ _ _ _ _ (pv 1) ab rfl) (by decide) (by decide) rfl rfl))))),?_⟩
 have sz:(2000:Nat) < sizeLine:=by decide
 have ul:=Paired.length pf
 refine ah (fun σ' H'=>∃fo:Addr,σ'=[some (.ref l),some (.ref fo),none,none,none,none,none]∧H fo=none∧H' fo=some (.lst [])∧Same H H') (fun R hR=>?_) ?_
 ·refine ⟨by decide,fun fo hfo=>?_⟩
  obtain ⟨H1,e1,k1,s1⟩:∃H',upd H fo (.lst [])=H'∧H' fo=some (.lst [])∧Same H H':=⟨_,rfl,upd_same,Same.new hfo⟩
  rw [show upd H fo _=H1 from e1]
  exact hR _ _ ⟨fo,rfl,hfo,k1,s1⟩
 rintro _ H1 ⟨fo,rfl,hfo0,hfo1,s1⟩
 have nlf:l≠fo:=ag hl hfo0
 have hl1:=s1 _ _ hl
 have pf1:Paired (LfV H1) us fs:=Paired.mapP pf fun v f h=>h.same s1
 have tk:∀ {Ha Hb:Hp} {xs:List V},Ha fo=some (.lst xs)→But fo Ha Hb→∀a zs,Ha a=some (.tup zs)→Hb a=some (.tup zs):=fun e bb a zs e'=>bb _ _ (fun z=>by rw [z,e] at e'; cases e') e'
 refine ah (fun σ' H'=>∃ (v2 v3 v4 v5 v6:Option V) (as:List Addr) (qs:List Pq),σ'=[some (.ref l),some (.ref fo),v2,v3,v4,v5,v6]∧H' fo=some (.lst (as.map V.ref))∧Paired (fun a q=>H' a=some (.tup (pqV q))) as qs∧qs=(fs.take fs.length).filterMap lfQ∧But fo H1 H') (fun R hR=>?_) ?_
 ·refine ⟨_,rfl,l,rfl,⟨_,SqL.of hl1⟩,bW (xs:=us) (fun i σ' H'=>∃ (v2 v3 v4 v5 v6:Option V) (as:List Addr) (qs:List Pq),σ'=[some (.ref l),some (.ref fo),v2,v3,v4,v5,v6]∧H' fo=some (.lst (as.map V.ref))∧Paired (fun a q=>H' a=some (.tup (pqV q))) as qs∧qs=(fs.take i).filterMap lfQ∧But fo H1 H') ⟨_,_,_,_,_,[],[],rfl,hfo1,.nil,rfl,But.refl'⟩ (fun i σ H' _ ⟨_,_,_,_,_,_,_,_,_,_,_,bx⟩=>SqL.of (bx _ _ nlf hl1)) ?_ (fun σ H' h=>hR _ _ (by rw [ul] at h; exact h))⟩
  rintro i x _ H2 hi ⟨v2,v3,v4,v5,v6,as,qs,rfl,hf2,pa2,eq2,b12⟩
  have hin:i < us.length:=(List.getElem?_eq_some_iff.mp hi).1
  obtain ⟨f,hf,a,lv,rfl,ha,tv,d0⟩:=Paired.getR pf1 hi
  have ha2:=tk hfo1 b12 _ _ ha
  have tv2:=TrV.keep (tk hfo1 b12) f.t tv
  have al:=Paired.length pa2
  have ql:qs.length≤fs.length:=by
   rw [eq2]
   refine Nat.le_trans (List.length_filterMap_le _ _) ?_
   rw [List.length_take]
   omega
  have etk:(fs.take (i + 1)).filterMap lfQ=qs ++ (lfQ f).toList:=by
   rw [List.take_add_one,hf,List.filterMap_append,← eq2]
   cases e:lfQ f <;> simp [e]
  refine ⟨a,_,rfl,SqT.of ha2,rfl,_,_,rfl,_,_,rfl,_,_,rfl,_,_,rfl,_,_,rfl,rfl,?_⟩
  cases et:f.t with
  | cut dn p l r=>rw [et] at d0; cases d0
  | rest =>
   rw [et] at tv2
   obtain ⟨la,rfl,hla⟩:=tv2
   refine ⟨_,rfl,la,_,0,_,rfl,rfl,SqT.of hla,rfl,rfl,_,rfl,eU (by decide +kernel) ?_⟩
   refine ⟨_,_,_,_,_,as,qs,rfl,hf2,pa2,?_,b12⟩
   rw [etk,show lfQ f=none by unfold lfQ; rw [et]]
   simp
  | piece k c px py =>
   rw [et] at tv2
   obtain ⟨la,rfl,hla⟩:=tv2
   refine ⟨_,rfl,la,_,0,_,rfl,rfl,SqT.of hla,rfl,rfl,_,rfl,kM (by decide +kernel) ?_⟩
   refine ⟨_,rfl,.inl ⟨rfl,_,SqL.of hf2⟩,_,rfl,la,_,1,_,rfl,rfl,SqT.of hla,rfl,_,rfl,la,_,2,_,rfl,rfl,SqT.of hla,rfl,_,rfl,_,rfl,la,_,3,_,rfl,rfl,SqT.of hla,rfl,_,_,rfl,rfl,_,rfl,_,rfl,la,_,4,_,rfl,rfl,SqT.of hla,rfl,_,_,rfl,rfl,(by show 4≤sizeLine; decide),fun tp htp=>?_⟩
   obtain ⟨H3,e3,k3,s3⟩:∃H',upd H2 tp (.tup [.int k,.bl c,.int (f.x + px),.int (f.y + py)])=H'∧H' tp=some (.tup [.int k,.bl c,.int (f.x + px),.int (f.y + py)])∧Same H2 H':=⟨_,rfl,upd_same,Same.new htp⟩
   rw [show upd H2 tp _=H3 from e3]
   have hf3:=s3 _ _ hf2
   have bu:But fo H3 (upd H3 fo (.lst (as.map V.ref ++ [.ref tp]))):=fun c o n e=>by rw [aw n]; exact e
   refine ⟨fo,_,_,rfl,rfl,hf3,by rw [List.length_map]; omega,_,_,_,_,_,as ++ [tp],qs ++ [⟨k,c,f.x + px,f.y + py⟩],rfl,by rw [List.map_append]; exact upd_same,?_,?_,fun c o n e=>bu _ _ n (s3 _ _ (b12 _ _ n e))⟩
   ·exact eO (Paired.mapP pa2 fun a q h=>tk hf3 bu _ _ (s3 _ _ h)) (.cons (tk hf3 bu _ _ k3) .nil)
   ·rw [etk,show lfQ f=some ⟨k,c,f.x + px,f.y + py⟩ by unfold lfQ; rw [et]]
    rfl
 rintro _ H2 ⟨v2,v3,v4,v5,v6,as,qs,rfl,hf2,pa2,eq2,b12⟩
 rw [List.take_length] at eq2
 have al:=Paired.length pa2
 have ql:qs.length≤fs.length:=by rw [eq2]; exact List.length_filterMap_le _ _
 refine ⟨_,rfl,fo,as,[false,true,false,false],nW H2,rfl,SqL.of hf2,by omega,rfl,fun a ha=>?_,fun r as' hr pm so=>?_⟩
 ·obtain ⟨i,hi⟩:=List.mem_iff_getElem?.mp ha
  obtain ⟨q0,hq0,h0⟩:=Paired.getR pa2 hi
  exact ⟨_,SqT.of h0,by rw [hG h0]; rfl⟩
 have qm:∀ {xs:List Addr} {zs:List Pq},Paired (fun a q=>H2 a=some (.tup (pqV q))) xs zs→zs=xs.map (qA H2):=fun {xs zs} h=>by
  induction h with
  | nil=>rfl
  | cons h r ih=>rw [List.map_cons,gr h,← ih]
 have hm:∀a∈as',H2 a=some (.tup (pqV (qA H2 a))):=fun a ha=>by
  obtain ⟨i,hi⟩:=List.mem_iff_getElem?.mp (pm.mem_iff.mp ha)
  obtain ⟨q0,hq0,h0⟩:=Paired.getR pa2 hi
  rw [gr h0]; exact h0
 have mkP:∀ {xs:List Addr},(∀a∈xs,H2 a=some (.tup (pqV (qA H2 a))))→Paired (PqU (upd H2 r (.lst (as'.map V.ref)))) (xs.map V.ref) (xs.map (qA H2)):=fun {xs} h=>by
  induction xs with
  | nil=>exact .nil
  | cons a xs ih=>exact .cons ⟨a,rfl,Same.new hr _ _ (h a List.mem_cons_self)⟩ (ih fun c hc=>h c (List.mem_cons_of_mem _ hc))
 have hr0:H r=none:=by
  cases e:H r with
  | none=>rfl
  | some o=>rw [b12 _ _ (ag e hfo0) (s1 _ _ e)] at hr; cases hr
 refine q r _ (as'.map (qA H2)) _ hr0 upd_same (mkP hm) ?_ ?_ (fun c o e=>Same.new hr _ _ (b12 _ _ (ag e hfo0) (s1 _ _ e)))
 ·rw [← eq2,qm pa2]
  exact pm.map _
 ·rw [List.map_map,List.map_congr_left (g:=nW H2) (fun a ha=>by rw [hG (hm a ha)]; rfl)]
  exact so
end
theorem qN {α β:Type} {R:α→β→Prop}:∀ (n:Nat) {xs:List α} {ys:List β},Paired R xs ys→Paired R (xs.take n) (ys.take n)
 | 0,_,_,_=>.nil
 | _ + 1,_,_,.nil=>.nil
 | n + 1,_,_,.cons a r=>.cons a (qN n r)
theorem qO {α β:Type} {R:α→β→Prop}:∀ (n:Nat) {xs:List α} {ys:List β},Paired R xs ys→Paired R (xs.drop n) (ys.drop n)
 | 0,_,_,h=>h
 | _ + 1,_,_,.nil=>.nil
 | n + 1,_,_,.cons _ r=>qO n r
def PqJ (p fo:Addr) (H:Hp) (v:V) (q:Pq):Prop:=∃a,v=.ref a∧a≠p∧a≠fo∧Sq H a (pqV q)
theorem PqJ.keep {p fo:Addr} {H H':Hp} (k:∀c o,c≠p→c≠fo→H c=some o→H' c=some o) {v:V} {q:Pq} (h:PqJ p fo H v q):PqJ p fo H' v q:=by
 obtain ⟨a,e,n1,n2,h⟩:=h
 exact ⟨a,e,n1,n2,h.imp (k _ _ n1 n2) (k _ _ n1 n2)⟩
section
variable {P:Program} {w:World} {K:PySem.W.Frag} {mg:Str→Option Value} {base:Heap}
def jM:Sp:=fun vs H Q _=>∃ (p pl:Addr) (ys:List V) (ps:List Pq),vs=[.ref p,.ref pl]∧PotC H p∧pl≠p∧H pl=some (.lst ys)∧Paired (PqU H) ys ps∧ys.length≤100∧∀ (l:Addr) (zs:List V) (qs:List Pq) (H':Hp),l≠p→Sq H' l zs→Paired (PqI p H') zs qs→qs.Perm ps→PotC H' p→But p H H'→Q (.ref l) H'
theorem schand:FnScope ["_law_pot_here","_law_pieces_here","_law_found","_law_piece"] ["_law_pot_here","_law_pieces_here"] (defScope dX):=⟨rfl,rfl,rfl,by decide +kernel,rfl,by decide +kernel,by decide +kernel⟩
theorem qi {f:Addr} {fd:FuncData} (F:Fun K "_law_handed" "_law_handed" dX f fd) (B:Blt mg) (DD:Dn P w K mg base "_law_take" ["_law_pot_here","_law_many"] 1 (ci)):FnOk P w K mg base CX0 2 f fd ["_law_pot_here","_law_pieces_here"] (jM):=by
 refine F.ok schand (fun vs H Q E h=>?_) (fun cdv A outer s H vs Q E hr h=>?_)
 ·obtain ⟨p,pl,ys,ps,rfl,_⟩:=h
  rfl
 obtain ⟨p,pl,ys,ps,rfl,pt,npl,hpl,pz,y100,q⟩:=h
 have nd:=schand.nd
 refine ⟨_,(@ae _ _ _ _ _ (@aE _ _ 2 _ _ _ _ nd rfl (Or.inl rfl) (@aT _ _ _ _ ab) rfl (Or.inl rfl)) (@ae _ _ _ _ _ (@bO _ _ _ _ _ _ _ _ PassesOwn.never rfl (bR (pv 1)) (aj (i:=3) nd rfl (Or.inl rfl)) (@af _ _ _ (@cn _ _ _ _ (@gg _ _ _ _ _ _ _ _ _ _ _ _ PySem.F.plainAttrs_list PySem.F.slot_list_insert PySem.F.type_list_insert lB (pv 2) (@aa _ _ _ _ _ (@ao _ _ _ _ _ _ _ _ _ _ DD (hr.mono (by decide)) rfl (@aa _ _ _ _ _ (pv 0) (@aa _ _ _ _ _ (@aD _ _ _ _ _ _ _ _ aO (@ay _ _ _ _ _ _ _ _ _ aK rfl B.len PySem.boot_len (@aa _ _ _ _ _ (pv 2) ab rfl) (by decide) (by decide) rfl rfl) ad) ab rfl) rfl) (by decide) rfl rfl) (@aa _ _ _ _ _ (@au _ _ _ _ _ _ _ ix_list (@aT _ _ _ _ (@aa _ _ _ _ _ (pv 3) (@aa _ _ _ _ _ (@aU _ _ _ _ _ _ _ _ _ dF rfl B.list PyProof.Rows.boot_list (@aa _ _ _ _ _ (pv 3) ab rfl) (by decide) (by decide) rfl rfl) ab rfl) rfl)) (@ao _ _ _ _ _ _ _ _ _ _ DD (hr.mono (by decide)) rfl (@aa _ _ _ _ _ (pv 0) (@aa _ _ _ _ _ ad ab rfl) rfl) (by decide) rfl rfl) (fun _ _=>rfl)) ab rfl) rfl) rfl rfl rfl rfl rfl) rfl)) (by intro _; rfl)) (@af _ _ _ (@ar _ _ _ _ (@au _ _ _ _ _ _ _ ix_list (@aT _ _ _ _ (@aa _ _ _ _ _ (pv 2) (@aa _ _ _ _ _ (@aU _ _ _ _ _ _ _ _ _ bJ rfl B.tuple PyProof.Rows.boot_tuple (@aa _ _ _ _ _ (pv 2) ab rfl) (by decide) (by decide) rfl rfl) ab rfl) rfl)) (@ao _ _ _ _ _ _ _ _ _ _ DD (hr.mono (by decide)) rfl (@aa _ _ _ _ _ (pv 0) (@aa _ _ _ _ _ ad ab rfl) rfl) (by decide) rfl rfl) (fun _ _=>rfl)))))),?_⟩
 have sz:(2000:Nat) < sizeLine:=by decide
 have e60:(1000:Int) < 10 ^ 60:=by decide
 have yl:=Paired.length pz
 refine ah (fun σ' H'=>∃fo:Addr,σ'=[some (.ref p),some (.ref pl),some (.ref fo),none]∧fo≠p∧H fo=none∧H' fo=some (.lst [])∧PotC H' p∧Same H H') (fun R hR=>?_) ?_
 ·refine ⟨by decide,fun fo hfo=>?_⟩
  obtain ⟨H2,e2,k2,n2,s2,b2,pt2⟩:=cJ (o:=.lst []) But.refl' pt hfo
  rw [show upd H fo _=H2 from e2]
  exact hR _ _ ⟨fo,rfl,n2,hfo,k2,pt2,s2⟩
 rintro _ H2 ⟨fo,rfl,nfp,hfo0,hfo2,pt2,s2⟩
 have npf:pl≠fo:=ag hpl hfo0
 refine ah (fun σ' H'=>(∃v3,σ'=[some (.ref p),some (.ref pl),some (.ref fo),v3])∧∃ (zs:List V) (qs:List Pq),H' fo=some (.lst zs)∧Paired (PqJ p fo H') zs qs∧qs.Perm (ps)∧PotC H' p∧∀c o,c≠p→c≠fo→H2 c=some o→H' c=some o) (fun R hR=>?_) ?_
 ·refine ⟨_,rfl,pl,rfl,⟨_,SqL.of (s2 _ _ hpl)⟩,bW (xs:=ys) (fun i σ' H'=>(∃v3,σ'=[some (.ref p),some (.ref pl),some (.ref fo),v3])∧∃ (zs:List V) (qs:List Pq),H' fo=some (.lst zs)∧Paired (PqJ p fo H') zs qs∧qs.Perm (ps.take i)∧PotC H' p∧∀c o,c≠p→c≠fo→H2 c=some o→H' c=some o) ⟨⟨_,rfl⟩,[],[],hfo2,.nil,List.Perm.refl _,pt2,fun _ _ _ _ e=>e⟩ (fun i σ H' _ ⟨_,_,_,_,_,_,_,bx⟩=>SqL.of (bx _ _ npl npf (s2 _ _ hpl))) ?_ (fun σ H' h=>hR _ _ (by rw [yl,List.take_length] at h; exact h))⟩
  rintro i x _ H4 hi ⟨⟨v3,rfl⟩,zs,qs,hz4,pz4,pm4,pt4,b24⟩
  have hin:i < ys.length:=(List.getElem?_eq_some_iff.mp hi).1
  obtain ⟨q0,hq0,aq,rfl,haq⟩:=Paired.getR pz hi
  have zl:=Paired.length pz4
  have ql:=pm4.length_eq
  rw [List.length_take] at ql
  obtain ⟨_,hp2⟩:=iP pt2
  have haq4:H4 aq=some (.tup (pqV q0)):=b24 _ _ (fun z=>by have:=s2 _ _ haq; rw [z,hp2] at this; cases this) (fun z=>by have:=s2 _ _ haq; rw [z,hfo2] at this; cases this) (s2 _ _ haq)
  refine ⟨_,rfl,.inl ⟨rfl,_,SqL.of hz4⟩,_,rfl,_,rfl,fo,_,rfl,.inl (SqL.of hz4),_,_,rfl,rfl,p,_,rfl,pt4,by omega,by omega,fun r H5 r0 r1 pt5 b5=>?_⟩
  have haq5:=gS b5 pt4 haq4
  have hz5:=b5 _ _ nfp hz4
  refine ⟨_,rfl,_,rfl,aq,_,rfl,.inr (SqT.of haq5),fun l2 hl2=>?_⟩
  obtain ⟨H6,e6,k6,n6,s6,b6,pt6⟩:=cJ (o:=.lst (pqV q0)) But.refl' pt5 hl2
  rw [show upd H5 l2 _=H6 from e6]
  refine ⟨(by show 2≤sizeLine; decide),fun l3 hl3=>?_⟩
  obtain ⟨H7,e7,k7,n7,s7,b7,pt7⟩:=cJ (o:=.lst [.ref aq,.ref l2]) But.refl' pt6 hl3
  rw [show upd H6 l3 _=H7 from e7]
  have s57:=s6.trans s7
  refine ⟨_,rfl,p,2,rfl,pt7,by decide,by decide,fun r2 H8 r20 r21 pt8 b8=>?_⟩
  have nl2f:l2≠fo:=fun z=>by rw [z,hz5] at hl2; cases hl2
  have k48:∀c o,c≠p→H4 c=some o→H8 c=some o:=fun c o n e=>b8 _ _ n (s57 _ _ (b5 _ _ n e))
  have hz8:=k48 _ _ nfp hz4
  obtain ⟨y,hy,hyJ⟩:∃y,atI [V.ref aq,V.ref l2] r2=some y∧PqJ p fo H8 y q0:=by
   have:r2=0∨r2=1:=by omega
   rcases this with rfl | rfl
   ·refine ⟨_,rfl,aq,rfl,fun z=>?_,fun z=>?_,.inr (gS b8 pt7 (s57 _ _ haq5))⟩
    ·obtain ⟨_,e⟩:=iP pt5
     rw [z,e] at haq5; cases haq5
    ·rw [z,hz5] at haq5; cases haq5
   ·exact ⟨_,rfl,l2,rfl,n6,nl2f,.inl (b8 _ _ n6 (s7 _ _ k6))⟩
  have keep:∀c o,c≠fo→H8 c=some o→(upd H8 fo (.lst (zs.take r.toNat ++ y :: zs.drop r.toNat))) c=some o:=fun c o n e=>by rw [aw n]; exact e
  refine ⟨l3,_,_,_,rfl,rfl,SqL.of (b8 _ _ n7 k7),hy,fo,zs,r,y,rfl,rfl,hz8,r0,by omega,by omega,⟨_,rfl⟩,zs.take r.toNat ++ y :: zs.drop r.toNat,qs.take r.toNat ++ q0 :: qs.drop r.toNat,upd_same,?_,?_,pt8.put (Ne.symm nfp),fun c o n1 n2 e=>keep _ _ n2 (k48 _ _ n1 (b24 _ _ n1 n2 e))⟩
  ·have kz:Paired (PqJ p fo (upd H8 fo (.lst (zs.take r.toNat ++ y :: zs.drop r.toNat)))) zs qs:=Paired.mapP pz4 fun v q h=>h.keep fun c o n1 n2 e=>keep _ _ n2 (k48 _ _ n1 e)
   exact eO (qN _ kz) (.cons (hyJ.keep fun c o n1 n2 e=>keep _ _ n2 e) (qO _ kz))
  ·rw [List.take_add_one,hq0]
   refine List.perm_middle.trans ?_
   rw [List.take_append_drop]
   exact (List.Perm.cons q0 pm4).trans (List.perm_append_singleton q0 _).symm
 rintro _ H3 ⟨⟨v3,rfl⟩,zs,qs,hz3,pz3,pm,pt3,b23⟩
 have b03:But p H H3:=fun c o n e=>b23 _ _ n (ag e hfo0) (s2 _ _ e)
 have zl:=Paired.length pz3
 have ql:=pm.length_eq
 refine ⟨_,rfl,_,rfl,fo,_,rfl,.inl ⟨SqL.of hz3,fun tt htt=>?_⟩⟩
 obtain ⟨H4,e4,k4,n4,s4,b4,pt4⟩:=cJ (o:=.tup zs) b03 pt3 htt
 rw [show upd H3 tt _=H4 from e4]
 refine ⟨(by show 2≤sizeLine; decide),fun l3 hl3=>?_⟩
 obtain ⟨H5,e5,k5,n5,s5,b5,pt5⟩:=cJ (o:=.lst [.ref fo,.ref tt]) b4 pt4 hl3
 rw [show upd H4 l3 _=H5 from e5]
 refine ⟨_,rfl,p,2,rfl,pt5,by decide,by decide,fun r H6 r0 r1 pt6 b6=>?_⟩
 have s35:=s4.trans s5
 have pq:Paired (PqI p H6) zs qs:=Paired.impS (fun v q ⟨a,e,n1,_,h⟩=>⟨a,e,n1,h.imp (fun z=>b6 _ _ n1 (s35 _ _ z)) (fun z=>b6 _ _ n1 (s35 _ _ z))⟩) pz3
 have b06:=b5.trans b6
 have:r=0∨r=1:=by omega
 rcases this with rfl | rfl
 ·exact ⟨l3,_,_,_,rfl,rfl,SqL.of (b6 _ _ n5 k5),rfl,q fo zs qs H6 nfp (.inl (b6 _ _ nfp (s35 _ _ hz3))) pq pm pt6 b06⟩
 ·exact ⟨l3,_,_,_,rfl,rfl,SqL.of (b6 _ _ n5 k5),rfl,q tt zs qs H6 n4 (.inr (gS b6 pt5 (s5 _ _ k4))) pq pm pt6 b06⟩
end
def ShD (k n:Nat) (d:PyData):Prop:=d.showable=true∧d.depth≤k∧d.shown.length≤n
theorem hJ {k n:Nat}:∀ {ds:List PyData},(∀d∈ds,ShD k n d)→PyData.showableAll ds=true∧PyData.depthAll ds≤k∧((PyData.shownAll ds).map (·.length)).sum≤n * ds.length∧(PyData.shownAll ds).length=ds.length
 | [],_=>⟨rfl,Nat.zero_le _,Nat.zero_le _,rfl⟩
 | d :: r,h=>by
  obtain ⟨d1,d2,d3⟩:=h d List.mem_cons_self
  obtain ⟨e1,e2,e3,e4⟩:=hJ (ds:=r) fun x hx=>h x (List.mem_cons_of_mem _ hx)
  refine ⟨by simp only [PyData.showableAll,d1,e1,Bool.and_self],by simp only [PyData.depthAll]; omega,?_,by simp only [PyData.shownAll,List.length_cons]; omega⟩
  simp only [PyData.shownAll,List.map_cons,List.sum_cons,List.length_cons,Nat.mul_succ]
  omega
def pqd (q:Pq):PyData:=.tuple [.int q.k,.bool q.c,.int q.x,.int q.y]
def Pin (q:Pq):Prop:=q.k < 100∧0≤q.x∧0≤q.y∧q.x < 10 ^ 61∧q.y < 10 ^ 61
def lqd (q:Pq):PyData:=.list [.int q.k,.bool q.c,.int q.x,.int q.y]
theorem hU {K:PySem.W.Frag} {H:Hp}:∀ {ys:List V} {ps:List Pq},Paired (PqU H) ys ps→DatVs K H ys (ps.map pqd)
 | _,_,.nil=>.nil
 | _,_,.cons ⟨a,e,h⟩ r=>by
  subst e
  exact .cons (.tup (SqT.of h) (.cons (.int _) (.cons (.bl _) (.cons (.int _) (.cons (.int _) .nil))))) (hU r)
theorem rR {i:Int} (h0:0≤i) (h1:i < 10 ^ 61):ShD 1 63 (.int i):=by
 have hs:Short i:=by
  have:(10:Int) ^ 61 < 10 ^ 62:=by decide
  have e:((10 ^ 62:Nat):Int)=10 ^ 62:=by decide
  unfold Short
  omega
 exact ⟨by simp [PyData.showable,hs.log],by simp [PyData.depth],hs.len⟩
theorem Bg (b:Bool):ShD 1 63 (.bool b):=by cases b <;> exact ⟨by decide +kernel,by decide +kernel,by decide +kernel⟩
theorem iY {q:Pq} (h:Pin q):∀e∈[PyData.int q.k,.bool q.c,.int q.x,.int q.y],ShD 1 63 e:=by
 obtain ⟨h1,h2,h3,h4,h5⟩:=h
 have:(100:Int) < 10 ^ 61:=by decide
 intro e he
 simp only [List.mem_cons,List.not_mem_nil,or_false] at he
 rcases he with rfl | rfl | rfl | rfl
 ·exact rR (by omega) (by omega)
 ·exact Bg _
 ·exact rR h2 h4
 ·exact rR h3 h5
theorem qj {q:Pq} (h:Pin q):ShD 2 400 (pqd q):=by
 obtain ⟨e1,e2,e3,e4⟩:=hJ (iY h)
 refine ⟨by simp only [pqd,PyData.showable,e1],by simp only [pqd,PyData.depth]; omega,?_⟩
 have:=tupleText_len_le (PyData.shownAll [PyData.int q.k,.bool q.c,.int q.x,.int q.y])
 have l4:[PyData.int q.k,.bool q.c,.int q.x,.int q.y].length=4:=rfl
 simp only [pqd,PyData.shown]
 omega
theorem qk {q:Pq} (h:Pin q):ShD 2 400 (lqd q):=by
 obtain ⟨e1,e2,e3,e4⟩:=hJ (iY h)
 refine ⟨by simp only [lqd,PyData.showable,e1],by simp only [lqd,PyData.depth]; omega,?_⟩
 have:=listText_len_le (PyData.shownAll [PyData.int q.k,.bool q.c,.int q.x,.int q.y])
 have l4:[PyData.int q.k,.bool q.c,.int q.x,.int q.y].length=4:=rfl
 simp only [lqd,PyData.shown]
 omega
theorem kO {ds:List PyData} (h:∀d∈ds,ShD 2 400 d) (l:ds.length≤64):(PyData.list ds).showable=true∧(PyData.list ds).depth≤64∧(PyData.list ds).shown.length≤sizeLine:=by
 obtain ⟨e1,e2,e3,e4⟩:=hJ h
 refine ⟨by simp only [PyData.showable,e1],by simp only [PyData.depth]; omega,?_⟩
 have:=listText_len_le (PyData.shownAll ds)
 have:(40000:Nat) < sizeLine:=by decide
 simp only [PyData.shown]
 omega
theorem kP (f:Pq→PyData) (hf:∀q,(f q).hasDict=false):∀qs:List Pq,(PyData.list (qs.map f)).hasDict=false:=fun qs=>by
 have:∀qs:List Pq,PyData.hasDictAll (qs.map f)=false:=fun qs=>by
  induction qs with
  | nil=>rfl
  | cons q r ih=>simp only [List.map_cons,PyData.hasDictAll,hf,ih,Bool.or_self]
 simp only [PyData.hasDict,this]
theorem rS {ks:List Kd} {W h:Int} {q:Pq} (k8:ks.length≤8) (gk:∀k∈ks,Good k) (hW:W < 10 ^ 58) (hh:h < 10 ^ 58) (o:OnP ks W h q):Pin q:=by
 obtain ⟨k,hk,_⟩:=o.kd
 obtain ⟨_,x0,y0,h1,h2⟩:=o
 rw [cu hk] at h1 h2
 have h1:q.x + sd1 k q.c≤W:=h1
 have h2:q.y + sd2 k q.c≤h:=h2
 have g:=gk k (List.mem_of_getElem? hk)
 have g1:=g.w
 have g2:=g.h
 have s1:1≤sd1 k q.c:=by unfold sd1; cases q.c <;> assumption
 have s2:1≤sd2 k q.c:=by unfold sd2; cases q.c <;> assumption
 have kl:=(List.getElem?_eq_some_iff.mp hk).1
 have e:(10:Int) ^ 58 < 10 ^ 61:=by decide
 exact ⟨by omega,x0,y0,by omega,by omega⟩
section
variable {P:Program} {w:World} {K:PySem.W.Frag} {mg:Str→Option Value} {base:Heap}
def hV:Sp:=fun vs H Q _=>∃ (t kl pl fo:Addr) (b W h:Int) (ks:List Kd) (ys:List V) (qs:List Pq) (u:V) (T:Tr), vs=[.ref t, .int W, .int h, .ref pl, .ref fo]∧LS H t b ks kl∧ks.length≤8∧H pl=some (.lst ys)∧Paired (PqU H) ys qs∧((qs.map iV).Pairwise fun x y=>bC y x=false)∧(∀q∈qs, Pin q)∧qs.length≤40∧H fo=some (.tup [.str "tree", u])∧TrV H T u∧okU b ks W h T∧dT T < 40∧lvN T < 64∧(pcT b T 0 0).Perm qs∧∀H', Same H H'→Q (.bl true) H'
theorem scright:FnScope ["_law_shop_here","_law_wide","_law_high","_law_pieces_here","_law_found","_law_leaves"] ["_law_shop_here","_law_wide","_law_high","_law_pieces_here","_law_found"] (defScope fO):=⟨rfl,rfl,rfl,by decide +kernel,rfl,by decide +kernel,by decide +kernel⟩
theorem oA {f:Addr} {fd:FuncData} (F:Fun K "_law_right" "_law_right" fO f fd) (B:Blt mg) (DWk:Dn P w K mg base "_law_walk" ["_law_shop_here","_law_part","_law_tree_here"] 43 (cK 40)) (DPc:Dn P w K mg base "_law_pieces" ["_law_leaves"] 1 (kN K)):FnOk P w K mg base CX0 44 f fd ["_law_shop_here","_law_wide","_law_high","_law_pieces_here","_law_found"] (hV):=by
 refine F.ok scright (fun vs H Q E h=>?_) (fun cdv A outer s H vs Q E hr h=>?_)
 ·obtain ⟨t,kl,pl,fo,b,W,h1,ks,ys,qs,u,T,rfl,_⟩:=h
  rfl
 obtain ⟨t,kl,pl,fo,b,W,h1,ks,ys,qs,u,T,rfl,sh,k8,hpl,pz,srt,pin,q40,hfo,tv,okT,d40,l64,perm,q⟩:=h
 have nd:=scright.nd
 have hg:=hr.gd
 have hu6:=hr.units66
 refine ⟨_,(@ae _ _ _ _ _ (@aI _ _ _ _ _ _ _ _ (PW.pt (be (@aL _ _ _ _ (@aH _ _ _ (@ay _ _ _ _ _ _ _ _ _ aW rfl B.isi PyProof.Rows.boot_isinstance (@aa _ _ _ _ _ (pv 4) (@aa _ _ _ _ _ (bv (v:=.ty "tuple") rfl B.tuple PyProof.Rows.boot_tuple rfl) ab rfl) rfl) (by decide) (by decide) rfl rfl) (by intro _; rfl))) (be (@aB _ _ _ _ _ _ _ _ dw (@ay _ _ _ _ _ _ _ _ _ aK rfl B.len PySem.boot_len (@aa _ _ _ _ _ (pv 4) ab rfl) (by decide) (by decide) rfl rfl) ad (az _)) (bg (@aB _ _ _ _ _ _ _ _ dw (@au _ _ _ _ _ _ _ ix_tup (pv 4) ad (fun _ _=>rfl)) br (az _)))))) (@af _ _ _ (@ar _ _ _ _ bD)) aA) (@ae _ _ _ _ _ (@aE _ _ 5 _ _ _ _ nd rfl (Or.inl rfl) (@ao _ _ _ _ _ _ _ _ _ _ DWk hr rfl (@aa _ _ _ _ _ (pv 0) (@aa _ _ _ _ _ (@aF _ _ _ _ _ (@aa _ _ _ _ _ ad (@aa _ _ _ _ _ ad (@aa _ _ _ _ _ (pv 1) (@aa _ _ _ _ _ (pv 2) ab rfl) rfl) rfl) rfl)) (@aa _ _ _ _ _ (@au _ _ _ _ _ _ _ ix_tup (pv 4) ad (fun _ _=>rfl)) ab rfl) rfl) rfl) (by decide) rfl rfl) rfl (Or.inl rfl)) (@af _ _ _ (@ar _ _ _ _ (bV (@aZ _ _ _ _ _ _ _ _ kg (pv 5) bF (az _)) (cF (@aZ _ _ _ _ _ _ _ _ bK (@ay _ _ _ _ _ _ _ _ _ (cW hg hu6) rfl B.repr PyProof.Rows.boot_repr (@aa _ _ _ _ _ (@ao _ _ _ _ _ _ _ _ _ _ DPc (hr.mono (by decide)) rfl (@aa _ _ _ _ _ (pv 5) ab rfl) (by decide) rfl rfl) ab rfl) (by decide) (by decide) rfl rfl) (@ay _ _ _ _ _ _ _ _ _ (cW hg hu6) rfl B.repr PyProof.Rows.boot_repr (@aa _ _ _ _ _ (pv 3) ab rfl) (by decide) (by decide) rfl rfl) (az _)))))))),?_⟩
 have yl:=Paired.length pz
 obtain ⟨sh1,sh2,sh3⟩:=kO (ds:=qs.map pqd) (fun d hd=>by obtain ⟨q',hq,rfl⟩:=List.mem_map.mp hd; exact qj (pin q' hq)) (by rw [List.length_map]; omega)
 have nd:=kP pqd (fun _=>rfl) qs
 refine ah (fun σ' H'=>σ'=[some (.ref t),some (.int W),some (.int h1),some (.ref pl),some (.ref fo),none]∧H=H') (fun R hR=>?_) ?_
 ·refine ⟨_,rfl,.ref fo,_,_,_,_,rfl,.tup hfo,rfl,eJ "tuple" (by decide),_,rfl,?_⟩
  refine aM ⟨_,rfl,fo,_,rfl,.inr (SqT.of hfo),rfl,_,rfl,?_⟩
  refine aM ⟨_,rfl,fo,_,0,_,rfl,rfl,SqT.of hfo,rfl,rfl,_,rfl,?_⟩
  exact eU (by decide +kernel) (hR _ _ ⟨rfl,rfl⟩)
 rintro _ _ ⟨rfl,rfl⟩
 refine ah (fun σ' H'=>∃ (l:Addr) (us:List V),σ'=[some (.ref t),some (.int W),some (.int h1),some (.ref pl),some (.ref fo),some (.ref l)]∧H' l=some (.lst us)∧Paired (LfV H') us (lvT b T 0 0 W h1)∧Same H H') (fun R hR=>?_) ?_
 ·refine ⟨_,rfl,_,rfl,_,rfl,(by show 4≤sizeLine; decide),fun a ha=>?_⟩
  obtain ⟨H1,e1,k1,s1⟩:∃H',upd H a (.tup [.int 0,.int 0,.int W,.int h1])=H'∧H' a=some (.tup [.int 0,.int 0,.int W,.int h1])∧Same H H':=⟨_,rfl,upd_same,Same.new ha⟩
  rw [show upd H a _=H1 from e1]
  exact ⟨_,rfl,fo,_,1,_,rfl,rfl,SqT.of (s1 _ _ hfo),rfl,t,kl,a,b,0,0,W,h1,ks,u,T,rfl,sh.same s1,k8,k1,TrV.keep (fun a xs e=>s1 _ _ e) T tv,okT,by omega,by omega,by omega,fun l us H' hl pl s'=>hR _ _ ⟨l,us,rfl,hl,pl,s1.trans s'⟩⟩
 rintro _ H1 ⟨l,us,rfl,hl1,pf1,s1⟩
 refine ⟨_,rfl,rfl,_,rfl,?_⟩
 refine kM rfl ⟨_,rfl,l,us,_,rfl,hl1,pf1,by rw [cw]; omega,fun r ys' qs' H2 hr0 hr2 pq2 pm so s2=>?_⟩
 rw [du] at pm
 have eq:qs'=qs:=vf (pm.trans perm) so srt
 subst eq
 have s02:=s1.trans s2
 refine ⟨r,.list (qs'.map pqd),rfl,.lst (SqL.of hr2) (hU pq2),sh1,nd,sh2,sh3,_,rfl,pl,.list (qs'.map pqd),rfl,.lst (SqL.of (s02 _ _ hpl)) (hU (Paired.mapP pz fun v q h=>h.keep fun a xs e=>s02 _ _ e)),sh1,nd,sh2,sh3,rfl,?_⟩
 have:=q H2 s02
 rw [show (V.bl true)=V.bl (decide (V.str (PyData.list (qs'.map pqd)).shown=V.str (PyData.list (qs'.map pqd)).shown)) by rw [decide_eq_true rfl]] at this
 exact this
end
structure LK (C p t kl x l:Addr) (b:Int) (ks:List Kd) (ys:List V) (qs:List Pq) (H:Hp):Prop where
 ls:LS H t b ks kl
 sh:ShopAt C H x b ks
 hl:H l=some (.lst ys)
 pz:Paired (PqU H) ys qs
 po:PotC H p
theorem LK.same {C p t kl x l:Addr} {b:Int} {ks:List Kd} {ys:List V} {qs:List Pq} {H H':Hp} (a:LK C p t kl x l b ks ys qs H) (s:Same H H'):LK C p t kl x l b ks ys qs H' :=
 ⟨a.ls.same s,cr s a.sh,s _ _ a.hl,Paired.mapP a.pz fun v q h=>h.keep fun c xs e=>s _ _ e,a.po.same s⟩
theorem LK.but {C p t kl x l:Addr} {b:Int} {ks:List Kd} {ys:List V} {qs:List Pq} {H H':Hp} (a:LK C p t kl x l b ks ys qs H) (nk:kl≠p) (nl:l≠p) (po:PotC H' p) (s:But p H H'):LK C p t kl x l b ks ys qs H' :=
 ⟨a.ls.but nk a.po s,nZ a.po s a.sh,s _ _ nl a.hl,Paired.mapP a.pz fun v q h=>h.keep fun c xs e=>gS s a.po e,po⟩
def PqL (Hb H:Hp) (v:V) (q:Pq):Prop:=∃a,v=.ref a∧Hb a=none∧H a=some (.lst (pqV q))
theorem PqL.same {Hb H H':Hp} (s:Same H H') {v:V} {q:Pq} (h:PqL Hb H v q):PqL Hb H' v q:=by
 obtain ⟨a,e,n,h⟩:=h
 exact ⟨a,e,n,s _ _ h⟩
theorem hX {K:PySem.W.Frag} {Hb H:Hp}:∀ {ys:List V} {ps:List Pq},Paired (PqL Hb H) ys ps→DatVs K H ys (ps.map lqd)
 | _,_,.nil=>.nil
 | _,_,.cons ⟨a,e,_,h⟩ r=>by
  subst e
  exact .cons (.lst (SqL.of h) (.cons (.int _) (.cons (.bl _) (.cons (.int _) (.cons (.int _) .nil))))) (hX r)
theorem vi {Hb H:Hp} {p:Addr} (hp:Hb p≠none) {ys:List V} {ps:List Pq} (h:Paired (PqL Hb H) ys ps):Paired (PqI p H) ys ps :=
 Paired.mapP h fun v q ⟨a,e,n,h⟩=>⟨a,e,(fun z=>hp (z ▸ n)),.inl h⟩
theorem kQ {Hb H:Hp}:∀ {ys:List V} {ps:List Pq},Paired (PqL Hb H) ys ps→∀v∈ys,∃a x0 x1 x2 x3,v=.ref a∧Hb a=none∧H a=some (.lst [x0,x1,x2,x3])
 | _,_,.nil,v,hv=>by simp at hv
 | _,_,.cons ⟨a,e,n,h⟩ r,v,hv=>by
  rcases List.mem_cons.mp hv with rfl | hv
  ·exact ⟨a,_,_,_,_,e,n,h⟩
  ·exact kQ r v hv
section
variable {P:Program} {w:World} {K:PySem.W.Frag} {mg:Str→Option Value} {base:Heap}
def kR (K:PySem.W.Frag):Sp:=fun vs H Q _=>∃ (a:Addr) (ns:List Int),vs=[.ref a]∧SqL K H a (ns.map V.int)∧ns.length≤63∧∀H',Q (.bl true) H'
theorem sclaw:FnScope ["_law_script","_law_k","_law_pot_here","_law_unit_here","_law_shop_here","_law_made","_law_wide","_law_high","_law_leaves","_law_pieces_here","_law_handed_here","_law_kept","_law_found","_law_piece"] ["_law_script"] (defScope gP):=⟨rfl,rfl,rfl,by decide +kernel,rfl,by decide +kernel,by decide +kernel⟩
set_option maxHeartbeats 1000000 in
theorem rT {f C:Addr} {fd:FuncData} (F:Fun K "law" "law" gP f fd) (B:Blt mg) (DC:Dn P w K mg base "_law_cell" ["_law_script","_law_k"] 1 (jw K)) (DP:Dn P w K mg base "_law_pot" ["_law_cell_here","_law_k"] 1 (jD)) (DD:Dn P w K mg base "_law_take" ["_law_pot_here","_law_many"] 1 (ci)) (DU:Dn P w K mg base "_law_unit" ["_law_pot_here"] 2 (jE)) (DSp:Dn P w K mg base "_law_shop" ["_law_pot_here","_law_unit_here"] 3 (gT)) (DSi:Dn P w K mg base "_law_side" ["_law_pot_here","_law_unit_here","_law_most"] 2 (fc)) (DT:Dn P w K mg base "_law_tree" ["_law_pot_here","_law_shop_here","_law_wide","_law_high","_law_deep","_law_room"] 14 (cx 11)) (DWk:Dn P w K mg base "_law_walk" ["_law_shop_here","_law_part","_law_tree_here"] 43 (cK 40)) (DPc:Dn P w K mg base "_law_pieces" ["_law_leaves"] 1 (kN K)) (DHa:Dn P w K mg base "_law_handed" ["_law_pot_here","_law_pieces_here"] 2 (jM)) (DR:Dn P w K mg base "_law_right" ["_law_shop_here","_law_wide","_law_high","_law_pieces_here","_law_found"] 44 (hV)) (DTK:Dn P w K mg base "tree_or_knot" ["shop","wide","high","laying"] 38 (oi C)) (DSh:Kn P w K mg base "Shop" C ["self","blade","kinds"] 3 (jt C)):FnOk P w K mg base CX0 45 f fd ["_law_script"] (kR K):=by
 refine F.ok sclaw (fun vs H Q E h=>?_) (fun cdv A outer s H vs Q E hr h=>?_)
 ·obtain ⟨a,ns,rfl,_⟩:=h
  rfl
 obtain ⟨a,ns,rfl,hS,n63,q⟩:=h
 have nd:=sclaw.nd
 have hg:=hr.gd
 have hu6:=hr.units66
 refine ⟨_,(@ae _ _ _ _ _ (@bO _ _ _ _ _ _ _ _ PassesOwn.never rfl (fZ rfl B.range (@aa _ _ _ _ _ (@ay _ _ _ _ _ _ _ _ _ (eD rfl) rfl B.max PyProof.Rows.boot_max (@aa _ _ _ _ _ ad (@aa _ _ _ _ _ (@ay _ _ _ _ _ _ _ _ _ (eE rfl) rfl B.min PyProof.Rows.boot_min (@aa _ _ _ _ _ ad (@aa _ _ _ _ _ (@ay _ _ _ _ _ _ _ _ _ aK rfl B.len PySem.boot_len (@aa _ _ _ _ _ (pv 0) ab rfl) (by decide) (by decide) rfl rfl) ab rfl) rfl) (by decide) (by decide) rfl rfl) ab rfl) rfl) (by decide) (by decide) rfl rfl) ab rfl)) (aj (i:=1) nd rfl (Or.inl rfl)) (@ae _ _ _ _ _ (@aE _ _ 2 _ _ _ _ nd rfl (Or.inl rfl) (@ao _ _ _ _ _ _ _ _ _ _ DP (hr.mono (by decide)) rfl (@aa _ _ _ _ _ (@ao _ _ _ _ _ _ _ _ _ _ DC (hr.mono (by decide)) rfl (@aa _ _ _ _ _ (pv 0) (@aa _ _ _ _ _ (pv 1) ab rfl) rfl) (by decide) rfl rfl) (@aa _ _ _ _ _ (pv 1) ab rfl) rfl) (by decide) rfl rfl) rfl (Or.inl rfl)) (@ae _ _ _ _ _ (@aE _ _ 3 _ _ _ _ nd rfl (Or.inl rfl) (@ao _ _ _ _ _ _ _ _ _ _ DU (hr.mono (by decide)) rfl (@aa _ _ _ _ _ (pv 2) ab rfl) (by decide) rfl rfl) rfl (Or.inl rfl)) (@ae _ _ _ _ _ (@aE _ _ 4 _ _ _ _ nd rfl (Or.inl rfl) (@ao _ _ _ _ _ _ _ _ _ _ DSp (hr.mono (by decide)) rfl (@aa _ _ _ _ _ (pv 2) (@aa _ _ _ _ _ (pv 3) ab rfl) rfl) (by decide) rfl rfl) rfl (Or.inl rfl)) (@ae _ _ _ _ _ (@aE _ _ 5 _ _ _ _ nd rfl (Or.inl rfl) (uU DSh (hr.mono (by decide)) rfl (@aa _ _ _ _ _ (@au _ _ _ _ _ _ _ ix_tup (pv 4) ad (fun _ _=>rfl)) (@aa _ _ _ _ _ (@au _ _ _ _ _ _ _ ix_tup (pv 4) ad (fun _ _=>rfl)) ab rfl) rfl)) rfl (Or.inl rfl)) (@ae _ _ _ _ _ (qY rfl nd rfl rfl (i:=6) (j:=7) (by decide) rfl rfl (@aa _ _ _ _ _ (@ao _ _ _ _ _ _ _ _ _ _ DSi (hr.mono (by decide)) rfl (@aa _ _ _ _ _ (pv 2) (@aa _ _ _ _ _ (pv 3) (@aa _ _ _ _ _ ad ab rfl) rfl) rfl) (by decide) rfl rfl) (@aa _ _ _ _ _ (@ao _ _ _ _ _ _ _ _ _ _ DSi (hr.mono (by decide)) rfl (@aa _ _ _ _ _ (pv 2) (@aa _ _ _ _ _ (pv 3) (@aa _ _ _ _ _ ad ab rfl) rfl) rfl) (by decide) rfl rfl) ab rfl) rfl) rfl) (@ae _ _ _ _ _ (@aE _ _ 8 _ _ _ _ nd rfl (Or.inl rfl) (@ao _ _ _ _ _ _ _ _ _ _ DWk (hr.mono (by decide)) rfl (@aa _ _ _ _ _ (pv 4) (@aa _ _ _ _ _ (@aF _ _ _ _ _ (@aa _ _ _ _ _ ad (@aa _ _ _ _ _ ad (@aa _ _ _ _ _ (pv 6) (@aa _ _ _ _ _ (pv 7) ab rfl) rfl) rfl) rfl)) (@aa _ _ _ _ _ (@ao _ _ _ _ _ _ _ _ _ _ DT (hr.mono (by decide)) rfl (@aa _ _ _ _ _ (pv 2) (@aa _ _ _ _ _ (pv 4) (@aa _ _ _ _ _ (pv 6) (@aa _ _ _ _ _ (pv 7) (@aa _ _ _ _ _ ad (@aa _ _ _ _ _ (@aT _ _ _ _ (@aa _ _ _ _ _ ad ab rfl)) ab rfl) rfl) rfl) rfl) rfl) rfl) (by decide) rfl rfl) ab rfl) rfl) rfl) (by decide) rfl rfl) rfl (Or.inl rfl)) (@ae _ _ _ _ _ (@aI _ _ _ _ _ _ _ _ (@aB _ _ _ _ _ _ _ _ gD (pv 8) bF (az _)) (@af _ _ _ (@ar _ _ _ _ bD)) aA) (@ae _ _ _ _ _ (@aE _ _ 9 _ _ _ _ nd rfl (Or.inl rfl) (@ao _ _ _ _ _ _ _ _ _ _ DPc (hr.mono (by decide)) rfl (@aa _ _ _ _ _ (pv 8) ab rfl) (by decide) rfl rfl) rfl (Or.inl rfl)) (@ae _ _ _ _ _ (dG (i:=10) (own:=["_law_piece"]) (cs:=[]) (cap:=[]) rfl nd rfl rfl rfl (pJ (@ao _ _ _ _ _ _ _ _ _ _ DHa (hr.mono (by decide)) rfl (@aa _ _ _ _ _ (pv 2) (@aa _ _ _ _ _ (pv 9) ab rfl) rfl) (by decide) rfl rfl)) (bm (sc:=defScope gP) (N:=["_law_script","_law_k","_law_pot_here","_law_unit_here","_law_shop_here","_law_made","_law_wide","_law_high","_law_leaves","_law_pieces_here","_law_handed_here","_law_kept","_law_found","_law_piece"]) rfl rfl (by decide +kernel)) (fun _ _ _ _ _=>aj (i:=0) (by show List.Nodup (["_law_piece"]:List Str) ; decide +kernel) rfl (Or.inl rfl) (Or.inr rfl)) (fun _ _ _ _ _=>bX) (fun _ _ _ _ _=>(aU (r:=pF K) dF rfl B.list PyProof.Rows.boot_list (@aa _ _ _ _ _ (pv 0) ab rfl)))) (@ae _ _ _ _ _ (@aE _ _ 11 _ _ _ _ nd rfl (Or.inl rfl) (@ay _ _ _ _ _ _ _ _ _ (cW hg hu6) rfl B.repr PyProof.Rows.boot_repr (@aa _ _ _ _ _ (pv 10) ab rfl) (by decide) (by decide) rfl rfl) rfl (Or.inl rfl)) (@ae _ _ _ _ _ (@aE _ _ 12 _ _ _ _ nd rfl (Or.inl rfl) (@ao _ _ _ _ _ _ _ _ _ _ DTK (hr.mono (by decide)) rfl (@aa _ _ _ _ _ (pv 5) (@aa _ _ _ _ _ (pv 6) (@aa _ _ _ _ _ (pv 7) (@aa _ _ _ _ _ (pv 10) ab rfl) rfl) rfl) rfl) (by decide) rfl rfl) rfl (Or.inl rfl)) (@ae _ _ _ _ _ (@aI _ _ _ _ _ _ _ _ (PW.pt (be (@aB _ _ _ _ _ _ _ _ dw (@ay _ _ _ _ _ _ _ _ _ (cW hg hu6) rfl B.repr PyProof.Rows.boot_repr (@aa _ _ _ _ _ (pv 10) ab rfl) (by decide) (by decide) rfl rfl) (pv 11) (az _)) (bg (@aL _ _ _ _ (@aH _ _ _ (@ao _ _ _ _ _ _ _ _ _ _ DR hr rfl (@aa _ _ _ _ _ (pv 4) (@aa _ _ _ _ _ (pv 6) (@aa _ _ _ _ _ (pv 7) (@aa _ _ _ _ _ (pv 9) (@aa _ _ _ _ _ (pv 12) ab rfl) rfl) rfl) rfl) rfl) (by decide) rfl rfl) (by intro _; rfl)))))) (@af _ _ _ (@ar _ _ _ _ bD)) aA) (@ae _ _ _ _ _ (@bO _ _ _ _ _ _ _ _ PassesOwn.never rfl (bR (pv 10)) (aj (i:=13) nd rfl (Or.inl rfl)) (@af _ _ _ (@bn _ _ _ _ _ _ (@uH _ _ _ _ _ _ rd ad) (gz (pv 13) ad dE) rfl rfl rfl)) (by intro _; rfl)) (@ae _ _ _ _ _ (@cn _ _ _ _ (rn PySem.F.plainAttrs_list PySem.F.slot_list_clear PySem.F.type_list_clear mX (pv 10)) rfl) (@ae _ _ _ _ _ (@aI _ _ _ _ _ _ _ _ (@aL _ _ _ _ (@aH _ _ _ (@ao _ _ _ _ _ _ _ _ _ _ DR hr rfl (@aa _ _ _ _ _ (pv 4) (@aa _ _ _ _ _ (pv 6) (@aa _ _ _ _ _ (pv 7) (@aa _ _ _ _ _ (pv 9) (@aa _ _ _ _ _ (pv 12) ab rfl) rfl) rfl) rfl) rfl) (by decide) rfl rfl) (by intro _; rfl))) (@af _ _ _ (@ar _ _ _ _ bD)) aA) (@af _ _ _ (@aI _ _ _ _ _ _ _ _ (@aL _ _ _ _ (@aH _ _ _ (@ao _ _ _ _ _ _ _ _ _ _ DR hr rfl (@aa _ _ _ _ _ (pv 4) (@aa _ _ _ _ _ (pv 6) (@aa _ _ _ _ _ (pv 7) (@aa _ _ _ _ _ (pv 9) (@aa _ _ _ _ _ (@ao _ _ _ _ _ _ _ _ _ _ DTK (hr.mono (by decide)) rfl (@aa _ _ _ _ _ (pv 5) (@aa _ _ _ _ _ (pv 6) (@aa _ _ _ _ _ (pv 7) (@aa _ _ _ _ _ (@ao _ _ _ _ _ _ _ _ _ _ DHa (hr.mono (by decide)) rfl (@aa _ _ _ _ _ (pv 2) (@aa _ _ _ _ _ (pv 9) ab rfl) rfl) (by decide) rfl rfl) ab rfl) rfl) rfl) rfl) (by decide) rfl rfl) ab rfl) rfl) rfl) rfl) rfl) (by decide) rfl rfl) (by intro _; rfl))) (@af _ _ _ (@ar _ _ _ _ bD)) aA))))))))))))))))) (by intro _; rfl)) (@af _ _ _ (@ar _ _ _ _ bD))),?_⟩
 have sz:(10000:Nat) < sizeLine:=by decide
 have ln:(ns.map V.int).length=ns.length:=List.length_map _
 refine ah (fun σ' H'=>True) (fun R hR=>?_) ?_
 ·refine ⟨_,rfl,a,_,rfl,.inl hS,_,_,rfl,_,_,rfl,_,rfl,?_,?_,?_⟩
  ·rw [ln]; split <;> omega
  ·rw [ln]; split <;> omega
  generalize hn:(Int.toNat _)=n
  have n8:n≤8:=by
   rw [← hn]
   split <;> (try split) <;> omega
  refine ga (n:=n) (fun i σ H'=>∃v1 v2 v3 v4 v5 v6 v7 v8 v9 v10 v11 v12 v13:Option V,σ=[some (.ref a),v1,v2,v3,v4,v5,v6,v7,v8,v9,v10,v11,v12,v13]∧Same H H') ⟨_,_,_,_,_,_,_,_,_,_,_,_,_,rfl,Same.refl _⟩ ?_ (fun σ Hx _=>hR _ _ trivial)
  rintro i σ Hx hi ⟨v1,v2,v3,v4,v5,v6,v7,v8,v9,v10,v11,v12,v13,rfl,sx⟩
  refine ah (fun σ' H'=>∃p,σ'=[some (.ref a),some (.int (0 + (i:Int))),some (.ref p),v3,v4,v5,v6,v7,v8,v9,v10,v11,v12,v13]∧Hx p=none∧PotC H' p∧But p Hx H') (fun R hR=>?_) ?_
  ·exact ⟨_,rfl,_,rfl,a,ns,_,rfl,sx.seq hS,by omega,fun c=>⟨_,rfl,c,_,rfl,by omega,by omega,fun p Hb hp ptb sb=>hR _ _ ⟨p,rfl,hp,ptb,Pc.Same.but sb⟩⟩⟩
  rintro _ H1 ⟨p,rfl,hp,pt1,b1⟩
  refine ah (fun σ' H'=>∃u:Int,σ'=[some (.ref a),some (.int (0 + (i:Int))),some (.ref p),some (.int u),v4,v5,v6,v7,v8,v9,v10,v11,v12,v13]∧1≤u∧u < 2 * 10 ^ 56∧PotC H' p∧But p Hx H') (fun R hR=>?_) ?_
  ·exact ⟨_,rfl,p,rfl,pt1,fun u H2 u1 u2 pt2 b2=>hR _ _ ⟨u,rfl,u1,u2,pt2,b1.trans b2⟩⟩
  rintro _ H2 ⟨u,rfl,u1,u2,pt2,b2⟩
  refine ah (fun σ' H'=>∃ (t kl:Addr) (b:Int) (ks:List Kd),σ'=[some (.ref a),some (.int (0 + (i:Int))),some (.ref p),some (.int u),some (.ref t),v5,v6,v7,v8,v9,v10,v11,v12,v13]∧LS H' t b ks kl∧kl≠p∧(∀k∈ks,Good k)∧1≤ks.length∧ks.length≤8∧0≤b∧PotC H' p∧But p Hx H') (fun R hR=>?_) ?_
  ·exact ⟨_,rfl,_,rfl,p,u,rfl,pt2,u1,u2,fun t kl b ks H3 ls nk _ gk k1 k8 b0 b60 pt3 b3=>hR _ _ ⟨t,kl,b,ks,rfl,ls,nk,fun k hk=>(gk k hk).1,k1,k8,b0,pt3,b2.trans b3⟩⟩
  rintro _ H3 ⟨t,kl,b,ks,rfl,ls3,nk,gk,k1,kn8,b0,pt3,b3⟩
  refine ah (fun σ' H'=>∃x:Addr,σ'=[some (.ref a),some (.int (0 + (i:Int))),some (.ref p),some (.int u),some (.ref t),some (.ref x),v6,v7,v8,v9,v10,v11,v12,v13]∧LS H' t b ks kl∧ShopAt C H' x b ks∧PotC H' p∧But p Hx H') (fun R hR=>?_) ?_
  ·obtain ⟨rs,q1,q2,q3⟩:=id ls3
   have rl:=Paired.length q3
   refine ⟨_,rfl,t,_,0,_,rfl,rfl,SqT.of q1,rfl,_,rfl,t,_,1,_,rfl,rfl,SqT.of q1,rfl,fun x dx hx hdx ne0=>?_⟩
   have sm:Same H3 (upd (upd H3 dx (.own x)) x (.ins C dx [])):=lL hx hdx
   refine ⟨x,dx,kl,b,rs,ks,rfl,upd_same,b0,.inl (sm _ _ q2),Paired.mapP (Tups.keep (fun c xs e=>sm _ _ e) q3) (fun v k h=>.inl h),gk,by omega,by omega,fun Hb Sb kb=>⟨rfl,?_⟩⟩
   have sb:Same H3 Hb:=fun c o e=>kb c o (ag e hx) (sm _ _ e)
   exact hR _ _ ⟨x,rfl,ls3.same sb,Sb,pt3.same sb,fun c o n e=>sb _ _ (b3 _ _ n e)⟩
  rintro _ H4 ⟨x,rfl,ls4,sh4,pt4,b4⟩
  refine ah (fun σ' H'=>∃W h1:Int,σ'=[some (.ref a),some (.int (0 + (i:Int))),some (.ref p),some (.int u),some (.ref t),some (.ref x),some (.int W),some (.int h1),v8,v9,v10,v11,v12,v13]∧1≤W∧W < 10 ^ 58∧1≤h1∧h1 < 10 ^ 58∧LS H' t b ks kl∧ShopAt C H' x b ks∧PotC H' p∧But p Hx H') (fun R hR=>?_) ?_
  ·exact ⟨_,rfl,_,rfl,p,u,40,rfl,pt4,u1,u2,by decide,by decide,fun W H5 w0 w58 pt5 b5=>⟨_,rfl,_,rfl,p,u,40,rfl,pt5,u1,u2,by decide,by decide,fun h1 H6 h0 h58 pt6 b6=>⟨_,_,rfl,hR _ _ ⟨W,h1,rfl,w0,w58,h0,h58,(ls4.but nk pt4 b5).but nk pt5 b6,nZ pt5 b6 (nZ pt4 b5 sh4),pt6,b4.trans (b5.trans b6)⟩⟩⟩⟩
  clear b1 pt1 b2 pt2 b3 pt3 ls3 b4 pt4 ls4 sh4
  clear H1 H2 H3 H4
  rintro _ H5 ⟨W,h1,rfl,w0,w58,h0,h58,ls5,sh5,pt5,b5⟩
  refine ah (fun σ' H'=>∃ (lv:Addr) (us:List V) (T:Tr),σ'=[some (.ref a),some (.int (0 + (i:Int))),some (.ref p),some (.int u),some (.ref t),some (.ref x),some (.int W),some (.int h1),some (.ref lv),v9,v10,v11,v12,v13]∧H' lv=some (.lst us)∧Paired (LfV H') us (lvT b T 0 0 W h1)∧okU b ks W h1 T∧lvN T≤31∧LS H' t b ks kl∧ShopAt C H' x b ks∧PotC H' p∧But p Hx H') (fun R hR=>?_) ?_
  ·refine ⟨_,rfl,_,rfl,_,rfl,(by show 4≤sizeLine; decide),fun pa hpa=>?_⟩
   obtain ⟨H6,e6,k6,n6,s6,b6,pt6⟩:=cJ (o:=.tup [.int 0,.int 0,.int W,.int h1]) b5 pt5 hpa
   rw [show upd H5 pa _=H6 from e6]
   refine ⟨_,rfl,_,rfl,_,rfl,_,rfl,(by show 1≤sizeLine; decide),fun rm hrm=>?_⟩
   obtain ⟨H7,e7,k7,n7,s7,b7,pt7⟩:=cJ (o:=.lst [.int 30]) b6 pt6 hrm
   rw [show upd H6 rm _=H7 from e7]
   have s57:=s6.trans s7
   have ls7:=ls5.same s57
   obtain ⟨rs,q1,q2,q3⟩:=id (ls5.same s6)
   have nkr:kl≠rm:=ag q2 hrm
   refine ⟨p,t,kl,rm,b,W,h1,30,ks,10,rfl,pt7,ls7,nk,nkr,n7,kn8,gk,b0,w58,h58,k7,by decide,by decide,fun v T r' H8 tv ok r0 ln dp hrm8 pt8 b78=>?_⟩
   obtain ⟨_,hp7⟩:=iP pt7
   have tk:∀c xs,H7 c=some (.tup xs)→H8 c=some (.tup xs):=fun c xs e=>b78 _ _ (fun z=>by rw [z,hp7] at e; cases e) (fun z=>by rw [z,k7] at e; cases e) e
   have ls8:=ls7.keep2 hp7 k7 nk nkr b78
   have sh8:ShopAt C H8 x b ks:=(cr s57 sh5).keep (fun c xs e=>tk _ _ e) (fun c C' d fs e=>b78 _ _ (fun z=>by rw [z,hp7] at e; cases e) (fun z=>by rw [z,k7] at e; cases e) e)
   have b08:But p Hx H8:=fun c o n e=>b78 _ _ n (ag (b6 _ _ n e) hrm) (b7 _ _ n e)
   exact ⟨t,kl,pa,b,0,0,W,h1,ks,v,T,rfl,ls8,kn8,tk _ _ (s7 _ _ k6),tv,ok,by omega,by omega,by omega,fun lv us H9 hl9 pl9 s9=>hR _ _ ⟨lv,us,T,rfl,hl9,pl9,ok,by omega,ls8.same s9,cr s9 sh8,pt8.same s9,fun c o n e=>s9 _ _ (b08 _ _ n e)⟩⟩
  clear b5 pt5 ls5 sh5
  clear H5
  rintro _ H5 ⟨lv,us0,T,rfl,hlv,pf5,okT,l31,ls5,sh5,pt5,b5⟩
  have lay:=qe b0 okT
  have nok:=oj b0 okT
  have pcl:=rN b T 0 0
  refine ah (fun σ' H'=>σ'=[some (.ref a),some (.int (0 + (i:Int))),some (.ref p),some (.int u),some (.ref t),some (.ref x),some (.int W),some (.int h1),some (.ref lv),v9,v10,v11,v12,v13]∧H5=H') (fun R hR=>?_) ?_
  ·exact ⟨_,rfl,rfl,_,rfl,eU rfl (hR _ _ ⟨rfl,rfl⟩)⟩
  rintro _ _ ⟨rfl,rfl⟩
  refine ah (fun σ' H'=>∃ (l:Addr) (ys:List V) (qs:List Pq),σ'=[some (.ref a),some (.int (0 + (i:Int))),some (.ref p),some (.int u),some (.ref t),some (.ref x),some (.int W),some (.int h1),some (.ref lv),some (.ref l),v10,v11,v12,v13]∧l≠p∧((qs.map iV).Pairwise fun x y=>bC y x=false)∧qs.Perm (pcT b T 0 0)∧LK C p t kl x l b ks ys qs H'∧But p Hx H') (fun R hR=>?_) ?_
  ·refine ⟨_,rfl,lv,us0,_,rfl,hlv,pf5,by rw [cw]; omega,fun l ys qs H6 hl0 hl6 pz6 pm so s6=>hR _ _ ⟨l,ys,qs,rfl,(fun z=>pt5.some (z ▸ hl0)),so,?_,⟨ls5.same s6,cr s6 sh5,hl6,pz6,pt5.same s6⟩,fun c o n e=>s6 _ _ (b5 _ _ n e)⟩⟩
   rw [du] at pm
   exact pm
  clear b5 pt5 ls5 sh5 hlv pf5
  clear H5
  rintro _ H6 ⟨l,ys,qs,rfl,nl,srt,pmT,lk6,b6⟩
  have layq:Lay ks W h1 qs:=lay.perm pmT.symm
  have pin:∀q∈qs,Pin q:=fun q hq=>rS kn8 gk w58 h58 (layq.1 q hq)
  have ql:=pmT.length_eq
  have yl:=Paired.length lk6.pz
  have tell:∀ {ps:List Pq} {z:Str},ps.Perm qs→KTB b (ps.map (aS ks)) z→z = "tree" := fun {ps z} pp k=>by
   rcases k with ⟨_,h⟩ | ⟨h,_⟩
   ·exact absurd (h.perm ((pp.trans pmT).map _)) nok
   ·exact h
  refine ah (fun σ' H'=>∃ (hh:Addr) (us:List V) (ps:List Pq) (Hb:Hp),σ'=[some (.ref a),some (.int (0 + (i:Int))),some (.ref p),some (.int u),some (.ref t),some (.ref x),some (.int W),some (.int h1),some (.ref lv),some (.ref l),some (.ref hh),v11,v12,v13]∧Hb hh=none∧H' hh=some (.lst us)∧Paired (PqL Hb H') us ps∧(∀c,V.ref c∈us→c≠hh)∧ps.Perm qs∧LK C p t kl x l b ks ys qs Hb∧But p Hx Hb∧Same Hb H') (fun R hR=>?_) ?_
  ·refine ⟨_,rfl,_,rfl,p,l,ys,qs,rfl,lk6.po,nl,lk6.hl,lk6.pz,by omega,fun hd zs ps Hb nhd hsq pq pm ptb bb=>?_⟩
   have lkb:=lk6.but nk nl ptb bb
   have zl:=Paired.length pq
   have pl:=pm.length_eq
   rcases hsq with z | z
   ·refine ⟨hd,rfl,.inl ⟨⟨_,SqL.of z⟩,(cN (K:=K) (.inl z) (fun i us Hy=>Same Hb Hy∧Paired (PqL Hb Hy) us (ps.take i)) (fun i us Hy _ e o h=>e.1 _ _ h) ⟨Same.refl _,.nil⟩ ?_ ?_).1 z⟩⟩
    ·rintro j v us Hy hj ⟨sy,pu⟩
     have hin:j < zs.length:=(List.getElem?_eq_some_iff.mp hj).1
     obtain ⟨q0,hq0,aq,rfl,naq,haq⟩:=Paired.getR pq hj
     have ul:=Paired.length pu
     rw [List.length_take] at ul
     refine ⟨by omega,leS.set rfl,bM ?_⟩
     refine ⟨_,rfl,aq,pqV q0,rfl,(haq.same sy).imp (fun z=>SqL.of z) (fun z=>SqT.of z),fun l2 hl2=>Nx.of hin ⟨sy.trans (Same.new hl2),?_⟩⟩
     rw [List.take_add_one,hq0]
     exact eO (Paired.mapP pu fun v q h=>h.same (Same.new hl2)) (.cons ⟨l2,rfl,sy.free hl2,upd_same⟩ .nil)
    ·rintro us Hy ⟨sy,pu⟩
     rw [zl,List.take_length] at pu
     have ul:=Paired.length pu
     refine ⟨by omega,fun hh hhh=>?_⟩
     obtain ⟨H7,e7,k7,s7⟩:∃H',upd Hy hh (.lst us)=H'∧H' hh=some (.lst us)∧Same Hy H':=⟨_,rfl,upd_same,Same.new hhh⟩
     rw [show upd Hy hh _=H7 from e7]
     exact hR _ _ ⟨hh,us,ps,Hb,rfl,sy.free hhh,k7,Paired.mapP pu (fun v q h=>h.same s7),(fun c hc=>by obtain ⟨a',_,_,_,_,e,_,h⟩:=kQ pu _ hc; cases e; exact ag h hhh),pm,lkb,b6.trans bb,sy.trans s7⟩
   ·refine ⟨hd,rfl,.inr ⟨⟨_,SqT.of z⟩,(cN (K:=K) (.inr z) (fun i us Hy=>Same Hb Hy∧Paired (PqL Hb Hy) us (ps.take i)) (fun i us Hy _ e o h=>e.1 _ _ h) ⟨Same.refl _,.nil⟩ ?_ ?_).2 z⟩⟩
    ·rintro j v us Hy hj ⟨sy,pu⟩
     have hin:j < zs.length:=(List.getElem?_eq_some_iff.mp hj).1
     obtain ⟨q0,hq0,aq,rfl,naq,haq⟩:=Paired.getR pq hj
     have ul:=Paired.length pu
     rw [List.length_take] at ul
     refine ⟨by omega,leS.set rfl,bM ?_⟩
     refine ⟨_,rfl,aq,pqV q0,rfl,(haq.same sy).imp (fun z=>SqL.of z) (fun z=>SqT.of z),fun l2 hl2=>Nx.of hin ⟨sy.trans (Same.new hl2),?_⟩⟩
     rw [List.take_add_one,hq0]
     exact eO (Paired.mapP pu fun v q h=>h.same (Same.new hl2)) (.cons ⟨l2,rfl,sy.free hl2,upd_same⟩ .nil)
    ·rintro us Hy ⟨sy,pu⟩
     rw [zl,List.take_length] at pu
     have ul:=Paired.length pu
     refine ⟨by omega,fun hh hhh=>?_⟩
     obtain ⟨H7,e7,k7,s7⟩:∃H',upd Hy hh (.lst us)=H'∧H' hh=some (.lst us)∧Same Hy H':=⟨_,rfl,upd_same,Same.new hhh⟩
     rw [show upd Hy hh _=H7 from e7]
     exact hR _ _ ⟨hh,us,ps,Hb,rfl,sy.free hhh,k7,Paired.mapP pu (fun v q h=>h.same s7),(fun c hc=>by obtain ⟨a',_,_,_,_,e,_,h⟩:=kQ pu _ hc; cases e; exact ag h hhh),pm,lkb,b6.trans bb,sy.trans s7⟩
  rintro _ H7 ⟨hh,us,ps,Hb,rfl,hhb,hh7,pu7,nih,pmp,lkb,bb,sb7⟩
  have ul:=Paired.length pu7
  have pl:=pmp.length_eq
  have nhp:hh≠p:=fun z=>lkb.po.some (z ▸ hhb)
  obtain ⟨sh1,sh2,sh3⟩:=kO (ds:=ps.map lqd) (fun d hd=>by obtain ⟨q',hq,rfl⟩:=List.mem_map.mp hd; exact qk (pin q' (pmp.mem_iff.mp hq))) (by rw [List.length_map]; omega)
  have nd:=kP lqd (fun _=>rfl) ps
  refine ah (fun σ' H'=>σ'=[some (.ref a),some (.int (0 + (i:Int))),some (.ref p),some (.int u),some (.ref t),some (.ref x),some (.int W),some (.int h1),some (.ref lv),some (.ref l),some (.ref hh),some (.str (PyData.list (ps.map lqd)).shown),v12,v13]∧H7=H') (fun R hR=>?_) ?_
  ·exact ⟨_,rfl,hh,.list (ps.map lqd),rfl,.lst (SqL.of hh7) (hX pu7),sh1,nd,sh2,sh3,hR _ _ ⟨rfl,rfl⟩⟩
  rintro _ _ ⟨rfl,rfl⟩
  have lk7:=lkb.same sb7
  refine ah (fun σ' H'=>∃ (fo:Addr) (uu:V) (T2:Tr), σ'=[some (.ref a), some (.int (0 + (i:Int))), some (.ref p), some (.int u), some (.ref t), some (.ref x), some (.int W), some (.int h1), some (.ref lv), some (.ref l), some (.ref hh), some (.str (PyData.list (ps.map lqd)).shown), some (.ref fo), v13]∧H' fo=some (.tup [.str "tree", uu])∧TrV H' T2 uu∧okU b ks W h1 T2∧(pcT b T2 0 0).Perm qs∧dT T2 < 32∧lvN T2≤32∧Same H7 H') (fun R hR=>?_) ?_
  ·refine ⟨_,rfl,_,rfl,_,rfl,_,rfl,p,x,hh,b,W,h1,ks,us,ps,rfl,lk7.sh,b0,gk,w0,h0,nhp,.inl hh7,vi lkb.po.some pu7,by omega,layq.perm pmp.symm,fun fo z uu H8 hfo kt tr s8=>?_⟩
   have ez:=tell pmp kt
   subst ez
   obtain ⟨T2,tv,ok,pm2,d2,l2⟩:=tr rfl
   exact hR _ _ ⟨fo,uu,T2,rfl,hfo,tv,ok,pm2.trans pmp,d2,l2,s8⟩
  rintro _ H8 ⟨fo,uu,T2,rfl,hfo8,tv8,ok2,pm2,d2,l2,s78⟩
  have lk8:=lk7.same s78
  have sb8:=sb7.trans s78
  have hh8:=s78 _ _ hh7
  have pu8:Paired (PqL Hb H8) us ps:=Paired.mapP pu7 fun v q h=>h.same s78
  refine ah (fun σ' H'=>σ'=[some (.ref a),some (.int (0 + (i:Int))),some (.ref p),some (.int u),some (.ref t),some (.ref x),some (.int W),some (.int h1),some (.ref lv),some (.ref l),some (.ref hh),some (.str (PyData.list (ps.map lqd)).shown),some (.ref fo),v13]∧Same H8 H') (fun R hR=>?_) ?_
  ·refine ⟨_,rfl,hh,.list (ps.map lqd),rfl,.lst (SqL.of hh8) (hX pu8),sh1,nd,sh2,sh3,_,rfl,rfl,_,rfl,?_⟩
   rw [show (!decide (V.str (PyData.list (ps.map lqd)).shown=V.str (PyData.list (ps.map lqd)).shown))=false by rw [decide_eq_true rfl]; rfl]
   exact aM ⟨_,rfl,_,rfl,_,rfl,_,rfl,_,rfl,t,kl,l,fo,b,W,h1,ks,ys,qs,uu,T2,rfl,lk8.ls,kn8,lk8.hl,lk8.pz,srt,pin,by omega,hfo8,tv8,ok2,by omega,by omega,pm2,fun H9 s9=>⟨_,rfl,aM (hR _ _ ⟨rfl,s9⟩)⟩⟩
  rintro _ H9 ⟨rfl,s89⟩
  have sb9:=sb8.trans s89
  have hh9:=s89 _ _ hh8
  have hfo9:=s89 _ _ hfo8
  have tv9:=TrV.keep (fun a xs e=>s89 _ _ e) T2 tv8
  have it9:=kQ (Paired.mapP pu8 fun v q h=>h.same s89)
  refine ah (fun σ' H'=>(∃v13,σ'=[some (.ref a),some (.int (0 + (i:Int))),some (.ref p),some (.int u),some (.ref t),some (.ref x),some (.int W),some (.int h1),some (.ref lv),some (.ref l),some (.ref hh),some (.str (PyData.list (ps.map lqd)).shown),some (.ref fo),v13])∧Same Hb H'∧H' hh=some (.lst us)∧(∀c xs,H9 c=some (.tup xs)→H' c=some (.tup xs))) (fun R hR=>?_) ?_
  ·refine ⟨_,rfl,hh,rfl,⟨_,SqL.of hh9⟩,bW (xs:=us) (fun j σ' H'=>((∃v13,σ'=[some (.ref a),some (.int (0 + (i:Int))),some (.ref p),some (.int u),some (.ref t),some (.ref x),some (.int W),some (.int h1),some (.ref lv),some (.ref l),some (.ref hh),some (.str (PyData.list (ps.map lqd)).shown),some (.ref fo),v13])∧Same Hb H'∧H' hh=some (.lst us)∧(∀c xs,H9 c=some (.tup xs)→H' c=some (.tup xs)))∧∀v∈us,∃a x0 x1 x2 x3,v=.ref a∧Hb a=none∧a≠hh∧H' a=some (.lst [x0,x1,x2,x3])) ⟨⟨⟨_,rfl⟩,sb9,hh9,fun _ _ e=>e⟩,fun v hv=>?_⟩ (fun j σ H' _ h=>SqL.of h.1.2.2.1) ?_ (fun σ H' h=>hR _ _ h.1)⟩
   ·obtain ⟨c,x0,x1,x2,x3,rfl,hcb,hc⟩:=it9 v hv
    exact ⟨c,x0,x1,x2,x3,rfl,hcb,nih c hv,hc⟩
   rintro j v _ Ha hj ⟨⟨⟨v13,rfl⟩,sa,hha,tka⟩,ita⟩
   obtain ⟨c,x0,x1,x2,x3,rfl,hcb,nch,hca⟩:=ita v (List.mem_of_getElem? hj)
   have bu:But c Ha (upd Ha c (.lst [x0,x1,.int (-1),x3])):=fun d o n e=>by rw [aw n]; exact e
   refine ⟨_,rfl,_,rfl,c,_,2,2,rfl,rfl,hca,rfl,⟨⟨_,rfl⟩,fun d o e=>bu _ _ (ag e hcb) (sa _ _ e),bu _ _ (Ne.symm nch) hha,fun d xs e=>bu _ _ (fun z=>by have:=tka _ _ e; rw [z,hca] at this; cases this) (tka _ _ e)⟩,fun v' hv'=>?_⟩
   obtain ⟨c',y0,y1,y2,y3,rfl,hcb',nch',hca'⟩:=ita v' hv'
   by_cases e:c'=c
   ·subst e
    exact ⟨c',_,_,_,_,rfl,hcb,nch,upd_same⟩
   ·exact ⟨c',y0,y1,y2,y3,rfl,hcb',nch',bu _ _ e hca'⟩
  rintro _ Ha ⟨⟨v13,rfl⟩,sa,hha,tka⟩
  refine ah (fun σ' H'=>σ'=[some (.ref a),some (.int (0 + (i:Int))),some (.ref p),some (.int u),some (.ref t),some (.ref x),some (.int W),some (.int h1),some (.ref lv),some (.ref l),some (.ref hh),some (.str (PyData.list (ps.map lqd)).shown),some (.ref fo),v13]∧Same Hb H'∧(∀c xs,H9 c=some (.tup xs)→H' c=some (.tup xs))) (fun R hR=>?_) ?_
  ·have bu:But hh Ha (upd Ha hh (.lst [])):=fun d o n e=>by rw [aw n]; exact e
   exact ⟨_,rfl,.inl ⟨rfl,_,SqL.of hha⟩,hh,us,rfl,rfl,hha,hR _ _ ⟨rfl,fun d o e=>bu _ _ (ag e hhb) (sa _ _ e),fun d xs e=>bu _ _ (fun z=>by have:=tka _ _ e; rw [z,hha] at this; cases this) (tka _ _ e)⟩⟩
  clear sa hha tka
  clear Ha
  rintro _ Ha ⟨rfl,sa,tka⟩
  have lka:=lkb.same sa
  refine ah (fun σ' H'=>σ'=[some (.ref a),some (.int (0 + (i:Int))),some (.ref p),some (.int u),some (.ref t),some (.ref x),some (.int W),some (.int h1),some (.ref lv),some (.ref l),some (.ref hh),some (.str (PyData.list (ps.map lqd)).shown),some (.ref fo),v13]∧Same Hb H') (fun R hR=>?_) ?_
  ·exact ⟨_,rfl,_,rfl,_,rfl,_,rfl,_,rfl,t,kl,l,fo,b,W,h1,ks,ys,qs,uu,T2,rfl,lka.ls,kn8,lka.hl,lka.pz,srt,pin,by omega,tka _ _ hfo9,TrV.keep tka T2 tv9,ok2,by omega,by omega,pm2,fun Hc sc=>⟨_,rfl,aM (hR _ _ ⟨rfl,sa.trans sc⟩)⟩⟩
  clear lka sa tka
  clear Ha
  rintro _ Ha ⟨rfl,sa⟩
  have lka:=lkb.same sa
  refine ⟨_,rfl,_,rfl,_,rfl,_,rfl,_,rfl,_,rfl,_,rfl,_,rfl,_,rfl,p,l,ys,qs,rfl,lka.po,nl,lka.hl,lka.pz,by omega,fun hd zs qs' Hc nhd hsq pq pm ptc bc=>?_⟩
  have lkc:=lka.but nk nl ptc bc
  have zl:=Paired.length pq
  have pl':=pm.length_eq
  refine ⟨p,x,hd,b,W,h1,ks,zs,qs',rfl,lkc.sh,b0,gk,w0,h0,nhd,hsq,pq,by omega,layq.perm pm.symm,fun fo' z uu' Hd hfo' kt tr sd=>?_⟩
  have ez:=tell pm kt
  subst ez
  obtain ⟨T3,tv3,ok3,pm3,d3,l3⟩:=tr rfl
  have lkd:=lkc.same sd
  refine ⟨t,kl,l,fo',b,W,h1,ks,ys,qs,uu',T3,rfl,lkd.ls,kn8,lkd.hl,lkd.pz,srt,pin,by omega,hfo',tv3,ok3,by omega,by omega,pm3.trans pm,fun He se=>⟨_,rfl,aM ⟨_,_,_,_,_,_,_,_,_,_,_,_,_,rfl,fun c o e=>?_⟩⟩⟩
  have np:=ag (sx _ _ e) hp
  exact se _ _ (sd _ _ (bc _ _ np (sa _ _ (bb _ _ np (sx _ _ e)))))
 rintro _ H1 _
 exact q H1
end
theorem fV {α:Type} {us:List α} (h:us.length=1):∃a,us=[a]:=by
 match us,h with
 | [a],_=>exact ⟨a,rfl⟩
theorem ek {α:Type} {us:List α} (h:us.length=2):∃a b,us=[a,b]:=by
 match us,h with
 | [a,b],_=>exact ⟨a,b,rfl⟩
theorem hZ {α:Type} {us:List α} (h:us.length=3):∃a b c,us=[a,b,c]:=by
 match us,h with
 | [a,b,c],_=>exact ⟨a,b,c,rfl⟩
theorem lN {α:Type} {us:List α} (h:us.length=4):∃a b c d,us=[a,b,c,d]:=by
 match us,h with
 | [a,b,c,d],_=>exact ⟨a,b,c,d,rfl⟩
theorem vj {α:Type} {us:List α} (h:us.length=5):∃a b c d e,us=[a,b,c,d,e]:=by
 match us,h with
 | [a,b,c,d,e],_=>exact ⟨a,b,c,d,e,rfl⟩
abbrev DI (K:PySem.W.Frag) (n:Str) (st:Stmt) (f:Addr):Prop:=∃ (od an:Option Addr) (sl:Array (Option Value)) (oc kV dc pm cd ct:Value),PySem.W.nsIn K mainGlobals n=some (some (.ref f))∧K.lookup f=some ⟨oc,od,.func (PySem.W.fnOf n n (defArgs st) (defBody st) (defScope st) .none kV dc pm an cd ct),sl⟩∧PySem.W.codeIn K cd n=true∧PySem.W.keepIn K (.ref f)=true
abbrev MI (K:PySem.W.Frag) (C:Addr) (n q:Str) (st:Stmt) (f:Addr):Prop:=∃ (od an:Option Addr) (sl:Array (Option Value)) (oc kV dc pm cd ct:Value),PySem.W.findIn K (.ref C) n=some (some (.ref f))∧PySem.W.isFn K (.ref f)=true∧K.lookup f=some ⟨oc,od,.func (PySem.W.fnOf n q (defArgs st) (defBody st) (defScope st) .none kV dc pm an cd ct),sl⟩∧PySem.W.codeIn K cd q=true∧PySem.W.keepIn K (.ref f)=true
theorem diM {K:PySem.W.Frag} {n:Str} {st:Stmt} {f:Addr} {od an:Option Addr} {sl:Array (Option Value)} {oc kV dc pm cd ct:Value} (a:PySem.W.nsIn K mainGlobals n=some (some (.ref f))) (l:K.lookup f=some ⟨oc,od,.func (PySem.W.fnOf n n (defArgs st) (defBody st) (defScope st) .none kV dc pm an cd ct),sl⟩) (c:PySem.W.codeIn K cd n=true) (k:PySem.W.keepIn K (.ref f)=true):DI K n st f:=⟨_,_,_,_,_,_,_,_,_,a,l,c,k⟩
theorem miM {K:PySem.W.Frag} {C:Addr} {n q:Str} {st:Stmt} {f:Addr} {od an:Option Addr} {sl:Array (Option Value)} {oc kV dc pm cd ct:Value} (a:PySem.W.findIn K (.ref C) n=some (some (.ref f))) (i:PySem.W.isFn K (.ref f)=true) (l:K.lookup f=some ⟨oc,od,.func (PySem.W.fnOf n q (defArgs st) (defBody st) (defScope st) .none kV dc pm an cd ct),sl⟩) (c:PySem.W.codeIn K cd q=true) (k:PySem.W.keepIn K (.ref f)=true):MI K C n q st f:=⟨_,_,_,_,_,_,_,_,_,a,i,l,c,k⟩
theorem Bh {α:Type} {us:List α} (h:us.length=6):∃a b c d e f,us=[a,b,c,d,e,f]:=by
 match us,h with
 | [a,b,c,d,e,f],_=>exact ⟨a,b,c,d,e,f,rfl⟩
theorem Bi {α:Type} {us:List α} (h:us.length=7):∃a b c d e f g,us=[a,b,c,d,e,f,g]:=by
 match us,h with
 | [a,b,c,d,e,f,g],_=>exact ⟨a,b,c,d,e,f,g,rfl⟩
open PySem.W in
theorem all_mk {l:OpenLaw} {w:World} {K:Frag} {h:Heap} {mg:Str→Option Value} {fa f0 f1 f2 f3 f4 f5 f6 f7 f8 f9 f10 f11 f12 f13 f14 f15 f16 f17 f18 f19 f20 f21 f22 f23 f24 f25 f26 f27 f28 f29 f30 f31 f32 f33 f34 C fm0 fm1 fm2 fm3 xWAYS:Addr} (X:K.In h) (G:h.Ns mainGlobals mg) (hfa:mg "law" = some (.ref fa))
  {tc0:Tok} {tc1:Tok} {tc2:Tok} {tc3:Tok} {tc4:Tok} {tc5:Tok} {tc6:Tok} {tc7:Tok}
  (d0:DI K "is_whole" fH f0)
  (d1:DI K "is_truth" fI f1)
  (d2:DI K "is_row" nE f2)
  (d3:DI K "is_kind" dP f3)
  (d4:DI K "can_lie_turned" dQ f4)
  (d5:DI K "check_plate" bN f5)
  (d6:DI K "lies_in" dN f6)
  (d7:DI K "meet" iG f7)
  (d8:DI K "spans_of" cQ f8)
  (d9:DI K "is_placed" cC f9)
  (d10:DI K "is_laying" bH f10)
  (d11:DI K "parting_place" bo f11)
  (d12:DI K "leaf_of" dO f12)
  (d13:DI K "parting_cut" aX f13)
  (d14:DI K "part_pieces" bi f14)
  (d15:DI K "tree_or_knot" bq f15)
  (d16:DI K "_law_cell" iJ f16)
  (d17:DI K "_law_pot" nF f17)
  (d18:DI K "_law_take" iK f18)
  (d19:DI K "_law_unit" iL f19)
  (d20:DI K "_law_side" iM f20)
  (d21:DI K "_law_worth" fJ f21)
  (d22:DI K "_law_shop" iN f22)
  (d23:DI K "_law_sides" fK f23)
  (d24:DI K "_law_lyings" dR f24)
  (d25:DI K "_law_behind" dS f25)
  (d26:DI K "_law_leaf" iO f26)
  (d27:DI K "_law_tree" fL f27)
  (d28:DI K "_law_plain" fM f28)
  (d29:DI K "_law_is_leaf" dU f29)
  (d30:DI K "_law_walk" fN f30)
  (d31:DI K "_law_pieces" dW f31)
  (d32:DI K "_law_handed" dX f32)
  (d33:DI K "_law_right" fO f33)
  (d34:DI K "law" gP f34)
  (aC:nsIn K mainGlobals "Shop" = some (some (.ref C)))
  (dm0:MI K C "__init__" "Shop.__init__" bU fm0)
  (dm1:MI K C "blade" "Shop.blade" ce fm1)
  (dm2:MI K C "is_lying" "Shop.is_lying" bB fm2)
  (dm3:MI K C "sides" "Shop.sides" cf fm3)
  (pg:plainGet K C Str.empty=true)
  (hd:hasDictIn K C=true)
  (po:plainOver K C=true)
  (sa:findIn K (.ref C) "__setattr__" = some (some (.builtin "object.__setattr__")))
  (mk:makesIn K C=true)
  (kc:keepIn K (.ref C)=true)
  (n0:findIn K (.ref C) "blade_width" = some none)
  (n1:findIn K (.ref C) "kind_rows" = some none)
  (eWAYS:nsIn K mainGlobals "WAYS" = some (some (.ref xWAYS)))
  (lWAYS:∃ (o:Obj) (its:Array Value) (n:Nat),K.lookup xWAYS=some o∧o.cls=.type "tuple" ∧ o.data=.seq its n∧its.size≤sizeLine∧Vals [.str "down",.str "across"] its.toList)
  (z0:nsIn K mainGlobals "isinstance" = some none)
  (z1:nsIn K mainGlobals "int" = some none)
  (z2:nsIn K mainGlobals "bool" = some none)
  (z3:nsIn K mainGlobals "list" = some none)
  (z4:nsIn K mainGlobals "tuple" = some none)
  (z5:nsIn K mainGlobals "len" = some none)
  (z6:nsIn K mainGlobals "range" = some none)
  (z7:nsIn K mainGlobals "max" = some none)
  (z8:nsIn K mainGlobals "min" = some none)
  (z9:nsIn K mainGlobals "abs" = some none)
  (z10:nsIn K mainGlobals "divmod" = some none)
  (z11:nsIn K mainGlobals "sum" = some none)
  (z12:nsIn K mainGlobals "sorted" = some none)
  (z13:nsIn K mainGlobals "all" = some none)
  (z14:nsIn K mainGlobals "repr" = some none)
  (z15:nsIn K mainGlobals "zip" = some none)
  (z16:nsIn K mainGlobals "enumerate" = some none)
  (z17:nsIn K mainGlobals "str" = some none)
  (uc0:nsIn K mainGlobals "MOST_KINDS" = some (some (.int 8 tc0)))
  (uc1:nsIn K mainGlobals "THINGS_OF_A_KIND" = some (some (.int 5 tc1)))
  (uc2:nsIn K mainGlobals "DOWN" = some (some (.str "down" tc2)))
  (uc3:nsIn K mainGlobals "REST" = some (some (.str "rest" tc3)))
  (uc4:nsIn K mainGlobals "PIECE" = some (some (.str "piece" tc4)))
  (uc5:nsIn K mainGlobals "THINGS_OF_A_PIECE" = some (some (.int 4 tc5)))
  (uc6:nsIn K mainGlobals "TREE" = some (some (.str "tree" tc6)))
  (uc7:nsIn K mainGlobals "KNOT" = some (some (.str "knot" tc7))) :
  ∃fd:FuncData,(∀ (s:Shared) (v:Value),BindsTo s fd ⟨[v],[]⟩ [("_law_script",v)])∧∀base:Heap,K.In base→base.Ns mainGlobals mg→FnOk l.prog w K mg base CX0 45 fa fd ["_law_script"] (kR K):=by
 obtain ⟨_,_,_,_,_,_,_,_,_,a0,l0,c0,k0⟩:=d0
 obtain ⟨_,_,_,_,_,_,_,_,_,a1,l1,c1,k1⟩:=d1
 obtain ⟨_,_,_,_,_,_,_,_,_,a2,l2,c2,k2⟩:=d2
 obtain ⟨_,_,_,_,_,_,_,_,_,a3,l3,c3,k3⟩:=d3
 obtain ⟨_,_,_,_,_,_,_,_,_,a4,l4,c4,k4⟩:=d4
 obtain ⟨_,_,_,_,_,_,_,_,_,a5,l5,c5,k5⟩:=d5
 obtain ⟨_,_,_,_,_,_,_,_,_,a6,l6,c6,k6⟩:=d6
 obtain ⟨_,_,_,_,_,_,_,_,_,a7,l7,c7,k7⟩:=d7
 obtain ⟨_,_,_,_,_,_,_,_,_,a8,l8,c8,k8⟩:=d8
 obtain ⟨_,_,_,_,_,_,_,_,_,a9,l9,c9,k9⟩:=d9
 obtain ⟨_,_,_,_,_,_,_,_,_,a10,l10,c10,k10⟩:=d10
 obtain ⟨_,_,_,_,_,_,_,_,_,a11,l11,c11,k11⟩:=d11
 obtain ⟨_,_,_,_,_,_,_,_,_,a12,l12,c12,k12⟩:=d12
 obtain ⟨_,_,_,_,_,_,_,_,_,a13,l13,c13,k13⟩:=d13
 obtain ⟨_,_,_,_,_,_,_,_,_,a14,l14,c14,k14⟩:=d14
 obtain ⟨_,_,_,_,_,_,_,_,_,a15,l15,c15,k15⟩:=d15
 obtain ⟨_,_,_,_,_,_,_,_,_,a16,l16,c16,k16⟩:=d16
 obtain ⟨_,_,_,_,_,_,_,_,_,a17,l17,c17,k17⟩:=d17
 obtain ⟨_,_,_,_,_,_,_,_,_,a18,l18,c18,k18⟩:=d18
 obtain ⟨_,_,_,_,_,_,_,_,_,a19,l19,c19,k19⟩:=d19
 obtain ⟨_,_,_,_,_,_,_,_,_,a20,l20,c20,k20⟩:=d20
 obtain ⟨_,_,_,_,_,_,_,_,_,a21,l21,c21,k21⟩:=d21
 obtain ⟨_,_,_,_,_,_,_,_,_,a22,l22,c22,k22⟩:=d22
 obtain ⟨_,_,_,_,_,_,_,_,_,a23,l23,c23,k23⟩:=d23
 obtain ⟨_,_,_,_,_,_,_,_,_,a24,l24,c24,k24⟩:=d24
 obtain ⟨_,_,_,_,_,_,_,_,_,a25,l25,c25,k25⟩:=d25
 obtain ⟨_,_,_,_,_,_,_,_,_,a26,l26,c26,k26⟩:=d26
 obtain ⟨_,_,_,_,_,_,_,_,_,a27,l27,c27,k27⟩:=d27
 obtain ⟨_,_,_,_,_,_,_,_,_,a28,l28,c28,k28⟩:=d28
 obtain ⟨_,_,_,_,_,_,_,_,_,a29,l29,c29,k29⟩:=d29
 obtain ⟨_,_,_,_,_,_,_,_,_,a30,l30,c30,k30⟩:=d30
 obtain ⟨_,_,_,_,_,_,_,_,_,a31,l31,c31,k31⟩:=d31
 obtain ⟨_,_,_,_,_,_,_,_,_,a32,l32,c32,k32⟩:=d32
 obtain ⟨_,_,_,_,_,_,_,_,_,a33,l33,c33,k33⟩:=d33
 obtain ⟨_,an,_,_,kV,dc,pm,cd,ct,a34,l34,c34,k34⟩:=d34
 obtain ⟨_,_,_,_,_,_,_,_,_,am0,im0,lm0,cm0,km0⟩:=dm0
 obtain ⟨_,_,_,_,_,_,_,_,_,am1,im1,lm1,cm1,km1⟩:=dm1
 obtain ⟨_,_,_,_,_,_,_,_,_,am2,im2,lm2,cm2,km2⟩:=dm2
 obtain ⟨_,_,_,_,_,_,_,_,_,am3,im3,lm3,cm3,km3⟩:=dm3
 have e:=hfa.symm.trans (mg_of X G a34)
 cases e
 have F0:=aG (st:=fH) l0 c0 k0
 have b0:=F0.binds (ps:=["thing","least"]) fun _ _ _ _ _ _ us hl=>by obtain ⟨_,_,rfl⟩:=ek hl; rfl
 have F1:=aG (st:=fI) l1 c1 k1
 have b1:=F1.binds (ps:=["thing"]) fun _ _ _ _ _ _ us hl=>by obtain ⟨_,rfl⟩:=fV hl; rfl
 have F2:=aG (st:=nE) l2 c2 k2
 have b2:=F2.binds (ps:=["thing"]) fun _ _ _ _ _ _ us hl=>by obtain ⟨_,rfl⟩:=fV hl; rfl
 have F3:=aG (st:=dP) l3 c3 k3
 have b3:=F3.binds (ps:=["thing"]) fun _ _ _ _ _ _ us hl=>by obtain ⟨_,rfl⟩:=fV hl; rfl
 have F4:=aG (st:=dQ) l4 c4 k4
 have b4:=F4.binds (ps:=["kind"]) fun _ _ _ _ _ _ us hl=>by obtain ⟨_,rfl⟩:=fV hl; rfl
 have F5:=aG (st:=bN) l5 c5 k5
 have b5:=F5.binds (ps:=["wide","high"]) fun _ _ _ _ _ _ us hl=>by obtain ⟨_,_,rfl⟩:=ek hl; rfl
 have F6:=aG (st:=dN) l6 c6 k6
 have b6:=F6.binds (ps:=["shop","wide","high","kind","turned","x","y"]) fun _ _ _ _ _ _ us hl=>by obtain ⟨_,_,_,_,_,_,_,rfl⟩:=Bi hl; rfl
 have F7:=aG (st:=iG) l7 c7 k7
 have b7:=F7.binds (ps:=["one","other"]) fun _ _ _ _ _ _ us hl=>by obtain ⟨_,_,rfl⟩:=ek hl; rfl
 have F8:=aG (st:=cQ) l8 c8 k8
 have b8:=F8.binds (ps:=["shop","piece"]) fun _ _ _ _ _ _ us hl=>by obtain ⟨_,_,rfl⟩:=ek hl; rfl
 have F9:=aG (st:=cC) l9 c9 k9
 have b9:=F9.binds (ps:=["shop","wide","high","thing"]) fun _ _ _ _ _ _ us hl=>by obtain ⟨_,_,_,_,rfl⟩:=lN hl; rfl
 have F10:=aG (st:=bH) l10 c10 k10
 have b10:=F10.binds (ps:=["shop","wide","high","thing"]) fun _ _ _ _ _ _ us hl=>by obtain ⟨_,_,_,_,rfl⟩:=lN hl; rfl
 have F11:=aG (st:=bo) l11 c11 k11
 have b11:=F11.binds (ps:=["blade","spans"]) fun _ _ _ _ _ _ us hl=>by obtain ⟨_,_,rfl⟩:=ek hl; rfl
 have F12:=aG (st:=dO) l12 c12 k12
 have b12:=F12.binds (ps:=["x","y","pieces"]) fun _ _ _ _ _ _ us hl=>by obtain ⟨_,_,_,rfl⟩:=hZ hl; rfl
 have F13:=aG (st:=aX) l13 c13 k13
 have b13:=F13.binds (ps:=["shop","pieces"]) fun _ _ _ _ _ _ us hl=>by obtain ⟨_,_,rfl⟩:=ek hl; rfl
 have F14:=aG (st:=bi) l14 c14 k14
 have b14:=F14.binds (ps:=["shop","x","y","pieces"]) fun _ _ _ _ _ _ us hl=>by obtain ⟨_,_,_,_,rfl⟩:=lN hl; rfl
 have F15:=aG (st:=bq) l15 c15 k15
 have b15:=F15.binds (ps:=["shop","wide","high","laying"]) fun _ _ _ _ _ _ us hl=>by obtain ⟨_,_,_,_,rfl⟩:=lN hl; rfl
 have F16:=aG (st:=iJ) l16 c16 k16
 have b16:=F16.binds (ps:=["_law_script","_law_k"]) fun _ _ _ _ _ _ us hl=>by obtain ⟨_,_,rfl⟩:=ek hl; rfl
 have F17:=aG (st:=nF) l17 c17 k17
 have b17:=F17.binds (ps:=["_law_cell_here","_law_k"]) fun _ _ _ _ _ _ us hl=>by obtain ⟨_,_,rfl⟩:=ek hl; rfl
 have F18:=aG (st:=iK) l18 c18 k18
 have b18:=F18.binds (ps:=["_law_pot_here","_law_many"]) fun _ _ _ _ _ _ us hl=>by obtain ⟨_,_,rfl⟩:=ek hl; rfl
 have F19:=aG (st:=iL) l19 c19 k19
 have b19:=F19.binds (ps:=["_law_pot_here"]) fun _ _ _ _ _ _ us hl=>by obtain ⟨_,rfl⟩:=fV hl; rfl
 have F20:=aG (st:=iM) l20 c20 k20
 have b20:=F20.binds (ps:=["_law_pot_here","_law_unit_here","_law_most"]) fun _ _ _ _ _ _ us hl=>by obtain ⟨_,_,_,rfl⟩:=hZ hl; rfl
 have F21:=aG (st:=fJ) l21 c21 k21
 have b21:=F21.binds (ps:=["_law_pot_here"]) fun _ _ _ _ _ _ us hl=>by obtain ⟨_,rfl⟩:=fV hl; rfl
 have F22:=aG (st:=iN) l22 c22 k22
 have b22:=F22.binds (ps:=["_law_pot_here","_law_unit_here"]) fun _ _ _ _ _ _ us hl=>by obtain ⟨_,_,rfl⟩:=ek hl; rfl
 have F23:=aG (st:=fK) l23 c23 k23
 have b23:=F23.binds (ps:=["_law_shop_here","_law_kind","_law_turned"]) fun _ _ _ _ _ _ us hl=>by obtain ⟨_,_,_,rfl⟩:=hZ hl; rfl
 have F24:=aG (st:=dR) l24 c24 k24
 have b24:=F24.binds (ps:=["_law_shop_here"]) fun _ _ _ _ _ _ us hl=>by obtain ⟨_,rfl⟩:=fV hl; rfl
 have F25:=aG (st:=dS) l25 c25 k25
 have b25:=F25.binds (ps:=["_law_shop_here","_law_wide","_law_high","_law_way","_law_p"]) fun _ _ _ _ _ _ us hl=>by obtain ⟨_,_,_,_,_,rfl⟩:=vj hl; rfl
 have F26:=aG (st:=iO) l26 c26 k26
 have b26:=F26.binds (ps:=["_law_pot_here","_law_shop_here","_law_wide","_law_high"]) fun _ _ _ _ _ _ us hl=>by obtain ⟨_,_,_,_,rfl⟩:=lN hl; rfl
 have F27:=aG (st:=fL) l27 c27 k27
 have b27:=F27.binds (ps:=["_law_pot_here","_law_shop_here","_law_wide","_law_high","_law_deep","_law_room"]) fun _ _ _ _ _ _ us hl=>by obtain ⟨_,_,_,_,_,_,rfl⟩:=Bh hl; rfl
 have F28:=aG (st:=fM) l28 c28 k28
 have b28:=F28.binds (ps:=["_law_thing","_law_least"]) fun _ _ _ _ _ _ us hl=>by obtain ⟨_,_,rfl⟩:=ek hl; rfl
 have F29:=aG (st:=dU) l29 c29 k29
 have b29:=F29.binds (ps:=["_law_shop_here","_law_wide","_law_high","_law_tree_here"]) fun _ _ _ _ _ _ us hl=>by obtain ⟨_,_,_,_,rfl⟩:=lN hl; rfl
 have F30:=aG (st:=fN) l30 c30 k30
 have b30:=F30.binds (ps:=["_law_shop_here","_law_part","_law_tree_here"]) fun _ _ _ _ _ _ us hl=>by obtain ⟨_,_,_,rfl⟩:=hZ hl; rfl
 have F31:=aG (st:=dW) l31 c31 k31
 have b31:=F31.binds (ps:=["_law_leaves"]) fun _ _ _ _ _ _ us hl=>by obtain ⟨_,rfl⟩:=fV hl; rfl
 have F32:=aG (st:=dX) l32 c32 k32
 have b32:=F32.binds (ps:=["_law_pot_here","_law_pieces_here"]) fun _ _ _ _ _ _ us hl=>by obtain ⟨_,_,rfl⟩:=ek hl; rfl
 have F33:=aG (st:=fO) l33 c33 k33
 have b33:=F33.binds (ps:=["_law_shop_here","_law_wide","_law_high","_law_pieces_here","_law_found"]) fun _ _ _ _ _ _ us hl=>by obtain ⟨_,_,_,_,_,rfl⟩:=vj hl; rfl
 have F34:=aG (st:=gP) l34 c34 k34
 have b34:=F34.binds (ps:=["_law_script"]) fun _ _ _ _ _ _ us hl=>by obtain ⟨_,rfl⟩:=fV hl; rfl
 have Fm0:=aG (st:=bU) lm0 cm0 km0
 have bm0:=Fm0.binds (ps:=["self","blade","kinds"]) fun _ _ _ _ _ _ us hl=>by obtain ⟨_,_,_,rfl⟩:=hZ hl; rfl
 have Fm1:=aG (st:=ce) lm1 cm1 km1
 have bm1:=Fm1.binds (ps:=["self"]) fun _ _ _ _ _ _ us hl=>by obtain ⟨_,rfl⟩:=fV hl; rfl
 have Fm2:=aG (st:=bB) lm2 cm2 km2
 have bm2:=Fm2.binds (ps:=["self","kind","turned"]) fun _ _ _ _ _ _ us hl=>by obtain ⟨_,_,_,rfl⟩:=hZ hl; rfl
 have Fm3:=aG (st:=cf) lm3 cm3 km3
 have bm3:=Fm3.binds (ps:=["self","kind","turned"]) fun _ _ _ _ _ _ us hl=>by obtain ⟨_,_,_,rfl⟩:=hZ hl; rfl
 have y0:=mg_none_of X G z0
 have y1:=mg_none_of X G z1
 have y2:=mg_none_of X G z2
 have y3:=mg_none_of X G z3
 have y4:=mg_none_of X G z4
 have y5:=mg_none_of X G z5
 have y6:=mg_none_of X G z6
 have y7:=mg_none_of X G z7
 have y8:=mg_none_of X G z8
 have y9:=mg_none_of X G z9
 have y10:=mg_none_of X G z10
 have y11:=mg_none_of X G z11
 have y12:=mg_none_of X G z12
 have y13:=mg_none_of X G z13
 have y14:=mg_none_of X G z14
 have y15:=mg_none_of X G z15
 have y16:=mg_none_of X G z16
 have y17:=mg_none_of X G z17
 have gWAYS:=mg_of X G eWAYS
 have u0:=mg_of X G uc0
 have u1:=mg_of X G uc1
 have u2:=mg_of X G uc2
 have u3:=mg_of X G uc3
 have u4:=mg_of X G uc4
 have u5:=mg_of X G uc5
 have u6:=mg_of X G uc6
 have u7:=mg_of X G uc7
 have q0:=mg_of X G a0
 have q1:=mg_of X G a1
 have q2:=mg_of X G a2
 have q3:=mg_of X G a3
 have q4:=mg_of X G a4
 have q5:=mg_of X G a5
 have q6:=mg_of X G a6
 have q7:=mg_of X G a7
 have q8:=mg_of X G a8
 have q9:=mg_of X G a9
 have q10:=mg_of X G a10
 have q11:=mg_of X G a11
 have q12:=mg_of X G a12
 have q13:=mg_of X G a13
 have q14:=mg_of X G a14
 have q15:=mg_of X G a15
 have q16:=mg_of X G a16
 have q17:=mg_of X G a17
 have q18:=mg_of X G a18
 have q19:=mg_of X G a19
 have q20:=mg_of X G a20
 have q21:=mg_of X G a21
 have q22:=mg_of X G a22
 have q23:=mg_of X G a23
 have q24:=mg_of X G a24
 have q25:=mg_of X G a25
 have q26:=mg_of X G a26
 have q27:=mg_of X G a27
 have q28:=mg_of X G a28
 have q29:=mg_of X G a29
 have q30:=mg_of X G a30
 have q31:=mg_of X G a31
 have q32:=mg_of X G a32
 have q33:=mg_of X G a33
 have q34:=mg_of X G a34
 have qC:=mg_of X G aC
 refine ⟨fnOf "law" "law" (defArgs gP) (defBody gP) (defScope gP) .none kV dc pm an cd ct,fun s v=>.of_eq rfl,fun base _ _=>?_⟩
 have B:Blt mg:=⟨y0,y1,y2,y3,y4,y5,y6,y7,y8,y9,y10,y11,y12,y13,y14,y15,y16,⟨_,u0⟩,⟨_,u1⟩⟩
 have T:ShopTxt K C:=⟨⟨pg,hd,po,sa⟩,n0,n1⟩
 have D0:Dn l.prog w K mg base "is_whole" ["thing","least"] 1 (cH K):=⟨_,_,nG F0 B,b0,k0,q0⟩
 have D1:Dn l.prog w K mg base "is_truth" ["thing"] 1 (eZ K):=⟨_,_,nH F1 B,b1,k1,q1⟩
 have D2:Dn l.prog w K mg base "is_row" ["thing"] 1 (gi K):=⟨_,_,rF F2 B,b2,k2,q2⟩
 have D3:Dn l.prog w K mg base "is_kind" ["thing"] 2 (dJ K):=⟨_,_,lC F3 B D0 D1 D2,b3,k3,q3⟩
 have D4:Dn l.prog w K mg base "can_lie_turned" ["kind"] 1 (fC K):=⟨_,_,lD F4,b4,k4,q4⟩
 have MB:Mn l.prog w K mg base C "blade" ["self"] 1 (dL C):=⟨_,_,nI Fm1 T,bm1,⟨am1,im1,km1⟩⟩
 have MI:Mn l.prog w K mg base C "is_lying" ["self","kind","turned"] 2 (cV K C):=⟨_,_,jC Fm2 B T D0 D1 D4,bm2,⟨am2,im2,km2⟩⟩
 have MS:Mn l.prog w K mg base C "sides" ["self","kind","turned"] 3 (fb K C):=⟨_,_,nL Fm3 T MI,bm3,⟨am3,im3,km3⟩⟩
 have DS:Kn l.prog w K mg base "Shop" C ["self","blade","kinds"] 3 (jt C):=⟨_,_,⟨mk,am0,im0,kc⟩,pN Fm0 B T D0 D2 D3,bm0,qC⟩
 have D5:Dn l.prog w K mg base "check_plate" ["wide","high"] 2 (rK):=⟨_,_,lJ F5 D0,b5,k5,q5⟩
 have D6:Dn l.prog w K mg base "lies_in" ["shop","wide","high","kind","turned","x","y"] 4 (gR K C):=⟨_,_,nN F6 T D0 MI MS,b6,k6,q6⟩
 have D7:Dn l.prog w K mg base "meet" ["one","other"] 1 (jH):=⟨_,_,pT F7,b7,k7,q7⟩
 have D8:Dn l.prog w K mg base "spans_of" ["shop","piece"] 4 (fe C):=⟨_,_,nR F8 T MS,b8,k8,q8⟩
 have D9:Dn l.prog w K mg base "is_placed" ["shop","wide","high","thing"] 5 (fQ C):=⟨_,_,lI F9 B u5 D2 D6,b9,k9,q9⟩
 have D10:Dn l.prog w K mg base "is_laying" ["shop","wide","high","thing"] 6 (gW C):=⟨_,_,nT F10 B D5 D2 D9 D8 D7,b10,k10,q10⟩
 have D11:Dn l.prog w K mg base "parting_place" ["blade","spans"] 1 (gX):=⟨_,_,nV F11 B,b11,k11,q11⟩
 have D12:Dn l.prog w K mg base "leaf_of" ["x","y","pieces"] 1 (ee):=⟨_,_,lK F12 u3 u4,b12,k12,q12⟩
 have D13:Dn l.prog w K mg base "parting_cut" ["shop","pieces"] 5 (gZ C):=⟨_,_,pZ F13 B T gWAYS (fun H=>.inr lWAYS) MB D8 D11,b13,k13,q13⟩
 have D14:Dn l.prog w K mg base "part_pieces" ["shop","x","y","pieces"] 37 (cR C 32):=⟨_,_,iT F14 B T u6 u7 u2 MB D12 D13 (fun n h=>⟨_,_,h,b14,k14,q14⟩) 32,b14,k14,q14⟩
 have D15:Dn l.prog w K mg base "tree_or_knot" ["shop","wide","high","laying"] 38 (oi C):=⟨_,_,rM F15 B D10 D14,b15,k15,q15⟩
 have D16:Dn l.prog w K mg base "_law_cell" ["_law_script","_law_k"] 1 (jw K):=⟨_,_,pP F16 B,b16,k16,q16⟩
 have D17:Dn l.prog w K mg base "_law_pot" ["_law_cell_here","_law_k"] 1 (jD):=⟨_,_,pQ F17 B,b17,k17,q17⟩
 have D18:Dn l.prog w K mg base "_law_take" ["_law_pot_here","_law_many"] 1 (ci):=⟨_,_,pR F18 B,b18,k18,q18⟩
 have D19:Dn l.prog w K mg base "_law_unit" ["_law_pot_here"] 2 (jE):=⟨_,_,pS F19 B D18,b19,k19,q19⟩
 have D20:Dn l.prog w K mg base "_law_side" ["_law_pot_here","_law_unit_here","_law_most"] 2 (fc):=⟨_,_,lF F20 B D18,b20,k20,q20⟩
 have D21:Dn l.prog w K mg base "_law_worth" ["_law_pot_here"] 2 (fP):=⟨_,_,lG F21 B D18,b21,k21,q21⟩
 have D22:Dn l.prog w K mg base "_law_shop" ["_law_pot_here","_law_unit_here"] 3 (gT):=⟨_,_,nQ F22 B D18 D20 D21,b22,k22,q22⟩
 have D23:Dn l.prog w K mg base "_law_sides" ["_law_shop_here","_law_kind","_law_turned"] 1 (dZ):=⟨_,_,lH F23 B,b23,k23,q23⟩
 have D24:Dn l.prog w K mg base "_law_lyings" ["_law_shop_here"] 1 (cY):=⟨_,_,jF F24 B,b24,k24,q24⟩
 have D25:Dn l.prog w K mg base "_law_behind" ["_law_shop_here","_law_wide","_law_high","_law_way","_law_p"] 1 (gt):=⟨_,_,rP F25 B,b25,k25,q25⟩
 have D26:Dn l.prog w K mg base "_law_leaf" ["_law_pot_here","_law_shop_here","_law_wide","_law_high"] 2 (eh):=⟨_,_,oo F26 B D18 D23 D24,b26,k26,q26⟩
 have D27:Dn l.prog w K mg base "_law_tree" ["_law_pot_here","_law_shop_here","_law_wide","_law_high","_law_deep","_law_room"] 14 (cx 11):=⟨_,_,gu F27 B D18 D25 D26 (fun n h=>⟨_,_,h,b27,k27,q27⟩) 11,b27,k27,q27⟩
 have D28:Dn l.prog w K mg base "_law_plain" ["_law_thing","_law_least"] 1 (ej):=⟨_,_,ou F28 B,b28,k28,q28⟩
 have D29:Dn l.prog w K mg base "_law_is_leaf" ["_law_shop_here","_law_wide","_law_high","_law_tree_here"] 2 (hI):=⟨_,_,qg F29 B D28 D23 D24,b29,k29,q29⟩
 have D30:Dn l.prog w K mg base "_law_walk" ["_law_shop_here","_law_part","_law_tree_here"] 43 (cK 40):=⟨_,_,iX F30 B y17 D28 D29 D25 (fun n h=>⟨_,_,h,b30,k30,q30⟩) 40,b30,k30,q30⟩
 have D31:Dn l.prog w K mg base "_law_pieces" ["_law_leaves"] 1 (kN K):=⟨_,_,rQ F31 B,b31,k31,q31⟩
 have D32:Dn l.prog w K mg base "_law_handed" ["_law_pot_here","_law_pieces_here"] 2 (jM):=⟨_,_,qi F32 B D18,b32,k32,q32⟩
 have D33:Dn l.prog w K mg base "_law_right" ["_law_shop_here","_law_wide","_law_high","_law_pieces_here","_law_found"] 44 (hV):=⟨_,_,oA F33 B D30 D31,b33,k33,q33⟩
 exact rT F34 B D16 D17 D18 D19 D22 D20 D27 D30 D31 D32 D33 D15 DS
theorem walk {l:PySem.W.OpenLaw} {q:Program} {loose:List Str} {XP:(Str→Option Value)→Heap→Prop} {YP:World→Heap→Prop} {d:DefRec} {K:Params→PySem.W.Frag} (hn:l.most=some 63) (hdf:d.params.defaults=[])
  (hY:∀ (w:World) (h:Heap),YP w h→(K w.params).In h)
  (F:∀ (w:World) (mg:Str→Option Value) (fa:Addr) (h:Heap),(K w.params).In h→h.Ns mainGlobals mg→mg d.name=some (.ref fa) →
   ∃fd:FuncData,(∀ (s:Shared) (u:Value),BindsTo s fd ⟨[u],[]⟩ [("_law_script",u)])∧∀base:Heap,(K w.params).In base→base.Ns mainGlobals mg→FnOk l.prog w (K w.params) mg base CX0 45 fa fd ["_law_script"] (kR (K w.params))) :
  PySem.W.WalkO q loose XP YP l.row.toRowW d [] (fun f vs=>PySem.call f vs) :=
 L2.walk_of (n:=63) (k:=45) (x := "_law_script") (CX:=fun _=>CX0) (sp:=fun w=>kR (K w.params)) hn (by decide) hdf ⟨rfl,by decide,by decide,rfl⟩ hY F (fun _ _ a ns hl _ hS=>⟨a,ns,rfl,hS,hl,fun _=>rfl⟩) fun _ _ _ _ _ z=>z
end Pc
namespace Pc
open PySem L2
section
open PySem.W
noncomputable def kE (P:Params) (n:Str) (t:Nat) (v:Value):DictEntry:=⟨PyData.keyHash P n,.str n t,v⟩
noncomputable def kO3 (P:Params):Obj:=⟨(.type "dict"),none,(.dict #[kE P "__name__" 165 (.str "law_platecuts_k32_whole_trees_of_layings" 570),kE P "__doc__" 166 .none,kE P "__package__" 167 .none,kE P "__loader__" 168 (.builtin "__main__.__loader__#opaque"),kE P "__spec__" 169 .none,kE P "__annotations__" 170 (.ref 6),kE P "__builtins__" 171 (.ref 4),kE P "__file__" 173 (.str "/claim/cut.py" 172),kE P "__cached__" 174 .none,kE P "_wall" 193 (.ref 21),kE P "PlateError" 213 (.ref 31),kE P "NoBlade" 229 (.ref 44),kE P "NoKinds" 245 (.ref 56),kE P "NoKind" 261 (.ref 68),kE P "NoLying" 277 (.ref 80),kE P "NoPlate" 293 (.ref 92),kE P "NoLaying" 309 (.ref 104),kE P "is_whole" 319 (.ref 113),kE P "is_truth" 326 (.ref 120),kE P "is_row" 333 (.ref 127),kE P "check_plate" 341 (.ref 134),kE P "DOWN" 345 (.str "down" 344),kE P "ACROSS" 347 (.str "across" 346),kE P "WAYS" 348 (.ref 135),kE P "lies_in" 363 (.ref 142),kE P "THINGS_OF_A_PIECE" 367 (.int 4 366),kE P "is_placed" 377 (.ref 149),kE P "spans_of" 391 (.ref 156),kE P "meet" 399 (.ref 163),kE P "is_laying" 405 (.ref 168),kE P "REST" 407 (.str "rest" 406),kE P "PIECE" 409 (.str "piece" 408),kE P "TREE" 413 (.str "tree" 412),kE P "KNOT" 415 (.str "knot" 414),kE P "parting_place" 427 (.ref 175),kE P "parting_cut" 433 (.ref 180),kE P "leaf_of" 446 (.ref 187),kE P "part_pieces" 464 (.ref 194),kE P "tree_or_knot" 470 (.ref 199),kE P "MOST_KINDS" 474 (.int 8 473),kE P "THINGS_OF_A_KIND" 476 (.int 5 475),kE P "is_kind" 488 (.ref 206),kE P "can_lie_turned" 495 (.ref 213),kE P "Shop" 569 (.ref 268),kE P "_law_cell" 579 (.ref 279),kE P "_law_pot" 587 (.ref 286),kE P "_law_take" 596 (.ref 293),kE P "_law_unit" 604 (.ref 300),kE P "_law_side" 613 (.ref 307),kE P "_law_worth" 621 (.ref 314),kE P "_law_shop" 634 (.ref 321),kE P "_law_sides" 645 (.ref 328),kE P "_law_lyings" 655 (.ref 335),kE P "_law_behind" 666 (.ref 342),kE P "_law_leaf" 680 (.ref 349),kE P "_law_tree" 698 (.ref 356),kE P "_law_plain" 706 (.ref 363),kE P "_law_is_leaf" 717 (.ref 370),kE P "_law_walk" 740 (.ref 377),kE P "_law_pieces" 753 (.ref 384),kE P "_law_handed" 763 (.ref 391),kE P "_law_right" 775 (.ref 398),kE P "law" 781 (.ref 403)] 63),#[]⟩
noncomputable def gk0 (x0:Str)(x1:Nat)(x2:Str)(x3 x4 x5 x6 x7 x8 x9 x10 x11 x12 x13:Nat)(P:Params):Obj:=⟨(.type "code"),none,(.fields #[.str x0 x1,.str x2 x3,.str "/claim/cut.py" x4,.int x5 0,.int x6 0,.int 0 0,.int 0 0,.int 3 0,.ref x7,.bool true,.int 181 0,.ref x8,.none,.ref x9,.ref x10,.ref x11,.int x12 0,.int x5 0,.str "/claim/cut.py" x13]),#[]⟩
noncomputable def Bj:=gk0 "_wall" 187 "_wall" 188 189 1 1 15 16 17 18 19 191 192
noncomputable def gk1 (x0 x1:Str)(x2:Stmt)(x3:Str)(x4 x5:Nat)(P:Params):Obj:=⟨(.type "function"),none,(.func (fnOf x0 x1 (defArgs x2) (defBody x2) (defScope x2) .none .none .none (.str x3 x4) none (.ref x5) .none)),#[]⟩
noncomputable def Bk:=gk1 "_wall" "_wall" uY "__main__" 164 20
noncomputable def Bl (P:Params):Obj:=⟨(.type "dict"),none,(.dict #[kE P "__module__" 203 (.str "platecuts.errors" 194),kE P "__firstlineno__" 207 (.int 5 206),kE P "__static_attributes__" 208 (.ref 29),kE P "__weakref__" 210 (.ref 32),kE P "__doc__" 211 .none] 3),#[]⟩
noncomputable def Bm (P:Params):Obj:=⟨(.type "type"),none,(.cls ⟨"PlateError",[.type "ValueError"],[.ref 31,.type "ValueError",.type "Exception",.type "BaseException",.type "object"],30,"PlateError",true,[],[.ref 44,.ref 56,.ref 68,.ref 80,.ref 92,.ref 104],false,none,false⟩),#[some (.ref 22),none,some (.str "PlateError" 196),some (.str "PlateError" 204),some (.builtin "ValueError.__new__"),some (.bool true)]⟩
noncomputable def gk2 (x0 x1 x2 x3 x4 x5 x6:Nat)(P:Params):Obj:=⟨(.type "dict"),none,(.dict #[kE P "__module__" x0 (.str "platecuts.errors" 194),kE P "__firstlineno__" x1 (.int x2 x3),kE P "__static_attributes__" x4 (.ref x5),kE P "__doc__" x6 .none] 2),#[]⟩
noncomputable def Bn:=gk2 221 225 7 224 226 42 227
noncomputable def gk3 (x0:Str)(x1 x2 x3 x4 x5:Nat)(P:Params):Obj:=⟨(.type "type"),none,(.cls ⟨x0,[.ref 31],[.ref x1,.ref 31,.type "ValueError",.type "Exception",.type "BaseException",.type "object"],x2,x0,true,[],[],false,none,false⟩),#[some (.ref x3),none,some (.str x0 x4),some (.str x0 x5),some (.builtin "ValueError.__new__"),some (.bool true)]⟩
noncomputable def Bo:=gk3 "NoBlade" 44 43 35 214 222
noncomputable def Bp:=gk2 237 241 9 240 242 54 243
noncomputable def Bq:=gk3 "NoKinds" 56 55 47 230 238
noncomputable def Br:=gk2 253 257 11 256 258 66 259
noncomputable def Bs:=gk3 "NoKind" 68 67 59 246 254
noncomputable def Bt:=gk2 269 273 13 272 274 78 275
noncomputable def Bu:=gk3 "NoLying" 80 79 71 262 270
noncomputable def Bv:=gk2 285 289 15 288 290 90 291
noncomputable def Bw:=gk3 "NoPlate" 92 91 83 278 286
noncomputable def vk:=gk2 301 305 17 304 306 102 307
noncomputable def vm:=gk3 "NoLaying" 104 103 95 294 302
noncomputable def vn:=gk0 "is_whole" 312 "is_whole" 313 314 20 2 107 108 109 110 111 317 318
noncomputable def vo:=gk1 "is_whole" "is_whole" fH "platecuts.checks" 310 112
noncomputable def vp:=gk0 "is_truth" 320 "is_truth" 321 322 22 1 114 115 116 117 118 324 325
noncomputable def vq:=gk1 "is_truth" "is_truth" fI "platecuts.checks" 310 119
noncomputable def vt:=gk0 "is_row" 327 "is_row" 328 329 24 1 121 122 123 124 125 331 332
noncomputable def vw:=gk1 "is_row" "is_row" nE "platecuts.checks" 310 126
noncomputable def vx:=gk0 "check_plate" 334 "check_plate" 335 336 26 2 128 129 130 131 132 339 340
noncomputable def vy:=gk1 "check_plate" "check_plate" bN "platecuts.checks" 310 133
noncomputable def vz (P:Params):Obj:=⟨(.type "tuple"),none,(.seq #[.str "down" 344,.str "across" 346] 0),#[]⟩
noncomputable def vA:=gk0 "lies_in" 349 "lies_in" 350 351 33 7 136 137 138 139 140 361 362
noncomputable def vB:=gk1 "lies_in" "lies_in" dN "platecuts.parts" 342 141
noncomputable def vC:=gk0 "is_placed" 368 "is_placed" 369 370 40 4 143 144 145 146 147 375 376
noncomputable def vD:=gk1 "is_placed" "is_placed" cC "platecuts.layings" 364 148
noncomputable def vE:=gk0 "spans_of" 378 "spans_of" 379 380 44 2 150 151 152 153 154 389 390
noncomputable def vF:=gk1 "spans_of" "spans_of" cQ "platecuts.layings" 364 155
noncomputable def vG:=gk0 "meet" 392 "meet" 393 394 48 2 157 158 159 160 161 397 398
noncomputable def vH:=gk1 "meet" "meet" iG "platecuts.layings" 364 162
noncomputable def gk4 (x0:Str)(x1:Nat)(x2:Str)(x3 x4 x5 x6 x7 x8 x9 x10 x11:Nat)(P:Params):Obj:=⟨(.type "code"),none,(.fields #[.str x0 x1,.str x2 x3,.str "/claim/cut.py" x4,.int x5 0,.int x6 0,.int 0 0,.int 0 0,.int 3 0,.ref x7,.bool true,.int 181 0,.ref x8,.none,.none,.none,.ref x9,.int x10 0,.int x5 0,.str "/claim/cut.py" x11]),#[]⟩
noncomputable def vI:=gk4 "is_laying" 400 "is_laying" 401 402 50 4 164 165 166 403 404
noncomputable def vJ:=gk1 "is_laying" "is_laying" bH "platecuts.layings" 364 167
noncomputable def vK:=gk0 "parting_place" 416 "parting_place" 417 418 65 2 169 170 171 172 173 425 426
noncomputable def vL:=gk1 "parting_place" "parting_place" bo "platecuts.parting" 410 174
noncomputable def vM:=gk4 "parting_cut" 428 "parting_cut" 429 430 73 2 176 177 178 431 432
noncomputable def vN:=gk1 "parting_cut" "parting_cut" aX "platecuts.parting" 410 179
noncomputable def vO:=gk0 "leaf_of" 434 "leaf_of" 435 436 82 3 181 182 183 184 185 444 445
noncomputable def vP:=gk1 "leaf_of" "leaf_of" dO "platecuts.parting" 410 186
noncomputable def vQ:=gk0 "part_pieces" 447 "part_pieces" 448 449 87 4 188 189 190 191 192 462 463
noncomputable def vR:=gk1 "part_pieces" "part_pieces" bi "platecuts.parting" 410 193
noncomputable def vS:=gk4 "tree_or_knot" 465 "tree_or_knot" 466 467 102 4 195 196 197 468 469
noncomputable def vT:=gk1 "tree_or_knot" "tree_or_knot" bq "platecuts.parting" 410 198
noncomputable def vU:=gk0 "is_kind" 477 "is_kind" 478 479 109 1 200 201 202 203 204 486 487
noncomputable def vV:=gk1 "is_kind" "is_kind" dP "platecuts.shops" 471 205
noncomputable def vW:=gk0 "can_lie_turned" 489 "can_lie_turned" 490 491 116 1 207 208 209 210 211 493 494
noncomputable def vX:=gk1 "can_lie_turned" "can_lie_turned" dQ "platecuts.shops" 471 212
noncomputable def vY:=gk4 "__init__" 508 "Shop.__init__" 509 510 120 3 221 222 223 511 512
noncomputable def vZ:=gk1 "__init__" "Shop.__init__" bU "platecuts.shops" 471 224
noncomputable def wc:=gk0 "blade" 514 "Shop.blade" 515 516 131 1 226 227 228 229 230 518 519
noncomputable def we:=gk1 "blade" "Shop.blade" ce "platecuts.shops" 471 231
noncomputable def wf:=gk0 "kinds" 521 "Shop.kinds" 522 523 134 1 233 234 235 236 237 525 526
noncomputable def wg:=gk1 "kinds" "Shop.kinds" jB "platecuts.shops" 471 238
noncomputable def wj:=gk4 "wanted" 528 "Shop.wanted" 529 530 137 1 240 241 242 531 532
noncomputable def wk:=gk1 "wanted" "Shop.wanted" iH "platecuts.shops" 471 243
noncomputable def wm:=gk0 "lyings" 534 "Shop.lyings" 535 536 140 1 245 246 247 248 249 538 539
noncomputable def wn:=gk1 "lyings" "Shop.lyings" iI "platecuts.shops" 471 250
noncomputable def wr:=gk0 "is_lying" 541 "Shop.is_lying" 542 543 143 3 252 253 254 255 256 547 548
noncomputable def wu:=gk1 "is_lying" "Shop.is_lying" bB "platecuts.shops" 471 257
noncomputable def wv:=gk0 "sides" 550 "Shop.sides" 551 552 148 3 259 260 261 262 263 557 558
noncomputable def ww:=gk1 "sides" "Shop.sides" cf "platecuts.shops" 471 264
noncomputable def wx (P:Params):Obj:=⟨(.type "dict"),none,(.dict #[kE P "__module__" 503 (.str "platecuts.shops" 471),kE P "__firstlineno__" 507 (.int 118 506),kE P "__init__" 513 (.ref 225),kE P "blade" 520 (.ref 232),kE P "kinds" 527 (.ref 239),kE P "wanted" 533 (.ref 244),kE P "lyings" 540 (.ref 251),kE P "is_lying" 549 (.ref 258),kE P "sides" 559 (.ref 265),kE P "__static_attributes__" 562 (.ref 266),kE P "__dict__" 564 (.ref 269),kE P "__weakref__" 566 (.ref 270),kE P "__doc__" 567 .none] 4),#[]⟩
noncomputable def wz (P:Params):Obj:=⟨(.type "type"),none,(.cls ⟨"Shop",[.type "object"],[.ref 268,.type "object"],267,"Shop",true,[],[],false,none,false⟩),#[none,none,some (.str "Shop" 496),some (.str "Shop" 504),some (.builtin "object.__new__"),some (.bool true)]⟩
noncomputable def wA:=gk0 "_law_cell" 572 "_law_cell" 573 574 156 2 273 274 275 276 277 577 578
noncomputable def wB:=gk1 "_law_cell" "_law_cell" iJ "law_platecuts_k32_whole_trees_of_layings" 570 278
noncomputable def wC:=gk0 "_law_pot" 580 "_law_pot" 581 582 160 2 280 281 282 283 284 585 586
noncomputable def wD:=gk1 "_law_pot" "_law_pot" nF "law_platecuts_k32_whole_trees_of_layings" 570 285
noncomputable def wE:=gk0 "_law_take" 588 "_law_take" 589 590 162 2 287 288 289 290 291 594 595
noncomputable def wF:=gk1 "_law_take" "_law_take" iK "law_platecuts_k32_whole_trees_of_layings" 570 292
noncomputable def wG:=gk0 "_law_unit" 597 "_law_unit" 598 599 169 1 294 295 296 297 298 602 603
noncomputable def wH:=gk1 "_law_unit" "_law_unit" iL "law_platecuts_k32_whole_trees_of_layings" 570 299
noncomputable def wI:=gk0 "_law_side" 605 "_law_side" 606 607 172 3 301 302 303 304 305 611 612
noncomputable def wJ:=gk1 "_law_side" "_law_side" iM "law_platecuts_k32_whole_trees_of_layings" 570 306
noncomputable def wK:=gk0 "_law_worth" 614 "_law_worth" 615 616 176 1 308 309 310 311 312 619 620
noncomputable def wL:=gk1 "_law_worth" "_law_worth" fJ "law_platecuts_k32_whole_trees_of_layings" 570 313
noncomputable def wM:=gk0 "_law_shop" 622 "_law_shop" 623 624 179 2 315 316 317 318 319 632 633
noncomputable def wN:=gk1 "_law_shop" "_law_shop" iN "law_platecuts_k32_whole_trees_of_layings" 570 320
noncomputable def wO:=gk0 "_law_sides" 635 "_law_sides" 636 637 187 3 322 323 324 325 326 643 644
noncomputable def wP:=gk1 "_law_sides" "_law_sides" fK "law_platecuts_k32_whole_trees_of_layings" 570 327
noncomputable def wQ:=gk0 "_law_lyings" 646 "_law_lyings" 647 648 190 1 329 330 331 332 333 653 654
noncomputable def wR:=gk1 "_law_lyings" "_law_lyings" dR "law_platecuts_k32_whole_trees_of_layings" 570 334
noncomputable def wS:=gk0 "_law_behind" 656 "_law_behind" 657 658 197 5 336 337 338 339 340 664 665
noncomputable def wT:=gk1 "_law_behind" "_law_behind" dS "law_platecuts_k32_whole_trees_of_layings" 570 341
noncomputable def wU:=gk0 "_law_leaf" 667 "_law_leaf" 668 669 201 4 343 344 345 346 347 678 679
noncomputable def wV:=gk1 "_law_leaf" "_law_leaf" iO "law_platecuts_k32_whole_trees_of_layings" 570 348
noncomputable def wW:=gk0 "_law_tree" 681 "_law_tree" 682 683 212 6 350 351 352 353 354 696 697
noncomputable def wX:=gk1 "_law_tree" "_law_tree" fL "law_platecuts_k32_whole_trees_of_layings" 570 355
noncomputable def wY:=gk0 "_law_plain" 699 "_law_plain" 700 701 223 2 357 358 359 360 361 704 705
noncomputable def wZ:=gk1 "_law_plain" "_law_plain" fM "law_platecuts_k32_whole_trees_of_layings" 570 362
noncomputable def xa:=gk0 "_law_is_leaf" 707 "_law_is_leaf" 708 709 225 4 364 365 366 367 368 715 716
noncomputable def xb:=gk1 "_law_is_leaf" "_law_is_leaf" dU "law_platecuts_k32_whole_trees_of_layings" 570 369
noncomputable def xc:=gk0 "_law_walk" 718 "_law_walk" 719 720 232 3 371 372 373 374 375 738 739
noncomputable def xf:=gk1 "_law_walk" "_law_walk" fN "law_platecuts_k32_whole_trees_of_layings" 570 376
noncomputable def xg:=gk0 "_law_pieces" 741 "_law_pieces" 742 743 253 1 378 379 380 381 382 751 752
noncomputable def xh:=gk1 "_law_pieces" "_law_pieces" dW "law_platecuts_k32_whole_trees_of_layings" 570 383
noncomputable def xi:=gk0 "_law_handed" 754 "_law_handed" 755 756 259 2 385 386 387 388 389 761 762
noncomputable def xj:=gk1 "_law_handed" "_law_handed" dX "law_platecuts_k32_whole_trees_of_layings" 570 390
noncomputable def xk:=gk0 "_law_right" 764 "_law_right" 765 766 264 5 392 393 394 395 396 773 774
noncomputable def xl:=gk1 "_law_right" "_law_right" fO "law_platecuts_k32_whole_trees_of_layings" 570 397
noncomputable def xm:=gk4 "law" 776 "law" 777 778 269 1 399 400 401 779 780
noncomputable def xn:=gk1 "law" "law" gP "law_platecuts_k32_whole_trees_of_layings" 570 402
noncomputable def kK:Params→Frag:=fun P=>(nat_lit 3,kO3 P) :: (nat_lit 20,Bj P) :: (nat_lit 21,Bk P) :: (nat_lit 30,Bl P) :: (nat_lit 31,Bm P) :: (nat_lit 43,Bn P) :: (nat_lit 44,Bo P) :: (nat_lit 55,Bp P) :: (nat_lit 56,Bq P) :: (nat_lit 67,Br P) :: (nat_lit 68,Bs P) :: (nat_lit 79,Bt P) :: (nat_lit 80,Bu P) :: (nat_lit 91,Bv P) :: (nat_lit 92,Bw P) :: (nat_lit 103,vk P) :: (nat_lit 104,vm P) :: (nat_lit 112,vn P) :: (nat_lit 113,vo P) :: (nat_lit 119,vp P) :: (nat_lit 120,vq P) :: (nat_lit 126,vt P) :: (nat_lit 127,vw P) :: (nat_lit 133,vx P) :: (nat_lit 134,vy P) :: (nat_lit 135,vz P) :: (nat_lit 141,vA P) :: (nat_lit 142,vB P) :: (nat_lit 148,vC P) :: (nat_lit 149,vD P) :: (nat_lit 155,vE P) :: (nat_lit 156,vF P) :: (nat_lit 162,vG P) :: (nat_lit 163,vH P) :: (nat_lit 167,vI P) :: (nat_lit 168,vJ P) :: (nat_lit 174,vK P) :: (nat_lit 175,vL P) :: (nat_lit 179,vM P) :: (nat_lit 180,vN P) :: (nat_lit 186,vO P) :: (nat_lit 187,vP P) :: (nat_lit 193,vQ P) :: (nat_lit 194,vR P) :: (nat_lit 198,vS P) :: (nat_lit 199,vT P) :: (nat_lit 205,vU P) :: (nat_lit 206,vV P) :: (nat_lit 212,vW P) :: (nat_lit 213,vX P) :: (nat_lit 224,vY P) :: (nat_lit 225,vZ P) :: (nat_lit 231,wc P) :: (nat_lit 232,we P) :: (nat_lit 238,wf P) :: (nat_lit 239,wg P) :: (nat_lit 243,wj P) :: (nat_lit 244,wk P) :: (nat_lit 250,wm P) :: (nat_lit 251,wn P) :: (nat_lit 257,wr P) :: (nat_lit 258,wu P) :: (nat_lit 264,wv P) :: (nat_lit 265,ww P) :: (nat_lit 267,wx P) :: (nat_lit 268,wz P) :: (nat_lit 278,wA P) :: (nat_lit 279,wB P) :: (nat_lit 285,wC P) :: (nat_lit 286,wD P) :: (nat_lit 292,wE P) :: (nat_lit 293,wF P) :: (nat_lit 299,wG P) :: (nat_lit 300,wH P) :: (nat_lit 306,wI P) :: (nat_lit 307,wJ P) :: (nat_lit 313,wK P) :: (nat_lit 314,wL P) :: (nat_lit 320,wM P) :: (nat_lit 321,wN P) :: (nat_lit 327,wO P) :: (nat_lit 328,wP P) :: (nat_lit 334,wQ P) :: (nat_lit 335,wR P) :: (nat_lit 341,wS P) :: (nat_lit 342,wT P) :: (nat_lit 348,wU P) :: (nat_lit 349,wV P) :: (nat_lit 355,wW P) :: (nat_lit 356,wX P) :: (nat_lit 362,wY P) :: (nat_lit 363,wZ P) :: (nat_lit 369,xa P) :: (nat_lit 370,xb P) :: (nat_lit 376,xc P) :: (nat_lit 377,xf P) :: (nat_lit 383,xg P) :: (nat_lit 384,xh P) :: (nat_lit 390,xi P) :: (nat_lit 391,xj P) :: (nat_lit 397,xk P) :: (nat_lit 398,xl P) :: (nat_lit 402,xm P) :: (nat_lit 403,xn P) :: []
end
end Pc
set_option maxHeartbeats 0
lay_quick PySem.Challenge.pw_platecuts_k32_whole_trees_of_layings
namespace Hd
open PySem PySem.W
noncomputable def S0:Str:=⟨⟨[95,95,110,97,109,101,95,95]⟩⟩
noncomputable def S2:Str:=⟨⟨[95,95,100,111,99,95,95]⟩⟩
noncomputable def S3:Str:=⟨⟨[95,95,112,97,99,107,97,103,101,95,95]⟩⟩
noncomputable def S4:Str:=⟨⟨[95,95,108,111,97,100,101,114,95,95]⟩⟩
noncomputable def S5:Str:=⟨⟨[95,95,115,112,101,99,95,95]⟩⟩
noncomputable def xo:Str:=⟨⟨[95,95,109,97,105,110,95,95]⟩⟩
noncomputable def xq:Str:=⟨⟨[95,95,97,110,110,111,116,97,116,105,111,110,115,95,95]⟩⟩
noncomputable def xt:Str:=⟨⟨[95,95,98,117,105,108,116,105,110,115,95,95]⟩⟩
noncomputable def xu:Str:=⟨⟨[95,95,102,105,108,101,95,95]⟩⟩
noncomputable def iZ:Str:=⟨⟨[47,99,108,97,105,109,47,99,117,116,46,112,121]⟩⟩
noncomputable def xw:Str:=⟨⟨[95,95,99,97,99,104,101,100,95,95]⟩⟩
noncomputable def By:Str:=⟨⟨[60,109,111,100,117,108,101,62]⟩⟩
noncomputable def lO:Str:=⟨⟨[112,108,97,116,101,99,117,116,115,46,112,97,114,116,105,110,103]⟩⟩
noncomputable def jN:Str:=⟨⟨[95,119,97,108,108]⟩⟩
noncomputable def ia:Str:=⟨⟨[80,108,97,116,101,69,114,114,111,114]⟩⟩
noncomputable def lP:Str:=⟨⟨[78,111,66,108,97,100,101]⟩⟩
noncomputable def lQ:Str:=⟨⟨[78,111,75,105,110,100,115]⟩⟩
noncomputable def lR:Str:=⟨⟨[78,111,75,105,110,100]⟩⟩
noncomputable def lS:Str:=⟨⟨[78,111,76,121,105,110,103]⟩⟩
noncomputable def lT:Str:=⟨⟨[78,111,80,108,97,116,101]⟩⟩
noncomputable def lU:Str:=⟨⟨[78,111,76,97,121,105,110,103]⟩⟩
noncomputable def jO:Str:=⟨⟨[105,115,95,119,104,111,108,101]⟩⟩
noncomputable def jP:Str:=⟨⟨[105,115,95,116,114,117,116,104]⟩⟩
noncomputable def jQ:Str:=⟨⟨[105,115,95,114,111,119]⟩⟩
noncomputable def jR:Str:=⟨⟨[99,104,101,99,107,95,112,108,97,116,101]⟩⟩
noncomputable def rV:Str:=⟨⟨[68,79,87,78]⟩⟩
noncomputable def rW:Str:=⟨⟨[100,111,119,110]⟩⟩
noncomputable def rX:Str:=⟨⟨[65,67,82,79,83,83]⟩⟩
noncomputable def rY:Str:=⟨⟨[97,99,114,111,115,115]⟩⟩
noncomputable def rZ:Str:=⟨⟨[87,65,89,83]⟩⟩
noncomputable def jS:Str:=⟨⟨[108,105,101,115,95,105,110]⟩⟩
noncomputable def sf:Str:=⟨⟨[84,72,73,78,71,83,95,79,70,95,65,95,80,73,69,67,69]⟩⟩
noncomputable def jT:Str:=⟨⟨[105,115,95,112,108,97,99,101,100]⟩⟩
noncomputable def jU:Str:=⟨⟨[115,112,97,110,115,95,111,102]⟩⟩
noncomputable def jV:Str:=⟨⟨[109,101,101,116]⟩⟩
noncomputable def jW:Str:=⟨⟨[105,115,95,108,97,121,105,110,103]⟩⟩
noncomputable def sg:Str:=⟨⟨[82,69,83,84]⟩⟩
noncomputable def xy:Str:=⟨⟨[114,101,115,116]⟩⟩
noncomputable def si:Str:=⟨⟨[80,73,69,67,69]⟩⟩
noncomputable def sj:Str:=⟨⟨[112,105,101,99,101]⟩⟩
noncomputable def sk:Str:=⟨⟨[84,82,69,69]⟩⟩
noncomputable def xz:Str:=⟨⟨[116,114,101,101]⟩⟩
noncomputable def sn:Str:=⟨⟨[75,78,79,84]⟩⟩
noncomputable def xA:Str:=⟨⟨[107,110,111,116]⟩⟩
noncomputable def jX:Str:=⟨⟨[112,97,114,116,105,110,103,95,112,108,97,99,101]⟩⟩
noncomputable def jY:Str:=⟨⟨[112,97,114,116,105,110,103,95,99,117,116]⟩⟩
noncomputable def jZ:Str:=⟨⟨[108,101,97,102,95,111,102]⟩⟩
noncomputable def Bz:Str:=⟨⟨[107]⟩⟩
noncomputable def oB:Str:=⟨⟨[95,95,109,111,100,117,108,101,95,95]⟩⟩
noncomputable def fW:Str:=⟨⟨[112,108,97,116,101,99,117,116,115,46,101,114,114,111,114,115]⟩⟩
noncomputable def xB:Str:=⟨⟨[95,95,113,117,97,108,110,97,109,101,95,95]⟩⟩
noncomputable def oC:Str:=⟨⟨[95,95,102,105,114,115,116,108,105,110,101,110,111,95,95]⟩⟩
noncomputable def oE:Str:=⟨⟨[95,95,115,116,97,116,105,99,95,97,116,116,114,105,98,117,116,101,115,95,95]⟩⟩
noncomputable def sr:Str:=⟨⟨[95,95,119,101,97,107,114,101,102,95,95]⟩⟩
noncomputable def oF:Str:=⟨⟨[116,104,105,110,103]⟩⟩
noncomputable def BA:Str:=⟨⟨[108,101,97,115,116]⟩⟩
noncomputable def qo:Str:=⟨⟨[112,108,97,116,101,99,117,116,115,46,99,104,101,99,107,115]⟩⟩
noncomputable def oG:Str:=⟨⟨[119,105,100,101]⟩⟩
noncomputable def oH:Str:=⟨⟨[104,105,103,104]⟩⟩
noncomputable def qp:Str:=⟨⟨[115,104,111,112]⟩⟩
noncomputable def lV:Str:=⟨⟨[107,105,110,100]⟩⟩
noncomputable def oI:Str:=⟨⟨[116,117,114,110,101,100]⟩⟩
noncomputable def qq:Str:=⟨⟨[120]⟩⟩
noncomputable def qr:Str:=⟨⟨[121]⟩⟩
noncomputable def BB:Str:=⟨⟨[112,105,101,99,101,95,119,105,100,101]⟩⟩
noncomputable def BC:Str:=⟨⟨[112,105,101,99,101,95,104,105,103,104]⟩⟩
noncomputable def BD:Str:=⟨⟨[112,108,97,116,101,99,117,116,115,46,112,97,114,116,115]⟩⟩
noncomputable def qt:Str:=⟨⟨[112,108,97,116,101,99,117,116,115,46,108,97,121,105,110,103,115]⟩⟩
noncomputable def BE:Str:=⟨⟨[111,110,101]⟩⟩
noncomputable def BF:Str:=⟨⟨[111,116,104,101,114]⟩⟩
noncomputable def lW:Str:=⟨⟨[98,108,97,100,101]⟩⟩
noncomputable def BG:Str:=⟨⟨[115,112,97,110,115]⟩⟩
noncomputable def BH:Str:=⟨⟨[111,114,100,101,114,101,100]⟩⟩
noncomputable def BI:Str:=⟨⟨[114,101,97,99,104]⟩⟩
noncomputable def BJ:Str:=⟨⟨[115,116,97,114,116]⟩⟩
noncomputable def BK:Str:=⟨⟨[101,110,100]⟩⟩
noncomputable def xC:Str:=⟨⟨[112,105,101,99,101,115]⟩⟩
noncomputable def BL:Str:=⟨⟨[112,105,101,99,101,95,120]⟩⟩
noncomputable def BM:Str:=⟨⟨[112,105,101,99,101,95,121]⟩⟩
noncomputable def cD:Str:=⟨⟨[108,97,119,95,112,108,97,116,101,99,117,116,115,95,107,51,50,95,119,104,111,108,101,95,116,114,101,101,115,95,111,102,95,108,97,121,105,110,103,115]⟩⟩
noncomputable def lX:Str:=⟨⟨[112,97,114,116,95,112,105,101,99,101,115]⟩⟩
noncomputable def lY:Str:=⟨⟨[116,114,101,101,95,111,114,95,107,110,111,116]⟩⟩
noncomputable def xD:Str:=⟨⟨[77,79,83,84,95,75,73,78,68,83]⟩⟩
noncomputable def xE:Str:=⟨⟨[84,72,73,78,71,83,95,79,70,95,65,95,75,73,78,68]⟩⟩
noncomputable def lZ:Str:=⟨⟨[105,115,95,107,105,110,100]⟩⟩
noncomputable def ma:Str:=⟨⟨[99,97,110,95,108,105,101,95,116,117,114,110,101,100]⟩⟩
noncomputable def ja:Str:=⟨⟨[83,104,111,112]⟩⟩
noncomputable def md:Str:=⟨⟨[95,108,97,119,95,99,101,108,108]⟩⟩
noncomputable def me:Str:=⟨⟨[95,108,97,119,95,112,111,116]⟩⟩
noncomputable def mf:Str:=⟨⟨[95,108,97,119,95,116,97,107,101]⟩⟩
noncomputable def mh:Str:=⟨⟨[95,108,97,119,95,117,110,105,116]⟩⟩
noncomputable def mi:Str:=⟨⟨[95,108,97,119,95,115,105,100,101]⟩⟩
noncomputable def mj:Str:=⟨⟨[95,108,97,119,95,119,111,114,116,104]⟩⟩
noncomputable def ml:Str:=⟨⟨[95,108,97,119,95,115,104,111,112]⟩⟩
noncomputable def mn:Str:=⟨⟨[95,108,97,119,95,115,105,100,101,115]⟩⟩
noncomputable def mo:Str:=⟨⟨[95,108,97,119,95,108,121,105,110,103,115]⟩⟩
noncomputable def mq:Str:=⟨⟨[95,108,97,119,95,98,101,104,105,110,100]⟩⟩
noncomputable def mr:Str:=⟨⟨[95,108,97,119,95,108,101,97,102]⟩⟩
noncomputable def ms:Str:=⟨⟨[95,108,97,119,95,116,114,101,101]⟩⟩
noncomputable def mt:Str:=⟨⟨[95,108,97,119,95,112,108,97,105,110]⟩⟩
noncomputable def mv:Str:=⟨⟨[95,108,97,119,95,105,115,95,108,101,97,102]⟩⟩
noncomputable def mw:Str:=⟨⟨[95,108,97,119,95,119,97,108,107]⟩⟩
noncomputable def mx:Str:=⟨⟨[95,108,97,119,95,112,105,101,99,101,115]⟩⟩
noncomputable def my:Str:=⟨⟨[95,108,97,119,95,104,97,110,100,101,100]⟩⟩
noncomputable def mz:Str:=⟨⟨[95,108,97,119,95,114,105,103,104,116]⟩⟩
noncomputable def oJ:Str:=⟨⟨[108,97,119]⟩⟩
noncomputable def BN:Str:=⟨⟨[99,117,116]⟩⟩
noncomputable def BO:Str:=⟨⟨[119,97,121]⟩⟩
noncomputable def BP:Str:=⟨⟨[112,108,97,99,101]⟩⟩
noncomputable def BQ:Str:=⟨⟨[97,104,101,97,100]⟩⟩
noncomputable def BR:Str:=⟨⟨[98,101,104,105,110,100]⟩⟩
noncomputable def BS:Str:=⟨⟨[102,105,114,115,116]⟩⟩
noncomputable def BU:Str:=⟨⟨[115,116,101,112]⟩⟩
noncomputable def BV:Str:=⟨⟨[115,101,99,111,110,100]⟩⟩
noncomputable def BW:Str:=⟨⟨[119,111,114,116,104]⟩⟩
noncomputable def mB:Str:=⟨⟨[119,97,110,116,101,100]⟩⟩
noncomputable def BX:Str:=⟨⟨[116,117,114,110,115]⟩⟩
noncomputable def mC:Str:=⟨⟨[112,108,97,116,101,99,117,116,115,46,115,104,111,112,115]⟩⟩
noncomputable def oK:Str:=⟨⟨[95,95,105,110,105,116,95,95]⟩⟩
noncomputable def oM:Str:=⟨⟨[107,105,110,100,115]⟩⟩
noncomputable def oN:Str:=⟨⟨[108,121,105,110,103,115]⟩⟩
noncomputable def oO:Str:=⟨⟨[105,115,95,108,121,105,110,103]⟩⟩
noncomputable def oP:Str:=⟨⟨[115,105,100,101,115]⟩⟩
noncomputable def su:Str:=⟨⟨[83,104,111,112,46,95,95,105,110,105,116,95,95]⟩⟩
noncomputable def oQ:Str:=⟨⟨[115,101,108,102]⟩⟩
noncomputable def sC:Str:=⟨⟨[83,104,111,112,46,98,108,97,100,101]⟩⟩
noncomputable def sD:Str:=⟨⟨[83,104,111,112,46,107,105,110,100,115]⟩⟩
noncomputable def sE:Str:=⟨⟨[83,104,111,112,46,119,97,110,116,101,100]⟩⟩
noncomputable def sG:Str:=⟨⟨[83,104,111,112,46,108,121,105,110,103,115]⟩⟩
noncomputable def sH:Str:=⟨⟨[83,104,111,112,46,105,115,95,108,121,105,110,103]⟩⟩
noncomputable def BY:Str:=⟨⟨[114,111,119]⟩⟩
noncomputable def sI:Str:=⟨⟨[83,104,111,112,46,115,105,100,101,115]⟩⟩
noncomputable def BZ:Str:=⟨⟨[98,108,97,100,101,95,119,105,100,116,104]⟩⟩
noncomputable def Ca:Str:=⟨⟨[107,105,110,100,95,114,111,119,115]⟩⟩
noncomputable def xF:Str:=⟨⟨[95,95,100,105,99,116,95,95]⟩⟩
noncomputable def Cb:Str:=⟨⟨[95,108,97,119,95,115,99,114,105,112,116]⟩⟩
noncomputable def qu:Str:=⟨⟨[95,108,97,119,95,107]⟩⟩
noncomputable def Cc:Str:=⟨⟨[95,108,97,119,95,99,101,108,108,95,104,101,114,101]⟩⟩
noncomputable def jb:Str:=⟨⟨[95,108,97,119,95,112,111,116,95,104,101,114,101]⟩⟩
noncomputable def Cd:Str:=⟨⟨[95,108,97,119,95,109,97,110,121]⟩⟩
noncomputable def Ce:Str:=⟨⟨[95,108,97,119,95,100,105,103,105,116]⟩⟩
noncomputable def sJ:Str:=⟨⟨[95,108,97,119,95,115,111,109,101]⟩⟩
noncomputable def xG:Str:=⟨⟨[95,108,97,119,95,117,110,105,116,95,104,101,114,101]⟩⟩
noncomputable def Cf:Str:=⟨⟨[95,108,97,119,95,109,111,115,116]⟩⟩
noncomputable def Cg:Str:=⟨⟨[95,108,97,119,95,98,108,97,100,101]⟩⟩
noncomputable def Ch:Str:=⟨⟨[95,108,97,119,95,107,105,110,100,115]⟩⟩
noncomputable def ib:Str:=⟨⟨[95,108,97,119,95,119,105,100,101]⟩⟩
noncomputable def ic:Str:=⟨⟨[95,108,97,119,95,104,105,103,104]⟩⟩
noncomputable def mD:Str:=⟨⟨[95,108,97,119,95,115,104,111,112,95,104,101,114,101]⟩⟩
noncomputable def sK:Str:=⟨⟨[95,108,97,119,95,107,105,110,100]⟩⟩
noncomputable def xH:Str:=⟨⟨[95,108,97,119,95,116,117,114,110,101,100]⟩⟩
noncomputable def qv:Str:=⟨⟨[95,108,97,119,95,102,111,117,110,100]⟩⟩
noncomputable def sM:Str:=⟨⟨[95,108,97,119,95,119,97,121]⟩⟩
noncomputable def sN:Str:=⟨⟨[95,108,97,119,95,112]⟩⟩
noncomputable def xI:Str:=⟨⟨[95,108,97,119,95,111,119,110]⟩⟩
noncomputable def Ci:Str:=⟨⟨[95,108,97,119,95,100,101,101,112]⟩⟩
noncomputable def Cj:Str:=⟨⟨[95,108,97,119,95,114,111,111,109]⟩⟩
noncomputable def Ck:Str:=⟨⟨[95,108,97,119,95,115,105,100,101,95,104,101,114,101]⟩⟩
noncomputable def xJ:Str:=⟨⟨[95,108,97,119,95,111,110,101]⟩⟩
noncomputable def xK:Str:=⟨⟨[95,108,97,119,95,111,116,104,101,114]⟩⟩
noncomputable def xL:Str:=⟨⟨[95,108,97,119,95,102,105,114,115,116]⟩⟩
noncomputable def Cl:Str:=⟨⟨[95,108,97,119,95,116,104,105,110,103]⟩⟩
noncomputable def Cm:Str:=⟨⟨[95,108,97,119,95,108,101,97,115,116]⟩⟩
noncomputable def xM:Str:=⟨⟨[95,108,97,119,95,116,114,101,101,95,104,101,114,101]⟩⟩
noncomputable def Cn:Str:=⟨⟨[95,108,97,119,95,112,97,114,116]⟩⟩
noncomputable def xN:Str:=⟨⟨[95,108,97,119,95,120]⟩⟩
noncomputable def xO:Str:=⟨⟨[95,108,97,119,95,121]⟩⟩
noncomputable def Co:Str:=⟨⟨[95,108,97,119,95,115,101,99,111,110,100]⟩⟩
noncomputable def Cp:Str:=⟨⟨[95,108,97,119,95,102,97,114]⟩⟩
noncomputable def Cq:Str:=⟨⟨[95,108,97,119,95,115,116,97,114,116]⟩⟩
noncomputable def Cr:Str:=⟨⟨[95,108,97,119,95,108,101,102,116]⟩⟩
noncomputable def Cs:Str:=⟨⟨[95,108,97,119,95,114,105,103,104,116,95,104,101,114,101]⟩⟩
noncomputable def xP:Str:=⟨⟨[95,108,97,119,95,108,101,97,118,101,115]⟩⟩
noncomputable def Ct:Str:=⟨⟨[95,108,97,119,95,108,101,97,102,95,104,101,114,101]⟩⟩
noncomputable def xQ:Str:=⟨⟨[95,108,97,119,95,112,105,101,99,101,115,95,104,101,114,101]⟩⟩
noncomputable def Cu:Str:=⟨⟨[95,108,97,119,95,112,105,101,99,101]⟩⟩
noncomputable abbrev HK:Hook:=kHook Pc.kK [nat_lit 3,nat_lit 20,nat_lit 21,nat_lit 30,nat_lit 31,nat_lit 43,nat_lit 44,nat_lit 55,nat_lit 56,nat_lit 67,nat_lit 68,nat_lit 79,nat_lit 80,nat_lit 91,nat_lit 92,nat_lit 103,nat_lit 104,nat_lit 112,nat_lit 113,nat_lit 119,nat_lit 120,nat_lit 126,nat_lit 127,nat_lit 133,nat_lit 134,nat_lit 135,nat_lit 141,nat_lit 142,nat_lit 148,nat_lit 149,nat_lit 155,nat_lit 156,nat_lit 162,nat_lit 163,nat_lit 167,nat_lit 168,nat_lit 174,nat_lit 175,nat_lit 179,nat_lit 180,nat_lit 186,nat_lit 187,nat_lit 193,nat_lit 194,nat_lit 198,nat_lit 199,nat_lit 205,nat_lit 206,nat_lit 212,nat_lit 213,nat_lit 224,nat_lit 225,nat_lit 231,nat_lit 232,nat_lit 238,nat_lit 239,nat_lit 243,nat_lit 244,nat_lit 250,nat_lit 251,nat_lit 257,nat_lit 258,nat_lit 264,nat_lit 265,nat_lit 267,nat_lit 268,nat_lit 278,nat_lit 279,nat_lit 285,nat_lit 286,nat_lit 292,nat_lit 293,nat_lit 299,nat_lit 300,nat_lit 306,nat_lit 307,nat_lit 313,nat_lit 314,nat_lit 320,nat_lit 321,nat_lit 327,nat_lit 328,nat_lit 334,nat_lit 335,nat_lit 341,nat_lit 342,nat_lit 348,nat_lit 349,nat_lit 355,nat_lit 356,nat_lit 362,nat_lit 363,nat_lit 369,nat_lit 370,nat_lit 376,nat_lit 377,nat_lit 383,nat_lit 384,nat_lit 390,nat_lit 391,nat_lit 397,nat_lit 398,nat_lit 402,nat_lit 403] (fun _=>by kernel_rfl)
noncomputable abbrev pt:Program:=PySem.W.Fast.tw9868351070696811175
theorem pt_eq:PySem.Challenge.pw_platecuts_k32_whole_trees_of_layings=pt:=PySem.W.Fast.te9868351070696811175
noncomputable def tp (i:Nat):Stmt:=pt.main.body.getD i (.Pass ⟨0,0,0,0⟩)
noncomputable abbrev f (o:Params→Obj) (l r:Params→BT):Params→BT:=fun P=>.node (o P) (l P) (r P)
noncomputable abbrev z:Params→BT:=fun _=>.nil
noncomputable abbrev e (P:Params) (n:Str) (t:Nat) (v:Value):DictEntry:=⟨PyData.keyHash P n,.str n t,v⟩
noncomputable abbrev m0:Nat:=nat_lit 11
noncomputable abbrev an:Option Value:=(some (.ref 6))
noncomputable abbrev en:Env:={ scope:=pt.main.scope,locals:=mainNs,globals:=mainNs,cells:=[],code:=(.ref 13),frame:=some 14 }
noncomputable abbrev cE:Code:=.body (behindTheImports pt) en
noncomputable abbrev qP:Pos:=⟨0,0,0,0⟩
noncomputable abbrev B:List Frame:=[topFrame qP]
noncomputable abbrev L0:=SL.s14018661285674007319x4
noncomputable abbrev L1:=SL.s11665532747177232413x24
noncomputable abbrev L2:=SL.s15183661809925369436x15
noncomputable abbrev L3:=SL.s13915890719876406383x10
noncomputable abbrev L4:=SL.s13459172003223722735x3
noncomputable abbrev L5:=SL.s10557405761357834076x3
noncomputable abbrev L6:=SL.s4233737765568776869x3
noncomputable abbrev L7:=SL.s2508922471967985374x5
noncomputable abbrev L8:=SL.s15574269061696679450x3
noncomputable abbrev L9:=SL.s6016482663378992977x10
noncomputable abbrev L10:=SL.s5596568736180474577x8
noncomputable abbrev L11:=SL.s2839554839881490554x3
noncomputable abbrev L12:=SL.s725004073602090463x7
noncomputable abbrev L13:=SL.s9436932552931045734x7
noncomputable abbrev L14:=SL.s2754603736356183583x3
noncomputable abbrev L15:=SL.s15185746759980889043x6
noncomputable abbrev L16:=SL.s8192189862530294059x4
noncomputable abbrev L17:=SL.s7038307821325472102x4
noncomputable abbrev L18:=SL.s5662562618415449548x6
noncomputable abbrev L19:=SL.s15281542589158584767x7
noncomputable abbrev L20:=SL.s17651547275483570877x7
noncomputable abbrev L21:=SL.s4036449017235975746x7
noncomputable abbrev L22:=SL.s8879979712987360175x4
noncomputable abbrev L23:=SL.s1801250619170735830x3
noncomputable abbrev L24:=SL.s17659931425627118568x2
noncomputable abbrev L25:=SL.s6063217899685152688x5
noncomputable abbrev L26:=SL.s8008927332132565319x10
noncomputable abbrev L27:=SL.s3544116645089599534x10
noncomputable abbrev L28:=SL.s13761710972054866084x4
noncomputable abbrev L29:=SL.s12896375587409280029x5
noncomputable abbrev L30:=SL.s13014049009108672802x3
noncomputable abbrev L31:=SL.s13935586738268321596x6
noncomputable abbrev L32:=SL.s8200498257699607233x3
noncomputable abbrev L33:=SL.s14114244577727609259x3
noncomputable abbrev L34:=SL.s1499430450269397089x4
noncomputable abbrev L35:=SL.s8755793994789770505x5
noncomputable abbrev L36:=SL.s15725212667919936108x3
noncomputable abbrev L37:=SL.s15791221867095933363x3
noncomputable abbrev L38:=SL.s81309575031448614x3
noncomputable abbrev L39:=SL.s8069831620301644142x5
noncomputable abbrev L40:=SL.s10061844253413749634x4
noncomputable abbrev L41:=SL.s9496514870978017513x5
noncomputable abbrev L42:=SL.s8899691144933366716x7
noncomputable abbrev L43:=SL.s15201008993051130160x6
noncomputable abbrev L44:=SL.s741896355592496720x3
noncomputable abbrev L45:=SL.s17925004256654032244x4
noncomputable abbrev L46:=SL.s11695548795398191787x4
noncomputable abbrev L47:=SL.s4156966113859768872x10
noncomputable abbrev L48:=SL.s9501651726347032510x9
noncomputable abbrev L49:=SL.s15722918466584999320x5
noncomputable abbrev L50:=SL.s591115383303110208x11
noncomputable abbrev L51:=SL.s15721156781594690315x7
noncomputable abbrev L52:=SL.s14340494229221121180x9
noncomputable abbrev L53:=SL.s13429844117177748173x6
noncomputable abbrev L54:=SL.s16463266125957815391x5
noncomputable abbrev L55:=SL.s4922535414793169389x9
noncomputable abbrev L56:=SL.s8101838861749082086x8
noncomputable abbrev L57:=SL.s7066276694103001551x3
noncomputable abbrev L58:=SL.s9222952809800978799x4
noncomputable abbrev L59:=SL.s462964344163437139x3
noncomputable abbrev L60:=SL.s2742458400755230247x6
noncomputable abbrev L61:=SL.s1438033511350832697x5
noncomputable abbrev L62:=SL.s14365286008749172514x8
noncomputable abbrev L63:=SL.s3642769012341782148x3
noncomputable abbrev L64:=SL.s4674234679698826739x5
noncomputable abbrev L65:=SL.s16656946322747308186x12
noncomputable abbrev L66:=SL.s10796804682411823810x3
noncomputable abbrev L67:=SL.s4290257624100764138x5
noncomputable abbrev L68:=SL.s2766695959194262286x5
noncomputable abbrev L69:=SL.s17162191345867700912x4
noncomputable abbrev L70:=SL.s14339709457334898076x3
noncomputable abbrev L71:=SL.s4278001404047624695x13
noncomputable abbrev L72:=SL.s6585700554429387442x18
noncomputable abbrev L73:=SL.s5946037652744460706x9
noncomputable abbrev L74:=SL.s7410770068591931388x13
noncomputable abbrev L75:=SL.s11817881795495490833x17
noncomputable abbrev L76:=SL.s15679963881808890155x10
noncomputable abbrev L77:=SL.s3871700062485845797x15
noncomputable abbrev L78:=SL.s7689518266570723881x14
noncomputable abbrev L79:=SL.s9001593270443806431x14
noncomputable abbrev L80:=SL.s6882542574934516792x11
noncomputable abbrev L81:=SL.s14403400214490484960x8
noncomputable abbrev L82:=SL.s14457978657717015782x11
noncomputable abbrev L83:=SL.s1753610191782819921x11
noncomputable abbrev L84:=SL.s14119380538032626715x11
noncomputable abbrev L85:=SL.s11437920000406562045x9
noncomputable abbrev L86:=SL.s10852414792293593619x7
noncomputable abbrev L87:=SL.s14816307405966870543x14
noncomputable abbrev L88:=SL.s8682627914449686677x12
noncomputable abbrev L89:=SL.s4428170145600203450x18
noncomputable abbrev L90:=SL.s5991306692159431302x13
noncomputable abbrev L91:=SL.s16067994140765818257x11
noncomputable abbrev L92:=SL.s2327743974964600596x11
noncomputable abbrev L93:=SL.s2804747833354056582x9
noncomputable abbrev L94:=SL.s6070975301684473832x10
noncomputable abbrev L95:=SL.s14270485950484850486x7
noncomputable abbrev L96:=SL.s12041534306414923332x18
noncomputable abbrev L97:=SL.s2531307568338490285x13
noncomputable abbrev L98:=SL.s631175304937289666x17
noncomputable abbrev L99:=SL.s5144983644357021410x12
noncomputable abbrev CG:=SL.s18039099521571816885x18
noncomputable abbrev CI:=SL.s6011586214260557989x15
noncomputable abbrev CJ:=SL.s5430567037509283100x13
noncomputable abbrev CK:=SL.s8117915138073963741x13
noncomputable abbrev CL:=SL.s3423317712779056401x25
noncomputable abbrev CM:=SL.s2007317383269046180x15
noncomputable abbrev CN:=SL.s17481586968713580700x14
noncomputable abbrev CO:=SL.s2450899226349176912x13
noncomputable abbrev CP:=SL.s16626165730633575011x14
noncomputable abbrev CQ:=SL.s14288496050688921416x11
noncomputable abbrev CS:=SL.s5735081916595925998x15
noncomputable abbrev CT:=SL.s3865607918536308442x17
noncomputable abbrev CU:=SL.s13337502604062700212x15
noncomputable abbrev CV:=SL.s13114017843053701147x15
noncomputable abbrev CW:=SL.s17467278006356818441x17
noncomputable abbrev CY:=SL.s17722149559621369488x16
noncomputable abbrev CZ:=SL.s7855274175708717672x17
noncomputable abbrev Da:=SL.s13351283678309829046x18
noncomputable abbrev Db:=SL.s6668348653404991179x15
noncomputable abbrev Dc:=SL.s12913350958174193794x18
noncomputable abbrev Dd:=SL.s16115879512475548326x12
noncomputable abbrev De:=SL.s15920661018069861047x16
noncomputable abbrev Df:=SL.s10779130036587390575x21
noncomputable abbrev Dg:=SL.s7801419657504700863x10
noncomputable abbrev Dh:=SL.s1688129525768580628x8
noncomputable abbrev Di:=SL.s1031832959479892071x19
noncomputable abbrev Dj:=SL.s8991790508128307865x19
noncomputable abbrev Dk:=SL.s14539662485746970245x23
noncomputable abbrev Dl:=SL.s11643622729373238714x14
noncomputable abbrev Dm:=SL.s3386828779285465597x17
noncomputable abbrev Do:=SL.s13042696260734638735x12
noncomputable abbrev Dp:=SL.s18239426817015966623x15
noncomputable abbrev Dq:=SL.s1270395311379034370x22
noncomputable abbrev Dr:=SL.s10696252587037064777x22
noncomputable abbrev Ds:=SL.s7852717498200857586x20
noncomputable abbrev Du:=SL.s6377248116197321094x8
noncomputable abbrev Dv:=SL.s3834378056692298002x18
noncomputable abbrev Dw:=SL.s17586630440231065808x18
noncomputable abbrev Dx:=SL.s15234114252648025395x21
noncomputable abbrev Dy:=SL.s8496462677383758984x14
noncomputable abbrev Dz:=SL.s16789243406116112673x4
noncomputable abbrev DA:=SL.s14400166428656793546x20
noncomputable abbrev DB:=SL.s5857708277339239366x20
noncomputable abbrev DE:=SL.s7804999707787243718x20
noncomputable abbrev xR:=SL.s7097527257260152453x26
noncomputable abbrev DF:=SL.s6658869562736209489x6
noncomputable abbrev sO:=SL.s5856160107412720595x4
noncomputable abbrev Cv:=SL.s658472552662922059x5
noncomputable abbrev sZ (w:World) (os:OsState):Shared:=⟨boot_heap w.params,Array.mk [],boot_drawn,boot_toks,os⟩
noncomputable def o11 (P:Params):Obj:=⟨(.type L68),none,(.seq #[] 0),#[]⟩
noncomputable def o12 (P:Params):Obj:=⟨.none,none,(.fields #[]),#[]⟩
noncomputable def g0 (x0:Str)(x1 x2 x3:Nat)(P:Params):Obj:=⟨(.type sO),none,(.fields #[.str x0 x1,.str x0 (x1+1),.str iZ (x1+2),.int x2 0,.int 0 0,.int 0 0,.int 0 0,.int 0 0,.ref x3,.bool false,.int 181 0,.ref (x3+1),.none,.none,.none,.none,.int (x1+3) 0,.int x2 0,.str iZ (x1+4)]),#[]⟩
noncomputable def o13:=g0 By 182 1 11
noncomputable def g1 (x0 x1:Nat)(x2:Str)(x3:Nat)(P:Params):Obj:=⟨(.type Cv),none,.plain,#[some (.ref x0),some (.ref 3),some (.ref x1),none,some (.str x2 x3),none,some (.ref 0)]⟩
noncomputable def o14:=g1 13 3 xo 164
noncomputable def hA (P:Params):Heap:=⟨⟨[boot_o_0 P,boot_o_1 P,boot_o_2 P,boot_o_3 P,boot_o_4 P,boot_o_5 P,boot_o_6 P,boot_o_7 P,boot_o_8 P,boot_o_9 P,boot_o_10 P,o11 P,o12 P,o13 P,o14 P]⟩,{ }⟩
noncomputable abbrev sA (w:World) (os:OsState):Shared:=⟨hA w.params,(Array.mk []),⟨0,0,0,0⟩,187,os⟩
noncomputable abbrev pA:Pos:=⟨0,0,0,0⟩
theorem pre (w:World):(fun os=>topGo treeTable pt w m0 an 12 (sZ w os) (topStub pt))=fun os=>some (sA w os,(⟨denote treeTable cE,cE,pA,B⟩:Thread)):=by
 rw [PySem.W.Fast.te15667345088766844465,PySem.W.Fast.te14364793385576792824,PySem.W.Fast.te11892475500146522536]; kernel_rfl
noncomputable def tB:Params→BT:=(f boot_o_0 (f boot_o_1 (f boot_o_3 (f boot_o_7 z z) (f o11 z z)) (f boot_o_5 (f boot_o_9 z z) (f o13 z z))) (f boot_o_2 (f boot_o_4 (f boot_o_8 z z) (f o12 z z)) (f boot_o_6 (f boot_o_10 z z) (f o14 z z))))
noncomputable abbrev sB (w:World) (os:OsState):SharedT:=⟨tB w.params,15,{ },(Array.mk []),⟨0,0,0,0⟩,187,os⟩
noncomputable abbrev pB:Pos:=⟨0,0,0,0⟩
theorem blk (w:World):(fun os=>segRun treeTable pt w m0 an 1 1 (sA w os) ⟨(blockStart (behindTheImports pt) en).wrap (fun _=>doneF .next) deadEnd id id,cE,pA,B⟩)=fun os=>some (.next,(sB w os).abs,cE,pB):=by
 rw [PySem.W.Fast.te14374325043358763698,PySem.W.Fast.te14364793385576792824,PySem.W.Fast.te1066825118222455980]; kernel_rfl
noncomputable def Cw (P:Params):Obj:=⟨(.type L0),none,(.dict #[e P S0 165 (.str lO 410),e P S2 166 .none,e P S3 167 .none,e P S4 168 (.builtin xR),e P S5 169 .none,e P xq 170 (.ref 6),e P xt 171 (.ref 4),e P xu 173 (.str iZ 172),e P xw 174 .none,e P jN 193 (.ref 21),e P ia 213 (.ref 31),e P lP 229 (.ref 44),e P lQ 245 (.ref 56),e P lR 261 (.ref 68),e P lS 277 (.ref 80),e P lT 293 (.ref 92),e P lU 309 (.ref 104),e P jO 319 (.ref 113),e P jP 326 (.ref 120),e P jQ 333 (.ref 127),e P jR 341 (.ref 134),e P rV 345 (.str rW 344),e P rX 347 (.str rY 346),e P rZ 348 (.ref 135),e P jS 363 (.ref 142),e P sf 367 (.int 4 366),e P jT 377 (.ref 149),e P jU 391 (.ref 156),e P jV 399 (.ref 163),e P jW 405 (.ref 168),e P sg 407 (.str xy 406),e P si 409 (.str sj 408),e P sk 413 (.str xz 412),e P sn 415 (.str xA 414),e P jX 427 (.ref 175),e P jY 433 (.ref 180),e P jZ 446 (.ref 187)] 37),#[]⟩
noncomputable def xS (P:Params):Obj:=⟨.none,none,(.fields #[.int 1 0,.int 0 0,.ref 20,.int 5 0,.int 0 0,.ref 27,.int 7 0,.int 0 0,.ref 40,.int 9 0,.int 0 0,.ref 52,.int 11 0,.int 0 0,.ref 64,.int 13 0,.int 0 0,.ref 76,.int 15 0,.int 0 0,.ref 88,.int 17 0,.int 0 0,.ref 100,.int 20 0,.int 0 0,.ref 112,.int 22 0,.int 0 0,.ref 119,.int 24 0,.int 0 0,.ref 126,.int 26 0,.int 0 0,.ref 133,.int 33 0,.int 0 0,.ref 141,.int 40 0,.int 0 0,.ref 148,.int 44 0,.int 0 0,.ref 155,.int 48 0,.int 0 0,.ref 162,.int 50 0,.int 0 0,.ref 167,.int 65 0,.int 0 0,.ref 174,.int 73 0,.int 0 0,.ref 179,.int 82 0,.int 0 0,.ref 186]),#[]⟩
noncomputable def g2 (x0:Str)(x1:Nat)(P:Params):Obj:=⟨(.type L68),none,(.seq #[.str x0 x1] 0),#[]⟩
noncomputable def o17:=g2 Bz 190
noncomputable def g3 (x0:Str)(x1:Nat)(P:Params):Obj:=⟨.none,none,(.func ⟨x0,x0,L2.defArgs (tp x1),(.stmts (L2.defBody (tp x1))),L2.defScope (tp x1),0,[],.none,.none,.none,.none,none,.none,.none,0⟩),#[]⟩
noncomputable def o19:=g3 jN 0
noncomputable def g4 (x0:Str)(x1:Nat)(x2:Str)(x3 x4 x5 x6:Nat)(P:Params):Obj:=⟨(.type sO),none,(.fields #[.str x0 x1,.str x2 (x1+1),.str iZ (x1+2),.int x3 0,.int x4 0,.int 0 0,.int 0 0,.int 3 0,.ref x5,.bool true,.int 181 0,.ref (x5+1),.none,.ref (x5+2),.ref (x5+3),.ref (x5+4),.int x6 0,.int x3 0,.str iZ (x6+1)]),#[]⟩
noncomputable def o20:=g4 jN 187 jN 1 1 15 191
noncomputable abbrev xT:=SL.s7174869446012820540x8
noncomputable def g5 (x0:Str)(x1:Nat)(x2:Str)(x3 x4:Nat)(P:Params):Obj:=⟨(.type xT),none,(.func ⟨x0,x0,L2.defArgs (tp x1),(.stmts (L2.defBody (tp x1))),L2.defScope (tp x1),3,[],.none,.none,.none,.str x2 x3,none,.ref x4,.none,0⟩),#[]⟩
noncomputable def o21:=g5 jN 0 xo 164 20
noncomputable def o22 (P:Params):Obj:=⟨(.type L68),none,(.seq #[.type L94] 0),#[]⟩
noncomputable abbrev xU:=SL.s11030030927630378310x26
noncomputable abbrev Cy:=SL.s10062305145149207511x16
noncomputable def o23 (P:Params):Obj:=⟨(.type xU),none,(.fields #[.builtin Cy,.type L69]),#[]⟩
noncomputable def g6 (x0:Nat)(x1:Str)(x2 x3:Nat)(P:Params):Obj:=⟨(.type L0),none,(.dict #[e P oB x0 (.str fW 194),e P xB (x0+2) (.str x1 (x0+1)),e P oC (x0+4) (.int x2 (x0+3)),e P oE (x0+5) (.ref x3)] 4),#[]⟩
noncomputable def o24:=g6 203 ia 5 29
noncomputable def o27:=g0 ia 198 5 25
noncomputable def o28:=g1 27 24 fW 194
noncomputable def o30 (P:Params):Obj:=⟨(.type L0),none,(.dict #[e P oB 203 (.str fW 194),e P oC 207 (.int 5 206),e P oE 208 (.ref 29),e P sr 210 (.ref 32),e P S2 211 .none] 3),#[]⟩
noncomputable abbrev xV:=SL.s4209523147560561109x18
noncomputable def o31 (P:Params):Obj:=⟨(.type L69),none,(.cls ⟨ia,[.type L94],[.ref 31,.type L94,.type L73,.type L71,.type L60],30,ia,true,[],[.ref 44,.ref 56,.ref 68,.ref 80,.ref 92,.ref 104],false,none,false⟩),#[some (.ref 22),none,some (.str ia 196),some (.str ia 204),some (.builtin xV),some (.bool true)]⟩
noncomputable abbrev xW:=SL.s14755015743595814543x17
noncomputable abbrev Cz:=SL.s10220274742760427390x26
noncomputable def g7 (x0 x1:Nat)(P:Params):Obj:=⟨(.type xW),none,(.fields #[.str sr x0,.ref x1,.builtin Cz,.none]),#[]⟩
noncomputable def o32:=g7 209 31
noncomputable def g8 (x0:Nat)(P:Params):Obj:=⟨(.type L67),none,(.fields #[.ref x0,.ref x0,.ref x0]),#[]⟩
noncomputable def o33:=g8 31
noncomputable abbrev CA:=SL.s4860613602091757760x24
noncomputable def g9 (x0:Nat)(P:Params):Obj:=⟨(.type xU),none,(.fields #[.builtin CA,.ref x0]),#[]⟩
noncomputable def o34:=g9 31
noncomputable def o35 (P:Params):Obj:=⟨(.type L68),none,(.seq #[.ref 31] 0),#[]⟩
noncomputable def o37:=g6 221 lP 7 42
noncomputable def o40:=g0 lP 216 7 38
noncomputable def o41:=g1 40 37 fW 194
noncomputable def g10 (x0 x1 x2:Nat)(P:Params):Obj:=⟨(.type L0),none,(.dict #[e P oB x0 (.str fW 194),e P oC (x0+4) (.int x1 (x0+3)),e P oE (x0+5) (.ref x2),e P S2 (x0+6) .none] 2),#[]⟩
noncomputable def o43:=g10 221 7 42
noncomputable def g11 (x0:Str)(x1 x2 x3 x4:Nat)(P:Params):Obj:=⟨(.type L69),none,(.cls ⟨x0,[.ref 31],[.ref x1,.ref 31,.type L94,.type L73,.type L71,.type L60],x2,x0,true,[],[],false,none,false⟩),#[some (.ref x3),none,some (.str x0 x4),some (.str x0 (x4+8)),some (.builtin xV),some (.bool true)]⟩
noncomputable def o44:=g11 lP 44 43 35 214
noncomputable def o45:=g8 44
noncomputable def o46:=g9 44
noncomputable def o49:=g6 237 lQ 9 54
noncomputable def o52:=g0 lQ 232 9 50
noncomputable def o53:=g1 52 49 fW 194
noncomputable def o55:=g10 237 9 54
noncomputable def o56:=g11 lQ 56 55 47 230
noncomputable def o57:=g8 56
noncomputable def o58:=g9 56
noncomputable def o61:=g6 253 lR 11 66
noncomputable def o64:=g0 lR 248 11 62
noncomputable def o65:=g1 64 61 fW 194
noncomputable def o67:=g10 253 11 66
noncomputable def o68:=g11 lR 68 67 59 246
noncomputable def o69:=g8 68
noncomputable def o70:=g9 68
noncomputable def o73:=g6 269 lS 13 78
noncomputable def o76:=g0 lS 264 13 74
noncomputable def o77:=g1 76 73 fW 194
noncomputable def o79:=g10 269 13 78
noncomputable def o80:=g11 lS 80 79 71 262
noncomputable def o81:=g8 80
noncomputable def o82:=g9 80
noncomputable def o85:=g6 285 lT 15 90
noncomputable def o88:=g0 lT 280 15 86
noncomputable def o89:=g1 88 85 fW 194
noncomputable def o91:=g10 285 15 90
noncomputable def o92:=g11 lT 92 91 83 278
noncomputable def o93:=g8 92
noncomputable def o94:=g9 92
noncomputable def o97:=g6 301 lU 17 102
noncomputable def sP:=g0 lU 296 17 98
noncomputable def sQ:=g1 100 97 fW 194
noncomputable def sR:=g10 301 17 102
noncomputable def sS:=g11 lU 104 103 95 294
noncomputable def sT:=g8 104
noncomputable def sU:=g9 104
noncomputable def g12 (x0:Str)(x1:Nat)(x2:Str)(x3:Nat)(P:Params):Obj:=⟨(.type L68),none,(.seq #[.str x0 x1,.str x2 x3] 0),#[]⟩
noncomputable def sV:=g12 oF 315 BA 316
noncomputable def sW:=g3 jO 10
noncomputable def sX:=g4 jO 312 jO 20 2 107 317
noncomputable def sY:=g5 jO 10 qo 310 112
noncomputable def td:=g2 oF 323
noncomputable def tf:=g3 jP 11
noncomputable def tj:=g4 jP 320 jP 22 1 114 324
noncomputable def tm:=g5 jP 11 qo 310 119
noncomputable def tq:=g2 oF 330
noncomputable def tw:=g3 jQ 12
noncomputable def tD:=g4 jQ 327 jQ 24 1 121 331
noncomputable def tE:=g5 jQ 12 qo 310 126
noncomputable def tF:=g12 oG 337 oH 338
noncomputable def tG:=g3 jR 13
noncomputable def tH:=g4 jR 334 jR 26 2 128 339
noncomputable def tI:=g5 jR 13 qo 310 133
noncomputable def tJ:=g12 rW 344 rY 346
noncomputable def tK (P:Params):Obj:=⟨(.type L68),none,(.seq #[.str qp 352,.str oG 353,.str oH 354,.str lV 355,.str oI 356,.str qq 357,.str qr 358,.str BB 359,.str BC 360] 0),#[]⟩
noncomputable def tL:=g3 jS 18
noncomputable def tM:=g4 jS 349 jS 33 7 136 361
noncomputable def tN:=g5 jS 18 BD 342 141
noncomputable def g13 (x0:Str)(x1:Nat)(x2 x3 x4:Str)(P:Params):Obj:=⟨(.type L68),none,(.seq #[.str x0 x1,.str x2 (x1+1),.str x3 (x1+2),.str x4 (x1+3)] 0),#[]⟩
noncomputable def tO:=g13 qp 371 oG oH oF
noncomputable def tP:=g3 jT 21
noncomputable def tQ:=g4 jT 368 jT 40 4 143 375
noncomputable def tR:=g5 jT 21 qt 364 148
noncomputable def g14 (x0:Str)(x1:Nat)(x2 x3 x4 x5 x6 x7 x8:Str)(P:Params):Obj:=⟨(.type L68),none,(.seq #[.str x0 x1,.str x2 (x1+1),.str x3 (x1+2),.str x4 (x1+3),.str x5 (x1+4),.str x6 (x1+5),.str x7 (x1+6),.str x8 (x1+7)] 0),#[]⟩
noncomputable def tS:=g14 qp 381 sj lV oI qq qr oG oH
noncomputable def tT:=g3 jU 22
noncomputable def tU:=g4 jU 378 jU 44 2 150 389
noncomputable def tV:=g5 jU 22 qt 364 155
noncomputable def tW:=g12 BE 395 BF 396
noncomputable def tX:=g3 jV 23
noncomputable def tY:=g4 jV 392 jV 48 2 157 397
noncomputable def tZ:=g5 jV 23 qt 364 162
noncomputable def ua:=g3 jW 24
noncomputable def g15 (x0:Str)(x1:Nat)(x2:Str)(x3 x4 x5:Nat)(P:Params):Obj:=⟨(.type sO),none,(.fields #[.str x0 x1,.str x2 (x1+1),.str iZ (x1+2),.int x3 0,.int x4 0,.int 0 0,.int 0 0,.int 3 0,.ref x5,.bool true,.int 181 0,.ref (x5+1),.none,.none,.none,.ref (x5+2),.int (x1+3) 0,.int x3 0,.str iZ (x1+4)]),#[]⟩
noncomputable def ub:=g15 jW 400 jW 50 4 164
noncomputable def uc:=g5 jW 24 qt 364 167
noncomputable def g16 (x0:Str)(x1:Nat)(x2 x3 x4 x5 x6:Str)(P:Params):Obj:=⟨(.type L68),none,(.seq #[.str x0 x1,.str x2 (x1+1),.str x3 (x1+2),.str x4 (x1+3),.str x5 (x1+4),.str x6 (x1+5)] 0),#[]⟩
noncomputable def ud:=g16 lW 419 BG BH BI BJ BK
noncomputable def ue:=g3 jX 30
noncomputable def uf:=g4 jX 416 jX 65 2 169 425
noncomputable def ug:=g5 jX 30 lO 410 174
noncomputable def uh:=g3 jY 31
noncomputable def ui:=g15 jY 428 jY 73 2 176
noncomputable def uj:=g5 jY 31 lO 410 179
noncomputable def g17 (x0:Str)(x1:Nat)(x2 x3 x4 x5 x6 x7:Str)(P:Params):Obj:=⟨(.type L68),none,(.seq #[.str x0 x1,.str x2 (x1+1),.str x3 (x1+2),.str x4 (x1+3),.str x5 (x1+4),.str x6 (x1+5),.str x7 (x1+6)] 0),#[]⟩
noncomputable def uk:=g17 qq 437 qr xC lV oI BL BM
noncomputable def um:=g3 jZ 32
noncomputable def uo:=g4 jZ 434 jZ 82 3 181 444
noncomputable def up:=g5 jZ 32 lO 410 186
noncomputable def t0:Params→BT:=(f boot_o_0 (f boot_o_1 (f Cw (f boot_o_7 (f o11 (f o31 (f o12 (f tE z z) z) (f o35 (f tW z z) z)) (f o35 (f o79 (f o11 z z) z) (f sW (f ug z z) z))) (f o23 (f o12 (f o35 (f tJ z z) z) (f sR (f ub z z) z)) (f o55 (f o12 (f o12 z z) z) (f tj (f uk z z) z)))) (f o11 (f o19 (f o35 (f o67 (f o11 z z) z) (f o12 (f tZ z z) z)) (f o12 (f o35 (f tP z z) z) (f o12 (f ui z z) z))) (f o27 (f o43 (f o12 (f o11 z z) z) (f o11 (f ud z z) z)) (f o35 (f o91 (f tU z z) z) (f tq (f up z z) z))))) (f boot_o_5 (f boot_o_9 (f o17 (f o33 (f o65 (f o12 z z) z) (f o97 (f tX z z) z)) (f o49 (f o81 (f tO z z) z) (f sY (f o12 z z) z))) (f o11 (f o41 (f o73 (f o12 z z) z) (f sT (f o11 z z) z)) (f o57 (f o89 (f o11 z z) z) (f o11 (f um z z) z)))) (f o13 (f o21 (f o37 (f o69 (f tH z z) z) (f sQ (f o12 z z) z)) (f o53 (f o85 (f tR z z) z) (f o11 (f o11 z z) z))) (f o11 (f o45 (f o77 (f tM z z) z) (f sV (f ue z z) z)) (f o61 (f o93 (f o11 z z) z) (f tw z z)))))) (f boot_o_2 (f boot_o_4 (f boot_o_8 (f o12 (f o32 (f o64 (f o11 z z) z) (f o23 (f o11 z z) z)) (f o23 (f o80 (f o12 z z) z) (f sX (f o11 z z) z))) (f o24 (f o40 (f o23 (f o11 z z) z) (f sS (f uc z z) z)) (f o56 (f o88 (f tS z z) z) (f tm (f o11 z z) z)))) (f xS (f o20 (f o23 (f o68 (f tG z z) z) (f sP (f o11 z z) z)) (f o52 (f o23 (f tQ z z) z) (f td (f uj z z) z))) (f o28 (f o44 (f o76 (f tL z z) z) (f o12 (f o11 z z) z)) (f o23 (f o92 (f tV z z) z) (f o11 z z))))) (f boot_o_6 (f boot_o_10 (f o11 (f o34 (f o11 (f tF z z) z) (f o11 (f tY z z) z)) (f o11 (f o82 (f o11 z z) z) (f o11 (f uh z z) z))) (f o12 (f o11 (f o11 (f tK z z) z) (f sU (f o12 z z) z)) (f o58 (f o11 (f tT z z) z) (f o12 (f uo z z) z)))) (f o14 (f o22 (f o11 (f o70 (f tI z z) z) (f o11 (f ua z z) z)) (f o11 (f o11 (f o11 z z) z) (f tf (f o12 z z) z))) (f o30 (f o46 (f o11 (f tN z z) z) (f o11 (f uf z z) z)) (f o11 (f o94 (f o12 z z) z) (f tD z z)))))))
noncomputable abbrev s0 (w:World) (os:OsState):SharedT:=⟨t0 w.params,188,{ },(Array.mk []),⟨0,0,0,0⟩,447,os⟩
noncomputable abbrev p0:Pos:=⟨82,0,86,58⟩
noncomputable abbrev st0:List Stmt:=(pt.main.body.drop 0).take 33
theorem q0 (w:World):(fun os=>segRunT treeTable pt w m0 an 1 1990 (sB w os) ⟨(execs st0 en).wrap doneF deadEnd id id,cE,pB,B⟩)=fun os=>some (.next,s0 w os,cE,p0):=by
 rw [PySem.W.Fast.te10110043849684766642,PySem.W.Fast.te14364793385576792824,PySem.W.Fast.te12563942051412417395]; kernel_rfl
noncomputable def xX (P:Params):Obj:=⟨(.type L0),none,(.dict #[e P S0 165 (.str cD 570),e P S2 166 .none,e P S3 167 .none,e P S4 168 (.builtin xR),e P S5 169 .none,e P xq 170 (.ref 6),e P xt 171 (.ref 4),e P xu 173 (.str iZ 172),e P xw 174 .none,e P jN 193 (.ref 21),e P ia 213 (.ref 31),e P lP 229 (.ref 44),e P lQ 245 (.ref 56),e P lR 261 (.ref 68),e P lS 277 (.ref 80),e P lT 293 (.ref 92),e P lU 309 (.ref 104),e P jO 319 (.ref 113),e P jP 326 (.ref 120),e P jQ 333 (.ref 127),e P jR 341 (.ref 134),e P rV 345 (.str rW 344),e P rX 347 (.str rY 346),e P rZ 348 (.ref 135),e P jS 363 (.ref 142),e P sf 367 (.int 4 366),e P jT 377 (.ref 149),e P jU 391 (.ref 156),e P jV 399 (.ref 163),e P jW 405 (.ref 168),e P sg 407 (.str xy 406),e P si 409 (.str sj 408),e P sk 413 (.str xz 412),e P sn 415 (.str xA 414),e P jX 427 (.ref 175),e P jY 433 (.ref 180),e P jZ 446 (.ref 187),e P lX 464 (.ref 194),e P lY 470 (.ref 199),e P xD 474 (.int 8 473),e P xE 476 (.int 5 475),e P lZ 488 (.ref 206),e P ma 495 (.ref 213),e P ja 569 (.ref 268),e P md 579 (.ref 279),e P me 587 (.ref 286),e P mf 596 (.ref 293),e P mh 604 (.ref 300),e P mi 613 (.ref 307),e P mj 621 (.ref 314),e P ml 634 (.ref 321),e P mn 645 (.ref 328),e P mo 655 (.ref 335),e P mq 666 (.ref 342),e P mr 680 (.ref 349),e P ms 698 (.ref 356),e P mt 706 (.ref 363),e P mv 717 (.ref 370),e P mw 740 (.ref 377),e P mx 753 (.ref 384),e P my 763 (.ref 391),e P mz 775 (.ref 398),e P oJ 781 (.ref 403)] 63),#[]⟩
noncomputable def qQ (P:Params):Obj:=⟨.none,none,(.fields #[.int 1 0,.int 0 0,.ref 20,.int 5 0,.int 0 0,.ref 27,.int 7 0,.int 0 0,.ref 40,.int 9 0,.int 0 0,.ref 52,.int 11 0,.int 0 0,.ref 64,.int 13 0,.int 0 0,.ref 76,.int 15 0,.int 0 0,.ref 88,.int 17 0,.int 0 0,.ref 100,.int 20 0,.int 0 0,.ref 112,.int 22 0,.int 0 0,.ref 119,.int 24 0,.int 0 0,.ref 126,.int 26 0,.int 0 0,.ref 133,.int 33 0,.int 0 0,.ref 141,.int 40 0,.int 0 0,.ref 148,.int 44 0,.int 0 0,.ref 155,.int 48 0,.int 0 0,.ref 162,.int 50 0,.int 0 0,.ref 167,.int 65 0,.int 0 0,.ref 174,.int 73 0,.int 0 0,.ref 179,.int 82 0,.int 0 0,.ref 186,.int 87 0,.int 0 0,.ref 193,.int 102 0,.int 0 0,.ref 198,.int 109 0,.int 0 0,.ref 205,.int 116 0,.int 0 0,.ref 212,.int 118 0,.int 0 0,.ref 219,.int 156 0,.int 0 0,.ref 278,.int 160 0,.int 0 0,.ref 285,.int 162 0,.int 0 0,.ref 292,.int 169 0,.int 0 0,.ref 299,.int 172 0,.int 0 0,.ref 306,.int 176 0,.int 0 0,.ref 313,.int 179 0,.int 0 0,.ref 320,.int 187 0,.int 0 0,.ref 327,.int 190 0,.int 0 0,.ref 334,.int 197 0,.int 0 0,.ref 341,.int 201 0,.int 0 0,.ref 348,.int 212 0,.int 0 0,.ref 355,.int 223 0,.int 0 0,.ref 362,.int 225 0,.int 0 0,.ref 369,.int 232 0,.int 0 0,.ref 376,.int 253 0,.int 0 0,.ref 383,.int 259 0,.int 0 0,.ref 390,.int 264 0,.int 0 0,.ref 397,.int 269 0,.int 0 0,.ref 402]),#[]⟩
noncomputable def g18 (x0:Str)(x1:Nat)(x2 x3 x4 x5 x6 x7 x8 x9 x10 x11 x12:Str)(P:Params):Obj:=⟨(.type L68),none,(.seq #[.str x0 x1,.str x2 (x1+1),.str x3 (x1+2),.str x4 (x1+3),.str x5 (x1+4),.str x6 (x1+5),.str x7 (x1+6),.str x8 (x1+7),.str x9 (x1+8),.str x10 (x1+9),.str x11 (x1+10),.str x12 (x1+11)] 0),#[]⟩
noncomputable def xY:=g18 qp 450 qq qr xC BN BO BP BQ BR BS BU BV
noncomputable def xZ:=g3 lX 33
noncomputable def ya:=g4 lX 447 lX 87 4 188 462
noncomputable def yb:=g5 lX 33 lO 410 193
noncomputable def yc:=g3 lY 34
noncomputable def yd:=g15 lY 465 lY 102 4 195
noncomputable def ye:=g5 lY 34 lO 410 198
noncomputable def yf:=g16 oF 480 oG oH BW mB BX
noncomputable def yg:=g3 lZ 38
noncomputable def yh:=g4 lZ 477 lZ 109 1 200 486
noncomputable def yi:=g5 lZ 38 mC 471 205
noncomputable def yj:=g2 lV 492
noncomputable def yk:=g3 ma 39
noncomputable def ym:=g4 ma 489 ma 116 1 207 493
noncomputable def yn:=g5 ma 39 mC 471 212
noncomputable def yo (P:Params):Obj:=⟨(.type L0),none,(.dict #[e P oB 503 (.str mC 471),e P xB 505 (.str ja 504),e P oC 507 (.int 118 506),e P oK 513 (.ref 225),e P lW 520 (.ref 232),e P oM 527 (.ref 239),e P mB 533 (.ref 244),e P oN 540 (.ref 251),e P oO 549 (.ref 258),e P oP 559 (.ref 265),e P oE 562 (.ref 266)] 11),#[]⟩
noncomputable def yp (P:Params):Obj:=⟨.none,none,(.fields #[.int 120 0,.int 4 0,.ref 224,.int 131 0,.int 4 0,.ref 231,.int 134 0,.int 4 0,.ref 238,.int 137 0,.int 4 0,.ref 243,.int 140 0,.int 4 0,.ref 250,.int 143 0,.int 4 0,.ref 257,.int 148 0,.int 4 0,.ref 264]),#[]⟩
noncomputable def yq:=g0 ja 498 118 217
noncomputable def yr:=g1 219 216 mC 471
noncomputable def g19 (x0 x1:Str)(x2:Nat)(P:Params):Obj:=⟨.none,none,(.func ⟨x0,x1,L2.defArgs (L2.inClass (tp 40) x2),(.stmts (L2.defBody (L2.inClass (tp 40) x2))),L2.defScope (L2.inClass (tp 40) x2),0,[],.none,.none,.none,.none,none,.none,.none,0⟩),#[]⟩
noncomputable def yt:=g19 oK su 0
noncomputable def yu:=g15 oK 508 su 120 3 221
noncomputable def g20 (x0 x1:Str)(x2 x3:Nat)(P:Params):Obj:=⟨(.type xT),none,(.func ⟨x0,x1,L2.defArgs (L2.inClass (tp 40) x2),(.stmts (L2.defBody (L2.inClass (tp 40) x2))),L2.defScope (L2.inClass (tp 40) x2),3,[],.none,.none,.none,.str mC 471,none,.ref x3,.none,0⟩),#[]⟩
noncomputable def yw:=g20 oK su 0 224
noncomputable def yx:=g2 oQ 517
noncomputable def yz:=g19 lW sC 1
noncomputable def yA:=g4 lW 514 sC 131 1 226 518
noncomputable def yB:=g20 lW sC 1 231
noncomputable def yC:=g2 oQ 524
noncomputable def yD:=g19 oM sD 2
noncomputable def yE:=g4 oM 521 sD 134 1 233 525
noncomputable def yF:=g20 oM sD 2 238
noncomputable def yG:=g19 mB sE 3
noncomputable def yH:=g15 mB 528 sE 137 1 240
noncomputable def yI:=g20 mB sE 3 243
noncomputable def yJ:=g2 oQ 537
noncomputable def yK:=g19 oN sG 4
noncomputable def yL:=g4 oN 534 sG 140 1 245 538
noncomputable def yM:=g20 oN sG 4 250
noncomputable def g21 (x0:Str)(x1:Nat)(x2 x3:Str)(P:Params):Obj:=⟨(.type L68),none,(.seq #[.str x0 x1,.str x2 (x1+1),.str x3 (x1+2)] 0),#[]⟩
noncomputable def yN:=g21 oQ 544 lV oI
noncomputable def yO:=g19 oO sH 5
noncomputable def yP:=g4 oO 541 sH 143 3 252 547
noncomputable def yQ:=g20 oO sH 5 257
noncomputable def yR:=g13 oQ 553 lV oI BY
noncomputable def yS:=g19 oP sI 6
noncomputable def yT:=g4 oP 550 sI 148 3 259 557
noncomputable def yU:=g20 oP sI 6 264
noncomputable def yV:=g12 BZ 560 Ca 561
noncomputable def yW (P:Params):Obj:=⟨(.type L0),none,(.dict #[e P oB 503 (.str mC 471),e P oC 507 (.int 118 506),e P oK 513 (.ref 225),e P lW 520 (.ref 232),e P oM 527 (.ref 239),e P mB 533 (.ref 244),e P oN 540 (.ref 251),e P oO 549 (.ref 258),e P oP 559 (.ref 265),e P oE 562 (.ref 266),e P xF 564 (.ref 269),e P sr 566 (.ref 270),e P S2 567 .none] 4),#[]⟩
noncomputable abbrev CB:=SL.s11443829558043349243x14
noncomputable def yX (P:Params):Obj:=⟨(.type L69),none,(.cls ⟨ja,[.type L60],[.ref 268,.type L60],267,ja,true,[],[],false,none,false⟩),#[none,none,some (.str ja 496),some (.str ja 504),some (.builtin CB),some (.bool true)]⟩
noncomputable abbrev CC:=SL.s6511155373996960695x17
noncomputable abbrev CD:=SL.s12411053484034534018x21
noncomputable def yY (P:Params):Obj:=⟨(.type xW),none,(.fields #[.str xF 563,.ref 268,.builtin CC,.builtin CD]),#[]⟩
noncomputable def yZ:=g7 565 268
noncomputable def za:=g8 268
noncomputable def zb:=g9 268
noncomputable def zc:=g12 Cb 575 qu 576
noncomputable def zd:=g3 md 42
noncomputable def ze:=g4 md 572 md 156 2 273 577
noncomputable def zf:=g5 md 42 cD 570 278
noncomputable def zg:=g12 Cc 583 qu 584
noncomputable def zh:=g3 me 43
noncomputable def zi:=g4 me 580 me 160 2 280 585
noncomputable def zj:=g5 me 43 cD 570 285
noncomputable def zk:=g21 jb 591 Cd Ce
noncomputable def zm:=g3 mf 44
noncomputable def zn:=g4 mf 588 mf 162 2 287 594
noncomputable def zo:=g5 mf 44 cD 570 292
noncomputable def zp:=g12 jb 600 sJ 601
noncomputable def zq:=g3 mh 45
noncomputable def zr:=g4 mh 597 mh 169 1 294 602
noncomputable def zt:=g5 mh 45 cD 570 299
noncomputable def zu:=g21 jb 608 xG Cf
noncomputable def zv:=g3 mi 46
noncomputable def zw:=g4 mi 605 mi 172 3 301 611
noncomputable def zx:=g5 mi 46 cD 570 306
noncomputable def zy:=g12 jb 617 sJ 618
noncomputable def zA:=g3 mj 47
noncomputable def zB:=g4 mj 614 mj 176 1 308 619
noncomputable def zC:=g5 mj 47 cD 570 313
noncomputable def zD:=g17 jb 625 xG Cg Ch qu ib ic
noncomputable def zE:=g3 ml 48
noncomputable def zF:=g4 ml 622 ml 179 2 315 632
noncomputable def zG:=g5 ml 48 cD 570 320
noncomputable def g22 (x0:Nat)(x1 x2 x3 x4:Str)(P:Params):Obj:=⟨(.type L68),none,(.seq #[.str mD x0,.str x1 (x0+1),.str x2 (x0+2),.str x3 (x0+3),.str x4 (x0+4)] 0),#[]⟩
noncomputable def zH:=g22 638 sK xH ib ic
noncomputable def zI:=g3 mn 49
noncomputable def zJ:=g4 mn 635 mn 187 3 322 643
noncomputable def zK:=g5 mn 49 cD 570 327
noncomputable def zL:=g13 mD 649 qv qu sK
noncomputable def zM:=g3 mo 50
noncomputable def zN:=g4 mo 646 mo 190 1 329 653
noncomputable def zO:=g5 mo 50 cD 570 334
noncomputable def zP:=g22 659 ib ic sM sN
noncomputable def zQ:=g3 mq 51
noncomputable def zR:=g4 mq 656 mq 197 5 336 664
noncomputable def zS:=g5 mq 51 cD 570 341
noncomputable def zT:=g14 jb 670 mD ib ic sJ sK xH xI
noncomputable def zU:=g3 mr 52
noncomputable def zV:=g4 mr 667 mr 201 4 343 678
noncomputable def zW:=g5 mr 52 cD 570 348
noncomputable def zX:=g18 jb 684 mD ib ic Ci Cj sM Ck sN xJ xK xL
noncomputable def zY:=g3 ms 53
noncomputable def zZ:=g4 ms 681 ms 212 6 350 696
noncomputable def Aa:=g5 ms 53 cD 570 355
noncomputable def Ab:=g12 Cl 702 Cm 703
noncomputable def Ac:=g3 mt 54
noncomputable def Ad:=g4 mt 699 mt 223 2 357 704
noncomputable def Ae:=g5 mt 54 cD 570 362
noncomputable def Af:=g22 710 ib ic xM xI
noncomputable def Ag:=g3 mv 55
noncomputable def Ah:=g4 mv 707 mv 225 4 364 715
noncomputable def Ai:=g5 mv 55 cD 570 369
noncomputable def Aj (P:Params):Obj:=⟨(.type L68),none,(.seq #[.str mD 721,.str Cn 722,.str xM 723,.str xN 724,.str xO 725,.str ib 726,.str ic 727,.str sM 728,.str sN 729,.str xL 730,.str Co 731,.str xJ 732,.str xK 733,.str Cp 734,.str Cq 735,.str Cr 736,.str Cs 737] 0),#[]⟩
noncomputable def Ak:=g3 mw 56
noncomputable def Al:=g4 mw 718 mw 232 3 371 738
noncomputable def Am:=g5 mw 56 cD 570 376
noncomputable def An:=g17 xP 744 qv xN xO ib ic Ct
noncomputable def Ao:=g3 mx 57
noncomputable def Ap:=g4 mx 741 mx 253 1 378 751
noncomputable def Aq:=g5 mx 57 cD 570 383
noncomputable def Ar:=g13 jb 757 xQ qv Cu
noncomputable def As:=g3 my 58
noncomputable def At:=g4 my 754 my 259 2 385 761
noncomputable def Au:=g5 my 58 cD 570 390
noncomputable def Av:=g16 mD 767 ib ic xQ qv xP
noncomputable def Aw:=g3 mz 59
noncomputable def Ax:=g4 mz 764 mz 264 5 392 773
noncomputable def Ay:=g5 mz 59 cD 570 397
noncomputable def Az:=g3 oJ 60
noncomputable def AA:=g15 oJ 776 oJ 269 1 399
noncomputable def AB:=g5 oJ 60 cD 570 402
noncomputable def t1:Params→BT:=(f boot_o_0 (f boot_o_1 (f xX (f boot_o_7 (f o11 (f o31 (f o12 (f tE (f o11 z z) (f Ap z z)) (f o11 (f zE z z) z)) (f o35 (f tW (f o11 z z) z) (f yt (f o12 z z) z))) (f o35 (f o79 (f o11 (f za z z) (f o11 z z)) (f o11 (f zO z z) z)) (f sW (f ug (f zu z z) z) (f yF (f o11 z z) z)))) (f o23 (f o12 (f o35 (f tJ (f yS z z) (f Au z z)) (f ye (f zJ z z) z)) (f sR (f ub (f o12 z z) z) (f yA (f Ab z z) z))) (f o55 (f o12 (f o12 (f zf z z) z) (f o23 (f o11 z z) z)) (f tj (f uk (f o11 z z) z) (f yJ (f Ak z z) z))))) (f o11 (f o19 (f o35 (f o67 (f o11 (f o11 z z) (f Ar z z)) (f o11 (f o12 z z) z)) (f o12 (f tZ (f zm z z) z) (f o12 (f zZ z z) z))) (f o12 (f o35 (f tP (f zc z z) (f AB z z)) (f yk (f o11 z z) z)) (f o12 (f ui (f zx z z) z) (f yH (f o11 z z) z)))) (f o27 (f o43 (f o12 (f o11 (f yW z z) (f o11 z z)) (f o11 (f zL z z) z)) (f o11 (f ud (f zr z z) z) (f yC (f Ae z z) z))) (f o35 (f o91 (f tU (f o11 z z) z) (f yq (f zU z z) z)) (f tq (f up (f o11 z z) z) (f yM (f o12 z z) z)))))) (f boot_o_5 (f boot_o_9 (f o17 (f o33 (f o65 (f o12 (f yP z z) (f o11 z z)) (f ya (f zG z z) z)) (f o97 (f tX (f zk z z) z) (f yw (f o11 z z) z))) (f o49 (f o81 (f tO (f o11 z z) (f Az z z)) (f yj (f o12 z z) z)) (f sY (f o12 (f zv z z) z) (f o12 (f Ah z z) z)))) (f o11 (f o41 (f o73 (f o12 (f yU z z) (f o12 z z)) (f o12 (f o11 z z) z)) (f sT (f o11 (f o11 z z) z) (f o11 (f Ac z z) z))) (f o57 (f o89 (f o11 (f o12 z z) z) (f o11 (f zT z z) z)) (f o11 (f um (f zB z z) z) (f yK (f Am z z) z))))) (f o13 (f o21 (f o37 (f o69 (f tH (f yR z z) (f As z z)) (f yc (f o11 z z) z)) (f sQ (f o12 (f zo z z) z) (f o11 (f o11 z z) z))) (f o53 (f o85 (f tR (f zd z z) z) (f yn (f zR z z) z)) (f o11 (f o11 (f o12 z z) z) (f o11 (f Aj z z) z)))) (f o11 (f o45 (f o77 (f tM (f yY z z) (f Ax z z)) (f yh (f zM z z) z)) (f sV (f ue (f o11 z z) z) (f yD (f o12 z z) z))) (f o61 (f o93 (f o11 (f zi z z) z) (f o11 (f zW z z) z)) (f tw (f o12 (f zD z z) z) (f o12 (f o11 z z) z))))))) (f boot_o_2 (f boot_o_4 (f boot_o_8 (f o12 (f o32 (f o64 (f o11 (f yO z z) (f Aq z z)) (f xZ (f zF z z) z)) (f o23 (f o11 (f o12 z z) z) (f yu (f zX z z) z))) (f o23 (f o80 (f o12 (f zb z z) (f o12 z z)) (f o12 (f o11 z z) z)) (f sX (f o11 (f o11 z z) z) (f o11 (f Ag z z) z)))) (f o24 (f o40 (f o23 (f o11 (f yT z z) (f o11 z z)) (f o11 (f zK z z) z)) (f sS (f uc (f zp z z) z) (f yB (f o11 z z) z))) (f o56 (f o88 (f tS (f o11 z z) z) (f yo (f o12 z z) z)) (f tm (f o11 (f zA z z) z) (f o11 (f Al z z) z))))) (f qQ (f o20 (f o23 (f o68 (f tG (f o12 z z) (f o11 z z)) (f o12 (f zH z z) z)) (f sP (f o11 (f zn z z) z) (f yx (f Aa z z) z))) (f o52 (f o23 (f tQ (f o11 z z) z) (f ym (f zQ z z) z)) (f td (f uj (f o11 z z) z) (f yI (f o12 z z) z)))) (f o28 (f o44 (f o76 (f tL (f yX z z) (f Aw z z)) (f yg (f o11 z z) z)) (f o12 (f o11 (f zt z z) z) (f o11 (f o11 z z) z))) (f o23 (f o92 (f tV (f zh z z) z) (f yr (f zV z z) z)) (f o11 (f o11 (f o12 z z) z) (f o11 (f An z z) z)))))) (f boot_o_6 (f boot_o_10 (f o11 (f o34 (f o11 (f tF (f yQ z z) (f o12 z z)) (f yb (f o11 z z) z)) (f o11 (f tY (f o11 z z) z) (f o11 (f zY z z) z))) (f o11 (f o82 (f o11 (f o12 z z) (f AA z z)) (f o11 (f zP z z) z)) (f o11 (f uh (f zw z z) z) (f yG (f Ai z z) z)))) (f o12 (f o11 (f o11 (f tK (f yV z z) (f Av z z)) (f yf (f o12 z z) z)) (f sU (f o12 (f zq z z) z) (f o12 (f Ad z z) z))) (f o58 (f o11 (f tT (f zg z z) z) (f yp (f o11 z z) z)) (f o12 (f uo (f zC z z) z) (f yL (f o11 z z) z))))) (f o14 (f o22 (f o11 (f o70 (f tI (f o11 z z) (f At z z)) (f yd (f zI z z) z)) (f o11 (f ua (f o11 z z) z) (f yz (f o12 z z) z))) (f o11 (f o11 (f o11 (f ze z z) z) (f o11 (f zS z z) z)) (f tf (f o12 (f zy z z) z) (f o12 (f o11 z z) z)))) (f o30 (f o46 (f o11 (f tN (f yZ z z) (f Ay z z)) (f yi (f zN z z) z)) (f o11 (f uf (f o12 z z) z) (f yE (f Af z z) z))) (f o11 (f o94 (f o12 (f zj z z) z) (f o12 (f o11 z z) z)) (f tD (f xY (f o11 z z) z) (f yN (f Ao z z) z))))))))
noncomputable abbrev s1 (w:World) (os:OsState):SharedT:=⟨t1 w.params,404,{ },(Array.mk []),⟨0,0,0,0⟩,782,os⟩
noncomputable abbrev p1:Pos:=⟨269,0,292,15⟩
noncomputable abbrev st1:List Stmt:=(pt.main.body.drop 33).take 28
theorem q1 (w:World):(fun os=>segRunT treeTable pt w m0 an 1 1199 (s0 w os) ⟨(execs st1 en).wrap doneF deadEnd id id,cE,p0,B⟩)=fun os=>some (.next,s1 w os,cE,p1):=by
 rw [PySem.W.Fast.te10110043849684766642,PySem.W.Fast.te14364793385576792824,PySem.W.Fast.te12563942051412417395]; kernel_rfl
noncomputable def hF (P:Params):Heap:=⟨⟨[boot_o_0 P,boot_o_1 P,boot_o_2 P,xX P,boot_o_4 P,boot_o_5 P,boot_o_6 P,boot_o_7 P,boot_o_8 P,boot_o_9 P,boot_o_10 P,o11 P,qQ P,o13 P,o14 P,o11 P,o12 P,o17 P,o11 P,o19 P,o20 P,o21 P,o22 P,o23 P,o24 P,o11 P,o12 P,o27 P,o28 P,o11 P,o30 P,o31 P,o32 P,o33 P,o34 P,o35 P,o23 P,o37 P,o11 P,o12 P,o40 P,o41 P,o11 P,o43 P,o44 P,o45 P,o46 P,o35 P,o23 P,o49 P,o11 P,o12 P,o52 P,o53 P,o11 P,o55 P,o56 P,o57 P,o58 P,o35 P,o23 P,o61 P,o11 P,o12 P,o64 P,o65 P,o11 P,o67 P,o68 P,o69 P,o70 P,o35 P,o23 P,o73 P,o11 P,o12 P,o76 P,o77 P,o11 P,o79 P,o80 P,o81 P,o82 P,o35 P,o23 P,o85 P,o11 P,o12 P,o88 P,o89 P,o11 P,o91 P,o92 P,o93 P,o94 P,o35 P,o23 P,o97 P,o11 P,o12 P,sP P,sQ P,o11 P,sR P,sS P,sT P,sU P,o11 P,o12 P,sV P,o11 P,sW P,sX P,sY P,o11 P,o12 P,td P,o11 P,tf P,tj P,tm P,o11 P,o12 P,tq P,o11 P,tw P,tD P,tE P,o11 P,o12 P,tF P,o11 P,tG P,tH P,tI P,tJ P,o11 P,o12 P,tK P,o11 P,tL P,tM P,tN P,o11 P,o12 P,tO P,o11 P,tP P,tQ P,tR P,o11 P,o12 P,tS P,o11 P,tT P,tU P,tV P,o11 P,o12 P,tW P,o11 P,tX P,tY P,tZ P,o11 P,o12 P,ua P,ub P,uc P,o11 P,o12 P,ud P,o11 P,ue P,uf P,ug P,o11 P,o12 P,uh P,ui P,uj P,o11 P,o12 P,uk P,o11 P,um P,uo P,up P,o11 P,o12 P,xY P,o11 P,xZ P,ya P,yb P,o11 P,o12 P,yc P,yd P,ye P,o11 P,o12 P,yf P,o11 P,yg P,yh P,yi P,o11 P,o12 P,yj P,o11 P,yk P,ym P,yn P,o11 P,o23 P,yo P,o11 P,yp P,yq P,yr P,o11 P,o12 P,yt P,yu P,yw P,o11 P,o12 P,yx P,o11 P,yz P,yA P,yB P,o11 P,o12 P,yC P,o11 P,yD P,yE P,yF P,o11 P,o12 P,yG P,yH P,yI P,o11 P,o12 P,yJ P,o11 P,yK P,yL P,yM P,o11 P,o12 P,yN P,o11 P,yO P,yP P,yQ P,o11 P,o12 P,yR P,o11 P,yS P,yT P,yU P,yV P,yW P,yX P,yY P,yZ P,za P,zb P,o11 P,o12 P,zc P,o11 P,zd P,ze P,zf P,o11 P,o12 P,zg P,o11 P,zh P,zi P,zj P,o11 P,o12 P,zk P,o11 P,zm P,zn P,zo P,o11 P,o12 P,zp P,o11 P,zq P,zr P,zt P,o11 P,o12 P,zu P,o11 P,zv P,zw P,zx P,o11 P,o12 P,zy P,o11 P,zA P,zB P,zC P,o11 P,o12 P,zD P,o11 P,zE P,zF P,zG P,o11 P,o12 P,zH P,o11 P,zI P,zJ P,zK P,o11 P,o12 P,zL P,o11 P,zM P,zN P,zO P,o11 P,o12 P,zP P,o11 P,zQ P,zR P,zS P,o11 P,o12 P,zT P,o11 P,zU P,zV P,zW P,o11 P,o12 P,zX P,o11 P,zY P,zZ P,Aa P,o11 P,o12 P,Ab P,o11 P,Ac P,Ad P,Ae P,o11 P,o12 P,Af P,o11 P,Ag P,Ah P,Ai P,o11 P,o12 P,Aj P,o11 P,Ak P,Al P,Am P,o11 P,o12 P,An P,o11 P,Ao P,Ap P,Aq P,o11 P,o12 P,Ar P,o11 P,As P,At P,Au P,o11 P,o12 P,Av P,o11 P,Aw P,Ax P,Ay P,o11 P,o12 P,Az P,AA P,AB P]⟩,{ }⟩
noncomputable abbrev sF (w:World) (os:OsState):Shared:=⟨hF w.params,(Array.mk []),⟨0,0,0,0⟩,782,os⟩
theorem fin (w:World):(fun os=>topRun treeTable pt w m0 an 2 (s1 w os).abs ⟨doneF .next,cE,p1,B⟩)=fun os=>some (sF w os):=by
 rw [PySem.W.Fast.te14082659384304107361,PySem.W.Fast.te14364793385576792824]; kernel_rfl
theorem qw:behindTheImports pt=st0 ++ (st1 ++ ([])):=by kernel_rfl
noncomputable abbrev MM:Nat:=12 + (1 + (1990 + (1199 + 2)))
theorem uq (w:World) (os:OsState):topRun treeTable pt w m0 an MM (sZ w os) (topStub pt)=some (sF w os) :=
 go_top (congrFun (pre w) os) (piece_block (congrFun (blk w) os) (qw ▸ (piece_app (l:=st0) (segRun_of (congrFun (q0 w) os)) (piece_app (l:=st1) (segRun_of (congrFun (q1 w) os)) (piece_nil (congrFun (fin w) os))))))
noncomputable def loose:List Str:=[jN,ia,lP,lQ,lR,lS,lT,lU,jO,jP,jQ,jR,rV,rX,rZ,jS,sf,jT,jU,jV,jW,sg,si,sk,sn,jX,jY,jZ,lX,lY,xD,xE,lZ,ma,ja,md,me,mf,mh,mi,mj,ml,mn,mo,mq,mr,ms,mt,mv,mw,mx,my,mz]
noncomputable abbrev NN:Nat:=6500
noncomputable abbrev q:Program:=view pt [60]
noncomputable abbrev Xt:Shared→Bool:=fun s=>xlAt q [] s && recOk [] s
theorem size (w:World):((boot_heap w.params).isNs mainGlobals && (Array.mk []:Array GenState).size == 0,(boot_heap w.params).objs.size,(boot_heap w.params).nsMap mainGlobals "__annotations__")=(true,m0,an):=by
 rw [PySem.W.Fast.te8920871248978507458]; kernel_rfl
theorem AC (w:World):(fun os=>((staticsOk (importedModules pt.main.body) (boot_heap w.params) (hF w.params) && namesBound pt (hF w.params) && gensDone (sF w os) && laidKept (boot_heap w.params) (hF w.params)),openSeen q loose (importedModules pt.main.body) Xt true (sF w os),HK.obs (sF w os)))=fun _=>(true,openGood q loose,HK.val w):=by
 rw [PySem.W.Fast.te4187177175401517315,PySem.W.Fast.te5923862056798008813]; kernel_rfl
theorem left:LeftO pt q loose Xt HK.obs HK.val NN true:=LeftO.of_pieces (boot_open (by kernel_rfl) (by decide) (fun s=>rfl)) size uq (by decide) AC
end Hd
open PySem PySem.W PyProof.Rows
set_option maxRecDepth 100000 in
set_option maxHeartbeats 0 in
theorem PySem.Challenge.cw_platecuts_k32_whole_trees_of_layings_holds : PySem.Challenge.rw_platecuts_k32_whole_trees_of_layings.Holds := by
 w_on; o_law
 refine holds_open (q:=view PySem.Challenge.pw_platecuts_k32_whole_trees_of_layings [60]) (loose:=Hd.loose) (Xt:=fun s=>xlAt (view PySem.Challenge.pw_platecuts_k32_whole_trees_of_layings [60]) [] s && recOk [] s) (XP:=XL (view PySem.Challenge.pw_platecuts_k32_whole_trees_of_layings [60]) []) (Yf:=Hook.obs Hd.HK) (Ya:=Hook.val Hd.HK) (YP:=InK Pc.kK) (N:=Hd.NN) ?hl (Hook.of Hd.HK) (Hook.keeps Hd.HK) (fun s e=>xl_of s (Bool.and_eq_true_iff.mp e).1) XL.keeps (by rfl) (by rfl) (by rfl) (fun s e=>recFacts_of (Bool.and_eq_true_iff.mp e).2) (by rfl) (by first | assumption | decide +kernel) (by decide +kernel) ⟨rfl,rfl,rfl,rfl,rfl,by decide +kernel⟩ ?hw ?hc
 case hl=>exact Hd.pt_eq ▸ Hd.left
 case hw=>w_witness2
 k_fill
 refine Pc.walk (l:=PySem.Challenge.rw_platecuts_k32_whole_trees_of_layings) rfl rfl (fun w h Y=>Y) ?F
 case F =>
  intro w mg fa h KX G hmg
  refine' Pc.all_mk KX G hmg ?d0 ?d1 ?d2 ?d3 ?d4 ?d5 ?d6 ?d7 ?d8 ?d9 ?d10 ?d11 ?d12 ?d13 ?d14 ?d15 ?d16 ?d17 ?d18 ?d19 ?d20 ?d21 ?d22 ?d23 ?d24 ?d25 ?d26 ?d27 ?d28 ?d29 ?d30 ?d31 ?d32 ?d33 ?d34 ?aC ?dm0 ?dm1 ?dm2 ?dm3 ?pg ?hd ?po ?sa ?mk ?kc ?n0 ?n1 ?eWAYS ?lWAYS ?z0 ?z1 ?z2 ?z3 ?z4 ?z5 ?z6 ?z7 ?z8 ?z9 ?z10 ?z11 ?z12 ?z13 ?z14 ?z15 ?z16 ?z17 ?uc0 ?uc1 ?uc2 ?uc3 ?uc4 ?uc5 ?uc6 ?uc7
  (case d0 | d1 | d2 | d3 | d4 | d5 | d6 | d7 | d8 | d9 | d10 | d11 | d12 | d13 | d14 | d15 | d16 | d17 | d18 | d19 | d20 | d21 | d22 | d23 | d24 | d25 | d26 | d27 | d28 | d29 | d30 | d31 | d32 | d33 | d34=>refine' Pc.diM ?a ?l ?c ?k; (case a=>k_is); (case l=>k_is); (case c=>k_is); (case k=>k_is))
  (case aC=>k_is)
  (case dm0 | dm1 | dm2 | dm3=>refine' Pc.miM ?a ?i ?l ?c ?k; (case a=>k_is); (case i=>k_is); (case l=>k_is); (case c=>k_is); (case k=>k_is))
  (case pg | hd | po | sa | mk | kc | n0 | n1 | eWAYS=>k_is)
  (case lWAYS=>exact ⟨_,_,_,rfl,rfl,rfl,by decide,.cons ⟨_,rfl⟩ (.cons ⟨_,rfl⟩ .nil)⟩)
  (case z0 | z1 | z2 | z3 | z4 | z5 | z6 | z7 | z8 | z9 | z10 | z11 | z12 | z13 | z14 | z15 | z16 | z17 | uc0 | uc1 | uc2 | uc3 | uc4 | uc5 | uc6 | uc7=>k_is)