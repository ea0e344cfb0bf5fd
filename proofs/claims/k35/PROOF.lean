import PyProof.Rows.All
import Wide.All
import OpenK.AllK
import Wide.FinOn
import Lean
import PyProof.EqAt
import PyProof.EqKinds
import PyProof.TupleCall
import PyProof.Draws
import PyProof.WalksMore
import PyProof.EnumMake
import PyProof.ReprRoads
import PyProof.Rows.SortWalk
import PyProof.Rows.SumAny
import PyProof.FitsBits
import KE.KSortTup
import PySem.Challenge.RW_platecuts_k35_whole_layings_moved_about
set_option Elab.async false
set_option linter.all false
set_option maxRecDepth 100000
namespace L2
open PySem PySem.Spec PyProof.Rows
abbrev Key:=Sum Int Str
def pS:Key→Value→Bool
 | .inl k,v=>Value.isInt k v
 | .inr x,v=>Value.isStrOf x v
def zO (w:World):Key→Int
 | .inl k=>hashInt k
 | .inr x=>hashStr w x
theorem aW:∀ {k:Key} {v:Value},pS k v=true→(∃i t,k=Sum.inl i∧v=Value.int i t)∨(∃x t,k=Sum.inr x∧v=Value.str x t)
 | .inl i,v,h=>by
  obtain ⟨t,e⟩:=Value.isInt_shape (k:=i) (v:=v) h
  exact .inl ⟨i,t,rfl,e⟩
 | .inr x,v,h=>by
  obtain ⟨t,e⟩:=Value.isStrOf_shape (x:=x) (v:=v) h
  exact .inr ⟨x,t,rfl,e⟩
theorem qj (a b:Int):decide ((Sum.inl a:Key)=Sum.inl b)=(a == b):=by
 by_cases e:a=b
 ·subst e; simp
 ·have h:¬ (Sum.inl a:Key)=Sum.inl b:=fun q=>e (Sum.inl.inj q)
  rw [decide_eq_false h]
  exact (beq_eq_false_iff_ne.mpr e).symm
theorem qk (a b:Str):decide ((Sum.inr a:Key)=Sum.inr b)=decide (a=b):=by
 by_cases e:a=b
 ·subst e; simp
 ·have h:¬ (Sum.inr a:Key)=Sum.inr b:=fun q=>e (Sum.inr.inj q)
  rw [decide_eq_false h,decide_eq_false e]
theorem qm (a:Int) (b:Str):decide ((Sum.inl a:Key)=Sum.inr b)=false:=decide_eq_false (fun q=>nomatch q)
theorem qo (a:Str) (b:Int):decide ((Sum.inr a:Key)=Sum.inl b)=false:=decide_eq_false (fun q=>nomatch q)
def gz (prog:Program) (w:World):PySem.KeyKind prog w Key where
 is:=pS
 hash:=zO w
 inj:=fun v a b ha hb=>by
  rcases aW ha with ⟨i,t,rfl,rfl⟩ | ⟨x,t,rfl,rfl⟩
  ·rcases aW hb with ⟨j,u,rfl,e⟩ | ⟨y,u,rfl,e⟩
   ·injection e with e1 _; rw [e1]
   ·exact nomatch e
  ·rcases aW hb with ⟨j,u,rfl,e⟩ | ⟨y,u,rfl,e⟩
   ·exact nomatch e
   ·injection e with e1 _; rw [e1]
 byValue:=fun k v h=>by
  rcases aW h with ⟨i,t,rfl,rfl⟩ | ⟨x,t,rfl,rfl⟩ <;> rfl
 pyHash:=fun hv h=>by
  rcases aW hv with ⟨i,t,rfl,rfl⟩ | ⟨x,t,rfl,rfl⟩
  ·exact wpAny_pyHash_int h
  ·exact wpAny_pyHash_str h
 eqBool:=fun hu hv h=>by
  rcases aW hu with ⟨i,t,rfl,rfl⟩ | ⟨x,t,rfl,rfl⟩
  ·rcases aW hv with ⟨j,u,rfl,rfl⟩ | ⟨y,u,rfl,rfl⟩
   ·rw [qj] at h; exact wpAny_eqBool_int h
   ·rw [qm] at h; exact SeqAt.EqAt.int_str i t y u _ _ _ _ h
  ·rcases aW hv with ⟨j,u,rfl,rfl⟩ | ⟨y,u,rfl,rfl⟩
   ·rw [qo] at h; exact SeqAt.EqAt.str_int x t j u _ _ _ _ h
   ·rw [qk] at h; exact wpAny_eqBool_str h
 «strs» := fun k x t v h=>by
  rcases aW h with ⟨i,u,rfl,e⟩ | ⟨y,u,rfl,e⟩
  ·exact nomatch e
  ·injection e with e1 _
   subst e1
   cases v <;> rfl
end L2
namespace L2
open PySem PySem.Spec PyProof.Rows
inductive V where
 | non | bl (b:Bool) | int (i:Int) | str (x:Str) | byt (b:Array UInt8) | flt (b:UInt64) | ref (a:Addr) | ty (n:String)
 deriving DecidableEq
def RelV:V→Value→Prop
 | .non,u=>u=Value.none
 | .bl b,u=>u=Value.bool b
 | .int i,u=>∃t,u=Value.int i t
 | .str x,u=>∃t,u=Value.str x t
 | .byt b,u=>∃t,u=Value.bytes b t
 | .flt b,u=>∃t,u=Value.float b t
 | .ref a,u=>u=Value.ref a
 | .ty n,u=>u=Value.type n
abbrev Vals:List V→List Value→Prop:=Paired RelV
theorem Vals.length {xs:List V} {us:List Value} (r:Vals xs us):xs.length=us.length:=Paired.length r
theorem Vals.get:∀ {xs:List V} {us:List Value} {i:Nat} {x:V},Vals xs us→xs[i]? = some x→∃u,us[i]? = some u∧RelV x u
 | _,_,_,_,.nil,e=>by simp at e
 | _,_,0,_,.cons r _,e=>by simp at e; subst e; exact ⟨_,rfl,r⟩
 | _,_,i + 1,x,.cons _ t,e=>by
  obtain ⟨u,h1,h2⟩:=Vals.get (i:=i) (x:=x) t (by simpa using e)
  exact ⟨u,by simpa using h1,h2⟩
theorem Vals.set {x:V} {u:Value} (r:RelV x u):∀ {xs:List V} {us:List Value} (i:Nat),Vals xs us→Vals (xs.set i x) (us.set i u)
 | _,_,_,.nil=>.nil
 | _,_,0,.cons _ t=>.cons r t
 | _,_,i + 1,.cons q t=>.cons q (Vals.set r i t)
theorem Vals.append:∀ {xs ys:List V} {us ws:List Value},Vals xs us→Vals ys ws→Vals (xs ++ ys) (us ++ ws)
 | _,_,_,_,.nil,s=>s
 | _,_,_,_,.cons r t,s=>.cons r (Vals.append t s)
theorem Vals.take:∀ {xs:List V} {us:List Value} (n:Nat),Vals xs us→Vals (xs.take n) (us.take n)
 | _,_,0,_=>.nil
 | _,_,_ + 1,.nil=>.nil
 | _,_,n + 1,.cons r t=>.cons r (Vals.take n t)
theorem Vals.drop:∀ {xs:List V} {us:List Value} (n:Nat),Vals xs us→Vals (xs.drop n) (us.drop n)
 | _,_,0,r=>r
 | _,_,_ + 1,.nil=>.nil
 | _,_,n + 1,.cons _ t=>Vals.drop n t
def RelO:Option V→Option Value→Prop
 | some v,some u=>RelV v u
 | none,none=>True
 | _,_=>False
def KV {κ:Type}:List (κ×V)→List (κ×Value)→Prop:=Paired fun (p:κ×V) (q:κ×Value)=>p.1=q.1∧RelV p.2 q.2
def kV:Key→V
 | .inl i=>.int i
 | .inr x=>.str x
inductive HO where
 | lst (xs:List V)
 | tup (xs:List V)
 | dK (kvs:List (Key×V)) | dT (kvs:List (List Key×V))
 | set (S:Int→Bool) (n:Nat)
 | ins (C dx:Addr) (fs:List (Str×V))
 | own (x:Addr)
 | xd (fs:List (Str×V))
 | met (f x:Addr)
 | rng (lo hi:Int)
 | frz (o:Obj) (u:HO)
 | tbl (ps:Array Value)
 | ext (φ:Heap→Prop)
abbrev Hp:=Addr→Option HO
def upd (H:Hp) (a:Addr) (o:HO):Hp:=fun b=>if b=a then some o else H b
theorem ah {H:Hp} {a:Addr} {o:HO}:upd H a o a=some o:=by unfold upd; rw [if_pos rfl]
theorem az {H:Hp} {a b:Addr} {o:HO} (h:b≠a):upd H a o b=H b:=by unfold upd; rw [if_neg h]
theorem aj {H:Hp} {a b:Addr} {o:HO} (h:H a=some o) (h':H b=none):a≠b:=by
 intro e; subst e; rw [h] at h'; cases h'
section
variable (P:Program) (w:World)
def ObjOk (H:Hp) (h:Heap) (a:Addr):HO→Prop
 | .lst xs=>xs.length≤sizeLine∧∃ (its:List Value) (n:Nat),Vals xs its∧h.get? a=some { cls:=.type "list",data:=.seq its.toArray n }
 | .tup xs=>xs.length≤sizeLine∧∃its:List Value,Vals xs its∧IsTup h a its.toArray
 | .dK kvs=>kvs.length≤sizeLine∧(a == sysModules)=false∧∃vs,KV kvs vs∧h.DictOf (gz P w) a vs
 | .dT kvs=>kvs.length≤sizeLine∧(a == sysModules)=false∧∃xs:List (List Key×Addr×Value),
   Paired (fun (p:List Key×V) (q:List Key×Addr×Value)=>p.1=q.1∧H q.2.1=some (.tup (p.1.map kV))∧RelV p.2 q.2.2) kvs xs ∧
   ∃o es ep,h.get? a=some o∧o.ExactDict∧o.data=.dict es ep∧es.toList=xs.map (entryOfKey (tupleKind (gz P w)))∧(xs.map (·.1)).Nodup
 | .set S n=>h.SetOf (intKind P w) a S n
 | .ins C dx fs=>H dx=some (.own a)∧fs.length≤1000∧dx≠a∧h.get? a=some (PySem.W.instObj C dx) ∧
   ∃mA,h.Ns1 dx mA∧(∀f,RelO (fs.lookup f) (mA f))∧PySem.Within mA (fs.map (·.1))
 | .own _=>∃o,h.get? a=some o
 | .xd fs=>∃mA,h.Ns1 a mA∧∀f,RelO (fs.lookup f) (mA f)
 | .rng lo hi=>∃t u v,h.get? a=some { cls:=.type "range",data:=.fields #[.int lo t,.int hi u,.int 1 v] }
 | .frz o u=>h.get? a=some o∧ObjOk H h a u
 | .tbl ps=>h.get? a=some { cls:=.none,data:=.fields ps }
 | .met f x=>h.get? a=some (PySem.W.methodObj (.ref f) (.ref x))
 | .ext φ=>φ h∧(∃o,h.get? a=some o)∧∀h1 h2:Heap,φ h1→(∀o,h1.get? a=some o→h2.get? a=some o)→φ h2
def HOk (H:Hp) (h:Heap):Prop:=∀a o,H a=some o→ObjOk P w H h a o
end
section
variable {P:Program} {w:World} {H H':Hp} {h h':Heap} {a:Addr} {o:HO}
theorem ObjOk.lt (x:ObjOk P w H h a o):a < h.objs.size:=by
 cases o with
 | lst xs=>obtain ⟨_,_,_,_,e⟩:=x; exact Heap.lt_size e
 | tup xs=>obtain ⟨_,_,_,p⟩:=x; exact p.lt
 | dK kvs=>obtain ⟨_,_,_,_,o,_,_,e,_⟩:=x; exact Heap.lt_size e
 | dT kvs=>obtain ⟨_,_,_,_,o,_,_,e,_⟩:=x; exact Heap.lt_size e
 | set S n=>obtain ⟨o,_,_,_,e,_⟩:=x; exact Heap.lt_size e
 | ins C dx fs=>obtain ⟨_,_,_,e,_⟩:=x; exact Heap.lt_size e
 | own y=>obtain ⟨_,e⟩:=x; exact Heap.lt_size e
 | xd fs=>obtain ⟨_,⟨_,_,_,e,_⟩,_⟩:=x; exact Heap.lt_size e
 | rng lo hi=>obtain ⟨_,_,_,e⟩:=x; exact Heap.lt_size e
 | frz ob u=>obtain ⟨e,_⟩:=x; exact Heap.lt_size e
 | tbl ps=>exact Heap.lt_size (show h.get? a=some _ from x)
 | met f y=>exact Heap.lt_size (show h.get? a=some _ from x)
 | ext φ=>obtain ⟨_,⟨_,e⟩,_⟩:=x; exact Heap.lt_size e
theorem Paired.mapP {α β:Type} {F G:α→β→Prop}:∀ {l₁:List α} {l₂:List β},Paired F l₁ l₂→(∀a b,F a b→G a b)→Paired G l₁ l₂
 | _,_,.nil,_=>.nil
 | _,_,.cons r t,f=>.cons (f _ _ r) (Paired.mapP t f)
theorem ObjOk.stay (x:ObjOk P w H h a o) (k:∀b u,(b=a∨H b=some (.own a))→h.get? b=some u→h'.get? b=some u)
  (ho:∀b,H b=some (.own a)→H' b=some (.own a)) (ht:∀b xs,H b=some (.tup xs)→H' b=some (.tup xs)):ObjOk P w H' h' a o:=by
 induction o with
 | lst xs=>obtain ⟨z,its,n,r,e⟩:=x; exact ⟨z,its,n,r,k _ _ (.inl rfl) e⟩
 | tup xs=>obtain ⟨z,its,r,ob,e,c⟩:=x; exact ⟨z,its,r,ob,k _ _ (.inl rfl) e,c⟩
 | dK kvs=>obtain ⟨z,y,vs,r,ob,es,ep,e,c⟩:=x; exact ⟨z,y,vs,r,ob,es,ep,k _ _ (.inl rfl) e,c⟩
 | dT kvs =>
  obtain ⟨z,y,xs,r,ob,es,ep,e,c⟩:=x
  exact ⟨z,y,xs,Paired.mapP r fun p q z=>⟨z.1,ht _ _ z.2.1,z.2.2⟩,ob,es,ep,k _ _ (.inl rfl) e,c⟩
 | set S n=>obtain ⟨ob,es,ep,t,e,c⟩:=x; exact ⟨ob,es,ep,t,k _ _ (.inl rfl) e,c⟩
 | ins C dx fs =>
  obtain ⟨d,z,ne,e,mA,⟨od,es,ep,e2,c⟩,r⟩:=x
  exact ⟨ho _ d,z,ne,k _ _ (.inl rfl) e,mA,⟨od,es,ep,k _ _ (.inr d) e2,c⟩,r⟩
 | own y=>obtain ⟨ob,e⟩:=x; exact ⟨ob,k _ _ (.inl rfl) e⟩
 | xd fs=>obtain ⟨mA,⟨od,es,ep,e,c⟩,r⟩:=x; exact ⟨mA,⟨od,es,ep,k _ _ (.inl rfl) e,c⟩,r⟩
 | rng lo hi=>obtain ⟨t,u,v,e⟩:=x; exact ⟨t,u,v,k _ _ (.inl rfl) e⟩
 | frz ob u ih=>obtain ⟨e,q⟩:=x; exact ⟨k _ _ (.inl rfl) e,ih q⟩
 | tbl ps =>
  have e:h.get? a=some { cls:=.none,data:=.fields ps }:=x
  show h'.get? a=some { cls:=.none,data:=.fields ps }
  exact k a _ (.inl rfl) e
 | met f y =>
  have e:h.get? a=some (PySem.W.methodObj (.ref f) (.ref y)):=x
  show h'.get? a=some (PySem.W.methodObj (.ref f) (.ref y))
  exact k a _ (.inl rfl) e
 | ext φ=>obtain ⟨p,⟨o,e⟩,st⟩:=x; exact ⟨st _ _ p fun o q=>k _ _ (.inl rfl) q,⟨o,k _ _ (.inl rfl) e⟩,st⟩
theorem HOk.lt (x:HOk P w H h) (e:H a=some o):a < h.objs.size:=(x a o e).lt
theorem HOk.fresh (x:HOk P w H h) (e:h.objs.size≤a):H a=none:=by
 cases q:H a with
 | none=>rfl
 | some u=>exact absurd (Nat.lt_of_lt_of_le (x.lt q) e) (Nat.lt_irrefl _)
theorem HOk.kept (x:HOk P w H h) (k:∀b u,h.get? b=some u→h'.get? b=some u):HOk P w H h':=fun a o e =>
 (x a o e).stay (fun b u _ q=>k b u q) (fun _ q=>q) fun _ _ q=>q
theorem HOk.laid (x:HOk P w H h) (k:∀b u,h.get? b=some u→h'.get? b=some u) (hp:h.objs.size≤a) (new:ObjOk P w (upd H a o) h' a o):HOk P w (upd H a o) h':=fun b u e=>by
 have hn:=x.fresh hp
 by_cases hb:b=a
 ·subst hb; rw [ah] at e; cases e; exact new
 ·rw [az hb] at e
  exact (x b u e).stay (fun c v _ q=>k c v q) (fun c q=>by rw [az (aj q hn)]; exact q) fun c xs q=>by rw [az (aj q hn)]; exact q
end
def Rd (H:Hp) (a:Addr) (u:HO):Prop:=H a=some u∨∃o,H a=some (.frz o u)
theorem Rd.ok {P:Program} {w:World} {H:Hp} {h:Heap} {a:Addr} {u:HO} (r:Rd H a u) (x:HOk P w H h):ObjOk P w H h a u:=by
 rcases r with r | ⟨o,r⟩
 ·exact x a u r
 ·obtain ⟨_,q⟩:=x a _ r
  exact q
def Mut:Option HO→Prop
 | some (.lst _)=>True
 | some (.dK _)=>True
 | some (.dT _)=>True
 | some (.set _ _)=>True
 | some (.ins _ _ _)=>True
 | some (.ext _)=>True
 | _=>False
section
variable {P:Program} {w:World} {H:Hp} {h h':Heap} {x e:Addr} {o':HO}
theorem HOk.write (ok:HOk P w H h) (mu:Mut (H x)) (he:e=x∨H e=some (.own x)) (k:∀b u,b≠e→h.get? b=some u→h'.get? b=some u) (heo:∃u,h'.get? e=some u)
  (new:ObjOk P w (upd H x o') h' x o'):HOk P w (upd H x o') h':=fun b u q=>by
 have nown:∀c y,H c=some (.own y)→c≠x:=fun c y r z=>by subst z; rw [r] at mu; exact mu
 have ntup:∀c xs,H c=some (.tup xs)→c≠x:=fun c xs r z=>by subst z; rw [r] at mu; exact mu
 by_cases hb:b=x
 ·subst hb; rw [ah] at q; cases q; exact new
 ·rw [az hb] at q
  by_cases hbe:b=e
  ·have q':H b=some (.own x):=by
    rcases he with z | z
    ·exact absurd (hbe.trans z) hb
    ·rw [hbe]; exact z
   rw [q] at q'; cases q'
   obtain ⟨v,hv⟩:=heo
   exact ⟨v,by rw [hbe]; exact hv⟩
  ·refine (ok b u q).stay (fun c v hc r=>k c v ?_ r) (fun c r=>by rw [az (nown c b r)]; exact r) fun c xs r=>by rw [az (ntup c xs r)]; exact r
   rcases hc with rfl | hc
   ·exact hbe
   ·rintro rfl
    rcases he with z | z
    ·exact nown c b hc z
    ·rw [hc] at z; cases z; exact hb rfl
end
structure Un (fs ex:List Addr) (H H':Hp) (h h':Heap):Prop where
 keep:∀b o,h.get? b=some o→H b=none→b∉fs→b∉ex→h'.get? b=some o
 slot:∀b o,h.get? b=some o→H b=none→b∈fs→b∉ex→∃sl,h'.get? b=some { o with slots:=sl }
 free:∀b o,h.get? b=some o→H b=none→b∉ex→H' b=none
 there:∀b o,h.get? b=some o→b∉ex→∃o',h'.get? b=some o'
 tups:∀b xs,H b=some (.tup xs)→H' b=some (.tup xs)
 frzs:∀b o u,H b=some (.frz o u)→H' b=some (.frz o u)
 tbls:∀b ps,H b=some (.tbl ps)→∃more,H' b=some (.tbl (ps ++ more))
section
variable {fs fs' ex ex':List Addr} {H H1 H2:Hp} {h h1 h2 h':Heap} {a x e:Addr} {o:HO}
theorem Un.any (u:Un fs ex H H1 h h1) {b:Addr} {ob:Obj} (q:h.get? b=some ob) (n:H b=none) (hx:b∉ex):∃sl,h1.get? b=some { ob with slots:=sl }:=by
 by_cases hb:b∈fs
 ·exact u.slot b ob q n hb hx
 ·exact ⟨ob.slots,u.keep b ob q n hb hx⟩
theorem Un.kept (k:∀b u,h.get? b=some u→h'.get? b=some u):Un fs ex H H h h' :=
 ⟨fun b ob q _ _ _=>k b ob q,fun b ob q _ _ _=>⟨ob.slots,k b ob q⟩,fun _ _ _ n _=>n,fun b ob q _=>⟨ob,k b ob q⟩,fun _ _ q=>q,fun _ _ _ q=>q,fun _ ps q=>⟨#[],by rw [q]; simp⟩⟩
theorem Un.refl:Un fs ex H H h h:=Un.kept fun _ _ q=>q
theorem Un.laid (k:∀b u,h.get? b=some u→h'.get? b=some u) (hp:h.objs.size≤a) (hn:H a=none):Un fs ex H (upd H a o) h h' where
 keep:=fun b u q _ _ _=>k b u q
 slot:=fun b u q _ _ _=>⟨u.slots,k b u q⟩
 free:=fun b u q n _=>by rw [az (Nat.ne_of_lt (Nat.lt_of_lt_of_le (Heap.lt_size q) hp))]; exact n
 there:=fun b u q _=>⟨u,k b u q⟩
 tups:=fun b xs q=>by rw [az (aj q hn)]; exact q
 frzs:=fun b u xs q=>by rw [az (aj q hn)]; exact q
 tbls:=fun b ps q=>⟨#[],by rw [az (aj q hn),q]; simp⟩
theorem Un.write (mu:Mut (H x)) (he:e=x∨H e=some (.own x)) (k:∀b u,b≠e→h.get? b=some u→h'.get? b=some u) (heo:∃u,h'.get? e=some u):Un fs ex H (upd H x o) h h':=by
 have hx:∀b,H b=none→b≠x:=fun b n z=>by subst z; rw [n] at mu; exact mu
 have hb:∀b,H b=none→b≠e:=fun b n z=>by
  subst z
  rcases he with r | r
  ·exact hx b n r
  ·rw [n] at r; cases r
 have hm:∀b u,H b=some u→¬ Mut (some u)→b≠x:=fun b u q nm z=>by subst z; rw [q] at mu; exact nm mu
 refine ⟨fun b u q n _ _=>k b u (hb b n) q,fun b u q n _ _=>⟨u.slots,k b u (hb b n) q⟩,fun b u q n _=>by rw [az (hx b n)]; exact n,fun b u q _=>?_,
  fun b xs q=>by rw [az (hm b _ q fun z=>z)]; exact q,fun b u xs q=>by rw [az (hm b _ q fun z=>z)]; exact q,fun b ps q=>⟨#[],by rw [az (hm b _ q fun z=>z),q]; simp⟩⟩
 by_cases hbe:b=e
 ·subst hbe; exact heo
 ·exact ⟨u,k b u hbe q⟩
end
def trk (h:Heap) (H:Hp):List Addr:=(List.range h.objs.size).filter fun a=>(H a).isSome
def gB (h:Heap) (H:Hp):Heap:=PySem.W.hideAll h (trk h H)
theorem kB (h:Heap) (H:Hp):(gB h H).objs.size=h.objs.size:=PySem.W.hideAll_size _ _
theorem mj {h:Heap} {H:Hp} {b:Addr} {o:Obj} (e:h.get? b=some o) (n:H b=none):(gB h H).get? b=some o :=
 PySem.W.hideAll_get _ e fun hm=>by
  have q:(H b).isSome=true:=(List.mem_filter.mp hm).2
  rw [n] at q; simp at q
theorem oh {h:Heap} {H:Hp} {b:Addr} {o:Obj} (e:(gB h H).get? b=some o):h.get? b=some o∧H b=none:=by
 have e':h.get? b=some o:=PySem.W.of_hideAll (trk h H) e
 refine ⟨e',?_⟩
 cases q:H b with
 | none=>rfl
 | some x =>
  have hm:b∈trk h H:=List.mem_filter.mpr ⟨List.mem_range.mpr (Heap.lt_size e'),by simp [q]⟩
  have z:(gB h H).get? b=none:=PySem.W.hideAll_none (trk h H) hm
  rw [z] at e; cases e
def oi (g h:Heap) (L:Addr):List (Addr×Obj):=(List.range h.objs.size).filterMap fun a=>if a=L∨(g.get? a).isSome=true then none else (h.get? a).map fun o=>(a,o)
def rest (g h:Heap) (L d:Addr):List (Addr×Obj):=(oi g h L).filter fun p=>decide (p.1≠d)
end L2
namespace L2
open PySem PySem.Spec PyProof.Rows
structure Mod (K:PySem.W.Frag) (mg:Str→Option Value) (base:Heap):Prop where
 kin:K.In base
 glob:base.Ns mainGlobals mg
 blt:∃mb,base.Ns builtinsNs mb∧∀x:Str,x ≠ "__name__" → mb x=bootBuiltins x
 nolimit:base.NoLimit
/-- the context: a def's body (or a comprehension's block) running. base: fixed through the aQ law; s₀,H₀: the entry; outer: the frames whose slots others may change (a def's callers); stack: all frames that run;
   ex: iterators that were made ahead of the entry and are walked here (a comprehension's); fn: the names whose cells were made at the entry (a def: all; a comprehension's block: its own); calm: not within an except suite; pn: pins that every state bears; xe: what is wanted of an exception that leaves the code -/
structure Cx where
 prog:Program
 w:World
 K:PySem.W.Frag
 mg:Str→Option Value
 base:Heap
 A:Around
 N:List Str
 s₀:Shared
 H₀:Hp
 env:Env
 outer:List Env
 stack:List Env
 ex:List Addr
 fn:Str→Bool
 calm:Bool
 pn:List (Addr×Obj)
 xe:Value→Shared→Prop
def frs (l:List Env):List Addr:=l.filterMap (·.frame)
abbrev Cx.fs (X:Cx):List Addr:=frs X.outer
def Vis (sc:Scope) (x:Str):Prop:=sc.names.lookup x=some .local∨sc.names.lookup x=some .cell∨sc.names.lookup x=some .free
def Loc (sc:Scope) (x:Str):Prop:=sc.names.lookup x=some .local∨sc.names.lookup x=some .cell
def zP (env:Env) (h:Heap) (m:Str→Option Value) (x:Str) (u:Value):Prop :=
 (env.kindOf x=some .local∧m x=some u)∨((env.kindOf x=some .cell∨env.kindOf x=some .free)∧∃c,env.cells.lookup x=some c∧h.IsCell c (some u))
structure Cx.Ok (X:Cx):Prop where
 mod:Mod X.K X.mg X.base
 kind:X.env.scope.kind=.function
 glob:X.env.globals=mainGlobals
 blt:X.env.builtins=builtinsNs
 above:X.s₀.heap.objs.size≤X.env.locals
 inj:∀x y c,X.env.cells.lookup x=some c→X.env.cells.lookup y=some c→x=y
 has:∀x,(X.env.kindOf x=some .cell∨X.env.kindOf x=some .free)→∃c,X.env.cells.lookup x=some c
 cab:∀x c,X.fn x=true→X.env.cells.lookup x=some c→X.s₀.heap.objs.size≤c
 hd:X.calm=true→X.A.handled=none
 frames:X.A.frames=some X.stack
 stk:X.stack=X.outer∨(X.stack=X.env :: X.outer∧X.env.frame=some X.env.locals)
 exf:∀b∈X.ex,b≠X.env.locals∧∀x c,X.env.cells.lookup x=some c→c≠b
 bs:∀b o,X.base.get? b=some o→X.s₀.heap.get? b=some o∧X.H₀ b=none
 bsz:X.base.objs.size≤X.s₀.heap.objs.size
 noex:∀b o,X.base.get? b=some o→b∉X.ex
 exfs:∀b∈X.ex,b∉X.fs
 funs:X.s₀.heap.FunFrames X.base X.outer
 frf:∀b∈X.fs,X.H₀ b=none
structure Inv (X:Cx) (pins:List (Addr×Obj)) (σ:List (Option V)) (H:Hp) (s:Shared):Prop where
 ok:X.Ok
 os:s.os=X.s₀.os
 bare:AllBare s.gens
 base:Un X.fs X.ex X.H₀ H X.s₀.heap s.heap
 loc:∃m,s.heap.Ns X.env.locals m∧∀ (i:Nat) (x:Str) (v:V),X.N[i]? = some x→σ[i]? = some (some v)→Vis X.env.scope x→∃u,RelV v u∧zP X.env s.heap m x u
 cell:∀x c,X.env.cells.lookup x=some c→∃v,s.heap.IsCell c v
 free:H X.env.locals=none
 freeC:∀x c,X.env.cells.lookup x=some c→H c=none
 pin:∀p∈X.pn ++ pins,s.heap.get? p.1=some p.2∧H p.1=none∧p.1≠X.env.locals∧p.1∉X.fs∧∀v,p.2.data≠.cell v
 hok:HOk X.prog X.w H s.heap
 len:σ.length=X.N.length
section
variable {X:Cx} {pins:List (Addr×Obj)} {σ:List (Option V)} {H H':Hp} {s:Shared} {h':Heap}
theorem Cx.Ok.nofr (ok:X.Ok) {b:Addr} {o:Obj} (e:X.base.get? b=some o):b∉X.fs:=fun hb=>by
 have:=(ok.funs.mem hb).1
 rw [e] at this; cases this
theorem Inv.bs (I:Inv X pins σ H s):∀b o,X.base.get? b=some o→s.heap.get? b=some o∧H b=none:=fun b o e =>
 ⟨I.base.keep b o (I.ok.bs b o e).1 (I.ok.bs b o e).2 (I.ok.nofr e) (I.ok.noex b o e),I.base.free b o (I.ok.bs b o e).1 (I.ok.bs b o e).2 (I.ok.noex b o e)⟩
theorem Inv.bk (I:Inv X pins σ H s):∀b o,X.base.get? b=some o→s.heap.get? b=some o:=fun b o e=>(I.bs b o e).1
theorem Inv.mod (I:Inv X pins σ H s):Mod X.K X.mg X.base:=I.ok.mod
theorem Inv.kIn (I:Inv X pins σ H s):X.K.In s.heap:=I.ok.mod.kin.keeps I.bk
theorem Inv.fr (I:Inv X pins σ H s):∃m,Fr X.base X.env.locals s.heap m :=
 let ⟨m,hn,_⟩:=I.loc
 ⟨m,hn,I.bk,Nat.le_trans I.ok.bsz I.ok.above⟩
theorem Inv.lt (I:Inv X pins σ H s):X.env.locals < s.heap.objs.size:=let ⟨_,hn,_⟩:=I.loc; hn.lt
theorem Inv.sz (I:Inv X pins σ H s):X.s₀.heap.objs.size≤s.heap.objs.size:=Nat.le_trans I.ok.above (Nat.le_of_lt I.lt)
theorem Inv.nofs (I:Inv X pins σ H s) {a:Addr} (h:s.heap.objs.size≤a):a∉X.fs:=fun hb=>by
 obtain ⟨_,o,ho,_⟩:=I.ok.funs.mem hb
 exact absurd (Nat.lt_of_lt_of_le (Heap.lt_size ho) (Nat.le_trans I.sz h)) (Nat.lt_irrefl _)
theorem Inv.cne (I:Inv X pins σ H s):∀x c,X.env.cells.lookup x=some c→c≠X.env.locals:=fun x c e z=>by
 obtain ⟨v,o,ho,hd⟩:=I.cell x c e
 obtain ⟨m,⟨o',es,ep,ho',hd',_⟩,_⟩:=I.loc
 rw [z,ho'] at ho; cases ho; rw [hd'] at hd; cases hd
theorem Inv.funs (I:Inv X pins σ H s):s.heap.FunFrames X.base X.outer:=by
 have all:∀ (l:List Env),(∀b∈frs l,b∈X.fs)→X.s₀.heap.FunFrames X.base l→s.heap.FunFrames X.base l:=by
  intro l
  induction l with
  | nil=>intro _ _; trivial
  | cons env r ih =>
   intro hs hl
   obtain ⟨hk,⟨L,o,hf,hn,ho,hd⟩,hr⟩:=hl
   have hL:L∈X.fs:=hs L (by unfold frs; rw [List.filterMap_cons,hf]; exact List.mem_cons_self)
   obtain ⟨sl,e⟩:=I.base.slot L o ho (I.ok.frf L hL) hL fun z=>I.ok.exfs L z hL
   exact ⟨hk,⟨L,_,hf,hn,e,hd⟩,ih (fun b hb=>hs b (by unfold frs; rw [List.filterMap_cons,hf]; exact List.mem_cons_of_mem _ hb)) hr⟩
 exact all X.outer (fun _ hb=>hb) I.ok.funs
theorem Inv.stack (I:Inv X pins σ H s):s.heap.FunFrames X.base X.stack:=by
 rcases I.ok.stk with e | ⟨e,hf⟩
 ·rw [e]; exact I.funs
 ·rw [e]
  obtain ⟨m,hn,_⟩:=I.loc
  refine .cons (by rw [I.ok.kind]; decide) hf hn ?_ I.funs
  exact Heap.get?_none_of_le (Nat.le_trans I.ok.bsz I.ok.above)
theorem Inv.stkSub (I:Inv X pins σ H s):∀b∈frs X.stack,b∈X.env.locals :: X.fs:=fun b hb=>by
 rcases I.ok.stk with e | ⟨e,hf⟩
 ·rw [e] at hb; exact List.mem_cons_of_mem _ hb
 ·rw [e] at hb
  unfold frs at hb
  rw [List.filterMap_cons,hf] at hb
  exact hb
theorem Inv.stkFree (I:Inv X pins σ H s):∀b∈frs X.stack,H b=none:=fun b hb=>by
 rcases List.mem_cons.mp (I.stkSub b hb) with e | hb
 ·rw [e]; exact I.free
 ·obtain ⟨_,o,ho,_⟩:=I.ok.funs.mem hb
  exact I.base.free b o ho (I.ok.frf b hb) fun z=>I.ok.exfs b z hb
theorem Inv.step {g':Array GenState} {t':Nat} {d':Drawn} {ch:List Addr} (I:Inv X pins σ H s)
  (hch:∀b∈ch,(b∈X.ex∨X.s₀.heap.objs.size≤b)∧b≠X.env.locals∧(∀x c,X.env.cells.lookup x=some c→c≠b)∧∀p∈X.pn ++ pins,p.1≠b)
  (keep:∀b o,b≠X.env.locals→b∉X.fs→b∉ch→s.heap.get? b=some o→H b=none→h'.get? b=some o)
  (slot:∀b o,b≠X.env.locals→b∈X.fs→b∉ch→s.heap.get? b=some o→H b=none→∃sl,h'.get? b=some { o with slots:=sl }) (free:∀b o,b∉ch→s.heap.get? b=some o→H b=none→H' b=none)
  (there:∀b o,b∉ch→s.heap.get? b=some o→∃o',h'.get? b=some o')
  (tups:∀b xs,H b=some (.tup xs)→H' b=some (.tup xs)) (frzs:∀b o u,H b=some (.frz o u)→H' b=some (.frz o u)) (tbls:∀b ps,H b=some (.tbl ps)→∃more,H' b=some (.tbl (ps ++ more)))
  (ns:∀m,s.heap.Ns X.env.locals m→h'.Ns X.env.locals m) (hok:HOk X.prog X.w H' h') (hg:AllBare g') :
  Inv X pins σ H' { s with heap:=h',gens:=g',drawn:=d',toks:=t' }:=by
 have neL:∀b o,X.s₀.heap.get? b=some o→b≠X.env.locals:=fun b o e=>Nat.ne_of_lt (Nat.lt_of_lt_of_le (Heap.lt_size e) I.ok.above)
 have neC:∀b o,X.s₀.heap.get? b=some o→b∉X.ex→b∉ch:=fun b o e hx hb=>by
  rcases (hch b hb).1 with z | z
  ·exact hx z
  ·exact absurd (Nat.lt_of_lt_of_le (Heap.lt_size e) z) (Nat.lt_irrefl _)
 have cellK:∀x c,X.env.cells.lookup x=some c→∀v,s.heap.IsCell c v→h'.IsCell c v:=fun x c e v ⟨o,ho,hd⟩=>by
  have nch:c∉ch:=fun z=>(hch c z).2.2.1 x c e rfl
  by_cases hc:c∈X.fs
  ·obtain ⟨sl,q⟩:=slot c o (I.cne x c e) hc nch ho (I.freeC x c e)
   exact ⟨_,q,hd⟩
  ·exact ⟨o,keep c o (I.cne x c e) hc nch ho (I.freeC x c e),hd⟩
 refine ⟨I.ok,I.os,hg,⟨fun b o e n hb hx=>?_,fun b o e n hb hx=>?_,fun b o e n hx=>?_,fun b o e hx=>?_,fun b xs e=>tups b xs (I.base.tups b xs e),fun b o xs e=>frzs b o xs (I.base.frzs b o xs e),fun b ps e=>?_⟩,?_,fun x c e=>?_,?_,fun x c e=>?_,fun p hp=>?_,hok,I.len⟩
 ·exact keep b o (neL b o e) hb (neC b o e hx) (I.base.keep b o e n hb hx) (I.base.free b o e n hx)
 ·obtain ⟨sl,e1⟩:=I.base.slot b o e n hb hx
  obtain ⟨sl',e2⟩:=slot b _ (neL b o e) hb (neC b o e hx) e1 (I.base.free b o e n hx)
  exact ⟨sl',e2⟩
 ·obtain ⟨o',e1⟩:=I.base.there b o e hx
  exact free b o' (neC b o e hx) e1 (I.base.free b o e n hx)
 ·obtain ⟨o',e1⟩:=I.base.there b o e hx
  exact there b o' (neC b o e hx) e1
 ·obtain ⟨m1,e1⟩:=I.base.tbls b ps e
  obtain ⟨m2,e2⟩:=tbls b _ e1
  exact ⟨m1 ++ m2,by rw [e2,Array.append_assoc]⟩
 ·obtain ⟨m,hn,hl⟩:=I.loc
  refine ⟨m,ns m hn,fun i x v e1 e2 e3=>?_⟩
  obtain ⟨u,r,l⟩:=hl i x v e1 e2 e3
  refine ⟨u,r,?_⟩
  rcases l with l | ⟨k,c,e,z⟩
  ·exact .inl l
  ·exact .inr ⟨k,c,e,cellK x c e _ z⟩
 ·obtain ⟨v,z⟩:=I.cell x c e
  exact ⟨v,cellK x c e v z⟩
 ·obtain ⟨m,⟨o,_,_,ho,_⟩,_⟩:=I.loc
  exact free _ o (fun z=>(hch _ z).2.1 rfl) ho I.free
 ·obtain ⟨v,o,ho,hd⟩:=I.cell x c e
  exact free c o (fun z=>(hch c z).2.2.1 x c e rfl) ho (I.freeC x c e)
 ·obtain ⟨e,n,ne,nf,d⟩:=I.pin p hp
  have nch:p.1∉ch:=fun z=>(hch p.1 z).2.2.2 p hp rfl
  exact ⟨keep p.1 p.2 ne nf nch e n,free p.1 p.2 nch e n,ne,nf,d⟩
theorem Inv.un {t':Nat} (I:Inv X pins σ H s) (u:Un X.fs [] H H' s.heap h') (hok:HOk X.prog X.w H' h'):Inv X pins σ H' { s with heap:=h',toks:=t' }:=by
 obtain ⟨m,⟨o,es,ep,ho,r⟩,_⟩:=id I.loc
 obtain ⟨sl,hL⟩:=u.any ho I.free (by simp)
 exact I.step (g':=s.gens) (d':=s.drawn) (ch:=[]) (fun _ z=>nomatch z) (fun b o _ hb _ e n=>u.keep b o e n hb (by simp)) (fun b o _ hb _ e n=>u.slot b o e n hb (by simp)) (fun b o _ e n=>u.free b o e n (by simp)) (fun b o _ e=>u.there b o e (by simp)) u.tups u.frzs u.tbls (fun m' hm=>by
  obtain ⟨o',es',ep',ho',r'⟩:=hm
  rw [ho] at ho'; cases ho'
  exact ⟨_,es',ep',hL,r'⟩) hok I.bare
theorem Inv.call {g':Array GenState} {t':Nat} {d':Drawn} {ch:List Addr} (I:Inv X pins σ H s) (u:Un (frs X.stack) ch H H' s.heap h') (hok:HOk X.prog X.w H' h') (hg:AllBare g')
  (hch:∀b∈ch,(b∈X.ex∨X.s₀.heap.objs.size≤b)∧b≠X.env.locals∧(∀x c,X.env.cells.lookup x=some c→c≠b)∧∀p∈X.pn ++ pins,p.1≠b) :
  Inv X pins σ H' { s with heap:=h',gens:=g',drawn:=d',toks:=t' }:=by
 obtain ⟨m,⟨o,es,ep,ho,r⟩,_⟩:=id I.loc
 obtain ⟨sl,hL⟩:=u.any ho I.free fun z=>(hch _ z).2.1 rfl
 exact I.step (ch:=ch) hch (fun b o hL hb hc e n=>u.keep b o e n (fun z=>(List.mem_cons.mp (I.stkSub b z)).elim hL hb) hc) (fun b o _ _ hc e n=>u.any e n hc) (fun b o hc e n=>u.free b o e n hc) (fun b o hc e=>u.there b o e hc) u.tups u.frzs u.tbls (fun m' hm=>by
  obtain ⟨o',es',ep',ho',r'⟩:=hm
  rw [ho] at ho'; cases ho'
  exact ⟨_,es',ep',hL,r'⟩) hok hg
theorem Inv.turned {t':Nat} {it:Addr} (I:Inv X pins σ H s) (k:∀b o,b≠it→s.heap.get? b=some o→h'.get? b=some o) (hn:H it=none) (hL:it≠X.env.locals)
  (h1:it∈X.ex∨X.s₀.heap.objs.size≤it) (h2:∀x c,X.env.cells.lookup x=some c→c≠it) (h3:∀p∈X.pn ++ pins,p.1≠it):Inv X pins σ H { s with heap:=h',toks:=t' }:=by
 have nit:∀b u,H b=some u→b≠it:=fun b u e z=>by rw [z,hn] at e; cases e
 refine I.step (g':=s.gens) (d':=s.drawn) (ch:=[it]) (fun b hb=>?_) (fun b o _ _ hc e _=>k b o (fun z=>hc (by simp [z])) e) (fun b o _ _ hc e _=>⟨o.slots,k b o (fun z=>hc (by simp [z])) e⟩) (fun _ _ _ _ n=>n)
  (fun b o hc e=>⟨o,k b o (fun z=>hc (by simp [z])) e⟩) (fun _ _ e=>e) (fun _ _ _ e=>e) (fun b ps e=>⟨#[],by rw [e]; simp⟩) (fun m hm=>?_) (fun b u e=>?_) I.bare
 ·have e:b=it:=by simpa using hb
  subst e
  exact ⟨h1,hL,h2,h3⟩
 ·obtain ⟨o,es,ep,ho,r⟩:=hm
  exact ⟨o,es,ep,k _ o (Ne.symm hL) ho,r⟩
 ·refine (I.hok b u e).stay (fun c v hc q=>k c v ?_ q) (fun _ q=>q) fun _ _ q=>q
  rcases hc with z | z
  ·rw [z]; exact nit b u e
  ·exact nit c _ z
theorem Inv.tok (I:Inv X pins σ H s) (t:Nat):Inv X pins σ H { s with toks:=t }:=I.un (h':=s.heap) (t':=t) Un.refl I.hok
theorem Inv.kept {t':Nat} (I:Inv X pins σ H s) (k:∀b u,s.heap.get? b=some u→h'.get? b=some u):Inv X pins σ H { s with heap:=h',toks:=t' }:=I.un (Un.kept k) (I.hok.kept k)
theorem Inv.laid {a:Addr} {o:HO} {t':Nat} (I:Inv X pins σ H s) (k:∀b u,s.heap.get? b=some u→h'.get? b=some u) (hp:s.heap.objs.size≤a) (new:ObjOk X.prog X.w (upd H a o) h' a o) :
  Inv X pins σ (upd H a o) { s with heap:=h',toks:=t' }:=I.un (Un.laid k hp (I.hok.fresh hp)) (I.hok.laid k hp new)
theorem Inv.write {x e:Addr} {o:HO} {t':Nat} (I:Inv X pins σ H s) (mu:Mut (H x)) (he:e=x∨H e=some (.own x)) (k:∀b u,b≠e→s.heap.get? b=some u→h'.get? b=some u) (heo:∃u,h'.get? e=some u)
  (new:ObjOk X.prog X.w (upd H x o) h' x o):Inv X pins σ (upd H x o) { s with heap:=h',toks:=t' }:=I.un (Un.write mu he k heo) (I.hok.write mu he k heo new)
theorem Inv.weak {σ':List (Option V)} (I:Inv X pins σ H s) (hl:σ'.length=σ.length) (w:∀ (i:Nat) v,σ'[i]? = some (some v)→σ[i]? = some (some v)):Inv X pins σ' H s :=
 ⟨I.ok,I.os,I.bare,I.base,let ⟨m,hn,hl'⟩:=I.loc; ⟨m,hn,fun i x v e1 e2 e3=>hl' i x v e1 (w i v e2) e3⟩,I.cell,I.free,I.freeC,I.pin,I.hok,hl.trans I.len⟩
theorem Inv.pins_of {pins':List (Addr×Obj)} (I:Inv X pins σ H s) (h:∀p∈pins',s.heap.get? p.1=some p.2∧H p.1=none∧p.1≠X.env.locals∧p.1∉X.fs∧∀v,p.2.data≠.cell v):Inv X pins' σ H s :=
 ⟨I.ok,I.os,I.bare,I.base,I.loc,I.cell,I.free,I.freeC,fun p hp=>(List.mem_append.mp hp).elim (fun z=>I.pin p (List.mem_append_left _ z)) (h p),I.hok,I.len⟩
theorem ii {N:List Str} (hN:N.Nodup) {i j:Nat} {x:Str} (a:N[i]? = some x) (b:N[j]? = some x):i=j:=by
 obtain ⟨h1,e1⟩:=List.getElem?_eq_some_iff.mp a
 obtain ⟨h2,e2⟩:=List.getElem?_eq_some_iff.mp b
 exact (List.getElem_inj hN).mp (e1.trans e2.symm)
theorem fW {M:Model} {A:Around} {E:Value→Shared→Prop} {i:Nat} {x:Str} {v:V} {u:Value} {Q:Unit→Shared→Prop} (I:Inv X pins σ H s) (hN:X.N.Nodup) (hi:X.N[i]? = some x) (hx:Loc X.env.scope x) (r:RelV v u)
  (h:∀s',Inv X pins (σ.set i (some v)) H s'→(∃a,Heap.SameBut a s.heap s'.heap∧(a=X.env.locals∨X.env.cells.lookup x=some a))→Q () s') (hf:X.fn x=true∨X.env.scope.names.lookup x=some .local:=by first | exact .inl rfl | exact .inr rfl | assumption):wpAny M A (storeName X.env x u) Q E s:=by
 obtain ⟨m,hn,hl⟩:=id I.loc
 have hcls:(X.env.scope.kind == .class || (X.env.scope.kind == .module && X.env.locals != X.env.globals))=false:=by rw [I.ok.kind]; rfl
 have hiσ:i < σ.length:=by rw [I.len]; exact (List.getElem?_eq_some_iff.mp hi).1
 have cne:=I.cne
 have tracked:∀ {a:Addr} {h':Heap},(∃o,s.heap.get? a=some o∧H a=none)→Heap.SameBut a s.heap h'→HOk X.prog X.w H h':=fun {a h'} ha hs b ob e=>by
  obtain ⟨_,_,hfree⟩:=ha
  refine (I.hok b ob e).stay (fun c w' hc q=>(hs.2 c ?_).trans q) (fun _ q=>q) fun _ _ q=>q
  rintro rfl
  rcases hc with rfl | hc
  ·rw [hfree] at e; cases e
  ·rw [hfree] at hc; cases hc
 rcases hx with hk | hk
 ·refine wpAny_storeName_local hk hn (fun h' hn' hs=>?_) hcls
  obtain ⟨oL,_,_,hoL,_⟩:=id hn
  refine h _ ⟨I.ok,I.os,I.bare,⟨fun b o e n hb hx=>?_,fun b o e n hb hx=>?_,I.base.free,fun b o e hx=>?_,I.base.tups,I.base.frzs,I.base.tbls⟩,⟨_,hn',fun j y v' e1 e2 e3=>?_⟩,fun y c e=>?_,I.free,I.freeC,fun p hp=>?_,tracked ⟨oL,hoL,I.free⟩ hs,by simpa using I.len⟩ ⟨_,hs,.inl rfl⟩
  ·exact (hs.2 b (Nat.ne_of_lt (Nat.lt_of_lt_of_le (Heap.lt_size e) I.ok.above))).trans (I.base.keep b o e n hb hx)
  ·obtain ⟨sl,e1⟩:=I.base.slot b o e n hb hx
   exact ⟨sl,(hs.2 b (Nat.ne_of_lt (Nat.lt_of_lt_of_le (Heap.lt_size e) I.ok.above))).trans e1⟩
  ·obtain ⟨o',e1⟩:=I.base.there b o e hx
   exact ⟨o',(hs.2 b (Nat.ne_of_lt (Nat.lt_of_lt_of_le (Heap.lt_size e) I.ok.above))).trans e1⟩
  ·by_cases hj:j=i
   ·subst hj
    rw [hi] at e1; cases e1
    rw [List.getElem?_set_self hiσ] at e2
    cases e2
    exact ⟨u,r,.inl ⟨hk,by simp⟩⟩
   ·rw [List.getElem?_set_ne (Ne.symm hj)] at e2
    obtain ⟨u',r',q⟩:=hl j y v' e1 e2 e3
    refine ⟨u',r',?_⟩
    rcases q with ⟨k,e⟩ | ⟨k,c,e,z⟩
    ·refine .inl ⟨k,?_⟩
     have:y≠x:=fun e=>hj (ii hN e1 (e ▸ hi))
     simp [this,e]
    ·exact .inr ⟨k,c,e,z.sameBut hs (cne y c e)⟩
  ·obtain ⟨w',z⟩:=I.cell y c e
   exact ⟨w',z.sameBut hs (cne y c e)⟩
  ·obtain ⟨e,n,ne,nf,d⟩:=I.pin p hp
   exact ⟨(hs.2 p.1 ne).trans e,n,ne,nf,d⟩
 ·have hfn:X.fn x=true:=by
   rcases hf with z | z
   ·exact z
   ·rw [z] at hk; cases hk
  obtain ⟨c,hc⟩:=I.ok.has x (.inl hk)
  obtain ⟨w',z⟩:=I.cell x c hc
  refine wpAny_storeName_cell I.ok.kind hk hc z (fun h' hc' hs=>?_)
  obtain ⟨oc,hoc,hocd⟩:=id z
  refine h { s with heap:=h' } ⟨I.ok,I.os,I.bare,⟨fun b o e n hb hx=>?_,fun b o e n hb hx=>?_,I.base.free,fun b o e hx=>?_,I.base.tups,I.base.frzs,I.base.tbls⟩,⟨m,hn.sameBut hs (Ne.symm (cne x c hc)),fun j y v' e1 e2 e3=>?_⟩,fun y c' e=>?_,I.free,I.freeC,fun p hp=>?_,tracked ⟨oc,hoc,I.freeC x c hc⟩ hs,by simpa using I.len⟩ ⟨c,hs,.inr hc⟩
  ·exact (hs.2 b (Nat.ne_of_lt (Nat.lt_of_lt_of_le (Heap.lt_size e) (I.ok.cab x c hfn hc)))).trans (I.base.keep b o e n hb hx)
  ·obtain ⟨sl,e1⟩:=I.base.slot b o e n hb hx
   exact ⟨sl,(hs.2 b (Nat.ne_of_lt (Nat.lt_of_lt_of_le (Heap.lt_size e) (I.ok.cab x c hfn hc)))).trans e1⟩
  ·obtain ⟨o',e1⟩:=I.base.there b o e hx
   exact ⟨o',(hs.2 b (Nat.ne_of_lt (Nat.lt_of_lt_of_le (Heap.lt_size e) (I.ok.cab x c hfn hc)))).trans e1⟩
  ·by_cases hj:j=i
   ·subst hj
    rw [hi] at e1; cases e1
    rw [List.getElem?_set_self hiσ] at e2
    cases e2
    exact ⟨u,r,.inr ⟨.inl hk,c,hc,hc'⟩⟩
   ·rw [List.getElem?_set_ne (Ne.symm hj)] at e2
    obtain ⟨u',r',q⟩:=hl j y v' e1 e2 e3
    refine ⟨u',r',?_⟩
    rcases q with q | ⟨k,c',e,z'⟩
    ·exact .inl q
    ·refine .inr ⟨k,c',e,z'.sameBut hs ?_⟩
     rintro rfl
     exact hj (ii hN e1 (I.ok.inj _ _ _ e hc ▸ hi))
  ·by_cases hcc:c'=c
   ·subst hcc; exact ⟨_,hc'⟩
   ·obtain ⟨w2,z2⟩:=I.cell y c' e
    exact ⟨w2,z2.sameBut hs hcc⟩
  ·obtain ⟨e,n,ne,nf,d⟩:=I.pin p hp
   refine ⟨(hs.2 p.1 ?_).trans e,n,ne,nf,d⟩
   intro q
   rw [q,hoc] at e
   have q':oc=p.2:=Option.some.inj e
   exact d w' (by rw [← q']; exact hocd)
theorem dF {M:Model} {A:Around} {E:Value→Shared→Prop} {i:Nat} {x:Str} {v:V} {u:Value} {Q:Unit→Shared→Prop} (I:Inv X pins σ H s) (hN:X.N.Nodup) (hi:X.N[i]? = some x) (hx:Loc X.env.scope x) (r:RelV v u)
  (h:∀s',Inv X pins (σ.set i (some v)) H s'→Q () s') (hf:X.fn x=true∨X.env.scope.names.lookup x=some .local:=by first | exact .inl rfl | exact .inr rfl | assumption):wpAny M A (storeName X.env x u) Q E s :=
 fW I hN hi hx r (fun s' I' _=>h s' I') hf
theorem Inv.call' {s':Shared} {ch:List Addr} (I:Inv X pins σ H s) (ho:s'.os=s.os) (u:Un (frs X.stack) ch H H' s.heap s'.heap) (hok:HOk X.prog X.w H' s'.heap) (hg:AllBare s'.gens)
  (hch:∀b∈ch,(b∈X.ex∨X.s₀.heap.objs.size≤b)∧b≠X.env.locals∧(∀x c,X.env.cells.lookup x=some c→c≠b)∧∀p∈X.pn ++ pins,p.1≠b):Inv X pins σ H' s':=by
 obtain ⟨h',g',d',t',o'⟩:=s'
 have e:o'=s.os:=ho
 subst e
 exact I.call (g':=g') (t':=t') (d':=d') u hok hg hch
end
abbrev XK:=Value→Option Addr→Hp→Prop
abbrev St:=List (Option V)
abbrev VK:=V→Hp→Prop
abbrev TE:=St→Hp→VK→Prop
abbrev TT:=St→Hp→(Bool→Hp→Prop)→Prop
abbrev TA:=St→Hp→(List V→Hp→Prop)→Prop
structure Ends where
 nx:St→Hp→Prop
 rt:VK
 bk:St→Hp→Prop:=fun _ _=>False
 ct:St→Hp→Prop:=fun _ _=>False
abbrev TS:=Ends→St→Hp→Prop
def EP (X:Cx) (pins:List (Addr×Obj)) (σ:St) (Q:VK) (u:Value) (s':Shared):Prop:=∃v H',Inv X pins σ H' s'∧RelV v u∧Q v H'
def TP (X:Cx) (pins:List (Addr×Obj)) (σ:St) (Q:Bool→Hp→Prop) (b:Bool) (s':Shared):Prop:=∃H',Inv X pins σ H' s'∧Q b H'
def AP (X:Cx) (pins:List (Addr×Obj)) (σ:St) (Q:List V→Hp→Prop) (us:List Value) (s':Shared):Prop:=∃vs H',Inv X pins σ H' s'∧Vals vs us∧Q vs H'
def SP (X:Cx) (pins:List (Addr×Obj)) (D:Ends) (f:Flow) (s':Shared):Prop :=
 match f with
 | .next=>∃σ' H',Inv X pins σ' H' s'∧D.nx σ' H'
 | .brk=>∃σ' H',Inv X pins σ' H' s'∧D.bk σ' H'
 | .cont=>∃σ' H',Inv X pins σ' H' s'∧D.ct σ' H'
 | .ret u=>∃v σ' H',Inv X pins σ' H' s'∧RelV v u∧D.rt v H'
def PE (X:Cx) (e:Expr) (t:TE):Prop :=
 ∀ (pins:List (Addr×Obj)) (s:Shared) (σ:St) (H:Hp) (Q:VK),Inv X pins σ H s→t σ H Q→wpAny (model X.prog X.w) X.A (eval e X.env) (EP X pins σ Q) X.xe s
def PT (X:Cx) (e:Expr) (t:TT):Prop :=
 ∀ (pins:List (Addr×Obj)) (s:Shared) (σ:St) (H:Hp) (Q:Bool→Hp→Prop),Inv X pins σ H s→t σ H Q→wpAny (model X.prog X.w) X.A (isTrue e X.env (eval e X.env)) (TP X pins σ Q) X.xe s
def PW (X:Cx) (e:Expr) (t:TT):Prop :=
 ∀ (aQ:Sem Value) (pins:List (Addr×Obj)) (s:Shared) (σ:St) (H:Hp) (Q:Bool→Hp→Prop),Inv X pins σ H s→t σ H Q→wpAny (model X.prog X.w) X.A (isTrue e X.env aQ) (TP X pins σ Q) X.xe s
theorem PW.pt {X:Cx} {e:Expr} {t:TT} (h:PW X e t):PT X e t:=h _
def PA (X:Cx) (es:List Expr) (t:TA):Prop :=
 ∀ (pos:Pos) (pins:List (Addr×Obj)) (s:Shared) (σ:St) (H:Hp) (Q:List V→Hp→Prop),Inv X pins σ H s→t σ H Q→wpAny (model X.prog X.w) X.A (spliced (backTo pos (starEach es X.env))) (AP X pins σ Q) X.xe s
def PS (X:Cx) (st:Stmt) (t:TS):Prop :=
 ∀ (pins:List (Addr×Obj)) (s:Shared) (σ:St) (H:Hp) (D:Ends),Inv X pins σ H s→t D σ H→wpAny (model X.prog X.w) X.A (exec st X.env) (SP X pins D) X.xe s
def PSs (X:Cx) (st:List Stmt) (t:TS):Prop :=
 ∀ (pins:List (Addr×Obj)) (s:Shared) (σ:St) (H:Hp) (D:Ends),Inv X pins σ H s→t D σ H→wpAny (model X.prog X.w) X.A (execs st X.env) (SP X pins D) X.xe s
theorem thn {α:Type} {t:Sem α} {Q Q':α→Shared→Prop} {M:Model} {A:Around} {E:Value→Shared→Prop} {s:Shared} (h:wpAny M A t Q E s) (hQ:∀a s,Q a s→Q' a s):wpAny M A t Q' E s:=wpAny_mono h hQ fun _ _ x=>x
end L2
namespace L2
open PySem PySem.Spec PyProof.Rows
section
variable {X:Cx}
theorem bin {a b:Expr} {ta tb:TE} (ha:PE X a ta) (hb:PE X b tb) {pins:List (Addr×Obj)} {s:Shared} {σ:St} {H:Hp} {R:V→V→Hp→Prop} (I:Inv X pins σ H s) (h:ta σ H fun x H1=>tb σ H1 fun y H2=>R x y H2)
  {α:Type} {Q:α→Shared→Prop} {f:Value→Value→Sem α}
  (hf:∀v u s2 x y H2,Inv X pins σ H2 s2→RelV x v→RelV y u→R x y H2→wpAny (model X.prog X.w) X.A (f v u) Q X.xe s2) :
  wpAny (model X.prog X.w) X.A (eval a X.env) (fun v s₁=>wpAny (model X.prog X.w) X.A (eval b X.env) (fun u s₂=>wpAny (model X.prog X.w) X.A (f v u) Q X.xe s₂) X.xe s₁) X.xe s:=by
 refine thn (ha pins s σ H _ I h) fun v s1 ⟨x,H1,I1,r1,q1⟩=>?_
 refine thn (hb pins s1 σ H1 _ I1 q1) fun u s2 ⟨y,H2,I2,r2,q2⟩=>?_
 exact hf v u s2 x y H2 I2 r1 r2 q2
def oj (i:Nat):TE:=fun σ H Q=>∃v,σ[i]? = some (some v)∧Q v H
def tC (v:V):TE:=fun _ H Q=>Q v H
theorem qp {i:Nat} {x:Str} {pos:Pos} (hN:X.N[i]? = some x) (hv:Vis X.env.scope x) (hd:(x == ("__debug__" : Str))=false:=by decide) (hcd:(x == ("__classdict__" : Str))=false:=by decide):PE X (.Name x pos) (oj i):=by
 intro pins s σ H Q I h
 obtain ⟨v,e,h⟩:=h
 obtain ⟨m,hn,hl⟩:=I.loc
 obtain ⟨u,r,l⟩:=hl i x v hN e hv
 have fin:EP X pins σ Q u s:=⟨v,H,I,r,h⟩
 rcases l with ⟨hk,hm⟩ | ⟨hk,c,hc,hcell⟩
 ·exact wpAny_Name (wpAny_loadName_local I.ok.kind hk hn hm fin) hd
 ·rcases hk with hk | hk
  ·exact wpAny_Name (wpAny_loadName_cell I.ok.kind hk hc hcell fin) hd
  ·exact wpAny_Name (wpAny_loadName_free I.ok.kind hk hc hcell fin hcd) hd
theorem ae {i j pos}:PE X (.Constant (.int i) j pos) (tC (.int i)):=fun _ _ _ H _ I h=>wpAny_Constant_int ⟨.int i,H,I.tok _,⟨_,rfl⟩,h⟩
theorem cb {b j pos}:PE X (.Constant (.bool b) j pos) (tC (.bl b)):=fun _ _ _ H _ I h=>Constant_bool ⟨.bl b,H,I,rfl,h⟩
theorem gC {j pos}:PE X (.Constant .none j pos) (tC .non):=fun _ _ _ H _ I h=>Constant_none ⟨.non,H,I,rfl,h⟩
theorem ek {x j pos}:PE X (.Constant (.str x) j pos) (tC (.str x)):=fun _ _ _ H _ I h=>Calls.Constant_str ⟨.str x,H,I.tok _,⟨_,rfl⟩,h⟩
def Gl (X:Cx) (x:Str):Prop:=X.env.kindOf x=some .globalImplicit
theorem gD {E:Value→Shared→Prop} {pins:List (Addr×Obj)} {s:Shared} {σ:St} {H:Hp} {x:Str} {u:Value} {pos:Pos} {Q:Value→Shared→Prop} (I:Inv X pins σ H s) (hg:Gl X x) (hm:X.mg x=some u) (h:Q u s)
  (hd:(x == ("__debug__" : Str))=false:=by decide):wpAny (model X.prog X.w) X.A (eval (.Name x pos) X.env) Q E s :=
 Calls.Name_function_global I.ok.kind hg (Calls.loadGlobal_global (by rw [I.ok.glob]; exact I.mod.glob.keeps I.bk) hm h) hd
theorem du {E:Value→Shared→Prop} {pins:List (Addr×Obj)} {s:Shared} {σ:St} {H:Hp} {x:Str} {u:Value} {pos:Pos} {Q:Value→Shared→Prop} (I:Inv X pins σ H s) (hg:Gl X x) (hm:X.mg x=none) (hv:bootBuiltins x=some u) (h:Q u s)
  (hn:x ≠ "__name__" := by decide) (hd:(x == ("__debug__" : Str))=false:=by decide):wpAny (model X.prog X.w) X.A (eval (.Name x pos) X.env) Q E s:=by
 obtain ⟨mb,h1,h2⟩:=I.mod.blt
 exact Calls.Name_function_global I.ok.kind hg (Calls.loadGlobal_builtin (by rw [I.ok.glob]; exact I.mod.glob.keeps I.bk) hm (by rw [I.ok.blt]; exact h1.keeps I.bk) ((h2 x hn).trans hv) h) hd
theorem bm {x:Str} {v:V} {u:Value} {pos:Pos} (hg:Gl X x) (hm:X.mg x=some u) (r:RelV v u) (hd:(x == ("__debug__" : Str))=false:=by decide):PE X (.Name x pos) (tC v) :=
 fun _ _ _ H _ I h=>gD I hg hm ⟨v,H,I,r,h⟩ hd
theorem dG {x:Str} {v:V} {u:Value} {pos:Pos} (hg:Gl X x) (hm:X.mg x=none) (hv:bootBuiltins x=some u) (r:RelV v u) (hn:x ≠ "__name__" := by decide) (hd:(x == ("__debug__" : Str))=false:=by decide):PE X (.Name x pos) (tC v) :=
 fun _ _ _ H _ I h=>du I hg hm hv ⟨v,H,I,r,h⟩ hn hd
variable {a b:Expr} {ta tb:TE} {pos:Pos}
def PC (X:Cx) (op:CmpOp) (a b:Expr) (t:TE):Prop :=
 ∀ (pins:List (Addr×Obj)) (s:Shared) (σ:St) (H:Hp) (Q:VK),Inv X pins σ H s→t σ H Q →
  wpAny (model X.prog X.w) X.A (eval a X.env) (fun v s₁=>wpAny (model X.prog X.w) X.A (eval b X.env) (fun u s₂=>wpAny (model X.prog X.w) X.A (compareOp op v u) (EP X pins σ Q) X.xe s₂) X.xe s₁) X.xe s
def tB (t:TE):TT:=fun σ H Q=>t σ H fun x H1=>∃c,x=.bl c∧Q c H1
theorem zQ {op:CmpOp} {t:TE} (h:PC X op a b t) (h1:behindInMarks op b=false:=by first | exact nobehind _ (by decide) (by decide) | rfl):PT X (.Compare a [op] [b] pos) (tB t):=by
 intro pins s σ H Q I hw
 refine wpAny_isTrue_Compare1 (thn (h pins s σ H _ I hw) fun v s1 h1=>thn h1 fun u s2 h2=>thn h2 fun c s3 ⟨x,H1,I1,r1,q1⟩=>?_) h1
 obtain ⟨d,rfl,q⟩:=q1
 cases r1
 exact wpAny_truthy_bool ⟨H1,I1,q⟩
theorem aR {e:Expr} {t:TE} (h:PE X e t) (he:∀aQ,isTrue e X.env aQ=(do let v←aQ; standAt e.pos; holding [v] (truthy v)):=by intro _; rfl):PT X e (tB t):=by
 intro pins s σ H Q I hw
 refine isTrue_plain (thn (h pins s σ H _ I hw) fun v s1 ⟨x,H1,I1,r1,q1⟩=>?_) (he _)
 obtain ⟨d,rfl,q⟩:=q1
 cases r1
 exact wpAny_truthy_bool ⟨H1,I1,q⟩
variable {tA tB':TT} {rest:List Expr}
def zR (t u:TT):TT:=fun σ H Q=>t σ H fun c H1=>if c=true then u σ H1 Q else Q false H1
def tOr (t u:TT):TT:=fun σ H Q=>t σ H fun c H1=>if c=true then Q true H1 else u σ H1 Q
def tJ (t:TT):TT:=fun σ H Q=>t σ H fun c H1=>Q (!c) H1
theorem dH (ha:PT X a tA):PW X (.BoolOp .And [a] pos) tA:=by
 intro wh pins s σ H Q I h
 refine isTrue_and (thn (ha pins s σ H Q I h) fun c s1 e=>?_)
 cases c with
 | true=>exact isTrue_and_nil e
 | false=>exact e
theorem cA (ha:PT X a tA):PW X (.BoolOp .Or [a] pos) tA:=by
 intro wh pins s σ H Q I h
 refine isTrue_or (thn (ha pins s σ H Q I h) fun c s1 e=>?_)
 cases c with
 | false=>exact isTrue_or_nil e
 | true=>exact e
theorem ff (ha:PT X a tA) (hb:PW X (.BoolOp .And (b :: rest) pos) tB'):PW X (.BoolOp .And (a :: b :: rest) pos) (zR tA tB'):=by
 intro wh pins s σ H Q I h
 refine isTrue_and (thn (ha pins s σ H _ I h) fun c s1 ⟨H1,I1,q1⟩=>?_)
 cases c with
 | true=>exact hb wh pins s1 σ H1 Q I1 q1
 | false=>exact ⟨H1,I1,q1⟩
theorem cM (ha:PT X a tA) (hb:PW X (.BoolOp .Or (b :: rest) pos) tB'):PW X (.BoolOp .Or (a :: b :: rest) pos) (tOr tA tB'):=by
 intro wh pins s σ H Q I h
 refine isTrue_or (thn (ha pins s σ H _ I h) fun c s1 ⟨H1,I1,q1⟩=>?_)
 cases c with
 | true=>exact ⟨H1,I1,q1⟩
 | false=>exact hb wh pins s1 σ H1 Q I1 q1
theorem aZ (ha:PT X a tA):PT X (.UnaryOp .Not a pos) (tJ tA):=by
 intro pins s σ H Q I h
 exact isTrue_not (ha pins s σ H (fun c H1=>Q (!c) H1) I h)
def tK (ta tb:TE):TE:=fun σ H Q=>ta σ H fun x H1=>∃c,x=.bl c∧if c=true then tb σ H1 Q else Q (.bl false) H1
def zS (ta tb:TE):TE:=fun σ H Q=>ta σ H fun x H1=>∃c,x=.bl c∧if c=true then Q (.bl true) H1 else tb σ H1 Q
def tL (ta:TE):TE:=fun σ H Q=>ta σ H fun x H1=>∃c,x=.bl c∧Q (.bl (!c)) H1
theorem dv {op} {t:TE} (h:PE X a t):PE X (.BoolOp op [a] pos) t:=fun pins s σ H Q I hw=>BoolOp_one (h pins s σ H Q I hw)
theorem dw (ha:PE X a ta) (hb:PE X (.BoolOp .And (b :: rest) pos) tb):PE X (.BoolOp .And (a :: b :: rest) pos) (tK ta tb):=by
 intro pins s σ H Q I h
 refine BoolOp_and (thn (ha pins s σ H _ I h) fun v s1 ⟨x,H1,I1,r1,q1⟩=>?_)
 obtain ⟨c,rfl,q1⟩:=q1
 cases r1
 refine wpAny_truthy_bool ?_
 cases c with
 | true=>exact hb pins s1 σ H1 Q I1 q1
 | false=>exact ⟨.bl false,H1,I1,rfl,q1⟩
theorem jR (ha:PE X a ta) (hb:PE X (.BoolOp .Or (b :: rest) pos) tb):PE X (.BoolOp .Or (a :: b :: rest) pos) (zS ta tb):=by
 intro pins s σ H Q I h
 refine BoolOp_or (thn (ha pins s σ H _ I h) fun v s1 ⟨x,H1,I1,r1,q1⟩=>?_)
 obtain ⟨c,rfl,q1⟩:=q1
 cases r1
 refine wpAny_truthy_bool ?_
 cases c with
 | false=>exact hb pins s1 σ H1 Q I1 q1
 | true=>exact ⟨.bl true,H1,I1,rfl,q1⟩
theorem mn (ha:PE X a ta):PE X (.UnaryOp .Not a pos) (tL ta):=by
 intro pins s σ H Q I h
 refine UnaryOp_ (thn (ha pins s σ H _ I h) fun v s1 ⟨x,H1,I1,r1,q1⟩=>?_)
 obtain ⟨c,rfl,q1⟩:=q1
 cases r1
 exact not_of (wpAny_truthy_bool ⟨.bl (!c),H1,I1,rfl,q1⟩)
def tIf (t:TT) (ta tb:TE):TE:=fun σ H Q=>t σ H fun c H1=>if c=true then ta σ H1 Q else tb σ H1 Q
theorem ij {c:Expr} (hc:PT X c tA) (ha:PE X a ta) (hb:PE X b tb):PE X (.IfExp c a b pos) (tIf tA ta tb):=by
 intro pins s σ H Q I h
 refine wpAny_IfExp (thn (hc pins s σ H _ I h) fun d s1 ⟨H1,I1,q1⟩=>?_)
 cases d with
 | true=>exact ha pins s1 σ H1 Q I1 q1
 | false=>exact hb pins s1 σ H1 Q I1 q1
end
end L2
namespace L2
open PySem PySem.Spec PyProof.Rows
def SqL (K:PySem.W.Frag) (H:Hp) (a:Addr) (xs:List V):Prop :=
 Rd H a (.lst xs) ∨
  ∃ (o:Obj) (its:Array Value) (n:Nat),K.lookup a=some o∧o.cls=.type "list" ∧ o.dict=none∧o.data=.seq its n∧its.size≤sizeLine∧Vals xs its.toList
def SqT (K:PySem.W.Frag) (H:Hp) (a:Addr) (xs:List V):Prop :=
 Rd H a (.tup xs) ∨
  ∃ (o:Obj) (its:Array Value) (n:Nat),K.lookup a=some o∧o.cls=.type "tuple" ∧ o.data=.seq its n∧its.size≤sizeLine∧Vals xs its.toList
def zT:Value→Option V
 | .none=>some .non
 | .bool b=>some (.bl b)
 | .int i _=>some (.int i)
 | .str x _=>some (.str x)
 | .bytes b _=>some (.byt b)
 | .float b _=>some (.flt b)
 | .ref a=>some (.ref a)
 | .type n=>some (.ty n)
 | _=>none
theorem RelV.abs {x:V} {u:Value} (r:RelV x u):zT u=some x:=by
 cases x with
 | non=>cases r; rfl
 | bl _=>cases r; rfl
 | int _=>obtain ⟨t,rfl⟩:=r; rfl
 | str _=>obtain ⟨t,rfl⟩:=r; rfl
 | byt _=>obtain ⟨t,rfl⟩:=r; rfl
 | flt _=>obtain ⟨t,rfl⟩:=r; rfl
 | ref _=>cases r; rfl
 | ty _=>cases r; rfl
theorem RelV.inj {x y:V} {u:Value} (r:RelV x u) (q:RelV y u):x=y:=Option.some.inj (r.abs.symm.trans q.abs)
theorem Vals.inj:∀ {xs ys:List V} {us:List Value},Vals xs us→Vals ys us→xs=ys
 | _,_,_,.nil,.nil=>rfl
 | _,_,_,.cons r t,.cons r' t'=>by rw [r.inj r',Vals.inj t t']
section
variable {X:Cx} {pins:List (Addr×Obj)} {σ:St} {H:Hp} {s:Shared} {a:Addr} {xs ys:List V}
theorem SqL.of {K:PySem.W.Frag} (h:H a=some (.lst xs)):SqL K H a xs:=.inl (.inl h)
theorem SqT.of {K:PySem.W.Frag} (h:H a=some (.tup xs)):SqT K H a xs:=.inl (.inl h)
theorem Inv.list (I:Inv X pins σ H s) (h:SqL X.K H a xs):∃its:List Value,Vals xs its∧PlainL s.heap a its.toArray∧xs.length≤sizeLine:=by
 rcases h with h | ⟨o,its,n,hk,hc,hd,hs,hz,r⟩
 ·obtain ⟨z,its,n,r,e⟩:=h.ok I.hok
  exact ⟨its,r,⟨_,n,e,rfl,rfl,rfl⟩,z⟩
 ·refine ⟨its.toList,r,⟨o,n,I.kIn a o hk,hc,hd,by simpa using hs⟩,?_⟩
  have e:=r.length
  simp only [Array.length_toList] at e
  omega
theorem Inv.tuple (I:Inv X pins σ H s) (h:SqT X.K H a xs):∃its:List Value,Vals xs its∧IsTup s.heap a its.toArray∧xs.length≤sizeLine:=by
 rcases h with h | ⟨o,its,n,hk,hc,hs,hz,r⟩
 ·obtain ⟨z,its,r,p⟩:=h.ok I.hok
  exact ⟨its,r,p,z⟩
 ·refine ⟨its.toList,r,⟨o,I.kIn a o hk,hc,n,by simpa using hs⟩,?_⟩
  have e:=r.length
  simp only [Array.length_toList] at e
  omega
theorem Inv.list_inj (I:Inv X pins σ H s) (h:SqL X.K H a xs) (h':SqL X.K H a ys):xs=ys:=by
 obtain ⟨its,r,⟨o,n,e,_,_,d⟩,_⟩:=I.list h
 obtain ⟨its',r',⟨o',n',e',_,_,d'⟩,_⟩:=I.list h'
 rw [e] at e'; cases e'
 rw [d] at d'
 injection d' with d1 _
 have:its=its':=by simpa using congrArg Array.toList d1
 subst this
 exact r.inj r'
theorem Inv.tuple_inj (I:Inv X pins σ H s) (h:SqT X.K H a xs) (h':SqT X.K H a ys):xs=ys:=by
 obtain ⟨its,r,⟨o,e,_,n,d⟩,_⟩:=I.tuple h
 obtain ⟨its',r',⟨o',e',_,n',d'⟩,_⟩:=I.tuple h'
 rw [e] at e'; cases e'
 rw [d] at d'
 injection d' with d1 _
 have:its=its':=by simpa using congrArg Array.toList d1
 subst this
 exact r.inj r'
end
abbrev Cx.wish (X:Cx) (E:Value→Shared→Prop):Cx:={ X with xe:=E }
abbrev Cx.nox (X:Cx):Cx:=X.wish fun _ _=>False
theorem Cx.Ok.wish {X:Cx} (ok:X.Ok) (E:Value→Shared→Prop):(X.wish E).Ok :=
 ⟨ok.mod,ok.kind,ok.glob,ok.blt,ok.above,ok.inj,ok.has,ok.cab,ok.hd,ok.frames,ok.stk,ok.exf,ok.bs,ok.bsz,ok.noex,ok.exfs,ok.funs,ok.frf⟩
theorem Cx.Ok.unwish {X:Cx} {E:Value→Shared→Prop} (ok:(X.wish E).Ok):X.Ok :=
 ⟨ok.mod,ok.kind,ok.glob,ok.blt,ok.above,ok.inj,ok.has,ok.cab,ok.hd,ok.frames,ok.stk,ok.exf,ok.bs,ok.bsz,ok.noex,ok.exfs,ok.funs,ok.frf⟩
section
variable {X:Cx} {pins:List (Addr×Obj)} {σ:St} {H:Hp} {s:Shared} {E:Value→Shared→Prop}
theorem Inv.wish (I:Inv X pins σ H s) (E:Value→Shared→Prop):Inv (X.wish E) pins σ H s:=⟨I.ok.wish E,I.os,I.bare,I.base,I.loc,I.cell,I.free,I.freeC,I.pin,I.hok,I.len⟩
theorem Inv.unwish (I:Inv (X.wish E) pins σ H s):Inv X pins σ H s:=⟨I.ok.unwish,I.os,I.bare,I.base,I.loc,I.cell,I.free,I.freeC,I.pin,I.hok,I.len⟩
theorem SP.unwish {D:Ends} {f:Flow} {s':Shared} (h:SP (X.wish E) pins D f s'):SP X pins D f s':=by
 cases f with
 | next=>obtain ⟨σ',H',I,q⟩:=h; exact ⟨σ',H',I.unwish,q⟩
 | brk=>obtain ⟨σ',H',I,q⟩:=h; exact ⟨σ',H',I.unwish,q⟩
 | cont=>obtain ⟨σ',H',I,q⟩:=h; exact ⟨σ',H',I.unwish,q⟩
 | ret u=>obtain ⟨v,σ',H',I,r,q⟩:=h; exact ⟨v,σ',H',I.unwish,r,q⟩
theorem PSs.nox {st:List Stmt} {t:TS} (h:PSs X.nox st t):PSs X st t:=fun pins s σ H D I hw =>
 wpAny_mono (h pins s σ H D (I.wish _) hw) (fun _ _ q=>q.unwish) fun _ _ z=>False.elim z
end
section
variable {X:Cx} {st:Stmt} {rest:List Stmt} {t u:TS} {e:Expr} {te:TE} {pos:Pos}
def tM:TS:=fun D σ H=>D.nx σ H
def tN (t u:TS):TS:=fun D σ H=>t { D with nx:=u D } σ H
theorem aF:PSs X [] tM:=fun _ _ σ H _ I h=>wpAny_execs_nil ⟨σ,H,I,h⟩
theorem af (h1:PS X st t) (h2:PSs X rest u):PSs X (st :: rest) (tN t u):=by
 intro pins s σ H D I h
 refine wpAny_execs_cons (thn (h1 pins s σ H { D with nx:=u D } I h) fun f s1 q=>?_)
 cases f with
 | next =>
  obtain ⟨σ',H',I',q⟩:=q
  exact h2 pins s1 σ' H' D I' q
 | ret v=>exact q
 | brk=>exact q
 | cont=>exact q
theorem ai (h1:PS X st t):PSs X [st] t:=by
 intro pins s σ H D I h
 refine wpAny_execs_cons (thn (h1 pins s σ H D I h) fun f s1 q=>?_)
 cases f with
 | next=>exact wpAny_execs_nil q
 | ret v=>exact q
 | brk=>exact q
 | cont=>exact q
theorem Inv.quiet {pins:List (Addr×Obj)} {σ:St} {H:Hp} {s:Shared} (I:Inv X pins σ H s):interactive X.env=false:=by simp [interactive,I.ok.kind]
def tO (te:TE):TS:=fun D σ H=>te σ H fun _ H1=>D.nx σ H1
theorem bF (he:PE X e te) (hs:swapsWith e none pos.line X.env=pure false:=by rfl):PS X (.Expr e pos) (tO te):=by
 intro pins s σ H D I h
 exact wpAny_Expr_any (thn (he pins s σ H _ I h) fun v s1 ⟨x,H1,I1,r1,q1⟩=>⟨σ,H1,I1,q1⟩) I.quiet hs
def zU (te:TE):TS:=fun D σ H=>te σ H D.rt
theorem aA (he:PE X e te):PS X (.Return (some e) pos) (zU te):=by
 intro pins s σ H D I h
 exact wpAny_Return_some (thn (he pins s σ H _ I h) fun v s1 ⟨x,H1,I1,r1,q1⟩=>⟨x,σ,H1,I1,r1,q1⟩)
def zV (c:TT) (t u:TS):TS:=fun D σ H=>c σ H fun b H1=>if b=true then t D σ H1 else u D σ H1
theorem aS {c:Expr} {a b:List Stmt} {tc:TT} (hc:PT X c tc) (ha:PSs X a t) (hb:PSs X b u):PS X (.If c a b pos) (zV tc t u):=by
 intro pins s σ H D I h
 refine wpAny_If (thn (hc pins s σ H _ I h) fun d s1 ⟨H1,I1,q1⟩=>?_)
 cases d with
 | true=>exact ha pins s1 σ H1 D I1 q1
 | false=>exact hb pins s1 σ H1 D I1 q1
def mo:TS:=fun _ _ _=>False
theorem fg:PS X st mo:=fun _ _ _ _ _ _ h=>h.elim
theorem em {sts:List Stmt}:PSs X sts mo:=fun _ _ _ _ _ _ h=>h.elim
end
abbrev TG:=V→St→Hp→(St→Hp→Prop)→Prop
abbrev TGs:=List V→St→Hp→(St→Hp→Prop)→Prop
def PG (X:Cx) (target:Expr) (t:TG):Prop :=
 ∀ (pins:List (Addr×Obj)) (s:Shared) (σ:St) (H:Hp) (v:V) (u:Value) (Q:St→Hp→Prop),Inv X pins σ H s→RelV v u→t v σ H Q →
  wpAny (model X.prog X.w) X.A (assign target X.env u) (fun _ s'=>∃σ' H',Inv X pins σ' H' s'∧Q σ' H') X.xe s
def PGs (X:Cx) (ts:List Expr) (t:TGs):Prop :=
 ∀ (pins:List (Addr×Obj)) (s:Shared) (σ:St) (H:Hp) (vs:List V) (us:List Value) (Q:St→Hp→Prop),Inv X pins σ H s→Vals vs us→t vs σ H Q →
  wpAny (model X.prog X.w) X.A (assignInOrder ((assignEach ts X.env).map (·.2)) us) (fun _ s'=>∃σ' H',Inv X pins σ' H' s'∧Q σ' H') X.xe s
abbrev qq:=V→V→V→Hp→(Hp→Prop)→Prop
def tP (X:Cx) (t:qq):Prop :=
 ∀ (pins:List (Addr×Obj)) (s:Shared) (σ:St) (H:Hp) (o i v:V) (ov iv u:Value) (Q:Hp→Prop),Inv X pins σ H s→RelV o ov→RelV i iv→RelV v u→t o i v H Q →
  wpAny (model X.prog X.w) X.A (setItem ov iv u) (fun _ s'=>∃H',Inv X pins σ H' s'∧Q H') X.xe s
section
variable {X:Cx} {pos:Pos}
def ik (i:Nat):TG:=fun v σ H Q=>Q (σ.set i (some v)) H
theorem av {i:Nat} {x:Str} (hN:X.N.Nodup) (hi:X.N[i]? = some x) (hx:Loc X.env.scope x) (hf:X.fn x=true∨X.env.scope.names.lookup x=some .local:=by first | exact .inl rfl | exact .inr rfl | assumption):PG X (.Name x pos) (ik i):=by
 intro pins s σ H v u Q I r h
 exact wpAny_assign_Name (dF I hN hi hx r (fun s' I'=>⟨_,H,I',h⟩) hf)
def tQ:TGs:=fun vs σ H Q=>vs=[]∧Q σ H
def mq (t:TG) (u:TGs):TGs:=fun vs σ H Q=>∃v r,vs=v :: r∧t v σ H fun σ' H'=>u r σ' H' Q
theorem aX:PGs X [] tQ:=by
 intro pins s σ H vs us Q I r h
 obtain ⟨e,h⟩:=h
 subst e
 cases r
 exact assignInOrder_nil ⟨σ,H,I,h⟩
theorem ay {e:Expr} {es:List Expr} {t:TG} {u:TGs} (h1:PG X e t) (h2:PGs X es u)
  (hs:(assignEach (e :: es) X.env).map (·.2)=assign e X.env :: (assignEach es X.env).map (·.2):=by rfl):PGs X (e :: es) (mq t u):=by
 intro pins s σ H vs us Q I r h
 obtain ⟨v,vr,e1,h⟩:=h
 subst e1
 cases r with
 | cons r rr =>
  rw [hs]
  refine assignInOrder_cons (thn (h1 pins s σ H _ _ _ I r h) fun _ s1 ⟨σ1,H1,I1,q1⟩=>?_)
  exact h2 pins s1 σ1 H1 _ _ Q I1 rr q1
def tR (K:PySem.W.Frag) (n:Nat) (t:TGs):TG:=fun v σ H Q=>∃a xs,v=.ref a∧SqT K H a xs∧xs.length=n∧t xs σ H Q
theorem br {es:List Expr} {k:Nat} {t:TGs} {n:Nat} (hc:X.calm=true) (h:PGs X es t)
  (hn:(assignEach es X.env).length=n:=by rfl) (hst:(assignEach es X.env).findIdx? (·.1)=none:=by rfl):PG X (.Tuple es k pos) (tR X.K n t):=by
 intro pins s σ H v u Q I r hw
 obtain ⟨a,xs,e1,hq,hl,hw⟩:=hw
 subst e1
 cases r
 obtain ⟨its,rv,ht,hz⟩:=I.tuple hq
 refine assign_Tuple_tuple (I.ok.hd hc) ht (by simp [hn,← hl,rv.length]) hst fun h' hx=>?_
 have I1:Inv X pins σ H { s with heap:=h' }:=I.kept (t':=s.toks) fun b o e=>hx b o (Nat.ne_of_lt (Heap.lt_size e)) e
 exact h pins _ σ H xs _ Q I1 (by simpa using rv) hw
def zW (to ti:TE) (t:qq):TG:=fun v σ H Q=>to σ H fun o H1=>ti σ H1 fun i H2=>t o i v H2 fun H3=>Q σ H3
theorem mr {o i:Expr} {to ti:TE} {t:qq} (ho:PE X o to) (hi:PE X i ti) (hs:tP X t)
  (ha:∀v,assign (.Subscript o i pos) X.env v=(do
   let ov←holding [v] (eval o X.env)
   let iv←holding [v,ov] (eval i X.env)
   standAt pos
   holding [v,ov,iv] (setItem ov iv v)
   release [v,ov,iv] []):=by intro _; rfl):PG X (.Subscript o i pos) (zW to ti t):=by
 intro pins s σ H v u Q I r h
 rw [ha]
 refine wpAny_bind (wpAny_holding (thn (ho pins s σ H _ I h) fun ov s1 ⟨x,H1,I1,r1,q1⟩=>?_))
 refine wpAny_bind (wpAny_holding (thn (hi pins s1 σ H1 _ I1 q1) fun iv s2 ⟨y,H2,I2,r2,q2⟩=>?_))
 refine wpAny_bind (wpAny_standAt (wpAny_bind (wpAny_holding (thn (hs pins s2 σ H2 x y v ov iv u _ I2 r1 r2 r q2) fun _ s3 ⟨H3,I3,q3⟩=>?_))))
 exact wpAny_release ⟨σ,H3,I3,q3⟩
def qr (te:TE) (g:TG):TS:=fun D σ H=>te σ H fun x H1=>g x σ H1 D.nx
theorem ce {tg e:Expr} {te:TE} {g:TG} (he:PE X e te) (hg:PG X tg g) (hs:swapsWithSole [tg] e pos.line X.env=pure false:=by rfl) (hw:swappedStores [tg] e X.env=pure none:=by rfl)
  (h1:(assignEach [tg] X.env).map (·.2)=[assign tg X.env]:=by rfl):PS X (.Assign [tg] e pos) (qr te g):=by
 intro pins s σ H D I h
 refine wpAny_Assign_stores (thn (he pins s σ H _ I h) fun v s1 ⟨x,H1,I1,r1,q1⟩=>?_) hs hw
 rw [h1]
 exact thn (hg pins s1 σ H1 x v _ I1 r1 q1) fun _ s2 q=>q
theorem aD {i:Nat} {x:Str} {e:Expr} {te:TE} {pos':Pos} (hN:X.N.Nodup) (hi:X.N[i]? = some x) (hx:Loc X.env.scope x) (he:PE X e te) (hs:swapsWith e (some (.Name x pos')) pos.line X.env=pure false:=by rfl) (hf:X.fn x=true∨X.env.scope.names.lookup x=some .local:=by first | exact .inl rfl | exact .inr rfl | assumption) :
  PS X (.Assign [.Name x pos'] e pos) (qr te (ik i)):=by
 intro pins s σ H D I h
 refine wpAny_Assign_Name (thn (he pins s σ H _ I h) fun v s1 ⟨y,H1,I1,r1,q1⟩=>?_) hs
 exact dF I1 hN hi hx r1 (fun s2 I2=>⟨_,H1,I2,q1⟩) hf
def zX (i j:Nat) (ta:TA):TS:=fun D σ H=>ta σ H fun vs H1=>∃v w,vs=[v,w]∧D.nx ((σ.set i (some v)).set j (some w)) H1
theorem ms {i j:Nat} {x y:Str} {a b:Expr} {ta:TA} {px py pt:Pos} {kt k2 pt2} (hc:X.calm=true) (hN:X.N.Nodup) (hi:X.N[i]? = some x) (hj:X.N[j]? = some y) (hij:i≠j)
  (hx:X.env.scope.names.lookup x=some .local) (hy:X.env.scope.names.lookup y=some .local) (ha:PA X [a,b] ta)
  (hw:swappedStores [.Tuple [.Name x px,.Name y py] kt pt] (.Tuple [a,b] k2 pt2) X.env=pure (some [x,y]))
  (hs:swapsWithSole [.Tuple [.Name x px,.Name y py] kt pt] (.Tuple [a,b] k2 pt2) pos.line X.env=pure false:=by rfl) :
  PS X (.Assign [.Tuple [.Name x px,.Name y py] kt pt] (.Tuple [a,b] k2 pt2) pos) (zX i j ta):=by
 intro pins s σ H D I h
 rw [exec_Assign_arm]
 refine wpAny_bind (wpAny_standAt ?_)
 rw [hs]
 refine wpAny_bind (wpAny_pure ?_)
 rw [if_neg (by decide)]
 refine wpAny_bind (Tuple_ (thn (ha _ pins s σ H _ I h) fun us s1 ⟨vs,H1,I1,r1,q1⟩=>?_))
 obtain ⟨v,w,e1,q1⟩:=q1
 subst e1
 obtain ⟨u1,u2,rfl,rv,rw'⟩:∃u1 u2,us=[u1,u2]∧RelV v u1∧RelV w u2:=by
  cases r1 with
  | cons p q =>
   cases q with
   | cons p' q' =>
    cases q'
    exact ⟨_,_,rfl,p,p'⟩
 refine wpAny_newObj_type ?_ (by show 2≤sizeLine; decide)
 have I2:Inv X pins σ H1 { s1 with heap:=s1.heap.push { cls:=.type "tuple", data:=.seq [u1, u2].toArray } }:=I1.kept (t':=s1.toks) fun b o e=>Heap.get?_push_of_some _ e
 rw [hw]
 refine wpAny_bind (wpAny_pure ?_)
 show wpAny (model X.prog X.w) X.A (do rule "assign.swapped-stores"; let items←unpackItems (.ref s1.heap.objs.size) 2 none; assignInOrder [fun v=>bindName X.env y v,fun v=>bindName X.env x v] items.reverse; pure Flow.next) _ _ _
 refine wpAny_bind (wpAny_rule (wpAny_bind (unpackItems_tuple (items:=#[u1,u2]) (I.ok.hd hc) (IsTup.new s1.heap _) fun h' hx'=>?_)))
 have I3:=I2.kept (h':=h') (t':=s1.toks) fun b o e=>hx' b o (Nat.ne_of_lt (Heap.lt_size e)) e
 show wpAny _ _ (assignInOrder [fun v=>bindName X.env y v,fun v=>bindName X.env x v] [u2,u1] >>= fun _=>pure Flow.next) _ _ _
 refine wpAny_bind (assignInOrder_cons (wpAny_bindName (dF I3 hN hj (.inl hy) rw' (fun s2 I4=>?_) (.inr hy))))
 refine assignInOrder_cons (wpAny_bindName (dF I4 hN hi (.inl hx) rv (fun s3 I5=>assignInOrder_nil (wpAny_pure ?_)) (.inr hx)))
 rw [List.set_comm _ _ (Ne.symm hij)] at I5
 exact ⟨_,H1,I5,q1⟩
end
section
variable {X:Cx} {pos:Pos}
end
structure It where
 go:Nat→Hp→Prop
 yld:Nat→Hp→V→Hp→Prop
 stop:Nat→Hp→Prop
def dI (X:Cx) (pins:List (Addr×Obj)) (H:Hp) (b:Addr):Prop :=
 H b=none∧b≠X.env.locals∧b∉X.fs∧(b∈X.ex∨X.s₀.heap.objs.size≤b)∧(∀x c,X.env.cells.lookup x=some c→c≠b)∧∀p∈X.pn ++ pins,p.1≠b
theorem Inv.fpOk {X:Cx} {pins:List (Addr×Obj)} {σ:St} {H H':Hp} {s:Shared} {b:Addr} (I:Inv X pins σ H s) (hb:s.heap.objs.size≤b) (hn:H' b=none):dI X pins H' b:=by
 refine ⟨hn,Nat.ne_of_gt (Nat.lt_of_lt_of_le I.lt hb),I.nofs hb,.inr (Nat.le_trans I.sz hb),fun x c e z=>?_,fun p hp z=>?_⟩
 ·obtain ⟨v,q⟩:=I.cell x c e
  exact absurd (Nat.lt_of_lt_of_le q.lt (by rw [z]; exact hb)) (Nat.lt_irrefl _)
 ·exact absurd (Nat.lt_of_lt_of_le (Heap.lt_size (I.pin p hp).1) (by rw [z]; exact hb)) (Nat.lt_irrefl _)
structure Turn (P:Program) (w:World) (K:PySem.W.Frag) (tg:Expr) (J:It) (fp:List Addr) (it:Addr) (tn:Nat→Heap→Prop):Prop where
 mem:it∈fp
 obj:∀i h,tn i h→∀b∈fp,∃o,h.get? b=some o∧∀v,o.data≠.cell v
 keep:∀i h h',tn i h→(∀b∈fp,∀o,h.get? b=some o→h'.get? b=some o)→tn i h'
 item:∀ (X:Cx),X.prog=P→X.w=w→X.K=K→X.calm=true→∀ (i:Nat) (pins:List (Addr×Obj)) (s:Shared) (σ:St) (H:Hp) (E:Value→Shared→Prop),Inv X pins σ H s→(∀b∈fp,dI X pins H b)→tn i s.heap→J.go i H →
  wpAny (model P w) X.A (pyNext (.ref it)) (fun r s1=>∃u,r=some u ∧
   wpAny (model P w) X.A (letOwnedTupleGo tg (.ref it) u) (fun _ s2=>∃x H',Inv X pins σ H' s2∧RelV x u∧J.yld i H x H'∧tn (i + 1) s2.heap∧∀b∈fp,H' b=none) E s1) E s
 done:∀ (X:Cx),X.prog=P→X.w=w→X.K=K→X.calm=true→∀ (i:Nat) (pins:List (Addr×Obj)) (s:Shared) (σ:St) (H:Hp) (E:Value→Shared→Prop),Inv X pins σ H s→(∀b∈fp,dI X pins H b)→tn i s.heap→J.stop i H →
  wpAny (model P w) X.A (pyNext (.ref it)) (fun r s1=>r=none∧Inv X pins σ H s1) E s
 self:∀ (A:Around) (i:Nat) (s:Shared) (Q:Value→Shared→Prop) (E:Value→Shared→Prop),tn i s.heap→Q (.ref it) s→wpAny (model P w) A (pyIter (.ref it)) Q E s
abbrev TI:=St→Hp→(It→Hp→Prop)→Prop
def PIE (X:Cx) (pins:List (Addr×Obj)) (σ:St) (tg:Expr) (R:It→Hp→Prop) (itv:Value) (s2:Shared):Prop :=
 ∃ (it:Addr) (fp:List Addr) (tn:Nat→Heap→Prop) (J:It) (H':Hp),itv=.ref it∧Inv X pins σ H' s2∧Turn X.prog X.w X.K tg J fp it tn∧tn 0 s2.heap∧(∀b∈fp,dI X pins H' b)∧R J H'
def PI (X:Cx) (tg iter:Expr) (wi:TI):Prop :=
 ∀ (pins:List (Addr×Obj)) (s:Shared) (σ:St) (H:Hp) (R:It→Hp→Prop),Inv X pins σ H s→wi σ H R →
  wpAny (model X.prog X.w) X.A (eval iter X.env) (fun v s1=>wpAny (model X.prog X.w) X.A (pyIter v) (PIE X pins σ tg R) X.xe s1) X.xe s
theorem mt {M:Model} {A:Around} {E:Value→Shared→Prop} {s:Shared} {tg:Expr} {it:Addr} {u:Value} {o:Obj} {n:String} {vs:Array Value} {Q:Unit→Shared→Prop} (ho:s.heap.get? it=some o) (hc:o.cls=.type n) (hd:o.data=.fields vs)
    (hn:["enumerate","zip","dict_itemiterator","dict_reverseitemiterator","odict_iterator","itertools.zip_longest","itertools.pairwise"].contains n=false) (hQ:Q () s):wpAny M A (letOwnedTupleGo tg (.ref it) u) Q E s:=by
  unfold letOwnedTupleGo
  cases tg <;> first
    | exact wpAny_pure hQ
    | (cases u <;> first
        | exact wpAny_pure hQ
        | (refine wpAny_bind (wpAny_load ho ?_)
           rw [hc,hd]
           show wpAny M A (if (["enumerate","zip","dict_itemiterator","dict_reverseitemiterator","odict_iterator","itertools.zip_longest","itertools.pairwise"].contains n && vs[0]? == some (rawInt _))=true then _ else _) Q E s
           rw [if_neg (by intro h; rw [hn,Bool.false_and] at h; cases h)]
           exact wpAny_pure hQ))
def Itl (K:PySem.W.Frag) (a:Addr):It :=
 ⟨fun i H=>∃xs x,SqL K H a xs∧xs[i]? = some x,fun i H x H'=>H'=H∧∀xs,SqL K H a xs→xs[i]? = some x,fun i H=>∃xs,SqL K H a xs∧xs.length≤i⟩
def Itt (K:PySem.W.Frag) (a:Addr):It :=
 ⟨fun i H=>∃xs x,SqT K H a xs∧xs[i]? = some x,fun i H x H'=>H'=H∧∀xs,SqT K H a xs→xs[i]? = some x,fun i H=>∃xs,SqT K H a xs∧xs.length≤i⟩
def Itr (lo:Int) (n:Nat):It:=⟨fun i _=>i < n,fun i H x H'=>H'=H∧x=.int (lo + i),fun i _=>n≤i⟩
theorem kC {P:Program} {w:World} {K:PySem.W.Frag} {tg:Expr} (a it:Addr):Turn P w K tg (Itl K a) [it] it (fun i h=>h.IsListIter it a i) where
 mem:=by simp
 obj:=fun i h st b hb=>by
  have e:b=it:=by simpa using hb
  subst e
  obtain ⟨o,e,c,d⟩:=st
  exact ⟨o,e,fun v z=>by rw [d] at z; cases z⟩
 keep:=fun i h h' st k=>st.at fun o e=>k it (by simp) o e
 item:=by
  intro X hP hw hK hc i pins s σ H E I hf st hg
  subst hP hw hK
  obtain ⟨xs,x,hq,hx⟩:=hg
  obtain ⟨its,rv,p,hz⟩:=I.list hq
  obtain ⟨u,hu,ru⟩:=rv.get hx
  obtain ⟨f0,f1,f2,f3,f4,f5⟩:=hf it (by simp)
  refine wpAny_pyNext_list_item st p.isList (x:=u) (by simpa using hu) fun h' st' sb=>?_
  have I1:Inv X pins σ H { s with heap:=h' }:=I.turned (t':=s.toks) (fun b o hb e=>(sb.2 b hb).trans e) f0 f1 f3 f4 f5
  obtain ⟨o,e,c,d⟩:=id st'
  exact ⟨u,rfl,mt (s:={ s with heap:=h' }) e c d (by decide) ⟨x,H,I1,ru,⟨rfl,fun ys hy=>by rw [I.list_inj hy hq]; exact hx⟩,st',fun b hb=>(hf b hb).1⟩⟩
 done:=by
  intro X hP hw hK hc i pins s σ H E I hf st hg
  subst hP hw hK
  obtain ⟨xs,hq,hx⟩:=hg
  obtain ⟨its,rv,p,hz⟩:=I.list hq
  obtain ⟨f0,f1,f2,f3,f4,f5⟩:=hf it (by simp)
  have hl:=rv.length
  exact wpAny_pyNext_list_end (I.ok.hd hc) st p.isList (by simp; omega) fun h' eb=>⟨rfl,I.turned (t':=s.toks) (fun b o hb e=>eb b o hb e) f0 f1 f3 f4 f5⟩
 self:=fun _ _ _ _ _ st h=>wpAny_pyIter_listiter st h
theorem iW {P:Program} {w:World} {K:PySem.W.Frag} {tg:Expr} (a it:Addr):Turn P w K tg (Itt K a) [it] it (fun i h=>h.IsTupleIter it a i) where
 mem:=by simp
 obj:=fun i h st b hb=>by
  have e:b=it:=by simpa using hb
  subst e
  obtain ⟨o,e,c,d⟩:=st
  exact ⟨o,e,fun v z=>by rw [d] at z; cases z⟩
 keep:=fun i h h' st k=>st.at fun o e=>k it (by simp) o e
 item:=by
  intro X hP hw hK hc i pins s σ H E I hf st hg
  subst hP hw hK
  obtain ⟨xs,x,hq,hx⟩:=hg
  obtain ⟨its,rv,p,hz⟩:=I.tuple hq
  obtain ⟨u,hu,ru⟩:=rv.get hx
  obtain ⟨f0,f1,f2,f3,f4,f5⟩:=hf it (by simp)
  refine wpAny_pyNext_tuple_item st (show s.heap.IsTuple a its.toArray from p) (x:=u) (by simpa using hu) fun h' st' sb=>?_
  have I1:Inv X pins σ H { s with heap:=h' }:=I.turned (t':=s.toks) (fun b o hb e=>(sb.2 b hb).trans e) f0 f1 f3 f4 f5
  obtain ⟨o,e,c,d⟩:=id st'
  exact ⟨u,rfl,mt (s:={ s with heap:=h' }) e c d (by decide) ⟨x,H,I1,ru,⟨rfl,fun ys hy=>by rw [I.tuple_inj hy hq]; exact hx⟩,st',fun b hb=>(hf b hb).1⟩⟩
 done:=by
  intro X hP hw hK hc i pins s σ H E I hf st hg
  subst hP hw hK
  obtain ⟨xs,hq,hx⟩:=hg
  obtain ⟨its,rv,p,hz⟩:=I.tuple hq
  obtain ⟨f0,f1,f2,f3,f4,f5⟩:=hf it (by simp)
  have hl:=rv.length
  exact wpAny_pyNext_tuple_end (I.ok.hd hc) st (show s.heap.IsTuple a its.toArray from p) (by simp; omega) fun h' eb=>⟨rfl,I.turned (t':=s.toks) (fun b o hb e=>eb b o hb e) f0 f1 f3 f4 f5⟩
 self:=fun _ _ _ _ _ st h=>wpAny_pyIter_tupleiter st h
theorem iX {P:Program} {w:World} {K:PySem.W.Frag} {tg:Expr} (it:Addr) (lo:Int) (n:Nat):Turn P w K tg (Itr lo n) [it] it (fun i h=>IsRangeIter h it (lo + (i:Nat) * 1) ((n:Int) - (i:Nat)) 1) where
 mem:=by simp
 obj:=fun i h st b hb=>by
  have e:b=it:=by simpa using hb
  subst e
  exact ⟨_,st,fun v z=>by
   have z':Data.fields _=Data.cell v:=z
   cases z'⟩
 keep:=fun i h h' st k=>k it (by simp) _ st
 item:=by
  intro X hP hw hK hc i pins s σ H E I hf st hg
  subst hP hw hK
  obtain ⟨f0,f1,f2,f3,f4,f5⟩:=hf it (by simp)
  have W:=Walks.range (prog:=X.prog) (w:=X.w) (I.ok.hd hc) it lo 1 n
  refine W.item i s _ _ hg st fun v h' tk hv st' kk=>?_
  obtain ⟨t,rfl⟩:=hv
  have I1:Inv X pins σ H { s with heap:=h',toks:=tk }:=I.turned (fun b o hb e=>kk b o (by simpa using hb) e) f0 f1 f3 f4 f5
  refine ⟨_, rfl, mt (s:={ s with heap:=h', toks:=tk }) (n := "range_iterator") st' rfl rfl (by decide) ⟨.int (lo + i), H, I1, ⟨t, ?_⟩, ⟨rfl, rfl⟩, st', fun b hb=>(hf b hb).1⟩⟩
  rw [Int.mul_one]
 done:=by
  intro X hP hw hK hc i pins s σ H E I hf st hg
  subst hP hw hK
  obtain ⟨f0,f1,f2,f3,f4,f5⟩:=hf it (by simp)
  exact wpAny_pyNext_range_end (I.ok.hd hc) st (by have:n≤i:=hg; omega) fun h' eb=>⟨rfl,I.turned (t':=s.toks) (fun b o hb e=>eb b o hb e) f0 f1 f3 f4 f5⟩
 self:=fun _ _ _ _ _ st h=>wpAny_pyIter_rangeiter st h
end L2
namespace L2
open PySem PySem.Spec PyProof.Rows
section
variable {X:Cx} {tg:Expr}
def pT (K:PySem.W.Frag) (tl:TE):TI:=fun σ H R=>tl σ H fun x H1=>∃a,x=.ref a∧(∃xs,SqL K H1 a xs)∧R (Itl K a) H1
def tS (K:PySem.W.Frag) (tl:TE):TI:=fun σ H R=>tl σ H fun x H1=>∃a,x=.ref a∧(∃xs,SqT K H1 a xs)∧R (Itt K a) H1
theorem bc {l:Expr} {tl:TE} (hl:PE X l tl):PI X tg l (pT X.K tl):=by
 intro pins s σ H R I h
 refine thn (hl pins s σ H _ I h) fun v s1 ⟨x,H1,I1,r1,q1⟩=>?_
 obtain ⟨a,e,⟨xs,hq⟩,q⟩:=q1
 subst e
 cases r1
 obtain ⟨its,rv,p,hz⟩:=I1.list hq
 refine wpAny_pyIter_list p.isList ?_
 refine ⟨s1.heap.objs.size,[s1.heap.objs.size],_,_,H1,rfl,I1.kept (t':=s1.toks) fun b o e=>Heap.get?_push_of_some _ e,kC a _,⟨_,Heap.get?_push_size _ rfl,rfl,rfl⟩,fun b hb=>?_,q⟩
 have e:b=s1.heap.objs.size:=by simpa using hb
 subst e
 exact I1.fpOk (Nat.le_refl _) (I1.hok.fresh (Nat.le_refl _))
theorem qt {l:Expr} {tl:TE} (hl:PE X l tl):PI X tg l (tS X.K tl):=by
 intro pins s σ H R I h
 refine thn (hl pins s σ H _ I h) fun v s1 ⟨x,H1,I1,r1,q1⟩=>?_
 obtain ⟨a,e,⟨xs,hq⟩,q⟩:=q1
 subst e
 cases r1
 obtain ⟨its,rv,p,hz⟩:=I1.tuple hq
 refine wpAny_pyIter_tuple (show s1.heap.IsTuple a its.toArray from p) ?_
 refine ⟨s1.heap.objs.size,[s1.heap.objs.size],_,_,H1,rfl,I1.kept (t':=s1.toks) fun b o e=>Heap.get?_push_of_some _ e,iW a _,⟨_,Heap.get?_push_size _ rfl,rfl,rfl⟩,fun b hb=>?_,q⟩
 have e:b=s1.heap.objs.size:=by simpa using hb
 subst e
 exact I1.fpOk (Nat.le_refl _) (I1.hok.fresh (Nat.le_refl _))
theorem mw {pins:List (Addr×Obj)} {σ:St} {H:Hp} {s:Shared} {R:It→Hp→Prop} {E:Value→Shared→Prop} {lo hi:Int} {t u v:Tok} {tk:Nat} (I:Inv X pins σ H s) (h1:-(2 ^ 62)≤lo) (h2:lo < 2 ^ 62) (h3:-(2 ^ 62)≤hi) (h4:hi < 2 ^ 62)
  (q:R (Itr lo (hi - lo).toNat) H):wpAny (model X.prog X.w) X.A (pyIter (.ref s.heap.objs.size)) (PIE X pins σ tg R) E { s with heap:=s.heap.push { cls:=.type "range",data:=.fields #[.int lo t,.int hi u,.int 1 v] },toks:=tk }:=by
 refine wpAny_pyIter_range (IsRange.new ..) (small_one h1 h2 h3 h4) ?_
 have I1:Inv X pins σ H { s with heap:=s.heap.push { cls:=.type "range",data:=.fields #[.int lo t,.int hi u,.int 1 v] },toks:=tk }:=I.kept fun b o e=>Heap.get?_push_of_some _ e
 refine ⟨(s.heap.push { cls:=.type "range",data:=.fields #[.int lo t,.int hi u,.int 1 v] }).objs.size,[(s.heap.push { cls:=.type "range",data:=.fields #[.int lo t,.int hi u,.int 1 v] }).objs.size],_,_,H,rfl,
  I1.kept (t':=tk) fun b o e=>Heap.get?_push_of_some _ e,iX _ lo (hi - lo).toNat,?_,fun b hb=>?_,q⟩
 ·have e1:lo + ((0:Nat):Int) * 1=lo:=by simp
  have e2:(((hi - lo).toNat:Nat):Int) - ((0:Nat):Int)=Builtin.Range.rangeSize lo hi 1:=by rw [rangeSize_one]; split <;> omega
  show IsRangeIter _ _ (lo + ((0:Nat):Int) * 1) ((((hi - lo).toNat:Nat):Int) - ((0:Nat):Int)) 1
  rw [e1,e2]
  exact Heap.get?_push_size _ rfl
 ·have e:b=(s.heap.push { cls:=.type "range",data:=.fields #[.int lo t,.int hi u,.int 1 v] }).objs.size:=by simpa using hb
  subst e
  exact I1.fpOk (Nat.le_refl _) (I1.hok.fresh (Nat.le_refl _))
def tT (ta:TA):TI:=fun σ H R=>ta σ H fun vs H1=>∃j:Int,vs=[.int j]∧-(2 ^ 62)≤j∧j < 2 ^ 62∧R (Itr 0 j.toNat) H1
theorem cZ {a:Expr} {ta:TA} {p pos:Pos} (hg:Gl X "range") (hm:X.mg "range" = none) (ha:PA X [a] ta) (hs:starEach [a] X.env=[(false,eval a X.env)]:=by rfl):PI X tg (.Call (.Name "range" p) [a] [] pos) (tT ta):=by
 intro pins s σ H R I h
 refine Call_ (du I hg hm boot_range (PyProof.Rows.callWith_type1 (thn (ha pos pins s σ H _ I h) fun us s1 ⟨vs,H1,I1,r1,q1⟩=>?_) hs rfl))
 obtain ⟨j,e,q1,q2,q⟩:=q1
 subst e
 cases r1 with
 | cons r rr =>
  cases rr
  obtain ⟨t,rfl⟩:=r
  exact call_range_1 (mw I1 (by omega) (by omega) q1 q2 (by simpa using q))
def tU (wi:TI) (g:TG) (tb:TS):TS:=fun D σ H=>wi σ H fun J H1=>∃W:Nat→Nat→St→Hp→Prop,(∃m,W 0 m σ H1)∧∀i m σ H,W i m σ H →
 (J.stop i H∧D.nx σ H)∨(J.go i H∧∃N:St→Hp→Prop,(∀σ' H',N σ' H'→∃m',m' < m∧W (i + 1) m' σ' H')∧∀x H',J.yld i H x H'→g x σ H' fun σ2 H2=>tb { D with nx:=N,ct:=N,bk:=D.nx } σ2 H2)
def gE (fp:List Addr) (h:Heap):List (Addr×Obj):=fp.filterMap fun b=>(h.get? b).map fun o=>(b,o)
theorem bM {fp:List Addr} {h:Heap} {b:Addr} {o:Obj} (hb:b∈fp) (e:h.get? b=some o):(b,o)∈gE fp h:=List.mem_filterMap.mpr ⟨b,hb,by rw [e]; rfl⟩
theorem kD {fp:List Addr} {h:Heap} {p:Addr×Obj} (hp:p∈gE fp h):p.1∈fp∧h.get? p.1=some p.2:=by
 obtain ⟨b,hb,e⟩:=List.mem_filterMap.mp hp
 cases q:h.get? b with
 | none=>rw [q] at e; cases e
 | some o =>
  rw [q] at e
  have e':(b,o)=p:=Option.some.inj e
  subst e'
  exact ⟨hb,q⟩
theorem Inv.pinned {pins:List (Addr×Obj)} {σ:St} {H:Hp} {s:Shared} {fp:List Addr} (I:Inv X pins σ H s) (hf:∀b∈fp,dI X pins H b) (ho:∀b∈fp,∃o,s.heap.get? b=some o∧∀v,o.data≠.cell v):Inv X (pins ++ gE fp s.heap) σ H s :=
 I.pins_of fun p hp=>(List.mem_append.mp hp).elim (fun z=>I.pin p (List.mem_append_right _ z)) fun z=>by
  obtain ⟨hb,e⟩:=kD z
  obtain ⟨f0,f1,f2,_⟩:=hf p.1 hb
  obtain ⟨o,e',d⟩:=ho p.1 hb
  rw [e] at e'; cases e'
  exact ⟨e,f0,f1,f2,d⟩
theorem Inv.unpinned {pins pl:List (Addr×Obj)} {σ:St} {H:Hp} {s:Shared} (I:Inv X (pins ++ pl) σ H s):Inv X pins σ H s:=I.pins_of fun p hp=>I.pin p (List.mem_append_right _ (List.mem_append_left _ hp))
theorem cf {iter:Expr} {body:List Stmt} {wi:TI} {g:TG} {tb:TS} {pos:Pos} (hp:PassesOwn (model X.prog X.w) X.A X.env X.xe) (hc:X.calm=true) (hi:PI X tg iter wi) (hg:PG X tg g) (hb:PSs X body tb)
  (hs:∀x,foldedSetIterable iter X.env x=pure x:=by intro _; rfl):PS X (.For tg iter body [] pos) (tU wi g tb):=by
 intro pins s σ H D I h
 refine wpAny_For (thn (hi pins s σ H _ I h) fun v s1 h1=>thn h1 fun itv s2 h2=>?_) hs
 obtain ⟨it,fp,tn,J,H2,e,I2,T,st2,f2,W,⟨m0,w0⟩,turn⟩:=h2
 subst e
 have stat:∀ {H':Hp},(∀b∈fp,H' b=none)→∀b∈fp,dI X pins H' b:=fun hn b hb=>⟨hn b hb,(f2 b hb).2⟩
 refine codeAny_forLoop_any (fun n s'=>∃i σ' H',Inv X pins σ' H' s'∧tn i s'.heap∧(∀b∈fp,H' b=none)∧W i n σ' H') ?_ m0 ⟨0,σ,H2,I2,st2,fun b hb=>(f2 b hb).1,w0⟩
 rintro n s3 ⟨i,σ3,H3,I3,st3,fr3,w3⟩
 rcases turn i n σ3 H3 w3 with ⟨stop,qn⟩ | ⟨go,N,hN,step⟩
 ·refine wpAny_passesOwn hp (thn (T.done X rfl rfl rfl hc i pins s3 σ3 H3 X.xe I3 (stat fr3) st3 stop) fun r s4 ⟨hr,I4⟩=>?_)
  subst hr
  exact wpAny_execs_nil ⟨σ3,H3,I4,qn⟩
 ·refine wpAny_passesOwn hp (thn (T.item X rfl rfl rfl hc i pins s3 σ3 H3 X.xe I3 (stat fr3) st3 go) fun r s4 ⟨u,hr,h4⟩=>?_)
  subst hr
  refine wpAny_passesOwn hp (thn h4 fun _ s5 ⟨x,H5,I5,r5,y5,st5,fr5⟩=>?_)
  have I5':=I5.pinned (stat fr5) (T.obj _ _ st5)
  refine wpAny_passesOwn hp (thn (hg _ s5 σ3 H5 x u _ I5' r5 (step x H5 y5)) fun _ s6 ⟨σ6,H6,I6,q6⟩=>?_)
  refine wpAny_passesOwn hp (thn (hb _ s6 σ6 H6 _ I6 q6) fun f s7 q7=>?_)
  have again:∀ {σ7:St} {H7:Hp},Inv X (pins ++ gE fp s5.heap) σ7 H7 s7→N σ7 H7→∃m,m < n∧∃i σ' H',Inv X pins σ' H' s7∧tn i s7.heap∧(∀b∈fp,H' b=none)∧W i m σ' H':=fun {σ7 H7} I7 n7=>by
   obtain ⟨m',hm,w7⟩:=hN σ7 H7 n7
   refine ⟨m',hm,i + 1,σ7,H7,I7.unpinned,T.keep _ _ _ st5 fun b hb o e=>(I7.pin (b,o) (List.mem_append_right _ (List.mem_append_right _ (bM hb e)))).1,fun b hb=>?_,w7⟩
   obtain ⟨o,e,d⟩:=T.obj _ _ st5 b hb
   exact (I7.pin (b,o) (List.mem_append_right _ (List.mem_append_right _ (bM hb e)))).2.1
  cases f with
  | next=>obtain ⟨σ7,H7,I7,n7⟩:=q7; exact again I7 n7
  | cont=>obtain ⟨σ7,H7,I7,n7⟩:=q7; exact again I7 n7
  | brk=>obtain ⟨σ7,H7,I7,q7⟩:=q7; exact ⟨σ7,H7,I7.unpinned,q7⟩
  | ret v=>obtain ⟨x7,σ7,H7,I7,r7,q7⟩:=q7; exact ⟨x7,σ7,H7,I7.unpinned,r7,q7⟩
end
theorem dJ {K:PySem.W.Frag} {a:Addr} {xs:List V} {g:TG} {tb:TS} {D:Ends} {σ:St} {H:Hp} (Pv:Nat→St→Hp→Prop) (h0:Pv 0 σ H) (hl:∀i σ H,i≤xs.length→Pv i σ H→SqL K H a xs)
  (hs:∀i x σ H,xs[i]? = some x→Pv i σ H→g x σ H fun σ2 H2=>tb { D with nx:=Pv (i + 1),ct:=Pv (i + 1),bk:=D.nx } σ2 H2) (hd:∀σ H,Pv xs.length σ H→D.nx σ H) :
  ∃W:Nat→Nat→St→Hp→Prop,(∃m,W 0 m σ H)∧∀i m σ H,W i m σ H →
   ((Itl K a).stop i H∧D.nx σ H)∨((Itl K a).go i H∧∃N:St→Hp→Prop,(∀σ' H',N σ' H'→∃m',m' < m∧W (i + 1) m' σ' H')∧∀x H',(Itl K a).yld i H x H'→g x σ H' fun σ2 H2=>tb { D with nx:=N,ct:=N,bk:=D.nx } σ2 H2):=by
 refine ⟨fun i m σ H=>m=xs.length - i∧i≤xs.length∧Pv i σ H,⟨xs.length,by simp,Nat.zero_le _,h0⟩,?_⟩
 rintro i m σ H ⟨rfl,hi,p⟩
 have q:=hl i σ H hi p
 by_cases hlt:i < xs.length
 ·refine .inr ⟨⟨xs,xs[i],q,by simp [hlt]⟩,Pv (i + 1),fun σ' H' p'=>⟨xs.length - (i + 1),by omega,rfl,hlt,p'⟩,fun x H' y=>?_⟩
  obtain ⟨e,y⟩:=y
  subst e
  exact hs i x σ _ (y xs q) p
 ·have e:i=xs.length:=by omega
  subst e
  exact .inl ⟨⟨xs,q,Nat.le_refl _⟩,hd σ H p⟩
theorem om {K:PySem.W.Frag} {a:Addr} {xs:List V} {g:TG} {tb:TS} {D:Ends} {σ:St} {H:Hp} (Pv:Nat→St→Hp→Prop) (h0:Pv 0 σ H) (hl:∀i σ H,i≤xs.length→Pv i σ H→SqT K H a xs)
  (hs:∀i x σ H,xs[i]? = some x→Pv i σ H→g x σ H fun σ2 H2=>tb { D with nx:=Pv (i + 1),ct:=Pv (i + 1),bk:=D.nx } σ2 H2) (hd:∀σ H,Pv xs.length σ H→D.nx σ H) :
  ∃W:Nat→Nat→St→Hp→Prop,(∃m,W 0 m σ H)∧∀i m σ H,W i m σ H →
   ((Itt K a).stop i H∧D.nx σ H)∨((Itt K a).go i H∧∃N:St→Hp→Prop,(∀σ' H',N σ' H'→∃m',m' < m∧W (i + 1) m' σ' H')∧∀x H',(Itt K a).yld i H x H'→g x σ H' fun σ2 H2=>tb { D with nx:=N,ct:=N,bk:=D.nx } σ2 H2):=by
 refine ⟨fun i m σ H=>m=xs.length - i∧i≤xs.length∧Pv i σ H,⟨xs.length,by simp,Nat.zero_le _,h0⟩,?_⟩
 rintro i m σ H ⟨rfl,hi,p⟩
 have q:=hl i σ H hi p
 by_cases hlt:i < xs.length
 ·refine .inr ⟨⟨xs,xs[i],q,by simp [hlt]⟩,Pv (i + 1),fun σ' H' p'=>⟨xs.length - (i + 1),by omega,rfl,hlt,p'⟩,fun x H' y=>?_⟩
  obtain ⟨e,y⟩:=y
  subst e
  exact hs i x σ _ (y xs q) p
 ·have e:i=xs.length:=by omega
  subst e
  exact .inl ⟨⟨xs,q,Nat.le_refl _⟩,hd σ H p⟩
theorem et {lo:Int} {n:Nat} {g:TG} {tb:TS} {D:Ends} {σ:St} {H:Hp} (Pv:Nat→St→Hp→Prop) (h0:Pv 0 σ H)
  (hs:∀i σ H,i < n→Pv i σ H→g (.int (lo + i)) σ H fun σ2 H2=>tb { D with nx:=Pv (i + 1),ct:=Pv (i + 1),bk:=D.nx } σ2 H2) (hd:∀σ H,Pv n σ H→D.nx σ H) :
  ∃W:Nat→Nat→St→Hp→Prop,(∃m,W 0 m σ H)∧∀i m σ H,W i m σ H →
   ((Itr lo n).stop i H∧D.nx σ H)∨((Itr lo n).go i H∧∃N:St→Hp→Prop,(∀σ' H',N σ' H'→∃m',m' < m∧W (i + 1) m' σ' H')∧∀x H',(Itr lo n).yld i H x H'→g x σ H' fun σ2 H2=>tb { D with nx:=N,ct:=N,bk:=D.nx } σ2 H2):=by
 refine ⟨fun i m σ H=>m=n - i∧i≤n∧Pv i σ H,⟨n,by simp,Nat.zero_le _,h0⟩,?_⟩
 rintro i m σ H ⟨rfl,hi,p⟩
 by_cases hlt:i < n
 ·refine .inr ⟨hlt,Pv (i + 1),fun σ' H' p'=>⟨n - (i + 1),by omega,rfl,hlt,p'⟩,fun x H' y=>?_⟩
  obtain ⟨e,y⟩:=y
  subst e y
  exact hs i σ _ hlt p
 ·have e:i=n:=by omega
  subst e
  exact .inl ⟨Nat.le_refl _,hd σ H p⟩
end L2
namespace L2
open PySem PySem.Spec PyProof.Rows
abbrev R2:=V→V→Hp→VK→Prop
def OpR (X:Cx) (f:Value→Value→Sem Value) (r:R2):Prop :=
 ∀ (pins:List (Addr×Obj)) (s:Shared) (σ:St) (H:Hp) (x y:V) (v u:Value) (Q:VK),Inv X pins σ H s→RelV x v→RelV y u→r x y H Q →
  wpAny (model X.prog X.w) X.A (f v u) (EP X pins σ Q) X.xe s
def cD (X:Cx) (f:Value) (r:List V→Hp→VK→Prop):Prop :=
 ∀ (pins:List (Addr×Obj)) (s:Shared) (σ:St) (H:Hp) (xs:List V) (us:List Value) (Q:VK),Inv X pins σ H s→Vals xs us→r xs H Q →
  wpAny (model X.prog X.w) X.A (call f us) (EP X pins σ Q) X.xe s
def zY (X:Cx) (r:V→Hp→(Bool→Hp→Prop)→Prop):Prop :=
 ∀ (pins:List (Addr×Obj)) (s:Shared) (σ:St) (H:Hp) (x:V) (v:Value) (Q:Bool→Hp→Prop),Inv X pins σ H s→RelV x v→r x H Q →
  wpAny (model X.prog X.w) X.A (truthy v) (TP X pins σ Q) X.xe s
def tOp (r:R2) (ta tb:TE):TE:=fun σ H Q=>ta σ H fun x H1=>tb σ H1 fun y H2=>r x y H2 Q
def rI (C:Int→Int→Prop) (g:Int→Int→V):R2:=fun x y H Q=>∃i j,x=.int i∧y=.int j∧C i j∧Q (g i j) H
def rI0 (g:Int→Int→V):R2:=fun x y H Q=>∃i j,x=.int i∧y=.int j∧Q (g i j) H
section
variable {X:Cx} {a b c:Expr} {ta tb tc:TE} {pos:Pos}
theorem qu (ha:PE X a ta) (hb:PE X b tb) {pins:List (Addr×Obj)} {s:Shared} {σ:St} {H:Hp} {R:V→V→Hp→Prop} (I:Inv X pins σ H s)
  (h:ta σ H fun x H1=>tb σ H1 fun y H2=>R x y H2) {Q:Value→Shared→Prop} {f:Value→Value→Sem Value}
  (hf:∀v u s2 x y H2,Inv X pins σ H2 s2→RelV x v→RelV y u→R x y H2→wpAny (model X.prog X.w) X.A (f v u) Q X.xe s2) :
  wpAny (model X.prog X.w) X.A (eval a X.env) (fun v s₁=>wpAny (model X.prog X.w) X.A (eval b X.env) (fun u s₂=>wpAny (model X.prog X.w) X.A (f v u) Q X.xe s₂) X.xe s₁) X.xe s:=by
 refine thn (ha pins s σ H _ I h) fun v s1 ⟨x,H1,I1,r1,q1⟩=>?_
 refine thn (hb pins s1 σ H1 _ I1 q1) fun u s2 ⟨y,H2,I2,r2,q2⟩=>?_
 exact hf v u s2 x y H2 I2 r1 r2 q2
theorem aB {op:Operator} {r:R2} (ho:OpR X (binaryOp op) r) (ha:PE X a ta) (hb:PE X b tb):PE X (.BinOp a op b pos) (tOp r ta tb):=by
 intro pins s σ H Q I h
 exact wpAny_BinOp (qu ha hb I h fun v u s2 x y H2 I2 rx ry q=>ho pins s2 σ H2 x y v u Q I2 rx ry q)
theorem opI {f:Value→Value→Sem Value} {C:Int→Int→Prop} {g:Int→Int→Int}
  (rule:∀ (i j:Int) (t u:Tok) (s:Shared) (Q:Value→Shared→Prop) (E:Value→Shared→Prop),C i j→Q (.int (g i j) s.toks) { s with toks:=s.toks + 1 }→wpAny (model X.prog X.w) X.A (f (.int i t) (.int j u)) Q E s) :
  OpR X f (rI C fun i j=>.int (g i j)):=by
 intro pins s σ H x y v u Q I rx ry h
 obtain ⟨i,j,rfl,rfl,hc,q⟩:=h
 obtain ⟨t,rfl⟩:=rx
 obtain ⟨t',rfl⟩:=ry
 exact rule i j t t' s _ _ hc ⟨.int (g i j),H,I.tok _,⟨_,rfl⟩,q⟩
theorem tV {f:Value→Value→Sem Value} {g:Int→Int→Int}
  (rule:∀ (i j:Int) (t u:Tok) (s:Shared) (Q:Value→Shared→Prop) (E:Value→Shared→Prop),Q (.int (g i j) s.toks) { s with toks:=s.toks + 1 }→wpAny (model X.prog X.w) X.A (f (.int i t) (.int j u)) Q E s) :
  OpR X f (rI0 fun i j=>.int (g i j)):=by
 intro pins s σ H x y v u Q I rx ry h
 obtain ⟨i,j,rfl,rfl,q⟩:=h
 obtain ⟨t,rfl⟩:=rx
 obtain ⟨t',rfl⟩:=ry
 exact rule i j t t' s _ _ ⟨.int (g i j),H,I.tok _,⟨_,rfl⟩,q⟩
theorem oo {f:Value→Value→Sem Value} {g:Int→Int→Bool}
  (rule:∀ (i j:Int) (t u:Tok) (s:Shared) (Q:Value→Shared→Prop) (E:Value→Shared→Prop),Q (.bool (g i j)) s→wpAny (model X.prog X.w) X.A (f (.int i t) (.int j u)) Q E s) :
  OpR X f (rI0 fun i j=>.bl (g i j)):=by
 intro pins s σ H x y v u Q I rx ry h
 obtain ⟨i,j,rfl,rfl,q⟩:=h
 obtain ⟨t,rfl⟩:=rx
 obtain ⟨t',rfl⟩:=ry
 exact rule i j t t' s _ _ ⟨.bl (g i j),H,I,rfl,q⟩
def zZ (i j:Int):Prop:=0≤j∧j≤1000000∧i.natAbs < 2 ^ 64
def CMul (i j:Int):Prop:=(-(2 ^ 64) < i∧i < 2 ^ 64)∨(-(2 ^ 64) < j∧j < 2 ^ 64)
theorem CMul.ok {i j:Int} (h:CMul i j):IntMulOk i j:=by
 rcases h with ⟨h1,h2⟩ | ⟨h1,h2⟩
 ·exact .of_left (intBits_le_64 h1 h2)
 ·exact .of_right (intBits_le_64 h1 h2)
theorem aJ:OpR X (binaryOp .Add) (rI0 fun i j=>.int (i + j)):=tV fun _ _ _ _ _ _ _ q=>add_int q
theorem cQ:OpR X (binaryOp .Sub) (rI0 fun i j=>.int (i - j)):=tV fun _ _ _ _ _ _ _ q=>sub_int q
theorem bN:OpR X (binaryOp .Mult) (rI CMul fun i j=>.int (i * j)):=opI fun _ _ _ _ _ _ _ hc q=>mul_int q hc.ok
theorem fh:OpR X (binaryOp .Mod) (rI (fun _ j=>0 < j) fun i j=>.int (i % j)):=opI fun i j _ _ _ _ _ hc q=>by
 have h1:(0:Int) < j:=hc
 exact mod_int' (by omega) (by rw [Int.fmod_eq_emod_of_nonneg i (by omega)]; exact q)
theorem eA:OpR X (binaryOp .Pow) (rI zZ fun i j=>.int (i ^ j.toNat)):=opI fun _ _ _ _ _ _ _ hc q=>pow_int_small hc.1 hc.2.1 hc.2.2 q
end
def tW:V→V→Bool
 | .non,.non=>true | .non,.int _=>true | .int _,.non=>true | .non,.bl _=>true | .bl _,.non=>true | .non,.str _=>true | .str _,.non=>true
 | .int _,.int _=>true | .bl _,.bl _=>true | .str _,.str _=>true | .byt _,.byt _=>true
 | .int _,.str _=>true | .str _,.int _=>true | .bl _,.str _=>true | .str _,.bl _=>true
 | _,_=>false
def rEq:R2:=fun x y H Q=>tW x y=true∧Q (.bl (decide (x=y))) H
def rNe:R2:=fun x y H Q=>tW x y=true∧Q (.bl (!decide (x=y))) H
theorem gF {i j:Int}:decide (V.int i=V.int j)=(i == j):=by
 rw [Bool.eq_iff_iff]
 simp
theorem mx {i j:Bool}:decide (V.bl i=V.bl j)=(i == j):=by
 rw [Bool.eq_iff_iff]
 simp
theorem jS {i j:Str}:decide (V.str i=V.str j)=(i == j):=by
 rw [Bool.eq_iff_iff]
 simp
theorem jT {i j:Array UInt8}:decide (V.byt i=V.byt j)=(i.toList == j.toList):=by
 rw [Bool.eq_iff_iff]
 cases i
 cases j
 simp
section
variable {X:Cx} {a b c:Expr} {ta tb tc:TE} {pos:Pos}
theorem aM {pins:List (Addr×Obj)} {σ:St} {H:Hp} {s:Shared} {Q:VK} {k k':Bool} (I:Inv X pins σ H s) (q:Q (.bl k) H) (e:k=k'):EP X pins σ Q (.bool k') s:=by
 subst e
 exact ⟨.bl k,H,I,rfl,q⟩
theorem cR:OpR X (compareOp .Eq) rEq:=by
 intro pins s σ H x y v u Q I rx ry h
 obtain ⟨hs,q⟩:=h
 cases x with
 | non =>
  cases rx
  cases y with
  | non=>cases ry; exact PySem.EqNone.eq_none_none (aM I q (by simp))
  | bl j=>cases ry; exact PySem.EqNone.eq_none_bool (aM I q (by simp))
  | int j=>obtain ⟨t',rfl⟩:=ry; exact PySem.EqNone.eq_none_int (aM I q (by simp))
  | str j=>obtain ⟨t',rfl⟩:=ry; exact PySem.EqNone.eq_none_str (aM I q (by simp))
  | _=>exact absurd (show false=true from hs) Bool.false_ne_true
 | bl i =>
  cases rx
  cases y with
  | non=>cases ry; exact PySem.EqNone.eq_bool_none (aM I q (by simp))
  | bl j=>cases ry; exact eq_bool (aM I q mx)
  | str j=>obtain ⟨t',rfl⟩:=ry; exact PySem.EqMixed.eq_bool_str (aM I q (by simp))
  | _=>exact absurd (show false=true from hs) Bool.false_ne_true
 | int i =>
  obtain ⟨t,rfl⟩:=rx
  cases y with
  | non=>cases ry; exact PySem.EqNone.eq_int_none (aM I q (by simp))
  | int j=>obtain ⟨t',rfl⟩:=ry; exact eq_int (aM I q gF)
  | str j=>obtain ⟨t',rfl⟩:=ry; exact PySem.EqMixed.eq_int_str (aM I q (by simp))
  | _=>exact absurd (show false=true from hs) Bool.false_ne_true
 | str i =>
  obtain ⟨t,rfl⟩:=rx
  cases y with
  | non=>cases ry; exact PySem.EqNone.eq_str_none (aM I q (by simp))
  | bl j=>cases ry; exact PySem.EqMixed.eq_str_bool (aM I q (by simp))
  | int j=>obtain ⟨t',rfl⟩:=ry; exact PySem.EqMixed.eq_str_int (aM I q (by simp))
  | str j=>obtain ⟨t',rfl⟩:=ry; exact eq_str (aM I q jS)
  | _=>exact absurd (show false=true from hs) Bool.false_ne_true
 | byt i =>
  obtain ⟨t,rfl⟩:=rx
  cases y with
  | byt j=>obtain ⟨t',rfl⟩:=ry; exact PySem.W.eq_bytes (aM I q jT)
  | _=>exact absurd (show false=true from hs) Bool.false_ne_true
 | _=>cases y <;> exact absurd (show false=true from hs) Bool.false_ne_true
theorem fX:OpR X (compareOp .NotEq) rNe:=by
 intro pins s σ H x y v u Q I rx ry h
 obtain ⟨hs,q⟩:=h
 cases x with
 | non =>
  cases rx
  cases y with
  | non=>cases ry; exact PySem.EqNone.ne_none_none (aM I q (by simp))
  | bl j=>cases ry; exact PySem.EqNone.ne_none_bool (aM I q (by simp))
  | int j=>obtain ⟨t',rfl⟩:=ry; exact PySem.EqNone.ne_none_int (aM I q (by simp))
  | str j=>obtain ⟨t',rfl⟩:=ry; exact PySem.EqNone.ne_none_str (aM I q (by simp))
  | _=>exact absurd (show false=true from hs) Bool.false_ne_true
 | bl i =>
  cases rx
  cases y with
  | non=>cases ry; exact PySem.EqNone.ne_bool_none (aM I q (by simp))
  | bl j=>cases ry; exact ne_bool (aM I q (congrArg not mx))
  | str j=>obtain ⟨t',rfl⟩:=ry; exact PySem.EqMixed.ne_bool_str (aM I q (by simp))
  | _=>exact absurd (show false=true from hs) Bool.false_ne_true
 | int i =>
  obtain ⟨t,rfl⟩:=rx
  cases y with
  | non=>cases ry; exact PySem.EqNone.ne_int_none (aM I q (by simp))
  | int j=>obtain ⟨t',rfl⟩:=ry; exact ne_int (aM I q (congrArg not gF))
  | str j=>obtain ⟨t',rfl⟩:=ry; exact PySem.EqMixed.ne_int_str (aM I q (by simp))
  | _=>exact absurd (show false=true from hs) Bool.false_ne_true
 | str i =>
  obtain ⟨t,rfl⟩:=rx
  cases y with
  | non=>cases ry; exact PySem.EqNone.ne_str_none (aM I q (by simp))
  | bl j=>cases ry; exact PySem.EqMixed.ne_str_bool (aM I q (by simp))
  | int j=>obtain ⟨t',rfl⟩:=ry; exact PySem.EqMixed.ne_str_int (aM I q (by simp))
  | str j=>obtain ⟨t',rfl⟩:=ry; exact ne_str (aM I q (congrArg not jS))
  | _=>exact absurd (show false=true from hs) Bool.false_ne_true
 | byt i =>
  obtain ⟨t,rfl⟩:=rx
  cases y with
  | byt j=>obtain ⟨t',rfl⟩:=ry; exact PySem.W.ne_bytes (aM I q (congrArg not jT))
  | _=>exact absurd (show false=true from hs) Bool.false_ne_true
 | _=>cases y <;> exact absurd (show false=true from hs) Bool.false_ne_true
theorem jU:OpR X (compareOp .Lt) (rI0 fun i j=>.bl (decide (i < j))):=oo fun _ _ _ _ _ _ _ q=>lt_int q
theorem dL:OpR X (compareOp .LtE) (rI0 fun i j=>.bl (decide (i≤j))):=oo fun _ _ _ _ _ _ _ q=>le_int q
theorem fY:OpR X (compareOp .Gt) (rI0 fun i j=>.bl (decide (j < i))):=oo fun _ _ _ _ _ _ _ q=>gt_int q
theorem my:OpR X (compareOp .GtE) (rI0 fun i j=>.bl (decide (j≤i))):=oo fun _ _ _ _ _ _ _ q=>ge_int q
theorem qv:OpR X (compareOp .Is) (fun x y H Q=>y=.non∧Q (.bl (decide (x=.non))) H):=by
 intro pins s σ H x y v u Q I rx ry h
 obtain ⟨rfl,q⟩:=h
 cases ry
 refine is_none_gen (aM I q ?_)
 cases x <;> first
  | (cases rx; rfl)
  | (obtain ⟨t,rfl⟩:=rx; rfl)
theorem oq:OpR X (compareOp .IsNot) (fun x y H Q=>y=.non∧Q (.bl (!decide (x=.non))) H):=by
 intro pins s σ H x y v u Q I rx ry h
 obtain ⟨rfl,q⟩:=h
 cases ry
 refine isnot_none_gen (aM I q ?_)
 cases x <;> first
  | (cases rx; rfl)
  | (obtain ⟨t,rfl⟩:=rx; rfl)
theorem aG (b:Expr) {op:CmpOp} (h:op≠.In:=by decide) (h2:op≠.NotIn:=by decide):behindInMarks op b=false:=by
 have e1:(op == CmpOp.In)=false:=by cases op <;> first | rfl | exact absurd rfl h
 have e2:(op == CmpOp.NotIn)=false:=by cases op <;> first | rfl | exact absurd rfl h2
 cases b <;> simp [behindInMarks,e1,e2]
theorem bn {op:CmpOp} {r:R2} (ho:OpR X (compareOp op) r) (ha:PE X a ta) (hb:PE X b tb) (hm:behindInMarks op b=false):PE X (.Compare a [op] [b] pos) (tOp r ta tb):=by
 intro pins s σ H Q I h
 exact wpAny_Compare1 (qu ha hb I h fun v u s2 x y H2 I2 rx ry q=>ho pins s2 σ H2 x y v u Q I2 rx ry q) hm
def pU (t:TE):TT:=fun σ H Q=>t σ H fun x H'=>∃k,x=.bl k∧Q k H'
theorem aI {op:CmpOp} {r:R2} (ho:OpR X (compareOp op) r) (ha:PE X a ta) (hb:PE X b tb) (hm:behindInMarks op b=false):PT X (.Compare a [op] [b] pos) (pU (tOp r ta tb)):=by
 intro pins s σ H Q I h
 refine wpAny_isTrue_Compare1 (thn (ha pins s σ H _ I h) fun v s1 ⟨x,H1,I1,r1,q1⟩=>thn (hb pins s1 σ H1 _ I1 q1) fun u s2 ⟨y,H2,I2,r2,q2⟩ =>
  thn (ho pins s2 σ H2 x y v u _ I2 r1 r2 q2) fun c s3 ⟨z,H3,I3,r3,k,e,q3⟩=>?_) hm
 subst e
 cases r3
 exact wpAny_truthy_bool ⟨H3,I3,q3⟩
def qw (r r':R2) (ta tb tc:TE):TE:=fun σ H Q=>ta σ H fun x H1=>tb σ H1 fun y H2=>r x y H2 fun z H3=>∃k,z=.bl k ∧
 (if k=true then tc σ H3 fun w' H4=>r' y w' H4 Q else Q (.bl false) H3)
theorem mz {op op':CmpOp} {r r':R2} (ho:OpR X (compareOp op) r) (ho':OpR X (compareOp op') r') (ha:PE X a ta) (hb:PE X b tb) (hc:PE X c tc)
  (hm:lastMarks [op,op'] [b,c]=false:=by with_unfolding_all rfl):PT X (.Compare a [op,op'] [b,c] pos) (pU (qw r r' ta tb tc)):=by
 intro pins s σ H Q I h
 refine isTrue_chain (thn (ha pins s σ H _ I h) fun v s1 ⟨x,H1,I1,r1,q1⟩=>test_link (thn (hb pins s1 σ H1 _ I1 q1) fun u s2 ⟨y,H2,I2,r2,q2⟩ =>
  thn (ho pins s2 σ H2 x y v u _ I2 r1 r2 q2) fun d s3 ⟨z,H3,I3,r3,k,e,q3⟩=>?_)) hm
 subst e
 cases r3
 refine wpAny_truthy_bool ?_
 cases k with
 | false =>
  obtain ⟨k',e',q'⟩:=q3
  cases e'
  exact ite_ff ⟨H3,I3,q'⟩
 | true =>
  refine ite_tt (test_last (thn (hc pins s3 σ H3 _ I3 q3) fun w' s4 ⟨z',H4,I4,r4,q4⟩=>thn (ho' pins s4 σ H4 y z' u w' _ I4 r2 r4 q4) fun d' s5 ⟨z2,H5,I5,r5,k2,e2,q5⟩=>?_))
  subst e2
  cases r5
  exact wpAny_truthy_bool ⟨H5,I5,q5⟩
def tX (K:PySem.W.Frag) (x:V) (H:Hp) (k:Bool):Prop :=
 match x with
 | .non=>k=false
 | .bl b=>k=b
 | .int i=>k=(i != 0)
 | .str y=>y.length≤sizeLine∧k=((y.length:Int) != 0)
 | .byt y=>y.size≤sizeLine∧k=((y.size:Int) != 0)
 | .ref p=>(∃xs,SqL K H p xs∧k=!xs.isEmpty)∨(∃xs,SqT K H p xs∧k=!xs.isEmpty)∨∃kvs,H p=some (.dK kvs)∧k=!kvs.isEmpty
 | _=>False
theorem iY {κ:Type} {kvs:List (κ×V)} {vs:List (κ×Value)} (r:KV kvs vs):(!vs.isEmpty)=!kvs.isEmpty:=by
 cases r <;> rfl
theorem fi {xs:List V} {its:List Value} (r:Vals xs its):(!its.toArray.isEmpty)=!xs.isEmpty:=by
 cases r <;> simp
theorem eB:(sizeLine:Nat) < 2 ^ 63:=by rw [sizeLine_eq]; decide
theorem qx:zY X (fun x H Q=>∃k,tX X.K x H k∧Q k H):=by
 intro pins s σ H x v Q I rx h
 obtain ⟨k,e,q⟩:=h
 have hl:=eB
 have hs:sizeLine=16777216:=sizeLine_eq
 cases x with
 | non =>
  cases rx
  have e':k=false:=e
  subst e'
  exact truthy_none ⟨H,I,q⟩
 | bl b =>
  cases rx
  have e':k=b:=e
  subst e'
  exact wpAny_truthy_bool ⟨H,I,q⟩
 | int i =>
  obtain ⟨t,rfl⟩:=rx
  have e':k=(i != 0):=e
  subst e'
  exact PySem.P.truthy_int ⟨H,I,q⟩
 | str y =>
  obtain ⟨t,rfl⟩:=rx
  obtain ⟨hy,e'⟩:y.length≤sizeLine∧k=((y.length:Int) != 0):=e
  subst e'
  exact PySem.P.truthy_str (by omega) ⟨H,I.tok _,q⟩
 | byt y =>
  obtain ⟨t,rfl⟩:=rx
  obtain ⟨hy,e'⟩:y.size≤sizeLine∧k=((y.size:Int) != 0):=e
  subst e'
  exact PySem.W.truthy_bytes (by omega) ⟨H,I.tok _,q⟩
 | ref p =>
  cases rx
  have e':(∃xs,SqL X.K H p xs∧k=!xs.isEmpty)∨(∃xs,SqT X.K H p xs∧k=!xs.isEmpty)∨∃kvs,H p=some (.dK kvs)∧k=!kvs.isEmpty:=e
  rcases e' with ⟨xs,hx,e'⟩ | ⟨xs,hx,e'⟩ | ⟨kvs,hx,e'⟩
  ·subst e'
   obtain ⟨its,r,pl,hz⟩:=I.list hx
   have hlen:=r.length
   exact wpAny_truthy_list pl.isList (by simp only [List.size_toArray]; omega) ⟨H,I.tok _,by rw [fi r]; exact q⟩
  ·subst e'
   obtain ⟨its,r,pl,hz⟩:=I.tuple hx
   have hlen:=r.length
   exact truthy_tuple pl (by simp only [List.size_toArray]; omega) ⟨H,I.tok _,by rw [fi r]; exact q⟩
  ·subst e'
   obtain ⟨hz,hS,vs,r,m⟩:kvs.length≤sizeLine∧(p == sysModules)=false∧∃vs,KV kvs vs∧s.heap.DictOf (gz X.prog X.w) p vs:=I.hok p _ hx
   have hlen:kvs.length=vs.length:=Paired.length r
   exact wpAny_truthy_dict hS m (by omega) ⟨H,I.tok _,by rw [iY r]; exact q⟩
 | _=>exact (show False from e).elim
theorem mB (ha:PE X a ta) (he:∀aQ,isTrue a X.env aQ=(do let v←aQ; standAt a.pos; holding [v] (truthy v))) :
  PT X a (fun σ H Q=>ta σ H fun x H'=>∃k,tX X.K x H' k∧Q k H'):=by
 intro pins s σ H Q I h
 exact isTrue_plain (thn (ha pins s σ H _ I h) fun v s1 ⟨x,H1,I1,r1,q1⟩=>qx pins s1 σ H1 x v Q I1 r1 q1) (he _)
theorem eM {x:V} {us:List Value} (r:Vals [x] us):∃u,us=[u]∧RelV x u:=by
 cases r with
 | cons r1 r2=>cases r2; exact ⟨_,rfl,r1⟩
theorem pV {x y:V} {us:List Value} (r:Vals [x,y] us):∃u w',us=[u,w']∧RelV x u∧RelV y w':=by
 cases r with
 | cons r1 r2 =>
  cases r2 with
  | cons r3 r4=>cases r4; exact ⟨_,_,rfl,r1,r3⟩
theorem il:cD X (.builtin "abs") (fun xs H Q=>∃i,xs=[.int i]∧Q (.int (if i < 0 then -i else i)) H):=by
 intro pins s σ H xs us Q I r h
 obtain ⟨i,rfl,q⟩:=h
 obtain ⟨u,rfl,t,rfl⟩:=eM r
 exact call_abs_int fun u tk=>⟨.int (if i < 0 then -i else i),H,I.tok _,⟨_,rfl⟩,q⟩
theorem cF (hc:X.calm=true):cD X (.builtin "max") (fun xs H Q=>∃i j,xs=[.int i,.int j]∧Q (.int (if j > i then j else i)) H):=by
 intro pins s σ H xs us Q I r h
 obtain ⟨i,j,rfl,q⟩:=h
 obtain ⟨u,w',rfl,⟨t,rfl⟩,⟨t',rfl⟩⟩:=pV r
 refine max_two_ints (I.ok.hd hc) fun h' tk k=>⟨_,H,I.kept k,?_,q⟩
 by_cases hj:j > i
 ·rw [if_pos hj,if_pos hj]; exact ⟨_,rfl⟩
 ·rw [if_neg hj,if_neg hj]; exact ⟨_,rfl⟩
theorem kF (hc:X.calm=true):cD X (.builtin "min") (fun xs H Q=>∃i j,xs=[.int i,.int j]∧Q (.int (if j < i then j else i)) H):=by
 intro pins s σ H xs us Q I r h
 obtain ⟨i,j,rfl,q⟩:=h
 obtain ⟨u,w',rfl,⟨t,rfl⟩,⟨t',rfl⟩⟩:=pV r
 refine min_two_ints (I.ok.hd hc) fun h' tk k=>⟨_,H,I.kept k,?_,q⟩
 by_cases hj:j < i
 ·rw [if_pos hj,if_pos hj]; exact ⟨_,rfl⟩
 ·rw [if_neg hj,if_neg hj]; exact ⟨_,rfl⟩
theorem fZ:cD X (.type "int") (fun xs H Q=>(∃i,xs=[.int i]∧Q (.int i) H)∨∃k,xs=[.bl k]∧Q (.int (if k then 1 else 0)) H):=by
 intro pins s σ H xs us Q I r h
 rcases h with ⟨i,rfl,q⟩ | ⟨k,rfl,q⟩
 ·obtain ⟨u,rfl,t,rfl⟩:=eM r
  exact call_int_int ⟨.int i,H,I,⟨_,rfl⟩,q⟩
 ·obtain ⟨u,rfl,r1⟩:=eM r
  cases r1
  exact call_int_bool ⟨.int (if k then 1 else 0),H,I.tok _,⟨_,rfl⟩,q⟩
end
end L2
namespace L2
open PySem PySem.Spec PyProof.Rows
structure ObjM (h:Heap) (x dx C:Addr) (mA:Str→Option Value):Prop where
 obj:h.get? x=some (PySem.W.instObj C dx)
 ns:h.Ns1 dx mA
 ne:dx≠x
theorem kG {h:Heap} {dx:Addr} {mA:Str→Option Value} (n:h.Ns1 dx mA):∃od,h.get? dx=some od∧∀name,PySem.W.lookIn name od=some (mA name):=by
 obtain ⟨o,es,ep,ho,hd,hk,_,hm⟩:=n
 refine ⟨o,ho,fun name=>?_⟩
 have e:=hm name
 unfold nsFind findBy at e
 rw [← Array.find?_toList] at e
 unfold PySem.W.lookIn
 rw [hd]
 dsimp only
 split
 ·rename_i y q
  rw [q] at e
  exact congrArg some e
 ·rename_i q
  rw [q] at e
  have a:es.toList.any (·.refKey)=false:=by
   rw [List.any_eq_false]
   intro y hy
   obtain ⟨z,t,hkey⟩:=hk y (Array.mem_toList_iff.mp hy)
   simp [DictEntry.refKey,hkey]
  have a':¬ es.toList.any (·.refKey)=true:=by rw [a]; exact Bool.false_ne_true
  rw [if_neg a']
  exact congrArg some e
theorem ObjM.look {h:Heap} {x dx C:Addr} {mA:Str→Option Value} (I:ObjM h x dx C mA):∃od,PySem.W.InstAt h x (PySem.W.instObj C dx) C (some od)∧∀name,PySem.W.lookIn name od=some (mA name) :=
 let ⟨od,ho,hl⟩:=kG I.ns
 ⟨od,⟨I.obj,rfl,rfl,ho⟩,hl⟩
section
variable {prog:Program} {w:World} {A:Around} {E:Value→Shared→Prop} {s:Shared} {K:PySem.W.Frag} {x dx C f:Addr} {mA:Str→Option Value} {name:Str} {v:Value}
theorem ot {expr:Bool} {Q:Value→Shared→Prop} (X:K.In s.heap) (I:ObjM s.heap x dx C mA) (hg:PySem.W.plainGet K C name=true) (hh:PySem.W.hasDictIn K C=true)
  (ha:PySem.W.findIn K (.ref C) name=some none) (hv:mA name=some v) (hv':PySem.W.handedIn v=true) (h:Q v { s with toks:=s.toks + 1 }) :
  wpAny (model prog w) A (getAttr (.ref x) name expr) Q E s:=by
 obtain ⟨od,J,hl⟩:=I.look
 exact PySem.W.get_value X J (PySem.W.plainGet_of hg).1 (PySem.W.findObj_own hh ha rfl (by rw [hl,hv])) hv' h
theorem mC {pl:Sem Bool} {Q:Value×List Value→Shared→Prop} (X:K.In s.heap) (I:ObjM s.heap x dx C mA) (hg:PySem.W.plainGet K C name=true)
  (hf:PySem.W.findIn K (.ref C) name=some (some (.ref f))) (ht:PySem.W.isFn K (.ref f)=true) (hv:mA name=none) (h:Q (.ref f,[.ref x]) s) :
  wpAny (model prog w) A (getMethod (.ref x) name pl) Q E s:=by
 obtain ⟨od,J,hl⟩:=I.look
 exact PySem.W.method_fn X J (PySem.W.plainGet_of hg).1 (PySem.W.plainGet_of hg).2 hf (beq_iff_eq.mp ht) (by show (PySem.W.lookIn name od).map (·.isSome)=some false; rw [hl,hv]; rfl) h
theorem ou {ns:List Str} {Q:Unit→Shared→Prop} (X:K.In s.heap) (I:ObjM s.heap x dx C mA)
  (hs:PySem.W.findIn K (.ref C) "__setattr__" = some (some (.builtin "object.__setattr__"))) (hp:PySem.W.plainOver K C=true) (ht:PySem.W.takerIn K C name=some none) (hh:PySem.W.hasDictIn K C=true)
  (hw:PySem.Within mA ns) (hsz:ns.length≤sizeLine)
  (h:∀h',ObjM h' x dx C (fun y=>if y=name then some v else mA y)→Heap.SameBut dx s.heap h'→Q () { s with heap:=h',toks:=s.toks + 2 }) :
  wpAny (model prog w) A (setAttr (.ref x) name v) Q E s:=by
 obtain ⟨od,J,hl⟩:=I.look
 refine PySem.W.set_plain X J hs (PySem.W.osa_open (s:={ s with toks:=s.toks + 1 }) (r:=none) X J hp ht fun b=>?_)
 obtain ⟨cd,hc,hd'⟩:=PySem.W.any_some hh
 have hx:s.heap.get? x=some ⟨.ref C,some dx,.plain,#[]⟩:=I.obj
 refine wpAny_bind (wpAny_pure (wpAny_bind (wpAny_bind (wpAny_loadPart hx (wpAny_bind (PySem.W.Looks.here (s:={ s with toks:=s.toks + 1 }) (PySem.W.looks_clsIn X hc) ?_))))))
 rw [hd']
 refine wpAny_pure (a:=some dx) (wpAny_bind (wpAny_pure (wpAny_bind ?_)))
 refine wpAny_nsSet1 (s:={ s with toks:=s.toks + 1 }) I.ns fun h' hn2 hs2=>?_
 obtain ⟨oD,esD,epD,hoD,hdD,hcD⟩:=hn2.count (PySem.Within.cons name v hw)
 refine wpAny_bind (wpAny_lookBehind hoD (by rw [hdD]; exact pastItsLine_dict (Nat.le_trans hcD (by rw [List.length_cons]; omega))) ?_)
 exact wpAny_pure (h _ ⟨(hs2.2 _ (Ne.symm I.ne)).trans I.obj,hn2,I.ne⟩ hs2)
theorem mD {R:Result→Shared→Prop} {vs:List Value} {kw:List (Str×Value)} (X:K.In s.heap) (hm:PySem.W.makesIn K C=true)
  (hi:PySem.W.findIn K (.ref C) "__init__" = some (some (.ref f))) (hf:PySem.W.typeIn K (.ref f)=some (.type "function"))
  (h:codeAny (model prog w) (A.under (.builtin "type.__call__" ⟨.ref C :: vs,kw⟩)) (.call (.ref f) ⟨.ref (s.heap.objs.size + 1) :: vs,kw⟩) (PySem.W.InitBack (s.heap.objs.size + 1) R)
   { s with heap:=(s.heap.push PySem.W.emptyDict).push (PySem.W.instObj C s.heap.objs.size) }) :
  codeAny (model prog w) A (.call (.ref C) ⟨vs,kw⟩) R s:=by
 obtain ⟨hh,g,d,t,os⟩:=s
 exact PySem.W.make_core (PySem.W.makes_of X hm) (PySem.W.looks_findIn X hi) (fun self=>PySem.W.bind_fn X self hf) (.inl rfl) h
end
def cw (f:Str) (v:V):List (Str×V)→List (Str×V)
 | []=>[(f,v)]
 | (g,x) :: r=>if g=f then (g,v) :: r else (g,x) :: cw f v r
theorem bi (f g:Str) (v:V):∀fs:List (Str×V),(cw f v fs).lookup g=if g=f then some v else fs.lookup g
 | []=>by
  show List.lookup g [(f,v)]=_
  by_cases h:g=f
  ·have hb:(g == f)=true:=beq_iff_eq.mpr h
   simp only [List.lookup,hb,if_pos h]
  ·have hb:(g == f)=false:=beq_eq_false_iff_ne.mpr h
   simp only [List.lookup,hb,if_neg h]
 | (k,x) :: r=>by
  have ih:=bi f g v r
  rw [show cw f v ((k,x) :: r)=(if k=f then (k,v) :: r else (k,x) :: cw f v r) from rfl]
  by_cases hk:k=f
  ·rw [if_pos hk]
   by_cases h:g=k
   ·have hb:(g == k)=true:=beq_iff_eq.mpr h
    simp only [List.lookup,hb,if_pos (h.trans hk)]
   ·have hb:(g == k)=false:=beq_eq_false_iff_ne.mpr h
    simp only [List.lookup,hb,if_neg (fun e:g=f=>h (e.trans hk.symm))]
  ·rw [if_neg hk]
   by_cases h:g=k
   ·have hb:(g == k)=true:=beq_iff_eq.mpr h
    simp only [List.lookup,hb,if_neg (fun e:g=f=>hk (h.symm.trans e))]
   ·have hb:(g == k)=false:=beq_eq_false_iff_ne.mpr h
    simp only [List.lookup,hb]
    exact ih
theorem eC (f:Str) (v:V):∀fs:List (Str×V),f∈(cw f v fs).map (·.1)∧∀g,g∈fs.map (·.1)→g∈(cw f v fs).map (·.1)
 | []=>⟨by simp [cw],fun g h=>by simp at h⟩
 | (k,x) :: r=>by
  obtain ⟨i1,i2⟩:=eC f v r
  rw [show cw f v ((k,x) :: r)=(if k=f then (k,v) :: r else (k,x) :: cw f v r) from rfl]
  by_cases hk:k=f
  ·rw [if_pos hk]
   subst hk
   exact ⟨by simp,fun g h=>by simpa using h⟩
  ·rw [if_neg hk]
   refine ⟨?_,fun g h=>?_⟩
   ·rw [List.map_cons]
    exact List.mem_cons_of_mem _ i1
   ·rw [List.map_cons] at h ⊢
    rcases List.mem_cons.mp h with e | e
    ·exact List.mem_cons.mpr (.inl e)
    ·exact List.mem_cons_of_mem _ (i2 g e)
theorem cS (f:Str) (v:V):∀fs:List (Str×V),(cw f v fs).length≤fs.length + 1
 | []=>by simp [cw]
 | (k,x) :: r=>by
  have ih:=cS f v r
  rw [show cw f v ((k,x) :: r)=(if k=f then (k,v) :: r else (k,x) :: cw f v r) from rfl]
  by_cases hk:k=f
  ·rw [if_pos hk,List.length_cons,List.length_cons]; omega
  ·rw [if_neg hk,List.length_cons,List.length_cons]; omega
theorem RelO.some_of {v:V} {o:Option Value} (r:RelO (some v) o):∃u,o=some u∧RelV v u:=by
 cases o with
 | none=>exact (show False from r).elim
 | some u=>exact ⟨u,rfl,r⟩
theorem RelO.none_of {o:Option Value} (r:RelO none o):o=none:=by
 cases o with
 | none=>rfl
 | some u=>exact (show False from r).elim
theorem kH {v:V} {u:Value} (r:RelV v u):PySem.W.handedIn u=true:=by
 cases v with
 | non=>cases (show u=Value.none from r); rfl
 | bl b=>cases (show u=Value.bool b from r); rfl
 | int i=>obtain ⟨t,e⟩:=(show ∃t,u=Value.int i t from r); cases e; rfl
 | str x=>obtain ⟨t,e⟩:=(show ∃t,u=Value.str x t from r); cases e; rfl
 | byt b=>obtain ⟨t,e⟩:=(show ∃t,u=Value.bytes b t from r); cases e; rfl
 | flt b=>obtain ⟨t,e⟩:=(show ∃t,u=Value.float b t from r); cases e; rfl
 | ref a=>cases (show u=Value.ref a from r); rfl
 | ty n=>cases (show u=Value.type n from r); rfl
section
variable {P:Program} {w:World} {H H':Hp} {h h':Heap} {a C dx:Addr} {fs fs':List (Str×V)}
theorem dM (hok:HOk P w H h) (e:H a=some (.ins C dx fs)):∃mA,ObjM h a dx C mA∧(∀f,RelO (fs.lookup f) (mA f))∧PySem.Within mA (fs.map (·.1))∧fs.length≤1000∧H dx=some (.own a):=by
 obtain ⟨d,z,ne,ob,mA,n,r,q⟩:=(show ObjOk P w H h a (.ins C dx fs) from hok a _ e)
 exact ⟨mA,⟨ob,n,ne⟩,r,q,z,d⟩
end
structure Cls (K:PySem.W.Frag) (C:Addr):Prop where
 pg:PySem.W.plainGet K C Str.empty=true
 hd:PySem.W.hasDictIn K C=true
 po:PySem.W.plainOver K C=true
 sa:PySem.W.findIn K (.ref C) "__setattr__" = some (some (.builtin "object.__setattr__"))
theorem Cls.get {K:PySem.W.Frag} {C:Addr} (c:Cls K C) (f:Str):PySem.W.plainGet K C f=true:=c.pg
def NoAttr (K:PySem.W.Frag) (C:Addr) (f:Str):Prop:=PySem.W.findIn K (.ref C) f=some none
theorem NoAttr.taker {K:PySem.W.Frag} {C:Addr} {f:Str} (n:NoAttr K C f):PySem.W.takerIn K C f=some none:=by
 unfold PySem.W.takerIn
 rw [show PySem.W.findIn K (.ref C) f=some none from n]
 rfl
structure Con (K:PySem.W.Frag) (C:Addr) (f:Str) (v:V) (u:Value):Prop where
 at_:PySem.W.findIn K (.ref C) f=some (some u)
 rel:RelV v u
 get:PySem.W.specialIn K u "__get__" = some none
 cp:PySem.W.copiedNames.contains f=false
structure Meth (K:PySem.W.Frag) (C:Addr) (m:Str) (f:Addr):Prop where
 at_:PySem.W.findIn K (.ref C) m=some (some (.ref f))
 fn:PySem.W.isFn K (.ref f)=true
 kp:PySem.W.keepIn K (.ref f)=true
section
variable {X:Cx} {pins:List (Addr×Obj)} {σ:St} {H:Hp} {s:Shared} {a C dx:Addr} {fs:List (Str×V)} {f:Str} {v:V} {A:Around} {E:Value→Shared→Prop}
theorem iZ {b:Bool} {Q:Value→Shared→Prop} (I:Inv X pins σ H s) (e:H a=some (.ins C dx fs)) (c:Cls X.K C) (n:NoAttr X.K C f) (l:fs.lookup f=some v)
  (h:∀u s',Inv X pins σ H s'→RelV v u→Q u s'):wpAny (model X.prog X.w) A (getAttr (.ref a) f b) Q E s:=by
 obtain ⟨mA,O,r,_,_,_⟩:=dM I.hok e
 obtain ⟨u,hu,ru⟩:=RelO.some_of (v:=v) (o:=mA f) (by rw [← l]; exact r f)
 exact ot I.kIn O (c.get f) c.hd n hu (kH ru) (h u _ (I.tok _) ru)
theorem dz {m:Str} {g:Addr} {pl:Sem Bool} {Q:Value×List Value→Shared→Prop} (I:Inv X pins σ H s) (e:H a=some (.ins C dx fs)) (c:Cls X.K C) (k:Meth X.K C m g) (l:fs.lookup m=none)
  (h:Q (.ref g,[.ref a]) s):wpAny (model X.prog X.w) A (getMethod (.ref a) m pl) Q E s:=by
 obtain ⟨mA,O,r,_,_,_⟩:=dM I.hok e
 have hn:mA m=none:=RelO.none_of (by rw [← l]; exact r m)
 exact mC I.kIn O (c.get m) k.at_ k.fn hn h
theorem ja {y:V} {u:Value} {Q:Unit→Shared→Prop} (I:Inv X pins σ H s) (e:H a=some (.ins C dx fs)) (c:Cls X.K C) (n:NoAttr X.K C f) (hl:fs.length < 1000) (ry:RelV y u)
  (h:∀s',Inv X pins σ (upd H a (.ins C dx (cw f y fs))) s'→Q () s'):wpAny (model X.prog X.w) A (setAttr (.ref a) f u) Q E s:=by
 obtain ⟨mA,O,r,wi,_,ho⟩:=dM I.hok e
 have hz:(fs.map (·.1)).length≤sizeLine:=by rw [List.length_map,sizeLine_eq]; omega
 refine ou I.kIn O c.sa c.po n.taker c.hd wi hz fun h' O' sb=>h _ ?_
 have hd:∃o,h'.get? dx=some o:=let ⟨o,_,_,e',_⟩:=O'.ns; ⟨o,e'⟩
 refine I.write (x:=a) (e:=dx) (by rw [e]; exact True.intro) (.inr ho) (fun b q hb z=>(sb.2 b hb).trans z) hd ?_
 refine ⟨by rw [az O.ne]; exact ho,?_,O.ne,O'.obj,_,O'.ns,fun g=>?_,fun g hg=>?_⟩
 ·have:=cS f y fs; omega
 ·show RelO ((cw f y fs).lookup g) (if g=f then some u else mA g)
  rw [bi]
  by_cases q:g=f
  ·rw [if_pos q,if_pos q]; exact ry
  ·rw [if_neg q,if_neg q]; exact r g
 ·by_cases q:g=f
  ·rw [q]; exact (eC f y fs).1
  ·refine (eC f y fs).2 g (wi g fun z=>hg ?_)
   show (if g=f then some u else mA g)=none
   rw [if_neg q]; exact z
theorem Inv.made (I:Inv X pins σ H s):Inv X pins σ (upd (upd H s.heap.objs.size (.own (s.heap.objs.size + 1))) (s.heap.objs.size + 1) (.ins C s.heap.objs.size []))
  { s with heap:=(s.heap.push PySem.W.emptyDict).push (PySem.W.instObj C s.heap.objs.size) }:=by
 have e1:(s.heap.push PySem.W.emptyDict).get? s.heap.objs.size=some PySem.W.emptyDict:=Heap.get?_push_size s.heap rfl
 have e2:((s.heap.push PySem.W.emptyDict).push (PySem.W.instObj C s.heap.objs.size)).get? (s.heap.objs.size + 1)=some (PySem.W.instObj C s.heap.objs.size):=by
  have:=Heap.get?_push_size (s.heap.push PySem.W.emptyDict) (o:=PySem.W.instObj C s.heap.objs.size) rfl
  rwa [Heap.size_push] at this
 have e3:(s.heap.push PySem.W.emptyDict).Ns s.heap.objs.size (fun _=>none):=⟨PySem.W.emptyDict,#[],_,e1,rfl,(fun e he=>absurd he (by simp)),fun _=>rfl⟩
 have I1:=I.laid (a:=s.heap.objs.size) (o:=.own (s.heap.objs.size + 1)) (h':=s.heap.push PySem.W.emptyDict) (t':=s.toks) (fun b u q=>Heap.get?_push_of_some _ q) (Nat.le_refl _) ⟨_,e1⟩
 refine I1.laid (a:=s.heap.objs.size + 1) (o:=.ins C s.heap.objs.size []) (t':=s.toks) (fun b u q=>Heap.get?_push_of_some _ q) (Nat.le_of_eq (Heap.size_push _ _)) ?_
 have ne:s.heap.objs.size≠s.heap.objs.size + 1:=Nat.ne_of_lt (Nat.lt_succ_self _)
 refine ⟨by rw [az ne,ah],Nat.zero_le _,ne,e2,fun _=>none,(Heap.Ns1.of_empty e3).at fun o q=>Heap.get?_push_of_some _ q,fun _=>True.intro,fun y hy=>absurd rfl hy⟩
theorem ow {prog:Program} {w:World} {env:Env} {e:Expr} {f:Str} {pos:Pos} {s:Shared} {Q:Value→Shared→Prop} (hb:attributeBase e f env (eval e env)=eval e env)
  (h:wpAny (model prog w) A (eval e env) (fun o s₁=>wpAny (model prog w) A (getAttr o f true) Q E s₁) E s):wpAny (model prog w) A (eval (.Attribute e f pos) env) Q E s :=
 Attribute_any_ h (by rw [arm_eval_Attribute,hb])
end
def Aa (K:PySem.W.Frag) (ta:TE) (f:Str):TE:=fun σ H Q=>ta σ H fun x H1=>∃a C dx fs v,x=.ref a∧H1 a=some (.ins C dx fs)∧Cls K C∧NoAttr K C f∧fs.lookup f=some v∧Q v H1
def tY (K:PySem.W.Frag) (ta tv:TE) (f:Str):TS:=fun D σ H=>tv σ H fun y H1=>ta σ H1 fun x H2=>∃a C dx fs,x=.ref a∧H2 a=some (.ins C dx fs)∧Cls K C∧NoAttr K C f∧fs.length < 1000 ∧
 D.nx σ (upd H2 a (.ins C dx (cw f y fs)))
section
variable {X:Cx} {o e value:Expr} {f:Str} {pos pos' tpos:Pos} {ta tv:TE}
theorem gG (he:PE X e ta) (hb:attributeBase e f X.env (eval e X.env)=eval e X.env):PE X (.Attribute e f pos) (Aa X.K ta f):=by
 intro pins s σ H Q I h
 refine ow hb (thn (he pins s σ H _ I h) fun u s1 ⟨x,H1,I1,rx,a,C,dx,fs,v,ex,ea,c,n,l,q⟩=>?_)
 subst ex
 obtain rfl:u=Value.ref a:=rx
 exact iZ I1 ea c n l fun u' s2 I2 ru=>⟨v,H1,I2,ru,q⟩
theorem mE (ha:PE X o ta) (hv:PE X value tv) (hs:swapsWith value (some (.Attribute o f pos')) pos.line X.env=pure false):PS X (.Assign [.Attribute o f pos'] value pos) (tY X.K ta tv f):=by
 intro pins s σ H D I h
 refine plainObj_wpAny_Assign_Attribute (thn (hv pins s σ H _ I h) fun u s1 ⟨y,H1,I1,ry,q⟩=>thn (ha pins s1 σ H1 _ I1 q) fun ov s2 ⟨x,H2,I2,rx,a,C,dx,fs,ex,ea,c,n,l,q2⟩=>?_) hs
 subst ex
 obtain rfl:ov=Value.ref a:=rx
 exact ja I2 ea c n l ry fun s3 I3=>⟨σ,_,I3,q2⟩
theorem pW {pl:Sem Bool} {m:Str} {apos:Pos} {args:List Expr} {pins:List (Addr×Obj)} {s:Shared} {σ:St} {H:Hp} {Q:Value→Shared→Prop} {te:TE} (he:PE X e te) (I:Inv X pins σ H s)
  (h:te σ H fun x H1=>∃a C dx fs g,x=.ref a∧H1 a=some (.ins C dx fs)∧Cls X.K C∧Meth X.K C m g∧fs.lookup m=none ∧
   ∀s1,Inv X pins σ H1 s1→wpAny (model X.prog X.w) X.A (callWith pos (.ref g) [.ref a] (backTo pos (starEach args X.env)) (backToKw pos (keywordEach [] X.env))) Q X.xe s1)
  (ht:eval (.Call (.Attribute e m apos) args [] pos) X.env=(do
   let ov←eval e X.env
   standAt apos.atName
   let (f,first)←holding [ov] (getMethod ov m pl)
   callWith pos f first (backTo pos (starEach args X.env)) (backToKw pos (keywordEach [] X.env)))) :
  wpAny (model X.prog X.w) X.A (eval (.Call (.Attribute e m apos) args [] pos) X.env) Q X.xe s:=by
 refine PySem.W.methodCall_KW (pl:=pl) (thn (he pins s σ H _ I h) fun u s1 ⟨x,H1,I1,rx,a,C,dx,fs,g,ex,ea,c,k,l,q⟩=>?_) ht
 subst ex
 obtain rfl:u=Value.ref a:=rx
 exact dz I1 ea c k l (q s1 I1)
end
section
variable {X:Cx} {pins:List (Addr×Obj)} {σ:St} {H:Hp} {s:Shared} {A:Around} {E:Value→Shared→Prop} {Q:Value→Shared→Prop} {c:Value} {b:Bool}
inductive TyOf (K:PySem.W.Frag) (H:Hp):V→Value→Prop where
 | non:TyOf K H .non (.type "NoneType")
 | bl (x:Bool):TyOf K H (.bl x) (.type "bool")
 | int (i:Int):TyOf K H (.int i) (.type "int")
 | str (x:Str):TyOf K H (.str x) (.type "str")
 | flt (x:UInt64):TyOf K H (.flt x) (.type "float")
 | lst {a:Addr} {xs:List V} (e:H a=some (.lst xs)):TyOf K H (.ref a) (.type "list")
 | frz {a:Addr} {o:Obj} {xs:List V} (e:H a=some (.frz o (.lst xs))):TyOf K H (.ref a) (.type "list")
 | tup {a:Addr} {xs:List V} (e:H a=some (.tup xs)):TyOf K H (.ref a) (.type "tuple")
 | dK {a:Addr} {kvs:List (Key×V)} (e:H a=some (.dK kvs)):TyOf K H (.ref a) (.type "dict")
 | dT {a:Addr} {kvs:List (List Key×V)} (e:H a=some (.dT kvs)):TyOf K H (.ref a) (.type "dict")
 | ins {a C dx:Addr} {fs:List (Str×V)} (e:H a=some (.ins C dx fs)) (cl:Cls K C) (ha:PySem.W.findIn K (.ref C) "__class__" = some (some (.builtin "object.__class__")))
   (hn:PySem.W.specialIn K (.builtin "object.__class__") "__get__" = some (some (.builtin "getset_descriptor.__get__"))) (htk:PySem.W.takesIn K (.builtin "object.__class__")=some true)
   (hm:PySem.W.mroIn K C (.type "object")=some true):TyOf K H (.ref a) (.ref C)
theorem kI {x:V} {u t:Value} (I:Inv X pins σ H s) (rx:RelV x u) (ty:TyOf X.K H x t) (e:PySem.W.kitOne X.K t c=some b) (h:∀tk,Q (.bool b) { s with toks:=tk }) :
  wpAny (model X.prog X.w) A (call (.builtin "isinstance") [u,c]) Q E s:=by
 cases ty with
 | non=>cases (show u=Value.none from rx); exact PySem.W.kia_one PySem.W.kitx_none I.kIn True.intro e (fun z=>nomatch z) h
 | bl y=>cases (show u=Value.bool y from rx); exact PySem.W.kia_one PySem.W.kitx_bool I.kIn True.intro e (fun z=>nomatch z) h
 | int i=>obtain ⟨t,q⟩:=(show ∃t,u=Value.int i t from rx); cases q; exact PySem.W.kia_one PySem.W.kitx_int I.kIn True.intro e (fun z=>nomatch z) h
 | str y=>obtain ⟨t,q⟩:=(show ∃t,u=Value.str y t from rx); cases q; exact PySem.W.kia_one PySem.W.kitx_str I.kIn True.intro e (fun z=>nomatch z) h
 | flt y=>obtain ⟨t,q⟩:=(show ∃t,u=Value.float y t from rx); cases q; exact PySem.W.kia_one PySem.W.kitx_float I.kIn True.intro e (fun z=>nomatch z) h
 | @lst a xs ea =>
  cases (show u=Value.ref a from rx)
  obtain ⟨_,_,n,_,h1⟩:=(show ObjOk X.prog X.w H s.heap a (.lst xs) from I.hok a _ ea)
  exact PySem.W.kia_one PySem.W.kitx_list I.kIn ⟨_,h1,rfl⟩ e (fun z=>nomatch z) h
 | @frz a ob xs ea =>
  cases (show u=Value.ref a from rx)
  obtain ⟨_,_,_,n,_,h1⟩:=(show ObjOk X.prog X.w H s.heap a (.frz ob (.lst xs)) from I.hok a _ ea)
  exact PySem.W.kia_one PySem.W.kitx_list I.kIn ⟨_,h1,rfl⟩ e (fun z=>nomatch z) h
 | @tup a xs ea =>
  cases (show u=Value.ref a from rx)
  obtain ⟨_,_,_,p⟩:=(show ObjOk X.prog X.w H s.heap a (.tup xs) from I.hok a _ ea)
  obtain ⟨o,h1,h2,_⟩:=p
  exact PySem.W.kia_one PySem.W.kitx_tuple I.kIn ⟨o,h1,h2⟩ e (fun z=>nomatch z) h
 | @dK a kvs ea =>
  cases (show u=Value.ref a from rx)
  obtain ⟨_,_,vs,_,p⟩:=(show ObjOk X.prog X.w H s.heap a (.dK kvs) from I.hok a _ ea)
  obtain ⟨o,es,ep,h1,h2,_⟩:=p
  exact PySem.W.kia_one PySem.W.kitx_dict I.kIn ⟨o,h1,h2.1⟩ e (fun z=>nomatch z) h
 | @dT a kvs ea =>
  cases (show u=Value.ref a from rx)
  obtain ⟨_,_,xs,_,o,es,ep,h1,h2,_⟩:=(show ObjOk X.prog X.w H s.heap a (.dT kvs) from I.hok a _ ea)
  exact PySem.W.kia_one PySem.W.kitx_dict I.kIn ⟨o,h1,h2.1⟩ e (fun z=>nomatch z) h
 | @ins a C dx fs ea cl ha hn htk hm =>
  cases (show u=Value.ref a from rx)
  obtain ⟨mA,O,_⟩:=dM I.hok ea
  obtain ⟨od,J,_⟩:=O.look
  exact PySem.W.kia_one (PySem.W.kitx_own (cl.get _) cl.hd ha hn htk hm) I.kIn J e (fun z=>nomatch z) h
end
end L2
namespace L2
open PySem PySem.Spec PyProof.Rows
structure Room (k:Nat) (A:Around):Prop where
 hd:A.handled=none
 dp:A.depth + 3 * k + 5 < recursionLimit
 un:A.units + 16 * k + 200 < cLine
 gd:A.guards=some []
theorem Room.mono {j k:Nat} {A:Around} (r:Room k A) (h:j≤k):Room j A:=⟨r.hd,by have:=r.dp; omega,by have:=r.un; omega,r.gd⟩
theorem Room.deeper {k:Nat} {A:Around} (r:Room (k + 1) A) (env:Env):Room k (A.deeper env) :=
 ⟨r.hd,by have:=r.dp; show A.depth + 1 + 3 * k + 5 < _; omega,by have:=r.un; show A.units + 3 + 16 * k + 200 < _; omega,r.gd⟩
theorem jb {A:Around} {C:Addr} {us:List Value} {kw:List (Str×Value)}:(A.under (.builtin "type.__call__" ⟨.ref C :: us,kw⟩)).depth=A.depth + 1:=by
 first | rfl | simp [Around.under,Code.weight,Code.isCreation,Code.isGuard,Code.isCaller,Code.frames,Code.isFrame,guardIds]
theorem jc {A:Around} {C:Addr} {us:List Value} {kw:List (Str×Value)}:(A.under (.builtin "type.__call__" ⟨.ref C :: us,kw⟩)).units=A.units + 1:=by
 first | rfl | simp [Around.under,Code.cUnits,Code.frames,Code.isFrame]
theorem im {A:Around} {C:Addr} {us:List Value} {kw:List (Str×Value)}:(A.under (.builtin "type.__call__" ⟨.ref C :: us,kw⟩)).guards=A.guards:=by
 have e:Code.guards (.builtin "type.__call__" ⟨.ref C :: us,kw⟩)=[]:=by
  have:(Code.builtin "type.__call__" ⟨.ref C :: us,kw⟩).isGuard=false:=by show guardIds.contains "type.__call__" = false; decide +kernel
  simp [Code.guards,this]
 unfold Around.under
 dsimp only
 rw [e]
 rfl
theorem Room.make {k:Nat} {A:Around} (r:Room (k + 1) A) (C:Addr) (us:List Value) (kw:List (Str×Value)):Room k (A.under (.builtin "type.__call__" ⟨.ref C :: us,kw⟩)) :=
 ⟨r.hd,by have:=r.dp; rw [jb]; omega,by have:=r.un; rw [jc]; omega,by rw [im]; exact r.gd⟩
theorem Room.depth {k:Nat} {A:Around} (r:Room k A):A.depth < recursionLimit:=by have:=r.dp; omega
theorem Room.units {k:Nat} {A:Around} (r:Room k A):A.units + 64 < cLine:=by have:=r.un; omega
def kJ:TA:=fun _ H Q=>Q [] H
def jV (ta:TE) (tr:TA):TA:=fun σ H Q=>ta σ H fun x H1=>tr σ H1 fun xs H2=>Q (x :: xs) H2
section
variable {X:Cx} {e:Expr} {es:List Expr} {te:TE} {t:TA} {pos:Pos}
theorem ab:PA X [] kJ:=fun _ _ _ _ H Q I h=>Calls.spliced_nil ⟨[],H,I,.nil,h⟩
theorem aa (ha:PE X e te) (hr:PA X es t) (hs:starEach (e :: es) X.env=(false,eval e X.env) :: starEach es X.env:=by rfl):PA X (e :: es) (jV te t):=by
 intro pos pins s σ H Q I h
 rw [hs]
 show wpAny _ _ (spliced ((false,eval e X.env) :: backTo pos (starEach es X.env))) _ _ s
 refine Calls.spliced_cons (thn (ha pins s σ H _ I h) fun u s1 ⟨x,H1,I1,r1,q1⟩=>?_)
 exact thn (hr pos pins s1 σ H1 _ I1 q1) fun us s2 ⟨xs,H2,I2,r2,q2⟩=>⟨x :: xs,H2,I2,.cons r1 r2,q2⟩
def Ab (t:TA):TE:=fun σ H Q=>t σ H fun xs H1=>xs.length≤sizeLine∧∀p,H1 p=none→Q (.ref p) (upd H1 p (.tup xs))
def Ac (t:TA):TE:=fun σ H Q=>t σ H fun xs H1=>xs.length≤sizeLine∧∀p,H1 p=none→Q (.ref p) (upd H1 p (.lst xs))
theorem aN {x1} (h:PA X es t):PE X (.Tuple es x1 pos) (Ab t):=by
 intro pins s σ H Q I hq
 refine wpAny_Tuple_spliced (thn (h pos pins s σ H _ I hq) fun us s1 ⟨xs,H1,I1,r,z,q⟩=>⟨by rw [← r.length]; exact z,?_⟩)
 have hf:H1 s1.heap.objs.size=none:=I1.hok.fresh (Nat.le_refl _)
 refine ⟨.ref s1.heap.objs.size,upd H1 s1.heap.objs.size (.tup xs),I1.laid (t':=s1.toks) (fun b u e=>Heap.get?_push_of_some _ e) (Nat.le_refl _) ?_,rfl,q _ hf⟩
 exact ⟨z,us,r,⟨_,Heap.get?_push_size _ rfl,rfl,_,rfl⟩⟩
theorem bd (h:PA X es t):PE X (.List es pos) (Ac t):=by
 intro pins s σ H Q I hq
 refine wpAny_List_spliced (thn (h pos pins s σ H _ I hq) fun us s1 ⟨xs,H1,I1,r,z,q⟩=>⟨by rw [← r.length]; exact z,?_⟩)
 have hf:H1 s1.heap.objs.size=none:=I1.hok.fresh (Nat.le_refl _)
 refine ⟨.ref s1.heap.objs.size,upd H1 s1.heap.objs.size (.lst xs),I1.laid (t':=s1.toks) (fun b u e=>Heap.get?_push_of_some _ e) (Nat.le_refl _) ?_,rfl,q _ hf⟩
 exact ⟨z,us,0,r,Heap.get?_push_size _ rfl⟩
end
abbrev Sp:=List V→Hp→VK→XK→Prop
abbrev CXT:=List Env→Hp→Shared→XK→Value→Shared→Prop
structure Env0 (P:Program) (w:World) (K:PySem.W.Frag) (mg:Str→Option Value) (base:Heap) (A:Around) (outer:List Env) (s:Shared) (H:Hp):Prop where
 frames:A.frames=some outer
 mod:Mod K mg base
 bs:∀b o,base.get? b=some o→s.heap.get? b=some o∧H b=none
 bsz:base.objs.size≤s.heap.objs.size
 funs:s.heap.FunFrames base outer
 frf:∀b∈frs outer,H b=none
 hok:HOk P w H s.heap
 bare:AllBare s.gens
def CE (outer:List Env) (P:Program) (w:World) (H:Hp) (s:Shared) (Q:VK) (u:Value) (s':Shared):Prop :=
 ∃v H',s'.os=s.os∧AllBare s'.gens∧Un (frs outer) [] H H' s.heap s'.heap∧HOk P w H' s'.heap∧RelV v u∧Q v H'
def CR (CX:CXT) (outer:List Env) (P:Program) (w:World) (H:Hp) (s:Shared) (Q:VK) (E:XK) (r:Result) (s':Shared):Prop :=
 match r with
 | .ok (.ret u)=>CE outer P w H s Q u s'
 | .ok _=>False
 | .error e=>CX outer H s E e s'
structure FnOk (P:Program) (w:World) (K:PySem.W.Frag) (mg:Str→Option Value) (base:Heap) (CX:CXT) (k:Nat) (f:Addr) (fd:FuncData) (ps:List Str) (sp:Sp):Prop where
 len:∀vs H Q E,sp vs H Q E→vs.length=ps.length
 run:∀ (A:Around) (outer:List Env) (s:Shared) (H:Hp) (args:Args) (us:List Value) (vs:List V) (Q:VK) (E:XK),Room k A→Env0 P w K mg base A outer s H→BindsTo s fd args (ps.zip us)→Vals vs us→sp vs H Q E →
  codeAny (model P w) A (.call (.ref f) args) (CR CX outer P w H s Q E) s
theorem Env0.make {P:Program} {w:World} {K:PySem.W.Frag} {mg:Str→Option Value} {base:Heap} {A:Around} {outer:List Env} {s:Shared} {H:Hp} (e:Env0 P w K mg base A outer s H) (C:Addr) (us:List Value) (kw:List (Str×Value)) :
  Env0 P w K mg base (A.under (.builtin "type.__call__" ⟨.ref C :: us,kw⟩)) outer s H:=⟨by first | exact e.frames | (simpa [Around.under,Code.envs,Code.isFrame,pushEnvs] using e.frames),e.mod,e.bs,e.bsz,e.funs,e.frf,e.hok,e.bare⟩
section
variable {X:Cx} {pins:List (Addr×Obj)} {σ:St} {H:Hp} {s s':Shared}
theorem Inv.env0 (I:Inv X pins σ H s):Env0 X.prog X.w X.K X.mg X.base X.A X.stack s H :=
 ⟨I.ok.frames,I.ok.mod,I.bs,Nat.le_trans I.ok.bsz I.sz,I.stack,I.stkFree,I.hok,I.bare⟩
theorem Inv.after {Q:VK} {u:Value} (I:Inv X pins σ H s) (h:CE X.stack X.prog X.w H s Q u s'):EP X pins σ Q u s':=by
 obtain ⟨v,H',os,bare,un,hok,r,q⟩:=h
 obtain ⟨hh,g,d,t,os'⟩:=s'
 obtain rfl:os'=s.os:=os
 exact ⟨v,H',I.call (h':=hh) (g':=g) (d':=d) (t':=t) (ch:=[]) un hok bare (fun b z=>absurd z (by simp)),r,q⟩
end
def pX (sp:Sp) (dvs:List V) (E:XK) (t:TA):TE:=fun σ H Q=>t σ H fun vs H1=>sp (vs ++ dvs) H1 Q E
def jW (C:Addr) (m:Str) (sp:Sp) (dvs:List V) (E:XK) (ta:TE) (t:TA):TE:=fun σ H Q=>ta σ H fun x H1=>∃a dx fs,x=.ref a∧H1 a=some (.ins C dx fs)∧fs.lookup m=none ∧
 t σ H1 fun vs H2=>sp (x :: (vs ++ dvs)) H2 Q E
def pY (C:Addr) (sp:Sp) (dvs:List V) (E:XK) (t:TA):TE:=fun σ H Q=>t σ H fun vs H1=>∀x dx,H1 x=none→H1 dx=none→dx≠x →
 sp (.ref x :: (vs ++ dvs)) (upd (upd H1 dx (.own x)) x (.ins C dx [])) (fun v H2=>v=.non∧Q (.ref x) H2) E
def Binds (K:PySem.W.Frag) (fd:FuncData) (ps:List Str) (ds:List Value):Prop :=
 ∀ (s:Shared) (us:List Value),K.In s.heap→(us ++ ds).length=ps.length→BindsTo s fd ⟨us,[]⟩ (ps.zip (us ++ ds))
theorem Binds.all {K:PySem.W.Frag} {fd:FuncData} {ps:List Str} (h:∀us:List Value,us.length=ps.length→bindArgs fd ⟨us,[]⟩=pure (ps.zip us)):Binds K fd ps []:=fun s us _ hl=>by
 rw [List.append_nil] at hl ⊢
 exact .of_eq (h us hl)
def dA (CX:CXT) (X:Cx) (E:XK):Prop:=∀ (pins:List (Addr×Obj)) (σ:St) (H:Hp) (s:Shared) (e:Value) (s':Shared),Inv X pins σ H s→CX X.stack H s E e s'→X.xe e s'
section
variable {X:Cx} {CX:CXT} {k:Nat} {f C:Addr} {fd:FuncData} {ps:List Str} {sp:Sp} {dvs:List V} {ds:List Value} {E:XK} {x m:Str} {p pos apos:Pos} {e o:Expr} {es:List Expr} {ta:TE} {t:TA}
theorem jd {pins:List (Addr×Obj)} {σ:St} {H:Hp} {s:Shared} {Q:VK} {us:List Value} {vs:List V} (F:FnOk X.prog X.w X.K X.mg X.base CX k f fd ps sp) (hr:Room k X.A) (hb:Binds X.K fd ps ds) (hd:Vals dvs ds) (hx:dA CX X E)
  (I:Inv X pins σ H s) (r:Vals vs us) (h:sp (vs ++ dvs) H Q E):wpAny (model X.prog X.w) X.A (call (.ref f) us) (EP X pins σ Q) X.xe s:=by
 have r2:Vals (vs ++ dvs) (us ++ ds):=r.append hd
 have hl:(us ++ ds).length=ps.length:=by rw [← r2.length]; exact F.len _ _ _ _ h
 refine wpAny_call (codeAny_mono (F.run X.A X.stack s H ⟨us,[]⟩ (us ++ ds) (vs ++ dvs) Q E hr I.env0 (hb s us I.kIn hl) r2 h) fun r s' hq=>?_)
 cases r with
 | error e=>exact hx pins σ H s e s' I hq
 | ok fl =>
  cases fl with
  | ret u=>exact I.after hq
  | next=>exact False.elim hq
  | brk=>exact False.elim hq
  | cont=>exact False.elim hq
theorem oz (F:FnOk X.prog X.w X.K X.mg X.base CX k f fd ps sp) (hr:Room k X.A) (hg:Gl X x) (hm:X.mg x=some (.ref f)) (hk:PySem.W.keepIn X.K (.ref f)=true) (hb:Binds X.K fd ps ds) (hd:Vals dvs ds) (hx:dA CX X E)
  (ha:PA X (e :: es) t) (hdb:(x == ("__debug__" : Str))=false:=by decide) (he:starEach (e :: es) X.env=(false,eval e X.env) :: starEach es X.env:=by rfl) (hpl:(backTo pos (starEach es X.env)).any (·.1)=false:=by rfl) :
  PE X (.Call (.Name x p) (e :: es) [] pos) (pX sp dvs E t):=by
 intro pins s σ H Q I h
 refine wpAny_Call_Name_kw (gD I hg hm ?_ hdb)
 refine PySem.W.callWith_K (h₀:=X.base) I.ok.mod.kin hk (thn (ha pos pins s σ H _ I h) fun us s1 ⟨vs,H1,I1,r,q⟩=>⟨I1.kIn,?_⟩) he hpl
 exact jd F hr hb hd hx I1 r q
theorem oA {pl:Sem Bool} (he:PE X o ta) (c:Cls X.K C) (hm:Meth X.K C m f) (F:FnOk X.prog X.w X.K X.mg X.base CX k f fd ps sp) (hr:Room k X.A) (hb:Binds X.K fd ps ds) (hd:Vals dvs ds) (hx:dA CX X E) (ha:PA X (e :: es) t)
  (hst:starEach (e :: es) X.env=(false,eval e X.env) :: starEach es X.env:=by rfl) (hpl:(backTo pos (starEach es X.env)).any (·.1)=false:=by rfl)
  (ht:eval (.Call (.Attribute o m apos) (e :: es) [] pos) X.env=(do
   let ov←eval o X.env
   standAt apos.atName
   let (f,first)←holding [ov] (getMethod ov m pl)
   callWith pos f first (backTo pos (starEach (e :: es) X.env)) (backToKw pos (keywordEach [] X.env))):=by rfl) :
  PE X (.Call (.Attribute o m apos) (e :: es) [] pos) (jW C m sp dvs E ta t):=by
 intro pins s σ H Q I h
 refine PySem.W.methodCall_KW (pl:=pl) (thn (he pins s σ H _ I h) fun u s1 ⟨x,H1,I1,rx,a,dx,fs,ex,ea,l,q⟩=>?_) ht
 subst ex
 obtain rfl:u=Value.ref a:=rx
 refine dz I1 ea c hm l ?_
 refine PySem.W.callWith_K (first:=[.ref a]) (h₀:=X.base) I.ok.mod.kin hm.kp (thn (ha pos pins s1 σ H1 _ I1 q) fun us s2 ⟨vs,H2,I2,r,q2⟩=>⟨I2.kIn,?_⟩) hst hpl
 exact jd (us:=.ref a :: us) (vs:=.ref a :: vs) F hr hb hd hx I2 (.cons rfl r) q2
theorem mF {pl:Sem Bool} (he:PE X o ta) (c:Cls X.K C) (hm:Meth X.K C m f) (F:FnOk X.prog X.w X.K X.mg X.base CX k f fd ps sp) (hr:Room k X.A) (hb:Binds X.K fd ps ds) (hd:Vals dvs ds) (hx:dA CX X E)
  (ht:eval (.Call (.Attribute o m apos) [] [] pos) X.env=(do
   let ov←eval o X.env
   standAt apos.atName
   let (f,first)←holding [ov] (getMethod ov m pl)
   callWith pos f first (backTo pos (starEach [] X.env)) (backToKw pos (keywordEach [] X.env))):=by rfl) :
  PE X (.Call (.Attribute o m apos) [] [] pos) (jW C m sp dvs E ta kJ):=by
 intro pins s σ H Q I h
 refine PySem.W.methodCall_KW (pl:=pl) (thn (he pins s σ H _ I h) fun u s1 ⟨x,H1,I1,rx,a,dx,fs,ex,ea,l,q⟩=>?_) ht
 subst ex
 obtain rfl:u=Value.ref a:=rx
 refine dz I1 ea c hm l ?_
 exact PySem.W.callWith_K0 (first:=[.ref a]) I1.kIn hm.kp (jd (us:=[.ref a]) (vs:=[.ref a]) F hr hb hd hx I1 (.cons rfl .nil) q)
structure Mk (K:PySem.W.Frag) (C f:Addr):Prop where
 makes:PySem.W.makesIn K C=true
 init:PySem.W.findIn K (.ref C) "__init__" = some (some (.ref f))
 fn:PySem.W.isFn K (.ref f)=true
 kp:PySem.W.keepIn K (.ref C)=true
theorem mG {pins:List (Addr×Obj)} {σ:St} {H:Hp} {s:Shared} {Q:VK} {us:List Value} {vs:List V} (M:Mk X.K C f) (F:FnOk X.prog X.w X.K X.mg X.base CX k f fd ps sp) (hr:Room (k + 1) X.A) (hb:Binds X.K fd ps ds) (hd:Vals dvs ds)
  (hx:dA CX X E) (I:Inv X pins σ H s) (r:Vals vs us)
  (h:∀x dx,H x=none→H dx=none→dx≠x→sp (.ref x :: (vs ++ dvs)) (upd (upd H dx (.own x)) x (.ins C dx [])) (fun v H2=>v=.non∧Q (.ref x) H2) E) :
  wpAny (model X.prog X.w) X.A (call (.ref C) us) (EP X pins σ Q) X.xe s:=by
 have hq:=h (s.heap.objs.size + 1) s.heap.objs.size (I.hok.fresh (Nat.le_succ _)) (I.hok.fresh (Nat.le_refl _)) (Nat.ne_of_lt (Nat.lt_succ_self _))
 have I2:=Inv.made (C:=C) I
 have r2:Vals (V.ref (s.heap.objs.size + 1) :: (vs ++ dvs)) (Value.ref (s.heap.objs.size + 1) :: (us ++ ds)):=.cons rfl (r.append hd)
 have hl:(Value.ref (s.heap.objs.size + 1) :: us ++ ds).length=ps.length:=by
  have e:=r2.length
  rw [F.len _ _ _ _ hq] at e
  exact e.symm
 refine wpAny_call (mD (f:=f) I.kIn M.makes M.init (beq_iff_eq.mp M.fn) (codeAny_mono (F.run _ X.stack _ _ ⟨Value.ref (s.heap.objs.size + 1) :: us,[]⟩ (Value.ref (s.heap.objs.size + 1) :: (us ++ ds)) _ _ E (hr.make C us [])
  (I2.env0.make C us []) (hb _ (Value.ref (s.heap.objs.size + 1) :: us) I2.kIn hl) r2 hq) fun r s' hq'=>?_))
 cases r with
 | error e=>exact hx pins σ _ _ e s' I2 hq'
 | ok fl =>
  cases fl with
  | ret u =>
   obtain ⟨v,H',I3,rv,ev,q3⟩:=I2.after hq'
   subst ev
   exact ⟨rv,⟨V.ref (s.heap.objs.size + 1),H',I3,rfl,q3⟩⟩
  | next=>exact False.elim hq'
  | brk=>exact False.elim hq'
  | cont=>exact False.elim hq'
theorem oB (M:Mk X.K C f) (F:FnOk X.prog X.w X.K X.mg X.base CX k f fd ps sp) (hr:Room (k + 1) X.A) (hg:Gl X x) (hm:X.mg x=some (.ref C)) (hb:Binds X.K fd ps ds) (hd:Vals dvs ds) (hx:dA CX X E)
  (ha:PA X (e :: es) t) (hdb:(x == ("__debug__" : Str))=false:=by decide) (he:starEach (e :: es) X.env=(false,eval e X.env) :: starEach es X.env:=by rfl) (hpl:(backTo pos (starEach es X.env)).any (·.1)=false:=by rfl) :
  PE X (.Call (.Name x p) (e :: es) [] pos) (pY C sp dvs E t):=by
 intro pins s σ H Q I h
 refine wpAny_Call_Name_kw (gD I hg hm ?_ hdb)
 refine PySem.W.callWith_K (h₀:=X.base) I.ok.mod.kin M.kp (thn (ha pos pins s σ H _ I h) fun us s1 ⟨vs,H1,I1,r,q⟩=>⟨I1.kIn,?_⟩) he hpl
 exact mG M F hr hb hd hx I1 r q
end
section
variable {X:Cx} {CX:CXT} {k:Nat} {f C:Addr} {fd:FuncData} {ps ks:List Str} {sp:Sp} {E:XK} {x m:Str} {p pos apos kpos:Pos} {e o:Expr} {es:List Expr} {kws:List Keyword} {te ta:TE} {t tk:TA} {nm:Option Str}
structure KBinds (K:PySem.W.Frag) (fd:FuncData) (ps ks:List Str) (g:List Value→List Value→List Value) (gV:List V→List V→List V):Prop where
 to:∀ (s:Shared) (us ws:List Value),K.In s.heap→(g us ws).length=ps.length→BindsTo s fd ⟨us,ks.zip ws⟩ (ps.zip (g us ws))
 rel:∀ {vs:List V} {us:List Value} {zs:List V} {ws:List Value},Vals vs us→Vals zs ws→Vals (gV vs zs) (g us ws)
variable {g:List Value→List Value→List Value} {gV:List V→List V→List V}
end
structure FnScope (N P:List Str) (sc:Scope):Prop where
 kind:sc.kind=.function
 co:sc.isCoroutine=false
 gen:sc.isGenerator=false
 nd:N.Nodup
 pre:N.take P.length=P
 par:∀x∈P,sc.names.lookup x=some .local∨sc.names.lookup x=some .cell
 nofree:∀y∈sc.names,y.2≠.free
theorem ge {kindOf:Str→Option NameKind} {x:Str}:∀ {binds:List (Str×Value)} {m:Str→Option Value},(∀v,(x,v)∉binds)→bindL kindOf binds m x=m x
 | [],_,_=>rfl
 | (n,v) :: r,m,h=>by
  unfold bindL
  rw [ge fun w hw=>h w (List.mem_cons_of_mem _ hw)]
  split
  ·have:x≠n:=by rintro rfl; exact h v List.mem_cons_self
   simp [this]
  ·rfl
theorem gf {kindOf:Str→Option NameKind} {x:Str}:∀ {binds:List (Str×Value)} {m:Str→Option Value},(∀v,(x,v)∉binds)→bindC kindOf binds m x=m x
 | [],_,_=>rfl
 | (n,v) :: r,m,h=>by
  unfold bindC
  rw [gf fun w hw=>h w (List.mem_cons_of_mem _ hw)]
  split
  ·rfl
  ·have:x≠n:=by rintro rfl; exact h v List.mem_cons_self
   simp [this]
theorem gg {kindOf:Str→Option NameKind} {x:Str} {v:Value}:∀ {P:List Str} {vs:List Value} {i:Nat} {m:Str→Option Value},P.Nodup→P[i]? = some x→vs[i]? = some v→kindOf x=some .local →
  bindL kindOf (P.zip vs) m x=some v
 | [],_,_,_,_,h,_,_=>by simp at h
 | _ :: _,[],_,_,_,_,h,_=>by simp at h
 | p :: P,w :: vs,0,m,nd,h1,h2,hk=>by
  simp at h1 h2; subst h1; subst h2
  show bindL kindOf ((p,w) :: P.zip vs) m p=_
  unfold bindL
  rw [ge fun v hv=>(List.nodup_cons.mp nd).1 (List.of_mem_zip hv).1,if_pos hk]
  simp
 | p :: P,w :: vs,i + 1,m,nd,h1,h2,hk=>by
  show bindL kindOf ((p,w) :: P.zip vs) m x=_
  unfold bindL
  exact gg (i:=i) (List.nodup_cons.mp nd).2 (by simpa using h1) (by simpa using h2) hk
theorem gh {kindOf:Str→Option NameKind} {x:Str} {v:Value}:∀ {P:List Str} {vs:List Value} {i:Nat} {m:Str→Option Value},P.Nodup→P[i]? = some x→vs[i]? = some v→kindOf x≠some .local →
  bindC kindOf (P.zip vs) m x=some v
 | [],_,_,_,_,h,_,_=>by simp at h
 | _ :: _,[],_,_,_,_,h,_=>by simp at h
 | p :: P,w :: vs,0,m,nd,h1,h2,hk=>by
  simp at h1 h2; subst h1; subst h2
  show bindC kindOf ((p,w) :: P.zip vs) m p=_
  unfold bindC
  rw [gf fun v hv=>(List.nodup_cons.mp nd).1 (List.of_mem_zip hv).1,if_neg hk]
  simp
 | p :: P,w :: vs,i + 1,m,nd,h1,h2,hk=>by
  show bindC kindOf ((p,w) :: P.zip vs) m x=_
  unfold bindC
  exact gh (i:=i) (List.nodup_cons.mp nd).2 (by simpa using h1) (by simpa using h2) hk
def start (N:List Str) (vs:List V):St:=vs.map some ++ List.replicate (N.length - vs.length) none
def kL (CX:CXT) (P:Program) (w:World) (K:PySem.W.Frag) (mg:Str→Option Value) (base:Heap) (N:List Str) (qual:Str) (scope:Scope) (f:Addr) (cd:Value) (A:Around) (outer:List Env) (s:Shared) (H:Hp) (E:XK):Cx where
 prog:=P
 w:=w
 K:=K
 mg:=mg
 base:=base
 A:=A.deeper (envOfC qual scope s.heap.objs.size f cd)
 N:=N
 s₀:=s
 H₀:=H
 env:=envOfC qual scope s.heap.objs.size f cd
 outer:=outer
 stack:=envOfC qual scope s.heap.objs.size f cd :: outer
 ex:=[]
 calm:=true
 fn:=fun _=>true
 pn:=[]
 xe:=fun e s'=>wpAny (model P w) (A.deeper (envOfC qual scope s.heap.objs.size f cd)) (leaving (envOfC qual scope s.heap.objs.size f cd) e) (fun _ s''=>CX outer H s E e s'') (fun e' s''=>CX outer H s E e' s'') s'
theorem io {sc:Scope} {n:Nat} {x:Str} (h:sc.names.lookup x=some .cell):∃c,(cellsFrom n sc.names []).lookup x=some c:=by
 have q:=PySem.W.cellsFrom_some sc.names n [] (.inl h)
 exact Option.isSome_iff_exists.mp q
theorem kM {CX:CXT} {P:Program} {w:World} {K:PySem.W.Frag} {mg:Str→Option Value} {base:Heap} {N ps:List Str} {qual:Str} {scope:Scope} {f:Addr} {cd:Value} {A:Around} {outer:List Env} {s s1:Shared} {H:Hp} {E:XK} {us:List Value} {vs:List V}
  (S:FnScope N ps scope) (hd:A.handled=none) (e0:Env0 P w K mg base A outer s H) (hl:vs.length=ps.length) (r:Vals vs us)
  (x:InCallC s s.heap.objs.size (bindL (envOfC qual scope s.heap.objs.size f cd).kindOf (ps.zip us) fun _=>none) (cellsFrom (s.heap.objs.size + 1) scope.names []) (bindC (envOfC qual scope s.heap.objs.size f cd).kindOf (ps.zip us) fun _=>none) s1) :
  Inv (kL CX P w K mg base N qual scope f cd A outer s H E) [] (start N vs) H s1:=by
 have hpl:ps.length≤N.length:=by have:=congrArg List.length S.pre; rw [List.length_take] at this; omega
 obtain ⟨h1,tk,rfl,hk⟩:=x.done
 have noA:∀b:Addr,b∉(kL CX P w K mg base N qual scope f cd A outer s H E).ex:=fun b z=>absurd (show b∈([]:List Addr) from z) (by simp)
 refine ⟨⟨e0.mod,S.kind,rfl,rfl,Nat.le_refl _,fun y z c h1 h2=>?_,fun y hy=>?_,fun y c _ h=>?_,fun _=>hd,Around.frames_deeper e0.frames,.inr ⟨rfl,rfl⟩,fun b z=>absurd z (noA b),e0.bs,e0.bsz,fun b _ _=>noA b,fun b z=>absurd z (noA b),e0.funs,e0.frf⟩,
  rfl,e0.bare,Un.kept hk,⟨_,x.toInCall.ns,fun i y v h1 h2 h3=>?_⟩,fun y c h=>⟨_,x.cell y c h⟩,e0.hok.fresh (Nat.le_refl _),fun y c h=>?_,fun p hp=>absurd (show p∈([]:List (Addr×Obj)) from hp) (by simp),e0.hok.kept hk,?_⟩
 ·exact name_of_addr x.apart (PySem.mem_of_lookup h1) (PySem.mem_of_lookup h2)
 ·have hy:scope.names.lookup y=some .cell∨scope.names.lookup y=some .free:=hy
  rcases hy with hy | hy
  ·exact io hy
  ·exact absurd rfl (S.nofree _ (PySem.mem_of_lookup hy))
 ·exact Nat.le_of_lt (x.above y c (PySem.mem_of_lookup h))
 ·have hi:i < vs.length:=by
   unfold start at h2
   by_cases hi:i < vs.length
   ·exact hi
   ·rw [List.getElem?_append_right (by simpa using hi)] at h2
    rw [List.getElem?_replicate] at h2
    split at h2 <;> cases h2
  have ha:vs[i]? = some v:=by
   unfold start at h2
   rw [List.getElem?_append_left (by simpa using hi),List.getElem?_map] at h2
   cases e:vs[i]? with
   | none=>rw [e] at h2; cases h2
   | some a=>rw [e] at h2; cases h2; rfl
  obtain ⟨u,hu,rv⟩:=r.get ha
  have hp:ps[i]? = some y:=by
   rw [← S.pre,List.getElem?_take_of_lt (by omega)]; exact h1
  have ndP:ps.Nodup:=by rw [← S.pre]; exact S.nd.sublist (List.take_sublist _ _)
  refine ⟨u,rv,?_⟩
  rcases S.par y (List.mem_of_getElem? hp) with k | k
  ·exact .inl ⟨k,gg ndP hp hu k⟩
  ·obtain ⟨c,e⟩:=io (n:=s.heap.objs.size + 1) k
   refine .inr ⟨.inl k,c,e,?_⟩
   have q:=x.cell y c e
   rw [gh ndP hp hu (by show scope.names.lookup y≠_; rw [k]; decide)] at q
   exact q
 ·exact e0.hok.fresh (Nat.le_of_lt (x.above y c (PySem.mem_of_lookup h)))
 ·unfold start
  show _=N.length
  rw [List.length_append,List.length_map,List.length_replicate]
  omega
theorem tZ {CX:CXT} {P:Program} {w:World} {K:PySem.W.Frag} {mg:Str→Option Value} {base:Heap} {k:Nat} {f:Addr} {name qual:Str} {params:Arguments} {body:List Stmt} {scope:Scope} {dV kV doc pm cdv ct oc:Value} {an od:Option Addr}
  {osl:Array (Option Value)} {N ps:List Str} {sp:Sp} (lk:K.lookup f=some ⟨oc,od,.func (PySem.W.fnOf name qual params body scope dV kV doc pm an cdv ct),osl⟩) (hcd:PySem.W.codeIn K cdv qual=true) (S:FnScope N ps scope)
  (len:∀vs H Q E,sp vs H Q E→vs.length=ps.length)
  (hbody:∀ (A:Around) (outer:List Env) (s:Shared) (H:Hp) (vs:List V) (Q:VK) (E:XK),Room k (A.deeper (envOfC qual scope s.heap.objs.size f cdv))→sp vs H Q E →
   ∃t,PSs (kL CX P w K mg base N qual scope f cdv A outer s H E) body t∧t { nx:=fun _ H'=>Q .non H',rt:=Q } (start N vs) H) :
  FnOk P w K mg base CX (k + 1) f (PySem.W.fnOf name qual params body scope dV kV doc pm an cdv ct) ps sp:=by
 refine ⟨len,fun A outer s H args us vs Q E hr e0 hb r hsp=>?_⟩
 have hl:=len _ _ _ _ hsp
 have KX:K.In s.heap:=e0.mod.kin.keeps fun b o e=>(e0.bs b o e).1
 have lim:s.heap.NoLimit:=e0.mod.nolimit.keeps fun b o e=>(e0.bs b o e).1
 have hkind:∀y∈ps.zip us,scope.names.lookup y.1=some .local∨(scope.names.lookup y.1=some .cell∧((cellsFrom (s.heap.objs.size + 1) scope.names []).lookup y.1).isSome=true):=fun ⟨n,v⟩ hy=>by
  rcases S.par n (List.of_mem_zip hy).1 with q | q
  ·exact .inl q
  ·exact .inr ⟨q,PySem.W.cellsFrom_some _ _ _ (.inl q)⟩
 refine codeAny_call_function hr.depth (KX _ _ lk) rfl S.co S.gen rfl (PySem.W.codeRec_of KX hcd) (hb _ _ _ _ ?_)
 refine wpAny_newFunctionEnv_cells S.kind hkind fun env he s1 x=>?_
 subst he
 refine ⟨lim.keeps x.toInCall.keep,codeAny_func ?_⟩
 obtain ⟨t,ht,hq⟩:=hbody A outer s H vs Q E (hr.deeper _) hsp
 have I:Inv (kL CX P w K mg base N qual scope f cdv A outer s H E) [] (start N vs) H s1:=kM S hr.hd e0 hl r x
 refine wpAny_mono (ht [] s1 (start N vs) H _ I hq) (fun fl s' hs=>?_) fun e s' hs=>hs
 have fin:∀ {σ':St} {H':Hp} {v:V} {u:Value},Inv (kL CX P w K mg base N qual scope f cdv A outer s H E) [] σ' H' s'→RelV v u→Q v H'→CE outer P w H s Q u s' :=
  fun {σ' H' v u} J rv q=>⟨v,H',J.os,J.bare,J.base,J.hok,rv,q⟩
 cases fl with
 | ret u =>
  obtain ⟨v,σ',H',J,rv,q⟩:=hs
  exact fin J rv q
 | next =>
  obtain ⟨σ',H',J,q⟩:=hs
  exact fin (v:=V.non) (u:=Value.none) J rfl q
 | brk =>
  obtain ⟨_,_,_,q⟩:=hs
  exact False.elim q
 | cont =>
  obtain ⟨_,_,_,q⟩:=hs
  exact False.elim q
end L2
namespace L2
open PySem PySem.Spec PyProof.Rows
section
variable {X:Cx} {x:Str} {p pos:Pos} {e:Expr} {es:List Expr} {t:TA} {id T:String} {r:List V→Hp→VK→Prop}
def tCB (r:List V→Hp→VK→Prop) (t:TA):TE:=fun σ H Q=>t σ H fun vs H1=>r vs H1 Q
theorem aE (hc:cD X (.builtin id) r) (hg:Gl X x) (hm:X.mg x=none) (hv:bootBuiltins x=some (.builtin id)) (ha:PA X (e :: es) t) (hn:x ≠ "__name__" := by decide) (hdb:(x == ("__debug__" : Str))=false:=by decide)
  (he:starEach (e :: es) X.env=(false,eval e X.env) :: starEach es X.env:=by rfl) (hpl:(backTo pos (starEach es X.env)).any (·.1)=false:=by rfl):PE X (.Call (.Name x p) (e :: es) [] pos) (tCB r t):=by
 intro pins s σ H Q I h
 refine wpAny_Call_Name_kw (du I hg hm hv ?_ hn hdb)
 exact PyProof.Rows.callWith_builtin1 (thn (ha pos pins s σ H _ I h) fun us s1 ⟨vs,H1,I1,r1,q1⟩=>hc pins s1 σ H1 vs us Q I1 r1 q1) he hpl
theorem bv (hc:cD X (.type T) r) (hg:Gl X x) (hm:X.mg x=none) (hv:bootBuiltins x=some (.type T)) (ha:PA X (e :: es) t) (hn:x ≠ "__name__" := by decide) (hdb:(x == ("__debug__" : Str))=false:=by decide)
  (he:starEach (e :: es) X.env=(false,eval e X.env) :: starEach es X.env:=by rfl) (hpl:(backTo pos (starEach es X.env)).any (·.1)=false:=by rfl):PE X (.Call (.Name x p) (e :: es) [] pos) (tCB r t):=by
 intro pins s σ H Q I h
 refine wpAny_Call_Name_kw (du I hg hm hv ?_ hn hdb)
 exact PyProof.Rows.callWith_type1 (thn (ha pos pins s σ H _ I h) fun us s1 ⟨vs,H1,I1,r1,q1⟩=>hc pins s1 σ H1 vs us Q I1 r1 q1) he hpl
end
end L2
namespace HT
open PySem PyProof.Rows
section
open PySem.SeqAt
open PySem.AutoSeq1 (wpAny_loadPart')
open PySem.MeetsSeq PySem.MeetsSeq2 PySem.MeetsSeq3
end
section
variable {prog:Program} {w:World} {A:Around} {E:Value→Shared→Prop} {s:Shared}
theorem cat_tup {t b:Addr} {vs ws:List Value} {Q:Value→Shared→Prop} (ht:IsTup s.heap t vs.toArray) (hb:IsTup s.heap b ws.toArray) (hv:vs≠[])
  (h1:ws=[]→Q (.ref t) s) (h2:ws≠[]→Q (.ref s.heap.objs.size) { s with heap:=s.heap.push { cls:=.type "tuple",data:=.seq (vs ++ ws).toArray } })
  (hsz:vs.length + ws.length≤sizeLine):wpAny (model prog w) A (binaryOp .Add (.ref t) (.ref b)) Q E s:=by
 obtain ⟨⟨cls,dd,data,sl⟩,ho,hc,n,hd⟩:=id ht
 obtain ⟨⟨cls2,dd2,data2,sl2⟩,ho2,hc2,n2,hd2⟩:=id hb
 simp only at hc hd hc2 hd2
 subst hc hd hc2 hd2
 have e:vs.toArray ++ ws.toArray=(vs ++ ws).toArray:=by simp
 by_cases hw:ws=[]
 ·exact concat_meets ⟨_,ho,rfl⟩ ⟨_,ho2,rfl⟩ noFill_tuple_add seq_tuple_add PySem.F.slot_tuple_add PySem.F.entry_tuple_add (PySem.F.args_tuple_add_2 _ _)
   (tuple_addW1 t b vs.toArray ws.toArray n n2 dd dd2 sl sl2 (by simpa using hv) (by simp [hw])) ⟨ho,ho2,h1 hw⟩
 ·refine concat_meets ⟨_,ho,rfl⟩ ⟨_,ho2,rfl⟩ noFill_tuple_add seq_tuple_add PySem.F.slot_tuple_add PySem.F.entry_tuple_add (PySem.F.args_tuple_add_2 _ _)
   (tuple_addW2 t b vs.toArray ws.toArray n n2 dd dd2 sl sl2 (by simpa using hv) (by simpa using hw) (by rw [List.size_toArray,List.size_toArray]; exact hsz)) ⟨ho,ho2,?_⟩
  rw [e]
  exact h2 hw
def sIx (n d:Nat):Option Int→Nat
 | none=>d
 | some v=>if v < 0 then (v + (n:Int)).toNat else min v.toNat n
theorem sIx_none (n d:Nat):sIx n d none=d:=rfl
theorem sIx_nat (n d k:Nat):sIx n d (some (k:Int))=min k n:=by
 show (if (k:Int) < 0 then ((k:Int) + (n:Int)).toNat else min (k:Int).toNat n)=min k n
 rw [if_neg (by omega),Int.toNat_natCast]
theorem qy (n d:Nat) (hd:d≤n) (o:Option Int):sIx n d o≤n:=by
 cases o with
 | none=>exact hd
 | some v =>
  show (if v < 0 then (v + (n:Int)).toNat else min v.toNat n)≤n
  by_cases hv:v < 0
  ·rw [if_pos hv]; omega
  ·rw [if_neg hv]; exact Nat.min_le_right _ _
theorem jX (v:Int) (n d:Nat):(if v < 0 then max (v + (n:Int)) 0 else min v (n:Int))=((sIx n d (some v):Nat):Int):=by
 show (if v < 0 then max (v + (n:Int)) 0 else min v (n:Int))=(((if v < 0 then (v + (n:Int)).toNat else min v.toNat n):Nat):Int)
 by_cases hv:v < 0
 ·simp only [if_pos hv]; omega
 ·simp only [if_neg hv]; omega
theorem je (lo hi:Option Int) (n:Nat):Builtin.Slice.sliceAdjust lo hi 1 (n:Int)=(((sIx n 0 lo:Nat):Int),((sIx n n hi:Nat):Int)):=by
 have h1:¬ ((1:Int) < 0):=by omega
 unfold Builtin.Slice.sliceAdjust
 simp only [h1,if_false]
 refine Prod.ext ?_ ?_
 ·cases lo with
  | none=>rfl
  | some v=>exact jX v n 0
 ·cases hi with
  | none=>rfl
  | some v=>exact jX v n n
theorem jf (i j:Nat):Builtin.Slice.slicePlaces (i:Int) (j:Int) 1=j - i:=by
 unfold Builtin.Slice.slicePlaces
 have h1:(1:Int) > 0:=by omega
 simp only [h1,if_true,Int.ediv_one]
 split <;> omega
theorem fj {v:Value} {o:Option Int} {Q:Option Int→Shared→Prop} (p:IsPart v o) (h:Q o s):wpAny (model prog w) A (Builtin.Slice.slicePartIndex v) Q E s:=by
 cases p with
 | none=>exact slicePart_none h
 | int i t=>exact slicePart_int h
theorem eD {sl:Addr} {vl vu:Value} {lo hi:Option Int} {n:Nat} {Q:Int×Int×Nat→Shared→Prop} (hs:s.heap.IsSliceOf sl vl vu .none) (pl:IsPart vl lo) (pu:IsPart vu hi)
  (h:Q (((sIx n 0 lo:Nat):Int),1,sIx n n hi - sIx n 0 lo) s):wpAny (model prog w) A (Builtin.Slice.sliceApplied (.ref sl) (pure (n:Int))) Q E s:=by
 obtain ⟨os,hos,hcs,hds⟩:=id hs
 unfold Builtin.Slice.sliceApplied Builtin.Slice.sliceFields
 refine wpAny_bind (wpAny_bind (wpAny_field hos hds (x:=vl) rfl (wpAny_bind (wpAny_field hos hds (x:=vu) rfl (wpAny_bind (wpAny_field hos hds (x:=.none) rfl (wpAny_pure ?_)))))))
 refine wpAny_bind (slicePart_none ?_)
 show wpAny _ _ (if ((1:Int) == 0)=true then _ else _) _ _ s
 rw [if_neg (by decide)]
 refine wpAny_bind (fj pl (wpAny_bind (fj pu (wpAny_bind (wpAny_pure ?_)))))
 show wpAny _ _ (match Builtin.Slice.sliceAdjust lo hi 1 (n:Int) with | (lo,hi)=>pure (lo,(1:Int),Builtin.Slice.slicePlaces lo hi 1)) _ _ s
 rw [je lo hi n]
 show wpAny _ _ (pure (((sIx n 0 lo:Nat):Int),(1:Int),Builtin.Slice.slicePlaces ((sIx n 0 lo:Nat):Int) ((sIx n n hi:Nat):Int) 1)) _ _ s
 rw [jf]
 exact wpAny_pure h
theorem mH (xs:Array Value) (i k:Nat):((List.range k).filterMap fun (m:Nat)=>xs[((i:Int) + (m:Int) * 1).toNat]?).toArray=((xs.toList.drop i).take k).toArray:=by
 have e:(fun (m:Nat)=>xs[((i:Int) + (m:Int) * 1).toNat]?)=fun m=>xs[i + m]? := by
  funext m
  have:((i:Int) + (m:Int) * 1).toNat=i + m:=by omega
  rw [this]
 rw [e]
 have:=pick_run xs i k
 rw [List.filterMap_map] at this
 have e2:((fun x=>xs[x]?)∘fun x=>i + x)=fun m=>xs[i + m]? := rfl
 rw [e2] at this
 rw [this]
theorem getItem_tuple_cut {t sl:Addr} {items:Array Value} {vl vu:Value} {lo hi:Option Int} {Q:Value→Shared→Prop} (ht:IsTup s.heap t items) (hs:s.heap.IsSliceOf sl vl vu .none) (pl:IsPart vl lo) (pu:IsPart vu hi)
  (hw:¬ (sIx items.size 0 lo=0∧sIx items.size items.size hi=items.size))
  (h:Q (.ref s.heap.objs.size) { s with heap:=s.heap.push { cls:=.type "tuple",data:=.seq ((items.toList.drop (sIx items.size 0 lo)).take (sIx items.size items.size hi - sIx items.size 0 lo)).toArray } })
  (hsz:items.size≤sizeLine):wpAny (model prog w) A (getItem (.ref t) (.ref sl)) Q E s:=by
 have htake:sizeOk (.seq ((items.toList.drop (sIx items.size 0 lo)).take (sIx items.size items.size hi - sIx items.size 0 lo)).toArray):=by
  show ((items.toList.drop (sIx items.size 0 lo)).take (sIx items.size items.size hi - sIx items.size 0 lo)).toArray.size≤sizeLine
  rw [List.size_toArray,List.length_take,List.length_drop,Array.length_toList]
  omega
 have hj:sIx items.size items.size hi≤items.size:=qy _ _ (Nat.le_refl _) hi
 obtain ⟨os,hos,hcs,hds⟩:=id hs
 have hTs:s.TypeIs (.ref sl) "slice" := ⟨os,hos,hcs⟩
 unfold getItem
 try with_reducible refine wpAny_holding ?_
 first | refine wpAny_bind (wpAny_pure ?_) | skip
 refine wpAny_bind (wpAny_sequenceKey ht.typeIs (by decide) ?_)
 refine wpAny_bind (wpAny_callSpecial?_slot (name:=Str.ofString "__getitem__") ht.typeIs PyProof.Rows.slot_tuple_getitem
  (wpAny_call_entry PyProof.Rows.slot_tuple_getitem ht.typeIs entry_tuple_getitem ?_ (args_tuple_getitem _ _)))
 show wpAny _ _ (Builtin.Tuple.tupleItemsOf (.ref t) >>= _) _ _ s
 refine wpAny_bind (tupleItemsOf_ ht ?_)
 refine wpAny_bind (wpAny_typeOf hTs ?_)
 rw [if_pos (by decide)]
 refine wpAny_bind (eD hs pl pu ?_)
 have hno:¬ ((((sIx items.size 0 lo:Nat):Int) == 0 && (1:Int) == 1 && (sIx items.size items.size hi - sIx items.size 0 lo) == items.size)=true):=by
  intro q
  rw [Bool.and_eq_true,Bool.and_eq_true] at q
  have q1:((sIx items.size 0 lo:Nat):Int)=0:=eq_of_beq q.1.1
  have q2:sIx items.size items.size hi - sIx items.size 0 lo=items.size:=eq_of_beq q.2
  exact hw ⟨by omega,by omega⟩
 show wpAny _ _ (if (((sIx items.size 0 lo:Nat):Int) == 0 && (1:Int) == 1 && (sIx items.size items.size hi - sIx items.size 0 lo) == items.size)=true then _ else _) _ _ s
 rw [if_neg hno,mH]
 first
  | exact wpAny_bind (m:=Builtin.Tuple.tupleExact _) (wpAny_newObj_type (wpAny_pure ⟨_,rfl,wpAny_pure h⟩) htake)
  | exact wpAny_bind (m:=Builtin.Tuple.tupleExact _) (wpAny_newObj_type (wpAny_bind (wpAny_pure (wpAny_pure ⟨_,rfl,wpAny_pure h⟩))) htake)
  | exact wpAny_bind (wpAny_bind (m:=Builtin.Tuple.tupleExact _) (wpAny_newObj_type (wpAny_pure (wpAny_pure ⟨_,rfl,wpAny_pure h⟩)) htake))
  | exact wpAny_bind (wpAny_bind (m:=Builtin.Tuple.tupleExact _) (wpAny_newObj_type (wpAny_pure ⟨_,rfl,wpAny_pure h⟩) htake))
end
end HT
namespace L2
open PySem PySem.Spec PyProof.Rows
abbrev TO:=St→Hp→(Option Int→Hp→Prop)→Prop
def PO (X:Cx) (e:Option Expr) (t:TO):Prop :=
 ∀ (pins:List (Addr×Obj)) (s:Shared) (σ:St) (H:Hp) (Q:Option Int→Hp→Prop),Inv X pins σ H s→t σ H Q →
  wpAny (model X.prog X.w) X.A (evalPart e X.env) (fun u s'=>∃o H',Inv X pins σ H' s'∧IsPart u o∧Q o H') X.xe s
def oC:TO:=fun _ H Q=>Q none H
def ua (t:TE):TO:=fun σ H Q=>t σ H fun x H1=>∃i,x=.int i∧Q (some i) H1
section
variable {X:Cx} {e:Expr} {te:TE} {lo hi:Option Expr} {tl th:TO} {pos p2:Pos}
theorem cx:PO X none oC:=by
 intro pins s σ H Q I h
 rw [evalPart_none]
 exact wpAny_pure ⟨none,H,I,.none,h⟩
theorem cy (h:PE X e te):PO X (some e) (ua te):=by
 intro pins s σ H Q I hw
 rw [evalPart_some]
 refine thn (h pins s σ H _ I hw) fun u s1 ⟨x,H1,I1,r1,q1⟩=>?_
 obtain ⟨i,rfl,q⟩:=q1
 obtain ⟨t,rfl⟩:=r1
 exact ⟨some i,H1,I1,.int i t,q⟩
def SlR (X:Cx) (r:V→Option Int→Option Int→Hp→VK→Prop):Prop :=
 ∀ (pins:List (Addr×Obj)) (s:Shared) (σ:St) (H:Hp) (x:V) (v vl vu:Value) (lo hi:Option Int) (sl:Addr) (Q:VK),Inv X pins σ H s→RelV x v→s.heap.IsSliceOf sl vl vu .none→IsPart vl lo→IsPart vu hi→r x lo hi H Q →
  ∃T id,typeLookup (.type T) "__getitem__" = pure (some (.builtin id))∧s.TypeIs v T∧wpAny (model X.prog X.w) X.A (getItem v (.ref sl)) (EP X pins σ Q) X.xe s
def tSl (r:V→Option Int→Option Int→Hp→VK→Prop) (te:TE) (tl th:TO):TE:=fun σ H Q=>te σ H fun x H1=>tl σ H1 fun l H2=>th σ H2 fun u H3=>r x l u H3 Q
theorem bT {r:V→Option Int→Option Int→Hp→VK→Prop} (hr:SlR X r) (he:PE X e te) (hl:PO X lo tl) (hu:PO X hi th):PE X (.Subscript e (.Slice lo hi none p2) pos) (tSl r te tl th):=by
 intro pins s σ H Q I h
 refine Subscript_ (thn (he pins s σ H _ I h) fun v s1 ⟨x,H1,I1,r1,q1⟩=>?_)
 refine wpAny_Slice (thn (hl pins s1 σ H1 _ I1 q1) fun vl s2 ⟨l,H2,I2,pl,q2⟩=>thn (hu pins s2 σ H2 _ I2 q2) fun vu s3 ⟨u,H3,I3,pu,q3⟩=>?_)
 rw [evalPart_none]
 refine wpAny_pure ?_
 have I4:Inv X pins σ H3 { s3 with heap:=s3.heap.push { cls:=.type "slice", data:=.fields #[vl, vu, .none] } }:=I3.kept (t':=s3.toks) fun b ob q=>Heap.get?_push_of_some _ q
 obtain ⟨T,id,hT,ht,hg⟩:=hr pins { s3 with heap:=s3.heap.push { cls:=.type "slice",data:=.fields #[vl,vu,.none] } } σ H3 x v vl vu l u s3.heap.objs.size Q I4 r1 (Heap.IsSliceOf.new ..) pl pu q3
 show wpAny (model X.prog X.w) X.A (subscriptTail e (.Slice lo hi none p2) v (.ref s3.heap.objs.size)) (EP X pins σ Q) X.xe { s3 with heap:=s3.heap.push { cls:=.type "slice",data:=.fields #[vl,vu,.none] } }
 exact tail_any (ops:=[.ref s3.heap.objs.size,v]) ht hT hg (by with_unfolding_all rfl)
def bK (xs:List V) (lo hi:Option Int):List V:=(xs.drop (HT.sIx xs.length 0 lo)).take (HT.sIx xs.length xs.length hi - HT.sIx xs.length 0 lo)
theorem eN (xs:List V) (lo hi:Option Int):(bK xs lo hi).length≤xs.length:=by
 unfold bK
 rw [List.length_take,List.length_drop]
 omega
def kN (K:PySem.W.Frag):V→Option Int→Option Int→Hp→VK→Prop:=fun x lo hi H Q=>∃a xs,x=.ref a∧SqT K H a xs ∧
 ¬ (HT.sIx xs.length 0 lo=0∧HT.sIx xs.length xs.length hi=xs.length)∧∀p,H p=none→Q (.ref p) (upd H p (.tup (bK xs lo hi)))
theorem eE:SlR X (kN X.K):=by
 intro pins s σ H x v vl vu lo hi sl Q I rx hs pl pu h
 obtain ⟨a,xs,rfl,hx,hw,q⟩:=h
 cases rx
 obtain ⟨its,r,ht,hz⟩:=I.tuple hx
 have hlen:its.toArray.size=xs.length:=by rw [List.size_toArray]; exact r.length.symm
 refine ⟨"tuple",_,PyProof.Rows.slot_tuple_getitem.lookup,ht.typeIs,?_⟩
 refine HT.getItem_tuple_cut ht hs pl pu (by rw [hlen]; exact hw) ?_ (by rw [hlen]; exact hz)
 rw [hlen]
 refine ⟨.ref s.heap.objs.size,_,I.laid (t':=s.toks) (o:=.tup (bK xs lo hi)) (fun b ob q=>Heap.get?_push_of_some _ q) (Nat.le_refl _) ?_,rfl,q _ (I.hok.fresh (Nat.le_refl _))⟩
 exact ⟨Nat.le_trans (eN xs lo hi) hz,_,(r.drop (HT.sIx xs.length 0 lo)).take (HT.sIx xs.length xs.length hi - HT.sIx xs.length 0 lo),IsTup.new _ _⟩
def ub (K:PySem.W.Frag):R2:=fun x y H Q=>∃a b xs ys,x=.ref a∧y=.ref b∧SqT K H a xs∧SqT K H b ys∧xs≠[]∧xs.length + ys.length≤sizeLine ∧
 (ys=[]→Q (.ref a) H)∧(ys≠[]→∀p,H p=none→Q (.ref p) (upd H p (.tup (xs ++ ys))))
theorem Vals.nil_iff {xs:List V} {us:List Value} (r:Vals xs us):us=[]↔xs=[]:=by
 cases r with
 | nil=>simp
 | cons _ _=>simp
theorem oE:OpR X (binaryOp .Add) (ub X.K):=by
 intro pins s σ H x y v u Q I rx ry h
 obtain ⟨a,b,xs,ys,rfl,rfl,ha,hb,hx,hz,q1,q2⟩:=h
 cases rx
 cases ry
 obtain ⟨its,r1,p1,_⟩:=I.tuple ha
 obtain ⟨its2,r2,p2,_⟩:=I.tuple hb
 refine HT.cat_tup p1 p2 (fun z=>hx (r1.nil_iff.mp z)) (fun z=>⟨.ref a,H,I,rfl,q1 (r2.nil_iff.mp z)⟩) (fun z=>?_) (by rw [← r1.length,← r2.length]; exact hz)
 refine ⟨.ref s.heap.objs.size,_,I.laid (t':=s.toks) (o:=.tup (xs ++ ys)) (fun b ob q=>Heap.get?_push_of_some _ q) (Nat.le_refl _) ?_,rfl,q2 (fun w=>z (r2.nil_iff.mpr w)) _ (I.hok.fresh (Nat.le_refl _))⟩
 exact ⟨by rw [List.length_append]; exact hz,_,r1.append r2,IsTup.new _ _⟩
end
end L2
namespace L2
open PySem PySem.Spec PyProof.Rows
def ixN (n:Nat) (i:Int):Option Nat:=if 0≤i then (if i < n then some i.toNat else none) else if -(n:Int)≤i then some (i + n).toNat else none
def atI {α:Type} (xs:List α) (i:Int):Option α:=(ixN xs.length i).bind fun j=>xs[j]?
theorem jY {n:Nat} {i:Int} {j:Nat} (h:ixN n i=some j):seqIndex? i n=some j∧j < n∧-(n:Int)≤i∧i < n:=by
 unfold ixN at h
 by_cases h0:0≤i
 ·rw [if_pos h0] at h
  by_cases h1:i < n
  ·rw [if_pos h1] at h
   have e:i.toNat=j:=Option.some.inj h
   exact ⟨by rw [seqIndex_of h0 h1,e],by omega,by omega,h1⟩
  ·rw [if_neg h1] at h; cases h
 ·rw [if_neg h0] at h
  by_cases h1:-(n:Int)≤i
  ·rw [if_pos h1] at h
   have e:(i + n).toNat=j:=Option.some.inj h
   exact ⟨by rw [seqIndex_neg (by omega) h1,e],by omega,h1,by omega⟩
  ·rw [if_neg h1] at h; cases h
theorem gH {α:Type} {xs:List α} {i:Int} {v:α} (h:atI xs i=some v):∃j,seqIndex? i xs.length=some j∧xs[j]? = some v∧j < xs.length∧-(xs.length:Int)≤i∧i < xs.length:=by
 unfold atI at h
 cases e:ixN xs.length i with
 | none=>rw [e] at h; cases h
 | some j =>
  rw [e] at h
  obtain ⟨h1,h2,h3,h4⟩:=jY e
  exact ⟨j,h1,h,h2,h3,h4⟩
theorem oF {α:Type} {xs:List α} {j:Nat} {v:α} (h:xs[j]? = some v):atI xs (j:Int)=some v:=by
 have hj:j < xs.length:=(List.getElem?_eq_some_iff.mp h).1
 have e:ixN xs.length (j:Int)=some j:=by
  unfold ixN
  rw [if_pos (by omega),if_pos (by omega)]; simp
 unfold atI; rw [e]; exact h
def oG (b:Expr):Prop:=∀o i,subscripted b false o i=operate [o,i] (getItem o i)
def IxR (X:Cx) (r:R2):Prop :=
 ∀ (value slice:Expr) (pins:List (Addr×Obj)) (s:Shared) (σ:St) (H:Hp) (x y:V) (v u:Value) (Q:VK),Inv X pins σ H s→RelV x v→RelV y u→r x y H Q →
  subscripted slice false v u=operate [v,u] (getItem v u)→wpAny (model X.prog X.w) X.A (subscriptTail value slice v u) (EP X pins σ Q) X.xe s
def MtR (X:Cx) (id:String) (r:V→List V→Hp→VK→Prop):Prop :=
 ∀ (pins:List (Addr×Obj)) (s:Shared) (σ:St) (H:Hp) (x:V) (xs:List V) (v:Value) (us:List Value) (Q:VK),Inv X pins σ H s→RelV x v→Vals xs us→r x xs H Q →
  wpAny (model X.prog X.w) X.A (call (.builtin id) (v :: us)) (EP X pins σ Q) X.xe s
section
variable {X:Cx} {a b:Expr} {ta tb:TE} {pos:Pos}
theorem IxR.or {r r':R2} (h:IxR X r) (h':IxR X r'):IxR X (fun x y H Q=>r x y H Q∨r' x y H Q):=by
 intro value slice pins s σ H x y v u Q I rx ry q hs
 rcases q with q | q
 ·exact h value slice pins s σ H x y v u Q I rx ry q hs
 ·exact h' value slice pins s σ H x y v u Q I rx ry q hs
theorem ar {r:R2} (hr:IxR X r) (ha:PE X a ta) (hb:PE X b tb) (hs:oG b):PE X (.Subscript a b pos) (tOp r ta tb):=by
 intro pins s σ H Q I h
 exact Subscript_ (qu ha hb I h fun v u s2 x y H2 I2 rx ry q=>hr a b pins s2 σ H2 x y v u Q I2 rx ry q (hs _ _))
def qz (K:PySem.W.Frag):R2:=fun x y H Q=>∃p xs i v,x=.ref p∧y=.int i∧SqL K H p xs∧atI xs i=some v∧Q v H
def cO (K:PySem.W.Frag):R2:=fun x y H Q=>∃p xs i v,x=.ref p∧y=.int i∧SqT K H p xs∧atI xs i=some v∧Q v H
def uc:R2:=fun x y H Q=>∃z i c,x=.str z∧y=.int i∧z.length≤sizeLine∧atI z.cps.toList i=some c∧Q (.str ⟨#[c]⟩) H
theorem ix_list:IxR X (qz X.K):=by
 intro value slice pins s σ H x y v u Q I rx ry h hs
 obtain ⟨p,xs,i,z,rfl,rfl,hq,he,q⟩:=h
 cases rx
 obtain ⟨t,rfl⟩:=ry
 obtain ⟨its,r,pl,hz⟩:=I.list hq
 obtain ⟨j,h1,h2,h3,h4,h5⟩:=gH he
 obtain ⟨w,ew,rw'⟩:=r.get h2
 have hl:=r.length
 have hn:=eB
 have fin:EP X pins σ Q w s:=⟨z,H,I,rw',q⟩
 by_cases h0:0≤i
 ·have hj:i.toNat=j:=by
   rw [seqIndex_of h0 h5] at h1
   exact Option.some.inj h1
  exact item_listR pl.isList h0 (by omega) (by rw [hj]; simpa using ew) fin hs
 ·have hj:(i + (its.toArray.size:Int)).toNat=j:=by
   rw [seqIndex_neg (by omega) h4] at h1
   rw [List.size_toArray,← hl]
   exact Option.some.inj h1
  exact subscriptTail_builtinR (x:=w) pl.isList.typeIs slot_list_getitem.lookup
   (wpAny_getItem_list_neg (Q:=fun r s'=>r=w∧EP X pins σ Q r s') pl.isList (by omega) (by rw [List.size_toArray] <;> omega) (by omega) (by rw [hj]; simpa using ew) ⟨rfl,fin⟩) hs
theorem ix_tup:IxR X (cO X.K):=by
 intro value slice pins s σ H x y v u Q I rx ry h hs
 obtain ⟨p,xs,i,z,rfl,rfl,hq,he,q⟩:=h
 cases rx
 obtain ⟨t,rfl⟩:=ry
 obtain ⟨its,r,pl,hz⟩:=I.tuple hq
 obtain ⟨j,h1,h2,h3,h4,h5⟩:=gH he
 obtain ⟨w,ew,rw'⟩:=r.get h2
 have hl:=r.length
 have hn:=eB
 have fin:EP X pins σ Q w s:=⟨z,H,I,rw',q⟩
 exact subscriptTail_builtinR (x:=w) pl.typeIs slot_tuple_getitem.lookup
  (getItem_tuple (j:=j) (Q:=fun r s'=>r=w∧EP X pins σ Q r s') pl (by omega) (by omega) (by rw [List.size_toArray,← hl]; exact h1) (by simpa using ew) ⟨rfl,fin⟩) hs
theorem qA:IxR X uc:=by
 intro value slice pins s σ H x y v u Q I rx ry h hs
 obtain ⟨z,i,c,rfl,rfl,hz,he,q⟩:=h
 obtain ⟨t,rfl⟩:=rx
 obtain ⟨t',rfl⟩:=ry
 obtain ⟨j,h1,h2,h3,h4,h5⟩:=gH he
 have hl:z.cps.toList.length=z.length:=by simp [Str.length]
 rw [hl] at h1 h4 h5
 have hn:=eB
 exact tail_any (typeIs_str s z t) slot_str_getitem.lookup (getItem_str (c:=c) (by
  have e1:decide (i < -(2 ^ 63:Int))=false:=decide_eq_false (by omega)
  have e2:decide (i≥2 ^ 63)=false:=decide_eq_false (by omega)
  rw [e1,e2,Bool.or_false]) (by rw [h1]; simpa using h2) ⟨.str ⟨#[c]⟩,H,I.tok _,⟨_,rfl⟩,q⟩) hs
def rIx (K:PySem.W.Frag):R2:=fun x y H Q=>qz K x y H Q∨cO K x y H Q∨uc x y H Q
theorem cB:IxR X (rIx X.K):=ix_list.or (ix_tup.or qA)
theorem jg (its:List Value) (n j:Nat) (u:Value):Obj.mapSeq (·.setIfInBounds j u) { cls:=.type "list",data:=.seq its.toArray n }={ cls:=.type "list",data:=.seq (its.set j u).toArray n }:=by
 simp [Obj.mapSeq]
theorem Inv.lst {pins:List (Addr×Obj)} {σ:St} {H:Hp} {s:Shared} {p:Addr} {xs:List V} (I:Inv X pins σ H s) (h:H p=some (.lst xs)) :
  ∃ (its:List Value) (n:Nat),Vals xs its∧s.heap.get? p=some { cls:=.type "list",data:=.seq its.toArray n }∧xs.length≤sizeLine:=by
 obtain ⟨z,its,n,r,e⟩:=I.hok p _ h
 exact ⟨its,n,r,e,z⟩
theorem Inv.lstUpd {pins:List (Addr×Obj)} {σ:St} {H:Hp} {s:Shared} {p:Addr} {xs ys:List V} {its its':List Value} {n n':Nat} {f:Obj→Obj} (I:Inv X pins σ H s) (h:H p=some (.lst xs))
  (ho:s.heap.get? p=some { cls:=.type "list", data:=.seq its.toArray n }) (hf:f { cls:=.type "list", data:=.seq its.toArray n }={ cls:=.type "list", data:=.seq its'.toArray n' }) (r:Vals ys its') (hz:ys.length≤sizeLine) (t:Nat) :
  Inv X pins σ (upd H p (.lst ys)) { s with heap:=s.heap.update p f,toks:=t }:=by
 have e:(s.heap.update p f).get? p=some { cls:=.type "list", data:=.seq its'.toArray n' }:=by
  rw [Heap.get?_update_self f ho (by rw [hf] <;> rfl),hf]
 refine I.write (x:=p) (e:=p) (by rw [h]; trivial) (.inl rfl) (fun b u hb q=>(Heap.get?_update_other _ _ (Ne.symm hb)).trans q) ⟨_,e⟩ ?_
 exact ⟨hz,its',n',r,e⟩
def ud:V→V→V→Hp→(Hp→Prop)→Prop:=fun o i v H Q=>∃p xs k j,o=.ref p∧i=.int k∧H p=some (.lst xs)∧ixN xs.length k=some j∧Q (upd H p (.lst (xs.set j v)))
theorem ip:tP X ud:=by
 intro pins s σ H o i v ov iv u Q I ro ri rv h
 obtain ⟨p,xs,k,j,rfl,rfl,hp,hj,q⟩:=h
 cases ro
 obtain ⟨t,rfl⟩:=ri
 obtain ⟨its,n,r,ho,hz⟩:=I.lst hp
 obtain ⟨h1,h2,h3,h4⟩:=jY hj
 have hl:=r.length
 have hn:=eB
 have I':Inv X pins σ (upd H p (.lst (xs.set j v))) { s with heap:=s.heap.update p (Obj.mapSeq (·.setIfInBounds j u)) } :=
  I.lstUpd hp ho (jg its n j u) (r.set rv j) (by rw [List.length_set]; exact hz) s.toks
 by_cases h0:0≤k
 ·have hk:k.toNat=j:=by
   rw [seqIndex_of h0 h4] at h1
   exact Option.some.inj h1
  exact PySem.W.ki_setAt ho h0 (by omega) (by rw [List.size_toArray,← hl]; exact h4) (by rw [hk]; exact ⟨_,I',q⟩)
 ·have hk:(k + (its.toArray.size:Int)).toNat=j:=by
   rw [seqIndex_neg (by omega) h3] at h1
   rw [List.size_toArray,← hl]
   exact Option.some.inj h1
  exact PySem.W.ki_setBack ho (by omega) (by rw [List.size_toArray,← hl]; exact h3) (by omega) (by rw [hk]; exact ⟨_,I',q⟩)
theorem gI (lo hi:Option Int) (n:Nat):(sliceBounds lo hi none n).1=((HT.sIx n 0 lo:Nat):Int)∧(sliceBounds lo hi none n).2.1=((HT.sIx n n hi:Nat):Int)∧(sliceBounds lo hi none n).2.2=1:=by
 refine ⟨?_,?_,rfl⟩
 ·cases lo with
  | none=>simp [sliceBounds,HT.sIx]
  | some i =>
   simp only [sliceBounds,HT.sIx,Option.getD_none,show (1:Int) > 0 by decide,if_true]
   by_cases h:i < 0
   ·simp only [h,if_true] <;> omega
   ·simp only [h,if_false] <;> omega
 ·cases hi with
  | none=>simp [sliceBounds,HT.sIx]
  | some i =>
   simp only [sliceBounds,HT.sIx,Option.getD_none,show (1:Int) > 0 by decide,if_true]
   by_cases h:i < 0
   ·simp only [h,if_true] <;> omega
   ·simp only [h,if_false] <;> omega
theorem fS (its:List Value) (lo hi:Option Int):slicePick its.toArray lo hi none=((its.drop (HT.sIx its.length 0 lo)).take (HT.sIx its.length its.length hi - HT.sIx its.length 0 lo)).toArray:=by
 obtain ⟨h1,h2,h3⟩:=gI lo hi its.toArray.size
 unfold slicePick
 rw [h1,h2,h3]
 simp only [sliceRange_one,pick_run,List.size_toArray] <;> rfl
def Ad (K:PySem.W.Frag):V→Option Int→Option Int→Hp→VK→Prop:=fun x lo hi H Q=>∃a xs,x=.ref a∧SqL K H a xs∧∀p,H p=none→Q (.ref p) (upd H p (.lst (bK xs lo hi)))
theorem jZ:SlR X (Ad X.K):=by
 intro pins s σ H x v vl vu lo hi sl Q I rx hs pl pu h
 obtain ⟨a,xs,rfl,hx,q⟩:=h
 cases rx
 obtain ⟨its,r,ht,hz⟩:=I.list hx
 have hlen:=r.length
 refine ⟨"list",_,slot_list_getitem.lookup,ht.isList.typeIs,?_⟩
 refine wpAny_getItem_list_slice ht.isList hs pl pu .none (by simp) ?_ (by rw [List.size_toArray] <;> omega)
 rw [fS,← hlen]
 refine ⟨.ref s.heap.objs.size,_,I.laid (t':=s.toks) (o:=.lst (bK xs lo hi)) (fun b ob q=>Heap.get?_push_of_some _ q) (Nat.le_refl _) ?_,rfl,q _ (I.hok.fresh (Nat.le_refl _))⟩
 exact ⟨Nat.le_trans (eN xs lo hi) hz,_,0,(r.drop (HT.sIx xs.length 0 lo)).take (HT.sIx xs.length xs.length hi - HT.sIx xs.length 0 lo),Heap.get?_push_size _ rfl⟩
def eO:V→Bool
 | .non=>true
 | .bl _=>true
 | .int _=>true
 | .str _=>true
 | _=>false
def eqV:V→V→Bool
 | .non,.non=>true
 | .bl a,.bl b=>a == b
 | .bl a,.int b=>(if a then 1 else 0) == b
 | .int a,.bl b=>a == (if b then 1 else 0)
 | .int a,.int b=>a == b
 | .str a,.str b=>a == b
 | _,_=>false
theorem qB {A:Around} {s:Shared} {y x:V} {u v:Value} (ry:RelV y u) (rx:RelV x v) (fy:eO y=true) (fx:eO x=true):SeqAt.EqAt A s u v (eqV y x):=by
 cases y with
 | non =>
  cases ry
  cases x with
  | non=>cases rx; exact SeqAt.EqAt.same _
  | bl b=>cases rx; exact SeqAt.EqAt.none_bool b
  | int b=>obtain ⟨t,rfl⟩:=rx; exact SeqAt.EqAt.none_int b t
  | str b=>obtain ⟨t,rfl⟩:=rx; exact SeqAt.EqAt.none_str b t
  | _=>exact absurd (show false=true from fx) Bool.false_ne_true
 | bl a =>
  cases ry
  cases x with
  | non=>cases rx; exact SeqAt.EqAt.bool_none a
  | bl b=>cases rx; exact SeqAt.EqAt.bool_bool a b
  | int b=>obtain ⟨t,rfl⟩:=rx; exact SeqAt.EqAt.bool_int a b t
  | str b=>obtain ⟨t,rfl⟩:=rx; exact SeqAt.EqAt.bool_str a b t
  | _=>exact absurd (show false=true from fx) Bool.false_ne_true
 | int a =>
  obtain ⟨t',rfl⟩:=ry
  cases x with
  | non=>cases rx; exact SeqAt.EqAt.int_none a t'
  | bl b=>cases rx; exact SeqAt.EqAt.int_bool a t' b
  | int b=>obtain ⟨t,rfl⟩:=rx; exact SeqAt.EqAt.int_int a t' b t
  | str b=>obtain ⟨t,rfl⟩:=rx; exact SeqAt.EqAt.int_str a t' b t
  | _=>exact absurd (show false=true from fx) Bool.false_ne_true
 | str a =>
  obtain ⟨t',rfl⟩:=ry
  cases x with
  | non=>cases rx; exact SeqAt.EqAt.str_none a t'
  | bl b=>cases rx; exact SeqAt.EqAt.str_bool a t' b
  | int b=>obtain ⟨t,rfl⟩:=rx; exact SeqAt.EqAt.str_int a t' b t
  | str b=>obtain ⟨t,rfl⟩:=rx; exact SeqAt.EqAt.str_str a t' b t
  | _=>exact absurd (show false=true from fx) Bool.false_ne_true
 | _=>exact absurd (show false=true from fy) Bool.false_ne_true
def eqU (x:V) (u:Value):Bool:=match u with
 | .none=>eqV .non x
 | .bool b=>eqV (.bl b) x
 | .int i _=>eqV (.int i) x
 | .str z _=>eqV (.str z) x
 | _=>false
theorem mI {x y:V} {u:Value} (r:RelV y u) (f:eO y=true):eqU x u=eqV y x:=by
 cases y with
 | non=>cases r; rfl
 | bl b=>cases r; rfl
 | int i=>obtain ⟨t,rfl⟩:=r; rfl
 | str z=>obtain ⟨t,rfl⟩:=r; rfl
 | _=>exact absurd (show false=true from f) Bool.false_ne_true
theorem gJ {x:V}:∀ {xs:List V} {us:List Value},Vals xs us→xs.all eO=true→us.any (eqU x)=xs.any fun y=>eqV y x
 | _,_,.nil,_=>rfl
 | y :: xs,u :: us,.cons r t,f=>by
  rw [List.all_cons,Bool.and_eq_true] at f
  rw [List.any_cons,List.any_cons,mI r f.1,gJ t f.2]
theorem fk {A:Around} {s:Shared} {x:V} {v:Value} (rx:RelV x v) (fx:eO x=true):∀ {xs:List V} {us:List Value},Vals xs us→xs.all eO=true→∀u∈us,SeqAt.EqAt A s u v (eqU x u)
 | _,_,.nil,_=>fun u hu=>by cases hu
 | y :: xs,u :: us,.cons r t,f=>fun u' hu=>by
  rw [List.all_cons,Bool.and_eq_true] at f
  rcases List.mem_cons.mp hu with rfl | hu
  ·rw [mI r f.1]; exact qB r rx f.1 fx
  ·exact fk rx fx t f.2 u' hu
def inV (x:V) (xs:List V):Bool:=xs.any fun y=>eqV y x
def rIn (K:PySem.W.Frag) (neg:Bool):R2:=fun x y H Q=>∃p xs,y=.ref p∧(SqL K H p xs∨SqT K H p xs)∧eO x=true∧xs.all eO=true∧Q (.bl (if neg then !inV x xs else inV x xs)) H
theorem gK:OpR X (compareOp .NotIn) (rIn X.K true):=by
 intro pins s σ H x y v u Q I rx ry h
 obtain ⟨p,xs,rfl,hq,fx,fs,q⟩:=h
 cases ry
 rcases hq with hq | hq
 ·obtain ⟨its,r,pl,hz⟩:=I.list hq
  refine SeqAt.notIn_listAt (eqU x) pl.isList (fun w hw=>fk rx fx r fs w (by simpa using hw)) ⟨.bl _,H,I,rfl,?_⟩
  rw [show its.toArray.any (eqU x)=its.any (eqU x) by simp,gJ r fs]
  exact q
 ·obtain ⟨its,r,pl,hz⟩:=I.tuple hq
  refine SeqAt.notIn_tupleAt (eqU x) pl (fun w hw=>fk rx fx r fs w (by simpa using hw)) ⟨.bl _,H,I,rfl,?_⟩
  rw [show its.toArray.any (eqU x)=its.any (eqU x) by simp,gJ r fs]
  exact q
theorem aP:cD X (.builtin "len") (fun xs H Q=>∃p ys,xs=[.ref p]∧(SqL X.K H p ys∨SqT X.K H p ys)∧Q (.int ys.length) H):=by
 intro pins s σ H xs us Q I r h
 obtain ⟨p,ys,rfl,hq,q⟩:=h
 obtain ⟨u,rfl,rx⟩:=eM r
 cases rx
 have hn:=eB
 rcases hq with hq | hq
 ·obtain ⟨its,r',pl,hz⟩:=I.list hq
  have hlen:=r'.length
  exact Calls.call_len_list pl.isList (by simp only [List.size_toArray] <;> omega) ⟨.int ys.length,H,I.tok _,⟨s.toks + 1,by rw [List.size_toArray,hlen]⟩,q⟩
 ·obtain ⟨its,r',pl,hz⟩:=I.tuple hq
  have hlen:=r'.length
  exact len_tuple pl (by simp only [List.size_toArray] <;> omega) ⟨.int ys.length,H,I.tok _,⟨s.toks + 1,by rw [List.size_toArray,hlen]⟩,q⟩
theorem dN:cD X (.type "list") (fun xs H Q=>∃p ys,xs=[.ref p]∧(SqL X.K H p ys∨SqT X.K H p ys)∧∀l,H l=none→Q (.ref l) (upd H l (.lst ys))):=by
 intro pins s σ H xs us Q I r h
 obtain ⟨p,ys,rfl,hq,q⟩:=h
 obtain ⟨u,rfl,rx⟩:=eM r
 cases rx
 have fin:∀ (its:List Value),Vals ys its→ys.length≤sizeLine→∀ (h':Heap) (c':Nat),(∀b o',s.heap.get? b=some o'→h'.get? b=some o') →
   h'.get? s.heap.objs.size=some { cls:=.type "list", dict:=none, data:=.seq its.toArray c', slots:=#[] }→EP X pins σ Q (.ref s.heap.objs.size) { s with heap:=h' }:=fun its r' hz h' c' kp e =>
  ⟨.ref s.heap.objs.size,_,I.laid (t':=s.toks) kp (Nat.le_refl _) (show ObjOk X.prog X.w _ h' _ (.lst ys) from ⟨hz,its,c',r',e⟩),rfl,q _ (I.hok.fresh (Nat.le_refl _))⟩
 rcases hq with hq | hq
 ·obtain ⟨its,r',pl,hz⟩:=I.list hq
  have hlen:=r'.length
  obtain ⟨o,ho,hc,n,hd⟩:=pl.isList
  exact call_list_seq p (.inl rfl) ho hc hd (fun h' c' kp e=>fin its r' hz h' c' kp e) (by simp only [List.size_toArray] <;> omega)
 ·obtain ⟨its,r',pl,hz⟩:=I.tuple hq
  have hlen:=r'.length
  obtain ⟨o,ho,hc,n,hd⟩:=pl
  exact call_list_seq p (.inr rfl) ho hc hd (fun h' c' kp e=>fin its r' hz h' c' kp e) (by simp only [List.size_toArray] <;> omega)
theorem bR:cD X (.type "tuple") (fun xs H Q=>∃p ys,xs=[.ref p]∧((SqL X.K H p ys∧∀l,H l=none→Q (.ref l) (upd H l (.tup ys)))∨(SqT X.K H p ys∧Q (.ref p) H))):=by
 intro pins s σ H xs us Q I r h
 obtain ⟨p,ys,rfl,h⟩:=h
 obtain ⟨u,rfl,rx⟩:=eM r
 cases rx
 rcases h with ⟨hq,q⟩ | ⟨hq,q⟩
 ·obtain ⟨its,r',pl,hz⟩:=I.list hq
  have hlen:=r'.length
  refine call_tuple_list pl.isList (fun h' kp=>?_) (by simp only [List.size_toArray] <;> omega)
  have I1:Inv X pins σ H { s with heap:=h' }:=I.kept (t':=s.toks) kp
  have I2:Inv X pins σ (upd H h'.objs.size (.tup ys)) { s with heap:=h'.push { cls:=.type "tuple", data:=.seq its.toArray } } :=
   I1.laid (t':=s.toks) (fun b o e=>Heap.get?_push_of_some _ e) (Nat.le_refl _) (show ObjOk X.prog X.w _ _ _ (.tup ys) from ⟨hz,its,r',IsTup.new _ _⟩)
  exact ⟨.ref h'.objs.size,_,I2,rfl,q _ (I1.hok.fresh (Nat.le_refl _))⟩
 ·obtain ⟨its,r',pl,hz⟩:=I.tuple hq
  exact call_tuple_same pl ⟨.ref p,H,I,rfl,q⟩
def tyV (K:PySem.W.Frag) (T:String) (x:V) (H:Hp):Prop:=match x with
 | .str _=>T = "str"
 | .int _=>T = "int"
 | .ref p=>(T = "list" ∧ ∃xs,SqL K H p xs)∨(T = "tuple" ∧ ∃o,K.lookup p=some o∧o.cls=.type "tuple" ∧ o.dict=none) ∨
   (T = "dict" ∧ ((∃kvs,H p=some (.dK kvs))∨∃kvs,H p=some (.dT kvs)))∨(T = "set" ∧ ∃S n,H p=some (.set S n))
 | _=>False
theorem qD {pins:List (Addr×Obj)} {σ:St} {H:Hp} {s:Shared} {T:String} {x:V} {v:Value} (I:Inv X pins σ H s) (r:RelV x v) (ty:tyV X.K T x H) :
  s.TypeIs v T∧∀a,v=.ref a→∃ob,s.heap.get? a=some ob∧ob.dict=none:=by
 cases x with
 | str z =>
  obtain ⟨t,rfl⟩:=r
  cases (show T = "str" from ty)
  exact ⟨typeIs_str s z t,fun _ e=>nomatch e⟩
 | int i =>
  obtain ⟨t,rfl⟩:=r
  cases (show T = "int" from ty)
  exact ⟨typeIs_int s i t,fun _ e=>nomatch e⟩
 | ref p =>
  cases r
  rcases ty with ⟨rfl,xs,hq⟩ | ⟨rfl,o,hk,hc,hd⟩ | ⟨rfl,hk⟩ | ⟨rfl,S,n,hk⟩
  ·obtain ⟨its,_,pl,_⟩:=I.list hq
   refine ⟨pl.isList.typeIs,fun a e=>?_⟩
   cases e
   obtain ⟨o,n,e,c,hd,_⟩:=pl
   exact ⟨o,e,hd⟩
  ·refine ⟨⟨o,I.kIn p o hk,hc⟩,fun a e=>?_⟩
   cases e
   exact ⟨o,I.kIn _ o hk,hd⟩
  ·have z:∃o,s.heap.get? p=some o∧o.ExactDict:=by
    rcases hk with ⟨kvs,hk⟩ | ⟨kvs,hk⟩
    ·obtain ⟨_,_,_,_,o,_,_,e,ex,_⟩:=I.hok p _ hk
     exact ⟨o,e,ex⟩
    ·obtain ⟨_,_,_,_,o,_,_,e,ex,_⟩:=I.hok p _ hk
     exact ⟨o,e,ex⟩
   obtain ⟨o,e,ex⟩:=z
   refine ⟨⟨o,e,ex.1⟩,fun a e2=>?_⟩
   cases e2
   exact ⟨o,e,ex.2.1⟩
  ·obtain ⟨o,_,_,_,e,ex,_⟩:=I.hok p _ hk
   refine ⟨⟨o,e,ex.1⟩,fun a e2=>?_⟩
   cases e2
   exact ⟨o,e,ex.2.1⟩
 | _=>exact False.elim ty
def tBM (K:PySem.W.Frag) (T:String) (r:V→List V→Hp→VK→Prop) (to:TE) (t:TA):TE:=fun σ H Q=>to σ H fun x H1=>tyV K T x H1∧t σ H1 fun xs H2=>r x xs H2 Q
variable {o e:Expr} {es:List Expr} {to:TE} {t:TA} {name:Str} {apos cpos:Pos} {T id:String} {r:V→List V→Hp→VK→Prop}
theorem dk (pa:PlainAttrs T) (slot:Slot T name id) (hty:typeOf (.builtin id)=pure (.type "method_descriptor")) (hm:MtR X id r) (ho:PE X o to) (ha:PA X (e :: es) t)
  (hbase:attributeBase o name X.env (eval o X.env)=eval o X.env:=by rfl)
  (hfew:((backTo cpos (starEach (e :: es) X.env)).all (fun x=>!x.1) && (backToKw cpos (keywordEach [] X.env)).all (fun x=>x.1.isSome)
   && decide ((e :: es).length + ([]:List Keyword).length + (if ([]:List Keyword).isEmpty then 0 else 1) < 30))=true:=by rfl)
  (hline:(apos.endLine == cpos.line)=true:=by rfl) (hs:starEach (e :: es) X.env=(false,eval e X.env) :: starEach es X.env:=by rfl) (hplain:(backTo cpos (starEach es X.env)).any (·.1)=false:=by rfl) :
  PE X (.Call (.Attribute o name apos) (e :: es) [] cpos) (tBM X.K T r to t):=by
 intro pins s σ H Q I h
 refine wpAny_Call_method_late hbase hfew hline rfl (thn (ho pins s σ H _ I h) fun v s1 ⟨x,H1,I1,r1,ty,q1⟩=>?_)
 obtain ⟨h1,h2⟩:=qD I1 r1 ty
 refine ⟨T,id,pa,slot,hty,h1,h2,?_⟩
 have hA:=ha cpos pins s1 σ H1 _ I1 q1
 rw [hs] at hA ⊢
 refine Calls.callWith_builtin (by show (false || (backTo cpos (starEach es X.env)).any (·.1))=false; rw [hplain] <;> rfl) (Calls.evalArgs_plain ?_)
 exact thn hA fun us s2 ⟨vs,H2,I2,r2,q2⟩=>hm pins s2 σ H2 x vs v us Q I2 r1 r2 q2
/- xs.append(e),list.index on a module's tuple .. are MtR facts of 06m -/
end
end L2
namespace L2
open PySem PySem.Spec PyProof.Rows
def MtM (X:Cx) (id:String) (r:V→List V→Hp→VK→Prop):Prop :=
 ∀ (pins:List (Addr×Obj)) (s:Shared) (σ:St) (H:Hp) (x:V) (xs:List V) (v:Value) (us:List Value) (Q:VK),Inv X pins σ H s→RelV x v→Vals xs us→r x xs H Q →
  wpAny (model X.prog X.w) X.A (call (.builtin id) (v :: us)) (EP X pins σ Q) X.xe s
theorem Vals.one:∀ {x:V} {us:List Value},Vals [x] us→∃u,us=[u]∧RelV x u
 | _,_,.cons r .nil=>⟨_,rfl,r⟩
theorem Vals.dropLast {xs:List V} {us:List Value} (h:Vals xs us):Vals xs.dropLast us.dropLast:=by
 induction h with
 | nil=>exact .nil
 | cons r t ih =>
  cases t with
  | nil=>exact .nil
  | cons q t'=>exact .cons r ih
theorem qE {α:Type} (l:List α):l.eraseIdx (l.length - 1)=l.dropLast:=by
 induction l with
 | nil=>rfl
 | cons a r ih =>
  cases r with
  | nil=>rfl
  | cons b r =>
   have e:(a :: b :: r).length - 1=((b :: r).length - 1) + 1:=by
    have h1:(a :: b :: r).length=r.length + 2:=rfl
    have h2:(b :: r).length=r.length + 1:=rfl
    omega
   rw [e,List.eraseIdx_cons_succ,ih]
   all_goals rfl
section
variable {X:Cx} {pins:List (Addr×Obj)} {σ:St} {H:Hp} {s:Shared} {l b:Addr} {xs ys zs:List V}
theorem Inv.lset {its its':List Value} {n:Nat} {f:Array Value→Array Value} {t':Nat} (I:Inv X pins σ H s) (hH:H l=some (.lst xs))
  (e:s.heap.get? l=some { cls:=.type "list", data:=.seq its.toArray n }) (hf:f its.toArray=its'.toArray) (hv:Vals ys its') (hz:ys.length≤sizeLine) :
  Inv X pins σ (upd H l (.lst ys)) { s with heap:=s.heap.update l (Obj.mapSeq f),toks:=t' }:=by
 have q:=PySem.IsL.update e f
 rw [hf] at q
 refine I.write (x:=l) (e:=l) (by rw [hH]; exact trivial) (.inl rfl) (fun b' u hb hu=>(Heap.get?_update_other s.heap (Obj.mapSeq f) (Ne.symm hb)).trans hu) ⟨_,q⟩ ?_
 exact ⟨hz,its',_,hv,q⟩
theorem Inv.lstM (I:Inv X pins σ H s) (hH:H l=some (.lst xs)):xs.length≤sizeLine∧∃ (its:List Value) (n:Nat),Vals xs its∧xs.length=its.length∧s.heap.get? l=some { cls:=.type "list",data:=.seq its.toArray n }:=by
 obtain ⟨z,its,n,r,e⟩:=I.hok l _ hH
 exact ⟨z,its,n,r,r.length,e⟩
theorem ue {n:Nat} (h:n≤sizeLine):Builtin.List.listTooLong n=false:=by
 unfold Builtin.List.listTooLong
 exact decide_eq_false (by omega)
end
section
variable {X:Cx}
def oH:V→List V→Hp→VK→Prop:=fun x vs H Q=>∃l xs y,x=.ref l∧vs=[y]∧H l=some (.lst xs)∧xs.length < sizeLine∧Q .non (upd H l (.lst (xs ++ [y])))
theorem bo:MtM X "list.append" oH:=by
 intro pins s σ H x vs v us Q I rx rv h
 obtain ⟨l,xs,y,rfl,rfl,hH,hz,q⟩:=h
 cases rx
 obtain ⟨u,rfl,ru⟩:=rv.one
 obtain ⟨z,its,n,r,hl,e⟩:=I.lstM hH
 refine call_meets F.slot_list_append ⟨_,e,rfl⟩ F.entry_list_append (F.args_list_append_2 _ _) (PySem.list_append l its.toArray n u (by rw [List.size_toArray]; omega)) ⟨e,?_⟩
 refine ⟨.non,_,I.lset (its':=its ++ [u]) hH e (by simp) (r.append (.cons ru .nil)) ?_,rfl,q⟩
 rw [List.length_append,List.length_singleton]
 omega
end
section
variable {prog:Program} {w:World} {A:Around} {E:Value→Shared→Prop} {s:Shared}
end
section
variable {X:Cx}
end
end L2
namespace Att
open PySem PySem.W PySem.Calls PyProof.Rows
theorem eR {P:Params} {h:Heap}:∀ (ns:List Int) (vs:List Value),WellAll P h vs (ns.map WData.int)→IntsAre vs ns:=by
 intro ns
 induction ns with
 | nil =>
  intro vs w
  rw [List.map_nil] at w
  cases w
  exact .nil
 | cons n ns ih =>
  intro vs w
  rw [List.map_cons] at w
  cases w with
  | cons a b =>
   cases a
   exact .cons _ _ (ih _ b)
theorem kO {l:OpenLaw} {n:Nat} (hn:l.most=some n) {P:Params} {h:Heap} {args:List WData} {vals:List Value}
  (hpre:l.row.toRowW.claim.pre args=true) (hwl:WellAll P h vals args) :
  ∃a vs ns,vals=[Value.ref a]∧args=[WData.list (ns.map WData.int)]∧h.get? a=some { cls:=.type "list",data:=.seq vs.toArray }∧IntsAre vs ns∧ns.length≤n:=by
 have hsh:WShape.hasAll [] args [.list .int]=true:=(pre_splitW hpre).1
 have hc:l.pre.holds [] { args:=args }=true:=(pre_splitW hpre).2
 obtain ⟨d,r,rfl,h1,h2⟩:=hasAllW_cons hsh
 obtain rfl:=hasAllW_nil h2
 obtain ⟨xs,rfl,h3⟩:=hasW_list h1
 obtain ⟨ns,rfl⟩:=items_int h3
 have hlen:ns.length≤n:=by
  unfold OpenLaw.pre at hc
  have h4:(WTm.not (.lt (.lit (.int (n:Int))) (.len (.arg 0)))).holds [] { args:=[.list (ns.map .int)] }=true:=by
   have h4:=(holds_andW hc).1
   rw [hn] at h4
   exact h4
  have h5:=condW_of h4 (w_not (w_lt w_lit (w_len_list (w_arg rfl))))
  rw [List.length_map] at h5
  refine Nat.le_of_not_lt fun q=>?_
  have q':(n:Int) < ((ns.length:Nat):Int):=by omega
  first
   | (rw [decide_eq_true q'] at h5; exact absurd h5 (by decide))
   | (simp at h5; omega)
 cases hwl with
 | cons w1 w2 =>
  cases w2
  cases w1 with
  | list ho hall=>exact ⟨_,_,ns,rfl,rfl,ho,eR ns _ hall,hlen⟩
theorem kP (l:OpenLaw) (args:List WData):l.row.toRowW.claim.post args (.bool true) args=true :=
 postW_of (r:=l.row.toRowW) (X:=(true == true))
  (show WShape.has [] (.bool true) .bool=true by first | rfl | decide | simp [WShape.has,WShape.arms,WShape.armsAll])
  (show (WTm.eq .res (.lit (.bool true))).value [] { args:=args,res:=some (.bool true),after:=args }=some (.bool (true == true)) from w_eq_bool (w_res rfl) w_lit) rfl
theorem attach_call {l:OpenLaw} {n:Nat} {q:Program} {loose:List Str} {XP:(Str→Option Value)→Heap→Prop} {YP:World→Heap→Prop} {d:DefRec}
  (hn:l.most=some n) (hdf:d.params.defaults=[])
  (call:∀ (w:World) (s₀ s₁:Shared) (mg mb:Str→Option Value) (fa:Addr) (o:Obj) (pm cd doc:Value) (a:Addr) (vs:List Value) (ns:List Int),
   Ground q loose [] XP w s₀ mg mb s₁.heap→YP w s₁.heap →
   s₁.heap.get? fa=some o→o.data=.func (docDef d.name d.params d.body d.scope pm cd doc)→s₁.heap.CodeRec cd d.name→mg d.name=some (.ref fa) →
   s₁.heap.get? a=some { cls:=.type "list",data:=.seq vs.toArray }→IntsAre vs ns→ns.length≤n→s₁.gens=#[] →
   codeAny (model l.prog w) callerA (.call (.ref fa) ⟨[.ref a],[]⟩) (fun r s'=>r=.ok (.ret (.bool true))∧OldK s₁.heap s'.heap∧s'.os=s₁.os∧AllBare s'.gens) s₁) :
  WalkO q loose XP YP l.row.toRowW d [] (fun f vs=>PySem.call f vs):=by
 intro w s₀ s₁ mg mb G Y fa o pm cd doc dV kV ho hd hcd hD hmg hg args vals as hpre hlay hrd hwl hlo
 obtain rfl:dV=.none:=Dflts.none hD hdf
 obtain rfl:kV=.none:=Dflts.noKw hD
 obtain ⟨a,vs,ns,rfl,rfl,hobj,hints,hlen⟩:=kO hn hpre hwl
 refine enter_call (codeAny_mono (call w s₀ s₁ mg mb fa o pm cd doc a vs ns G Y ho (fd_plain hd) hcd hmg hobj hints hlen hg) fun r s' hq=>?_)
 obtain ⟨rfl,h2,h3,h4⟩:=hq
 exact ⟨.inl ⟨.bool true,.bool true,[],rfl,fun _=>rfl,.bool true,kP l _,fun _=>⟨List.Pairwise.nil,fun _ hm=>(nomatch hm)⟩⟩,h2,h3,h4⟩
section
variable {prog:Program} {w:World} {A:Around} {E:Value→Shared→Prop} {s:Shared} {K:Frag}
def Ae (h:Heap) (L d:Addr):List (Addr×Obj):=(List.range h.objs.size).filterMap fun a=>if a=L∨a=d then none else (h.get? a).map fun o=>(a,o)
end
end Att
namespace L2
open PySem PySem.Spec PyProof.Rows
theorem gi:∀ {vs:List Value} {ns:List Int},IntsAre vs ns→Vals (ns.map V.int) vs
 | _,_,.nil=>.nil
 | _,_,.cons n t h=>.cons ⟨t,rfl⟩ (gi h)
def qF (H:Hp):Prop:=∀b,H b=none∨∃o xs,H b=some (.frz o (.lst xs))
theorem mJ {P:Program} {w:World} {K:PySem.W.Frag} {mg mb:Str→Option Value} {CX:CXT} {k:Nat} {fa a:Addr} {fd:FuncData} {x:Str} {sp:Sp} {s₁:Shared} {vs:List Value} {ns:List Int}
  (KX:K.In s₁.heap) (hns:s₁.heap.Ns mainGlobals mg) (hb:s₁.heap.Ns builtinsNs mb) (hbb:∀x:Str,x ≠ "__name__" → mb x=bootBuiltins x) (hlim:s₁.heap.NoLimit) (hg:s₁.gens=#[])
  (ha:s₁.heap.get? a=some { cls:=.type "list",data:=.seq vs.toArray }) (hi:IntsAre vs ns) (hl:ns.length≤sizeLine) (hr:Room k callerA)
  (F:∀base:Heap,K.In base→base.Ns mainGlobals mg→FnOk P w K mg base CX k fa fd [x] sp) (hbind:∀ (s:Shared) (u:Value),BindsTo s fd ⟨[u],[]⟩ [(x,u)])
  (hsp:∀H:Hp,qF H→SqL K H a (ns.map V.int)→sp [.ref a] H (fun v _=>v=.bl true) fun _ _ _=>False)
  (hCX:∀H e s',CX [] H s₁ (fun _ _ _=>False) e s'→False) :
  codeAny (model P w) callerA (.call (.ref fa) ⟨[.ref a],[]⟩) (fun r s'=>r=.ok (.ret (.bool true))∧OldK s₁.heap s'.heap∧s'.os=s₁.os∧AllBare s'.gens) s₁:=by
 have rv:=gi hi
 have lenV:=hi.length
 have core:∀H:Hp,qF H→SqL K H a (ns.map V.int)→HOk P w H s₁.heap→(∀b,H b≠none→b=a)→(H a≠none→K.lookup a=none) →
   codeAny (model P w) callerA (.call (.ref fa) ⟨[.ref a],[]⟩) (fun r s'=>r=.ok (.ret (.bool true))∧OldK s₁.heap s'.heap∧s'.os=s₁.os∧AllBare s'.gens) s₁:=by
  intro H hO hS hok hA hK
  have base_of:∀ {b:Addr} {o:Obj},s₁.heap.get? b=some o→H b=none→(gB s₁.heap H).get? b=some o:=fun e n=>mj e n
  have noA:∀ {b:Addr} {o:Obj} {es:Array DictEntry} {ep:Nat},s₁.heap.get? b=some o→o.data=.dict es ep→H b=none:=fun {b o es ep} e d=>by
   cases q:H b with
   | none=>rfl
   | some u =>
    have e':b=a:=hA b (by rw [q]; simp)
    subst e'
    rw [ha] at e; cases e
    have d':Data.seq vs.toArray _=Data.dict es ep:=d
    cases d'
  have nsK:∀ {b:Addr} {m:Str→Option Value},s₁.heap.Ns b m→(gB s₁.heap H).Ns b m:=fun {b m} ⟨o,es,ep,e,d,r⟩=>⟨o,es,ep,base_of e (noA e d),d,r⟩
  have hKb:K.In (gB s₁.heap H):=fun b o e=>base_of (KX b o e) (by
   cases q:H b with
   | none=>rfl
   | some u =>
    have e':b=a:=hA b (by rw [q]; simp)
    subst e'
    rw [hK (by rw [q]; simp)] at e; cases e)
  have hM:Mod K mg (gB s₁.heap H):=⟨hKb,nsK hns,⟨mb,nsK hb,hbb⟩,let ⟨mc,h1,h2⟩:=hlim; ⟨mc,nsK h1,h2⟩⟩
  have e0:Env0 P w K mg (gB s₁.heap H) callerA [] s₁ H:=⟨rfl,hM,fun b o e=>oh e,Nat.le_of_eq (kB _ _),trivial,fun b hb=>absurd (show b∈([]:List Addr) from hb) (by simp),hok,.of_eq hg⟩
  refine codeAny_mono ((F _ hKb (nsK hns)).run callerA [] s₁ H ⟨[.ref a],[]⟩ [.ref a] [.ref a] _ _ hr e0 (hbind s₁ (.ref a)) (.cons rfl .nil) (hsp H hO hS)) fun r s' h=>?_
  cases r with
  | error e=>exact (hCX H e s' h).elim
  | ok fl =>
   cases fl with
   | next=>exact False.elim h
   | brk=>exact False.elim h
   | cont=>exact False.elim h
   | ret u =>
    obtain ⟨v,H',os,bare,un,hok',r',q⟩:=h
    have q':v=.bl true:=q
    subst q'
    obtain rfl:u=Value.bool true:=r'
    refine ⟨rfl,OldK.of_keep fun b o e=>?_,os,bare⟩
    cases q:H b with
    | none=>exact un.keep b o e q (by intro z; exact absurd (show b∈([]:List Addr) from z) (by simp)) (by simp)
    | some u =>
     rcases hO b with z | ⟨ob,xs,z⟩
     ·rw [q] at z; cases z
     ·have z2:=un.frzs b ob _ z
      obtain ⟨e1,_⟩:=hok b _ z
      obtain ⟨e2,_⟩:=hok' b _ z2
      rw [e] at e1; cases e1
      exact e2
 cases hk:K.lookup a with
 | some o =>
  have e:=KX a o hk
  rw [ha] at e
  cases e
  refine core (fun _=>none) (fun _=>.inl rfl) (.inr ⟨_,vs.toArray,_,hk,rfl,rfl,rfl,by rw [List.size_toArray,lenV]; exact hl,by simpa using rv⟩) (fun b u z=>by have z':(none:Option HO)=some u:=z; cases z') (fun b z=>absurd rfl z) fun z=>absurd rfl z
 | none =>
  refine core (fun b=>if b=a then some (.frz { cls:=.type "list",data:=.seq vs.toArray } (.lst (ns.map V.int))) else none) (fun b=>?_) (.inl (.inr ⟨{ cls:=.type "list",data:=.seq vs.toArray },if_pos rfl⟩)) (fun b u z=>?_) (fun b z=>?_) fun _=>hk
  ·by_cases hb:b=a
   ·exact .inr ⟨_,_,if_pos hb⟩
   ·exact .inl (if_neg hb)
  ·by_cases hb:b=a
   ·have z':=(if_pos hb).symm.trans z
    cases z'
    subst hb
    exact ⟨ha,by rw [List.length_map]; exact hl,vs,_,rv,ha⟩
   ·have z':=(if_neg hb).symm.trans z
    cases z'
  ·by_cases hb:b=a
   ·exact hb
   ·exact absurd (if_neg hb) z
end L2
namespace L2
open PySem PySem.Spec PyProof.Rows
theorem walk_of {l:PySem.W.OpenLaw} {n k:Nat} {q:Program} {loose:List Str} {XP:(Str→Option Value)→Heap→Prop} {YP:World→Heap→Prop} {d:DefRec} {K:Params→PySem.W.Frag} {CX:World→CXT} {sp:World→Sp} {x:Str}
  (hn:l.most=some n) (hn2:n≤sizeLine) (hdf:d.params.defaults=[]) (hr:Room k callerA)
  (hY:∀ (w:World) (h:Heap),YP w h→(K w.params).In h)
  (F:∀ (w:World) (mg:Str→Option Value) (fa:Addr) (h:Heap),(K w.params).In h→h.Ns mainGlobals mg→mg d.name=some (.ref fa) →
   ∃fd:FuncData,(∀ (s:Shared) (u:Value),BindsTo s fd ⟨[u],[]⟩ [(x,u)]) ∧
    ∀base:Heap,(K w.params).In base→base.Ns mainGlobals mg→FnOk l.prog w (K w.params) mg base (CX w) k fa fd [x] (sp w))
  (hsp:∀ (w:World) (H:Hp) (a:Addr) (ns:List Int),ns.length≤n→qF H→SqL (K w.params) H a (ns.map V.int)→sp w [.ref a] H (fun v _=>v=.bl true) fun _ _ _=>False)
  (hCX:∀ (w:World) (H:Hp) (s:Shared) (e:Value) (s':Shared),CX w [] H s (fun _ _ _=>False) e s'→False) :
  PySem.W.WalkO q loose XP YP l.row.toRowW d [] (fun f vs=>PySem.call f vs):=by
 refine Att.attach_call hn hdf fun w s₀ s₁ mg mb fa o pm cd doc a vs ns G Y ho hd hcd hmg hobj hints hlen hg=>?_
 have KX:=hY w _ Y
 obtain ⟨fd,hb,hF⟩:=F w mg fa _ KX G.T.g hmg
 exact mJ KX G.T.g G.T.b G.T.builtins G.T.nolimit hg hobj hints (Nat.le_trans hlen hn2) hr hF hb (fun H hO hS=>hsp w H a ns hlen hO hS) fun H e s'=>hCX w H s₁ e s'
end L2
namespace L2
open PySem PySem.Spec PyProof.Rows
def inClass (s:Stmt) (j:Nat):Stmt:=match s with
 | .ClassDef _ _ _ body _ _ _ _ _ _ _=>body.getD j (.Pass ⟨0,0,0,0⟩)
 | _=>.Pass ⟨0,0,0,0⟩
def defArgs (s:Stmt):Arguments:=match s with
 | .FunctionDef _ a _ _ _ _ _ _ _ _=>a
 | _=>{ posonlyargs:=[],args:=[],vararg:=none,kwonlyargs:=[],kw_defaults:=[],kwarg:=none,defaults:=[] }
def defBody (s:Stmt):List Stmt:=match s with
 | .FunctionDef _ _ b _ _ _ _ _ _ _=>b
 | _=>[]
def defScope (s:Stmt):Scope:=match s with
 | .FunctionDef _ _ _ _ _ _ sc _ _ _=>sc
 | _=>{ kind:=.function,names:=[],isGenerator:=false,isCoroutine:=false }
abbrev CX0:CXT:=fun _ _ _ _ _ _=>False
abbrev E0:XK:=fun _ _ _=>False
theorem ke {X:Cx}:dA CX0 X E0:=fun _ _ _ _ _ _ _ h=>h.elim
structure Fun (K:PySem.W.Frag) (x qual:Str) (st:Stmt) (f:Addr) (fd:FuncData):Prop where
 ex:∃ (oc:Value) (od:Option Addr) (kV doc pm:Value) (an:Option Addr) (cdv ct:Value) (osl:Array (Option Value)),
  fd=PySem.W.fnOf x qual (defArgs st) (defBody st) (defScope st) .none kV doc pm an cdv ct∧K.lookup f=some ⟨oc,od,.func fd,osl⟩∧PySem.W.codeIn K cdv qual=true
 kp:PySem.W.keepIn K (.ref f)=true
section
variable {P:Program} {w:World} {K:PySem.W.Frag} {mg:Str→Option Value} {base:Heap}
theorem Fun.ok {x qual:Str} {st:Stmt} {f:Addr} {fd:FuncData} {N ps:List Str} {k:Nat} {sp:Sp} (F:Fun K x qual st f fd) (S:FnScope N ps (defScope st)) (len:∀vs H Q E,sp vs H Q E→vs.length=ps.length)
  (hbody:∀ (cdv:Value) (A:Around) (outer:List Env) (s:Shared) (H:Hp) (vs:List V) (Q:VK) (E:XK),Room k (A.deeper (envOfC qual (defScope st) s.heap.objs.size f cdv))→sp vs H Q E →
   ∃t,PSs (kL CX0 P w K mg base N qual (defScope st) f cdv A outer s H E).nox (defBody st) t∧t { nx:=fun _ H'=>Q .non H',rt:=Q } (start N vs) H):FnOk P w K mg base CX0 (k + 1) f fd ps sp:=by
 obtain ⟨oc,od,kV,doc,pm,an,cdv,ct,osl,rfl,lk,hcd⟩:=F.ex
 refine tZ lk hcd S len fun A outer s H vs Q E hr hsp=>?_
 obtain ⟨t,h,q⟩:=hbody cdv A outer s H vs Q E hr hsp
 exact ⟨t,h.nox,q⟩
theorem Fun.binds {x qual:Str} {st:Stmt} {f:Addr} {fd:FuncData} {ps:List Str} (F:Fun K x qual st f fd)
  (h:∀ (kV doc pm:Value) (an:Option Addr) (cdv ct:Value) (us:List Value),us.length=ps.length→bindArgs (PySem.W.fnOf x qual (defArgs st) (defBody st) (defScope st) .none kV doc pm an cdv ct) ⟨us,[]⟩=pure (ps.zip us)):Binds K fd ps []:=by
 obtain ⟨oc,od,kV,doc,pm,an,cdv,ct,osl,rfl,lk,hcd⟩:=F.ex
 exact .all (h kV doc pm an cdv ct)
theorem aH {x qual:Str} {st:Stmt} {f:Addr} {oc:Value} {od an:Option Addr} {osl:Array (Option Value)} {kV doc pm cdv ct:Value} (l:K.lookup f=some ⟨oc,od,.func (PySem.W.fnOf x qual (defArgs st) (defBody st) (defScope st) .none kV doc pm an cdv ct),osl⟩)
  (c:PySem.W.codeIn K cdv qual=true) (k:PySem.W.keepIn K (.ref f)=true):Fun K x qual st f (PySem.W.fnOf x qual (defArgs st) (defBody st) (defScope st) .none kV doc pm an cdv ct):=⟨⟨oc,od,kV,doc,pm,an,cdv,ct,osl,rfl,l,c⟩,k⟩
end
section
variable {X:Cx}
theorem pv (i:Nat) {x:Str} {pos:Pos} (hN:X.N[i]? = some x:=by rfl) (hv:Vis X.env.scope x:=by first | exact Or.inl rfl | exact Or.inr (Or.inl rfl) | exact Or.inr (Or.inr rfl)) (hd:(x == ("__debug__" : Str))=false:=by decide)
  (hcd:(x == ("__classdict__" : Str))=false:=by decide):PE X (.Name x pos) (oj i):=qp hN hv hd hcd
end
theorem bh {A B:Prop} (h:B):if false=true then A else B:=by
 rw [if_neg Bool.false_ne_true]
 exact h
theorem bu {A B:Prop} (h:A):if true=true then A else B:=by
 rw [if_pos rfl]
 exact h
theorem bE {c A B:Prop} [Decidable c] (h1:c→A) (h2:¬ c→B):if c then A else B:=by
 by_cases h:c
 ·rw [if_pos h]
  exact h1 h
 ·rw [if_neg h]
  exact h2 h
def Same (H H':Hp):Prop:=∀b o,H b=some o→H' b=some o
theorem Same.refl (H:Hp):Same H H:=fun _ _ h=>h
theorem Same.trans {H H1 H2:Hp} (a:Same H H1) (b:Same H1 H2):Same H H2:=fun c o h=>b c o (a c o h)
theorem Same.free {H H':Hp} (e:Same H H') {l:Addr} (h:H' l=Option.none):H l=Option.none:=by
 cases q:H l with
 | none=>rfl
 | some o =>
  rw [e l o q] at h
  cases h
theorem Same.seq {K:PySem.W.Frag} {H H':Hp} {a:Addr} {xs:List V} (e:Same H H') (h:SqL K H a xs):SqL K H' a xs:=by
 rcases h with (h | ⟨o,h⟩) | h
 ·exact .inl (.inl (e _ _ h))
 ·exact .inl (.inr ⟨o,e _ _ h⟩)
 ·exact .inr h
end L2
set_option Elab.async false
set_option linter.all false
set_option maxRecDepth 100000
namespace L2
open PySem PySem.Spec PyProof.Rows
def bB (env:Env):List (Str×NameKind)→List (Str×Addr)→List (Str×Addr)
 | [],acc=>acc
 | (n,k) :: r,acc=>bB env r (if (k == NameKind.free)=true then (n,(env.cells.lookup n).getD 0) :: acc else acc)
theorem cI (env:Env):∀ (names:List (Str×NameKind)) (acc:List (Str×Addr)) (x:Str) (c:Addr),(∀y∈names,y.2=.free→∃c,env.cells.lookup y.1=some c) →
  (∀x c,acc.lookup x=some c→env.cells.lookup x=some c)→(bB env names acc).lookup x=some c→env.cells.lookup x=some c
 | [],acc,x,c,_,h,e=>h x c e
 | (n,k) :: r,acc,x,c,hf,h,e=>by
  refine cI env r _ x c (fun y hy=>hf y (List.mem_cons_of_mem _ hy)) (fun x c e'=>?_) e
  by_cases hk:(k == NameKind.free)=true
  ·rw [if_pos hk] at e'
   obtain ⟨c0,hc0⟩:=hf (n,k) List.mem_cons_self (by simpa using hk)
   have hc0':env.cells.lookup n=some c0:=hc0
   rw [List.lookup_cons] at e'
   cases hx:x == n with
   | true =>
    rw [hx] at e'
    have:x=n:=by simpa using hx
    subst this
    rw [hc0'] at e' ⊢
    simpa using e'
   | false=>rw [hx] at e'; exact h x c e'
  ·rw [if_neg hk] at e'; exact h x c e'
theorem fm (env:Env):∀ (names:List (Str×NameKind)) (acc:List (Str×Addr)) (x:Str),(∃c,acc.lookup x=some c)→∃c,(bB env names acc).lookup x=some c
 | [],acc,x,h=>h
 | (n,k) :: r,acc,x,h=>by
  refine fm env r _ x ?_
  by_cases hk:(k == NameKind.free)=true
  ·rw [if_pos hk,List.lookup_cons]
   cases hx:x == n with
   | true=>exact ⟨_,rfl⟩
   | false=>exact h
  ·rw [if_neg hk]; exact h
theorem eF (env:Env):∀ (names:List (Str×NameKind)) (acc:List (Str×Addr)) (x:Str),(x,NameKind.free)∈names→∃c,(bB env names acc).lookup x=some c
 | [],acc,x,h=>by simp at h
 | (n,k) :: r,acc,x,h=>by
  rcases List.mem_cons.mp h with e | e
  ·have e1:x=n:=congrArg Prod.fst e
   have e2:NameKind.free=k:=congrArg Prod.snd e
   subst e1
   subst e2
   refine fm env r _ x ?_
   rw [if_pos (by simp),List.lookup_cons]
   simp
  ·exact eF env r _ x e
theorem fq {env:Env} {scope:Scope} (hf:∀y∈scope.names,y.2=.free→∃c,env.cells.lookup y.1=some c):closureFor scope env=pure (bB env scope.names []):=by
 have key:∀ (names:List (Str×NameKind)) (acc:List (Str×Addr)),(∀y∈names,y.2=.free→∃c,env.cells.lookup y.1=some c) →
   (forIn names acc (fun (x:Str×NameKind) (r:List (Str×Addr))=>(if (x.2 == NameKind.free)=true then do
    let a←cellOf env x.1
    pure (ForInStep.yield ((x.1,a) :: r)) else pure (ForInStep.yield r)) ):Sem (List (Str×Addr)))=pure (bB env names acc):=by
  intro names
  induction names with
  | nil=>intro acc _; rfl
  | cons y r ih =>
   intro acc h
   obtain ⟨n,k⟩:=y
   have ih':=fun acc=>ih acc fun z hz=>h z (List.mem_cons_of_mem _ hz)
   rw [List.forIn_cons]
   by_cases hk:(k == NameKind.free)=true
   ·obtain ⟨c,hc⟩:=h (n,k) List.mem_cons_self (by simpa using hk)
    have hc':env.cells.lookup n=some c:=hc
    have e1:cellOf env n=pure c:=by unfold cellOf; rw [hc']
    have e2:bB env ((n,k) :: r) acc=bB env r ((n,c) :: acc):=by
     show bB env r _=_
     rw [if_pos hk,hc']; rfl
    rw [if_pos hk,e2,← ih']
    show ((cellOf env n >>= fun a=>pure (ForInStep.yield ((n,a) :: acc))) >>= _)=_
    rw [e1]
    rfl
   ·have e2:bB env ((n,k) :: r) acc=bB env r acc:=by
     show bB env r _=_
     rw [if_neg hk]
    rw [if_neg hk,e2,← ih']
    rfl
 have:=key scope.names [] hf
 simp only [closureFor]
 exact (congrArg (fun m=>m >>= fun r=>(pure r:Sem _)) this).trans rfl
theorem gL {env:Env} {scope:Scope} (hcell:∀y∈scope.names,y.2≠.cell) {x:Str}:((relabel scope env).names.lookup x=some .cell∨(relabel scope env).names.lookup x=some .free)→(x,NameKind.free)∈scope.names:=by
  have key:∀names:List (Str×NameKind),(∀y∈names,y.2≠.cell)→∀k,(names.map fun (n,k)=>if (k == NameKind.free && env.scope.kind == .function && env.kindOf n == some .cell) then (n,NameKind.cell) else (n,k)).lookup x=some k →
      (k=.cell∨k=.free)→(x,NameKind.free)∈names:=by
    intro names
    induction names with
    | nil=>intro _ k h _; simp at h
    | cons y r ih =>
      obtain ⟨n,k'⟩:=y
      intro hc k h hk
      have nc:k'≠.cell:=hc (n,k') List.mem_cons_self
      rw [List.map_cons] at h
      by_cases hb:(k' == NameKind.free && env.scope.kind == .function && env.kindOf n == some .cell)=true
      · have hb':k'=.free:=by simp at hb; exact hb.1.1
        dsimp only at h
        rw [if_pos hb,List.lookup_cons] at h
        cases hx:x == n with
        | true => have : x = n := by simpa using hx
                  subst this; subst hb'; exact List.mem_cons_self
        | false=>rw [hx] at h; exact List.mem_cons_of_mem _ (ih (fun y hy=>hc y (List.mem_cons_of_mem _ hy)) k h hk)
      · dsimp only at h
        rw [if_neg hb,List.lookup_cons] at h
        cases hx:x == n with
        | true =>
          rw [hx] at h
          have:x=n:=by simpa using hx
          subst this
          have e:k'=k:=by simpa using h
          rcases hk with q | q
          · exact absurd (e.trans q) nc
          · rw [e,q]; exact List.mem_cons_self
        | false=>rw [hx] at h; exact List.mem_cons_of_mem _ (ih (fun y hy=>hc y (List.mem_cons_of_mem _ hy)) k h hk)
  rintro (h | h)
  · exact key _ hcell _ h (.inl rfl)
  · exact key _ hcell _ h (.inr rfl)
def bL (X:Cx) (pins:List (Addr×Obj)) (s2:Shared) (H2:Hp) (scope:Scope) (C:Addr) (N':List Str) (fp:List Addr):Cx where
 prog:=X.prog
 w:=X.w
 K:=X.K
 mg:=X.mg
 base:=X.base
 A:=X.A
 N:=N'
 s₀:=s2
 H₀:=H2
 env:=compEnvC scope (bB X.env scope.names []) C X.env
 outer:=X.stack
 stack:=X.stack
 ex:=fp
 fn:=fun _=>false
 calm:=X.calm
 pn:=X.pn ++ pins
 xe:=fun _ _=>False
def bG (σ:St) (cap:List Nat) (k:Nat):St:=List.replicate k none ++ cap.map fun j=>(σ[j]?).join
def leS (σ σ':St):Prop:=σ'.length=σ.length∧∀ (i:Nat) v,σ[i]? = some (some v)→σ'[i]? = some (some v)
theorem leS.set {σ:St} {i:Nat} {v:V} (h:σ[i]? = some none):leS σ (σ.set i (some v)):=by
 refine ⟨by simp,fun j w e=>?_⟩
 by_cases hj:j=i
 ·subst hj; rw [h] at e; cases e
 ·rw [List.getElem?_set_ne (Ne.symm hj)]; exact e
structure CompOk (X:Cx) (scope:Scope) (own:List Str) (cs:List Str) (cap:List Nat):Prop where
 kind:scope.kind=.function
 cell:∀y∈scope.names,y.2≠.cell
 names:∀y∈scope.names,y.2=.local→scope.names.lookup y.1=some .local
 free:∀y∈scope.names,y.2=.free→X.env.kindOf y.1=some .cell∨X.env.kindOf y.1=some .free
 caps:∀ (i:Nat) y,cs[i]? = some y→∃j,cap[i]? = some j∧X.N[j]? = some y∧(y,NameKind.free)∈scope.names
 ownl:∀y∈own,scope.names.lookup y=some .local
 len:cs.length=cap.length
 free2:∀y,(y,NameKind.free)∈scope.names→scope.names.lookup y=some .local→False
def mK (X:Cx) (ifs:List Expr) (tt:TT):Prop :=
 ∀ (pins:List (Addr×Obj)) (s:Shared) (σ:St) (H:Hp) (Q:Bool→Hp→Prop),Inv X pins σ H s→tt σ H Q →
  wpAny (model X.prog X.w) X.A (forIn ifs true fun c r=>if r=true then do let ok←isTrue c X.env (eval c X.env); pure (ForInStep.yield ok) else pure (ForInStep.yield r)) (TP X pins σ Q) X.xe s
def uf:TT:=fun _ H Q=>Q true H
theorem aT {X:Cx}:mK X [] uf:=fun _ _ _ H _ I h=>wpAny_tests_nil ⟨H,I,h⟩
theorem ft {X:Cx} {c:Expr} {tt:TT} (h:PT X c tt):mK X [c] tt:=fun pins s σ H Q I q=>wpAny_tests_one (h pins s σ H Q I q)
def gj (σ:St) (cap:List Nat) (k:Nat) (J:It) (g:TG) (tt:TT) (te:TE) (Q:List V→Hp→Prop) (W:Nat→Nat→List V→Hp→Prop):Prop :=
 ∀i m ys H,W i m ys H→(J.stop i H∧ys.length≤sizeLine∧Q ys H) ∨
  (J.go i H∧ys.length < sizeLine∧∀x H',J.yld i H x H'→g x (bG σ cap k) H' fun σ2 H2=>leS (bG σ cap k) σ2∧tt σ2 H2 fun ok H3 =>
   if ok=true then te σ2 H3 (fun v H4=>∃m',m' < m∧W (i + 1) m' (ys ++ [v]) H4) else ∃m',m' < m∧W (i + 1) m' ys H3)
theorem HOk.add {P:Program} {w:World} {H:Hp} {h:Heap} {a:Addr} {o:HO} (x:HOk P w H h) (n:H a=none) (new:ObjOk P w (upd H a o) h a o):HOk P w (upd H a o) h:=fun b u e=>by
 by_cases hb:b=a
 ·subst hb; rw [ah] at e; cases e; exact new
 ·rw [az hb] at e
  exact (x b u e).stay (fun c v _ q=>q) (fun c q=>by rw [az (aj q n)]; exact q) fun c xs q=>by rw [az (aj q n)]; exact q
section
variable {X:Cx} {pins:List (Addr×Obj)} {σ:St} {H2:Hp} {s2:Shared} {scope:Scope} {own cs:List Str} {cap:List Nat} {fp:List Addr}
theorem kQ {h1:Heap} {C:Addr} {tk:Nat} (I:Inv X pins σ H2 s2) (ok:CompOk X scope own cs cap) (hf:∀b∈fp,dI X pins H2 b) (hfl:∀b∈fp,b < s2.heap.objs.size)
  (hC:s2.heap.objs.size≤C) (hns:h1.Ns C (fun _=>none)) (old:∀b o,s2.heap.get? b=some o→h1.get? b=some o) :
  Inv (bL X pins s2 H2 scope C (own ++ cs) fp) [] (bG σ cap own.length) H2 { s2 with heap:=h1,toks:=tk }:=by
 have hfr:∀y∈scope.names,y.2=.free→∃c,X.env.cells.lookup y.1=some c:=fun y hy e=>I.ok.has y.1 (ok.free y hy e)
 have sub:∀x c,(bB X.env scope.names []).lookup x=some c→X.env.cells.lookup x=some c:=fun x c e=>cI X.env scope.names [] x c hfr (fun _ _ z=>by simp at z) e
 have clt:∀x c,(bB X.env scope.names []).lookup x=some c→c < s2.heap.objs.size:=fun x c e=>by
  obtain ⟨v,o,ho,_⟩:=I.cell x c (sub x c e)
  exact Heap.lt_size ho
 refine ⟨⟨I.ok.mod,ok.kind,I.ok.glob,I.ok.blt,hC,fun y z c h1 h2=>I.ok.inj y z c (sub y c h1) (sub z c h2),fun y hy=>?_,fun y c z=>?_,I.ok.hd,I.ok.frames,.inl rfl,fun b hb=>?_,I.bs,Nat.le_trans I.ok.bsz I.sz,fun b o e hb=>?_,fun b hb z=>?_,I.stack,I.stkFree⟩,
  rfl,I.bare,Un.kept old,⟨_,hns,fun i y v e1 e2 e3=>?_⟩,fun y c e=>?_,I.hok.fresh hC,fun y c e=>I.freeC y c (sub y c e),fun p hp=>?_,I.hok.kept old,?_⟩
 ·have hm:=gL ok.cell hy
  exact eF X.env scope.names [] y hm
 ·exact absurd (show false=true from z) Bool.false_ne_true
 ·exact ⟨Nat.ne_of_lt (Nat.lt_of_lt_of_le (hfl b hb) hC),fun x c e=>(hf b hb).2.2.2.2.1 x c (sub x c e)⟩
 ·rcases (hf b hb).2.2.2.1 with z | z
  ·exact I.ok.noex b o e z
  ·exact absurd (Nat.lt_of_lt_of_le (Heap.lt_size (I.ok.bs b o e).1) z) (Nat.lt_irrefl _)
 ·rcases List.mem_cons.mp (I.stkSub b z) with q | q
  ·exact (hf b hb).2.1 q
  ·exact (hf b hb).2.2.1 q
 ·have hi:own.length≤i:=by
   refine Nat.le_of_not_lt fun q=>?_
   unfold bG at e2
   rw [List.getElem?_append_left (by simpa using q),List.getElem?_replicate] at e2
   split at e2 <;> cases e2
  have e1':cs[i - own.length]? = some y:=by
   have e1:(own ++ cs)[i]? = some y:=e1
   rwa [List.getElem?_append_right hi] at e1
  obtain ⟨j,hj,hN,hm⟩:=ok.caps _ y e1'
  have hk:=ok.free _ hm rfl
  have e2':σ[j]? = some (some v):=by
   unfold bG at e2
   rw [List.getElem?_append_right (by simpa using hi),List.length_replicate,List.getElem?_map,hj] at e2
   have e2:(σ[j]?).join=some v:=by simpa using e2
   cases q:σ[j]? with
   | none=>rw [q] at e2; cases e2
   | some w=>rw [q] at e2; have:w=some v:=e2; rw [this]
  obtain ⟨m,hn,hl⟩:=I.loc
  obtain ⟨u,ru,l⟩:=hl j y v hN e2' (by rcases hk with q | q; exact .inr (.inl q); exact .inr (.inr q))
  refine ⟨u,ru,.inr ?_⟩
  obtain ⟨c,hc⟩:=eF X.env scope.names [] y hm
  have hc':=sub y c hc
  have cellu:h1.IsCell c (some u):=by
   rcases l with ⟨k,_⟩ | ⟨k,c',e,o,ho,hd⟩
   ·rcases hk with q | q <;> (have z:X.env.kindOf y=_:=q; rw [k] at z; cases z)
   ·rw [hc'] at e; cases e
    exact ⟨o,old _ _ ho,hd⟩
  refine ⟨?_,c,hc,cellu⟩
  rcases e3 with z | z | z
  ·exfalso
   have key:∀names:List (Str×NameKind),True:=fun _=>trivial
   have z:(relabel scope X.env).names.lookup y=some .local:=z
   have zz:scope.names.lookup y=some .local:=by
    unfold relabel at z
    dsimp only at z
    revert z
    generalize scope.names=names
    induction names with
    | nil=>intro z; simp at z
    | cons q r ih =>
     obtain ⟨n,k⟩:=q
     intro z
     rw [List.map_cons] at z
     by_cases hb:(k == NameKind.free && X.env.scope.kind == .function && X.env.kindOf n == some .cell)=true
     ·dsimp only at z
      rw [if_pos hb,List.lookup_cons] at z
      rw [List.lookup_cons]
      cases hx:y == n with
      | true=>rw [hx] at z; cases z
      | false=>rw [hx] at z; exact ih z
     ·dsimp only at z
      rw [if_neg hb,List.lookup_cons] at z
      rw [List.lookup_cons]
      cases hx:y == n with
      | true=>rw [hx] at z; exact z
      | false=>rw [hx] at z; exact ih z
   have:=ok.free2 y hm zz
   exact this
  ·exact .inl z
  ·exact .inr z
 ·obtain ⟨v,o,ho,hd⟩:=I.cell y c (sub y c e)
  exact ⟨v,o,old _ _ ho,hd⟩
 ·have hp':p∈X.pn ++ pins:=by
   have:p∈(X.pn ++ pins) ++ []:=hp
   simpa using this
  obtain ⟨e,n,ne,nf,d⟩:=I.pin p hp'
  refine ⟨old _ _ e,n,Nat.ne_of_lt (Nat.lt_of_lt_of_le (Heap.lt_size e) hC),fun z=>?_,d⟩
  rcases List.mem_cons.mp (I.stkSub p.1 z) with q | q
  ·exact ne q
  ·exact nf q
 ·show (bG σ cap own.length).length=(own ++ cs).length
  unfold bG
  rw [List.length_append,List.length_replicate,List.length_map,List.length_append,ok.len]
end
end L2
set_option Elab.async false
set_option linter.all false
set_option maxRecDepth 100000
namespace L2
open PySem PySem.Spec PyProof.Rows
section
variable {X:Cx} {pins:List (Addr×Obj)} {σ:St} {H2:Hp} {s2:Shared} {scope:Scope} {own cs:List Str} {cap:List Nat} {fp:List Addr} {it:Addr} {tn:Nat→Heap→Prop}
 {elt tg iter:Expr} {ifs:List Expr} {pos:Pos} {J:It} {g:TG} {tt:TT} {te:TE} {E:Value→Shared→Prop} {W:Nat→Nat→List V→Hp→Prop} {Qf:List V→Hp→Prop}
structure BlkEnd (X:Cx) (pins:List (Addr×Obj)) (σ:St) (Qf:List V→Hp→Prop) (D C:Addr) (s':Shared):Prop where
 ex:∃ (ys:List V) (H':Hp),H' D=none∧Qf ys H'∧Inv X pins σ (upd H' D (.lst ys)) s'∧dI X pins (upd H' D (.lst ys)) C
 ns:∃m,s'.heap.Ns C m
theorem Inv.bareP {pins':List (Addr×Obj)} {H:Hp} {s:Shared} (I:Inv X pins' σ H s):Inv X [] σ H s:=I.pins_of fun p hp=>absurd hp (by simp)
theorem iq {RR:Value→Addr→Result→Shared→Prop} (I:Inv X pins σ H2 s2) (ok:CompOk X scope own cs cap) (hc:X.calm=true) (T:Turn X.prog X.w X.K tg J fp it tn) (st:tn 0 s2.heap) (hf:∀b∈fp,dI X pins H2 b)
  (hg:∀C,PG (bL X pins s2 H2 scope C (own ++ cs) fp) tg g) (hi:∀C,mK (bL X pins s2 H2 scope C (own ++ cs) fp) ifs tt) (he:∀C,PE (bL X pins s2 H2 scope C (own ++ cs) fp) elt te)
  (w0:∃m,W 0 m [] H2) (turn:gj σ cap own.length J g tt te Qf W)
  (hRR:∀D C s',BlkEnd X pins σ Qf D C s'→RR (.ref D) C (.ok .next) s') :
  wpAny (model X.prog X.w) X.A (newList []) (fun acc s₃=>wpAny (model X.prog X.w) X.A (newFunctionEnv scope X.env.globals (bB X.env scope.names []) [] X.env.qual none .none (some X.env)) (fun cenv s₄ =>
   codeAny (model X.prog X.w) X.A (.compStart (.ListComp elt [⟨tg,iter,ifs,0⟩] scope pos) 0 (.ref it) acc { cenv with scope:=relabel scope X.env }) (RR acc cenv.locals) s₄) E s₃) E s2:=by
 refine wpAny_newObj_type (wpAny_newFunctionEnv ok.cell (by intro y hy; simp at hy) (fun h₁ hns₁ hsb₁=>?_) ok.kind)
 dsimp only at hns₁ hsb₁ ⊢
 generalize hHH:s2.heap.push { cls:=.type "list",dict:=none,data:=.seq ([]:List Value).toArray }=HH at hns₁ hsb₁ ⊢
 have hCs:HH.objs.size=s2.heap.objs.size + 1:=by rw [← hHH,Heap.size_push]
 have hDC:s2.heap.objs.size≠HH.objs.size:=by rw [hCs]; exact Nat.ne_of_lt (Nat.lt_succ_self _)
 have hCle:s2.heap.objs.size≤HH.objs.size:=by rw [hCs]; exact Nat.le_succ _
 have hfl:∀b∈fp,b < s2.heap.objs.size:=fun b hb=>by
  obtain ⟨o,e,_⟩:=T.obj 0 _ st b hb
  exact Heap.lt_size e
 have old:∀b o,s2.heap.get? b=some o→h₁.get? b=some o:=fun b o e=>hsb₁.extBut b o (by rw [hCs]; exact Nat.ne_of_lt (Nat.lt_succ_of_lt (Heap.lt_size e))) (Heap.get?_push_of_some _ (hHH ▸ Heap.get?_push_of_some _ e))
 have hacc:h₁.PlainList s2.heap.objs.size #[]:=⟨_,hsb₁.extBut _ _ hDC (Heap.get?_push_of_some _ (hHH ▸ Heap.get?_push_size _ rfl))⟩
 generalize hD:s2.heap.objs.size=D at *
 generalize hCC:HH.objs.size=C at *
 have hns₁':h₁.Ns C (fun _=>none):=hns₁
 have I0:Inv (bL X pins s2 H2 scope C (own ++ cs) fp) [] (bG σ cap own.length) H2 { s2 with heap:=h₁,toks:=s2.toks + ([]:List (Str×Value)).length } :=
  kQ I ok hf (fun b hb=>by rw [hD]; exact hfl b hb) (by rw [hD]; exact hCle) hns₁' old
 have Dfs:D∉frs X.stack:=fun hb=>by
  obtain ⟨_,o,ho,_⟩:=I.stack.mem hb
  exact absurd (Heap.lt_size ho) (by rw [hD]; exact Nat.lt_irrefl _)
 have Dfp:∀b∈fp,D≠b:=fun b hb z=>absurd (hfl b hb) (by rw [← z]; exact Nat.lt_irrefl _)
 have clt:∀x c,(bB X.env scope.names []).lookup x=some c→c < D:=fun x c e=>by
  have e':=cI X.env scope.names [] x c (fun y hy e=>I.ok.has y.1 (ok.free y hy e)) (fun _ _ z=>by simp at z) e
  obtain ⟨v,o,ho,_⟩:=I.cell x c e'
  have:=Heap.lt_size ho
  rw [hD] at this; exact this
 have plt:∀p∈X.pn ++ pins,p.1 < D:=fun p hp=>by
  have:=Heap.lt_size (I.pin p hp).1
  rw [hD] at this; exact this
 have stat:∀ {H':Hp} {ob:Obj},(∀b∈fp,H' b=none)→∀b∈fp,dI (bL X pins s2 H2 scope C (own ++ cs) fp) [(D,ob)] H' b:=fun {H' ob} hn b hb=>by
  have q:=I0.ok.exf b hb
  refine ⟨hn b hb,q.1,I0.ok.exfs b hb,.inl hb,q.2,fun p hp=>?_⟩
  rcases List.mem_append.mp hp with z | z
  ·exact (hf b hb).2.2.2.2.2 p z
  ·have:p=(D,ob):=by simpa using z
   subst this
   exact Dfp b hb
 have loop:codeAny (model X.prog X.w) X.A (.compLoop (.ListComp elt [⟨tg,iter,ifs,0⟩] scope pos) 0 (.ref it) (.ref D) (compEnvC scope (bB X.env scope.names []) C X.env)) (RR (.ref D) C)
   { s2 with heap:=h₁,toks:=s2.toks + ([]:List (Str×Value)).length }:=by
  obtain ⟨m0,w0⟩:=w0
  refine codeAny_loop rfl (fun n s'=>∃i H' its ys,Inv (bL X pins s2 H2 scope C (own ++ cs) fp) [] (bG σ cap own.length) H' s'∧tn i s'.heap∧(∀b∈fp,H' b=none)∧s'.heap.PlainList D its.toArray∧Vals ys its∧H' D=none∧W i n ys H') ?_ m0
   ⟨0,H2,[],[],I0,T.keep 0 _ _ st fun b _ o e=>old b o e,fun b hb=>(hf b hb).1,hacc,.nil,I.hok.fresh (by rw [hD]; exact Nat.le_refl _),w0⟩
  rintro n s3 ⟨i,H3,its,ys,I3,st3,fr3,⟨nn,pl3⟩,rv3,hD3,w3⟩
  show wpAny _ X.A ((compTurn (.ListComp elt [⟨tg,iter,ifs,0⟩] scope pos) 0 (.ref it) (.ref D) (compEnvC scope (bB X.env scope.names []) C X.env)).onRaise (fun x=>do noteFrame x (compEnvC scope (bB X.env scope.names []) C X.env); theTreesLotGoes x)) _ _ s3
  refine wpAny_noted ?_
  rw [compTurn_list]
  refine wpAny_bind (wpAny_standAt (wpAny_bind ?_))
  have I3':Inv (bL X pins s2 H2 scope C (own ++ cs) fp) [(D, { cls:=.type "list", data:=.seq its.toArray nn })] (bG σ cap own.length) H3 s3 :=
   I3.pins_of fun p hp=>by
    have:p=(D,{ cls:=.type "list",data:=.seq its.toArray nn }):=by simpa using hp
    subst this
    exact ⟨pl3,hD3,hDC,Dfs,fun v z=>by cases z⟩
  rcases turn i n ys H3 w3 with ⟨stop,hz,qf⟩ | ⟨go,hz,step⟩
  ·refine thn (T.done (bL X pins s2 H2 scope C (own ++ cs) fp) rfl rfl rfl hc i _ s3 _ H3 _ I3' (stat fr3) st3 stop) fun r s4 ⟨hr,I4⟩=>?_
   subst hr
   refine wpAny_pure (hRR D C s4 ⟨⟨ys,H3,hD3,qf,?_,?_⟩,?_⟩)
   ·have pl4:=(I4.pin (D,_) (List.mem_append_right _ (List.mem_singleton.mpr rfl))).1
    have u4:=I4.base
    have Ds2:s2.heap.get? D=none:=Heap.get?_none_of_le (by rw [hD]; exact Nat.le_refl _)
    refine I.call' (s':=s4) (ch:=fp) I4.os ⟨u4.keep,u4.slot,fun b o e n hx=>?_,u4.there,fun b xs e=>?_,fun b o u e=>?_,fun b ps e=>?_⟩ ?_ I4.bare fun b hb=>⟨(hf b hb).2.2.2.1,(hf b hb).2.1,(hf b hb).2.2.2.2.1,(hf b hb).2.2.2.2.2⟩
    ·rw [az (fun z=>by rw [z,Ds2] at e; cases e)]
     exact u4.free b o e n hx
    ·have:=u4.tups b xs e
     rw [az (aj this hD3)]; exact this
    ·have:=u4.frzs b o u e
     rw [az (aj this hD3)]; exact this
    ·obtain ⟨more,e'⟩:=u4.tbls b ps e
     exact ⟨more,by rw [az (aj e' hD3)]; exact e'⟩
    ·exact I4.hok.add hD3 ⟨hz,its,nn,rv3,pl4⟩
   ·have CH:(upd H3 D (.lst ys)) C=none:=by rw [az (Ne.symm hDC)]; exact I4.free
    exact I.fpOk (H':=upd H3 D (.lst ys)) (by rw [hD]; exact hCle) CH
   ·obtain ⟨m,hn,_⟩:=I4.loc
    exact ⟨m,hn⟩
  ·refine thn (T.item (bL X pins s2 H2 scope C (own ++ cs) fp) rfl rfl rfl hc i _ s3 _ H3 _ I3' (stat fr3) st3 go) fun r s4 ⟨u,hr,h4⟩=>?_
   subst hr
   refine wpAny_bind (thn h4 fun _ s5 ⟨x,H5,I5,r5,y5,st5,fr5⟩=>?_)
   have I5':=I5.pinned (stat fr5) (T.obj _ _ st5)
   refine wpAny_bind (wpAny_mono (hg C _ s5 _ H5 x u _ I5' r5 (step x H5 y5)) (fun _ s6 ⟨σ6,H6,I6,le6,q6⟩=>?_) fun _ _ z=>False.elim z)
   refine wpAny_bind (wpAny_mono (hi C _ s6 σ6 H6 _ I6 q6) (fun b s7 ⟨H7,I7,q7⟩=>?_) fun _ _ z=>False.elim z)
   have back:∀ {pins':List (Addr×Obj)} {H8:Hp} {s8:Shared},Inv (bL X pins s2 H2 scope C (own ++ cs) fp) pins' σ6 H8 s8→Inv (bL X pins s2 H2 scope C (own ++ cs) fp) [] (bG σ cap own.length) H8 s8:=fun I8 =>
    I8.bareP.weak le6.1.symm fun i v e=>le6.2 i v e
   cases b with
   | false =>
    rw [if_neg Bool.false_ne_true] at q7
    obtain ⟨m',hm,w7⟩:=q7
    refine wpAny_pure ⟨rfl,m',hm,i + 1,H7,its,ys,back I7,T.keep _ _ _ st5 fun b hb o e=>?_,fun b hb=>?_,⟨nn,?_⟩,rv3,?_,w7⟩
    ·exact (I7.pin (b,o) (List.mem_append_right _ (List.mem_append_right _ (bM hb e)))).1
    ·obtain ⟨o,e,d⟩:=T.obj _ _ st5 b hb
     exact (I7.pin (b,o) (List.mem_append_right _ (List.mem_append_right _ (bM hb e)))).2.1
    ·exact (I7.pin (D,_) (List.mem_append_right _ (List.mem_append_left _ (List.mem_singleton.mpr rfl)))).1
    ·exact (I7.pin (D,_) (List.mem_append_right _ (List.mem_append_left _ (List.mem_singleton.mpr rfl)))).2.1
   | true =>
    rw [if_pos rfl] at q7
    refine wpAny_bind (wpAny_bind (wpAny_mono (he C _ s7 σ6 H7 _ I7 q7) (fun y s8 ⟨v,H8,I8,r8,m',hm,w8⟩=>?_) fun _ _ z=>False.elim z))
    have pD:=I8.pin (D,{ cls:=.type "list",data:=.seq its.toArray nn }) (List.mem_append_right _ (List.mem_append_left _ (List.mem_singleton.mpr rfl)))
    have hlen:=rv3.length
    refine wpAny_bind (wpAny_list_append_plain (hsz:=by rw [List.size_toArray]; omega) ⟨nn,pD.1⟩ fun h9 pl9 sb9=>wpAny_pure (wpAny_pure ?_))
    have I8':=back I8
    refine ⟨rfl,m',hm,i + 1,H8,its ++ [y],ys ++ [v],?_,T.keep _ _ _ st5 fun b hb o e=>?_,fun b hb=>?_,?_,rv3.append (.cons r8 .nil),pD.2.1,w8⟩
    ·exact I8'.turned (t':=s8.toks) (fun b o hb e=>sb9.extBut b o hb e) pD.2.1 hDC (.inr (by show s2.heap.objs.size≤D; rw [hD]; exact Nat.le_refl _)) (fun x c e=>Nat.ne_of_lt (clt x c e)) fun p hp=>by
      have hp':p∈X.pn ++ pins:=by
       have:p∈(X.pn ++ pins) ++ []:=hp
       simpa using this
      exact Nat.ne_of_lt (plt p hp')
    ·exact sb9.extBut b o (Ne.symm (Dfp b hb)) (I8.pin (b,o) (List.mem_append_right _ (List.mem_append_right _ (bM hb e)))).1
    ·obtain ⟨o,e,d⟩:=T.obj _ _ st5 b hb
     exact (I8.pin (b,o) (List.mem_append_right _ (List.mem_append_right _ (bM hb e)))).2.1
    ·have e:its.toArray.push y=(its ++ [y]).toArray:=by simp
     rw [← e]; exact pl9
 exact codeAny_compStart_list loop (T.self _ 0 _ _ _ (T.keep 0 _ _ st fun b _ o e=>old b o e) loop)
def mL (wi:TI) (cap:List Nat) (k:Nat) (g:TG) (tt:TT) (te:TE):TE:=fun σ H Q=>wi σ H fun J H1 =>
 ∃W:Nat→Nat→List V→Hp→Prop,(∃m,W 0 m [] H1)∧gj σ cap k J g tt te (fun ys H'=>∀p,H' p=none→Q (.ref p) (upd H' p (.lst ys))) W
theorem bS {wi:TI} (hc:X.calm=true) (hit:PI X tg iter wi) (ok:CompOk X scope own cs cap)
  (hg:∀pins s2 H2 C fp,PG (bL X pins s2 H2 scope C (own ++ cs) fp) tg g) (hi:∀pins s2 H2 C fp,mK (bL X pins s2 H2 scope C (own ++ cs) fp) ifs tt) (he:∀pins s2 H2 C fp,PE (bL X pins s2 H2 scope C (own ++ cs) fp) elt te)
  (hs:∀x,foldedSetIterable iter X.env x=pure x:=by intro _; rfl):PE X (.ListComp elt [⟨tg,iter,ifs,0⟩] scope pos) (mL wi cap own.length g tt te):=by
 intro pins s σ H Q I h
 rw [eval_ListComp]
 refine wpAny_comprehension_free (use:=none) rfl hs (fq fun y hy e=>I.ok.has y.1 (ok.free y hy e)) ok.kind ok.names (thn (hit pins s σ H _ I h) fun v s1 h1=>thn h1 fun itv s2 h2=>?_)
 obtain ⟨it,fp,tn,J,H2,e,I2,T,st2,f2,W,w0,turn⟩:=h2
 subst e
 refine iq (RR:=fun acc C=>compPost (model X.prog X.w) X.A X.xe none (EP X pins σ Q) acc C) I2 ok hc T st2 f2 (fun C=>hg _ _ _ _ _) (fun C=>hi _ _ _ _ _) (fun C=>he _ _ _ _ _) w0 turn fun D C s' B=>?_
 obtain ⟨⟨ys,H',hD,q,I',fp'⟩,m,hn⟩:=B
 obtain ⟨f0,f1,f2',f3,f4,f5⟩:=fp'
 exact ⟨m,hn,fun h' sb=>⟨.ref D,_,I'.turned (t':=s'.toks) (fun b o hb e=>sb.extBut b o hb e) f0 f1 f3 f4 f5,rfl,q D hD⟩⟩
theorem cz {wi:TI} {i:Nat} {y:Str} {py spos:Pos} (hc:X.calm=true) (hN:X.N.Nodup) (hiy:X.N[i]? = some y) (hy:X.env.scope.names.lookup y=some .local)
  (hsw:swapsWith (.ListComp elt [⟨tg,iter,ifs,0⟩] scope pos) (some (.Name y py)) spos.line X.env=pure true) (hit:PI X tg iter wi) (ok:CompOk X scope own cs cap)
  (hg:∀pins s2 H2 C fp,PG (bL X pins s2 H2 scope C (own ++ cs) fp) tg g) (hi:∀pins s2 H2 C fp,mK (bL X pins s2 H2 scope C (own ++ cs) fp) ifs tt) (he:∀pins s2 H2 C fp,PE (bL X pins s2 H2 scope C (own ++ cs) fp) elt te)
  (hs:∀x,foldedSetIterable iter X.env x=pure x:=by intro _; rfl):PS X (.Assign [.Name y py] (.ListComp elt [⟨tg,iter,ifs,0⟩] scope pos) spos) (qr (mL wi cap own.length g tt te) (ik i)):=by
 intro pins s σ H D0 I h
 rw [exec_Assign_Name_used _ _ _ _ hsw]
 refine wpAny_bind (wpAny_standAt (wpAny_bind ?_))
 show wpAny _ X.A (do let _←comprehension (.ListComp elt [⟨tg,iter,ifs,0⟩] scope pos) scope X.env _ (newList []) false (eval iter X.env) (some (assign (.Name y py) X.env))) _ _ s
 refine wpAny_bind (wpAny_mono (wpAny_comprehension_free (use:=some (assign (.Name y py) X.env)) (Q:=fun _ s'=>SP X pins D0 .next s') rfl hs (fq fun y hy e=>I.ok.has y.1 (ok.free y hy e)) ok.kind ok.names
  (thn (hit pins s σ H _ I h) fun v s1 h1=>thn h1 fun itv s2 h2=>?_)) (fun _ s' hq=>wpAny_pure (wpAny_pure hq)) fun _ _ e=>e)
 obtain ⟨it,fp,tn,J,H2,e,I2,T,st2,f2,W,w0,turn⟩:=h2
 subst e
 refine iq (RR:=fun acc C=>compPost (model X.prog X.w) X.A X.xe (some (assign (.Name y py) X.env)) (fun _ s'=>SP X pins D0 .next s') acc C) I2 ok hc T st2 f2 (fun C=>hg _ _ _ _ _) (fun C=>hi _ _ _ _ _) (fun C=>he _ _ _ _ _) w0 turn fun D C s' B=>?_
 obtain ⟨⟨ys,H',hD,q,I',fp'⟩,m,hn⟩:=B
 obtain ⟨f0,f1,f2',f3,f4,f5⟩:=fp'
 show wpAny _ X.A (assign (.Name y py) X.env (.ref D)) _ _ _
 refine wpAny_assign_Name (fW I' hN hiy (.inl hy) (v:=.ref D) rfl (fun s3 I3 ⟨a,sb,ha⟩=>?_) (.inr hy))
 have hCa:C≠a:=by
  rcases ha with z | z
  ·rw [z]; exact f1
  ·exact fun q=>f4 y a z q.symm
 refine ⟨m,hn.sameBut sb hCa,fun h' sb'=>⟨_,_,I3.turned (t':=s3.toks) (fun b o hb e=>sb'.extBut b o hb e) f0 f1 f3 f4 f5,q D hD⟩⟩
end
end L2
set_option Elab.async false
set_option linter.all false
set_option maxRecDepth 100000
namespace L2
open PySem PySem.Spec PyProof.Rows
def CDivB (i j:Int):Prop:=0 < j∧j≤10 ^ 60
theorem CDivB.np {i j:Int} (h:CDivB i j):Builtin.divisionGoesByPylong i j=false:=by
 refine PyProof.noPylong_of_log2 ?_
 have h1:j.natAbs < 2 ^ 200:=by
  obtain ⟨a,b⟩:=h
  omega
 have h2:j.natAbs.log2 < 200:=(Nat.log2_lt (by have:=h.1; omega)).mpr h1
 omega
section
variable {X:Cx}
theorem ir:OpR X (binaryOp .FloorDiv) (rI CDivB fun i j=>.int (i / j)):=opI fun i j _ _ _ _ _ hc q=>by
 refine floordiv_int (by have:=hc.1; omega) ?_ (.inl hc.np)
 rw [Int.fdiv_eq_ediv_of_nonneg _ (by have:=hc.1; omega)]
 exact q
theorem Inv.kitx {pins:List (Addr×Obj)} {σ:St} {H:Hp} {s:Shared} {x:V} {u t:Value} (I:Inv X pins σ H s) (rx:RelV x u) (ty:TyOf X.K H x t) :
  ∃P:Heap→Prop,PySem.W.KitX X.K u t P∧P s.heap∧u≠.builtin "__main__.__loader__#opaque" := by
 cases ty with
 | non=>cases (show u=Value.none from rx); exact ⟨_,PySem.W.kitx_none,True.intro,fun z=>nomatch z⟩
 | bl y=>cases (show u=Value.bool y from rx); exact ⟨_,PySem.W.kitx_bool,True.intro,fun z=>nomatch z⟩
 | int i=>obtain ⟨t,q⟩:=(show ∃t,u=Value.int i t from rx); cases q; exact ⟨_,PySem.W.kitx_int,True.intro,fun z=>nomatch z⟩
 | str y=>obtain ⟨t,q⟩:=(show ∃t,u=Value.str y t from rx); cases q; exact ⟨_,PySem.W.kitx_str,True.intro,fun z=>nomatch z⟩
 | flt y=>obtain ⟨t,q⟩:=(show ∃t,u=Value.float y t from rx); cases q; exact ⟨_,PySem.W.kitx_float,True.intro,fun z=>nomatch z⟩
 | @lst a xs ea =>
  cases (show u=Value.ref a from rx)
  obtain ⟨_,_,n,_,h1⟩:=(show ObjOk X.prog X.w H s.heap a (.lst xs) from I.hok a _ ea)
  exact ⟨_,PySem.W.kitx_list,⟨_,h1,rfl⟩,fun z=>nomatch z⟩
 | @frz a ob xs ea =>
  cases (show u=Value.ref a from rx)
  obtain ⟨_,_,_,n,_,h1⟩:=(show ObjOk X.prog X.w H s.heap a (.frz ob (.lst xs)) from I.hok a _ ea)
  exact ⟨_,PySem.W.kitx_list,⟨_,h1,rfl⟩,fun z=>nomatch z⟩
 | @tup a xs ea =>
  cases (show u=Value.ref a from rx)
  obtain ⟨_,_,_,p⟩:=(show ObjOk X.prog X.w H s.heap a (.tup xs) from I.hok a _ ea)
  obtain ⟨o,h1,h2,_⟩:=p
  exact ⟨_,PySem.W.kitx_tuple,⟨o,h1,h2⟩,fun z=>nomatch z⟩
 | @dK a kvs ea =>
  cases (show u=Value.ref a from rx)
  obtain ⟨_,_,vs,_,p⟩:=(show ObjOk X.prog X.w H s.heap a (.dK kvs) from I.hok a _ ea)
  obtain ⟨o,es,ep,h1,h2,_⟩:=p
  exact ⟨_,PySem.W.kitx_dict,⟨o,h1,h2.1⟩,fun z=>nomatch z⟩
 | @dT a kvs ea =>
  cases (show u=Value.ref a from rx)
  obtain ⟨_,_,xs,_,o,es,ep,h1,h2,_⟩:=(show ObjOk X.prog X.w H s.heap a (.dT kvs) from I.hok a _ ea)
  exact ⟨_,PySem.W.kitx_dict,⟨o,h1,h2.1⟩,fun z=>nomatch z⟩
 | @ins a C dx fs ea cl ha hn htk hm =>
  cases (show u=Value.ref a from rx)
  obtain ⟨mA,O,_⟩:=dM I.hok ea
  obtain ⟨od,J,_⟩:=O.look
  exact ⟨_,PySem.W.kitx_own (cl.get _) cl.hd ha hn htk hm,J,fun z=>nomatch z⟩
def clV:V→Option Value
 | .ty T=>some (.type T)
 | .ref C=>some (.ref C)
 | _=>none
theorem clV.rel {v:V} {u c:Value} (e:clV v=some c) (r:RelV v u):u=c:=by
 cases v with
 | ty T=>have e':Value.type T=c:=Option.some.inj e; rw [← e']; exact r
 | ref C=>have e':Value.ref C=c:=Option.some.inj e; rw [← e']; exact r
 | _=>cases e
def clVs:List V→Option (List Value)
 | []=>some []
 | v :: r=>match clV v,clVs r with
  | some c,some cs=>some (c :: cs)
  | _,_=>none
theorem clVs.rel:∀ {vs:List V} {us cs:List Value},clVs vs=some cs→Vals vs us→us=cs
 | [],_,_,e,.nil=>Option.some.inj e
 | v :: r,_,_,e,.cons r1 r2=>by
  unfold clVs at e
  split at e
  ·rename_i c cs' e1 e2
   cases e
   rw [clV.rel e1 r1,clVs.rel e2 r2]
  ·cases e
theorem cT:cD X (.builtin "isinstance") (fun xs H Q=>∃x cv t c b,xs=[x,cv]∧TyOf X.K H x t∧clV cv=some c∧PySem.W.kitOne X.K t c=some b∧Q (.bl b) H):=by
 intro pins s σ H xs us Q I rv h
 obtain ⟨x,cv,t,c,b,rfl,ty,e1,e2,q⟩:=h
 cases rv with
 | cons r1 rr =>
  cases rr with
  | cons r2 rr =>
   cases rr
   rw [clV.rel e1 r2]
   exact kI I r1 ty e2 fun tk=>⟨.bl b,H,I.tok tk,rfl,q⟩
theorem gM:cD X (.builtin "isinstance") (fun xs H Q=>∃x p t cvs cs b,xs=[x,.ref p]∧TyOf X.K H x t∧H p=some (.tup cvs)∧clVs cvs=some cs∧PySem.W.kitAny X.K t cs=some b∧Q (.bl b) H):=by
 intro pins s σ H xs us Q I rv h
 obtain ⟨x,p,t,cvs,cs,b,rfl,ty,hp,e1,e2,q⟩:=h
 cases rv with
 | cons r1 rr =>
  cases rr with
  | cons r2 rr =>
   cases rr
   cases r2
   obtain ⟨_,its,rits,o,ho,hc,n,hd⟩:=I.hok p _ hp
   obtain ⟨P,Z,p1,p2⟩:=I.kitx r1 ty
   obtain ⟨oc,od,dt,osl⟩:=o
   replace hc:oc=.type "tuple" := hc
   replace hd:dt=.seq its.toArray n:=hd
   subst hc hd
   have e3:=clVs.rel e1 rits
   subst e3
   exact PySem.W.kia_tup Z I.kIn p1 ho e2 p2 fun tk=>⟨.bl b,H,I.tok tk,rfl,q⟩
end
mutual
inductive DatV (K:PySem.W.Frag) (H:Hp):V→PyData→Prop
 | non:DatV K H .non .none
 | bl (b:Bool):DatV K H (.bl b) (.bool b)
 | int (i:Int):DatV K H (.int i) (.int i)
 | str (x:Str):DatV K H (.str x) (.str x)
 | lst {a:Addr} {xs:List V} {ds:List PyData}:SqL K H a xs→DatVs K H xs ds→DatV K H (.ref a) (.list ds)
 | tup {a:Addr} {xs:List V} {ds:List PyData}:SqT K H a xs→DatVs K H xs ds→DatV K H (.ref a) (.tuple ds)
inductive DatVs (K:PySem.W.Frag) (H:Hp):List V→List PyData→Prop
 | nil:DatVs K H [] []
 | cons {x:V} {d:PyData} {xs:List V} {ds:List PyData}:DatV K H x d→DatVs K H xs ds→DatVs K H (x :: xs) (d :: ds)
end
section
variable {X:Cx} {pins:List (Addr×Obj)} {σ:St} {H:Hp} {s:Shared}
mutual
theorem Inv.reads (I:Inv X pins σ H s):∀ {v:V} {d:PyData},DatV X.K H v d→∀ {u:Value},RelV v u→∃as,Reads s.heap u d as
 | _,_,.non,u,r=>by cases (show u=Value.none from r); exact ⟨_,.none⟩
 | _,_,.bl b,u,r=>by cases (show u=Value.bool b from r); exact ⟨_,.bool b⟩
 | _,_,.int i,u,r=>by obtain ⟨t,e⟩:=(show ∃t,u=Value.int i t from r); subst e; exact ⟨_,.int i t⟩
 | _,_,.str x,u,r=>by obtain ⟨t,e⟩:=(show ∃t,u=Value.str x t from r); subst e; exact ⟨_,.str x t⟩
 | _,_,.lst (a:=a) h hs,u,r=>by
  cases (show u=Value.ref a from r)
  obtain ⟨its,rv,⟨o,n,e,c,_,d⟩,_⟩:=I.list h
  obtain ⟨as,ra⟩:=I.readsAll hs rv
  exact ⟨_,.list e c d (by simpa using ra)⟩
 | _,_,.tup (a:=a) h hs,u,r=>by
  cases (show u=Value.ref a from r)
  obtain ⟨its,rv,⟨o,e,c,n,d⟩,_⟩:=I.tuple h
  obtain ⟨as,ra⟩:=I.readsAll hs rv
  exact ⟨_,.tuple e c d (by simpa using ra)⟩
theorem Inv.readsAll (I:Inv X pins σ H s):∀ {vs:List V} {ds:List PyData},DatVs X.K H vs ds→∀ {us:List Value},Vals vs us→∃as,ReadsAll s.heap us ds as
 | _,_,.nil,_,.nil=>⟨_,.nil⟩
 | _,_,.cons h hs,_,.cons r rs=>by
  obtain ⟨as,ra⟩:=I.reads h r
  obtain ⟨bs,rb⟩:=I.readsAll hs rs
  exact ⟨_,.cons ra rb⟩
end
end
section
variable {X:Cx}
theorem qG (hu:X.A.units + 64 < cLine):OpR X (compareOp .NotEq) (fun x y H Q=>∃da db,DatV X.K H x da∧DatV X.K H y db∧SeqAt.shaped da=true∧SeqAt.shaped db=true∧Q (.bl (!PyData.eqv da db)) H):=by
 intro pins s σ H x y v u Q I rx ry h
 obtain ⟨da,db,hx,hy,s1,s2,q⟩:=h
 obtain ⟨as,ra⟩:=I.reads hx rx
 obtain ⟨bs,rb⟩:=I.reads hy ry
 exact ne_dataH ra rb s1 s2 hu ⟨.bl _,H,I,rfl,q⟩
end
section
variable {prog:Program} {w:World} {A:Around} {E:Value→Shared→Prop}
theorem fu {it l:Addr} {items:Array Value} (hne:l≠it):∀ (n i:Nat) (s:Shared) (Q:List Value→Shared→Prop),s.heap.IsListIter it l i→s.heap.IsList l items→i + n≤items.size →
  (∀h',h'.IsListIter it l (i + n)→Heap.SameBut it s.heap h'→Q ((items.toList.drop i).take n) { s with heap:=h' })→wpAny (model prog w) A (draw (.ref it) n) Q E s
 | 0,i,s,Q,hit,_,_,hQ=>by
  show wpAny _ _ (pure []) Q E s
  exact wpAny_pure (by simpa using hQ s.heap hit (Heap.SameBut.refl ..))
 | n + 1,i,s,Q,hit,ht,hle,hQ=>by
  have hlt:i < items.size:=by omega
  show wpAny _ _ (pyNext (.ref it) >>= _) Q E s
  refine wpAny_bind (wpAny_pyNext_list_item hit ht (x:=items[i]) (by simp [hlt]) fun h₁ hit₁ hs₁=>?_)
  refine wpAny_bind (wpAny_holding (fu hne n (i + 1) _ _ hit₁ (ht.extBut hs₁.extBut hne) (by omega) fun h₂ hit₂ hs₂=>wpAny_pure ?_))
  have hd:items.toList.drop i=items[i] :: items.toList.drop (i + 1):=by simp [List.drop_eq_getElem_cons,hlt]
  have q:=hQ h₂ (by rw [show i + (n + 1)=i + 1 + n by omega]; exact hit₂) (hs₁.trans hs₂)
  rw [hd,List.take_succ_cons] at q
  exact q
theorem dO {s:Shared} {l:Addr} {items:Array Value} {Q:List Value→Shared→Prop} (hh:A.handled=none) (ht:s.heap.IsList l items)
  (hQ:∀h',Heap.ExtBut s.heap.objs.size s.heap h'→Q items.toList { s with heap:=h' }):wpAny (model prog w) A (unpackItems (.ref l) items.size none) Q E s:=by
 have hlt:l≠s.heap.objs.size:=by obtain ⟨o,ho,_⟩:=ht; exact Nat.ne_of_lt (Heap.lt_size ho)
 have hp:(s.heap.push { cls:=.type "list_iterator",data:=.fields #[.ref l,.int 0 0] }).IsList l items:=by
  obtain ⟨o,ho,r⟩:=ht; exact ⟨o,Heap.get?_push_of_some _ ho,r⟩
 unfold unpackItems
 refine wpAny_bind ?_
 ·unfold notIterableAtAll
  refine wpAny_bind (wpAny_specialOf ht.typeIs PySem.slot_list_iter.lookup ?_)
  refine wpAny_pure ?_
  simp only [Bool.false_eq_true,if_false]
  refine wpAny_bind (wpAny_holding (wpAny_pyIter_list ht ?_))
  refine wpAny_bind (wpAny_holding (fu hlt items.size 0 _ _ ⟨_,Heap.get?_push_size _ rfl,rfl,rfl⟩ hp (by omega) fun h₁ hit₁ hs₁=>?_))
  have hall:List.take items.size (List.drop 0 items.toList)=items.toList:=by
   rw [List.drop_zero]; exact List.take_of_length_le (by simp)
  rw [hall]
  rw [if_neg (by simp)]
  have ht₁:h₁.IsList l items:=hp.extBut hs₁.extBut hlt
  refine wpAny_bind (wpAny_holding (wpAny_pyNext_list_end hh hit₁ ht₁ (by simp) fun h₂ he₂=>?_))
  simp only [Option.isSome_none,Bool.false_eq_true,if_false]
  refine wpAny_pure (hQ h₂ fun b o hb e=>he₂ b o hb (hs₁.extBut b o hb (Heap.get?_push_of_some _ e)))
theorem dB {s:Shared} {env:Env} {elts:List Expr} {x1} {pos:Pos} {l:Addr} {items:Array Value} {Q:Unit→Shared→Prop} (hh:A.handled=none) (ht:s.heap.IsList l items)
  (hn:(assignEach elts env).length=items.size) (hstar:(assignEach elts env).findIdx? (·.1)=none)
  (h:∀h',Heap.ExtBut s.heap.objs.size s.heap h'→wpAny (model prog w) A (assignInOrder ((assignEach elts env).map (·.2)) items.toList) Q E { s with heap:=h' }) :
  wpAny (model prog w) A (assign (.Tuple elts x1 pos) env (.ref l)) Q E s:=by
 rw [assign_Tuple]
 refine wpAny_bind (wpAny_standAt ?_)
 unfold unpack
 rw [hn,hstar]
 exact wpAny_bind (wpAny_holding (dO hh ht h))
end
section
variable {X:Cx} {pos:Pos}
def Af (K:PySem.W.Frag) (n:Nat) (t:TGs):TG:=fun v σ H Q=>∃a xs,v=.ref a∧(SqL K H a xs∨SqT K H a xs)∧xs.length=n∧t xs σ H Q
theorem jh {es:List Expr} {k:Nat} {t:TGs} {n:Nat} (hc:X.calm=true) (h:PGs X es t)
  (hn:(assignEach es X.env).length=n:=by rfl) (hst:(assignEach es X.env).findIdx? (·.1)=none:=by rfl):PG X (.Tuple es k pos) (Af X.K n t):=by
 intro pins s σ H v u Q I r hw
 obtain ⟨a,xs,e1,hq,hl,hw⟩:=hw
 rcases hq with hq | hq
 ·subst e1
  cases r
  obtain ⟨its,rv,ht,hz⟩:=I.list hq
  refine dB (I.ok.hd hc) ht.isList (by simp [hn,← hl,rv.length]) hst fun h' hx=>?_
  have I1:Inv X pins σ H { s with heap:=h' }:=I.kept (t':=s.toks) fun b o e=>hx b o (Nat.ne_of_lt (Heap.lt_size e)) e
  exact h pins _ σ H xs _ Q I1 (by simpa using rv) hw
 ·exact br hc h hn hst pins s σ H v u Q I r ⟨a,xs,e1,hq,hl,hw⟩
end
def Itz (l1 l2:Addr):It :=
  ⟨fun i H=>∃xs ys x y,H l1=some (.lst xs)∧H l2=some (.lst ys)∧xs[i]? = some x∧ys[i]? = some y,
   fun i H v H'=>∃p xs ys x y,H p=none∧v=.ref p∧H'=upd H p (.tup [x,y])∧H l1=some (.lst xs)∧H l2=some (.lst ys)∧xs[i]? = some x∧ys[i]? = some y,
   fun i H=>∃xs ys,H l1=some (.lst xs)∧H l2=some (.lst ys)∧(xs.length≤i∨ys.length≤i)⟩
section
variable {X:Cx}
theorem Inv.turnedN {pins:List (Addr×Obj)} {σ:St} {H:Hp} {s:Shared} {h':Heap} {t':Nat} {ch:List Addr} (I:Inv X pins σ H s) (hf:∀b∈ch,dI X pins H b) (k:∀b o,b∉ch→s.heap.get? b=some o→h'.get? b=some o):Inv X pins σ H { s with heap:=h',toks:=t' }:=by
 have hLc:X.env.locals∉ch:=fun z=>(hf _ z).2.1 rfl
 have nt:∀b u,H b=some u→b∉ch:=fun b u e z=>by rw [(hf b z).1] at e; cases e
 refine I.step (g':=s.gens) (d':=s.drawn) (ch:=ch) (fun b hb=>⟨(hf b hb).2.2.2.1,(hf b hb).2.1,(hf b hb).2.2.2.2.1,(hf b hb).2.2.2.2.2⟩) (fun b o _ _ hc e _=>k b o hc e) (fun b o _ _ hc e _=>⟨o.slots,k b o hc e⟩) (fun _ _ _ _ n=>n)
  (fun b o hc e=>⟨o,k b o hc e⟩) (fun _ _ e=>e) (fun _ _ _ e=>e) (fun b ps e=>⟨#[],by rw [e]; simp⟩) (fun m hm=>?_) (fun b u e=>?_) I.bare
 ·obtain ⟨o,es,ep,ho,r⟩:=hm
  exact ⟨o,es,ep,k _ o hLc ho,r⟩
 ·refine (I.hok b u e).stay (fun c v hc q=>k c v ?_ q) (fun _ q=>q) fun _ _ q=>q
  rcases hc with z | z
  ·rw [z]; exact nt b u e
  ·exact nt c _ z
theorem Inv.track {pins:List (Addr×Obj)} {σ:St} {H:Hp} {s:Shared} {a:Addr} {o:HO} (I:Inv X pins σ H s) (hf:dI X pins H a) (fa:X.s₀.heap.objs.size≤a) (new:ObjOk X.prog X.w (upd H a o) s.heap a o):Inv X pins σ (upd H a o) s:=by
 obtain ⟨f0,f1,f2,f3,f4,f5⟩:=hf
 have s0:∀b o,X.s₀.heap.get? b=some o→b≠a:=fun b o e=>Nat.ne_of_lt (Nat.lt_of_lt_of_le (Heap.lt_size e) fa)
 refine ⟨I.ok,I.os,I.bare,⟨I.base.keep,I.base.slot,fun b o e n hx=>?_,I.base.there,fun b xs e=>?_,fun b o u e=>?_,fun b ps e=>?_⟩,I.loc,I.cell,?_,fun x c e=>?_,fun p hp=>?_,I.hok.add f0 new,I.len⟩
 ·rw [az (s0 b o e)]; exact I.base.free b o e n hx
 ·have q:=I.base.tups b xs e
  rw [az (aj q f0)]; exact q
 ·have q:=I.base.frzs b o u e
  rw [az (aj q f0)]; exact q
 ·obtain ⟨more,q⟩:=I.base.tbls b ps e
  exact ⟨more,by rw [az (aj q f0)]; exact q⟩
 ·rw [az (Ne.symm f1)]; exact I.free
 ·rw [az (f4 x c e)]; exact I.freeC x c e
 ·obtain ⟨e,n,r⟩:=I.pin p hp
  exact ⟨e,by rw [az (f5 p hp)]; exact n,r⟩
end
structure ZipAp (z TI TO i1 i2:Addr):Prop where
 nd:[z,TI,TO,i1,i2].Nodup
theorem mM {P:Program} {w:World} {K:PySem.W.Frag} {es:List Expr} {kk:Nat} {tp:Pos} (l1 l2 z TI TO i1 i2:Addr) (D:ZipAp z TI TO i1 i2) :
  Turn P w K (.Tuple es kk tp) (Itz l1 l2) [z,TI,TO,i1,i2] z (fun i h=>IsZip h z TI TO .none∧IsPair h TI (.ref i1) (.ref i2)∧(∃a b,IsPair h TO a b)∧h.IsListIter i1 l1 i∧h.IsListIter i2 l2 i) where
 mem:=by simp
 obj:=fun i h st b hb=>by
  obtain ⟨a1,a2,⟨x,y,a3⟩,⟨o4,a4,_,d4⟩,⟨o5,a5,_,d5⟩⟩:=st
  simp only [List.mem_cons,List.not_mem_nil,or_false] at hb
  rcases hb with rfl | rfl | rfl | rfl | rfl
  ·exact ⟨_,a1,fun v q=>by cases q⟩
  ·exact ⟨_,a2,fun v q=>by cases q⟩
  ·exact ⟨_,a3,fun v q=>by cases q⟩
  ·exact ⟨_,a4,fun v q=>by rw [d4] at q; cases q⟩
  ·exact ⟨_,a5,fun v q=>by rw [d5] at q; cases q⟩
 keep:=fun i h h' st k=>by
  obtain ⟨a1,a2,⟨x,y,a3⟩,a4,a5⟩:=st
  exact ⟨k z (by simp) _ a1,k TI (by simp) _ a2,⟨x,y,k TO (by simp) _ a3⟩,a4.at fun o e=>k i1 (by simp) o e,a5.at fun o e=>k i2 (by simp) o e⟩
 item:=by
  intro X hP hw hK hc i pins s σ H E I hf st hg
  subst hP hw hK
  obtain ⟨a1,a2,⟨x0,y0,a3⟩,a4,a5⟩:=st
  obtain ⟨xs,ys,x,y,e1,e2,ex,ey⟩:=hg
  have tr:∀ {l:Addr} {zs:List V},H l=some (.lst zs)→∀b∈[z,TI,TO,i1,i2],l≠b:=fun e b hb q=>by rw [q,(hf b hb).1] at e; cases e
  have nd:=D.nd
  simp only [List.nodup_cons,List.mem_cons,List.not_mem_nil,or_false,not_or,List.nodup_nil,and_true,not_false_eq_true] at nd
  obtain ⟨⟨n1,n2,n3,n4⟩,⟨n5,n6,n7⟩,⟨n8,n9⟩,n10⟩:=nd
  have A':ZipApart z TI TO i1 i2 l1 l2:=⟨Ne.symm n1,Ne.symm n2,Ne.symm n3,Ne.symm n4,n5,n6,n7,n8,n9,n10,tr e1 z (by simp),tr e1 TO (by simp),tr e1 i1 (by simp),tr e1 i2 (by simp),tr e2 z (by simp),tr e2 TO (by simp),tr e2 i1 (by simp),tr e2 i2 (by simp)⟩
  obtain ⟨its1,rv1,p1,_⟩:=I.list (SqL.of e1)
  obtain ⟨its2,rv2,p2,_⟩:=I.list (SqL.of e2)
  obtain ⟨u1,hu1,r1⟩:=rv1.get ex
  obtain ⟨u2,hu2,r2⟩:=rv2.get ey
  refine wpAny_pyNext_zip_item A' a1 a2 a3 a4 a5 p1.isList p2.isList (x:=u1) (y:=u2) (by simpa using hu1) (by simpa using hu2) fun h' b1 b2 b3 b4 b5 b6 bk=>⟨_,rfl,?_⟩
  refine wpAny_letOwnedTupleGo_zip b1 fun h'' c1 cs=>?_
  have zs:z < s.heap.objs.size:=Heap.lt_size a1
  have k2:∀b o,b∉[z,TI,TO,i1,i2]→s.heap.get? b=some o→h''.get? b=some o:=fun b o hb e=>by
   simp only [List.mem_cons,List.not_mem_nil,or_false,not_or] at hb
   exact cs.extBut b o hb.1 (bk b o hb.1 hb.2.2.1 hb.2.2.2.1 hb.2.2.2.2 e)
  have I1:Inv X pins σ H { s with heap:=h'' }:=I.turnedN (t':=s.toks) hf k2
  have hp:h''.get? s.heap.objs.size=some { cls:=.type "tuple", data:=.seq #[u1, u2] }:=cs.extBut _ _ (Nat.ne_of_gt zs) b5
  have hn:H s.heap.objs.size=none:=I.hok.fresh (Nat.le_refl _)
  have fpk:=I.fpOk (H':=H) (Nat.le_refl _) hn
  have I2:Inv X pins σ (upd H s.heap.objs.size (.tup [x,y])) { s with heap:=h'' }:=I1.track fpk I.sz ⟨by show 2≤sizeLine; decide,[u1,u2],.cons r1 (.cons r2 .nil),_,hp,rfl,_,rfl⟩
  refine ⟨.ref s.heap.objs.size,_,I2,rfl,⟨_,xs,ys,x,y,hn,rfl,rfl,e1,e2,ex,ey⟩,⟨c1,?_,⟨u1,u2,cs.extBut _ _ (Ne.symm n2) b2⟩,b3.extBut cs.extBut (Ne.symm n3),b4.extBut cs.extBut (Ne.symm n4)⟩,fun b hb=>?_⟩
  ·exact cs.extBut _ _ (Ne.symm n1) (bk _ _ (Ne.symm n1) n5 n6 n7 a2)
  ·have hbl:b < s.heap.objs.size:=by
    simp only [List.mem_cons,List.not_mem_nil,or_false] at hb
    obtain ⟨o4,a4',_⟩:=a4
    obtain ⟨o5,a5',_⟩:=a5
    rcases hb with rfl | rfl | rfl | rfl | rfl
    ·exact zs
    ·exact Heap.lt_size a2
    ·exact Heap.lt_size a3
    ·exact Heap.lt_size a4'
    ·exact Heap.lt_size a5'
   rw [az (Nat.ne_of_lt hbl)]
   exact (hf b hb).1
 done:=by
  intro X hP hw hK hc i pins s σ H E I hf st hg
  subst hP hw hK
  obtain ⟨a1,a2,⟨x0,y0,a3⟩,a4,a5⟩:=st
  obtain ⟨xs,ys,e1,e2,ex⟩:=hg
  have tr:∀ {l:Addr} {zs:List V},H l=some (.lst zs)→∀b∈[z,TI,TO,i1,i2],l≠b:=fun e b hb q=>by rw [q,(hf b hb).1] at e; cases e
  have nd:=D.nd
  simp only [List.nodup_cons,List.mem_cons,List.not_mem_nil,or_false,not_or,List.nodup_nil,and_true,not_false_eq_true] at nd
  obtain ⟨⟨n1,n2,n3,n4⟩,⟨n5,n6,n7⟩,⟨n8,n9⟩,n10⟩:=nd
  have A':ZipApart z TI TO i1 i2 l1 l2:=⟨Ne.symm n1,Ne.symm n2,Ne.symm n3,Ne.symm n4,n5,n6,n7,n8,n9,n10,tr e1 z (by simp),tr e1 TO (by simp),tr e1 i1 (by simp),tr e1 i2 (by simp),tr e2 z (by simp),tr e2 TO (by simp),tr e2 i1 (by simp),tr e2 i2 (by simp)⟩
  obtain ⟨its1,rv1,p1,_⟩:=I.list (SqL.of e1)
  obtain ⟨its2,rv2,p2,_⟩:=I.list (SqL.of e2)
  have l1':=rv1.length
  have l2':=rv2.length
  refine wpAny_pyNext_zip_end (I.ok.hd hc) A' a1 a2 a3 a4 a5 p1.isList p2.isList (by rcases ex with q | q; exact .inl (by simp; omega); exact .inr (by simp; omega)) fun h' bk=>⟨rfl,?_⟩
  exact I.turnedN (t':=s.toks) hf fun b o hb e=>by
   simp only [List.mem_cons,List.not_mem_nil,or_false,not_or] at hb
   exact bk b o hb.1 hb.2.2.1 hb.2.2.2.1 hb.2.2.2.2 e
 self:=fun _ _ _ _ _ st h=>wpAny_pyIter_zip st.1 h
def Ag (ta:TA):TI:=fun σ H R=>ta σ H fun vs H1=>∃l1 l2 xs ys,vs=[.ref l1,.ref l2]∧H1 l1=some (.lst xs)∧H1 l2=some (.lst ys)∧R (Itz l1 l2) H1
theorem ji {X:Cx} {a b:Expr} {ta:TA} {p pos tp:Pos} {es:List Expr} {kk:Nat} (hg:Gl X "zip") (hm:X.mg "zip" = none) (ha:PA X [a,b] ta)
  (hs:starEach [a,b] X.env=[(false,eval a X.env),(false,eval b X.env)]:=by rfl) (hs2:starEach [b] X.env=[(false,eval b X.env)]:=by rfl) :
  PI X (.Tuple es kk tp) (.Call (.Name "zip" p) [a,b] [] pos) (Ag ta):=by
 intro pins s σ H R I h
 refine Call_ (du I hg hm PyProof.Rows.boot_zip (PyProof.Rows.callWith_type1 (thn (ha pos pins s σ H _ I h) fun us s1 ⟨vs,H1,I1,r1,q1⟩=>?_) (by rw [hs,hs2]) (by rw [hs2]; rfl)))
 obtain ⟨l1,l2,xs,ys,rfl,e1,e2,q⟩:=q1
 cases r1 with
 | cons r rr =>
  cases rr with
  | cons r' rr =>
   cases rr
   cases r
   cases r'
   obtain ⟨its1,rv1,p1,_⟩:=I1.list (SqL.of e1)
   obtain ⟨its2,rv2,p2,_⟩:=I1.list (SqL.of e2)
   refine call_zip_2 p1.isList p2.isList fun h' z1 z2 z3 z4 z5 sz keep=>?_
   have I2:Inv X pins σ H1 { s1 with heap:=h' }:=I1.kept (t':=s1.toks) keep
   refine wpAny_pyIter_zip z1 ⟨s1.heap.objs.size + 4,[s1.heap.objs.size + 4,s1.heap.objs.size + 2,s1.heap.objs.size + 3,s1.heap.objs.size,s1.heap.objs.size + 1],_,_,H1,rfl,I2,mM l1 l2 _ _ _ _ _ ⟨by simp⟩,⟨z1,z2,⟨_,_,z3⟩,z4,z5⟩,fun b hb=>?_,q⟩
   have hb':s1.heap.objs.size≤b:=by
    simp only [List.mem_cons,List.not_mem_nil,or_false] at hb
    rcases hb with rfl | rfl | rfl | rfl | rfl <;> omega
   exact I1.fpOk hb' (I1.hok.fresh hb')
end L2
set_option Elab.async false
set_option linter.all false
set_option maxRecDepth 100000
namespace L2
open PySem PySem.Spec PyProof.Rows
def Dn (P:Program) (w:World) (K:PySem.W.Frag) (mg:Str→Option Value) (base:Heap) (x:Str) (ps:List Str) (k:Nat) (sp:Sp):Prop :=
 ∃ (f:Addr) (fd:FuncData),FnOk P w K mg base CX0 k f fd ps sp∧Binds K fd ps []∧PySem.W.keepIn K (.ref f)=true∧mg x=some (.ref f)
theorem aw {X:Cx} {k:Nat} {ps:List Str} {sp:Sp} {x:Str} {p pos:Pos} {e:Expr} {es:List Expr} {t:TA} (D:Dn X.prog X.w X.K X.mg X.base x ps k sp) (hr:Room k X.A) (hg:Gl X x) (ha:PA X (e :: es) t)
  (hdb:(x == ("__debug__" : Str))=false:=by decide) (he:starEach (e :: es) X.env=(false,eval e X.env) :: starEach es X.env:=by rfl) (hpl:(backTo pos (starEach es X.env)).any (·.1)=false:=by rfl) :
  PE X (.Call (.Name x p) (e :: es) [] pos) (pX sp [] E0 t):=by
 obtain ⟨f,fd,F,hb,hk,hm⟩:=D
 exact oz F hr hg hm hk hb .nil ke ha hdb he hpl
def kf (sc:Scope) (N:List Str) (scope:Scope) (own cs:List Str) (cap:List Nat):Bool :=
 decide (scope.kind=.function) && scope.names.all (fun y=>decide (y.2≠.cell)) && scope.names.all (fun y=>decide (y.2=.local→scope.names.lookup y.1=some .local)) &&
 scope.names.all (fun y=>decide (y.2=.free→sc.names.lookup y.1=some .cell∨sc.names.lookup y.1=some .free)) && own.all (fun y=>decide (scope.names.lookup y=some .local)) &&
 decide (cs.length=cap.length) && (cs.zip cap).all (fun y=>decide (N[y.2]? = some y.1) && decide ((y.1,NameKind.free)∈scope.names)) && scope.names.all (fun y=>decide (y.2=.free→scope.names.lookup y.1≠some .local))
theorem aL {X:Cx} {sc:Scope} {N:List Str} {scope:Scope} {own cs:List Str} {cap:List Nat} (h1:X.env.scope=sc) (h2:X.N=N) (h:kf sc N scope own cs cap=true):CompOk X scope own cs cap:=by
 subst h1 h2
 unfold kf at h
 simp only [Bool.and_eq_true,List.all_eq_true,decide_eq_true_eq] at h
 obtain ⟨⟨⟨⟨⟨⟨⟨a1,a2⟩,a3⟩,a4⟩,a5⟩,a6⟩,a7⟩,a8⟩:=h
 refine ⟨a1,a2,a3,a4,fun i y e=>?_,a5,a6,fun y hy e=>a8 _ hy rfl e⟩
 have hi:i < cs.length:=(List.getElem?_eq_some_iff.mp e).1
 have hj:i < cap.length:=by rw [← a6]; exact hi
 refine ⟨cap[i],List.getElem?_eq_getElem hj,?_⟩
 have hm:(y,cap[i])∈cs.zip cap:=by
  have:(cs.zip cap)[i]? = some (y,cap[i]):=by
   rw [List.getElem?_zip_eq_some]
   exact ⟨e,List.getElem?_eq_getElem hj⟩
  exact List.mem_of_getElem? this
 exact a7 _ hm
theorem aU {σ:St} {H:Hp} {A B:Hp→Prop} (h:A H):uf σ H (fun ok H3=>if ok=true then A H3 else B H3):=by
 show (if (true:Bool)=true then A H else B H)
 rw [if_pos rfl]
 exact h
section
variable {X:Cx} {tg:Expr}
def qH (K:PySem.W.Frag) (tl:TE):TI:=fun σ H R=>pT K tl σ H R∨tS K tl σ H R
theorem fw {l:Expr} {tl:TE} (hl:PE X l tl):PI X tg l (qH X.K tl):=by
 intro pins s σ H R I h
 rcases h with h | h
 ·exact bc hl pins s σ H R I h
 ·exact qt hl pins s σ H R I h
end
def aV:List String:=["NoneType","bool","int","str","list","tuple","dict"]
theorem oI {K:PySem.W.Frag}:∀T∈aV,PySem.W.kitOne K (.type T) (.type "int")=some (T == "int" || T == "bool"):=by
 intro T h
 simp only [aV,List.mem_cons,List.not_mem_nil,or_false] at h
 rcases h with rfl | rfl | rfl | rfl | rfl | rfl | rfl <;> kernel_rfl
theorem iu {K:PySem.W.Frag}:∀T∈aV,PySem.W.kitOne K (.type T) (.type "bool")=some (T == "bool"):=by
 intro T h
 simp only [aV,List.mem_cons,List.not_mem_nil,or_false] at h
 rcases h with rfl | rfl | rfl | rfl | rfl | rfl | rfl <;> kernel_rfl
theorem mN {K:PySem.W.Frag}:∀T∈aV,PySem.W.kitOne K (.type T) (.type "list")=some (T == "list"):=by
 intro T h
 simp only [aV,List.mem_cons,List.not_mem_nil,or_false] at h
 rcases h with rfl | rfl | rfl | rfl | rfl | rfl | rfl <;> kernel_rfl
theorem kR {K:PySem.W.Frag}:∀T∈aV,PySem.W.kitOne K (.type T) (.type "tuple")=some (T == "tuple"):=by
 intro T h
 simp only [aV,List.mem_cons,List.not_mem_nil,or_false] at h
 rcases h with rfl | rfl | rfl | rfl | rfl | rfl | rfl <;> kernel_rfl
theorem oJ {K:PySem.W.Frag}:∀T∈aV,PySem.W.kitAny K (.type T) [.type "list",.type "tuple"]=some (T == "list" || T == "tuple"):=by
 intro T h
 have h1:=mN (K:=K) T h
 have h2:=kR (K:=K) T h
 unfold PySem.W.kitAny
 rw [h1]
 cases e:(T == "list") with
 | true=>rfl
 | false =>
  show PySem.W.kitAny K (.type T) [.type "tuple"]=_
  unfold PySem.W.kitAny
  rw [h2]
  cases e2:(T == "tuple") <;> rfl
def Ty (K:PySem.W.Frag) (H:Hp) (x:V) (T:String):Prop:=T∈aV∧TyOf K H x (.type T)
theorem Ty.int {K:PySem.W.Frag} {H:Hp} {i:Int}:Ty K H (.int i) "int" := ⟨by simp [aV],.int i⟩
theorem Ty.bl {K:PySem.W.Frag} {H:Hp} {b:Bool}:Ty K H (.bl b) "bool" := ⟨by simp [aV],.bl b⟩
theorem Ty.non {K:PySem.W.Frag} {H:Hp}:Ty K H .non "NoneType" := ⟨by simp [aV],.non⟩
theorem Ty.str {K:PySem.W.Frag} {H:Hp} {x:Str}:Ty K H (.str x) "str" := ⟨by simp [aV],.str x⟩
theorem Ty.lst {K:PySem.W.Frag} {H:Hp} {a:Addr} {xs:List V} (e:H a=some (.lst xs)):Ty K H (.ref a) "list" := ⟨by simp [aV],.lst e⟩
theorem Ty.tup {K:PySem.W.Frag} {H:Hp} {a:Addr} {xs:List V} (e:H a=some (.tup xs)):Ty K H (.ref a) "tuple" := ⟨by simp [aV],.tup e⟩
theorem Ty.dK {K:PySem.W.Frag} {H:Hp} {a:Addr} {xs:List (Key×V)} (e:H a=some (.dK xs)):Ty K H (.ref a) "dict" := ⟨by simp [aV],.dK e⟩
def aQ:V→Int→Bool
 | .int i,l=>decide (l≤i)
 | _,_=>false
def kS:V→Bool
 | .bl _=>true
 | _=>false
theorem qI {K:PySem.W.Frag} {H:Hp} {x:V} {T:String} (t:TyOf K H x (.type T)) (h:T∈aV):(T == "int")=true→∃i,x=.int i:=by
 intro e
 have e':T = "int" := by simpa using e
 subst e'
 generalize hv:Value.type "int" = tv at t
 cases t with
 | int i=>exact ⟨i,rfl⟩
 | _=>exact absurd hv (by simp)
theorem kg {K:PySem.W.Frag} {H:Hp} {x:V} {T:String} (t:TyOf K H x (.type T)):(T == "bool")=kS x:=by
 generalize hv:Value.type T=tv at t
 cases t with
 | bl b=>cases hv; rfl
 | non=>cases hv; rfl
 | int i=>cases hv; rfl
 | str i=>cases hv; rfl
 | flt i=>cases hv; rfl
 | lst i=>cases hv; rfl
 | frz i=>cases hv; rfl
 | tup i=>cases hv; rfl
 | dK i=>cases hv; rfl
 | dT i=>cases hv; rfl
 | ins=>cases hv
end L2
namespace Pc
open PySem L2
structure Pot (a b:Int):Prop where
 a0:0≤a
 b0:0≤b
 b1:b < 2147483629
def But (p:Addr) (H H':Hp):Prop:=∀b o,b≠p→H b=some o→H' b=some o
theorem But.trans {p:Addr} {H H1 H2:Hp} (a:But p H H1) (b:But p H1 H2):But p H H2:=fun c o n e=>b c o n (a c o n e)
theorem But.upd {p:Addr} {H:Hp} {o:HO}:But p H (upd H p o):=fun b u n e=>by rw [az n]; exact e
theorem But.new {p q:Addr} {H:Hp} {o:HO} (h:H q=none):But p H (L2.upd H q o):=fun b u n e=>by rw [az (aj e h)]; exact e
structure Kd where
 w:Int
 h:Int
 wo:Int
 wa:Int
 tu:Bool
def kdV (k:Kd):List V:=[.int k.w,.int k.h,.int k.wo,.int k.wa,.bl k.tu]
structure Good (k:Kd):Prop where
 w:1≤k.w
 h:1≤k.h
 wo:0≤k.wo
 wa:0≤k.wa
 w':k.w < 10 ^ 60
 h':k.h < 10 ^ 60
 wo':k.wo < 10 ^ 60
 wa':k.wa < 10 ^ 60
def pZ (H:Hp) (v:V) (k:Kd):Prop:=∃a,v=.ref a∧H a=some (.tup (kdV k))
def ug (H:Hp) (v:V) (k:Kd):Prop:=∃a,v=.ref a∧H a=some (.lst (kdV k))
def RowAt (H:Hp) (v:V) (k:Kd):Prop:=pZ H v k∨ug H v k
abbrev Tups (H:Hp):List V→List Kd→Prop:=Paired (pZ H)
theorem Tups.keep {H H':Hp} (k:∀b xs,H b=some (.tup xs)→H' b=some (.tup xs)):∀ {xs:List V} {ks:List Kd},Tups H xs ks→Tups H' xs ks:=fun r =>
 Paired.mapP r fun v kd ⟨a,e,h⟩=>⟨a,e,k a _ h⟩
structure ToldAt (H:Hp) (t l:Addr) (bl:Int) (xs:List V) (ks:List Kd):Prop where
 t:H t=some (.tup [.int bl,.ref l])
 l:H l=some (.lst xs)
 r:Tups H xs ks
 b0:0≤bl
 b1:bl < 10 ^ 60
 g:∀k∈ks,Good k
 n0:1≤xs.length
 n1:xs.length≤8
def cJ (K:PySem.W.Frag):Sp:=fun vs H Q _=>∃ (x:V) (T:String) (l:Int),vs=[x,.int l]∧Ty K H x T∧Q (.bl (aQ x l)) H
def eV (K:PySem.W.Frag):Sp:=fun vs H Q _=>∃ (x:V) (T:String),vs=[x]∧Ty K H x T∧Q (.bl (kS x)) H
def gm (K:PySem.W.Frag):Sp:=fun vs H Q _=>∃ (x:V) (T:String), vs=[x]∧Ty K H x T∧∀H', Same H H'→Q (.bl (T == "list" || T == "tuple")) H'
def gn:List V→Bool
 | [w,h,wo,wa,tu]=>aQ w 1 && aQ h 1 && aQ wo 0 && aQ wa 0 && kS tu
 | _=>false
def dP (K:PySem.W.Frag):Sp:=fun vs H Q _=>∃ (x:V) (T:String),vs=[x]∧Ty K H x T ∧ 
 ((T ≠ "list" ∧ T ≠ "tuple" ∧ ∀H', Same H H'→Q (.bl false) H')∨∃ (a:Addr) (xs:List V), x=.ref a∧(H a=some (.lst xs)∨H a=some (.tup xs))∧(∀y∈xs, ∃U, Ty K H y U)∧∀H', Same H H'→Q (.bl (gn xs)) H')
theorem fz {k:Kd} (g:Good k):gn (kdV k)=true:=by
 show (decide (1≤k.w) && decide (1≤k.h) && decide (0≤k.wo) && decide (0≤k.wa) && true)=true
 rw [decide_eq_true g.w,decide_eq_true g.h,decide_eq_true g.wo,decide_eq_true g.wa]
 rfl
theorem Ty.same {K:PySem.W.Frag} {H H':Hp} {x:V} {T:String} (s:Same H H') (t:Ty K H x T):Ty K H' x T:=by
 refine ⟨t.1,?_⟩
 have t2:=t.2
 generalize hv:Value.type T=tv at t2 ⊢
 cases t2 with
 | non=>exact .non
 | bl b=>exact .bl b
 | int b=>exact .int b
 | str b=>exact .str b
 | flt b=>exact .flt b
 | lst e=>exact .lst (s _ _ e)
 | frz e=>exact .frz (s _ _ e)
 | tup e=>exact .tup (s _ _ e)
 | dK e=>exact .dK (s _ _ e)
 | dT e=>exact .dT (s _ _ e)
 | ins=>cases hv
end Pc
set_option Elab.async false
set_option linter.all false
set_option maxRecDepth 100000
namespace L2
open PySem PySem.Spec PyProof.Rows
def iw (K:PySem.W.Frag):List V→Hp→VK→Prop:=fun xs H Q=>∃p ys,xs=[V.ref p]∧((SqL K H p ys∧∀l,H l=none→Q (.ref l) (upd H l (.tup ys)))∨(SqT K H p ys∧Q (.ref p) H))
theorem mO {K:PySem.W.Frag} {j:Nat} {a:Addr} {xs:List V} {g:TG} {tb:TS} {D:Ends} {σ:St} {H:Hp} (hσ:σ[j]? = some (some (.ref a))) (hs:H a=some (.lst xs)∨H a=some (.tup xs)) (Pv:Nat→St→Hp→Prop) (h0:Pv 0 σ H)
  (hk:∀i σ H',i≤xs.length→Pv i σ H'→∀o,H a=some o→H' a=some o)
  (ht:∀i x σ H,xs[i]? = some x→Pv i σ H→g x σ H fun σ2 H2=>tb { D with nx:=Pv (i + 1),ct:=Pv (i + 1),bk:=D.nx } σ2 H2) (hd:∀σ H,Pv xs.length σ H→D.nx σ H):tU (qH K (oj j)) g tb D σ H:=by
 rcases hs with z | z
 ·exact .inl ⟨_,hσ,a,rfl,⟨xs,SqL.of z⟩,dJ (xs:=xs) Pv h0 (fun i σ H' hi p=>SqL.of (hk i σ H' hi p _ z)) ht hd⟩
 ·exact .inr ⟨_,hσ,a,rfl,⟨xs,SqT.of z⟩,om (xs:=xs) Pv h0 (fun i σ H' hi p=>SqT.of (hk i σ H' hi p _ z)) ht hd⟩
def Nx (n:Nat) (Pv:Nat→List V→Hp→Prop) (i:Nat) (ys:List V) (H:Hp):Prop:=∃m',m' < n - i∧m'=n - (i + 1)∧i + 1≤n∧Pv (i + 1) ys H
theorem Nx.of {n:Nat} {Pv:Nat→List V→Hp→Prop} {i:Nat} {ys:List V} {H:Hp} (h:i < n) (p:Pv (i + 1) ys H):Nx n Pv i ys H:=⟨n - (i + 1),by omega,rfl,h,p⟩
theorem bg {K:PySem.W.Frag} {a:Addr} {xs:List V} {σ:St} {cap:List Nat} {k:Nat} {g:TG} {tt:TT} {te:TE} {Q:List V→Hp→Prop} {H:Hp} (hs:H a=some (.lst xs)∨H a=some (.tup xs)) (Pv:Nat→List V→Hp→Prop)
  (hk:∀i ys H',i≤xs.length→Pv i ys H'→∀o,H a=some o→H' a=some o) (h0:Pv 0 [] H)
  (ht:∀i x ys H',xs[i]? = some x→Pv i ys H'→ys.length < sizeLine∧g x (bG σ cap k) H' fun σ2 H2=>leS (bG σ cap k) σ2∧tt σ2 H2 fun ok H3=>if ok=true then te σ2 H3 (fun v H4=>Nx xs.length Pv i (ys ++ [v]) H4) else Nx xs.length Pv i ys H3)
  (hd:∀ys H',Pv xs.length ys H'→ys.length≤sizeLine∧Q ys H') :
  (H a=some (.lst xs)→∃W,(∃m,W 0 m [] H)∧gj σ cap k (Itl K a) g tt te Q W)∧(H a=some (.tup xs)→∃W,(∃m,W 0 m [] H)∧gj σ cap k (Itt K a) g tt te Q W):=by
 refine ⟨fun z=>⟨fun i m ys H'=>m=xs.length - i∧i≤xs.length∧Pv i ys H',⟨_,rfl,Nat.zero_le _,h0⟩,?_⟩,fun z=>⟨fun i m ys H'=>m=xs.length - i∧i≤xs.length∧Pv i ys H',⟨_,rfl,Nat.zero_le _,h0⟩,?_⟩⟩
 ·rintro i m ys H' ⟨rfl,hi,p⟩
  have z':=hk i ys H' hi p _ z
  by_cases hin:i < xs.length
  ·obtain ⟨e,hg⟩:=ht i xs[i] ys H' (by simp [hin]) p
   refine .inr ⟨⟨xs,xs[i],SqL.of z',by simp [hin]⟩,e,fun x H2 yl=>?_⟩
   obtain ⟨e1,e2⟩:=yl
   have e3:=e2 xs (SqL.of z')
   have e4:x=xs[i]:=by simpa [hin] using e3.symm
   subst e1 e4
   exact hg
  ·have e:i=xs.length:=by omega
   subst e
   obtain ⟨a1,a2⟩:=hd ys H' p
   exact .inl ⟨⟨xs,SqL.of z',Nat.le_refl _⟩,a1,a2⟩
 ·rintro i m ys H' ⟨rfl,hi,p⟩
  have z':=hk i ys H' hi p _ z
  by_cases hin:i < xs.length
  ·obtain ⟨e,hg⟩:=ht i xs[i] ys H' (by simp [hin]) p
   refine .inr ⟨⟨xs,xs[i],SqT.of z',by simp [hin]⟩,e,fun x H2 yl=>?_⟩
   obtain ⟨e1,e2⟩:=yl
   have e3:=e2 xs (SqT.of z')
   have e4:x=xs[i]:=by simpa [hin] using e3.symm
   subst e1 e4
   exact hg
  ·have e:i=xs.length:=by omega
   subst e
   obtain ⟨a1,a2⟩:=hd ys H' p
   exact .inl ⟨⟨xs,SqT.of z',Nat.le_refl _⟩,a1,a2⟩
theorem de {K:PySem.W.Frag} {j:Nat} {a:Addr} {xs:List V} {σ:St} {cap:List Nat} {k:Nat} {g:TG} {tt:TT} {te:TE} {Q:VK} {H:Hp} (hσ:σ[j]? = some (some (.ref a))) (hs:H a=some (.lst xs)∨H a=some (.tup xs)) (Pv:Nat→List V→Hp→Prop)
  (hk:∀i ys H',i≤xs.length→Pv i ys H'→∀o,H a=some o→H' a=some o) (h0:Pv 0 [] H)
  (ht:∀i x ys H',xs[i]? = some x→Pv i ys H'→ys.length < sizeLine∧g x (bG σ cap k) H' fun σ2 H2=>leS (bG σ cap k) σ2∧tt σ2 H2 fun ok H3=>if ok=true then te σ2 H3 (fun v H4=>Nx xs.length Pv i (ys ++ [v]) H4) else Nx xs.length Pv i ys H3)
  (hd:∀ys H',Pv xs.length ys H'→ys.length≤sizeLine∧∀p,H' p=none→Q (.ref p) (upd H' p (.lst ys))):mL (qH K (oj j)) cap k g tt te σ H Q:=by
 obtain ⟨c1,c2⟩:=bg (K:=K) (σ:=σ) (cap:=cap) (k:=k) (g:=g) (tt:=tt) (te:=te) hs Pv hk h0 ht hd
 rcases hs with z | z
 ·exact .inl ⟨_,hσ,a,rfl,⟨xs,SqL.of z⟩,c1 z⟩
 ·exact .inr ⟨_,hσ,a,rfl,⟨xs,SqT.of z⟩,c2 z⟩
end L2
namespace Pc
open PySem L2
def jj (b:Int) (r:Addr):List (Str×V):=cw "kind_rows" (.ref r) (cw "blade_width" (.int b) [])
theorem kbw:¬ (("blade_width" : Str) = "kind_rows"):=by decide +kernel
theorem jk (b:Int) (r:Addr):(jj b r).lookup ("blade_width" : Str)=some (.int b):=by
 unfold jj
 rw [bi,if_neg kbw,bi,if_pos rfl]
theorem eG (b:Int) (r:Addr):(jj b r).lookup ("kind_rows" : Str)=some (.ref r):=by
 unfold jj
 rw [bi,if_pos rfl]
theorem df (b:Int) (r:Addr) {m:Str} (h1:¬ m = "kind_rows") (h2:¬ m = "blade_width"):(jj b r).lookup m=none:=by
 unfold jj
 rw [bi,if_neg h1,bi,if_neg h2]
 all_goals rfl
def ShopAt (C:Addr) (H:Hp) (x:Addr) (b:Int) (ks:List Kd):Prop:=∃dx r rs,H x=some (.ins C dx (jj b r))∧H r=some (.tup rs)∧Tups H rs ks
theorem ShopAt.keep {C:Addr} {H H':Hp} {x:Addr} {b:Int} {ks:List Kd} (s:ShopAt C H x b ks) (k1:∀b xs,H b=some (.tup xs)→H' b=some (.tup xs)) (k2:∀b C dx fs,H b=some (.ins C dx fs)→H' b=some (.ins C dx fs)):ShopAt C H' x b ks:=by
 obtain ⟨dx,r,rs,h1,h2,h3⟩:=s
 exact ⟨dx,r,rs,k2 _ _ _ _ h1,k1 _ _ h2,Tups.keep k1 h3⟩
def eH (C:Addr):Sp:=fun vs H Q _=>∃ (x dx ks:Addr) (b:Int) (rs:List V) (kds:List Kd),vs=[.ref x,.int b,.ref ks]∧H x=some (.ins C dx [])∧0≤b∧(H ks=some (.lst rs)∨H ks=some (.tup rs))∧Paired (RowAt H) rs kds∧(∀k∈kds,Good k)∧1≤rs.length∧rs.length≤8 ∧
 ∀H':Hp,ShopAt C H' x b kds→(∀c o,c≠x→H c=some o→H' c=some o)→Q .non H'
def dQ (C:Addr):Sp:=fun vs H Q _=>∃ (x:Addr) (b:Int) (ks:List Kd),vs=[.ref x]∧ShopAt C H x b ks∧Q (.int b) H
theorem kh {K:PySem.W.Frag} {H:Hp} {k:Kd}:∀y∈kdV k,∃U,Ty K H y U:=by
 intro y hy
 simp only [kdV,List.mem_cons,List.not_mem_nil,or_false] at hy
 rcases hy with rfl | rfl | rfl | rfl | rfl
 ·exact ⟨_,.int⟩
 ·exact ⟨_,.int⟩
 ·exact ⟨_,.int⟩
 ·exact ⟨_,.int⟩
 ·exact ⟨_,.bl⟩
theorem Paired.getR {α β:Type} {F:α→β→Prop}:∀ {l₁:List α} {l₂:List β} {i:Nat} {x:α},Paired F l₁ l₂→l₁[i]? = some x→∃y,l₂[i]? = some y∧F x y
 | _,_,_,_,.nil,e=>by simp at e
 | _,_,0,_,.cons h _,e=>by simp at e; subst e; exact ⟨_,rfl,h⟩
 | _,_,i + 1,x,.cons _ t,e=>by
  obtain ⟨y,h1,h2⟩:=Paired.getR (i:=i) (x:=x) t (by simpa using e)
  exact ⟨y,by simpa using h1,h2⟩
theorem RowAt.same {H H':Hp} {v:V} {k:Kd} (s:Same H H') (r:RowAt H v k):RowAt H' v k:=by
 rcases r with ⟨a,e,h⟩ | ⟨a,e,h⟩
 ·exact .inl ⟨a,e,s _ _ h⟩
 ·exact .inr ⟨a,e,s _ _ h⟩
theorem kT {K:PySem.W.Frag} {H:Hp} {v:V} {k:Kd} {Q:VK} {E:XK} (r:RowAt H v k) (g:Good k) (q:∀H',Same H H'→Q (.bl true) H'):dP K [v] H Q E:=by
 rcases r with ⟨a,rfl,h⟩ | ⟨a,rfl,h⟩
 ·exact ⟨_,_,rfl,.tup h,.inr ⟨a,_,rfl,.inr h,kh,fun H' s=>by rw [fz g]; exact q H' s⟩⟩
 ·exact ⟨_,_,rfl,.lst h,.inr ⟨a,_,rfl,.inl h,kh,fun H' s=>by rw [fz g]; exact q H' s⟩⟩
structure ShopTxt (K:PySem.W.Frag) (C:Addr):Prop where
 cl:Cls K C
 nB:NoAttr K C "blade_width"
 nK:NoAttr K C "kind_rows"
end Pc
set_option Elab.async false
set_option linter.all false
set_option maxRecDepth 100000
namespace L2
open PySem PySem.Spec PyProof.Rows
def Mn (P:Program) (w:World) (K:PySem.W.Frag) (mg:Str→Option Value) (base:Heap) (C:Addr) (m:Str) (ps:List Str) (k:Nat) (sp:Sp):Prop :=
 ∃ (f:Addr) (fd:FuncData),FnOk P w K mg base CX0 k f fd ps sp∧Binds K fd ps []∧Meth K C m f
theorem mP {X:Cx} {k:Nat} {C:Addr} {ps:List Str} {sp:Sp} {m:Str} {o:Expr} {ta:TE} {apos pos:Pos} {pl:Sem Bool} (he:PE X o ta) (c:Cls X.K C) (D:Mn X.prog X.w X.K X.mg X.base C m ps k sp) (hr:Room k X.A)
  (ht:eval (.Call (.Attribute o m apos) [] [] pos) X.env=(do
   let ov←eval o X.env
   standAt apos.atName
   let (f,first)←holding [ov] (getMethod ov m pl)
   callWith pos f first (backTo pos (starEach [] X.env)) (backToKw pos (keywordEach [] X.env))):=by rfl):PE X (.Call (.Attribute o m apos) [] [] pos) (jW C m sp [] E0 ta kJ):=by
 obtain ⟨f,fd,F,hb,hm⟩:=D
 exact mF he c hm F hr hb .nil ke ht
def Kn (P:Program) (w:World) (K:PySem.W.Frag) (mg:Str→Option Value) (base:Heap) (x:Str) (C:Addr) (ps:List Str) (k:Nat) (sp:Sp):Prop :=
 ∃ (f:Addr) (fd:FuncData),Mk K C f∧FnOk P w K mg base CX0 k f fd ps sp∧Binds K fd ps []∧mg x=some (.ref C)
theorem gq {X:Cx} {k:Nat} {C:Addr} {ps:List Str} {sp:Sp} {x:Str} {p pos:Pos} {e:Expr} {es:List Expr} {t:TA} (D:Kn X.prog X.w X.K X.mg X.base x C ps k sp) (hr:Room (k + 1) X.A) (hg:Gl X x) (ha:PA X (e :: es) t)
  (hdb:(x == ("__debug__" : Str))=false:=by decide) (he:starEach (e :: es) X.env=(false,eval e X.env) :: starEach es X.env:=by rfl) (hpl:(backTo pos (starEach es X.env)).any (·.1)=false:=by rfl) :
  PE X (.Call (.Name x p) (e :: es) [] pos) (pY C sp [] E0 t):=by
 obtain ⟨f,fd,M,F,hb,hm⟩:=D
 exact oB M F hr hg hm hb .nil ke ha hdb he hpl
theorem oK {l1 l2:Addr} {xs ys:List V} {g:TG} {tb:TS} {D:Ends} {σ:St} {H:Hp} (Pv:Nat→St→Hp→Prop) (hn:xs.length=ys.length) (h0:Pv 0 σ H) (hk:∀i σ H',Pv i σ H'→H' l1=some (.lst xs)∧H' l2=some (.lst ys))
  (ht:∀i x y p σ H,xs[i]? = some x→ys[i]? = some y→H p=none→Pv i σ H→g (.ref p) σ (upd H p (.tup [x,y])) fun σ2 H2=>tb { D with nx:=Pv (i + 1),ct:=Pv (i + 1),bk:=D.nx } σ2 H2) (hd:∀σ H,Pv xs.length σ H→D.nx σ H) :
  ∃W:Nat→Nat→St→Hp→Prop,(∃m,W 0 m σ H)∧∀i m σ H,W i m σ H →
   ((Itz l1 l2).stop i H∧D.nx σ H)∨((Itz l1 l2).go i H∧∃N:St→Hp→Prop,(∀σ' H',N σ' H'→∃m',m' < m∧W (i + 1) m' σ' H')∧∀x H',(Itz l1 l2).yld i H x H'→g x σ H' fun σ2 H2=>tb { D with nx:=N,ct:=N,bk:=D.nx } σ2 H2):=by
 refine ⟨fun i m σ H=>m=xs.length - i∧i≤xs.length∧Pv i σ H,⟨xs.length,by simp,Nat.zero_le _,h0⟩,?_⟩
 rintro i m σ H ⟨rfl,hi,p⟩
 obtain ⟨e1,e2⟩:=hk i σ H p
 by_cases hlt:i < xs.length
 ·refine .inr ⟨⟨xs,ys,xs[i],ys[i]'(by omega),e1,e2,by simp [hlt],by simp [show i < ys.length by omega]⟩,Pv (i + 1),fun σ' H' p'=>⟨xs.length - (i + 1),by omega,rfl,hlt,p'⟩,fun v H' y=>?_⟩
  obtain ⟨q,xs',ys',x,y,hq,rfl,rfl,e1',e2',ex,ey⟩:=y
  rw [e1] at e1'; cases e1'
  rw [e2] at e2'; cases e2'
  exact ht i x y q σ H ex ey hq p
 ·have e:i=xs.length:=by omega
  subst e
  exact .inl ⟨⟨xs,ys,e1,e2,.inl (Nat.le_refl _)⟩,hd σ H p⟩
theorem kU (xs:List V) (k:Nat):bK xs none (some (k:Int))=xs.take k:=by
 unfold bK
 rw [HT.sIx_none,HT.sIx_nat]
 simp only [List.drop_zero,Nat.sub_zero]
 rcases Nat.le_total k xs.length with h | h
 ·rw [Nat.min_eq_left h]
 ·rw [Nat.min_eq_right h,List.take_of_length_le (Nat.le_refl _),List.take_of_length_le h]
end L2
namespace Pc
open PySem L2
theorem Same.but {p:Addr} {H H':Hp} (s:Same H H'):But p H H':=fun b o _ e=>s b o e
theorem Same.new {q:Addr} {H:Hp} {o:HO} (h:H q=none):Same H (upd H q o):=fun b u e=>by rw [az (aj e h)]; exact e
end Pc
set_option Elab.async false
set_option linter.all false
set_option maxRecDepth 100000
namespace PySem
open Sem (wp)
open AutoSeq1 (wpAny_loadPart')
section
variable {prog:Program} {w:World} {A:Around} {E:Value→Shared→Prop} {s:Shared}
theorem eS {it t:Addr} {i:Nat} {items} {x:Value} {Q:Value→Shared→Prop} (hit:s.heap.IsTupleIter it t i)
  (ht:s.heap.IsTuple t items) (hx:items[i]? = some x)
  (hQ:∀h',h'.IsTupleIter it t (i + 1)→Heap.SameBut it s.heap h'→Q x { s with heap:=h' }) :
  wpAny (model prog w) A (Builtin.SmallTypes.nextOf (.ref it)) Q E s:=by
 obtain ⟨o,ho,hc,hd⟩:=id hit
 obtain ⟨ol,hol,_,nl,hdl⟩:=ht
 unfold Builtin.SmallTypes.nextOf
 refine wpAny_bind (wpAny_callSpecial?_slot (name:=Str.ofString "__next__") hit.typeIs F.slot_tuple_iterator_next
  (wpAny_call_entry F.slot_tuple_iterator_next hit.typeIs F.entry_tuple_iterator_next ?_ (F.args_tuple_iterator_next_1 _)))
 show wpAny _ _ (field (.ref it) 0 >>= _) _ _ s
 refine wpAny_bind (wpAny_field ho hd (x:=.ref t) rfl ?_)
 show wpAny _ _ (if (Value.ref t == Value.none)=true then _ else _) _ _ s
 rw [if_neg (show ¬ ((Value.ref t == Value.none)=true) from Bool.false_ne_true)]
 show wpAny _ _ (field (.ref it) 1 >>= _) _ _ s
 refine wpAny_bind (wpAny_field ho hd (x:=.int i 0) rfl ?_)
 show wpAny _ _ (seqItems? (.ref t) >>= _) _ _ s
 refine wpAny_bind (wpAny_seqItems hol hdl ?_)
 simp only [Int.toNat_natCast,hx]
 refine wpAny_bind (wpAny_setField ho hd (by simp) (wpAny_pure ⟨x,rfl,wpAny_pure (hQ _ ?_ (Heap.SameBut.update ..))⟩))
 exact ⟨_,Heap.get?_update_self _ ho (Obj.isFreed_of_fields (Obj.data_mapFields hd _)),(Obj.cls_mapFields ..).trans hc,by
  rw [Obj.data_mapFields hd]; simp [rawInt]⟩
theorem cg {it t:Addr} {i:Nat} {items} {Q:Value→Shared→Prop} (hh:A.handled=none)
  (hit:s.heap.IsTupleIter it t i) (ht:s.heap.IsTuple t items) (hx:items[i]? = none)
  (hE:∀h' e, Heap.ExtBut it s.heap h'→(∃o, h'.get? e=some o∧o.cls=.type "StopIteration")→E (.ref e) { s with heap:=h' }) :
  wpAny (model prog w) A (Builtin.SmallTypes.nextOf (.ref it)) Q E s:=by
 obtain ⟨o,ho,hc,hd⟩:=id hit
 obtain ⟨ol,hol,_,nl,hdl⟩:=ht
 unfold Builtin.SmallTypes.nextOf
 refine wpAny_bind (wpAny_callSpecial?_slot (name:=Str.ofString "__next__") hit.typeIs F.slot_tuple_iterator_next
  (wpAny_call_entry F.slot_tuple_iterator_next hit.typeIs F.entry_tuple_iterator_next ?_ (F.args_tuple_iterator_next_1 _)))
 show wpAny _ _ (field (.ref it) 0 >>= _) _ _ s
 refine wpAny_bind (wpAny_field ho hd (x:=.ref t) rfl ?_)
 show wpAny _ _ (if (Value.ref t == Value.none)=true then _ else _) _ _ s
 rw [if_neg (show ¬ ((Value.ref t == Value.none)=true) from Bool.false_ne_true)]
 show wpAny _ _ (field (.ref it) 1 >>= _) _ _ s
 refine wpAny_bind (wpAny_field ho hd (x:=.int i 0) rfl ?_)
 show wpAny _ _ (seqItems? (.ref t) >>= _) _ _ s
 refine wpAny_bind (wpAny_seqItems hol hdl ?_)
 simp only [Int.toNat_natCast,hx]
 refine wpAny_bind (wpAny_rule (wpAny_bind (wpAny_setField ho hd (by simp) ?_)))
 show wpAny _ _ (newExc (.type "StopIteration") [] >>= _) _ _ _
 refine wpAny_bind ?_
 simp only [newExc,newTuple]
 refine wpAny_bind (wpAny_newObj_type ?_ (by size_fits))
 refine wpAny_bind (m:=firstArgMember _ _) (wpAny_of_eq (a:=Value.none) (by first | rfl | (simp only [firstArgMember]; rfl)) ?_)
 refine wpAny_newObj_type ?_ (by size_fits)
 simp only [raiseNew]
 refine wpAny_bind (wpAny_handled ?_)
 first | rw [show A.in1.handled=none from hh] | rw [hh]
 refine wpAny_bind (wpAny_pure (wpAny_throw ?_))
 exact hE _ _ (((Heap.SameBut.update ..).extBut.push _).push _) ⟨_,Heap.get?_push_size _ rfl,rfl⟩
end
theorem iy {prog:Program} {w:World} {A:Around} (hh:A.handled=none) (it l:Addr) (hne:l≠it) (items:Array Value) :
  Draws prog w A it [it,l] items.size (fun i v=>items[i]? = some v) (fun i h=>h.IsTupleIter it l i∧h.IsTuple l items) where
 live:=fun _ _ st=>let ⟨o,ho,_⟩:=st.1; ⟨o,ho⟩
 frame:=fun _ _ _ st hk=>⟨st.1.at fun o e=>hk it (by simp) o e,let ⟨o,ho,r⟩:=st.2; ⟨o,hk l (by simp) o ho,r⟩⟩
 item:=fun i s Q E hi st hQ=>by
  refine eS st.1 st.2 (x:=items[i]) (by simp [hi]) fun h' hit' hs'=>?_
  exact hQ _ h' s.toks (by simp [hi]) ⟨hit',st.2.extBut hs'.extBut hne⟩ hs'
 done:=fun s Q E st hE=>cg hh st.1 st.2 (by simp) hE
theorem fA (l:Addr) (items:Array Value) (n:Nat) (dct:Option Addr) (sl:Array (Option Value)) :
  Meets (Builtin.«enumerate.__new__» ⟨[.type "enumerate",.ref l],[]⟩) (fun _ R s=>s.heap.get? l=some { cls:=.type "tuple",dict:=dct,data:=.seq items n,slots:=sl } ∧
   R (.ok (.ret (.ref (s.heap.push { cls:=.type "tuple_iterator",data:=.fields #[.ref l,.int 0 0] }).objs.size)))
    { s with heap:=(s.heap.push { cls:=.type "tuple_iterator",data:=.fields #[.ref l,.int 0 0] }).push { cls:=.type "enumerate",data:=.fields #[.none,.bool false,.ref s.heap.objs.size,rawInt 0,.none,.none] } }) :=
 .of_wp fun prog w A R s h=>by
  obtain ⟨hp,g,d,tk,os⟩:=s; obtain ⟨hl,h⟩:=h
  have hsub:=sub_enumerate
  have hL:Heap.IsTuple (Shared.heap ⟨hp,g,d,tk,os⟩) l items:=⟨_,hl,rfl,n,rfl⟩
  wp_walk using wpAny_loadPart' hl
  refine wpAny_stack_any fun st=>wpAny_pure ?_
  split
  ·rename_i c _ _ _ _ _
   cases (c == Value.type "enumerate")
   ·wp_walk using wpAny_loadPart' hl,wpAny_pyIter_tuple hL
    exact ⟨_,rfl,h⟩
   ·wp_walk using wpAny_loadPart' hl,wpAny_pyIter_tuple hL
    exact ⟨_,rfl,h⟩
  ·wp_walk using wpAny_loadPart' hl,wpAny_pyIter_tuple hL
   exact ⟨_,rfl,h⟩
section
variable {prog:Program} {w:World} {A:Around} {E:Value→Shared→Prop} {s:Shared}
theorem ci {l:Addr} {items:Array Value} {Q:Value→Shared→Prop} (hL:s.heap.IsTuple l items)
  (h:∀h',IsEnum h' (s.heap.objs.size + 1) s.heap.objs.size 0 .none→h'.IsTupleIter s.heap.objs.size l 0→h'.objs.size=s.heap.objs.size + 2 →
   (∀b o,s.heap.get? b=some o→h'.get? b=some o)→Q (.ref (s.heap.objs.size + 1)) { s with heap:=h' }) :
  wpAny (model prog w) A (call (.type "enumerate") [.ref l]) Q E s:=by
 obtain ⟨⟨c,dct,dt,sl⟩,hl,hc,n,hd⟩:=hL
 replace hc:c=.type "tuple" := hc
 replace hd:dt=.seq items n:=hd
 subst hc hd
 refine callType_new F.called_enumerate (by decide) (F.typeCall_enumerate_1 _) (F.newCall_enumerate_1 _) (fun obj=>F.args_object_init_2 obj _) F.entry_enumerate_new
  (fA l items n dct sl) ⟨hl,?_⟩
 have hz:(s.heap.push { cls:=.type "tuple_iterator",data:=.fields #[.ref l,.int 0 0] }).objs.size=s.heap.objs.size + 1:=Heap.size_push ..
 show _∧_
 rw [hz]
 have he:IsEnum ((s.heap.push { cls:=.type "tuple_iterator",data:=.fields #[.ref l,.int 0 0] }).push
   { cls:=.type "enumerate",data:=.fields #[.none,.bool false,.ref s.heap.objs.size,rawInt 0,.none,.none] }) (s.heap.objs.size + 1) s.heap.objs.size 0 .none:=by
  have:=Heap.get?_push_size (s.heap.push { cls:=.type "tuple_iterator",data:=.fields #[.ref l,.int 0 0] })
   (o:={ cls:=.type "enumerate",data:=.fields #[.none,.bool false,.ref s.heap.objs.size,rawInt 0,.none,.none] }) rfl
  rw [hz] at this; exact this
 refine ⟨⟨_,he,rfl⟩,h _ he ⟨_,Heap.get?_push_of_some _ (Heap.get?_push_size _ rfl),rfl,rfl⟩ (by rw [Heap.size_push,hz]) fun b o x=>Heap.get?_push_of_some _ (Heap.get?_push_of_some _ x)⟩
end
end PySem
set_option Elab.async false
set_option linter.all false
set_option maxRecDepth 100000
namespace L2
open PySem PySem.Spec PyProof.Rows
def Ite (f:List V→HO) (l:Addr):It :=
  ⟨fun i H=>∃xs x,H l=some (f xs)∧xs[i]? = some x,
   fun i H v H'=>∃p xs x,H p=none∧v=.ref p∧H'=upd H p (.tup [.int i,x])∧H l=some (f xs)∧xs[i]? = some x,
   fun i H=>∃xs,H l=some (f xs)∧xs.length≤i⟩
section
variable {X:Cx} {pins:List (Addr×Obj)} {σ:St} {H:Hp} {s:Shared}
theorem gt {f:List V→HO} {tn:Nat→Heap→Prop} {es:List Expr} {kk:Nat} {tp:Pos} {e it l:Addr} {i:Nat} {xs:List V} {x:V} {u:Value} {tk:Nat} {h':Heap} {E:Value→Shared→Prop} (hne:e≠it) (I:Inv X pins σ H s) (hf:∀b∈[e,it],dI X pins H b) (hl:H l=some (f xs)) (hx:xs[i]? = some x)
  (ho:∀b∈[e, it], b < s.heap.objs.size) (r:RelV x u) (b1:IsEnumOut h' e it ((i:Int) + 1) u s.heap.objs.size) (b3:h'.get? s.heap.objs.size=some { cls:=.type "tuple", data:=.seq #[.int i tk, u] })
  (bk:∀b o,b≠e→b≠it→s.heap.get? b=some o→h'.get? b=some o) (hn:∀h'',IsEnum h'' e it ((i + 1:Nat):Int) u→Heap.SameBut e h' h''→tn (i + 1) h'') :
  wpAny (model X.prog X.w) X.A (letOwnedTupleGo (.Tuple es kk tp) (.ref e) (.ref s.heap.objs.size)) (fun _ s2=>∃x H',Inv X pins σ H' s2∧RelV x (.ref s.heap.objs.size)∧(Ite f l).yld i H x H'∧tn (i + 1) s2.heap∧∀b∈[e,it],H' b=none) E { s with heap:=h',toks:=tk + 1 }:=by
 refine wpAny_letOwnedTupleGo_enum b1 fun h'' c1 cs=>?_
 have es':e < s.heap.objs.size:=ho e (by simp)
 have k2:∀b o,b∉[e,it]→s.heap.get? b=some o→h''.get? b=some o:=fun b o hb q=>by
  simp only [List.mem_cons,List.not_mem_nil,or_false,not_or] at hb
  exact cs.extBut b o hb.1 (bk b o hb.1 hb.2 q)
 have I1:Inv X pins σ H { s with heap:=h'',toks:=tk + 1 }:=I.turnedN (t':=tk + 1) hf k2
 have hp:h''.get? s.heap.objs.size=some { cls:=.type "tuple", data:=.seq #[.int i tk, u] }:=cs.extBut _ _ (Nat.ne_of_gt es') b3
 have hn0:H s.heap.objs.size=none:=I.hok.fresh (Nat.le_refl _)
 have fpk:=I.fpOk (H':=H) (Nat.le_refl _) hn0
 have I2:Inv X pins σ (upd H s.heap.objs.size (.tup [.int i,x])) { s with heap:=h'',toks:=tk + 1 }:=I1.track fpk I.sz ⟨by show 2≤sizeLine; decide,[.int i tk,u],.cons ⟨tk,rfl⟩ (.cons r .nil),_,hp,rfl,_,rfl⟩
 refine ⟨.ref s.heap.objs.size,_,I2,rfl,⟨_,xs,x,hn0,rfl,rfl,hl,hx⟩,hn h'' c1 cs,fun b hb=>?_⟩
 rw [az (Nat.ne_of_lt (ho b hb))]
 exact (hf b hb).1
end
theorem jl {P:Program} {w:World} {K:PySem.W.Frag} {es:List Expr} {kk:Nat} {tp:Pos} (l e it:Addr) (hne:e≠it) :
  Turn P w K (.Tuple es kk tp) (Ite .lst l) [e,it] e (fun i h=>(∃old,IsEnum h e it i old)∧h.IsListIter it l i) where
 mem:=by simp
 obj:=fun i h st b hb=>by
  obtain ⟨⟨old,a1⟩,⟨o2,a2,_,d2⟩⟩:=st
  simp only [List.mem_cons,List.not_mem_nil,or_false] at hb
  rcases hb with rfl | rfl
  ·exact ⟨_,a1,fun v q=>by cases q⟩
  ·exact ⟨_,a2,fun v q=>by rw [d2] at q; cases q⟩
 keep:=fun i h h' st k=>by
  obtain ⟨⟨old,a1⟩,a2⟩:=st
  exact ⟨⟨old,k e (by simp) _ a1⟩,a2.at fun o q=>k it (by simp) o q⟩
 item:=by
  intro X hP hw hK hc i pins s σ H E I hf st hg
  subst hP hw hK
  obtain ⟨⟨old,a1⟩,a2⟩:=st
  obtain ⟨xs,x,e1,ex⟩:=hg
  obtain ⟨its,rv,p1,_⟩:=I.list (SqL.of e1)
  obtain ⟨u,hu,r⟩:=rv.get ex
  have ho:∀b∈[e,it],b < s.heap.objs.size:=fun b hb=>by
   obtain ⟨o2,a2',_⟩:=a2
   simp only [List.mem_cons,List.not_mem_nil,or_false] at hb
   rcases hb with rfl | rfl
   ·exact Heap.lt_size a1
   ·exact Heap.lt_size a2'
  refine wpAny_pyNext_enum_item a1 a2 p1.isList (x:=u) (by simpa using hu) hne fun h' b1 b2 b3 b4 bk=>⟨_,rfl,?_⟩
  exact gt (tn:=fun i h=>(∃old,IsEnum h e it i old)∧h.IsListIter it l i) hne I hf e1 ex ho r b1 b3 bk fun h'' c1 cs=>⟨⟨u,c1⟩,b2.extBut cs.extBut (Ne.symm hne)⟩
 done:=by
  intro X hP hw hK hc i pins s σ H E I hf st hg
  subst hP hw hK
  obtain ⟨⟨old,a1⟩,a2⟩:=st
  obtain ⟨xs,e1,ex⟩:=hg
  obtain ⟨its,rv,p1,_⟩:=I.list (SqL.of e1)
  have lv:=rv.length
  refine wpAny_pyNext_enum_end (I.ok.hd hc) a1 a2 p1.isList (by simp; omega) fun h' bk=>⟨rfl,?_⟩
  exact I.turnedN (t':=s.toks) hf fun b o hb q=>by
   simp only [List.mem_cons,List.not_mem_nil,or_false,not_or] at hb
   exact bk b o hb.2 q
 self:=fun _ _ _ _ _ st h=>by obtain ⟨⟨old,a1⟩,_⟩:=st; exact wpAny_pyIter_enum a1 h
theorem jm {P:Program} {w:World} {K:PySem.W.Frag} {es:List Expr} {kk:Nat} {tp:Pos} (l e it:Addr) (hne:e≠it) :
  Turn P w K (.Tuple es kk tp) (Ite .tup l) [e,it] e (fun i h=>(∃old,IsEnum h e it i old)∧h.IsTupleIter it l i) where
 mem:=by simp
 obj:=fun i h st b hb=>by
  obtain ⟨⟨old,a1⟩,⟨o2,a2,_,d2⟩⟩:=st
  simp only [List.mem_cons,List.not_mem_nil,or_false] at hb
  rcases hb with rfl | rfl
  ·exact ⟨_,a1,fun v q=>by cases q⟩
  ·exact ⟨_,a2,fun v q=>by rw [d2] at q; cases q⟩
 keep:=fun i h h' st k=>by
  obtain ⟨⟨old,a1⟩,a2⟩:=st
  exact ⟨⟨old,k e (by simp) _ a1⟩,a2.at fun o q=>k it (by simp) o q⟩
 item:=by
  intro X hP hw hK hc i pins s σ H E I hf st hg
  subst hP hw hK
  obtain ⟨⟨old,a1⟩,a2⟩:=st
  obtain ⟨xs,x,e1,ex⟩:=hg
  obtain ⟨its,rv,p1,_⟩:=I.tuple (SqT.of e1)
  obtain ⟨u,hu,r⟩:=rv.get ex
  have lt:i < its.toArray.size:=by simp; exact (List.getElem?_eq_some_iff.mp hu).1
  have ho:∀b∈[e,it],b < s.heap.objs.size:=fun b hb=>by
   obtain ⟨o2,a2',_⟩:=a2
   simp only [List.mem_cons,List.not_mem_nil,or_false] at hb
   rcases hb with rfl | rfl
   ·exact Heap.lt_size a1
   ·exact Heap.lt_size a2'
  have nl:∀b∈[e,it],l≠b:=fun b hb q=>by rw [q,(hf b hb).1] at e1; cases e1
  have p1':s.heap.IsTuple l its.toArray:=p1
  have DD:Draws X.prog X.w X.A.in1 it [it,l] its.toArray.size (fun i v=>its.toArray[i]? = some v) (fun i h=>h.IsTupleIter it l i∧h.IsTuple l its.toArray):=iy (show X.A.in1.handled=none from I.ok.hd hc) it l (nl it (by simp)) its.toArray
  refine wpAny_pyNext_enum_itemD DD a1 ⟨a2,p1'⟩ lt hne (by simp only [List.mem_cons,List.not_mem_nil,or_false,not_or]; exact ⟨hne,Ne.symm (nl e (by simp))⟩) fun x' h' tk px b1 b2 b3 b4 bk=>⟨_,rfl,?_⟩
  have hu':its.toArray[i]? = some u:=by simpa using hu
  have eu:u=x':=Option.some.inj (hu'.symm.trans px)
  subst eu
  exact gt (tn:=fun i h=>(∃old,IsEnum h e it i old)∧h.IsTupleIter it l i) hne I hf e1 ex ho r b1 b3 bk fun h'' c1 cs=>⟨⟨u,c1⟩,b2.1.extBut cs.extBut (Ne.symm hne)⟩
 done:=by
  intro X hP hw hK hc i pins s σ H E I hf st hg
  subst hP hw hK
  obtain ⟨⟨old,a1⟩,a2⟩:=st
  obtain ⟨xs,e1,ex⟩:=hg
  obtain ⟨its,rv,p1,_⟩:=I.tuple (SqT.of e1)
  have lv:=rv.length
  have p1':s.heap.IsTuple l its.toArray:=p1
  have hT:s.TypeIs (.ref e) "enumerate" := ⟨_,a1,rfl⟩
  unfold pyNext
  refine wpAny_bind (wpAny_attempt (wpAny_callSpecial?_slot (name:=Str.ofString "__next__") hT F.slot_enumerate_next
   (wpAny_call_entry F.slot_enumerate_next hT F.entry_enumerate_next ?_ (F.args_enumerate_next_1 _))))
  show wpAny _ _ (field (.ref e) 2 >>= _) _ _ _
  refine wpAny_bind (wpAny_field a1 rfl (x:=.ref it) rfl ?_)
  refine wpAny_bind (cg (I.ok.hd hc) a2 p1' (by simp; omega) fun h' x he' hx'=>?_)
  obtain ⟨o,ho,hc⟩:=hx'
  refine wpAny_bind (wpAny_isInstance (T := "StopIteration") (b:=true) ⟨o,ho,hc⟩ isSubtype_stop ?_)
  refine wpAny_pure ⟨rfl,?_⟩
  exact I.turnedN (t':=s.toks) hf fun b o hb q=>by
   simp only [List.mem_cons,List.not_mem_nil,or_false,not_or] at hb
   exact he' b o hb.2 q
 self:=fun _ _ _ _ _ st h=>by obtain ⟨⟨old,a1⟩,_⟩:=st; exact wpAny_pyIter_enum a1 h
def uh (ta:TA):TI:=fun σ H R=>ta σ H fun vs H1=>∃l xs,vs=[.ref l]∧((H1 l=some (.lst xs)∧R (Ite .lst l) H1)∨(H1 l=some (.tup xs)∧R (Ite .tup l) H1))
theorem ki {X:Cx} {a:Expr} {ta:TA} {p pos tp:Pos} {es:List Expr} {kk:Nat} (hg:Gl X "enumerate") (hm:X.mg "enumerate" = none) (ha:PA X [a] ta)
  (hs:starEach [a] X.env=[(false,eval a X.env)]:=by rfl) :
  PI X (.Tuple es kk tp) (.Call (.Name "enumerate" p) [a] [] pos) (uh ta):=by
 intro pins s σ H R I h
 refine Call_ (du I hg hm PyProof.Rows.boot_enumerate (PyProof.Rows.callWith_type1 (thn (ha pos pins s σ H _ I h) fun us s1 ⟨vs,H1,I1,r1,q1⟩=>?_) (by rw [hs]; rfl) (by rfl)))
 obtain ⟨l,xs,rfl,q⟩:=q1
 cases r1 with
 | cons r rr =>
  cases rr
  cases r
  rcases q with ⟨e1,q⟩ | ⟨e1,q⟩
  ·obtain ⟨its1,rv1,p1,_⟩:=I1.list (SqL.of e1)
   refine call_enumerate_list p1.isList fun h' z1 z2 sz keep=>?_
   have I2:Inv X pins σ H1 { s1 with heap:=h' }:=I1.kept (t':=s1.toks) keep
   refine wpAny_pyIter_enum z1 ⟨s1.heap.objs.size + 1,[s1.heap.objs.size + 1,s1.heap.objs.size],_,_,H1,rfl,I2,jl l _ _ (Nat.succ_ne_self _),⟨⟨_,z1⟩,z2⟩,fun b hb=>?_,q⟩
   have hb':s1.heap.objs.size≤b:=by
    simp only [List.mem_cons,List.not_mem_nil,or_false] at hb
    rcases hb with rfl | rfl <;> omega
   exact I1.fpOk hb' (I1.hok.fresh hb')
  ·obtain ⟨its1,rv1,p1,_⟩:=I1.tuple (SqT.of e1)
   have p1':s1.heap.IsTuple l its1.toArray:=p1
   refine ci p1' fun h' z1 z2 sz keep=>?_
   have I2:Inv X pins σ H1 { s1 with heap:=h' }:=I1.kept (t':=s1.toks) keep
   refine wpAny_pyIter_enum z1 ⟨s1.heap.objs.size + 1,[s1.heap.objs.size + 1,s1.heap.objs.size],_,_,H1,rfl,I2,jm l _ _ (Nat.succ_ne_self _),⟨⟨_,z1⟩,z2⟩,fun b hb=>?_,q⟩
   have hb':s1.heap.objs.size≤b:=by
    simp only [List.mem_cons,List.not_mem_nil,or_false] at hb
    rcases hb with rfl | rfl <;> omega
   exact I1.fpOk hb' (I1.hok.fresh hb')
theorem iz {f:List V→HO} (hf:∀xs ys,f xs=f ys→xs=ys) {l:Addr} {xs:List V} {g:TG} {tb:TS} {D:Ends} {σ:St} {H:Hp} (Pv:Nat→St→Hp→Prop) (h0:Pv 0 σ H) (hk:∀i σ H',Pv i σ H'→H' l=some (f xs))
  (ht:∀i x p σ H,xs[i]? = some x→H p=none→Pv i σ H→g (.ref p) σ (upd H p (.tup [.int i,x])) fun σ2 H2=>tb { D with nx:=Pv (i + 1),ct:=Pv (i + 1),bk:=D.nx } σ2 H2) (hd:∀σ H,Pv xs.length σ H→D.nx σ H) :
  ∃W:Nat→Nat→St→Hp→Prop,(∃m,W 0 m σ H)∧∀i m σ H,W i m σ H →
   ((Ite f l).stop i H∧D.nx σ H)∨((Ite f l).go i H∧∃N:St→Hp→Prop,(∀σ' H',N σ' H'→∃m',m' < m∧W (i + 1) m' σ' H')∧∀x H',(Ite f l).yld i H x H'→g x σ H' fun σ2 H2=>tb { D with nx:=N,ct:=N,bk:=D.nx } σ2 H2):=by
 refine ⟨fun i m σ H=>m=xs.length - i∧i≤xs.length∧Pv i σ H,⟨xs.length,by simp,Nat.zero_le _,h0⟩,?_⟩
 rintro i m σ H ⟨rfl,hi,p⟩
 have e1:=hk i σ H p
 by_cases hlt:i < xs.length
 ·refine .inr ⟨⟨xs,xs[i],e1,by simp [hlt]⟩,Pv (i + 1),fun σ' H' p'=>⟨xs.length - (i + 1),by omega,rfl,hlt,p'⟩,fun v H' y=>?_⟩
  obtain ⟨q,xs',x,hq,rfl,rfl,e1',ex⟩:=y
  rw [e1] at e1'
  cases hf _ _ (Option.some.inj e1')
  exact ht i x q σ H ex hq p
 ·have e:i=xs.length:=by omega
  subst e
  exact .inl ⟨⟨xs,e1,Nat.le_refl _⟩,hd σ H p⟩
end L2
set_option Elab.async false
set_option linter.all false
set_option maxRecDepth 100000
namespace Pc
open PySem L2
def aO (k:Kd):Bool:=k.tu && !decide (k.w=k.h)
def lyT (i:Nat) (k:Kd):List (Nat×Bool):=(i,false) :: if aO k=true then [(i,true)] else []
def lyK:List Kd→Nat→List (Nat×Bool)
 | [],_=>[]
 | k :: r,i=>lyT i k ++ lyK r (i + 1)
theorem iA (k:Kd):∀ (ks:List Kd) (i:Nat),lyK (ks ++ [k]) i=lyK ks i ++ lyT (i + ks.length) k
 | [],i=>by simp [lyK]
 | c :: r,i=>by
  show lyT i c ++ lyK (r ++ [k]) (i + 1)=(lyT i c ++ lyK r (i + 1)) ++ _
  rw [iA k r (i + 1),List.append_assoc]
  congr 2
  simp only [List.length_cons]
  congr 1
  omega
theorem oM (i:Nat) (k:Kd):(lyT i k).length≤2:=by unfold lyT; split <;> simp
theorem eW:∀ (ks:List Kd) (i:Nat),(lyK ks i).length≤2 * ks.length
 | [],i=>by simp [lyK]
 | c :: r,i=>by
  have:=eW r (i + 1)
  have:=oM i c
  simp only [lyK,List.length_append,List.length_cons]
  omega
def fB (K:PySem.W.Frag):Sp:=fun vs H Q _=>∃ (a:Addr) (k:Kd),vs=[.ref a]∧H a=some (.tup (kdV k))∧Q (.bl (aO k)) H
def cj (ks:List Kd) (x t:V):Bool:=match x,t with
 | .int i,.bl b=>decide (0≤i) && match ks[i.toNat]? with
  | some k=>!b || aO k
  | none=>false
 | _,_=>false
def dg (K:PySem.W.Frag) (C:Addr):Sp:=fun vs H Q _=>∃ (s:Addr) (b:Int) (ks:List Kd) (x t:V) (T U:String),vs=[.ref s,x,t]∧ShopAt C H s b ks∧Ty K H x T∧Ty K H t U∧Q (.bl (cj ks x t)) H
end Pc
set_option Elab.async false
set_option linter.all false
set_option maxRecDepth 100000
namespace L2
open PySem PySem.Spec PyProof.Rows
section
variable {X:Cx}
theorem kj {k:Nat} {C:Addr} {ps:List Str} {sp:Sp} {m:Str} {o:Expr} {e:Expr} {es:List Expr} {ta:TE} {t:TA} {apos pos:Pos} {pl:Sem Bool} (he:PE X o ta) (c:Cls X.K C) (D:Mn X.prog X.w X.K X.mg X.base C m ps k sp) (hr:Room k X.A) (ha:PA X (e :: es) t)
  (hst:starEach (e :: es) X.env=(false,eval e X.env) :: starEach es X.env:=by rfl) (hpl:(backTo pos (starEach es X.env)).any (·.1)=false:=by rfl)
  (ht:eval (.Call (.Attribute o m apos) (e :: es) [] pos) X.env=(do
   let ov←eval o X.env
   standAt apos.atName
   let (f,first)←holding [ov] (getMethod ov m pl)
   callWith pos f first (backTo pos (starEach (e :: es) X.env)) (backToKw pos (keywordEach [] X.env))):=by rfl):PE X (.Call (.Attribute o m apos) (e :: es) [] pos) (jW C m sp [] E0 ta t):=by
 obtain ⟨f,fd,F,hb,hm⟩:=D
 exact oA he c hm F hr hb .nil ke ha hst hpl ht
end
end L2
set_option Elab.async false
set_option linter.all false
set_option maxRecDepth 100000
namespace L2
open PySem PySem.Spec PyProof.Rows
section
variable {X:Cx} {k:Nat} {f C:Addr} {fd:FuncData} {ps:List Str} {sp:Sp} {x:Str} {p pos:Pos} {e:Expr} {es:List Expr} {t:TA}
end
section
variable {X:Cx}
theorem mQ:OpR X (binaryOp .Add) (fun x y H Q=>∃a b ys,x=.ref a∧y=.ref b∧SqT X.K H a []∧SqT X.K H b ys∧Q (.ref b) H):=by
 intro pins s σ H x y v u Q I rx ry h
 obtain ⟨a,b,ys,rfl,rfl,ha,hb,q⟩:=h
 cases rx
 cases ry
 obtain ⟨its,r1,p1,_⟩:=I.tuple ha
 obtain ⟨its2,r2,p2,_⟩:=I.tuple hb
 cases r1
 obtain ⟨⟨cls,dd,data,sl⟩,ho,hc,n,hd⟩:=p1
 obtain ⟨⟨cls2,dd2,data2,sl2⟩,ho2,hc2,n2,hd2⟩:=p2
 simp only at hc hd hc2 hd2
 subst hc hd hc2 hd2
 exact concat_meets ⟨_,ho,rfl⟩ ⟨_,ho2,rfl⟩ noFill_tuple_add seq_tuple_add PySem.F.slot_tuple_add PySem.F.entry_tuple_add (PySem.F.args_tuple_add_2 _ _)
   (tuple_addW0 a b _ _ n n2 dd dd2 sl sl2 rfl) ⟨ho,ho2,⟨.ref b,H,I,rfl,q⟩⟩
end
end L2
namespace Pc
open PySem L2
end Pc
namespace Pc
open PySem L2
end Pc
set_option Elab.async false
set_option linter.all false
set_option maxRecDepth 100000
namespace L2
open PySem PySem.Spec PyProof.Rows
section
variable {X:Cx}
def ui:R2:=fun x y H Q=>∃a b xs ys,x=.ref a∧y=.ref b∧H a=some (.tup xs)∧H b=some (.tup ys)∧xs.length + ys.length≤sizeLine ∧
 ∀m H',(H'=H∧(m=a∨m=b))∨(H m=none∧H'=upd H m (.tup (xs ++ ys)))→H' m=some (.tup (xs ++ ys))→Q (.ref m) H'
theorem cK:OpR X (binaryOp .Add) ui:=by
 intro pins s σ H x y v u Q I rx ry h
 obtain ⟨a,b,xs,ys,rfl,rfl,ha,hb,hz,q⟩:=h
 by_cases hx:xs=[]
 ·subst hx
  exact mQ pins s σ H _ _ v u Q I rx ry ⟨a,b,ys,rfl,rfl,SqT.of ha,SqT.of hb,q b H (.inl ⟨rfl,.inr rfl⟩) hb⟩
 ·refine oE pins s σ H _ _ v u Q I rx ry ⟨a,b,xs,ys,rfl,rfl,SqT.of ha,SqT.of hb,hx,hz,fun e=>?_,fun e p hp=>q p _ (.inr ⟨hp,rfl⟩) ah⟩
  subst e
  exact q a H (.inl ⟨rfl,.inl rfl⟩) (by rw [List.append_nil]; exact ha)
end
theorem kW (xs:List V) (k:Nat):bK xs (some (k:Int)) none=xs.drop k:=by
 unfold bK
 rw [HT.sIx_none,HT.sIx_nat]
 rcases Nat.le_total k xs.length with h | h
 ·rw [Nat.min_eq_left h,List.take_of_length_le (by rw [List.length_drop]; exact Nat.le_refl _)]
 ·rw [Nat.min_eq_right h,List.drop_of_length_le (Nat.le_refl _),List.drop_of_length_le h,List.take_nil]
end L2
namespace Pc
open PySem L2
end Pc
set_option Elab.async false
set_option linter.all false
set_option maxRecDepth 100000
namespace L2
open PySem PySem.Spec PyProof.Rows
section
variable {X:Cx}
theorem iB:∀ {bs:List Bool} {its:List Value},Vals (bs.map V.bl) its→its=bs.map Value.bool
 | [],_,r=>by cases r; rfl
 | b :: bs,_,r=>by
  cases r with
  | cons r1 r2 =>
   have e:_=Value.bool b:=r1
   subst e
   rw [List.map_cons,iB r2]
theorem kX (bs:List Bool):(List.range bs.length).all (fun i=>bs.getD i false)=bs.all id:=by
 rw [Bool.eq_iff_iff,List.all_eq_true,List.all_eq_true]
 constructor
 ·intro h b hb
  obtain ⟨i,hi,e⟩:=List.getElem_of_mem hb
  have:=h i (List.mem_range.mpr hi)
  rw [List.getD_eq_getElem?_getD,List.getElem?_eq_getElem hi] at this
  simpa [e] using this
 ·intro h i hi
  have hi':=List.mem_range.mp hi
  rw [List.getD_eq_getElem?_getD,List.getElem?_eq_getElem hi']
  exact h _ (List.getElem_mem hi')
theorem eI (hc:X.calm=true):cD X (.builtin "all") (fun xs H Q=>∃ (p:Addr) (bs:List Bool),xs=[.ref p]∧SqL X.K H p (bs.map V.bl)∧Q (.bl (bs.all id)) H):=by
 intro pins s σ H xs us Q I r h
 obtain ⟨p,bs,rfl,hs,q⟩:=h
 obtain ⟨u,rfl,rfl⟩:=eM r
 obtain ⟨its,rv,pl,_⟩:=I.list hs
 have e:=iB rv
 subst e
 have hlt:p < s.heap.objs.size:=by obtain ⟨_,_,e,_⟩:=pl; exact Heap.lt_size e
 refine call_all_walk (wpAny_pyIter_list pl.isList ?_)
 refine ⟨_,_,_,_,_,_,fun i=>bs.getD i false,rfl,Walks.list (A:=X.A.in1) (I.ok.hd hc) _ p (Nat.ne_of_lt hlt) _,⟨⟨_,Heap.get?_push_size _ rfl,rfl,rfl⟩,pl.isList.push _⟩,fun i v s' Q' E' hP hQ'=>?_,fun h' tk hk=>?_⟩
 ·have hP':(bs.map Value.bool)[i]? = some v:=by simpa using hP
  rw [List.getElem?_map] at hP'
  cases hb:bs[i]? with
  | none=>rw [hb] at hP'; cases hP'
  | some b =>
   rw [hb] at hP'
   cases hP'
   have hQ2:Q' (bs.getD i false) s':=hQ'
   rw [List.getD_eq_getElem?_getD,hb] at hQ2
   exact wpAny_truthy_bool hQ2
 ·have e2:((bs.map Value.bool).toArray.size)=bs.length:=by simp
  rw [e2,kX]
  refine ⟨.bl (bs.all id),H,I.kept (h':=h') (t':=tk) (fun b o e=>hk b o ?_ (Heap.get?_push_of_some _ e)),rfl,q⟩
  intro z
  rw [List.mem_singleton.mp z] at e
  exact absurd (Heap.lt_size e) (Nat.lt_irrefl _)
end
end L2
set_option Elab.async false
set_option linter.all false
set_option maxRecDepth 100000
namespace L2
open PySem PySem.Spec PyProof.Rows
section
variable {X:Cx}
end
theorem cL {α:Type} {xs:List α} {i:Int} {v:α} (h0:0≤i) (h:xs[i.toNat]? = some v):atI xs i=some v:=by
 have e:i=((i.toNat:Nat):Int):=by omega
 have z:atI xs ((i.toNat:Nat):Int)=some v:=oF h
 rw [← e] at z; exact z
end L2
namespace Pc
open PySem L2
def jn (K:PySem.W.Frag):Sp:=fun vs H Q _=>∃ (a:Addr) (ns:List Int) (n:Int),vs=[.ref a,.int n]∧SqL K H a (ns.map V.int)∧0≤n∧∀c:Int,Q (.int c) H
end Pc
set_option Elab.async false
set_option linter.all false
set_option maxRecDepth 100000
namespace L2
open PySem PySem.Spec PyProof.Rows
theorem jo {X:Cx} (K:PySem.W.Frag) {x y:Str} {px py pos:Pos} {k:Nat} (hK:X.K=K) (hc:X.calm=true) (hN:X.N.Nodup) (h0:X.N[0]? = some x) (h1:X.N[1]? = some y) (l0:X.env.scope.names.lookup x=some .local) (l1:X.env.scope.names.lookup y=some .local) :
  PG X (.Tuple [.Name x px,.Name y py] k pos) (tR K 2 (mq (ik 0) (mq (ik 1) tQ))) :=
 hK ▸ br hc (ay (av hN h0 (.inl l0) (.inr l0)) (ay (av hN h1 (.inl l1) (.inr l1)) aX))
theorem iC {l1 l2:Addr} {xs ys:List V} {σ:St} {cap:List Nat} {k:Nat} {g:TG} {tt:TT} {te:TE} {Q:List V→Hp→Prop} {H:Hp} (Pv:Nat→List V→Hp→Prop) (hn:xs.length=ys.length)
  (hk:∀i zs H',Pv i zs H'→H' l1=some (.lst xs)∧H' l2=some (.lst ys)) (h0:Pv 0 [] H)
  (hz:∀i zs H',i < xs.length→Pv i zs H'→zs.length < sizeLine)
  (ht:∀i x y p zs H',xs[i]? = some x→ys[i]? = some y→H' p=none→Pv i zs H'→g (.ref p) (bG σ cap k) (upd H' p (.tup [x,y])) fun σ2 H2=>leS (bG σ cap k) σ2∧tt σ2 H2 fun ok H3=>if ok=true then te σ2 H3 (fun v H4=>Nx xs.length Pv i (zs ++ [v]) H4) else Nx xs.length Pv i zs H3)
  (hd:∀zs H',Pv xs.length zs H'→zs.length≤sizeLine∧Q zs H'):∃W,(∃m,W 0 m [] H)∧gj σ cap k (Itz l1 l2) g tt te Q W:=by
 refine ⟨fun i m zs H'=>m=xs.length - i∧i≤xs.length∧Pv i zs H',⟨_,rfl,Nat.zero_le _,h0⟩,?_⟩
 rintro i m zs H' ⟨rfl,hi,p⟩
 obtain ⟨e1,e2⟩:=hk i zs H' p
 by_cases hlt:i < xs.length
 ·have hx:xs[i]? = some xs[i]:=by simp [hlt]
  have hy:ys[i]? = some (ys[i]'(by omega)):=by simp [show i < ys.length by omega]
  refine .inr ⟨⟨xs,ys,_,_,e1,e2,hx,hy⟩,hz i zs H' hlt p,fun v H2 yl=>?_⟩
  ·obtain ⟨q,xs',ys',x,y,hq,rfl,rfl,e1',e2',ex,ey⟩:=yl
   rw [e1] at e1'; cases e1'
   rw [e2] at e2'; cases e2'
   exact ht i x y q zs H' ex ey hq p
 ·have e:i=xs.length:=by omega
  subst e
  obtain ⟨a1,a2⟩:=hd zs H' p
  exact .inl ⟨⟨xs,ys,e1,e2,.inl (Nat.le_refl _)⟩,a1,a2⟩
end L2
namespace L2
open PySem PySem.Spec PyProof.Rows
section
variable {X:Cx}
end
end L2
set_option Elab.async false
set_option linter.all false
set_option maxRecDepth 100000
namespace PyProof.Rows
set_option autoImplicit false
open PySem
structure SBaseT (κ0:SortKind) (a₀:Array Keyed) (st:SortSt):Prop where
 perm:(arrOf st).Perm a₀
 kind:kindOf st=κ0
 failed:failedOf st=none
 pend:pendingOf st=#[]
theorem SBaseT.size {κ0:SortKind} {a₀:Array Keyed} {st:SortSt} (h:SBaseT κ0 a₀ st):(arrOf st).size=a₀.size:=h.perm.size_eq
theorem SBaseT.setArr {κ0:SortKind} {a₀:Array Keyed} {st:SortSt} (h:SBaseT κ0 a₀ st) {xs:Array Keyed} (hp:xs.Perm (arrOf st)):SBaseT κ0 a₀ (setArr st xs) :=
 ⟨hp.trans h.perm,h.kind,h.failed,h.pend⟩
theorem SBaseT.atK {κ:KeyKind} {κ0:SortKind} {a₀:Array Keyed} {st:SortSt} (h:SBaseT κ0 a₀ st) (h0:KeysOf κ a₀) {i:Nat} (hi:i < a₀.size) :
  ∃x p a,(arrOf st)[i]? = some (x,p)∧κ.keyOf x=some a∧KK κ (arrOf st) i=a:=by
 have hi':i < (arrOf st).size:=by rw [h.size]; exact hi
 have hm:(arrOf st)[i]∈a₀.toList:=(Array.perm_iff_toList_perm.mp h.perm).mem_iff.mp (by simp)
 obtain ⟨a,ha⟩:=h0 _ hm
 have e:(arrOf st)[i]? = some (arrOf st)[i]:=getElem?_pos _ i hi'
 refine ⟨(arrOf st)[i].1,(arrOf st)[i].2,a,by rw [e],ha,?_⟩
 unfold KK; rw [e]; simp [ha]
def bV (prog:Program) (w:World) (A:Around) (s:Shared) (κ0:SortKind) (κ:KeyKind):Prop :=
 ∀ (E:Value→Shared→Prop) (x y:Value) (a b:κ.α) (Q:Bool→Shared→Prop),κ.keyOf x=some a→κ.keyOf y=some b→Q (κ.blt a b) s→wpAny (model prog w) A (keyLt' κ0 x y) Q E s
section
variable {prog:Program} {w:World} {A:Around} {E:Value→Shared→Prop} {s:Shared} {a₀:Array Keyed} {κ:KeyKind} {κ0:SortKind}
theorem jp (hO:bV prog w A s κ0 κ) {st:SortSt} {i j:Nat} {x y:Value} {a b:κ.α} {p q:Value} {Q:Option Bool→SortSt→Prop} (hk:kindOf st=κ0)
  (hi:(arrOf st)[i]? = some (x,p)) (hj:(arrOf st)[j]? = some (y,q)) (ha:κ.keyOf x=some a) (hb:κ.keyOf y=some b) (h:Q (some (κ.blt a b)) st) :
  wpS (model prog w) A E s (ltAt' i j) Q st:=by
 rw [ltAt'_eq]
 refine wpS_bind (wpS_get ?_)
 show wpS _ _ _ _ (do let x←elem' (arrOf st) i; let y←elem' (arrOf st) j; lt' x y) Q st
 rw [elem'_eq,elem'_eq,hi,hj]
 refine wpS_bind (wpS_pure (wpS_bind (wpS_pure ?_)))
 rw [lt'_eq]
 refine wpS_bind (wpS_get ?_)
 rw [hk]
 refine wpS_bind (wpS_lift (wpAny_attempt (hO _ x y a b _ ha hb ⟨rfl,?_⟩)))
 exact wpS_pure h
theorem cG {st:SortSt} {i j:Nat} {Q:Option Bool→SortSt→Prop} (hO:bV prog w A s κ0 κ) (hB:SBaseT κ0 a₀ st) (h0:KeysOf κ a₀) (hi:i < a₀.size) (hj:j < a₀.size)
  (h:Q (some (κ.blt (KK κ (arrOf st) i) (KK κ (arrOf st) j))) st):wpS (model prog w) A E s (ltAt' i j) Q st:=by
 obtain ⟨x,p,a,e1,ha,ka⟩:=hB.atK h0 hi
 obtain ⟨y,q,b,e2,hb,kb⟩:=hB.atK h0 hj
 rw [ka,kb] at h
 exact jp hO hB.kind e1 e2 ha hb h
theorem eJ {st:SortSt} {n ok:Nat} {Q:Bool→SortSt→Prop} (hO:bV prog w A s κ0 κ) (h0:KeysOf κ a₀) (hn:n≤a₀.size) (hok:ok≤n) (hB:SBaseT κ0 a₀ st) (hs:SortedToK κ (arrOf st) ok)
  (h:∀st',SBaseT κ0 a₀ st'→SortedToK κ (arrOf st') n→Q true st'):wpS (model prog w) A E s (binarySort' 0 n ok) Q st:=by
 rw [binarySort'_eq]
 simp only [Nat.zero_add]
 refine wpS_bind (wpS_mono (wpS_forRange (I:=fun k c st'=>c=(none,())∧SBaseT κ0 a₀ st'∧SortedToK κ (arrOf st') (min k n))
  (Q:=fun c st'=>c=(none,())∧SBaseT κ0 a₀ st'∧SortedToK κ (arrOf st') n) ?step ?fin ?init) ?post)
 case post =>
  rintro c st' ⟨rfl,hB',hs'⟩
  exact wpS_pure (h st' hB' hs')
 case init =>
  refine ⟨rfl,hB,fun i j hij hj=>?_⟩
  by_cases h1:ok=0
  ·have:i=j:=by omega
   subst this; exact KeyOrd.kle_refl _
  ·exact hs i j hij (by omega)
 case fin =>
  rintro c st' ⟨hc,hB',hs'⟩
  refine ⟨hc,hB',?_⟩
  rwa [show min (max (max ok 1) n) n=n by omega] at hs'
 case step =>
  rintro k c st' hak hkn ⟨rfl,hB',hs'⟩
  rw [show min k n=k by omega] at hs'
  have hk:k < a₀.size:=by omega
  refine wpS_bind (wpS_mono (wpS_forRange (I:=fun x c st''=>st''=st'∧∃l r,c=(none,l,r)∧l≤r∧r≤k∧r - l≤k - x ∧
    (∀i,i < l→κ.kle (KK κ (arrOf st') i) (KK κ (arrOf st') k))∧(∀i,r≤i→i < k→κ.klt (KK κ (arrOf st') k) (KK κ (arrOf st') i)))
   (Q:=fun c st''=>st''=st'∧∃l r,c=(none,l,r)∧l≤k ∧
    (∀i,i < l→κ.kle (KK κ (arrOf st') i) (KK κ (arrOf st') k))∧(∀i,l≤i→i < k→κ.klt (KK κ (arrOf st') k) (KK κ (arrOf st') i))) ?istep ?ifin ?iinit) ?ipost)
  case iinit=>exact ⟨rfl,0,k,rfl,by omega,by omega,by omega,fun i hi=>by omega,fun i h1 h2=>by omega⟩
  case ifin =>
   rintro c st'' ⟨rfl,l,r,rfl,hlr,hrk,hm,hlo,hhi⟩
   have:l=r:=by omega
   subst this
   exact ⟨rfl,l,l,rfl,hrk,hlo,hhi⟩
  case istep =>
   rintro x c st'' _ hxk ⟨rfl,l,r,rfl,hlr,hrk,hm,hlo,hhi⟩
   dsimp only
   by_cases hge:l≥r
   ·rw [if_pos hge]
    have:l=r:=by omega
    subst this
    exact wpS_pure ⟨rfl,l,l,rfl,hrk,hlo,hhi⟩
   ·rw [if_neg hge]
    refine wpS_bind (cG hO hB' h0 hk (by omega) ?_)
    cases hless:κ.blt (KK κ (arrOf st'') k) (KK κ (arrOf st'') ((l + r) / 2))
    case true =>
     simp only [if_true]
     refine wpS_pure ⟨rfl,l,(l + r) / 2,rfl,by omega,by omega,by omega,hlo,fun i h1 h2=>?_⟩
     exact KeyOrd.klt_of_klt_of_kle hless (hs' _ _ h1 h2)
    case false =>
     simp only [Bool.false_eq_true,if_false]
     refine wpS_pure ⟨rfl,(l + r) / 2 + 1,r,rfl,by omega,by omega,by omega,fun i h1=>?_,hhi⟩
     exact KeyOrd.kle_trans (hs' i ((l + r) / 2) (by omega) (by omega)) (show κ.kle _ _ from hless)
  case ipost =>
   rintro c st'' ⟨rfl,l,r,rfl,hlk,hlo,hhi⟩
   show wpS _ _ _ _ (do moveDown' k l; pure (ForInStep.yield (none,()))) _ _
   rw [moveDown'_eq]
   refine wpS_bind (wpS_modify (wpS_pure ⟨rfl,hB'.setArr (bubble_perm _ _ _),?_⟩))
   rw [show min (k + 1) n=k + 1 by omega]
   have hks:k < (arrOf st'').size:=by rw [hB'.size]; exact hk
   intro i j hij hj
   show κ.kle (KK κ (bubble (arrOf st'') k (k - l)) i) (KK κ (bubble (arrOf st'') k (k - l)) j)
   rw [KK_bubble hks (by omega),KK_bubble hks (by omega),show k - (k - l)=l by omega]
   repeat' split
   all_goals first
    | (exfalso; omega)
    | exact KeyOrd.kle_refl _
    | exact hlo _ (by omega)
    | exact KeyOrd.kle_of_klt (hhi _ (by omega) (by omega))
    | exact hs' _ _ (by omega) (by omega)
theorem dm {st:SortSt} {a nrem:Nat} {Q:AscSt→SortSt→Prop} (hO:bV prog w A s κ0 κ) (h0:KeysOf κ a₀) (hn:nrem≤a₀.size) (ha:1≤a) (han:a≤nrem) (hB:SBaseT κ0 a₀ st)
  (hs:SortedToK κ (arrOf st) a)
  (h:∀n,a≤n→n≤nrem→SortedToK κ (arrOf st) n→(n=nrem∨κ.klt (KK κ (arrOf st) n) (KK κ (arrOf st) (n - 1)))→Q (none,n) st) :
  wpS (model prog w) A E s (ascLoop a nrem) Q st:=by
 unfold ascLoop
 refine wpS_forRange (I:=fun x c st'=>st'=st∧c=(none,x)∧SortedToK κ (arrOf st) x) ?step ?fin ⟨rfl,rfl,hs⟩
 case fin =>
  rintro c st' ⟨rfl,rfl,hs'⟩
  rw [show max a nrem=nrem by omega] at hs' ⊢
  exact h nrem han (Nat.le_refl _) hs' (.inl rfl)
 case step =>
  rintro x c st' hax hxn ⟨rfl,rfl,hs'⟩
  dsimp only
  refine wpS_bind (cG hO hB h0 (by omega) (by omega) ?_)
  cases hless:κ.blt (KK κ (arrOf st') x) (KK κ (arrOf st') (x - 1))
  case true =>
   simp only [if_true]
   exact wpS_pure (h x hax (by omega) hs' (.inr hless))
  case false =>
   simp only [Bool.false_eq_true,if_false]
   refine wpS_pure ⟨rfl,rfl,fun i j hij hj=>?_⟩
   by_cases hjx:j < x
   ·exact hs' i j hij hjx
   ·have hj':j=x:=by omega
    subst hj'
    by_cases hi':i=j
    ·subst hi'; exact KeyOrd.kle_refl _
    ·exact KeyOrd.kle_trans (hs' i (j - 1) (by omega) (by omega)) hless
theorem eP {st:SortSt} {n nrem:Nat} {Q:Option Nat→SortSt→Prop} (hO:bV prog w A s κ0 κ) (h0:KeysOf κ a₀) (hn:nrem≤a₀.size) (h1:1≤n) (hnn:n≤nrem) (hB:SBaseT κ0 a₀ st)
  (hs:NonIncK κ (arrOf st) n) (h:∀m st',SBaseT κ0 a₀ st'→1≤m→m≤nrem→SortedToK κ (arrOf st') m→Q (some m) st') :
  wpS (model prog w) A E s (tail3 n nrem) Q st:=by
 unfold tail3
 have hsz:n≤(arrOf st).size:=by rw [hB.size]; omega
 refine wpS_bind (wpS_reverse ?_)
 have hB':SBaseT κ0 a₀ (setArr st (mirror (arrOf st) 0 n ((n - 0) / 2))):=hB.setArr (mirror_perm _ _ _ _)
 refine wpS_bind (dm hO h0 hn h1 hnn hB' ?_ fun m hm1 hm2 hsm _=>wpS_pure (h m _ hB' (by omega) hm2 hsm))
 intro i j hij hj
 show κ.kle (KK κ (mirror (arrOf st) 0 n ((n - 0) / 2)) i) (KK κ (mirror (arrOf st) 0 n ((n - 0) / 2)) j)
 rw [KK_mirror hsz,KK_mirror hsz,if_pos (by omega),if_pos (by omega)]
 exact hs _ _ (by omega) (by omega)
theorem fC {st:SortSt} {n nrem:Nat} {Q:DescSt→SortSt→Prop} (hO:bV prog w A s κ0 κ) (h0:KeysOf κ a₀) (hn:nrem≤a₀.size) (h1:1≤n) (hnn:n≤nrem) (hB:SBaseT κ0 a₀ st)
  (hs:NonIncK κ (arrOf st) n)
  (h:∀m neq st',SBaseT κ0 a₀ st'→n≤m→m≤nrem→NonIncK κ (arrOf st') m→neq + 1≤m→(∀i,m - (neq + 1)≤i→i < m→KK κ (arrOf st') i=KK κ (arrOf st') (m - 1))→Q (none,m,neq) st') :
  wpS (model prog w) A E s (descLoop n nrem) Q st:=by
 unfold descLoop
 refine wpS_forRange (I:=fun x c st'=>∃neq,c=(none,x,neq)∧SBaseT κ0 a₀ st'∧NonIncK κ (arrOf st') x∧neq + 1≤x ∧
   (∀i,x - (neq + 1)≤i→i < x→KK κ (arrOf st') i=KK κ (arrOf st') (x - 1))) ?step ?fin ⟨0,rfl,hB,hs,by omega,fun i h1 h2=>by congr 1; omega⟩
 case fin =>
  rintro c st' ⟨neq,rfl,hB',hs',hq,he⟩
  rw [show max n nrem=nrem by omega] at hs' hq he ⊢
  exact h nrem neq st' hB' hnn (Nat.le_refl _) hs' hq he
 case step =>
  rintro x c st' hax hxn ⟨neq,rfl,hB',hs',hq,he⟩
  dsimp only
  have hsz:x≤(arrOf st').size:=by rw [hB'.size]; omega
  refine wpS_bind (cG hO hB' h0 (by omega) (by omega) ?_)
  cases hless:κ.blt (KK κ (arrOf st') x) (KK κ (arrOf st') (x - 1))
  case true =>
   simp only [if_true]
   have step1:∀xs:Array Keyed,(∀k,KK κ xs k=KK κ (arrOf st') k)→NonIncK κ xs (x + 1):=by
    intro xs hk i j hij hj
    rw [hk,hk]
    by_cases hjx:j < x
    ·exact hs' i j hij hjx
    ·have hj':j=x:=by omega
     subst hj'
     by_cases hi':i=j
     ·subst hi'; exact KeyOrd.kle_refl _
     ·exact KeyOrd.kle_trans (KeyOrd.kle_of_klt hless) (hs' i (j - 1) (by omega) (by omega))
   by_cases hneq:neq > 0
   ·rw [if_pos hneq]
    refine wpS_bind (wpS_reverse (wpS_pure ⟨0,rfl,hB'.setArr (mirror_perm _ _ _ _),step1 _ (KK_mirror_equal hsz he),by omega,fun i h1 h2=>by congr 1; omega⟩))
   ·rw [if_neg hneq]
    exact wpS_pure ⟨0,rfl,hB',step1 _ (fun _=>rfl),by omega,fun i h1 h2=>by congr 1; omega⟩
  case false =>
   simp only [Bool.false_eq_true,if_false]
   refine wpS_bind (cG hO hB' h0 (by omega) (by omega) ?_)
   cases hlarger:κ.blt (KK κ (arrOf st') (x - 1)) (KK κ (arrOf st') x)
   case true =>
    simp only [if_true]
    exact wpS_pure (h x neq st' hB' hax (by omega) hs' hq he)
   case false =>
    simp only [Bool.false_eq_true,if_false]
    have heqx:KK κ (arrOf st') x=KK κ (arrOf st') (x - 1):=KeyOrd.kle_antisymm hlarger hless
    refine wpS_pure ⟨neq + 1,rfl,hB',fun i j hij hj=>?_,by omega,fun i h1 h2=>?_⟩
    ·by_cases hjx:j < x
     ·exact hs' i j hij hjx
     ·have hj':j=x:=by omega
      subst hj'
      by_cases hi':i=j
      ·subst hi'; exact KeyOrd.kle_refl _
      ·rw [heqx]; exact hs' i (j - 1) (by omega) (by omega)
    ·rw [show x + 1 - 1=x by omega]
     by_cases hix:i=x
     ·subst hix; rfl
     ·rw [heqx]; exact he i (by omega) (by omega)
theorem cU {st:SortSt} {n nrem:Nat} {Q:Option Nat→SortSt→Prop} (hO:bV prog w A s κ0 κ) (h0:KeysOf κ a₀) (hn:nrem≤a₀.size) (hnn:n + 1≤nrem) (hB:SBaseT κ0 a₀ st)
  (hs:NonIncK κ (arrOf st) (n + 1)) (h:∀m st',SBaseT κ0 a₀ st'→1≤m→m≤nrem→SortedToK κ (arrOf st') m→Q (some m) st') :
  wpS (model prog w) A E s (descPart n nrem) Q st:=by
 unfold descPart
 refine wpS_bind (wpS_lift (wpAny_rule ⟨rfl,?_⟩))
 refine wpS_bind (fC hO h0 hn (by omega) hnn hB hs fun m neq st' hB' hm1 hm2 hs' hq he=>?_)
 dsimp only
 have hsz:m≤(arrOf st').size:=by rw [hB'.size]; omega
 by_cases hneq:neq > 0
 ·rw [if_pos hneq]
  refine wpS_bind (wpS_reverse (eP hO h0 hn (by omega) hm2 (hB'.setArr (mirror_perm _ _ _ _)) ?_ h))
  intro i j hij hj
  show κ.kle (KK κ (mirror (arrOf st') _ _ _) j) (KK κ (mirror (arrOf st') _ _ _) i)
  rw [KK_mirror_equal hsz he,KK_mirror_equal hsz he]
  exact hs' i j hij hj
 ·rw [if_neg hneq]
  exact eP hO h0 hn (by omega) hm2 hB' hs' h
theorem fD {st:SortSt} {nrem:Nat} {Q:Option Nat→SortSt→Prop} (hO:bV prog w A s κ0 κ) (h0:KeysOf κ a₀) (hn:nrem≤a₀.size) (h1:1≤nrem) (hB:SBaseT κ0 a₀ st)
  (h:∀m st',SBaseT κ0 a₀ st'→1≤m→m≤nrem→SortedToK κ (arrOf st') m→Q (some m) st') :
  wpS (model prog w) A E s (countRun' 0 nrem) Q st:=by
 rw [countRun0_eq]
 refine wpS_bind (dm hO h0 hn (Nat.le_refl 1) h1 hB (fun i j hij hj=>by have:i=j:=(by omega); subst this; exact KeyOrd.kle_refl _) fun n hn1 hn2 hsn hor=>?_)
 dsimp only
 by_cases hnn:n=nrem
 ·rw [if_pos (by simpa using hnn)]
  exact wpS_pure (h n st hB hn1 hn2 hsn)
 ·rw [if_neg (by simpa using hnn)]
  have hlt:κ.klt (KK κ (arrOf st) n) (KK κ (arrOf st) (n - 1)):=hor.resolve_left hnn
  by_cases hgt:n > 1
  ·rw [if_pos hgt]
   refine wpS_bind (cG hO hB h0 (by omega) (by omega) ?_)
   cases hrose:κ.blt (KK κ (arrOf st) 0) (KK κ (arrOf st) (n - 1))
   case true =>
    simp only [if_true]
    exact wpS_pure (h n st hB hn1 hn2 hsn)
   case false =>
    simp only [Bool.false_eq_true,if_false]
    have hsz:n≤(arrOf st).size:=by rw [hB.size]; omega
    have hall:∀k,0≤k→k < n→KK κ (arrOf st) k=KK κ (arrOf st) (n - 1):=by
     intro k _ hk
     have a1:=hsn 0 k (by omega) hk
     have a2:=hsn k (n - 1) (by omega) (by omega)
     exact KeyOrd.kle_antisymm a2 (KeyOrd.kle_trans hrose a1)
    refine wpS_bind (wpS_reverse (cU hO h0 hn (by omega) (hB.setArr (mirror_perm _ _ _ _)) ?_ h))
    intro i j hij hj
    show κ.kle (KK κ (mirror (arrOf st) _ _ _) j) (KK κ (mirror (arrOf st) _ _ _) i)
    rw [KK_mirror_equal hsz hall,KK_mirror_equal hsz hall]
    by_cases hjn:j < n
    ·rw [hall i (by omega) (by omega),hall j (by omega) hjn]; exact KeyOrd.kle_refl _
    ·have hj':j=n:=by omega
     subst hj'
     by_cases hi':i=j
     ·subst hi'; exact KeyOrd.kle_refl _
     ·rw [hall i (by omega) (by omega)]; exact KeyOrd.kle_of_klt hlt
  ·rw [if_neg hgt]
   have hn1':n=1:=by omega
   subst hn1'
   refine cU hO h0 hn (by omega) hB ?_ h
   intro i j hij hj
   by_cases hi':i=j
   ·subst hi'; exact KeyOrd.kle_refl _
   ·have hi0:i=0:=by omega
    have hj1:j=1:=by omega
    subst hi0; subst hj1
    exact KeyOrd.kle_of_klt hlt
theorem SBaseT.doneK {st:SortSt} (hB:SBaseT κ0 a₀ st) (hs:SortedToK κ (arrOf st) a₀.size):SDoneK κ a₀ (setPending st ((pendingOf st).push (0,a₀.size,0))) :=
 ⟨hB.perm,hB.failed,by show (pendingOf st).push _=_; rw [hB.pend]; rfl,hs⟩
theorem fE {st:SortSt} {Q:Unit→SortSt→Prop} (hO:bV prog w A s κ0 κ) (h0:KeysOf κ a₀) (hB:SBaseT κ0 a₀ st) (h2:2≤a₀.size) (h64:a₀.size < 64)
  (h:∀st',(arrOf st').Perm a₀→failedOf st'=none→SortedToK κ (arrOf st') a₀.size→Q () st'):wpS (model prog w) A E s sortRuns' Q st:=by
 rw [sortRuns'_eq]
 refine wpS_bind (wpS_get ?_)
 dsimp only
 have hmr:minRun' a₀.size a₀.size 0=a₀.size:=by
  obtain ⟨f,hf⟩:∃f,a₀.size=f + 1:=⟨a₀.size - 1,by omega⟩
  have:minRun' (f + 1) a₀.size 0=a₀.size:=by rw [minRun'_succ,if_pos h64]; rfl
  rwa [← hf] at this
 simp only [hB.size,hmr]
 refine wpS_bind (wpS_mono (wpS_forRange
  (I:=fun x c st'=>(x=0∧c=(none,0)∧SBaseT κ0 a₀ st')∨(1≤x∧c=(none,a₀.size)∧SDoneK κ a₀ st'))
  (Q:=fun c st'=>c=(none,a₀.size)∧SDoneK κ a₀ st') ?step ?fin (.inl ⟨rfl,rfl,hB⟩)) ?post)
 case fin =>
  rintro c st' (⟨hx,_,_⟩ | ⟨_,hc,hD⟩)
  ·omega
  ·exact ⟨hc,hD⟩
 case step =>
  rintro x c st' _ hx (⟨rfl,rfl,hB'⟩ | ⟨hx1,rfl,hD⟩)
  ·dsimp only
   rw [if_neg (by omega)]
   simp only [Nat.sub_zero,Nat.min_self,Nat.zero_add]
   refine wpS_bind (fD hO h0 (Nat.le_refl _) (by omega) hB' fun m st2 hB2 hm1 hm2 hs2=>?_)
   dsimp only
   by_cases hlt:m < a₀.size
   ·rw [if_pos hlt]
    refine wpS_bind (wpS_lift (wpAny_rule ⟨rfl,?_⟩))
    refine wpS_bind (eJ hO h0 (Nat.le_refl _) hm2 hB2 hs2 fun st3 hB3 hs3=>?_)
    simp only [Bool.not_true,Bool.false_eq_true,if_false]
    refine wpS_bind (wpS_get ?_)
    have hb:(pendingOf st3).back? = none:=by rw [hB3.pend]; rfl
    rw [hb]
    dsimp only
    exact wpS_bind (wpS_modify (wpS_pure (.inr ⟨by omega,rfl,hB3.doneK hs3⟩)))
   ·rw [if_neg hlt]
    have hm:m=a₀.size:=by omega
    subst hm
    refine wpS_bind (wpS_get ?_)
    have hb:(pendingOf st2).back? = none:=by rw [hB2.pend]; rfl
    rw [hb]
    dsimp only
    exact wpS_bind (wpS_modify (wpS_pure (.inr ⟨by omega,rfl,hB2.doneK hs2⟩)))
  ·dsimp only
   rw [if_pos (Nat.le_refl _)]
   exact wpS_pure ⟨rfl,hD⟩
 case post =>
  rintro c st' ⟨rfl,hD⟩
  dsimp only
  refine wpS_bind (wpS_mono (wpS_forRange (I:=fun _ c st''=>st''=st'∧c=(none,())) (Q:=fun c st''=>st''=st'∧c=(none,())) ?_ (fun _ _ hh=>hh) ⟨rfl,rfl⟩) ?_)
  ·rintro x c st'' _ _ ⟨rfl,rfl⟩
   refine wpS_bind (wpS_get ?_)
   rw [if_pos (by rw [hD.2.2.1]; exact Nat.le_refl 1)]
   exact wpS_pure ⟨rfl,rfl⟩
  ·rintro c st'' ⟨rfl,rfl⟩
   exact wpS_pure (h _ hD.1 hD.2.1 hD.2.2.2)
end
section
variable {prog:Program} {w:World} {A:Around} {E:Value→Shared→Prop} {s:Shared}
theorem eT {κ:KeyKind} {κ0:SortKind} {a:Addr} {vs:List Value} {n:Nat} {P:Fin→Shared→Prop} (ho:s.heap.get? a=some (seqObj "list" vs.toArray n))
  (h0:KeysOf κ (pairsOf vs)) (hkk:∀s':Shared,(∀b o,b≠a→s.heap.get? b=some o→s'.heap.get? b=some o)→bV prog w A s' κ0 κ∧∀v₁ v₂ rest,vs=v₁ :: v₂ :: rest→∀ (Q:SortKind→Shared→Prop),Q κ0 s'→wpAny (model prog w) A (keyKind' (v₁ :: v₂ :: rest).toArray) Q E s') (h64:vs.length < 64)
  (h:∀st':SortSt,(arrOf st').Perm (pairsOf vs)→SortedToK κ (arrOf st') (pairsOf vs).size→P (.done (.ret .none)) { s with heap:=sortedHeap s.heap a vs ((arrOf st').map (·.2)) }) :
  wpAny (model prog w) A (Builtin.«list.sort» ⟨[.ref a],[]⟩) P E s:=by
 rw [list_sort_plain]
 have ha:a < s.heap.objs.size:=Heap.lt_size ho
 refine wpAny_bind (listItems_at ho rfl ?_)
 refine wpAny_bind (listUpdate_at ho rfl ?_)
 obtain ⟨e1,ho1⟩:∃e1,(s.heap.update a (Obj.mapSeq fun _=>#[])).get? a=some (seqObj "list" #[] e1):=⟨_,get?_update_seq ho (fun _=>#[])⟩
 refine wpAny_bind (seqEpoch_at ho1 rfl ?_)
 refine wpAny_bind (wpAny_newTuple ?_)
 refine wpAny_bind (wpAny_newList ?_)
 refine wpAny_holding ?_
 have ho6:(((s.heap.update a (Obj.mapSeq fun _=>#[])).push (seqObj "tuple" vs.toArray 0)).push (seqObj "list" #[] 0)).get? a=some (seqObj "list" #[] e1):=by
  rw [Heap.get?_push_ne _ _ _ (by rw [size_push',Heap.size_update]; exact Nat.ne_of_lt (Nat.lt_succ_of_lt ha)),Heap.get?_push_ne _ _ _ (by rw [Heap.size_update]; exact Nat.ne_of_lt ha)]
  exact ho1
 show wpAny (model prog w) A _ P E { s with heap:=((s.heap.update a (Obj.mapSeq fun _=>#[])).push (seqObj "tuple" vs.toArray 0)).push (seqObj "list" #[] 0) }
 dsimp only
 have hsz:vs.toArray.size=vs.length:=by simp
 have fin:=h
 by_cases h2:vs.toArray.size < 2
 ·rw [if_pos h2,if_pos h2]
  refine wpAny_bind (wpAny_pure ?_)
  rw [StateT.run_pure]
  refine wpAny_bind (wpAny_pure ?_)
  dsimp only
  refine wpAny_bind (seqEpoch_at ho6 rfl ?_)
  refine wpAny_bind (listUpdate_at ho6 rfl ?_ (hsz2:=by rw [Array.size_map]; show (pairsOf vs).size≤_; rw [pairsOf_size,sizeLine_eq]; omega))
  simp only [bne_self_eq_false,Bool.false_eq_true,if_false]
  refine wpAny_pure (fin (SortSt.mk' general' (vs.toArray.zip vs.toArray) #[] 7 none) (Array.Perm.refl _) ?_)
  intro i j hij hj
  have:i=j:=by rw [pairsOf_size] at hj; omega
  subst this; exact KeyOrd.kle_refl _
 ·rw [if_neg h2,if_neg h2]
  obtain ⟨v₁,v₂,rest,rfl⟩:∃v₁ v₂ rest,vs=v₁ :: v₂ :: rest:=by
   match vs,hsz,h2 with
   | [],_,h2=>simp at h2
   | [_],_,h2=>simp at h2
   | v₁ :: v₂ :: rest,_,_=>exact ⟨v₁,v₂,rest,rfl⟩
  have kp:∀b o,b≠a→s.heap.get? b=some o→(((s.heap.update a (Obj.mapSeq fun _=>#[])).push (seqObj "tuple" (v₁ :: v₂ :: rest).toArray 0)).push (seqObj "list" #[] 0)).get? b=some o:=fun b o nb e =>
   Heap.get?_push_of_some _ (Heap.get?_push_of_some _ (by rw [Heap.get?_update_ne _ _ _ _ nb]; exact e))
  obtain ⟨hO,hK⟩:=hkk { s with heap:=((s.heap.update a (Obj.mapSeq fun _=>#[])).push (seqObj "tuple" (v₁ :: v₂ :: rest).toArray 0)).push (seqObj "list" #[] 0) } kp
  refine wpAny_bind (hK _ _ _ rfl _ ?_)
  refine wpAny_bind (wpAny_mono (fE (κ:=κ) (κ0:=κ0) hO (a₀:=pairsOf (v₁ :: v₂ :: rest)) (st:=SortSt.mk' κ0 ((v₁ :: v₂ :: rest).toArray.zip (v₁ :: v₂ :: rest).toArray) #[] 7 none)
   (Q:=fun _ st'=>(arrOf st').Perm (pairsOf (v₁ :: v₂ :: rest))∧failedOf st'=none∧SortedToK κ (arrOf st') (pairsOf (v₁ :: v₂ :: rest)).size)
   h0 ⟨Array.Perm.refl _,rfl,rfl,rfl⟩ (by rw [pairsOf_size]; simp) (by rw [pairsOf_size]; exact h64) fun st' a1 a2 a3=>⟨a1,a2,a3⟩) ?_ fun _ _ e=>e)
  rintro ⟨⟨⟩,st'⟩ s' ⟨rfl,hp,hf,hs⟩
  dsimp only
  refine wpAny_bind (seqEpoch_at ho6 rfl ?_)
  refine wpAny_bind (listUpdate_at ho6 rfl ?_ (hsz2:=by refine Nat.le_trans (Nat.le_of_eq ((Array.size_map ..).trans (hp.size_eq.trans (pairsOf_size _)))) ?_; rw [sizeLine_eq]; omega))
  rw [hf]
  simp only [bne_self_eq_false,Bool.false_eq_true,if_false]
  exact wpAny_pure (fin st' hp hs)
theorem oN {κ:KeyKind} {κ0:SortKind} {l:Addr} {vs:List Value} {Q:Value→Shared→Prop} (hl:s.heap.IsList l vs.toArray) (h0:KeysOf κ (pairsOf vs)) (hkk:∀ (A':Around) (s':Shared),(∀b o,s.heap.get? b=some o→s'.heap.get? b=some o)→bV prog w A' s' κ0 κ∧∀v₁ v₂ rest,vs=v₁ :: v₂ :: rest→∀ (Q:SortKind→Shared→Prop) (E':Value→Shared→Prop),Q κ0 s'→wpAny (model prog w) A' (keyKind' (v₁ :: v₂ :: rest).toArray) Q E' s') (h64:vs.length < 64)
  (h:∀st':SortSt,(arrOf st').Perm (pairsOf vs)→SortedToK κ (arrOf st') (pairsOf vs).size→Q (.ref (s.heap.objs.size + 1)) { s with heap:=sortedAll s.heap vs ((arrOf st').map (·.2)) }) :
  wpAny (model prog w) A (call (.builtin "sorted") [.ref l]) Q E s:=by
 refine Calls.call_function_entry kind_sorted plain_sorted entry_sorted (args_sorted1 _) ?_
 unfold Builtin.«sorted»
 refine wpAny_bind (m:=checkCount "sorted" 1 1 _) (wpAny_pure ?_)
 refine wpAny_bind (collect_list hl ?_)
 refine wpAny_bind (wpAny_newList ?_)
 have hsz:((s.heap.push (seqObj "list" #[] 0)).update s.heap.objs.size (Obj.mapSeq (· ++ vs.toArray))).objs.size=s.heap.objs.size + 1:=by
  rw [Heap.size_update,size_push']
 have hoL:(((s.heap.push (seqObj "list" #[] 0)).update s.heap.objs.size (Obj.mapSeq (· ++ vs.toArray))).push (seqObj "list" vs.toArray 0)).get? (s.heap.objs.size + 1)=some (seqObj "list" vs.toArray 0):=by
  rw [← hsz]; exact Heap.get?_push_size _ rfl
 show wpAny _ _ _ _ _ { s with heap:=((s.heap.push (seqObj "list" #[] 0)).update s.heap.objs.size (Obj.mapSeq (· ++ vs.toArray))).push (seqObj "list" vs.toArray 0) }
 rw [hsz]
 refine wpAny_bind (wpAny_holding (wpAny_call_entry slot_list_sort ⟨_,hoL,rfl⟩ entry_list_sort (eT hoL h0 (fun s' k=>by obtain ⟨a1,a2⟩:=hkk _ s' (fun b o e=>k b o (Nat.ne_of_lt (Nat.lt_succ_of_lt (Heap.lt_size e))) (Heap.get?_push_of_some _ (by rw [Heap.get?_update_ne _ _ _ _ (Nat.ne_of_lt (Heap.lt_size e))]; exact Heap.get?_push_of_some _ e))); exact ⟨a1,fun v1 v2 r e Q q=>a2 v1 v2 r e Q _ q⟩) h64 fun st' a1 a2=>⟨_,rfl,?_⟩) (args_list_sort _)))
 exact wpAny_pure ⟨_,rfl,h st' a1 a2⟩
end
end PyProof.Rows
set_option Elab.async false
set_option linter.all false
set_option maxRecDepth 100000
namespace L2
open PySem PySem.Spec PyProof.Rows
def bH:List Bool→List Value→Option (List Int)
 | [],[]=>some []
 | false :: r,.int i _ :: vs=>(bH r vs).map (i :: ·)
 | true :: r,.bool b :: vs=>(bH r vs).map ((if b=true then 1 else 0) :: ·)
 | _,_=>none
def iD:List Bool→List V→Option (List Int)
 | [],[]=>some []
 | false :: r,.int i :: vs=>(iD r vs).map (i :: ·)
 | true :: r,.bl b :: vs=>(iD r vs).map ((if b=true then 1 else 0) :: ·)
 | _,_=>none
theorem jq:∀ {sh:List Bool} {vs:List V} {us:List Value} {k:List Int},Vals vs us→iD sh vs=some k→bH sh us=some k
 | [],[],_,_,r,h=>by cases r; exact h
 | [],_ :: _,_,_,_,h=>by cases h
 | false :: r,v :: vs,us,k,rv,h=>by
  cases rv with
  | cons r1 r2 =>
   cases v with
   | int i =>
    obtain ⟨t,rfl⟩:=r1
    have h:(iD r vs).map (i :: ·)=some k:=h
    show (bH r _).map (i :: ·)=some k
    cases e:iD r vs with
    | none=>rw [e] at h; cases h
    | some k'=>rw [e] at h; rw [jq r2 e]; exact h
   | _=>cases h
 | true :: r,v :: vs,us,k,rv,h=>by
  cases rv with
  | cons r1 r2 =>
   cases v with
   | bl b =>
    cases (show _=Value.bool b from r1)
    have h:(iD r vs).map ((if b=true then 1 else 0) :: ·)=some k:=h
    show (bH r _).map ((if b=true then 1 else 0) :: ·)=some k
    cases e:iD r vs with
    | none=>rw [e] at h; cases h
    | some k'=>rw [e] at h; rw [jq r2 e]; exact h
   | _=>cases h
 | false :: _,[],_,_,_,h=>by cases h
 | true :: _,[],_,_,_,h=>by cases h
def ck:List Int→List Int→Bool
 | [],[]=>false
 | [],_ :: _=>true
 | _ :: _,[]=>false
 | a :: r,b :: t=>if a=b then ck r t else decide (a < b)
theorem fF:∀a,ck a a=false
 | []=>rfl
 | a :: r=>by rw [ck,if_pos rfl]; exact fF r
theorem gu:∀a b c,ck a b=true→ck b c=true→ck a c=true
 | [],[],_,h,_=>by cases h
 | [],_ :: _,[],_,h=>by cases h
 | [],_ :: _,_ :: _,_,_=>rfl
 | _ :: _,[],_,h,_=>by cases h
 | _ :: _,_ :: _,[],_,h=>by cases h
 | a :: r,b :: t,c :: u,h1,h2=>by
  rw [ck] at h1 h2 ⊢
  by_cases e1:a=b
  ·rw [if_pos e1] at h1
   by_cases e2:b=c
   ·rw [if_pos e2] at h2
    rw [if_pos (e1.trans e2)]
    exact gu r t u h1 h2
   ·rw [if_neg e2] at h2
    rw [if_neg (by rw [e1]; exact e2),e1]; exact h2
  ·rw [if_neg e1] at h1
   have h1:=of_decide_eq_true h1
   by_cases e2:b=c
   ·rw [if_neg (by omega)]; exact decide_eq_true (by omega)
   ·rw [if_neg e2] at h2
    have h2:=of_decide_eq_true h2
    rw [if_neg (by omega)]; exact decide_eq_true (by omega)
theorem km:∀a b c,ck a c=true→ck a b=true∨ck b c=true
 | [],[],_,h=>.inr h
 | [],_ :: _,_,_=>.inl rfl
 | _ :: _,_,[],h=>by cases h
 | _ :: _,[],_ :: _,_=>.inr rfl
 | a :: r,b :: t,c :: u,h=>by
  rw [ck] at h
  rw [ck,ck]
  by_cases e1:a=b
  ·rw [if_pos e1]
   by_cases e2:b=c
   ·rw [if_pos (e1.trans e2)] at h
    rw [if_pos e2]
    exact km r t u h
   ·rw [if_neg (by rw [e1]; exact e2)] at h
    rw [if_neg e2]
    exact .inr (by rw [← e1]; exact h)
  ·rw [if_neg e1]
   by_cases e3:a=c
   ·rw [if_neg (by omega)]
    by_cases z:a < b
    ·exact .inl (decide_eq_true z)
    ·exact .inr (decide_eq_true (by omega))
   ·rw [if_neg e3] at h
    have h:=of_decide_eq_true h
    by_cases z:a < b
    ·exact .inl (decide_eq_true z)
    ·rw [if_neg (by omega)]; exact .inr (decide_eq_true (by omega))
theorem gv:∀a b,ck a b=false→ck b a=false→a=b
 | [],[],_,_=>rfl
 | [],_ :: _,h,_=>by cases h
 | _ :: _,[],_,h=>by cases h
 | a :: r,b :: t,h1,h2=>by
  rw [ck] at h1 h2
  by_cases e:a=b
  ·rw [if_pos e] at h1
   rw [if_pos e.symm] at h2
   rw [e,gv r t h1 h2]
  ·rw [if_neg e] at h1
   rw [if_neg (Ne.symm e)] at h2
   have:=of_decide_eq_false h1
   have:=of_decide_eq_false h2
   exact absurd (show a=b by omega) e
def kY (h:Heap) (sh:List Bool):KeyKind where
 α:=List Int
 blt:=ck
 irrefl:=fF
 trans:=gu
 negTrans:=km
 total:=gv
 keyOf:=fun v=>match v with
  | .ref a=>match h.get? a with
   | some o=>match o.data with
    | .seq xs _=>bH sh xs.toList
    | _=>none
   | none=>none
  | _=>none
 dflt:=[]
theorem kn {h:Heap} {sh:List Bool} {v:Value} {k:List Int} (e:(kY h sh).keyOf v=some k):∃a o xs n,v=.ref a∧h.get? a=some o∧o.data=.seq xs n∧bH sh xs.toList=some k:=by
 cases v with
 | ref a =>
  have e:(match h.get? a with
   | some o=>match o.data with
    | .seq xs _=>bH sh xs.toList
    | _=>none
   | none=>none)=some k:=e
  cases h1:h.get? a with
  | none=>rw [h1] at e; cases e
  | some o =>
   rw [h1] at e
   cases h2:o.data with
   | seq xs n =>
    have e:(match o.data with
     | .seq xs _=>bH sh xs.toList
     | _=>none)=some k:=e
    rw [h2] at e
    exact ⟨a,o,xs,n,rfl,h1,h2,e⟩
   | _ =>
    have e:(match o.data with
     | .seq xs _=>bH sh xs.toList
     | _=>none)=some k:=e
    rw [h2] at e; cases e
 | _=>cases e
theorem dR:∀ {sh:List Bool} {us:List Value} {k:List Int},bH sh us=some k→us.length=sh.length
 | [],[],_,_=>rfl
 | [],_ :: _,_,h=>by cases h
 | false :: r,[],_,h=>by cases h
 | true :: r,[],_,h=>by cases h
 | false :: r,v :: vs,k,h=>by
  cases v with
  | int i t =>
   have h:(bH r vs).map (i :: ·)=some k:=h
   cases e:bH r vs with
   | none=>rw [e] at h; cases h
   | some k'=>rw [List.length_cons,List.length_cons,dR e]
  | _=>cases h
 | true :: r,v :: vs,k,h=>by
  cases v with
  | bool b =>
   have h:(bH r vs).map ((if b=true then 1 else 0) :: ·)=some k:=h
   cases e:bH r vs with
   | none=>rw [e] at h; cases h
   | some k'=>rw [List.length_cons,List.length_cons,dR e]
  | _=>cases h
section
variable {prog:Program} {w:World} {A:Around} {E:Value→Shared→Prop} {s:Shared}
theorem iE {a b:Bool} {Q:Bool→Shared→Prop} (h:Q (a == b) s):wpAny (model prog w) A (eqBool (.bool a) (.bool b)) Q E s:=by
 unfold eqBool
 show wpAny _ _ (if (Value.bool a == Value.bool b)=true then _ else _) Q E s
 by_cases hab:(Value.bool a == Value.bool b)=true
 ·rw [if_pos hab]
  have e:a=b:=by have:=eq_of_beq hab; injection this
  subst e
  exact wpAny_bind (wpAny_rule (wpAny_pure (by simpa using h)))
 ·rw [if_neg hab]
  exact wpAny_bind (eq_bool (wpAny_truthy_bool h))
theorem gN {bb:Bool} {Q:Bool→Shared→Prop}:∀ (sh:List Bool) (xs ys:List Value) (a c:List Int) (i:Nat),bH sh xs=some a→bH sh ys=some c→((bb && i == 0)=true→sh.head? = some false∨sh=[])→Q (ck a c) s→PySem.W.KatLex prog w A bb false Q (xs.zip ys) i s
 | [],[],[],a,c,i,h1,h2,_,q=>by cases h1; cases h2; exact PySem.W.kat_nil q
 | [],_ :: _,_,_,_,_,h,_,_,_=>by cases h
 | [],[],_ :: _,_,_,_,_,h,_,_=>by cases h
 | false :: r,[],_,_,_,_,h,_,_,_=>by cases h
 | true :: r,[],_,_,_,_,h,_,_,_=>by cases h
 | false :: r,_ :: _,[],_,_,_,_,h,_,_=>by cases h
 | true :: r,_ :: _,[],_,_,_,_,h,_,_=>by cases h
 | false :: r,v :: vs,u :: us,a,c,i,h1,h2,hb,q=>by
  cases v with
  | int p t=>cases u with
   | int p' t' =>
    have h1:(bH r vs).map (p :: ·)=some a:=h1
    have h2:(bH r us).map (p' :: ·)=some c:=h2
    cases e1:bH r vs with
    | none=>rw [e1] at h1; cases h1
    | some a' =>
     cases e2:bH r us with
     | none=>rw [e2] at h2; cases h2
     | some c' =>
      rw [e1] at h1; rw [e2] at h2
      cases h1; cases h2
      rw [ck] at q
      refine PySem.W.kat_cons (wpAny_eqBool_int (PySem.W.kat_go (fun e=>PySem.W.kat_yes ?_) (fun e=>PySem.W.kat_no ?_)))
      ·rw [if_pos (by simpa using e)] at q
       exact gN r vs us a' c' (i + 1) e1 e2 (fun z=>by simp at z) q
      ·rw [if_neg (by simpa using e)] at q
       cases z:(bb && i == 0) with
       | true=>exact oneLt_int q
       | false=>exact PySem.W.kat_one _ _ (PyProof.Rows.lt_int q)
   | _=>cases h2
  | _=>cases h1
 | true :: r,v :: vs,u :: us,a,c,i,h1,h2,hb,q=>by
  cases v with
  | bool p=>cases u with
   | bool p' =>
    have h1:(bH r vs).map ((if p=true then 1 else 0) :: ·)=some a:=h1
    have h2:(bH r us).map ((if p'=true then 1 else 0) :: ·)=some c:=h2
    cases e1:bH r vs with
    | none=>rw [e1] at h1; cases h1
    | some a' =>
     cases e2:bH r us with
     | none=>rw [e2] at h2; cases h2
     | some c' =>
      rw [e1] at h1; rw [e2] at h2
      cases h1; cases h2
      rw [ck] at q
      refine PySem.W.kat_cons (iE (PySem.W.kat_go (fun e=>PySem.W.kat_yes ?_) (fun e=>PySem.W.kat_no ?_)))
      ·have e:p=p':=by simpa using e
       rw [if_pos (by rw [e])] at q
       exact gN r vs us a' c' (i + 1) e1 e2 (fun z=>by simp at z) q
      ·have e:p≠p':=by simpa using e
       rw [if_neg (by cases p <;> cases p' <;> simp_all)] at q
       cases z:(bb && i == 0) with
       | true=>rcases hb z with z | z <;> cases z
       | false =>
        refine PySem.W.kat_one _ _ (PyProof.Rows.lt_bool ?_)
        show Q (decide (b2i p < b2i p')) s
        rw [show decide (b2i p < b2i p')=decide ((if p=true then (1:Int) else 0) < (if p'=true then 1 else 0)) by cases p <;> cases p' <;> rfl]
        exact q
   | _=>cases h2
  | _=>cases h1
theorem kZ {h:Heap} {sh:List Bool} (h0:sh.head? = some false) (k:∀b o,h.get? b=some o→s.heap.get? b=some o):bV prog w A s (tuples' true) (kY h sh):=by
 intro E x y a b Q ha hb q
 obtain ⟨x',ox,xs,n,rfl,hx,dx,fx⟩:=kn ha
 obtain ⟨y',oy,ys,m,rfl,hy,dy,fy⟩:=kn hb
 have l1:=dR fx
 have l2:=dR fy
 refine PySem.W.kat_lt (k _ _ hx) dx (k _ _ hy) dy ?_
 rw [show decide (xs.size < ys.size)=false from decide_eq_false (by rw [← Array.length_toList,← Array.length_toList]; omega)]
 exact gN sh _ _ a b 0 fx fy (fun _=>.inl h0) q
end
theorem gw:∀ {as:List Addr} {its:List Value},Vals (as.map V.ref) its→its=as.map Value.ref
 | [],_,r=>by cases r; rfl
 | a :: as,_,r=>by
  cases r with
  | cons r1 r2 =>
   have e:_=Value.ref a:=r1
   subst e
   rw [List.map_cons,gw r2]
theorem gx:∀as:List Addr,Vals (as.map V.ref) (as.map Value.ref)
 | []=>.nil
 | a :: as=>.cons rfl (gx as)
theorem mR {α β:Type} {f:α→β} (g:β→Option α) (hg:∀a,g (f a)=some a) {l:List β} {as:List α} (h:l.Perm (as.map f)):∃as':List α,l=as'.map f∧as'.Perm as:=by
 refine ⟨l.filterMap g,?_,?_⟩
 ·have all:∀x∈l,∃a,f a=x:=fun x hx=>by
   obtain ⟨a,_,e⟩:=List.mem_map.mp (h.mem_iff.mp hx)
   exact ⟨a,e⟩
  clear h
  induction l with
  | nil=>rfl
  | cons x r ih =>
   obtain ⟨a,rfl⟩:=all x List.mem_cons_self
   rw [List.filterMap_cons,hg a,List.map_cons,← ih fun y hy=>all y (List.mem_cons_of_mem _ hy)]
 ·have:=h.filterMap g
  rw [List.filterMap_map,show (g∘f)=some from funext hg,List.filterMap_some] at this
  exact this
theorem eQ {h:Heap} {sh:List Bool} {key:Addr→List Int} (h0:sh.head? = some false):∀ (as:List Addr),(∀a∈as,∃o us n,h.get? a=some o∧o.cls=.type "tuple" ∧ o.data=.seq (List.toArray us) n∧bH sh us=some (key a))→∃fs,PySem.W.KatTups h (as.map Value.ref) fs∧fs.length=as.length∧∀v∈fs,∃i t,v=Value.int i t
 | [],_=>⟨[],trivial,rfl,fun v hv=>by cases hv⟩
 | a :: as,H=>by
  obtain ⟨fs,h1,h2,h3⟩:=eQ h0 as fun b hb=>H b (List.mem_cons_of_mem _ hb)
  obtain ⟨o,us,n,e,c,d,f⟩:=H a List.mem_cons_self
  obtain ⟨r,hr⟩:∃r,sh=false :: r:=by
   cases sh with
   | nil=>cases h0
   | cons x r=>cases h0; exact ⟨r,rfl⟩
  subst hr
  cases us with
  | nil=>cases f
  | cons u us =>
   cases u with
   | int i t=>exact ⟨.int i t :: fs,PySem.W.KatTups.cons e c d (by simp) h1,by rw [List.length_cons,List.length_cons,h2],fun v hv=>(List.mem_cons.mp hv).elim (fun z=>⟨i,t,z⟩) (h3 v)⟩
   | _=>cases f
section
variable {X:Cx}
def qJ (K:PySem.W.Frag) (xs:List V) (H:Hp) (Q:VK):Prop:=∃ (p:Addr) (as:List Addr) (sh:List Bool) (key:Addr→List Int),xs=[.ref p]∧SqL K H p (as.map V.ref)∧as.length < 64∧sh.head? = some false∧(∀a∈as,∃vs,SqT K H a vs∧iD sh vs=some (key a)) ∧
 ∀ (l:Addr) (as':List Addr),H l=none→as'.Perm as→(as'.map key).Pairwise (fun x y=>ck y x=false)→Q (.ref l) (upd H l (.lst (as'.map V.ref)))
theorem dS:cD X (.builtin "sorted") (qJ X.K):=by
 intro pins s σ H xs us Q I r h
 obtain ⟨p,as,sh,key,rfl,hs,h64,h0,hk,q⟩:=h
 obtain ⟨u,rfl,rfl⟩:=eM r
 obtain ⟨its,rv,pl,_⟩:=I.list hs
 have ei:=gw rv
 subst ei
 have tu:∀a∈as,∃o us n,s.heap.get? a=some o∧o.cls=.type "tuple" ∧ o.data=.seq (List.toArray us) n∧bH sh us=some (key a):=fun a ha=>by
  obtain ⟨vs,hv,hf⟩:=hk a ha
  obtain ⟨us,r,⟨o,e,c,n,d⟩,_⟩:=I.tuple hv
  exact ⟨o,us,n,e,c,d,jq r hf⟩
 have kof:∀a∈as,(kY s.heap sh).keyOf (.ref a)=some (key a):=fun a ha=>by
  obtain ⟨o,us,n,e,c,d,f⟩:=tu a ha
  show (match s.heap.get? a with
   | some o=>match o.data with
    | .seq xs _=>bH sh xs.toList
    | _=>none
   | none=>none)=some (key a)
  rw [e]
  show (match o.data with
    | .seq xs _=>bH sh xs.toList
    | _=>none)=some (key a)
  rw [d]
  exact f
 refine oN (κ:=kY s.heap sh) (κ0:=tuples' true) pl.isList ?keys ?kk (by rw [List.length_map]; exact h64) fun st' hp hs'=>?_
 case keys =>
  intro pr hpr
  rw [pairsOf_toList] at hpr
  obtain ⟨a,ha,e⟩:=List.mem_map.mp (List.of_mem_zip (show (pr.1,pr.2)∈_ from hpr)).1
  exact ⟨key a,by rw [← e]; exact kof a ha⟩
 case kk =>
  intro A' s' k
  refine ⟨kZ h0 k,fun v1 v2 rest e Q E' q=>?_⟩
  obtain ⟨fs,f1,f2,f3⟩:=eQ (h:=s'.heap) (key:=key) h0 as fun a ha=>by
   obtain ⟨o,us,n,e,c,d,f⟩:=tu a ha
   exact ⟨o,us,n,k _ _ e,c,d,f⟩
  rw [e] at f1
  have:(as.map Value.ref).length=rest.length + 2:=by rw [e]; rfl
  rw [List.length_map] at this
  refine PySem.W.kat_kind (T:=.type "int") f1 (by omega) (fun v hv=>?_) rfl q
  obtain ⟨i,t,rfl⟩:=f3 v hv
  exact PySem.W.Looks.of_pure rfl
 have pz:∀l:List Addr,(l.map Value.ref).zip (l.map Value.ref)=l.map fun a=>(Value.ref a,Value.ref a):=fun l=>by
  induction l with
  | nil=>rfl
  | cons a l ih=>rw [List.map_cons,List.zip_cons_cons,ih,List.map_cons]
 have hp':=Array.perm_iff_toList_perm.mp hp
 rw [pairsOf_toList,pz] at hp'
 obtain ⟨as',ea,pa⟩:=mR (f:=fun a=>(Value.ref a,Value.ref a)) (fun pr=>match pr.1 with
  | .ref a=>some a
  | _=>none) (fun a=>rfl) hp'
 have eo:((arrOf st').map (·.2)).toList=as'.map Value.ref:=by
  rw [Array.toList_map,ea,List.map_map]; rfl
 obtain ⟨e,he⟩:=sortedAll_at s.heap (as.map Value.ref) ((arrOf st').map (·.2))
 have hn:H (s.heap.objs.size + 1)=none:=I.hok.fresh (Nat.le_succ _)
 refine ⟨.ref (s.heap.objs.size + 1),upd H (s.heap.objs.size + 1) (.lst (as'.map V.ref)),I.laid (o:=.lst (as'.map V.ref)) (t':=s.toks) (fun _ _=>sortedAll_old) (Nat.le_succ _) (show ObjOk _ _ _ _ _ (.lst _) from ⟨?_,((arrOf st').map (·.2)).toList,e,?_,?_⟩),rfl,q _ as' hn pa ?_⟩
 ·rw [List.length_map,pa.length_eq]
  have:(64:Nat)≤sizeLine:=by decide
  omega
 ·rw [eo]; exact gx as'
 ·rw [he]
 ·rw [List.pairwise_iff_getElem]
  intro i j hi hj hij
  rw [List.length_map] at hi hj
  have sz:(pairsOf (as.map Value.ref)).size=as.length:=by rw [pairsOf_size,List.length_map]
  have kk:∀i (hi:i < as'.length),KK (kY s.heap sh) (arrOf st') i=key as'[i]:=fun i hi=>by
   have e:(arrOf st')[i]? = some (Value.ref as'[i],Value.ref as'[i]):=by
    rw [← Array.getElem?_toList,ea,List.getElem?_map,List.getElem?_eq_getElem hi]; rfl
   unfold KK
   rw [e]
   show ((kY s.heap sh).keyOf (.ref as'[i])).getD _=_
   rw [kof _ (pa.mem_iff.mp (List.getElem_mem hi))]; rfl
  have:=hs' i j (by omega) (by rw [sz,← pa.length_eq]; exact hj)
  rw [kk i hi,kk j hj] at this
  rw [List.getElem_map,List.getElem_map]
  exact this
end
end L2
set_option Elab.async false
set_option linter.all false
set_option maxRecDepth 100000
namespace PySem
open Spec
section
variable {prog:Program} {w:World} {A:Around} {E:Value→Shared→Prop} {s:Shared} {l:Addr} {xs:Array (Int×Tok)}
end
end PySem
namespace L2
open PySem PySem.Spec PyProof.Rows
section
variable {X:Cx}
theorem mS {lo:Int} {n:Nat} {σ:St} {cap:List Nat} {k:Nat} {g:TG} {tt:TT} {te:TE} {Q:List V→Hp→Prop} {H:Hp} (Pv:Nat→List V→Hp→Prop) (h0:Pv 0 [] H)
  (ht:∀i ys H',i < n→Pv i ys H'→ys.length < sizeLine∧g (.int (lo + i)) (bG σ cap k) H' fun σ2 H2=>leS (bG σ cap k) σ2∧tt σ2 H2 fun ok H3=>if ok=true then te σ2 H3 (fun v H4=>Nx n Pv i (ys ++ [v]) H4) else Nx n Pv i ys H3)
  (hd:∀ys H',Pv n ys H'→ys.length≤sizeLine∧Q ys H'):∃W,(∃m,W 0 m [] H)∧gj σ cap k (Itr lo n) g tt te Q W:=by
 refine ⟨fun i m ys H'=>m=n - i∧i≤n∧Pv i ys H',⟨_,rfl,Nat.zero_le _,h0⟩,?_⟩
 rintro i m ys H' ⟨rfl,hi,p⟩
 by_cases hin:i < n
 ·obtain ⟨e,hg⟩:=ht i ys H' hin p
  refine .inr ⟨hin,e,fun x H2 yl=>?_⟩
  obtain ⟨e1,e2⟩:=yl
  subst e1 e2
  exact hg
 ·have e:i=n:=by omega
  subst e
  obtain ⟨a1,a2⟩:=hd ys H' p
  exact .inl ⟨Nat.le_refl _,a1,a2⟩
end
end L2
namespace PySem
theorem Paired.getL {α β:Type} {F:α→β→Prop}:∀ {l₁:List α} {l₂:List β} {i:Nat} {y:β},Paired F l₁ l₂→l₂[i]? = some y→∃x,l₁[i]? = some x∧F x y
 | _,_,_,_,.nil,e=>by simp at e
 | _,_,0,_,.cons h _,e=>by simp at e; subst e; exact ⟨_,rfl,h⟩
 | _,_,i + 1,y,.cons _ t,e=>by
  obtain ⟨x,h1,h2⟩:=Paired.getL (i:=i) t (by simpa using e)
  exact ⟨x,by simpa using h1,h2⟩
end PySem
set_option Elab.async false
set_option linter.all false
set_option maxRecDepth 100000
namespace L2
open PySem PySem.Spec PyProof.Rows
section
variable {M:Model} {A:Around} {E:Value→Shared→Prop} {s:Shared}
end
structure CompOkC (X:Cx) (scope:Scope) (own:List Str) (cs:List Str) (cap:List Nat):Prop where
 kind:scope.kind=.function
 names:∀y∈scope.names,y.2=.local→scope.names.lookup y.1=some .local
 free:∀y∈scope.names,y.2=.free→X.env.kindOf y.1=some .cell∨X.env.kindOf y.1=some .free
 caps:∀ (i:Nat) y,cs[i]? = some y→∃j,cap[i]? = some j∧X.N[j]? = some y∧(y,NameKind.free)∈scope.names
 len:cs.length=cap.length
 free2:∀y,(y,NameKind.free)∈scope.names→scope.names.lookup y=some .local→False
 free3:∀y,(y,NameKind.free)∈scope.names→scope.names.lookup y=some .cell→False
 free4:∀y,(y,NameKind.free)∈scope.names→(y,NameKind.cell)∉scope.names
section
variable {X:Cx} {pins:List (Addr×Obj)} {σ:St} {H2:Hp} {s2:Shared} {scope:Scope} {own cs:List Str} {cap:List Nat} {fp:List Addr}
end
section
variable {X:Cx} {pins:List (Addr×Obj)} {σ:St} {H2:Hp} {s2:Shared} {scope:Scope} {own cs:List Str} {cap:List Nat} {fp:List Addr} {it:Addr} {tn:Nat→Heap→Prop}
 {elt tg iter:Expr} {ifs:List Expr} {pos:Pos} {J:It} {g:TG} {tt:TT} {te:TE} {E:Value→Shared→Prop} {W:Nat→Nat→List V→Hp→Prop} {Qf:List V→Hp→Prop}
end
def uj (K:PySem.W.Frag):List V→Hp→VK→Prop:=fun xs H Q=>∃p ys,xs=[.ref p]∧(SqL K H p ys∨SqT K H p ys)∧Q (.int ys.length) H
end L2
set_option Elab.async false
set_option linter.all false
set_option maxRecDepth 100000
namespace L2
open PySem PySem.Spec PyProof.Rows
def ItE (K:PySem.W.Frag) (l:Addr):It :=
  ⟨fun i H=>∃xs x,SqT K H l xs∧xs[i]? = some x,
   fun i H v H'=>∃p x,H p=none∧v=.ref p∧H'=upd H p (.tup [.int i,x])∧∀xs,SqT K H l xs→xs[i]? = some x,
   fun i H=>∃xs,SqT K H l xs∧xs.length≤i⟩
section
variable {X:Cx} {pins:List (Addr×Obj)} {σ:St} {H:Hp} {s:Shared}
theorem jr {tn:Nat→Heap→Prop} {es:List Expr} {kk:Nat} {tp:Pos} {e it l:Addr} {i:Nat} {xs:List V} {x:V} {u:Value} {tk:Nat} {h':Heap} {E:Value→Shared→Prop} (hne:e≠it) (I:Inv X pins σ H s) (hf:∀b∈[e,it],dI X pins H b) (hl:SqT X.K H l xs) (hx:xs[i]? = some x)
  (ho:∀b∈[e, it], b < s.heap.objs.size) (r:RelV x u) (b1:IsEnumOut h' e it ((i:Int) + 1) u s.heap.objs.size) (b3:h'.get? s.heap.objs.size=some { cls:=.type "tuple", data:=.seq #[.int i tk, u] })
  (bk:∀b o,b≠e→b≠it→s.heap.get? b=some o→h'.get? b=some o) (hn:∀h'',IsEnum h'' e it ((i + 1:Nat):Int) u→Heap.SameBut e h' h''→tn (i + 1) h'') :
  wpAny (model X.prog X.w) X.A (letOwnedTupleGo (.Tuple es kk tp) (.ref e) (.ref s.heap.objs.size)) (fun _ s2=>∃x H',Inv X pins σ H' s2∧RelV x (.ref s.heap.objs.size)∧(ItE X.K l).yld i H x H'∧tn (i + 1) s2.heap∧∀b∈[e,it],H' b=none) E { s with heap:=h',toks:=tk + 1 }:=by
 refine wpAny_letOwnedTupleGo_enum b1 fun h'' c1 cs=>?_
 have es':e < s.heap.objs.size:=ho e (by simp)
 have k2:∀b o,b∉[e,it]→s.heap.get? b=some o→h''.get? b=some o:=fun b o hb q=>by
  simp only [List.mem_cons,List.not_mem_nil,or_false,not_or] at hb
  exact cs.extBut b o hb.1 (bk b o hb.1 hb.2 q)
 have I1:Inv X pins σ H { s with heap:=h'',toks:=tk + 1 }:=I.turnedN (t':=tk + 1) hf k2
 have hp:h''.get? s.heap.objs.size=some { cls:=.type "tuple", data:=.seq #[.int i tk, u] }:=cs.extBut _ _ (Nat.ne_of_gt es') b3
 have hn0:H s.heap.objs.size=none:=I.hok.fresh (Nat.le_refl _)
 have fpk:=I.fpOk (H':=H) (Nat.le_refl _) hn0
 have I2:Inv X pins σ (upd H s.heap.objs.size (.tup [.int i,x])) { s with heap:=h'',toks:=tk + 1 }:=I1.track fpk I.sz ⟨by show 2≤sizeLine; decide,[.int i tk,u],.cons ⟨tk,rfl⟩ (.cons r .nil),_,hp,rfl,_,rfl⟩
 refine ⟨.ref s.heap.objs.size,_,I2,rfl,⟨_,x,hn0,rfl,rfl,fun ys hy=>by rw [I.tuple_inj hy hl]; exact hx⟩,hn h'' c1 cs,fun b hb=>?_⟩
 rw [az (Nat.ne_of_lt (ho b hb))]
 exact (hf b hb).1
end
theorem js {P:Program} {w:World} {K:PySem.W.Frag} {es:List Expr} {kk:Nat} {tp:Pos} (l e it:Addr) (hne:e≠it) :
  Turn P w K (.Tuple es kk tp) (ItE K l) [e,it] e (fun i h=>(∃old,IsEnum h e it i old)∧h.IsTupleIter it l i) where
 mem:=by simp
 obj:=fun i h st b hb=>by
  obtain ⟨⟨old,a1⟩,⟨o2,a2,_,d2⟩⟩:=st
  simp only [List.mem_cons,List.not_mem_nil,or_false] at hb
  rcases hb with rfl | rfl
  ·exact ⟨_,a1,fun v q=>by cases q⟩
  ·exact ⟨_,a2,fun v q=>by rw [d2] at q; cases q⟩
 keep:=fun i h h' st k=>by
  obtain ⟨⟨old,a1⟩,a2⟩:=st
  exact ⟨⟨old,k e (by simp) _ a1⟩,a2.at fun o q=>k it (by simp) o q⟩
 item:=by
  intro X hP hw hK hc i pins s σ H E I hf st hg
  subst hP hw hK
  obtain ⟨⟨old,a1⟩,a2⟩:=st
  obtain ⟨xs,x,e1,ex⟩:=hg
  obtain ⟨its,rv,p1,_⟩:=I.tuple e1
  obtain ⟨u,hu,r⟩:=rv.get ex
  have lt:i < its.toArray.size:=by simp; exact (List.getElem?_eq_some_iff.mp hu).1
  have ho:∀b∈[e,it],b < s.heap.objs.size:=fun b hb=>by
   obtain ⟨o2,a2',_⟩:=a2
   simp only [List.mem_cons,List.not_mem_nil,or_false] at hb
   rcases hb with rfl | rfl
   ·exact Heap.lt_size a1
   ·exact Heap.lt_size a2'
  have p1':s.heap.IsTuple l its.toArray:=p1
  have nl:∀b∈[e,it],l≠b:=fun b hb q=>by
   obtain ⟨o1,g1,g2,_⟩:=p1'
   simp only [List.mem_cons,List.not_mem_nil,or_false] at hb
   rcases hb with rfl | rfl
   ·rw [q,a1] at g1; cases g1; exact absurd (Value.type.inj g2) (by decide)
   ·obtain ⟨o2,g3,g4,_⟩:=a2
    rw [q,g3] at g1; cases g1; rw [g4] at g2; exact absurd (Value.type.inj g2) (by decide)
  have DD:Draws X.prog X.w X.A.in1 it [it,l] its.toArray.size (fun i v=>its.toArray[i]? = some v) (fun i h=>h.IsTupleIter it l i∧h.IsTuple l its.toArray):=iy (show X.A.in1.handled=none from I.ok.hd hc) it l (nl it (by simp)) its.toArray
  refine wpAny_pyNext_enum_itemD DD a1 ⟨a2,p1'⟩ lt hne (by simp only [List.mem_cons,List.not_mem_nil,or_false,not_or]; exact ⟨hne,Ne.symm (nl e (by simp))⟩) fun x' h' tk px b1 b2 b3 b4 bk=>⟨_,rfl,?_⟩
  have hu':its.toArray[i]? = some u:=by simpa using hu
  have eu:u=x':=Option.some.inj (hu'.symm.trans px)
  subst eu
  exact jr (tn:=fun i h=>(∃old,IsEnum h e it i old)∧h.IsTupleIter it l i) hne I hf e1 ex ho r b1 b3 bk fun h'' c1 cs=>⟨⟨u,c1⟩,b2.1.extBut cs.extBut (Ne.symm hne)⟩
 done:=by
  intro X hP hw hK hc i pins s σ H E I hf st hg
  subst hP hw hK
  obtain ⟨⟨old,a1⟩,a2⟩:=st
  obtain ⟨xs,e1,ex⟩:=hg
  obtain ⟨its,rv,p1,_⟩:=I.tuple e1
  have lv:=rv.length
  have p1':s.heap.IsTuple l its.toArray:=p1
  have hT:s.TypeIs (.ref e) "enumerate" := ⟨_,a1,rfl⟩
  unfold pyNext
  refine wpAny_bind (wpAny_attempt (wpAny_callSpecial?_slot (name:=Str.ofString "__next__") hT F.slot_enumerate_next
   (wpAny_call_entry F.slot_enumerate_next hT F.entry_enumerate_next ?_ (F.args_enumerate_next_1 _))))
  show wpAny _ _ (field (.ref e) 2 >>= _) _ _ _
  refine wpAny_bind (wpAny_field a1 rfl (x:=.ref it) rfl ?_)
  refine wpAny_bind (cg (I.ok.hd hc) a2 p1' (by simp; omega) fun h' x he' hx'=>?_)
  obtain ⟨o,ho,hc⟩:=hx'
  refine wpAny_bind (wpAny_isInstance (T := "StopIteration") (b:=true) ⟨o,ho,hc⟩ isSubtype_stop ?_)
  refine wpAny_pure ⟨rfl,?_⟩
  exact I.turnedN (t':=s.toks) hf fun b o hb q=>by
   simp only [List.mem_cons,List.not_mem_nil,or_false,not_or] at hb
   exact he' b o hb.2 q
 self:=fun _ _ _ _ _ st h=>by obtain ⟨⟨old,a1⟩,_⟩:=st; exact wpAny_pyIter_enum a1 h
def qK (K:PySem.W.Frag) (ta:TA):TI:=fun σ H R=>ta σ H fun vs H1=>∃l xs,vs=[.ref l]∧SqT K H1 l xs∧R (ItE K l) H1
theorem mT {X:Cx} {a:Expr} {ta:TA} {p pos tp:Pos} {es:List Expr} {kk:Nat} (hg:Gl X "enumerate") (hm:X.mg "enumerate" = none) (ha:PA X [a] ta)
  (hs:starEach [a] X.env=[(false,eval a X.env)]:=by rfl) :
  PI X (.Tuple es kk tp) (.Call (.Name "enumerate" p) [a] [] pos) (qK X.K ta):=by
 intro pins s σ H R I h
 refine Call_ (du I hg hm PyProof.Rows.boot_enumerate (PyProof.Rows.callWith_type1 (thn (ha pos pins s σ H _ I h) fun us s1 ⟨vs,H1,I1,r1,q1⟩=>?_) (by rw [hs]; rfl) (by rfl)))
 obtain ⟨l,xs,rfl,e1,q⟩:=q1
 cases r1 with
 | cons r rr =>
  cases rr
  cases r
  obtain ⟨its1,rv1,p1,_⟩:=I1.tuple e1
  have p1':s1.heap.IsTuple l its1.toArray:=p1
  refine ci p1' fun h' z1 z2 sz keep=>?_
  have I2:Inv X pins σ H1 { s1 with heap:=h' }:=I1.kept (t':=s1.toks) keep
  refine wpAny_pyIter_enum z1 ⟨s1.heap.objs.size + 1,[s1.heap.objs.size + 1,s1.heap.objs.size],_,_,H1,rfl,I2,js l _ _ (Nat.succ_ne_self _),⟨⟨_,z1⟩,z2⟩,fun b hb=>?_,q⟩
  have hb':s1.heap.objs.size≤b:=by
   simp only [List.mem_cons,List.not_mem_nil,or_false] at hb
   rcases hb with rfl | rfl <;> omega
  exact I1.fpOk hb' (I1.hok.fresh hb')
theorem lf {K:PySem.W.Frag} {l:Addr} {xs:List V} {g:TG} {tb:TS} {D:Ends} {σ:St} {H:Hp} (Pv:Nat→St→Hp→Prop) (h0:Pv 0 σ H) (hk:∀i σ H',Pv i σ H'→SqT K H' l xs)
  (ht:∀i x p σ H,xs[i]? = some x→H p=none→Pv i σ H→g (.ref p) σ (upd H p (.tup [.int i,x])) fun σ2 H2=>tb { D with nx:=Pv (i + 1),ct:=Pv (i + 1),bk:=D.nx } σ2 H2) (hd:∀σ H,Pv xs.length σ H→D.nx σ H) :
  ∃W:Nat→Nat→St→Hp→Prop,(∃m,W 0 m σ H)∧∀i m σ H,W i m σ H →
   ((ItE K l).stop i H∧D.nx σ H)∨((ItE K l).go i H∧∃N:St→Hp→Prop,(∀σ' H',N σ' H'→∃m',m' < m∧W (i + 1) m' σ' H')∧∀x H',(ItE K l).yld i H x H'→g x σ H' fun σ2 H2=>tb { D with nx:=N,ct:=N,bk:=D.nx } σ2 H2):=by
 refine ⟨fun i m σ H=>m=xs.length - i∧i≤xs.length∧Pv i σ H,⟨xs.length,by simp,Nat.zero_le _,h0⟩,?_⟩
 rintro i m σ H ⟨rfl,hi,p⟩
 have e1:=hk i σ H p
 by_cases hlt:i < xs.length
 ·refine .inr ⟨⟨xs,xs[i],e1,by simp [hlt]⟩,Pv (i + 1),fun σ' H' p'=>⟨xs.length - (i + 1),by omega,rfl,hlt,p'⟩,fun v H' y=>?_⟩
  obtain ⟨q,x,hq,rfl,rfl,ex⟩:=y
  exact ht i x q σ H (ex _ e1) hq p
 ·have e:i=xs.length:=by omega
  subst e
  exact .inl ⟨⟨xs,e1,Nat.le_refl _⟩,hd σ H p⟩
end L2
set_option Elab.async false
set_option linter.all false
set_option maxRecDepth 100000
namespace L2
open PySem PySem.Spec PyProof.Rows
section
variable {X:Cx}
def oO:V→List V→Hp→VK→Prop:=fun x vs H Q=>∃l xs i y,x=.ref l∧vs=[.int i,y]∧H l=some (.lst xs)∧0≤i∧i≤xs.length∧xs.length < sizeLine∧Q .non (upd H l (.lst (xs.take i.toNat ++ y :: xs.drop i.toNat)))
theorem iF:∀ (n:Nat) {xs:List V} {us:List Value},Vals xs us→Vals (xs.take n) (us.take n)
 | 0,_,_,_=>.nil
 | _ + 1,_,_,.nil=>.nil
 | n + 1,_,_,.cons a r=>.cons a (iF n r)
theorem iG:∀ (n:Nat) {xs:List V} {us:List Value},Vals xs us→Vals (xs.drop n) (us.drop n)
 | 0,_,_,h=>h
 | _ + 1,_,_,.nil=>.nil
 | n + 1,_,_,.cons _ r=>iG n r
theorem lg:MtM X "list.insert" oO:=by
 intro pins s σ H x vs v us Q I rx rv h
 obtain ⟨l,xs,i,y,rfl,rfl,hH,i0,i1,hz,q⟩:=h
 cases rx
 cases rv with
 | cons r1 r2 =>
 obtain ⟨t,rfl⟩:=r1
 cases r2 with
 | cons ru r3 =>
 cases r3
 obtain ⟨z,its,n,r,hl,e⟩:=I.lstM hH
 have b63:(sizeLine:Int) < 2 ^ 63:=by decide
 have hfit:¬ (!Builtin.List.listFitsIndex i)=true:=by
  rw [fitsIndex_both (by omega) (by omega)]
  exact Bool.false_ne_true
 refine call_meets F.slot_list_insert ⟨_,e,rfl⟩ F.entry_list_insert (F.args_list_insert_3 _ _ _) (PySem.AutoSeq1.list_insert_list_int_val_1 l its.toArray n i t _ hfit (by rw [List.size_toArray]; omega)) ⟨e,?_⟩
 refine ⟨.non,_,I.lset (its':=its.take i.toNat ++ _ :: its.drop i.toNat) hH e ?_ ((iF _ r).append (.cons ru (iG _ r))) ?_,rfl,q⟩
 ·have:¬ i < 0:=by omega
  simp [this]
  rw [Nat.min_eq_left (by omega)]
  congr 2
  exact List.take_of_length_le (by rw [List.length_drop]; exact Nat.le_refl _)
 ·rw [List.length_append,List.length_cons,List.length_take,List.length_drop]
  omega
end
end L2
set_option Elab.async false
set_option linter.all false
set_option maxRecDepth 100000
namespace Pc
open PySem L2
def top (i:Nat):Stmt:=PySem.Challenge.pw_platecuts_k35_whole_layings_moved_about.main.body.getD i (.Pass ⟨0,0,0,0⟩)
abbrev uk:Stmt:=top 0
abbrev fG:Stmt:=top 10
abbrev fH:Stmt:=top 11
abbrev mU:Stmt:=top 12
abbrev bU:Stmt:=top 13
abbrev dU:Stmt:=top 18
abbrev cH:Stmt:=top 21
abbrev cV:Stmt:=top 22
abbrev iH:Stmt:=top 23
abbrev bO:Stmt:=top 24
abbrev bp:Stmt:=top 30
abbrev aY:Stmt:=top 31
abbrev dW:Stmt:=top 32
abbrev bj:Stmt:=top 33
abbrev bC:Stmt:=top 34
abbrev dX:Stmt:=top 38
abbrev dY:Stmt:=top 39
abbrev bX:Stmt:=inClass (top 40) 0
abbrev cm:Stmt:=inClass (top 40) 1
abbrev jt:Stmt:=inClass (top 40) 2
abbrev iI:Stmt:=inClass (top 40) 3
abbrev iJ:Stmt:=inClass (top 40) 4
abbrev bI:Stmt:=inClass (top 40) 5
abbrev cn:Stmt:=inClass (top 40) 6
abbrev iK:Stmt:=top 42
abbrev mV:Stmt:=top 43
abbrev iL:Stmt:=top 44
abbrev iM:Stmt:=top 45
abbrev iN:Stmt:=top 46
abbrev fI:Stmt:=top 47
abbrev iO:Stmt:=top 48
abbrev fJ:Stmt:=top 49
abbrev dZ:Stmt:=top 50
abbrev mW:Stmt:=top 51
abbrev fK:Stmt:=top 52
abbrev gy:Stmt:=top 53
abbrev cq:Stmt:=top 54
abbrev dC:Stmt:=top 55
abbrev ee:Stmt:=top 56
abbrev bD:Stmt:=top 57
abbrev bP:Stmt:=top 58
abbrev eK:Stmt:=top 59
abbrev cW:Stmt:=top 60
abbrev gO:Stmt:=top 61
section
variable {P:Program} {w:World} {K:PySem.W.Frag} {mg:Str→Option Value} {base:Heap}
structure Blt (mg:Str→Option Value):Prop where
 isi:mg "isinstance" = none
 int:mg "int" = none
 bool:mg "bool" = none
 list:mg "list" = none
 tuple:mg "tuple" = none
 len:mg "len" = none
 range:mg "range" = none
 max:mg "max" = none
 min:mg "min" = none
 abs:mg "abs" = none
 divmod:mg "divmod" = none
 sum:mg "sum" = none
 sorted:mg "sorted" = none
 all:mg "all" = none
 repr:mg "repr" = none
 zip:mg "zip" = none
 enumerate:mg "enumerate" = none
 mostk:∃t,mg "MOST_KINDS" = some (.int 8 t)
 fivek:∃t,mg "THINGS_OF_A_KIND" = some (.int 5 t)
end
theorem au {t u:TS} {D:Ends} {σ:St} {H:Hp} (J:St→Hp→Prop) (h1:∀R:St→Hp→Prop,(∀σ' H',J σ' H'→R σ' H')→t { D with nx:=R } σ H) (h2:∀σ' H',J σ' H'→u D σ' H'):tN t u D σ H:=h1 _ h2
section
variable {P:Program} {w:World} {K:PySem.W.Frag} {mg:Str→Option Value} {base:Heap}
theorem oP:FnScope ["thing","least"] ["thing","least"] (defScope fG):=⟨rfl,rfl,rfl,by decide +kernel,rfl,by decide +kernel,by decide +kernel⟩
theorem mX {f:Addr} {fd:FuncData} (F:Fun K "is_whole" "is_whole" fG f fd) (B:Blt mg):FnOk P w K mg base CX0 1 f fd ["thing","least"] (cJ K):=by
 refine F.ok oP (fun vs H Q E h=>?_) (fun cdv A outer s H vs Q E hr h=>?_)
 ·obtain ⟨x,T,l,rfl,_⟩:=h
  rfl
 obtain ⟨x,T,l,rfl,⟨tn,ty⟩,q⟩:=h
 refine ⟨_,ai (aA (dw (aE cT rfl B.isi PyProof.Rows.boot_isinstance (aa (pv 0) (aa (dG (v:=.ty "int") rfl B.int PyProof.Rows.boot_int rfl) ab)))
  (dw (mn (aE cT rfl B.isi PyProof.Rows.boot_isinstance (aa (pv 0) (aa (dG (v:=.ty "bool") rfl B.bool PyProof.Rows.boot_bool rfl) ab))))
  (dv (bn my (pv 0) (pv 1) (aG _)))))),?_⟩
 refine ⟨_,rfl,x,_,_,_,_,rfl,ty,rfl,oI T tn,_,rfl,?_⟩
 have tb:=kg ty
 refine bE (fun c=>?_) (fun c=>?_)
 ·refine ⟨_,rfl,x,_,_,_,_,rfl,ty,rfl,iu T tn,_,rfl,_,rfl,?_⟩
  refine bE (fun c2=>?_) (fun c2=>?_)
  ·have hT:(T == "int")=true:=by
    have:(T == "bool")=false:=by simpa using c2
    rw [this,Bool.or_false] at c; exact c
   obtain ⟨i,rfl⟩:=qI ty tn hT
   exact ⟨_,rfl,_,rfl,_,_,rfl,rfl,q⟩
  ·have hT:kS x=true:=by
    rw [← tb]
    cases e:(T == "bool") with
    | true=>rfl
    | false=>rw [e] at c2; exact absurd rfl c2
   cases x <;> first | exact q | (exact absurd hT Bool.false_ne_true)
 ·have hx:aQ x l=false:=by
   cases x with
   | int i =>
    exfalso
    have ty':=ty
    generalize hv:Value.type T=tv at ty'
    cases ty' with
    | int=>cases hv; exact c rfl
   | _=>rfl
  rw [hx] at q
  exact q
theorem oQ:FnScope ["thing"] ["thing"] (defScope fH):=⟨rfl,rfl,rfl,by decide +kernel,rfl,by decide +kernel,by decide +kernel⟩
theorem mY {f:Addr} {fd:FuncData} (F:Fun K "is_truth" "is_truth" fH f fd) (B:Blt mg):FnOk P w K mg base CX0 1 f fd ["thing"] (eV K):=by
 refine F.ok oQ (fun vs H Q E h=>?_) (fun cdv A outer s H vs Q E hr h=>?_)
 ·obtain ⟨x,T,rfl,_⟩:=h
  rfl
 obtain ⟨x,T,rfl,⟨tn,ty⟩,q⟩:=h
 refine ⟨_,ai (aA (aE cT rfl B.isi PyProof.Rows.boot_isinstance (aa (pv 0) (aa (dG (v:=.ty "bool") rfl B.bool PyProof.Rows.boot_bool rfl) ab)))),?_⟩
 refine ⟨_,rfl,x,_,_,_,_,rfl,ty,rfl,iu T tn,?_⟩
 rw [kg ty]
 exact q
theorem um:FnScope ["thing"] ["thing"] (defScope mU):=⟨rfl,rfl,rfl,by decide +kernel,rfl,by decide +kernel,by decide +kernel⟩
theorem qL {f:Addr} {fd:FuncData} (F:Fun K "is_row" "is_row" mU f fd) (B:Blt mg):FnOk P w K mg base CX0 1 f fd ["thing"] (gm K):=by
 refine F.ok um (fun vs H Q E h=>?_) (fun cdv A outer s H vs Q E hr h=>?_)
 ·obtain ⟨x,T,rfl,_⟩:=h
  rfl
 obtain ⟨x,T,rfl,ty,q⟩:=h
 refine ⟨_,ai (aA (aE gM rfl B.isi PyProof.Rows.boot_isinstance (aa (pv 0) (aa (aN (aa (dG (v:=.ty "list") rfl B.list PyProof.Rows.boot_list rfl) (aa (dG (v:=.ty "tuple") rfl B.tuple PyProof.Rows.boot_tuple rfl) ab))) ab)))),?_⟩
 refine ⟨_,rfl,(by show 2≤sizeLine; decide),fun p hp=>?_⟩
 have s1:Same H (upd H p (.tup [.ty "list",.ty "tuple"])):=fun b o e=>by rw [az (aj e hp)]; exact e
 have t2:=Ty.same s1 ty
 exact ⟨x,p,_,_,_,_,rfl,t2.2,ah,rfl,oJ T ty.1,q _ s1⟩
theorem scIsKind:FnScope ["thing","wide","high","worth","wanted","turns"] ["thing"] (defScope dX):=⟨rfl,rfl,rfl,by decide +kernel,rfl,by decide +kernel,by decide +kernel⟩
theorem lh {f:Addr} {fd:FuncData} (F:Fun K "is_kind" "is_kind" dX f fd) (B:Blt mg) (DW:Dn P w K mg base "is_whole" ["thing","least"] 1 (cJ K)) (DT:Dn P w K mg base "is_truth" ["thing"] 1 (eV K)) (DR:Dn P w K mg base "is_row" ["thing"] 1 (gm K)) :
  FnOk P w K mg base CX0 2 f fd ["thing"] (dP K):=by
 refine F.ok scIsKind (fun vs H Q E h=>?_) (fun cdv A outer s H vs Q E hr h=>?_)
 ·obtain ⟨x,T,rfl,_⟩:=h
  rfl
 obtain ⟨x,T,rfl,ty,q⟩:=h
 obtain ⟨tk,htk⟩:=B.fivek
 have nd:=scIsKind.nd
 refine ⟨_,af (aS (PW.pt (cM (aZ (aR (aw DR hr rfl (aa (pv 0) ab)))) (cA (aI fX (aE aP rfl B.len PySem.boot_len (aa (pv 0) ab)) (bm (v:=.int 5) rfl htk ⟨tk,rfl⟩) (aG _))))) (ai (aA cb)) aF)
  (af (ce (pv 0) (jh rfl (ay (av (i:=1) nd rfl (Or.inl rfl)) (ay (av (i:=2) nd rfl (Or.inl rfl)) (ay (av (i:=3) nd rfl (Or.inl rfl)) (ay (av (i:=4) nd rfl (Or.inl rfl)) (ay (av (i:=5) nd rfl (Or.inl rfl)) aX)))))))
  (af (aS (PW.pt (cM (aZ (aR (aw DW hr rfl (aa (pv 1) (aa ae ab))))) (cA (aZ (aR (aw DW hr rfl (aa (pv 2) (aa ae ab)))))))) (ai (aA cb)) aF)
  (ai (aA (dw (aw DW hr rfl (aa (pv 3) (aa ae ab))) (dw (aw DW hr rfl (aa (pv 4) (aa ae ab))) (dv (aw DT hr rfl (aa (pv 5) ab))))))))),?_⟩
 refine ⟨_,rfl,x,T,rfl,ty,fun H1 s1=>⟨_,rfl,?_⟩⟩
 rcases q with ⟨n1,n2,q⟩ | ⟨a,xs,rfl,hx,its,q⟩
 ·have e:(T == "list" || T == "tuple")=false:=by simp [n1,n2]
  rw [e]
  refine bu (bu ?_)
  exact q H1 s1
 ·have e:(T == "list" || T == "tuple")=true:=by
   have t2:=ty.2
   generalize hv:Value.type T=tv at t2
   generalize hr:V.ref a=rv at t2
   cases t2 with
   | lst _=>cases hv; rfl
   | frz _=>cases hv; rfl
   | tup _=>cases hv; rfl
   | dK e=>cases hr; rcases hx with z | z <;> (rw [z] at e; cases e)
   | dT e=>cases hr; rcases hx with z | z <;> (rw [z] at e; cases e)
   | ins=>cases hv
   | _=>cases hr
  rw [e]
  have sq:SqL K H1 a xs∨SqT K H1 a xs:=by
   rcases hx with z | z
   ·exact .inl (SqL.of (s1 _ _ z))
   ·exact .inr (SqT.of (s1 _ _ z))
  refine bh ⟨_,rfl,a,xs,rfl,sq,rfl,_,rfl,?_⟩
  refine bE (fun c=>?_) (fun c=>?_)
  ·have hl:xs.length≠5:=fun z=>by rw [z] at c; exact absurd c (by decide)
   have:gn xs=false:=by
    unfold gn
    split
    ·exact absurd rfl hl
    ·rfl
   rw [this] at q
   exact q H1 s1
  ·have hl:xs.length=5:=by
    by_cases z:xs.length=5
    ·exact z
    ·exfalso
     apply c
     have:¬ (V.int (xs.length:Int)=V.int 5):=fun h=>z (by have:=V.int.inj h; omega)
     rw [decide_eq_false this]; rfl
   obtain ⟨x1,x2,x3,x4,x5,rfl⟩:∃x1 x2 x3 x4 x5,xs=[x1,x2,x3,x4,x5]:=by
    match xs,hl with
    | [a,b,c,d,e],_=>exact ⟨a,b,c,d,e,rfl⟩
   obtain ⟨T1,t1⟩:=its x1 (by simp)
   obtain ⟨T2,t2⟩:=its x2 (by simp)
   obtain ⟨T3,t3⟩:=its x3 (by simp)
   obtain ⟨T4,t4⟩:=its x4 (by simp)
   obtain ⟨T5,t5⟩:=its x5 (by simp)
   refine ⟨_,rfl,a,_,rfl,sq,rfl,x1,_,rfl,x2,_,rfl,x3,_,rfl,x4,_,rfl,x5,_,rfl,rfl,?_⟩
   refine ⟨_,rfl,x1,T1,1,rfl,Ty.same s1 t1,_,rfl,?_⟩
   have q':∀b,gn [x1,x2,x3,x4,x5]=b→Q (.bl b) H1:=fun b e=>by rw [← e]; exact q H1 s1
   have k5:gn [x1,x2,x3,x4,x5]=(aQ x1 1 && aQ x2 1 && aQ x3 0 && aQ x4 0 && kS x5):=rfl
   cases w1:aQ x1 1 with
   | false =>
    refine bu (bu ?_)
    exact q' false (by rw [k5,w1]; rfl)
   | true =>
    refine bh ⟨_,rfl,x2,T2,1,rfl,Ty.same s1 t2,_,rfl,?_⟩
    cases w2:aQ x2 1 with
    | false =>
     refine bu ?_
     exact q' false (by rw [k5,w1,w2]; rfl)
    | true =>
     refine bh ⟨_,rfl,x3,T3,0,rfl,Ty.same s1 t3,_,rfl,?_⟩
     cases w3:aQ x3 0 with
     | false =>
      refine bh ?_
      exact q' false (by rw [k5,w1,w2,w3]; rfl)
     | true =>
      refine bu ⟨_,rfl,x4,T4,0,rfl,Ty.same s1 t4,_,rfl,?_⟩
      cases w4:aQ x4 0 with
      | false =>
       refine bh ?_
       exact q' false (by rw [k5,w1,w2,w3,w4]; rfl)
      | true =>
       refine bu ⟨_,rfl,x5,T5,rfl,Ty.same s1 t5,?_⟩
       exact q' _ (by rw [k5,w1,w2,w3,w4]; rfl)
end
section
variable {P:Program} {w:World} {K:PySem.W.Frag} {mg:Str→Option Value} {base:Heap}
theorem scInit:FnScope ["self","blade","kinds","kind"] ["self","blade","kinds"] (defScope bX):=⟨rfl,rfl,rfl,by decide +kernel,rfl,by decide +kernel,by decide +kernel⟩
theorem oR {f C:Addr} {fd:FuncData} (F:Fun K "__init__" "Shop.__init__" bX f fd) (B:Blt mg) (T:ShopTxt K C) (DW:Dn P w K mg base "is_whole" ["thing","least"] 1 (cJ K)) (DR:Dn P w K mg base "is_row" ["thing"] 1 (gm K))
  (DK:Dn P w K mg base "is_kind" ["thing"] 2 (dP K)):FnOk P w K mg base CX0 3 f fd ["self","blade","kinds"] (eH C):=by
 refine F.ok scInit (fun vs H Q E h=>?_) (fun cdv A outer s H vs Q E hr h=>?_)
 ·obtain ⟨x,dx,ks,b,rs,kds,rfl,_⟩:=h
  rfl
 obtain ⟨x,dx,ks,b,rs,kds,rfl,hx,b0,hks,hrs,hgd,n1,n8,q⟩:=h
 have hr1:=hr.mono (show 1≤2 by decide)
 obtain ⟨tk,htk⟩:=B.mostk
 have nd:=scInit.nd
 have n8':(8:Nat) < sizeLine:=by decide
 refine ⟨_,af (aS (aZ (aR (aw DW hr1 rfl (aa (pv 1) (aa ae ab))))) em aF)
  (af (aS (PW.pt (cM (aZ (aR (aw DR hr1 rfl (aa (pv 2) ab)))) (cA (aZ (mz dL dL ae (aE aP rfl B.len PySem.boot_len (aa (pv 2) ab)) (bm (v:=.int 8) rfl htk ⟨tk,rfl⟩)))))) em aF)
  (af (cf PassesOwn.never rfl (fw (pv 2)) (av (i:=3) nd rfl (Or.inl rfl)) (ai (aS (aZ (aR (aw DK hr rfl (aa (pv 3) ab)))) em aF)))
  (af (mE (pv 0) (pv 1) rfl)
  (ai (mE (pv 0) (bv bR rfl B.tuple PyProof.Rows.boot_tuple (aa (bS (own:=["kind"]) (cs:=[]) (cap:=[]) rfl (fw (pv 2))
   (aL (sc:=defScope bX) (N:=["self","blade","kinds","kind"]) rfl rfl (by decide +kernel))
   (fun _ _ _ _ _=>av (i:=0) (by show List.Nodup (["kind"]:List Str); decide +kernel) rfl (Or.inl rfl) (Or.inr rfl)) (fun _ _ _ _ _=>aT)
   (fun _ _ _ _ _=>bv (r:=iw K) bR rfl B.tuple PyProof.Rows.boot_tuple (aa (pv 0) ab))) ab)) rfl))))),?_⟩
 refine ⟨_,rfl,.int b,_,0,rfl,.int,_,rfl,?_⟩
 have wb:aQ (.int b) 0=true:=decide_eq_true b0
 rw [wb]
 refine bh ?_
 have tyk:∃T,Ty K H (.ref ks) T∧(T == "list" || T == "tuple")=true:=by
  rcases hks with e | e
  ·exact ⟨_,.lst e,rfl⟩
  ·exact ⟨_,.tup e,rfl⟩
 obtain ⟨T0,ty0,te0⟩:=tyk
 refine ⟨_,rfl,.ref ks,T0,rfl,ty0,fun H1 s1=>⟨_,rfl,?_⟩⟩
 rw [te0]
 have sq:∀ {H2:Hp},Same H H2→SqL K H2 ks rs∨SqT K H2 ks rs:=fun s2=>by
  rcases hks with z | z
  ·exact .inl (SqL.of (s2 _ _ z))
  ·exact .inr (SqT.of (s2 _ _ z))
 refine bh ⟨_,rfl,ks,rs,rfl,sq s1,_,_,rfl,rfl,_,rfl,?_⟩
 rw [decide_eq_true (show (1:Int)≤(rs.length:Int) by omega)]
 refine bu ⟨_,_,rfl,rfl,_,rfl,?_⟩
 rw [decide_eq_true (show (rs.length:Int)≤8 by omega)]
 refine bh ?_
 have dj:=Paired.length hrs
 refine mO (j:=2) (a:=ks) (xs:=rs) rfl (hks.imp (fun z=>s1 _ _ z) fun z=>s1 _ _ z) (fun i σ H2=>∃v,σ=[some (.ref x),some (.int b),some (.ref ks),v]∧Same H1 H2) ⟨none,rfl,Same.refl _⟩ (fun i σ H2 _ ⟨_,_,s2⟩ o e=>s2 _ _ e) ?_ ?_
 ·rintro i y σ H2 hi ⟨v,rfl,s2⟩
  obtain ⟨k,hk,rk⟩:=Paired.getR hrs hi
  refine ⟨_,rfl,?_⟩
  simp only [kJ,List.append_nil]
  refine kT ((rk.same s1).same s2) (hgd k (List.mem_of_getElem? hk)) fun H3 s3=>⟨_,rfl,bh ?_⟩
  exact ⟨_,rfl,s2.trans s3⟩
 rintro σ H2 ⟨v,rfl,s12⟩
 have s2:Same H H2:=s1.trans s12
 refine ⟨_,rfl,_,rfl,x,C,dx,[],rfl,s2 _ _ hx,T.cl,T.nB,(by show 0 < 1000; decide),?_⟩
 have k3:∀c o,c≠x→H c=some o→(upd H2 x (.ins C dx (cw "blade_width" (.int b) []))) c=some o:=fun c o n e=>by rw [az n]; exact s2 c o e
 have x3:(upd H2 x (.ins C dx (cw "blade_width" (.int b) []))) x=some (.ins C dx (cw "blade_width" (.int b) [])):=ah
 generalize upd H2 x (.ins C dx (cw "blade_width" (.int b) []))=H3 at k3 x3 ⊢
 have rx:∀c xs,H c=some (.lst xs)∨H c=some (.tup xs)→c≠x:=fun c xs e z=>by
  subst z
  rcases e with e | e <;> (rw [hx] at e; cases e)
 dsimp only [tY,tCB,jV]
 refine de (j:=2) (a:=ks) (xs:=rs) rfl (hks.imp (fun z=>k3 _ _ (rx _ _ (.inl z)) z) fun z=>k3 _ _ (rx _ _ (.inr z)) z) (fun i ys H4=>ys.length=i∧Same H3 H4∧Tups H4 ys (kds.take i)) (fun i ys H4 _ ⟨_,s4,_⟩ o e=>s4 _ _ e) ⟨rfl,Same.refl _,.nil⟩ ?_ ?_
 ·rintro i y ys H4 hi ⟨hy,s4,ty4⟩
  have hin:i < rs.length:=(List.getElem?_eq_some_iff.mp hi).1
  obtain ⟨k,hk,rk⟩:=Paired.getR hrs hi
  have tk1:kds.take (i + 1)=kds.take i ++ [k]:=by rw [List.take_add_one,hk]; rfl
  refine ⟨by omega,leS.set rfl,aU ?_⟩
  rcases rk with ⟨a,rfl,h⟩ | ⟨a,rfl,h⟩
  ·have h4:=s4 _ _ (k3 _ _ (rx _ _ (.inr h)) h)
   exact ⟨_,rfl,a,_,rfl,.inr ⟨SqT.of h4,Nx.of hin ⟨by rw [List.length_append,hy]; rfl,s4,by rw [tk1]; exact Paired.snoc ty4 ⟨a,rfl,h4⟩⟩⟩⟩
  ·have h4:=s4 _ _ (k3 _ _ (rx _ _ (.inl h)) h)
   refine ⟨_,rfl,a,_,rfl,.inl ⟨SqL.of h4,fun l hl=>Nx.of hin ⟨by rw [List.length_append,hy]; rfl,fun c o e=>?_,?_⟩⟩⟩
   ·have e4:=s4 c o e
    rw [az (aj e4 hl)]; exact e4
   ·rw [tk1]
    exact Paired.snoc (Tups.keep (fun c xs e=>by rw [az (aj e hl)]; exact e) ty4) ⟨l,rfl,ah⟩
 rintro ys H4 ⟨hy,s4,ty4⟩
 refine ⟨by omega,fun p hp=>?_⟩
 refine ⟨p,ys,rfl,.inl ⟨SqL.of ah,fun r hr'=>?_⟩⟩
 have hpr:r≠p:=fun z=>by rw [z,ah] at hr'; cases hr'
 have hr4:H4 r=none:=by rw [az hpr] at hr'; exact hr'
 have x4:=s4 _ _ x3
 have xp:x≠p:=aj x4 hp
 have xr:x≠r:=aj x4 hr4
 refine ⟨_,rfl,x,C,dx,_,rfl,(by rw [az xr,az xp]; exact x4),T.cl,T.nK,(Nat.lt_of_le_of_lt (cS _ _ _) (by decide)),?_⟩
 rw [dj,List.take_length] at ty4
 refine q _ ⟨dx,r,ys,ah,by rw [az (Ne.symm xr),ah],?_⟩ fun c o n e=>?_
 ·refine Tups.keep (fun c xs e=>?_) ty4
  rw [az (fun z=>by rw [z,x4] at e; cases e),az (aj e hr4),az (aj e hp)]
  exact e
 ·have e4:=s4 _ _ (k3 c o n e)
  rw [az n,az (aj e4 hr4),az (aj e4 hp)]
  exact e4
theorem oS:FnScope ["self"] ["self"] (defScope cm):=⟨rfl,rfl,rfl,by decide +kernel,rfl,by decide +kernel,by decide +kernel⟩
theorem mZ {f C:Addr} {fd:FuncData} (F:Fun K "blade" "Shop.blade" cm f fd) (T:ShopTxt K C):FnOk P w K mg base CX0 1 f fd ["self"] (dQ C):=by
 refine F.ok oS (fun vs H Q E h=>?_) (fun cdv A outer s H vs Q E hr h=>?_)
 ·obtain ⟨x,b,ks,rfl,_⟩:=h
  rfl
 obtain ⟨x,b,ks,rfl,⟨dx,r,rs,h1,h2,h3⟩,q⟩:=h
 exact ⟨_,ai (aA (gG (pv 0) rfl)),_,rfl,x,C,dx,_,_,rfl,h1,T.cl,T.nB,jk _ _,q⟩
end
section
variable {P:Program} {w:World} {K:PySem.W.Frag} {mg:Str→Option Value} {base:Heap}
theorem ng:FnScope ["kind"] ["kind"] (defScope dY):=⟨rfl,rfl,rfl,by decide +kernel,rfl,by decide +kernel,by decide +kernel⟩
theorem li {f:Addr} {fd:FuncData} (F:Fun K "can_lie_turned" "can_lie_turned" dY f fd):FnOk P w K mg base CX0 1 f fd ["kind"] (fB K):=by
 refine F.ok ng (fun vs H Q E h=>?_) (fun cdv A outer s H vs Q E hr h=>?_)
 ·obtain ⟨a,k,rfl,_⟩:=h
  rfl
 obtain ⟨a,k,rfl,ha,q⟩:=h
 refine ⟨_,ai (aA (dw (ar ix_tup (pv 0) ae (fun _ _=>rfl)) (dv (bn fX (ar ix_tup (pv 0) ae (fun _ _=>rfl)) (ar ix_tup (pv 0) ae (fun _ _=>rfl)) (aG _))))),?_⟩
 refine ⟨_,rfl,a,_,4,_,rfl,rfl,SqT.of ha,rfl,_,rfl,?_⟩
 unfold aO at q
 refine bE (fun c=>?_) (fun c=>?_)
 ·rw [c,Bool.true_and] at q
  refine ⟨_,rfl,a,_,0,_,rfl,rfl,SqT.of ha,rfl,_,rfl,a,_,1,_,rfl,rfl,SqT.of ha,rfl,rfl,?_⟩
  rw [gF]
  rw [show (decide (k.w=k.h))=(k.w == k.h) from rfl] at q
  exact q
 ·have c':k.tu=false:=by simpa using c
  rw [c',Bool.false_and] at q
  exact q
theorem lj:FnScope ["self","kind","turned"] ["self","kind","turned"] (defScope bI):=⟨rfl,rfl,rfl,by decide +kernel,rfl,by decide +kernel,by decide +kernel⟩
theorem ju {f C:Addr} {fd:FuncData} (F:Fun K "is_lying" "Shop.is_lying" bI f fd) (B:Blt mg) (T:ShopTxt K C) (DW:Dn P w K mg base "is_whole" ["thing","least"] 1 (cJ K)) (DU:Dn P w K mg base "is_truth" ["thing"] 1 (eV K)) (DT:Dn P w K mg base "can_lie_turned" ["kind"] 1 (fB K)) :
  FnOk P w K mg base CX0 2 f fd ["self","kind","turned"] (dg K C):=by
 refine F.ok lj (fun vs H Q E h=>?_) (fun cdv A outer s H vs Q E hr h=>?_)
 ·obtain ⟨s,b,ks,x,t,T0,U,rfl,_⟩:=h
  rfl
 obtain ⟨s,b,ks,x,t,T0,U,rfl,⟨dx,r,rs,h1,h2,h3⟩,tx,tt,q⟩:=h
 have ie:=Paired.length h3
 refine ⟨_,af (aS (PW.pt (cM (aZ (aR (aw DW hr rfl (aa (pv 1) (aa ae ab))))) (cM (aI my (pv 1) (aE aP rfl B.len PySem.boot_len (aa (gG (pv 0) rfl) ab)) (aG _))
   (cA (aZ (aR (aw DU hr rfl (aa (pv 2) ab)))))))) (ai (aA cb)) aF)
  (ai (aA (jR (mn (pv 2)) (dv (aw DT hr rfl (aa (ar ix_tup (gG (pv 0) rfl) (pv 1) (fun _ _=>rfl)) ab)))))),?_⟩
 refine ⟨_,rfl,x,_,0,rfl,tx,_,rfl,?_⟩
 cases hw:aQ x 0 with
 | false =>
  have e:cj ks x t=false:=by
   cases x with
   | int i =>
    have h0:decide (0≤i)=false:=hw
    cases t <;> first | rfl | (show (decide (0≤i) && _)=false; rw [h0,Bool.false_and])
   | _=>rfl
  rw [e] at q
  exact bu (bu q)
 | true =>
  have ex:∃i,x=.int i∧0≤i:=by
   cases x with
   | int i=>exact ⟨i,rfl,of_decide_eq_true hw⟩
   | _=>cases hw
  obtain ⟨i,rfl,i0⟩:=ex
  refine bh ⟨_,rfl,_,rfl,s,C,dx,_,_,rfl,h1,T.cl,T.nK,eG _ _,r,rs,rfl,.inr (SqT.of h2),i,_,rfl,rfl,_,rfl,?_⟩
  by_cases hi:(rs.length:Int)≤i
  ·rw [decide_eq_true hi]
   have e:cj ks (.int i) t=false:=by
    have hn:ks[i.toNat]? = none:=List.getElem?_eq_none (by omega)
    cases t <;> first | rfl | (show (decide (0≤i) && match ks[i.toNat]? with | some k=>_ | none=>false)=false; rw [hn,Bool.and_false])
   rw [e] at q
   exact bu (bu q)
  ·rw [decide_eq_false hi]
   refine bh ⟨_,rfl,t,_,rfl,tt,_,rfl,?_⟩
   have hlt:i.toNat < ks.length:=by omega
   cases hb:kS t with
   | false =>
    have e:cj ks (.int i) t=false:=by cases t <;> first | rfl | cases hb
    rw [e] at q
    exact bu q
   | true =>
    have ex:∃c,t=.bl c:=by cases t <;> first | exact ⟨_,rfl⟩ | cases hb
    obtain ⟨c,rfl⟩:=ex
    obtain ⟨y,hy⟩:∃y,rs[i.toNat]? = some y:=⟨rs[i.toNat]'(by omega),by simp [show i.toNat < rs.length by omega]⟩
    obtain ⟨k,hk,a,rfl,ha⟩:=Paired.getR h3 hy
    have e:cj ks (.int i) (.bl c)=(!c || aO k):=by
     show (decide (0≤i) && match ks[i.toNat]? with | some k=>(!c || aO k) | none=>false)=_
     rw [hk,decide_eq_true i0,Bool.true_and]
    rw [e] at q
    refine bh ⟨_,rfl,c,rfl,_,rfl,?_⟩
    refine bE (fun d=>?_) (fun d=>?_)
    ·rw [d,Bool.true_or] at q
     exact q
    ·have d':(!c)=false:=by simpa using d
     rw [d',Bool.false_or] at q
     have at':atI rs i=some (.ref a):=by
      have en:ixN rs.length i=some i.toNat:=by
       unfold ixN
       rw [if_pos i0,if_pos (by omega)]
      unfold atI
      rw [en]
      exact hy
     exact ⟨_,rfl,s,C,dx,_,_,rfl,h1,T.cl,T.nK,eG _ _,_,rfl,r,rs,i,_,rfl,rfl,SqT.of h2,at',a,k,rfl,ha,q⟩
end
def gP (k:Kd) (c:Bool):List V:=if c=true then [.int k.h,.int k.w] else [.int k.w,.int k.h]
def eX (K:PySem.W.Frag) (C:Addr):Sp:=fun vs H Q _=>∃ (s:Addr) (b:Int) (ks:List Kd) (x t:V) (T U:String),vs=[.ref s,x,t]∧ShopAt C H s b ks∧Ty K H x T∧Ty K H t U ∧
 cj ks x t=true∧∀ (i:Int) (c:Bool) (k:Kd) (p:Addr),x=.int i→t=.bl c→ks[i.toNat]? = some k→cj ks x t=true→H p=none→Q (.ref p) (upd H p (.tup (gP k c)))
theorem eL {ks:List Kd} {x t:V} (h:cj ks x t=true):∃ (i:Int) (c:Bool) (k:Kd),x=.int i∧t=.bl c∧0≤i∧ks[i.toNat]? = some k:=by
 unfold cj at h
 split at h
 ·rename_i i c
  rw [Bool.and_eq_true] at h
  obtain ⟨h1,h2⟩:=h
  split at h2
  ·rename_i k hk
   exact ⟨i,c,k,rfl,rfl,of_decide_eq_true h1,hk⟩
  ·cases h2
 ·cases h
theorem qM {rs:List V} {i:Int} {v:V} (i0:0≤i) (h:rs[i.toNat]? = some v):atI rs i=some v:=by
 have en:ixN rs.length i=some i.toNat:=by
  unfold ixN
  have:=(List.getElem?_eq_some_iff.mp h).1
  rw [if_pos i0,if_pos (by omega)]
 unfold atI
 rw [en]
 exact h
section
variable {P:Program} {w:World} {K:PySem.W.Frag} {mg:Str→Option Value} {base:Heap}
theorem scSides:FnScope ["self","kind","turned","row"] ["self","kind","turned"] (defScope cn):=⟨rfl,rfl,rfl,by decide +kernel,rfl,by decide +kernel,by decide +kernel⟩
theorem nh {f C:Addr} {fd:FuncData} (F:Fun K "sides" "Shop.sides" cn f fd) (T:ShopTxt K C) (ML:Mn P w K mg base C "is_lying" ["self","kind","turned"] 2 (dg K C)) :
  FnOk P w K mg base CX0 3 f fd ["self","kind","turned"] (eX K C):=by
 refine F.ok scSides (fun vs H Q E h=>?_) (fun cdv A outer s H vs Q E hr h=>?_)
 ·obtain ⟨s,b,ks,x,t,T0,U,rfl,_⟩:=h
  rfl
 obtain ⟨s,b,ks,x,t,T0,U,rfl,S,tx,tt,he,hq⟩:=h
 have nd:=scSides.nd
 refine ⟨_,af (aS (aZ (aR (kj (pv 0) T.cl ML hr (aa (pv 1) (aa (pv 2) ab))))) (ai fg) aF)
  (af (aD (i:=3) nd rfl (Or.inl rfl) (ar ix_tup (gG (pv 0) rfl) (pv 1) (fun _ _=>rfl)))
  (af (aS (aR (pv 2)) (ai (aA (aN (aa (ar ix_tup (pv 3) ae (fun _ _=>rfl)) (aa (ar ix_tup (pv 3) ae (fun _ _=>rfl)) ab))))) aF)
  (ai (aA (aN (aa (ar ix_tup (pv 3) ae (fun _ _=>rfl)) (aa (ar ix_tup (pv 3) ae (fun _ _=>rfl)) ab))))))),?_⟩
 obtain ⟨dx,r,rs,h1,h2,h3⟩:=id S
 refine ⟨_,rfl,s,dx,_,rfl,h1,df _ _ (by decide +kernel) (by decide +kernel),_,rfl,_,rfl,s,b,ks,x,t,T0,U,rfl,S,tx,tt,_,rfl,?_⟩
 cases hl:cj ks x t with
 | false=>rw [hl] at he; cases he
 | true =>
  obtain ⟨i,c,k,rfl,rfl,i0,hk⟩:=eL hl
  have ie:=Paired.length h3
  have hik:=(List.getElem?_eq_some_iff.mp hk).1
  obtain ⟨y,hy⟩:∃y,rs[i.toNat]? = some y:=⟨rs[i.toNat]'(by omega),by simp [show i.toNat < rs.length by omega]⟩
  obtain ⟨k',hk',a,rfl,ha⟩:=Paired.getR h3 hy
  rw [hk] at hk'
  obtain rfl:=Option.some.inj hk'
  refine bh ?_
  refine ⟨_,rfl,s,C,dx,_,_,rfl,h1,T.cl,T.nK,eG _ _,_,rfl,r,rs,i,_,rfl,rfl,SqT.of h2,qM i0 hy,?_⟩
  refine ⟨_,rfl,_,rfl,?_⟩
  cases c with
  | true =>
   refine bu ?_
   refine ⟨_,rfl,a,_,1,_,rfl,rfl,SqT.of ha,rfl,_,rfl,a,_,0,_,rfl,rfl,SqT.of ha,rfl,(by show 2≤sizeLine; decide),fun p hp=>?_⟩
   exact hq i true k p rfl rfl hk hl hp
  | false =>
   refine bh ?_
   refine ⟨_,rfl,a,_,0,_,rfl,rfl,SqT.of ha,rfl,_,rfl,a,_,1,_,rfl,rfl,SqT.of ha,rfl,(by show 2≤sizeLine; decide),fun p hp=>?_⟩
   exact hq i false k p rfl rfl hk hl hp
end
mutual
inductive Dt (p:Addr) (H:Hp):V→PyData→Prop
 | non:Dt p H .non .none
 | bl (b:Bool):Dt p H (.bl b) (.bool b)
 | int (i:Int):Dt p H (.int i) (.int i)
 | str (z:Str):Dt p H (.str z) (.str z)
 | lst {a:Addr} {xs:List V} {ds:List PyData}:a≠p→H a=some (.lst xs)→Dts p H xs ds→Dt p H (.ref a) (.list ds)
 | tup {a:Addr} {xs:List V} {ds:List PyData}:H a=some (.tup xs)→Dts p H xs ds→Dt p H (.ref a) (.tuple ds)
 | emp {a:Addr}:H a=some (.dK [])→Dt p H (.ref a) (.dict [])
inductive Dts (p:Addr) (H:Hp):List V→List PyData→Prop
 | nil:Dts p H [] []
 | cons {x:V} {d:PyData} {xs:List V} {ds:List PyData}:Dt p H x d→Dts p H xs ds→Dts p H (x :: xs) (d :: ds)
end
mutual
theorem Dt.same {p:Addr} {H H':Hp} (s:Same H H'):∀ {v:V} {d:PyData},Dt p H v d→Dt p H' v d
 | _,_,.non=>.non
 | _,_,.bl b=>.bl b
 | _,_,.int i=>.int i
 | _,_,.str z=>.str z
 | _,_,.lst n h r=>.lst n (s _ _ h) (r.same s)
 | _,_,.tup h r=>.tup (s _ _ h) (r.same s)
 | _,_,.emp h=>.emp (s _ _ h)
theorem Dts.same {p:Addr} {H H':Hp} (s:Same H H'):∀ {vs:List V} {ds:List PyData},Dts p H vs ds→Dts p H' vs ds
 | _,_,.nil=>.nil
 | _,_,.cons a r=>.cons (a.same s) (r.same s)
end
theorem Dts.length {p:Addr} {H:Hp}:∀ {vs:List V} {ds:List PyData},Dts p H vs ds→vs.length=ds.length
 | _,_,.nil=>rfl
 | _,_,.cons _ r=>by rw [List.length_cons,List.length_cons,r.length]
theorem Dt.ty {K:PySem.W.Frag} {p:Addr} {H:Hp} {v:V} {d:PyData} (h:Dt p H v d):∃T,Ty K H v T:=by
 cases h with
 | non=>exact ⟨_,Ty.non⟩
 | bl b=>exact ⟨_,Ty.bl⟩
 | int i=>exact ⟨_,Ty.int⟩
 | str z=>exact ⟨_,Ty.str⟩
 | lst _ h _=>exact ⟨_,Ty.lst h⟩
 | tup h _=>exact ⟨_,Ty.tup h⟩
 | emp h=>exact ⟨_,Ty.dK h⟩
mutual
theorem Dt.but {p:Addr} {H H':Hp} (hp:∃xs,H p=some (.lst xs)) (b:But p H H'):∀ {v:V} {d:PyData},Dt p H v d→Dt p H' v d
 | _,_,.non=>.non
 | _,_,.bl b=>.bl b
 | _,_,.int i=>.int i
 | _,_,.str z=>.str z
 | _,_,.lst n h r=>.lst n (b _ _ n h) (r.but hp b)
 | _,_,.tup h r=>.tup (b _ _ (fun z=>by obtain ⟨_,e⟩:=hp; rw [z,e] at h; cases h) h) (r.but hp b)
 | _,_,.emp h=>.emp (b _ _ (fun z=>by obtain ⟨_,e⟩:=hp; rw [z,e] at h; cases h) h)
theorem Dts.but {p:Addr} {H H':Hp} (hp:∃xs,H p=some (.lst xs)) (b:But p H H'):∀ {vs:List V} {ds:List PyData},Dts p H vs ds→Dts p H' vs ds
 | _,_,.nil=>.nil
 | _,_,.cons a r=>.cons (a.but hp b) (r.but hp b)
end
mutual
def wt:PyData→Nat
 | .str z=>z.length + 1
 | .list ds=>wts ds + 1
 | .tuple ds=>wts ds + 1
 | _=>1
def wts:List PyData→Nat
 | []=>0
 | d :: r=>wt d + wts r
end
theorem uo (d:PyData):1≤wt d:=by cases d <;> simp only [wt] <;> omega
def cr:PyData→Option (List PyData)
 | .list ds=>some ds
 | .tuple ds=>some ds
 | _=>none
theorem Dt.row {K:PySem.W.Frag} {p:Addr} {H:Hp} {v:V} {d:PyData} (h:Dt p H v d):(cr d=none∧∃T,Ty K H v T∧(T == "list" || T == "tuple")=false)∨∃a xs ds T,cr d=some ds∧v=.ref a∧(H a=some (.lst xs)∨H a=some (.tup xs))∧Dts p H xs ds∧Ty K H v T∧(T == "list" || T == "tuple")=true:=by
 cases h with
 | non=>exact .inl ⟨rfl,_,Ty.non,rfl⟩
 | bl b=>exact .inl ⟨rfl,_,Ty.bl,rfl⟩
 | int i=>exact .inl ⟨rfl,_,Ty.int,rfl⟩
 | str z=>exact .inl ⟨rfl,_,Ty.str,rfl⟩
 | lst _ h r=>exact .inr ⟨_,_,_,_,rfl,rfl,.inl h,r,Ty.lst h,rfl⟩
 | tup h r=>exact .inr ⟨_,_,_,_,rfl,rfl,.inr h,r,Ty.tup h,rfl⟩
 | emp h=>exact .inl ⟨rfl,_,Ty.dK h,rfl⟩
def bw (d:PyData) (z:Str) (n:Nat):Bool:=match cr d with
 | some (.str y :: r)=>decide (r.length + 1=n) && decide (y=z)
 | _=>false
section
variable {P:Program} {w:World} {K:PySem.W.Frag} {mg:Str→Option Value} {base:Heap}
def sd1 (k:Kd) (c:Bool):Int:=if c=true then k.h else k.w
def sd2 (k:Kd) (c:Bool):Int:=if c=true then k.w else k.h
theorem ni (k:Kd) (c:Bool):gP k c=[.int (sd1 k c),.int (sd2 k c)]:=by cases c <;> rfl
def ef (ks:List Kd) (w h:Int) (kv tv xv yv:V):Bool:=cj ks kv tv && aQ xv 0 && aQ yv 0 && (match kv,tv,xv,yv with
 | .int i,.bl c,.int x,.int y=>(match ks[i.toNat]? with
  | some k=>decide (x + sd1 k c≤w) && decide (y + sd2 k c≤h)
  | none=>false)
 | _,_,_,_=>false)
def gQ (K:PySem.W.Frag) (C:Addr):Sp:=fun vs H Q _=>∃ (s:Addr) (b:Int) (ks:List Kd) (w h:Int) (kv tv xv yv:V) (T1 T2 T3 T4:String),vs=[.ref s,.int w,.int h,kv,tv,xv,yv]∧ShopAt C H s b ks∧Ty K H kv T1∧Ty K H tv T2∧Ty K H xv T3∧Ty K H yv T4∧∀H',Same H H'→Q (.bl (ef ks w h kv tv xv yv)) H'
theorem scliesG:FnScope ["shop","wide","high","kind","turned","x","y","piece_wide","piece_high"] ["shop","wide","high","kind","turned","x","y"] (defScope dU):=⟨rfl,rfl,rfl,by decide +kernel,rfl,by decide +kernel,by decide +kernel⟩
theorem nj {f C:Addr} {fd:FuncData} (F:Fun K "lies_in" "lies_in" dU f fd) (T:ShopTxt K C) (DW:Dn P w K mg base "is_whole" ["thing","least"] 1 (cJ K)) (MI:Mn P w K mg base C "is_lying" ["self","kind","turned"] 2 (dg K C)) (MS:Mn P w K mg base C "sides" ["self","kind","turned"] 3 (eX K C)):FnOk P w K mg base CX0 4 f fd ["shop","wide","high","kind","turned","x","y"] (gQ K C):=by
 refine F.ok scliesG (fun vs H Q E h=>?_) (fun cdv A outer s H vs Q E hr h=>?_)
 ·obtain ⟨s,b,ks,w1,h1,kv,tv,xv,yv,T1,T2,T3,T4,rfl,_⟩:=h
  rfl
 obtain ⟨s,b,ks,w1,h1',kv,tv,xv,yv,T1,T2,T3,T4,rfl,S,t1,t2,t3,t4,q⟩:=h
 have nd:=scliesG.nd
 have hr1:=hr.mono (show 1≤3 by decide)
 have hr2:=hr.mono (show 2≤3 by decide)
 refine ⟨_,(@af _ _ _ _ _ (@aS _ _ _ _ _ _ _ _ (PW.pt (cM (@aZ _ _ _ _ (@aR _ _ _ (kj (pv 0) T.cl MI hr2 (@aa _ _ _ _ _ (pv 3) (@aa _ _ _ _ _ (pv 4) ab rfl) rfl)) (by intro _; rfl))) (cM (@aZ _ _ _ _ (@aR _ _ _ (@aw _ _ _ _ _ _ _ _ _ _ DW hr1 rfl (@aa _ _ _ _ _ (pv 5) (@aa _ _ _ _ _ ae ab rfl) rfl) (by decide) rfl rfl) (by intro _; rfl))) (cA (@aZ _ _ _ _ (@aR _ _ _ (@aw _ _ _ _ _ _ _ _ _ _ DW hr1 rfl (@aa _ _ _ _ _ (pv 6) (@aa _ _ _ _ _ ae ab rfl) rfl) (by decide) rfl rfl) (by intro _; rfl))))))) (@ai _ _ _ (@aA _ _ _ _ cb)) aF) (@af _ _ _ _ _ (@ce _ _ _ _ _ _ (kj (pv 0) T.cl MS hr (@aa _ _ _ _ _ (pv 3) (@aa _ _ _ _ _ (pv 4) ab rfl) rfl)) (br rfl (ay (av (i:=7) nd rfl (Or.inl rfl)) (ay (av (i:=8) nd rfl (Or.inl rfl)) aX))) rfl rfl rfl) (@ai _ _ _ (@aA _ _ _ _ (dw (@bn _ _ _ _ _ _ _ _ dL (@aB _ _ _ _ _ _ _ _ aJ (pv 5) (pv 7)) (pv 1) (aG _)) (dv (@bn _ _ _ _ _ _ _ _ dL (@aB _ _ _ _ _ _ _ _ aJ (pv 6) (pv 8)) (pv 2) (aG _)))))))),?_⟩
 obtain ⟨dx,r,rs,h1,h2,h3⟩:=id S
 refine ⟨_,rfl,s,dx,_,rfl,h1,(df _ _ (by decide +kernel) (by decide +kernel)),_,rfl,_,rfl,s,b,ks,kv,tv,T1,T2,rfl,S,t1,t2,_,rfl,?_⟩
 cases ly:cj ks kv tv with
 | false =>
  have q1:=q H (Same.refl _)
  unfold ef at q1
  rw [ly] at q1
  exact bu (bu q1)
 | true =>
 refine bh ⟨_,rfl,xv,T3,0,rfl,t3,_,rfl,?_⟩
 cases hx:aQ xv 0 with
 | false =>
  have q1:=q H (Same.refl _)
  unfold ef at q1
  rw [ly,hx] at q1
  exact bu (bu q1)
 | true =>
 refine bh ⟨_,rfl,yv,T4,0,rfl,t4,_,rfl,?_⟩
 cases hy:aQ yv 0 with
 | false =>
  have q1:=q H (Same.refl _)
  unfold ef at q1
  rw [ly,hx,hy] at q1
  exact bu q1
 | true =>
 refine bh ?_
 obtain ⟨i,c,k,rfl,rfl,i0,hk⟩:=eL ly
 obtain ⟨x1,rfl⟩:∃i,xv=.int i:=by cases xv <;> first | exact ⟨_,rfl⟩ | cases hx
 obtain ⟨y1,rfl⟩:∃i,yv=.int i:=by cases yv <;> first | exact ⟨_,rfl⟩ | cases hy
 refine ⟨_,rfl,s,dx,_,rfl,h1,(df _ _ (by decide +kernel) (by decide +kernel)),_,rfl,_,rfl,s,b,ks,.int i,.bl c,T1,T2,rfl,S,t1,t2,ly,fun i' c' k' p e1 e2 hk' _ hp=>?_⟩
 cases e1
 cases e2
 rw [hk] at hk'
 cases hk'
 rw [ni]
 have q1:=q _ (Same.new hp (o:=.tup [.int (sd1 k c),.int (sd2 k c)]))
 refine ⟨p,_,rfl,SqT.of ah,rfl,_,_,rfl,_,_,rfl,rfl,?_⟩
 refine ⟨_,rfl,_,rfl,_,_,rfl,rfl,_,rfl,_,_,rfl,rfl,_,rfl,?_⟩
 unfold ef at q1
 rw [ly,hx,hy] at q1
 simp only [hk,Bool.true_and] at q1
 refine bE (fun cc=>?_) (fun cc=>?_)
 ·refine ⟨_,rfl,_,rfl,_,_,rfl,rfl,_,rfl,_,_,rfl,rfl,?_⟩
  rw [cc,Bool.true_and] at q1
  exact q1
 ·rw [show decide (x1 + sd1 k c≤w1)=false by simpa using cc,Bool.false_and] at q1
  exact q1
end
def PotC (H:Hp) (p:Addr):Prop:=∃a b:Int,0≤a∧0≤b∧b < 4294967296∧H p=some (.lst [.int a,.int b])
theorem PotC.same {H H':Hp} {p:Addr} (x:PotC H p) (s:Same H H'):PotC H' p:=by
 obtain ⟨a,b,h1,h2,h3,e⟩:=x
 exact ⟨a,b,h1,h2,h3,s _ _ e⟩
theorem PotC.new {H:Hp} {p q:Addr} {o:HO} (x:PotC H p) (h:H q=none):PotC (upd H q o) p:=x.same (Same.new h)
theorem PotC.some {H:Hp} {p:Addr} (x:PotC H p):H p≠none:=by
 obtain ⟨a,b,h1,h2,h3,e⟩:=x
 rw [e]; exact fun z=>by cases z
theorem PotC.ne {H:Hp} {p q:Addr} (x:PotC H p) (h:H q=none):p≠q:=fun z=>x.some (z ▸ h)
theorem eU {H:Hp} {p:Addr} (h:PotC H p):∃xs,H p=some (.lst xs):=by
 obtain ⟨_,_,_,_,_,e⟩:=h
 exact ⟨_,e⟩
theorem PotC.put {H:Hp} {p l:Addr} {o:HO} (x:PotC H p) (n:p≠l):PotC (upd H l o) p:=by
 obtain ⟨a,b,h1,h2,h3,e⟩:=x
 exact ⟨a,b,h1,h2,h3,by rw [az n]; exact e⟩
theorem But.freeC {p q:Addr} {H H':Hp} (b:But p H H') (x:PotC H' p) (h:H' q=none):q≠p∧H q=none:=by
 have n:q≠p:=fun z=>x.some (z ▸ h)
 refine ⟨n,?_⟩
 cases e:H q with
 | none=>rfl
 | some o=>rw [b q o n e] at h; cases h
theorem bJ {p c:Addr} {H0 H:Hp} {o:HO} (b:But p H0 H) (pt:PotC H p) (h:H c=none):∃H',upd H c o=H'∧H' c=some o∧c≠p∧Same H H'∧But p H0 H'∧PotC H' p :=
 ⟨_,rfl,ah,Ne.symm (pt.ne h),Same.new h,b.trans (But.new h),pt.new h⟩
theorem bQ {p:Addr} {H H':Hp} (b:But p H H') (pt:PotC H p) {c:Addr} {xs:List V} (e:H c=some (.tup xs)):H' c=some (.tup xs):=by
 obtain ⟨_,hp⟩:=eU pt
 exact b _ _ (fun z=>by rw [z,hp] at e; cases e) e
theorem qa {p:Addr} {rs:List V} {ks:List Kd} {H H':Hp} (b:But p H H') (pt:PotC H p) (h:Tups H rs ks):Tups H' rs ks:=Tups.keep (fun x xs e=>bQ b pt e) h
theorem But.refl' {p:Addr} {H:Hp}:But p H H:=fun _ _ _ e=>e
section
variable {P:Program} {w:World} {K:PySem.W.Frag} {mg:Str→Option Value} {base:Heap}
def jv:Sp:=fun vs H Q _=>∃ (c k:Int),vs=[.int c,.int k]∧0≤k∧k≤63∧∀ (p:Addr) (H':Hp),H p=none→PotC H' p→Same H H'→Q (.ref p) H'
def cu:Sp:=fun vs H Q _=>∃ (p:Addr) (m:Int),vs=[.ref p,.int m]∧PotC H p∧0 < m∧m≤10 ^ 60∧∀ (r:Int) (H':Hp),0≤r→r < m→PotC H' p→But p H H'→Q (.int r) H'
def jw:Sp:=fun vs H Q _=>∃ (p:Addr),vs=[.ref p]∧PotC H p∧∀ (r:Int) (H':Hp),1≤r→r < 2 * 10 ^ 56→PotC H' p→But p H H'→Q (.int r) H'
def eY:Sp:=fun vs H Q _=>∃ (p:Addr) (u m:Int),vs=[.ref p,.int u,.int m]∧PotC H p∧1≤u∧u < 2 * 10 ^ 56∧1≤m∧m≤40∧∀ (r:Int) (H':Hp),1≤r→r < 10 ^ 58→PotC H' p→But p H H'→Q (.int r) H'
def fL:Sp:=fun vs H Q _=>∃ (p:Addr),vs=[.ref p]∧PotC H p∧∀ (r:Int) (H':Hp),0≤r→r < 10 ^ 60→PotC H' p→But p H H'→Q (.int r) H'
theorem sccell:FnScope ["_law_script","_law_k"] ["_law_script","_law_k"] (defScope iK):=⟨rfl,rfl,rfl,by decide +kernel,rfl,by decide +kernel,by decide +kernel⟩
theorem oT {f:Addr} {fd:FuncData} (F:Fun K "_law_cell" "_law_cell" iK f fd) (B:Blt mg):FnOk P w K mg base CX0 1 f fd ["_law_script","_law_k"] (jn K):=by
 refine F.ok sccell (fun vs H Q E h=>?_) (fun cdv A outer s H vs Q E hr h=>?_)
 ·obtain ⟨a,ns,n,rfl,_⟩:=h
  rfl
 obtain ⟨a,ns,n,rfl,hS,n0,q⟩:=h
 have nd:=sccell.nd
 refine ⟨_,(@af _ _ _ _ _ (@aS _ _ _ _ _ _ _ _ (@aI _ _ _ _ _ _ _ _ jU (pv 1) (@aE _ _ _ _ _ _ _ _ _ aP rfl B.len PySem.boot_len (@aa _ _ _ _ _ (pv 0) ab rfl) (by decide) (by decide) rfl rfl) (aG _)) (@ai _ _ _ (@aA _ _ _ _ (@ar _ _ _ _ _ _ _ ix_list (pv 0) (pv 1) (fun _ _=>rfl)))) aF) (@ai _ _ _ (@aA _ _ _ _ ae))),?_⟩
 have hl:(ns.map V.int).length=ns.length:=List.length_map _
 refine ⟨_,rfl,_,rfl,a,_,rfl,.inl hS,_,_,rfl,rfl,_,rfl,?_⟩
 refine bE (fun c=>?_) (fun c=>?_)
 ·have c':n < ((ns.map V.int).length:Int):=of_decide_eq_true c
  rw [hl] at c'
  have hk:n.toNat < ns.length:=by omega
  have hv:atI (ns.map V.int) n=some (.int ns[n.toNat]):=cL n0 (by rw [List.getElem?_map,List.getElem?_eq_getElem hk]; rfl)
  exact ⟨_,rfl,_,rfl,a,_,_,_,rfl,rfl,hS,hv,q _⟩
 ·exact q _
theorem scpotc:FnScope ["_law_cell_here","_law_k"] ["_law_cell_here","_law_k"] (defScope mV):=⟨rfl,rfl,rfl,by decide +kernel,rfl,by decide +kernel,by decide +kernel⟩
theorem oU {f:Addr} {fd:FuncData} (F:Fun K "_law_pot" "_law_pot" mV f fd) (B:Blt mg):FnOk P w K mg base CX0 1 f fd ["_law_cell_here","_law_k"] (jv):=by
 refine F.ok scpotc (fun vs H Q E h=>?_) (fun cdv A outer s H vs Q E hr h=>?_)
 ·obtain ⟨c,k,rfl,_⟩:=h
  rfl
 obtain ⟨c,k,rfl,k0,k1,q⟩:=h
 have nd:=scpotc.nd
 refine ⟨_,(@ai _ _ _ (@aA _ _ _ _ (@bd _ _ _ _ (@aa _ _ _ _ _ (@aE _ _ _ _ _ _ _ _ _ (cF rfl) rfl B.max PyProof.Rows.boot_max (@aa _ _ _ _ _ ae (@aa _ _ _ _ _ (@aB _ _ _ _ _ _ _ _ cQ (@aE _ _ _ _ _ _ _ _ _ il rfl B.abs PyProof.Rows.boot_abs (@aa _ _ _ _ _ (pv 0) ab rfl) (by decide) (by decide) rfl rfl) (@aB _ _ _ _ _ _ _ _ eA ae ae)) ab rfl) rfl) (by decide) (by decide) rfl rfl) (@aa _ _ _ _ _ (@aB _ _ _ _ _ _ _ _ aJ (@aB _ _ _ _ _ _ _ _ aJ (@aB _ _ _ _ _ _ _ _ fh (@aE _ _ _ _ _ _ _ _ _ il rfl B.abs PyProof.Rows.boot_abs (@aa _ _ _ _ _ (pv 0) ab rfl) (by decide) (by decide) rfl rfl) ae) (@aB _ _ _ _ _ _ _ _ bN ae (pv 1))) ae) ab rfl) rfl)))),?_⟩
 refine ⟨_,rfl,_,rfl,_,_,rfl,rfl,⟨by decide,by decide,by decide⟩,_,_,rfl,rfl,_,_,rfl,_,rfl,_,rfl,_,_,rfl,rfl,(by show (0:Int) < 2147483563; decide),_,rfl,_,_,rfl,rfl,.inl ⟨by decide,by decide⟩,_,_,rfl,rfl,_,_,rfl,rfl,(by show 2≤sizeLine; decide),fun p hp=>?_⟩
 have e1:=Int.emod_nonneg (if c < 0 then -c else c) (show (2147483563:Int)≠0 by decide)
 have e2:=Int.emod_lt_of_pos (if c < 0 then -c else c) (show (0:Int) < 2147483563 by decide)
 refine q p _ hp ⟨_,_,?_,?_,?_,ah⟩ (Same.new hp)
 ·split <;> omega
 ·omega
 ·omega
theorem sctake:FnScope ["_law_pot_here","_law_many","_law_digit"] ["_law_pot_here","_law_many"] (defScope iL):=⟨rfl,rfl,rfl,by decide +kernel,rfl,by decide +kernel,by decide +kernel⟩
theorem oV {f:Addr} {fd:FuncData} (F:Fun K "_law_take" "_law_take" iL f fd) (B:Blt mg):FnOk P w K mg base CX0 1 f fd ["_law_pot_here","_law_many"] (cu):=by
 refine F.ok sctake (fun vs H Q E h=>?_) (fun cdv A outer s H vs Q E hr h=>?_)
 ·obtain ⟨p,m,rfl,_⟩:=h
  rfl
 obtain ⟨p,m,rfl,⟨a,b,a0,b0,b1,hp⟩,m0,m1,q⟩:=h
 have nd:=sctake.nd
 refine ⟨_,(@af _ _ _ _ _ (@aS _ _ _ _ _ _ _ _ (@aI _ _ _ _ _ _ _ _ fY (@ar _ _ _ _ _ _ _ ix_list (pv 0) ae (fun _ _=>rfl)) ae (aG _)) (@af _ _ _ _ _ (@aD _ _ 2 _ _ _ _ nd rfl (Or.inl rfl) (@aB _ _ _ _ _ _ _ _ fh (@ar _ _ _ _ _ _ _ ix_list (pv 0) ae (fun _ _=>rfl)) (pv 1)) rfl (Or.inl rfl)) (@af _ _ _ _ _ (@ce _ _ _ _ _ _ (@aB _ _ _ _ _ _ _ _ ir (@ar _ _ _ _ _ _ _ ix_list (pv 0) ae (fun _ _=>rfl)) (pv 1)) (mr (pv 0) ae ip) rfl rfl rfl) (@ai _ _ _ (@aA _ _ _ _ (pv 2))))) aF) (@af _ _ _ _ _ (@ce _ _ _ _ _ _ (@aB _ _ _ _ _ _ _ _ fh (@aB _ _ _ _ _ _ _ _ aJ (@aB _ _ _ _ _ _ _ _ bN (@ar _ _ _ _ _ _ _ ix_list (pv 0) ae (fun _ _=>rfl)) ae) ae) ae) (mr (pv 0) ae ip) rfl rfl rfl) (@ai _ _ _ (@aA _ _ _ _ (@aB _ _ _ _ _ _ _ _ fh (@aB _ _ _ _ _ _ _ _ ir (@aB _ _ _ _ _ _ _ _ fh (@aB _ _ _ _ _ _ _ _ bN (@ar _ _ _ _ _ _ _ ix_list (pv 0) ae (fun _ _=>rfl)) (@ar _ _ _ _ _ _ _ ix_list (pv 0) ae (fun _ _=>rfl))) ae) ae) (pv 1)))))),?_⟩
 have at0:atI [V.int a,V.int b] 0=some (.int a):=rfl
 have at1:atI [V.int a,V.int b] 1=some (.int b):=rfl
 refine ⟨_,rfl,p,_,_,_,rfl,rfl,SqL.of hp,at0,_,_,rfl,rfl,_,rfl,?_⟩
 refine bE (fun c=>?_) (fun c=>?_)
 ·have c':0 < a:=of_decide_eq_true c
  refine ⟨_,rfl,p,_,_,_,rfl,rfl,SqL.of hp,at0,_,rfl,_,_,rfl,rfl,m0,?_⟩
  refine ⟨_,rfl,p,_,_,_,rfl,rfl,SqL.of hp,at0,_,rfl,_,_,rfl,rfl,⟨m0,m1⟩,_,rfl,p,_,_,_,rfl,rfl,hp,rfl,?_⟩
  refine ⟨_,rfl,q _ _ (Int.emod_nonneg _ (by omega)) (Int.emod_lt_of_pos _ m0) ⟨a / m,b,Int.ediv_nonneg a0 (by omega),b0,b1,ah⟩ But.upd⟩
 ·refine ⟨_,rfl,p,_,_,_,rfl,rfl,SqL.of hp,at1,_,_,rfl,rfl,.inr ⟨by decide,by decide⟩,_,_,rfl,rfl,_,_,rfl,rfl,(by show (0:Int) < 2147483629; decide),_,rfl,p,_,_,_,rfl,rfl,hp,rfl,?_⟩
  have n0:0≤(b * 39373 + 7919) % 2147483629:=Int.emod_nonneg _ (by decide)
  have n1:(b * 39373 + 7919) % 2147483629 < 2147483629:=Int.emod_lt_of_pos _ (by decide)
  refine ⟨_,rfl,p,_,_,_,rfl,rfl,SqL.of ah,rfl,_,rfl,p,_,_,_,rfl,rfl,SqL.of ah,rfl,_,_,rfl,rfl,.inl ⟨by omega,by omega⟩,_,_,rfl,rfl,(by show (0:Int) < 2147483563; decide),_,_,rfl,rfl,⟨by decide,by decide⟩,_,rfl,_,_,rfl,rfl,m0,?_⟩
  exact q _ _ (Int.emod_nonneg _ (by omega)) (Int.emod_lt_of_pos _ m0) ⟨a,_,a0,n0,by omega,ah⟩ But.upd
theorem scunit:FnScope ["_law_pot_here","_law_some"] ["_law_pot_here"] (defScope iM):=⟨rfl,rfl,rfl,by decide +kernel,rfl,by decide +kernel,by decide +kernel⟩
theorem oW {f:Addr} {fd:FuncData} (F:Fun K "_law_unit" "_law_unit" iM f fd) (B:Blt mg) (DD:Dn P w K mg base "_law_take" ["_law_pot_here","_law_many"] 1 (cu)):FnOk P w K mg base CX0 2 f fd ["_law_pot_here"] (jw):=by
 refine F.ok scunit (fun vs H Q E h=>?_) (fun cdv A outer s H vs Q E hr h=>?_)
 ·obtain ⟨p,rfl,_⟩:=h
  rfl
 obtain ⟨p,rfl,pt,q⟩:=h
 have nd:=scunit.nd
 refine ⟨_,(@af _ _ _ _ _ (@aD _ _ 1 _ _ _ _ nd rfl (Or.inl rfl) (@bd _ _ _ _ (@aa _ _ _ _ _ ae (@aa _ _ _ _ _ ae (@aa _ _ _ _ _ (@aB _ _ _ _ _ _ _ _ aJ ae (@aw _ _ _ _ _ _ _ _ _ _ DD hr rfl (@aa _ _ _ _ _ (pv 0) (@aa _ _ _ _ _ (@aB _ _ _ _ _ _ _ _ eA ae ae) ab rfl) rfl) (by decide) rfl rfl)) (@aa _ _ _ _ _ (@aB _ _ _ _ _ _ _ _ aJ (@aB _ _ _ _ _ _ _ _ eA ae ae) (@aw _ _ _ _ _ _ _ _ _ _ DD hr rfl (@aa _ _ _ _ _ (pv 0) (@aa _ _ _ _ _ (@aB _ _ _ _ _ _ _ _ eA ae ae) ab rfl) rfl) (by decide) rfl rfl)) ab rfl) rfl) rfl) rfl)) rfl (Or.inl rfl)) (@ai _ _ _ (@aA _ _ _ _ (@ar _ _ _ _ _ _ _ ix_list (pv 1) (@aw _ _ _ _ _ _ _ _ _ _ DD hr rfl (@aa _ _ _ _ _ (pv 0) (@aa _ _ _ _ _ ae ab rfl) rfl) (by decide) rfl rfl) (fun _ _=>rfl))))),?_⟩
 have e56:(10:Int) ^ (56:Int).toNat=10 ^ 56:=rfl
 have e66:(10:Int) ^ 6 < 10 ^ 56:=by decide
 refine au (fun σ' H'=>∃ (l:Addr) (c d:Int),σ'=[some (.ref p),some (.ref l)]∧l≠p∧H' l=some (.lst [.int 1,.int 1,.int c,.int d])∧1≤c∧c < 2 * 10 ^ 56∧1≤d∧d < 2 * 10 ^ 56∧PotC H' p∧But p H H') (fun R hR=>?_) ?_
 ·refine ⟨_,rfl,_,_,rfl,rfl,⟨by decide,by decide,by decide⟩,p,_,rfl,pt,(by show (0:Int) < 10 ^ (6:Int).toNat; decide),(by show (10:Int) ^ (6:Int).toNat≤10 ^ 60; decide),fun r H1 r0 r1 pt1 b1=>⟨_,_,rfl,rfl,_,_,rfl,rfl,⟨by decide,by decide,by decide⟩,_,rfl,_,_,rfl,rfl,⟨by decide,by decide,by decide⟩,p,_,rfl,pt1,(by show (0:Int) < 10 ^ (56:Int).toNat; decide),(by show (10:Int) ^ (56:Int).toNat≤10 ^ 60; decide),fun r2 H2 r20 r21 pt2 b2=>⟨_,_,rfl,rfl,(by show 4≤sizeLine; decide),fun l hl=>?_⟩⟩⟩
  have r1:r < 10 ^ 6:=r1
  rw [e56] at r21
  obtain ⟨H3,e3,k3,n3,s3,b3,pt3⟩:=bJ (o:=.lst [.int 1,.int 1,.int (1 + r),.int (10 ^ (56:Int).toNat + r2)]) (b1.trans b2) pt2 hl
  rw [show upd H2 l _=H3 from e3]
  exact hR _ _ ⟨l,_,_,rfl,n3,k3,by omega,by omega,by rw [e56]; omega,by rw [e56]; omega,pt3,b3⟩
 rintro _ H1 ⟨l,c,d,rfl,nlp,hl1,c0,c1,d0,d1,pt1,b1⟩
 refine ⟨_,rfl,_,rfl,p,4,rfl,pt1,by decide,by decide,fun r H2 r0 r1 pt2 b2=>?_⟩
 have hl2:=b2 _ _ nlp hl1
 have one:(1:Int) < 2 * 10 ^ 56:=by decide
 obtain ⟨x,hx,x0,x1⟩:∃x:Int,atI [V.int 1,V.int 1,V.int c,V.int d] r=some (.int x)∧1≤x∧x < 2 * 10 ^ 56:=by
  have:r=0∨r=1∨r=2∨r=3:=by omega
  rcases this with rfl | rfl | rfl | rfl
  ·exact ⟨1,rfl,by decide,one⟩
  ·exact ⟨1,rfl,by decide,one⟩
  ·exact ⟨c,rfl,c0,c1⟩
  ·exact ⟨d,rfl,d0,d1⟩
 exact ⟨l,_,_,_,rfl,rfl,SqL.of hl2,hx,q x H2 x0 x1 pt2 (b1.trans b2)⟩
theorem scsidecc:FnScope ["_law_pot_here","_law_unit_here","_law_most"] ["_law_pot_here","_law_unit_here","_law_most"] (defScope iN):=⟨rfl,rfl,rfl,by decide +kernel,rfl,by decide +kernel,by decide +kernel⟩
theorem ll {f:Addr} {fd:FuncData} (F:Fun K "_law_side" "_law_side" iN f fd) (B:Blt mg) (DD:Dn P w K mg base "_law_take" ["_law_pot_here","_law_many"] 1 (cu)):FnOk P w K mg base CX0 2 f fd ["_law_pot_here","_law_unit_here","_law_most"] (eY):=by
 refine F.ok scsidecc (fun vs H Q E h=>?_) (fun cdv A outer s H vs Q E hr h=>?_)
 ·obtain ⟨p,u,m,rfl,_⟩:=h
  rfl
 obtain ⟨p,u,m,rfl,pt,u0,u1,m1,m40,q⟩:=h
 have nd:=scsidecc.nd
 refine ⟨_,(@af _ _ _ _ _ (@aS _ _ _ _ _ _ _ _ (@aI _ _ _ _ _ _ _ _ cR (@aw _ _ _ _ _ _ _ _ _ _ DD hr rfl (@aa _ _ _ _ _ (pv 0) (@aa _ _ _ _ _ ae ab rfl) rfl) (by decide) rfl rfl) ae (aG _)) (@ai _ _ _ (@aA _ _ _ _ (@aB _ _ _ _ _ _ _ _ bN (pv 1) (@aB _ _ _ _ _ _ _ _ aJ ae (@aw _ _ _ _ _ _ _ _ _ _ DD hr rfl (@aa _ _ _ _ _ (pv 0) (@aa _ _ _ _ _ (pv 2) ab rfl) rfl) (by decide) rfl rfl))))) aF) (@ai _ _ _ (@aA _ _ _ _ (@aB _ _ _ _ _ _ _ _ aJ ae (@aw _ _ _ _ _ _ _ _ _ _ DD hr rfl (@aa _ _ _ _ _ (pv 0) (@aa _ _ _ _ _ (@aB _ _ _ _ _ _ _ _ bN (pv 2) (pv 1)) ab rfl) rfl) (by decide) rfl rfl))))),?_⟩
 have e58:40 * (2 * 10 ^ 56) < (10:Int) ^ 58:=by decide
 have e60:40 * (2 * 10 ^ 56) < (10:Int) ^ 60:=by decide
 have mu:m * u≤40 * (2 * 10 ^ 56):=Int.mul_le_mul m40 (Int.le_of_lt u1) (by omega) (by decide)
 have mu1:1≤m * u:=by have:=Int.mul_le_mul m1 u0 (by decide) (by omega); omega
 refine au (fun σ' H'=>σ'=[some (.ref p),some (.int u),some (.int m)]∧PotC H' p∧But p H H') (fun R hR=>?_) ?_
 ·refine ⟨_,rfl,p,2,rfl,pt,by decide,by decide,fun z H1 z0 z1 pt1 b1=>⟨rfl,_,rfl,?_⟩⟩
  refine bE (fun cc=>?_) (fun cc=>hR _ _ ⟨rfl,pt1,b1⟩)
  refine ⟨_,rfl,_,rfl,_,rfl,p,m,rfl,pt1,by omega,by omega,fun r H2 r0 r1 pt2 b2=>⟨_,_,rfl,rfl,_,_,rfl,rfl,.inr ⟨by omega,by omega⟩,q _ H2 ?_ ?_ pt2 (b1.trans b2)⟩⟩
  ·have:=Int.mul_le_mul u0 (show (1:Int)≤1 + r by omega) (by decide) (by omega)
   omega
  ·have:u * (1 + r)≤u * m:=Int.mul_le_mul_of_nonneg_left (by omega) (by omega)
   rw [Int.mul_comm u m] at this
   omega
 rintro _ H1 ⟨rfl,pt1,b1⟩
 exact ⟨_,rfl,_,rfl,_,rfl,_,_,rfl,rfl,.inl ⟨by omega,by omega⟩,p,m * u,rfl,pt1,by omega,by omega,fun r H2 r0 r1 pt2 b2=>⟨_,_,rfl,rfl,q _ H2 (by omega) (by omega) pt2 (b1.trans b2)⟩⟩
theorem scworthc:FnScope ["_law_pot_here","_law_some"] ["_law_pot_here"] (defScope fI):=⟨rfl,rfl,rfl,by decide +kernel,rfl,by decide +kernel,by decide +kernel⟩
theorem lm {f:Addr} {fd:FuncData} (F:Fun K "_law_worth" "_law_worth" fI f fd) (B:Blt mg) (DD:Dn P w K mg base "_law_take" ["_law_pot_here","_law_many"] 1 (cu)):FnOk P w K mg base CX0 2 f fd ["_law_pot_here"] (fL):=by
 refine F.ok scworthc (fun vs H Q E h=>?_) (fun cdv A outer s H vs Q E hr h=>?_)
 ·obtain ⟨p,rfl,_⟩:=h
  rfl
 obtain ⟨p,rfl,pt,q⟩:=h
 have nd:=scworthc.nd
 refine ⟨_,(@af _ _ _ _ _ (@aD _ _ 1 _ _ _ _ nd rfl (Or.inl rfl) (@bd _ _ _ _ (@aa _ _ _ _ _ (@aw _ _ _ _ _ _ _ _ _ _ DD hr rfl (@aa _ _ _ _ _ (pv 0) (@aa _ _ _ _ _ ae ab rfl) rfl) (by decide) rfl rfl) (@aa _ _ _ _ _ (@aw _ _ _ _ _ _ _ _ _ _ DD hr rfl (@aa _ _ _ _ _ (pv 0) (@aa _ _ _ _ _ (@aB _ _ _ _ _ _ _ _ eA ae ae) ab rfl) rfl) (by decide) rfl rfl) (@aa _ _ _ _ _ (@aB _ _ _ _ _ _ _ _ cQ (@aB _ _ _ _ _ _ _ _ cQ (@aB _ _ _ _ _ _ _ _ eA ae ae) ae) (@aw _ _ _ _ _ _ _ _ _ _ DD hr rfl (@aa _ _ _ _ _ (pv 0) (@aa _ _ _ _ _ ae ab rfl) rfl) (by decide) rfl rfl)) ab rfl) rfl) rfl)) rfl (Or.inl rfl)) (@ai _ _ _ (@aA _ _ _ _ (@ar _ _ _ _ _ _ _ ix_list (pv 1) (@aw _ _ _ _ _ _ _ _ _ _ DD hr rfl (@aa _ _ _ _ _ (pv 0) (@aa _ _ _ _ _ ae ab rfl) rfl) (by decide) rfl rfl) (fun _ _=>rfl))))),?_⟩
 have e60:(10:Int) ^ (60:Int).toNat=10 ^ 60:=rfl
 have e100:(100:Int) < 10 ^ 60:=by decide
 refine au (fun σ' H'=>∃ (l:Addr) (c d e:Int),σ'=[some (.ref p),some (.ref l)]∧l≠p∧H' l=some (.lst [.int c,.int d,.int e])∧0≤c∧c < 10 ^ 60∧0≤d∧d < 10 ^ 60∧0≤e∧e < 10 ^ 60∧PotC H' p∧But p H H') (fun R hR=>?_) ?_
 ·refine ⟨_,rfl,p,10,rfl,pt,by decide,by decide,fun r H1 r0 r1 pt1 b1=>⟨_,rfl,_,_,rfl,rfl,⟨by decide,by decide,by decide⟩,p,_,rfl,pt1,(by show (0:Int) < 10 ^ (60:Int).toNat; decide),(by show (10:Int) ^ (60:Int).toNat≤10 ^ 60; decide),fun r2 H2 r20 r21 pt2 b2=>⟨_,_,rfl,rfl,⟨by decide,by decide,by decide⟩,_,_,rfl,rfl,_,rfl,p,10,rfl,pt2,by decide,by decide,fun r3 H3 r30 r31 pt3 b3=>⟨_,_,rfl,rfl,(by show 3≤sizeLine; decide),fun l hl=>?_⟩⟩⟩⟩
  rw [e60] at r21
  obtain ⟨H4,e4,k4,n4,s4,b4,pt4⟩:=bJ (o:=.lst [.int r,.int r2,.int (10 ^ (60:Int).toNat - 1 - r3)]) (b1.trans (b2.trans b3)) pt3 hl
  rw [show upd H3 l _=H4 from e4]
  exact hR _ _ ⟨l,_,_,_,rfl,n4,k4,r0,by omega,r20,r21,by rw [e60]; omega,by rw [e60]; omega,pt4,b4⟩
 rintro _ H1 ⟨l,c,d,e,rfl,nlp,hl1,c0,c1,d0,d1,e0,e1,pt1,b1⟩
 refine ⟨_,rfl,_,rfl,p,3,rfl,pt1,by decide,by decide,fun r H2 r0 r1 pt2 b2=>?_⟩
 have hl2:=b2 _ _ nlp hl1
 obtain ⟨x,hx,x0,x1⟩:∃x:Int,atI [V.int c,V.int d,V.int e] r=some (.int x)∧0≤x∧x < 10 ^ 60:=by
  have:r=0∨r=1∨r=2:=by omega
  rcases this with rfl | rfl | rfl
  ·exact ⟨c,rfl,c0,c1⟩
  ·exact ⟨d,rfl,d0,d1⟩
  ·exact ⟨e,rfl,e0,e1⟩
 exact ⟨l,_,_,_,rfl,rfl,SqL.of hl2,hx,q x H2 x0 x1 pt2 (b1.trans b2)⟩
end
def LS (H:Hp) (t:Addr) (b:Int) (ks:List Kd) (kl:Addr):Prop:=∃rs,H t=some (.tup [.int b,.ref kl])∧H kl=some (.lst rs)∧Tups H rs ks
theorem LS.same {H H':Hp} {t kl:Addr} {b:Int} {ks:List Kd} (x:LS H t b ks kl) (s:Same H H'):LS H' t b ks kl:=by
 obtain ⟨rs,h1,h2,h3⟩:=x
 exact ⟨rs,s _ _ h1,s _ _ h2,Tups.keep (fun c xs e=>s _ _ e) h3⟩
theorem LS.but {p:Addr} {H H':Hp} {t kl:Addr} {b:Int} {ks:List Kd} (x:LS H t b ks kl) (n:kl≠p) (pt:PotC H p) (bt:But p H H'):LS H' t b ks kl:=by
 obtain ⟨rs,h1,h2,h3⟩:=x
 exact ⟨rs,bQ bt pt h1,bt _ _ n h2,qa bt pt h3⟩
def LyC (H:Hp) (v:V) (q:Nat×Bool):Prop:=∃a,v=.ref a∧H a=some (.tup [.int q.1,.bl q.2])
theorem LyC.keep {H H':Hp} (k:∀a xs,H a=some (.tup xs)→H' a=some (.tup xs)) {v:V} {q:Nat×Bool} (h:LyC H v q):LyC H' v q:=by
 obtain ⟨a,e,h⟩:=h
 exact ⟨a,e,k _ _ h⟩
structure Pq where
 k:Nat
 c:Bool
 x:Int
 y:Int
def pqV (p:Pq):List V:=[.int p.k,.bl p.c,.int p.x,.int p.y]
structure Bx where
 a:Int
 b:Int
 c:Int
 d:Int
def bxV (x:Bx):List V:=[.int x.a,.int x.b,.int x.c,.int x.d]
def lp (k:Kd) (p:Pq):Bx:=⟨p.x,p.y,p.x + sd1 k p.c,p.y + sd2 k p.c⟩
def apB (o r:Bx):Bool:=decide (o.c≤r.a) || decide (r.c≤o.a) || decide (o.d≤r.b) || decide (r.d≤o.b)
def Sq (H:Hp) (a:Addr) (xs:List V):Prop:=H a=some (.lst xs)∨H a=some (.tup xs)
theorem Sq.same {H H':Hp} {a:Addr} {xs:List V} (h:Sq H a xs) (s:Same H H'):Sq H' a xs:=h.imp (fun e=>s _ _ e) (fun e=>s _ _ e)
theorem ixS {K:PySem.W.Frag} {H:Hp} {a:Addr} {xs:List V} {i:Int} {v:V} {R:VK} (h:Sq H a xs) (e:atI xs i=some v) (r:R v H):rIx K (.ref a) (.int i) H R :=
 h.elim (fun z=>.inl ⟨a,xs,i,v,rfl,rfl,SqL.of z,e,r⟩) (fun z=>.inr (.inl ⟨a,xs,i,v,rfl,rfl,SqT.of z,e,r⟩))
theorem cP {α β:Type} {R:α→β→Prop}:∀ {xs:List α} {ys:List β} {xs':List α} {ys':List β},Paired R xs ys→Paired R xs' ys'→Paired R (xs ++ xs') (ys ++ ys')
 | _,_,_,_,.nil,h=>h
 | _,_,_,_,.cons a r,h=>.cons a (cP r h)
def GoodS (k:Kd):Prop:=Good k∧k.w < 10 ^ 58∧k.h < 10 ^ 58
section
variable {P:Program} {w:World} {K:PySem.W.Frag} {mg:Str→Option Value} {base:Heap}
def gR:Sp:=fun vs H Q _=>∃ (p:Addr) (u:Int),vs=[.ref p,.int u]∧PotC H p∧1≤u∧u < 2 * 10 ^ 56∧∀ (t kl:Addr) (b:Int) (ks:List Kd) (H':Hp),LS H' t b ks kl→kl≠p→H kl=none→(∀k∈ks,GoodS k)→1≤ks.length→ks.length≤8→0≤b→b < 10 ^ 60→PotC H' p→But p H H'→Q (.ref t) H'
def eg:Sp:=fun vs H Q _=>∃ (t kl:Addr) (b:Int) (ks:List Kd) (i:Nat) (c:Bool) (k:Kd),vs=[.ref t,.int i,.bl c]∧LS H t b ks kl∧ks[i]? = some k∧∀ (r:Addr) (H':Hp),H' r=some (.tup [.int (sd1 k c),.int (sd2 k c)])→Same H H'→Q (.ref r) H'
def dh:Sp:=fun vs H Q _=>∃ (t kl:Addr) (b:Int) (ks:List Kd),vs=[.ref t]∧LS H t b ks kl∧ks.length≤8∧∀ (l:Addr) (ys:List V) (H':Hp),H' l=some (.lst ys)→H l=none→Paired (LyC H') ys (lyK ks 0)→Same H H'→Q (.ref l) H'
def kq:Sp:=fun vs H Q _=>∃ (t kl a:Addr) (b:Int) (ks:List Kd) (p:Pq) (k:Kd),vs=[.ref t,.ref a]∧LS H t b ks kl∧Sq H a (pqV p)∧ks[p.k]? = some k∧∀ (r:Addr) (H':Hp),H' r=some (.tup (bxV (lp k p)))→Same H H'→Q (.ref r) H'
def gS:Sp:=fun vs H Q _=>∃ (a1 a2:Addr) (o r:Bx),vs=[.ref a1,.ref a2]∧H a1=some (.tup (bxV o))∧H a2=some (.tup (bxV r))∧Q (.bl (apB o r)) H
theorem scshopc:FnScope ["_law_pot_here","_law_unit_here","_law_blade","_law_kinds","_law_k","_law_wide","_law_high"] ["_law_pot_here","_law_unit_here"] (defScope iO):=⟨rfl,rfl,rfl,by decide +kernel,rfl,by decide +kernel,by decide +kernel⟩
theorem nq {f:Addr} {fd:FuncData} (F:Fun K "_law_shop" "_law_shop" iO f fd) (B:Blt mg) (DD:Dn P w K mg base "_law_take" ["_law_pot_here","_law_many"] 1 (cu)) (DSi:Dn P w K mg base "_law_side" ["_law_pot_here","_law_unit_here","_law_most"] 2 (eY)) (DWo:Dn P w K mg base "_law_worth" ["_law_pot_here"] 2 (fL)):FnOk P w K mg base CX0 3 f fd ["_law_pot_here","_law_unit_here"] (gR):=by
 refine F.ok scshopc (fun vs H Q E h=>?_) (fun cdv A outer s H vs Q E hr h=>?_)
 ·obtain ⟨p,u,rfl,_⟩:=h
  rfl
 obtain ⟨p,u,rfl,pt,u0,u1,q⟩:=h
 have nd:=scshopc.nd
 refine ⟨_,(@af _ _ _ _ _ (@aD _ _ 2 _ _ _ _ nd rfl (Or.inl rfl) (@ar _ _ _ _ _ _ _ ix_list (@bd _ _ _ _ (@aa _ _ _ _ _ ae (@aa _ _ _ _ _ (pv 1) (@aa _ _ _ _ _ (@aw _ _ _ _ _ _ _ _ _ _ DD (hr.mono (by decide)) rfl (@aa _ _ _ _ _ (pv 0) (@aa _ _ _ _ _ ae ab rfl) rfl) (by decide) rfl rfl) (@aa _ _ _ _ _ (@aw _ _ _ _ _ _ _ _ _ _ DD (hr.mono (by decide)) rfl (@aa _ _ _ _ _ (pv 0) (@aa _ _ _ _ _ (@aB _ _ _ _ _ _ _ _ aJ (@aB _ _ _ _ _ _ _ _ bN ae (pv 1)) ae) ab rfl) rfl) (by decide) rfl rfl) ab rfl) rfl) rfl) rfl)) (@aw _ _ _ _ _ _ _ _ _ _ DD (hr.mono (by decide)) rfl (@aa _ _ _ _ _ (pv 0) (@aa _ _ _ _ _ ae ab rfl) rfl) (by decide) rfl rfl) (fun _ _=>rfl)) rfl (Or.inl rfl)) (@af _ _ _ _ _ (@aD _ _ 3 _ _ _ _ nd rfl (Or.inl rfl) (@bd _ _ _ _ ab) rfl (Or.inl rfl)) (@af _ _ _ _ _ (@cf _ _ _ _ _ _ _ _ PassesOwn.never rfl (cZ rfl B.range (@aa _ _ _ _ _ (@aB _ _ _ _ _ _ _ _ aJ ae (@aw _ _ _ _ _ _ _ _ _ _ DD (hr.mono (by decide)) rfl (@aa _ _ _ _ _ (pv 0) (@aa _ _ _ _ _ ae ab rfl) rfl) (by decide) rfl rfl)) ab rfl)) (av (i:=4) nd rfl (Or.inl rfl)) (@af _ _ _ _ _ (@aD _ _ 5 _ _ _ _ nd rfl (Or.inl rfl) (@aw _ _ _ _ _ _ _ _ _ _ DSi hr rfl (@aa _ _ _ _ _ (pv 0) (@aa _ _ _ _ _ (pv 1) (@aa _ _ _ _ _ ae ab rfl) rfl) rfl) (by decide) rfl rfl) rfl (Or.inl rfl)) (@af _ _ _ _ _ (@aD _ _ 6 _ _ _ _ nd rfl (Or.inl rfl) (@ar _ _ _ _ _ _ _ ix_list (@bd _ _ _ _ (@aa _ _ _ _ _ (pv 5) (@aa _ _ _ _ _ (@aw _ _ _ _ _ _ _ _ _ _ DSi hr rfl (@aa _ _ _ _ _ (pv 0) (@aa _ _ _ _ _ (pv 1) (@aa _ _ _ _ _ ae ab rfl) rfl) rfl) (by decide) rfl rfl) ab rfl) rfl)) (@bv _ _ _ _ _ _ _ _ _ fZ rfl B.int PyProof.Rows.boot_int (@aa _ _ _ _ _ (@bn _ _ _ _ _ _ _ _ fY (@aw _ _ _ _ _ _ _ _ _ _ DD (hr.mono (by decide)) rfl (@aa _ _ _ _ _ (pv 0) (@aa _ _ _ _ _ ae ab rfl) rfl) (by decide) rfl rfl) ae (aG _)) ab rfl) (by decide) (by decide) rfl rfl) (fun _ _=>rfl)) rfl (Or.inl rfl)) (@ai _ _ _ (@bF _ _ _ _ (@dk _ _ _ _ _ _ _ _ _ _ _ _ PySem.F.plainAttrs_list PySem.F.slot_list_append PySem.F.type_list_append bo (pv 3) (@aa _ _ _ _ _ (@aN _ _ _ _ _ (@aa _ _ _ _ _ (pv 5) (@aa _ _ _ _ _ (pv 6) (@aa _ _ _ _ _ (@aw _ _ _ _ _ _ _ _ _ _ DWo hr rfl (@aa _ _ _ _ _ (pv 0) ab rfl) (by decide) rfl rfl) (@aa _ _ _ _ _ (@aw _ _ _ _ _ _ _ _ _ _ DWo hr rfl (@aa _ _ _ _ _ (pv 0) ab rfl) (by decide) rfl rfl) (@aa _ _ _ _ _ (@bn _ _ _ _ _ _ _ _ cR (@aw _ _ _ _ _ _ _ _ _ _ DD (hr.mono (by decide)) rfl (@aa _ _ _ _ _ (pv 0) (@aa _ _ _ _ _ ae ab rfl) rfl) (by decide) rfl rfl) ae (aG _)) ab rfl) rfl) rfl) rfl) rfl)) ab rfl) rfl rfl rfl rfl rfl) rfl)))) (by intro _; rfl)) (@ai _ _ _ (@aA _ _ _ _ (@aN _ _ _ _ _ (@aa _ _ _ _ _ (pv 2) (@aa _ _ _ _ _ (pv 3) ab rfl) rfl))))))),?_⟩
 have e60:(100:Int) < 10 ^ 60:=by decide
 have e58:(10:Int) ^ 58 < 10 ^ 60:=by decide
 have e57:2 * (2 * 10 ^ 56) + 1 < (10:Int) ^ 60:=by decide
 have sz:(100:Nat) < sizeLine:=by decide
 refine au (fun σ' H'=>∃b:Int,σ'=[some (.ref p),some (.int u),some (.int b),none,none,none,none]∧0≤b∧b < 10 ^ 60∧PotC H' p∧But p H H') (fun R hR=>?_) ?_
 ·refine ⟨_,rfl,_,rfl,p,3,rfl,pt,by decide,by decide,fun r1 H1 r10 r11 pt1 b1=>⟨_,rfl,_,rfl,_,_,rfl,rfl,.inl ⟨by decide,by decide⟩,_,_,rfl,rfl,p,_,rfl,pt1,by omega,by omega,fun r2 H2 r20 r21 pt2 b2=>⟨(by show 4≤sizeLine; decide),fun l hl=>?_⟩⟩⟩
  obtain ⟨H3,e3,k3,n3,s3,b3,pt3⟩:=bJ (o:=.lst [.int 0,.int u,.int r1,.int r2]) (b1.trans b2) pt2 hl
  rw [show upd H2 l _=H3 from e3]
  refine ⟨_,rfl,p,4,rfl,pt3,by decide,by decide,fun r H4 r0 r1' pt4 b4=>?_⟩
  have hl4:=b4 _ _ n3 k3
  obtain ⟨x,hx,x0,x1⟩:∃x:Int,atI [V.int 0,V.int u,V.int r1,V.int r2] r=some (.int x)∧0≤x∧x < 10 ^ 60:=by
   have:r=0∨r=1∨r=2∨r=3:=by omega
   rcases this with rfl | rfl | rfl | rfl
   ·exact ⟨0,rfl,by decide,by omega⟩
   ·exact ⟨u,rfl,by omega,by omega⟩
   ·exact ⟨r1,rfl,r10,by omega⟩
   ·exact ⟨r2,rfl,r20,by omega⟩
  exact ⟨l,_,_,_,rfl,rfl,SqL.of hl4,hx,hR _ _ ⟨x,rfl,x0,x1,pt4,b3.trans b4⟩⟩
 rintro _ H1 ⟨b,rfl,b0,b1',pt1,b1⟩
 refine au (fun σ' H'=>∃l:Addr,σ'=[some (.ref p),some (.int u),some (.int b),some (.ref l),none,none,none]∧l≠p∧H1 l=none∧H' l=some (.lst [])∧PotC H' p∧But p H H') (fun R hR=>?_) ?_
 ·refine ⟨by decide,fun l hl=>?_⟩
  obtain ⟨H2,e2,k2,n2,s2,b2,pt2⟩:=bJ (o:=.lst []) b1 pt1 hl
  rw [show upd H1 l _=H2 from e2]
  exact hR _ _ ⟨l,rfl,n2,hl,k2,pt2,b2⟩
 rintro _ H2 ⟨l,rfl,nlp,hl1,hl2,pt2,b2⟩
 have hl0:H l=none:=(b1.freeC pt1 hl1).2
 refine au (fun σ' H'=>(∃ (v4 v5 v6:Option V) (rs:List V) (ks:List Kd),σ'=[some (.ref p),some (.int u),some (.int b),some (.ref l),v4,v5,v6]∧H' l=some (.lst rs)∧Tups H' rs ks∧(∀k∈ks,GoodS k)∧(1≤rs.length∧rs.length≤8)∧PotC H' p∧But p H H')) (fun R hR=>?_) ?_
 ·refine ⟨_,rfl,p,8,rfl,pt2,by decide,by decide,fun m H3 m0 m1 pt3 b3=>⟨_,_,rfl,rfl,_,rfl,by omega,by omega,?_⟩⟩
  refine et (n:=(1 + m).toNat) (fun i σ' H'=>(∃ (v4 v5 v6:Option V) (rs:List V) (ks:List Kd),σ'=[some (.ref p),some (.int u),some (.int b),some (.ref l),v4,v5,v6]∧H' l=some (.lst rs)∧Tups H' rs ks∧(∀k∈ks,GoodS k)∧rs.length=i∧PotC H' p∧But p H H')) ⟨_,_,_,[],[],rfl,b3 _ _ nlp hl2,.nil,fun k hk=>by simp at hk,rfl,pt3,b2.trans b3⟩ ?_ ?_
  ·rintro i _ H4 hi ⟨v4,v5,v6,rs,ks,rfl,hl4,tp4,gk4,rl4,pt4,bt4⟩
   refine ⟨_,rfl,_,rfl,p,u,6,rfl,pt4,u0,u1,by decide,by decide,fun w1 H5 w0 w1' pt5 b5=>?_⟩
   refine ⟨_,rfl,_,rfl,_,rfl,p,u,6,rfl,pt5,u0,u1,by decide,by decide,fun h1 H6 h0 h1' pt6 b6=>⟨(by show 2≤sizeLine; decide),fun l2 hl2'=>?_⟩⟩
   obtain ⟨H7,e7,k7,n7,s7,b7,pt7⟩:=bJ (o:=.lst [.int w1,.int h1]) (b5.trans b6) pt6 hl2'
   rw [show upd H6 l2 _=H7 from e7]
   refine ⟨_,rfl,p,5,rfl,pt7,by decide,by decide,fun z H8 z0 z1 pt8 b8=>⟨_,_,rfl,rfl,.inr ⟨_,rfl,?_⟩⟩⟩
   have l28:=b8 _ _ n7 k7
   obtain ⟨nn,hnn,nn0,nn1⟩:∃nn:Int,atI [V.int w1,V.int h1] (if decide (0 < z)=true then (1:Int) else 0)=some (.int nn)∧1≤nn∧nn < 10 ^ 58:=by
    by_cases c:(0:Int) < z
    ·exact ⟨h1,by rw [decide_eq_true c]; rfl,h0,h1'⟩
    ·exact ⟨w1,by rw [decide_eq_false c]; rfl,w0,w1'⟩
   refine ⟨l2,_,_,_,rfl,rfl,SqL.of l28,hnn,?_⟩
   have b48:=b7.trans b8
   have hl8:=b48 _ _ nlp hl4
   refine ⟨_,rfl,.inl ⟨rfl,_,SqL.of hl8⟩,_,rfl,_,rfl,_,rfl,p,rfl,pt8,fun wo H9 wo0 wo1 pt9 b9=>?_⟩
   refine ⟨_,rfl,p,rfl,pt9,fun wa Ha wa0 wa1 pta ba=>?_⟩
   refine ⟨_,rfl,p,2,rfl,pta,by decide,by decide,fun tu Hb tu0 tu1 ptb bb=>⟨rfl,(by show 5≤sizeLine; decide),fun t ht=>?_⟩⟩
   have b4b:=b48.trans (b9.trans (ba.trans bb))
   obtain ⟨H12,e12,k12,n12,s12,b12,pt12⟩:=bJ (o:=.tup [.int w1,.int nn,.int wo,.int wa,.bl (decide (V.int tu=V.int 0))]) (bt4.trans b4b) ptb ht
   rw [show upd Hb t _=H12 from e12]
   have k12:H12 t=some (.tup (kdV ⟨w1,nn,wo,wa,decide (V.int tu=V.int 0)⟩)):=k12
   have hlc:=s12 _ _ (b4b _ _ nlp hl4)
   refine ⟨l,_,_,rfl,rfl,hlc,(by have:i < (1 + m).toNat:=hi; omega),?_⟩
   have kt:∀ {c:Addr} {xs:List V},H12 c=some (.tup xs)→(upd H12 l (.lst (rs ++ [.ref t]))) c=some (.tup xs):=fun {c xs} e=>by
    rw [az (fun z=>by rw [z,hlc] at e; cases e)]; exact e
   refine ⟨_,_,_,rs ++ [.ref t],ks ++ [⟨w1,nn,wo,wa,decide (V.int tu=V.int 0)⟩],rfl,ah,?_,fun k hk=>?_,by rw [List.length_append,rl4]; rfl,pt12.put (Ne.symm nlp),fun c o n e=>?_⟩
   ·exact cP (Tups.keep (fun c xs e=>kt (s12 _ _ e)) (qa b4b pt4 tp4)) (.cons ⟨t,rfl,kt k12⟩ .nil)
   ·rcases List.mem_append.mp hk with hk | hk
    ·exact gk4 k hk
    ·rw [List.mem_singleton.mp hk]
     exact ⟨⟨by show (1:Int)≤w1; omega,by show (1:Int)≤nn; omega,wo0,wa0,by show w1 < _; omega,by show nn < _; omega,wo1,wa1⟩,w1',nn1⟩
   ·rw [az (fun z=>by rw [z,hl0] at e; cases e)]
    exact b12 _ _ n e
  ·rintro _ H4 ⟨v4,v5,v6,rs,ks,rfl,hl4,tp4,gk4,rl4,pt4,bt4⟩
   exact hR _ _ ⟨_,_,_,rs,ks,rfl,hl4,tp4,gk4,⟨by omega,by omega⟩,pt4,bt4⟩
 rintro _ H3 ⟨v4,v5,v6,rs,ks,rfl,hl3,tp3,gk3,⟨r1,r8⟩,pt3,bt3⟩
 refine ⟨_,rfl,_,rfl,(by show 2≤sizeLine; decide),fun t ht=>?_⟩
 obtain ⟨H6,e6,k6,n6,s6,b6,pt6⟩:=bJ (o:=.tup [.int b,.ref l]) bt3 pt3 ht
 rw [show upd H3 t _=H6 from e6]
 have rl:=Paired.length tp3
 exact q t l b ks H6 ⟨rs,k6,s6 _ _ hl3,Tups.keep (fun c xs e=>s6 _ _ e) tp3⟩ nlp hl0 gk3 (by omega) (by omega) b0 b1' pt6 b6
theorem scsidesc:FnScope ["_law_shop_here","_law_kind","_law_turned","_law_wide","_law_high"] ["_law_shop_here","_law_kind","_law_turned"] (defScope fJ):=⟨rfl,rfl,rfl,by decide +kernel,rfl,by decide +kernel,by decide +kernel⟩
theorem lq {f:Addr} {fd:FuncData} (F:Fun K "_law_sides" "_law_sides" fJ f fd) (B:Blt mg):FnOk P w K mg base CX0 1 f fd ["_law_shop_here","_law_kind","_law_turned"] (eg):=by
 refine F.ok scsidesc (fun vs H Q E h=>?_) (fun cdv A outer s H vs Q E hr h=>?_)
 ·obtain ⟨t,kl,b,ks,i,c,k,rfl,_⟩:=h
  rfl
 obtain ⟨t,kl,b,ks,i,c,k,rfl,sh,hi,q⟩:=h
 have nd:=scsidesc.nd
 refine ⟨_,(@af _ _ _ _ _ (@ce _ _ _ _ _ _ (@bT _ _ _ _ _ _ _ _ _ _ eE (@ar _ _ _ _ _ _ _ ix_list (@ar _ _ _ _ _ _ _ ix_tup (pv 0) ae (fun _ _=>rfl)) (pv 1) (fun _ _=>rfl)) cx (cy ae)) (br rfl (ay (av (i:=3) nd rfl (Or.inl rfl)) (ay (av (i:=4) nd rfl (Or.inl rfl)) aX))) rfl rfl rfl) (@ai _ _ _ (@aA _ _ _ _ (@ar _ _ _ _ _ _ _ ix_list (@bd _ _ _ _ (@aa _ _ _ _ _ (@aN _ _ _ _ _ (@aa _ _ _ _ _ (pv 3) (@aa _ _ _ _ _ (pv 4) ab rfl) rfl)) (@aa _ _ _ _ _ (@aN _ _ _ _ _ (@aa _ _ _ _ _ (pv 4) (@aa _ _ _ _ _ (pv 3) ab rfl) rfl)) ab rfl) rfl)) (@bv _ _ _ _ _ _ _ _ _ fZ rfl B.int PyProof.Rows.boot_int (@aa _ _ _ _ _ (pv 2) ab rfl) (by decide) (by decide) rfl rfl) (fun _ _=>rfl))))),?_⟩
 have sz:(100:Nat) < sizeLine:=by decide
 obtain ⟨rs,h1,h2,h3⟩:=id sh
 obtain ⟨vv,hvv,ak,rfl,hak⟩:=Paired.getL h3 hi
 have hak:H ak=some (.tup [.int k.w,.int k.h,.int k.wo,.int k.wa,.bl k.tu]):=hak
 have hat:atI rs (i:Int)=some (.ref ak):=cL (by omega) (by rw [Int.toNat_natCast]; exact hvv)
 refine au (fun σ' H'=>σ'=[some (.ref t),some (.int i),some (.bl c),some (.int k.w),some (.int k.h)]∧Same H H') (fun R hR=>?_) ?_
 ·refine ⟨_,rfl,t,_,1,_,rfl,rfl,SqT.of h1,rfl,_,rfl,kl,_,_,_,rfl,rfl,SqL.of h2,hat,_,rfl,ak,_,rfl,SqT.of hak,(fun z=>absurd z.2 (show ¬ HT.sIx 5 5 (some 2)=5 by decide)),fun a ha=>?_⟩
  obtain ⟨H1,e1,k1,s1⟩:∃H',upd H a (.tup (bK [.int k.w,.int k.h,.int k.wo,.int k.wa,.bl k.tu] none (some 2)))=H'∧H' a=some (.tup (bK [.int k.w,.int k.h,.int k.wo,.int k.wa,.bl k.tu] none (some 2)))∧Same H H':=⟨_,rfl,ah,Same.new ha⟩
  rw [show upd H a _=H1 from e1]
  exact ⟨a,_,rfl,SqT.of (show H1 a=some (.tup [.int k.w,.int k.h]) from k1),rfl,_,_,rfl,_,_,rfl,rfl,hR _ _ ⟨rfl,s1⟩⟩
 rintro _ H1 ⟨rfl,s1⟩
 refine ⟨_,rfl,_,rfl,(by show 2≤sizeLine; decide),fun a ha=>?_⟩
 obtain ⟨H2,e2,k2,s2⟩:∃H',upd H1 a (.tup [.int k.w,.int k.h])=H'∧H' a=some (.tup [.int k.w,.int k.h])∧Same H1 H':=⟨_,rfl,ah,Same.new ha⟩
 rw [show upd H1 a _=H2 from e2]
 refine ⟨_,rfl,_,rfl,(by show 2≤sizeLine; decide),fun a2 ha2=>?_⟩
 obtain ⟨H3,e3,k3,s3⟩:∃H',upd H2 a2 (.tup [.int k.h,.int k.w])=H'∧H' a2=some (.tup [.int k.h,.int k.w])∧Same H2 H':=⟨_,rfl,ah,Same.new ha2⟩
 rw [show upd H2 a2 _=H3 from e3]
 refine ⟨(by show 2≤sizeLine; decide),fun l hl=>?_⟩
 obtain ⟨H4,e4,k4,s4⟩:∃H',upd H3 l (.lst [.ref a,.ref a2])=H'∧H' l=some (.lst [.ref a,.ref a2])∧Same H3 H':=⟨_,rfl,ah,Same.new hl⟩
 rw [show upd H3 l _=H4 from e4]
 refine ⟨_,rfl,.inr ⟨_,rfl,?_⟩⟩
 cases c with
 | true=>exact ⟨l,_,_,_,rfl,rfl,SqL.of k4,rfl,q a2 H4 (s4 _ _ k3) (s1.trans (s2.trans (s3.trans s4)))⟩
 | false=>exact ⟨l,_,_,_,rfl,rfl,SqL.of k4,rfl,q a H4 (s4 _ _ (s3 _ _ k2)) (s1.trans (s2.trans (s3.trans s4)))⟩
theorem sclyingsc:FnScope ["_law_shop_here","_law_found","_law_k","_law_kind"] ["_law_shop_here"] (defScope dZ):=⟨rfl,rfl,rfl,by decide +kernel,rfl,by decide +kernel,by decide +kernel⟩
theorem jx {f:Addr} {fd:FuncData} (F:Fun K "_law_lyings" "_law_lyings" dZ f fd) (B:Blt mg):FnOk P w K mg base CX0 1 f fd ["_law_shop_here"] (dh):=by
 refine F.ok sclyingsc (fun vs H Q E h=>?_) (fun cdv A outer s H vs Q E hr h=>?_)
 ·obtain ⟨t,kl,b,ks,rfl,_⟩:=h
  rfl
 obtain ⟨t,kl,b,ks,rfl,sh,k8,q⟩:=h
 have nd:=sclyingsc.nd
 refine ⟨_,(@af _ _ _ _ _ (@aD _ _ 1 _ _ _ _ nd rfl (Or.inl rfl) (@bd _ _ _ _ ab) rfl (Or.inl rfl)) (@af _ _ _ _ _ (@cf _ _ _ _ _ _ _ _ PassesOwn.never rfl (ki rfl B.enumerate (@aa _ _ _ _ _ (@ar _ _ _ _ _ _ _ ix_tup (pv 0) ae (fun _ _=>rfl)) ab rfl)) (br rfl (ay (av (i:=2) nd rfl (Or.inl rfl)) (ay (av (i:=3) nd rfl (Or.inl rfl)) aX))) (@af _ _ _ _ _ (@bF _ _ _ _ (@dk _ _ _ _ _ _ _ _ _ _ _ _ PySem.F.plainAttrs_list PySem.F.slot_list_append PySem.F.type_list_append bo (pv 1) (@aa _ _ _ _ _ (@aN _ _ _ _ _ (@aa _ _ _ _ _ (pv 2) (@aa _ _ _ _ _ cb ab rfl) rfl)) ab rfl) rfl rfl rfl rfl rfl) rfl) (@ai _ _ _ (@aS _ _ _ _ _ _ _ _ (PW.pt (ff (@aR _ _ _ (@ar _ _ _ _ _ _ _ ix_tup (pv 3) ae (fun _ _=>rfl)) (by intro _; rfl)) (dH (@aI _ _ _ _ _ _ _ _ fX (@ar _ _ _ _ _ _ _ ix_tup (pv 3) ae (fun _ _=>rfl)) (@ar _ _ _ _ _ _ _ ix_tup (pv 3) ae (fun _ _=>rfl)) (aG _))))) (@ai _ _ _ (@bF _ _ _ _ (@dk _ _ _ _ _ _ _ _ _ _ _ _ PySem.F.plainAttrs_list PySem.F.slot_list_append PySem.F.type_list_append bo (pv 1) (@aa _ _ _ _ _ (@aN _ _ _ _ _ (@aa _ _ _ _ _ (pv 2) (@aa _ _ _ _ _ cb ab rfl) rfl)) ab rfl) rfl rfl rfl rfl rfl) rfl)) aF))) (by intro _; rfl)) (@ai _ _ _ (@aA _ _ _ _ (pv 1))))),?_⟩
 have sz:(100:Nat) < sizeLine:=by decide
 obtain ⟨rs,h1,h2,h3⟩:=id sh
 have rl:=Paired.length h3
 refine au (fun σ' H'=>∃l:Addr,σ'=[some (.ref t),some (.ref l),none,none]∧H l=none∧H' l=some (.lst [])∧Same H H') (fun R hR=>?_) ?_
 ·refine ⟨by decide,fun l hl=>?_⟩
  obtain ⟨H1,e1,k1,s1⟩:∃H',upd H l (.lst [])=H'∧H' l=some (.lst [])∧Same H H':=⟨_,rfl,ah,Same.new hl⟩
  rw [show upd H l _=H1 from e1]
  exact hR _ _ ⟨l,rfl,hl,k1,s1⟩
 rintro _ H1 ⟨l,rfl,hl,hl1,s1⟩
 have nkl:kl≠l:=aj h2 hl
 refine au (fun σ' H'=>(∃v2 v3:Option V,σ'=[some (.ref t),some (.ref l),v2,v3])∧(∃ys,H' l=some (.lst ys)∧Paired (LyC H') ys (lyK ks 0))∧But l H1 H') (fun R hR=>?_) ?_
 ·refine ⟨_,rfl,t,_,1,_,rfl,rfl,SqT.of (s1 _ _ h1),rfl,kl,rs,rfl,.inl ⟨s1 _ _ h2,iz (f:=.lst) (fun _ _ e=>by cases e; rfl) (l:=kl) (xs:=rs) (fun i σ' H'=>(∃ (v2 v3:Option V) (ys:List V),σ'=[some (.ref t),some (.ref l),v2,v3]∧H' l=some (.lst ys)∧Paired (LyC H') ys (lyK (ks.take i) 0)∧But l H1 H')) ⟨_,_,[],rfl,hl1,.nil,fun _ _ _ e=>e⟩ (fun i σ Hx ⟨v2,v3,ys,_,_,_,b⟩=>b _ _ nkl (s1 _ _ h2)) ?_ (fun σ Hx ⟨v2,v3,ys,e,hy,py,b⟩=>hR _ _ ⟨⟨v2,v3,e⟩,⟨ys,hy,by rw [rl,List.take_length] at py; exact py⟩,b⟩)⟩⟩
  rintro i x pp σ H2 hx hp ⟨v2,v3,ys,rfl,l2,py,b2⟩
  obtain ⟨k,hk',ka,rfl,hka⟩:=Paired.getR h3 hx
  have hin:i < rs.length:=(List.getElem?_eq_some_iff.mp hx).1
  obtain ⟨H3,e3,k3,s3⟩:∃H',upd H2 pp (.tup [.int i,.ref ka])=H'∧H' pp=some (.tup [.int i,.ref ka])∧Same H2 H':=⟨_,rfl,ah,Same.new hp⟩
  rw [show upd H2 pp _=H3 from e3]
  have nka:ka≠l:=aj hka hl
  have ka3:H3 ka=some (.tup [.int k.w,.int k.h,.int k.wo,.int k.wa,.bl k.tu]):=s3 _ _ (b2 _ _ nka (s1 _ _ hka))
  have yl:=Paired.length py
  have yl2:=eW (ks.take i) 0
  rw [List.length_take] at yl2
  have lt:lyK (ks.take (i + 1)) 0=lyK (ks.take i) 0 ++ lyT i k:=by
   rw [List.take_add_one,hk']
   show lyK (ks.take i ++ [k]) 0=_
   rw [iA,List.length_take,Nat.zero_add,Nat.min_eq_left (by omega)]
  refine ⟨pp,_,rfl,SqT.of k3,rfl,_,_,rfl,_,_,rfl,rfl,?_⟩
  have app:∀ (Hx:Hp) (a:Addr) (zs:List V) (q:Nat×Bool) (L:List (Nat×Bool)),Hx l=some (.lst zs)→Paired (LyC Hx) zs L→Hx a=some (.tup [.int q.1,.bl q.2])→But l H1 Hx→Paired (LyC (upd Hx l (.lst (zs ++ [.ref a])))) (zs ++ [.ref a]) (L ++ [q])∧But l H1 (upd Hx l (.lst (zs ++ [.ref a]))):=fun Hx a zs q L hx pz ha bx=>by
   have kt:∀c xs,Hx c=some (.tup xs)→(upd Hx l (.lst (zs ++ [.ref a]))) c=some (.tup xs):=fun c xs e=>by
    rw [az (fun z=>by rw [z,hx] at e; cases e)]; exact e
   exact ⟨cP (Paired.mapP pz fun v q h=>h.keep kt) (.cons ⟨a,rfl,kt _ _ ha⟩ .nil),fun c o n e=>by rw [az n]; exact bx _ _ n e⟩
  refine au (fun σ' H'=>σ'=[some (.ref t),some (.ref l),some (.int i),some (.ref ka)]∧(∃ys,H' l=some (.lst ys)∧ys.length≤2 * i + 1∧Paired (LyC H') ys (lyK (ks.take i) 0 ++ [(i,false)]))∧But l H1 H') (fun R hR=>?_) ?_
  ·refine ⟨_,rfl,.inl ⟨rfl,_,SqL.of (s3 _ _ l2)⟩,_,rfl,(by show 2≤sizeLine; decide),fun a ha=>?_⟩
   obtain ⟨H4,e4,k4,s4⟩:∃H',upd H3 a (.tup [.int i,.bl false])=H'∧H' a=some (.tup [.int i,.bl false])∧Same H3 H':=⟨_,rfl,ah,Same.new ha⟩
   rw [show upd H3 a _=H4 from e4]
   have l4:=s4 _ _ (s3 _ _ l2)
   obtain ⟨a1,a2⟩:=app H4 a ys (i,false) _ l4 (Paired.mapP py fun v q h=>h.keep fun c xs e=>s4 _ _ (s3 _ _ e)) k4 (fun c o n e=>s4 _ _ (s3 _ _ (b2 _ _ n e)))
   exact ⟨l,_,_,rfl,rfl,l4,by omega,hR _ _ ⟨rfl,⟨_,ah,by rw [List.length_append]; show ys.length + 1≤_; omega,a1⟩,a2⟩⟩
  rintro _ H4 ⟨rfl,⟨zs,l4,zl,py4⟩,b4⟩
  have ka4:H4 ka=some (.tup [.int k.w,.int k.h,.int k.wo,.int k.wa,.bl k.tu]):=b4 _ _ nka (s1 _ _ hka)
  have no:aO k=false→(∃ (v2 v3:Option V) (ys:List V),([some (.ref t),some (.ref l),some (.int i),some (.ref ka)]:St)=[some (.ref t),some (.ref l),v2,v3]∧H4 l=some (.lst ys)∧Paired (LyC H4) ys (lyK (ks.take (i + 1)) 0)∧But l H1 H4):=fun ht=>⟨_,_,zs,rfl,l4,by rw [lt]; unfold lyT; rw [ht]; exact py4,b4⟩
  refine ⟨_,rfl,ka,_,4,_,rfl,rfl,SqT.of ka4,rfl,_,rfl,?_⟩
  cases htu:k.tu with
  | false=>exact bh (no (by unfold aO; rw [htu]; rfl))
  | true =>
   refine bu ⟨_,rfl,ka,_,0,_,rfl,rfl,SqT.of ka4,rfl,_,rfl,ka,_,1,_,rfl,rfl,SqT.of ka4,rfl,rfl,_,rfl,?_⟩
   by_cases hwh:k.w=k.h
   ·rw [show (!decide (V.int k.w=V.int k.h))=false by rw [decide_eq_true (by rw [hwh])]; rfl]
    exact bh (no (by unfold aO; rw [decide_eq_true hwh]; simp))
   ·rw [show (!decide (V.int k.w=V.int k.h))=true by rw [decide_eq_false (fun z=>hwh (V.int.inj z))]; rfl]
    have ht:aO k=true:=by unfold aO; rw [htu,decide_eq_false hwh]; rfl
    refine bu ⟨_,rfl,.inl ⟨rfl,_,SqL.of l4⟩,_,rfl,(by show 2≤sizeLine; decide),fun a ha=>?_⟩
    obtain ⟨H5,e5,k5,s5⟩:∃H',upd H4 a (.tup [.int i,.bl true])=H'∧H' a=some (.tup [.int i,.bl true])∧Same H4 H':=⟨_,rfl,ah,Same.new ha⟩
    rw [show upd H4 a _=H5 from e5]
    have l5:=s5 _ _ l4
    obtain ⟨a1,a2⟩:=app H5 a zs (i,true) _ l5 (Paired.mapP py4 fun v q h=>h.keep fun c xs e=>s5 _ _ e) k5 (fun c o n e=>s5 _ _ (b4 _ _ n e))
    exact ⟨l,_,_,rfl,rfl,l5,by omega,_,_,_,rfl,ah,by rw [lt]; unfold lyT; rw [if_pos ht]; rw [List.append_assoc] at a1; exact a1,a2⟩
 rintro _ H2 ⟨⟨v2,v3,rfl⟩,⟨ys,hy,py⟩,b2⟩
 exact ⟨_,rfl,q l ys H2 hy hl py (fun c o e=>b2 _ _ (aj e hl) (s1 _ _ e))⟩
theorem scbox:FnScope ["_law_shop_here","_law_piece","_law_own"] ["_law_shop_here","_law_piece"] (defScope mW):=⟨rfl,rfl,rfl,by decide +kernel,rfl,by decide +kernel,by decide +kernel⟩
theorem qN {f:Addr} {fd:FuncData} (F:Fun K "_law_box" "_law_box" mW f fd) (B:Blt mg) (DSd:Dn P w K mg base "_law_sides" ["_law_shop_here","_law_kind","_law_turned"] 1 (eg)):FnOk P w K mg base CX0 2 f fd ["_law_shop_here","_law_piece"] (kq):=by
 refine F.ok scbox (fun vs H Q E h=>?_) (fun cdv A outer s H vs Q E hr h=>?_)
 ·obtain ⟨t,kl,a,b,ks,p,k,rfl,_⟩:=h
  rfl
 obtain ⟨t,kl,a,b,ks,p,k,rfl,sh,hp,hk,q⟩:=h
 have nd:=scbox.nd
 refine ⟨_,(@af _ _ _ _ _ (@aD _ _ 2 _ _ _ _ nd rfl (Or.inl rfl) (@aw _ _ _ _ _ _ _ _ _ _ DSd hr rfl (@aa _ _ _ _ _ (pv 0) (@aa _ _ _ _ _ (@ar _ _ _ _ _ _ _ cB (pv 1) ae (fun _ _=>rfl)) (@aa _ _ _ _ _ (@ar _ _ _ _ _ _ _ cB (pv 1) ae (fun _ _=>rfl)) ab rfl) rfl) rfl) (by decide) rfl rfl) rfl (Or.inl rfl)) (@ai _ _ _ (@aA _ _ _ _ (@aN _ _ _ _ _ (@aa _ _ _ _ _ (@ar _ _ _ _ _ _ _ cB (pv 1) ae (fun _ _=>rfl)) (@aa _ _ _ _ _ (@ar _ _ _ _ _ _ _ cB (pv 1) ae (fun _ _=>rfl)) (@aa _ _ _ _ _ (@aB _ _ _ _ _ _ _ _ aJ (@ar _ _ _ _ _ _ _ cB (pv 1) ae (fun _ _=>rfl)) (@ar _ _ _ _ _ _ _ ix_tup (pv 2) ae (fun _ _=>rfl))) (@aa _ _ _ _ _ (@aB _ _ _ _ _ _ _ _ aJ (@ar _ _ _ _ _ _ _ cB (pv 1) ae (fun _ _=>rfl)) (@ar _ _ _ _ _ _ _ ix_tup (pv 2) ae (fun _ _=>rfl))) ab rfl) rfl) rfl) rfl))))),?_⟩
 have SS:Sq H a (pqV p):=hp
 refine au (fun σ' H'=>∃o:Addr,σ'=[some (.ref t),some (.ref a),some (.ref o)]∧H' o=some (.tup [.int (sd1 k p.c),.int (sd2 k p.c)])∧Same H H') (fun R hR=>?_) ?_
 ·exact ⟨_,rfl,_,rfl,ixS SS rfl ⟨_,rfl,ixS SS rfl ⟨t,kl,b,ks,p.k,p.c,k,rfl,sh,hk,fun r H1 h1 s1=>hR _ _ ⟨r,rfl,h1,s1⟩⟩⟩⟩
 rintro _ H1 ⟨o,rfl,ho,s1⟩
 have S1:=SS.same s1
 refine ⟨_,rfl,ixS S1 rfl ⟨_,rfl,ixS S1 rfl ⟨_,rfl,ixS S1 rfl ⟨_,rfl,o,_,0,_,rfl,rfl,SqT.of ho,rfl,_,_,rfl,rfl,_,rfl,ixS S1 rfl ⟨_,rfl,o,_,1,_,rfl,rfl,SqT.of ho,rfl,_,_,rfl,rfl,(by show 4≤sizeLine; decide),fun r hr'=>?_⟩⟩⟩⟩⟩
 obtain ⟨H2,e2,k2,s2⟩:∃H',upd H1 r (.tup [.int p.x,.int p.y,.int (p.x + sd1 k p.c),.int (p.y + sd2 k p.c)])=H'∧H' r=some (.tup [.int p.x,.int p.y,.int (p.x + sd1 k p.c),.int (p.y + sd2 k p.c)])∧Same H1 H':=⟨_,rfl,ah,Same.new hr'⟩
 rw [show upd H1 r _=H2 from e2]
 exact q r H2 k2 (s1.trans s2)
theorem scapart:FnScope ["_law_one","_law_other"] ["_law_one","_law_other"] (defScope fK):=⟨rfl,rfl,rfl,by decide +kernel,rfl,by decide +kernel,by decide +kernel⟩
theorem nr {f:Addr} {fd:FuncData} (F:Fun K "_law_apart" "_law_apart" fK f fd)  : FnOk P w K mg base CX0 1 f fd ["_law_one","_law_other"] (gS):=by
 refine F.ok scapart (fun vs H Q E h=>?_) (fun cdv A outer s H vs Q E hr h=>?_)
 ·obtain ⟨a1,a2,o,r,rfl,_⟩:=h
  rfl
 obtain ⟨a1,a2,o,r,rfl,h1,h2,q⟩:=h
 have nd:=scapart.nd
 refine ⟨_,(@ai _ _ _ (@aA _ _ _ _ (jR (@bn _ _ _ _ _ _ _ _ dL (@ar _ _ _ _ _ _ _ ix_tup (pv 0) ae (fun _ _=>rfl)) (@ar _ _ _ _ _ _ _ ix_tup (pv 1) ae (fun _ _=>rfl)) (aG _)) (jR (@bn _ _ _ _ _ _ _ _ dL (@ar _ _ _ _ _ _ _ ix_tup (pv 1) ae (fun _ _=>rfl)) (@ar _ _ _ _ _ _ _ ix_tup (pv 0) ae (fun _ _=>rfl)) (aG _)) (jR (@bn _ _ _ _ _ _ _ _ dL (@ar _ _ _ _ _ _ _ ix_tup (pv 0) ae (fun _ _=>rfl)) (@ar _ _ _ _ _ _ _ ix_tup (pv 1) ae (fun _ _=>rfl)) (aG _)) (dv (@bn _ _ _ _ _ _ _ _ dL (@ar _ _ _ _ _ _ _ ix_tup (pv 1) ae (fun _ _=>rfl)) (@ar _ _ _ _ _ _ _ ix_tup (pv 0) ae (fun _ _=>rfl)) (aG _)))))))),?_⟩
 unfold apB at q
 have tru:∀ {z:Bool},z=true→z=true:=fun h=>h
 refine ⟨_,rfl,a1,_,2,_,rfl,rfl,SqT.of h1,rfl,_,rfl,a2,_,0,_,rfl,rfl,SqT.of h2,rfl,_,_,rfl,rfl,_,rfl,?_⟩
 refine bE (fun c1=>?_) (fun c1=>?_)
 ·rw [c1] at q; exact q
 rw [show decide (o.c≤r.a)=false by simpa using c1] at q
 refine ⟨_,rfl,a2,_,2,_,rfl,rfl,SqT.of h2,rfl,_,rfl,a1,_,0,_,rfl,rfl,SqT.of h1,rfl,_,_,rfl,rfl,_,rfl,?_⟩
 refine bE (fun c2=>?_) (fun c2=>?_)
 ·rw [c2] at q; exact q
 rw [show decide (r.c≤o.a)=false by simpa using c2] at q
 refine ⟨_,rfl,a1,_,3,_,rfl,rfl,SqT.of h1,rfl,_,rfl,a2,_,1,_,rfl,rfl,SqT.of h2,rfl,_,_,rfl,rfl,_,rfl,?_⟩
 refine bE (fun c3=>?_) (fun c3=>?_)
 ·rw [c3] at q; exact q
 rw [show decide (o.d≤r.b)=false by simpa using c3] at q
 exact ⟨_,rfl,a2,_,3,_,rfl,rfl,SqT.of h2,rfl,_,rfl,a1,_,1,_,rfl,rfl,SqT.of h1,rfl,_,_,rfl,rfl,q⟩
end
def jy (ks:List Kd) (w h:Int):PyData→PyData→PyData→PyData→Bool
 | .int i,.bool c,.int x,.int y=>ef ks w h (.int i) (.bl c) (.int x) (.int y)
 | _,_,_,_=>false
theorem Dts.one {p:Addr} {H:Hp} {xs:List V} {ds:List PyData} {n:Nat} (h:Dts p H xs ds) (hl:ds.length=n + 1):∃x d xs' ds',xs=x :: xs'∧ds=d :: ds'∧Dt p H x d∧Dts p H xs' ds'∧ds'.length=n:=by
 cases h with
 | nil=>cases hl
 | cons a r=>exact ⟨_,_,_,_,rfl,rfl,a,r,Nat.succ.inj hl⟩
theorem Dts.zero {p:Addr} {H:Hp} {xs:List V} {ds:List PyData} (h:Dts p H xs ds) (hl:ds.length=0):xs=[]∧ds=[]:=by
 cases h with
 | nil=>exact ⟨rfl,rfl⟩
 | cons a r=>cases hl
theorem Dts.four {p:Addr} {H:Hp} {xs:List V} {ds:List PyData} (h:Dts p H xs ds) (hl:ds.length=4):∃x1 x2 x3 x4 d1 d2 d3 d4,xs=[x1,x2,x3,x4]∧ds=[d1,d2,d3,d4]∧Dt p H x1 d1∧Dt p H x2 d2∧Dt p H x3 d3∧Dt p H x4 d4:=by
 obtain ⟨x1,d1,xs,ds,rfl,rfl,h1,h,hl⟩:=h.one hl
 obtain ⟨x2,d2,xs,ds,rfl,rfl,h2,h,hl⟩:=h.one hl
 obtain ⟨x3,d3,xs,ds,rfl,rfl,h3,h,hl⟩:=h.one hl
 obtain ⟨x4,d4,xs,ds,rfl,rfl,h4,h,hl⟩:=h.one hl
 obtain ⟨rfl,rfl⟩:=h.zero hl
 exact ⟨_,_,_,_,_,_,_,_,rfl,rfl,h1,h2,h3,h4⟩
theorem cN {C:Addr} {H H':Hp} {s:Addr} {b:Int} {ks:List Kd} (k:Same H H') (h:ShopAt C H s b ks):ShopAt C H' s b ks:=h.keep (fun c o e=>k _ _ e) (fun c C' d fs e=>k _ _ e)
def aK (ks:List Kd) (p:Pq):Bx:=match ks[p.k]? with
 | some k=>lp k p
 | none=>⟨0,0,0,0⟩
theorem bf {ks:List Kd} {p:Pq} {k:Kd} (h:ks[p.k]? = some k):aK ks p=lp k p:=by unfold aK; rw [h]
def onB (ks:List Kd) (W h:Int) (p:Pq):Bool:=!(decide (W < (aK ks p).c) || decide (h < (aK ks p).d))
def dn (ks:List Kd) (W h:Int) (ps:List Pq) (p:Pq):Bool:=onB ks W h p && (ps.map fun o=>apB (aK ks p) (aK ks o)).all id
def PqS (ks:List Kd) (H:Hp) (v:V) (q:Pq):Prop:=∃a k,v=.ref a∧Sq H a (pqV q)∧ks[q.k]? = some k
def bW (ks:List Kd) (w h:Int) (d:PyData):Bool:=match cr d with
 | some [k,t,x,y]=>jy ks w h k t x y
 | _=>false
theorem qO (k:Kd) (c:Bool):gP k c=[V.int (sd1 k c),V.int (sd2 k c)]:=by
 unfold gP sd1 sd2
 cases c <;> rfl
section
variable {P:Program} {w:World} {K:PySem.W.Frag} {mg:Str→Option Value} {base:Heap}
def eZ:Sp:=fun vs H Q _=>∃ (t kl pl a:Addr) (b W h:Int) (ks:List Kd) (ys:List V) (ps:List Pq) (p:Pq) (k:Kd),vs=[.ref t,.int W,.int h,.ref pl,.ref a]∧LS H t b ks kl∧H pl=some (.lst ys)∧Paired (PqS ks H) ys ps∧ys.length≤100∧Sq H a (pqV p)∧ks[p.k]? = some k∧∀H',Same H H'→Q (.bl (dn ks W h ps p)) H'
def jz:Sp:=fun vs H Q _=>∃ (a1 a2:Addr) (i j k l:Int),vs=[.ref a1,.ref a2]∧H a1=some (.tup [.int i,.int j])∧H a2=some (.tup [.int k,.int l])∧Q (.bl (decide (i < l) && decide (k < j))) H
def fb (C:Addr):Sp:=fun vs H Q _=>∃ (s a:Addr) (b:Int) (ks:List Kd) (p:Pq) (k:Kd),vs=[.ref s,.ref a]∧ShopAt C H s b ks∧Sq H a (pqV p)∧cj ks (.int p.k) (.bl p.c)=true∧ks[p.k]? = some k∧∀ (r r1 r2:Addr) (H':Hp),H' r=some (.tup [.ref r1,.ref r2])→H' r1=some (.tup [.int p.x,.int (p.x + sd1 k p.c)])→H' r2=some (.tup [.int p.y,.int (p.y + sd2 k p.c)])→Same H H'→Q (.ref r) H'
def fM (C:Addr):Sp:=fun vs H Q _=>∃ (pp s:Addr) (b w h:Int) (ks:List Kd) (v:V) (d:PyData),vs=[.ref s,.int w,.int h,v]∧ShopAt C H s b ks∧Dt pp H v d∧∀H',Same H H'→Q (.bl (bW ks w h d)) H'
theorem scfitsc:FnScope ["_law_shop_here","_law_wide","_law_high","_law_pieces","_law_piece","_law_box_here"] ["_law_shop_here","_law_wide","_law_high","_law_pieces","_law_piece"] (defScope gy):=⟨rfl,rfl,rfl,by decide +kernel,rfl,by decide +kernel,by decide +kernel⟩
theorem nu {f:Addr} {fd:FuncData} (F:Fun K "_law_fits" "_law_fits" gy f fd) (B:Blt mg) (DBx:Dn P w K mg base "_law_box" ["_law_shop_here","_law_piece"] 2 (kq)) (DAp:Dn P w K mg base "_law_apart" ["_law_one","_law_other"] 1 (gS)):FnOk P w K mg base CX0 3 f fd ["_law_shop_here","_law_wide","_law_high","_law_pieces","_law_piece"] (eZ):=by
 refine F.ok scfitsc (fun vs H Q E h=>?_) (fun cdv A outer s H vs Q E hr h=>?_)
 ·obtain ⟨t,kl,pl,a,b,W,h1,ks,ys,ps,p,k,rfl,_⟩:=h
  rfl
 obtain ⟨t,kl,pl,a,b,W,h1,ks,ys,ps,p,k,rfl,sh,hpl,py,y100,hp,hk,q⟩:=h
 have nd:=scfitsc.nd
 refine ⟨_,(@af _ _ _ _ _ (@aD _ _ 5 _ _ _ _ nd rfl (Or.inr rfl) (@aw _ _ _ _ _ _ _ _ _ _ DBx hr rfl (@aa _ _ _ _ _ (pv 0) (@aa _ _ _ _ _ (pv 4) ab rfl) rfl) (by decide) rfl rfl) rfl (Or.inl rfl)) (@af _ _ _ _ _ (@aS _ _ _ _ _ _ _ _ (PW.pt (cM (@aI _ _ _ _ _ _ _ _ fY (@ar _ _ _ _ _ _ _ ix_tup (pv 5) ae (fun _ _=>rfl)) (pv 1) (aG _)) (cA (@aI _ _ _ _ _ _ _ _ fY (@ar _ _ _ _ _ _ _ ix_tup (pv 5) ae (fun _ _=>rfl)) (pv 2) (aG _))))) (@ai _ _ _ (@aA _ _ _ _ cb)) aF) (@ai _ _ _ (@aA _ _ _ _ (@aE _ _ _ _ _ _ _ _ _ (eI rfl) rfl B.all PyProof.Rows.boot_all (@aa _ _ _ _ _ (bS (own:=["_law_other"]) (cs:=["_law_shop_here","_law_box_here"]) (cap:=[0,5]) rfl (bc (pv 3)) (aL (sc:=defScope gy) (N:=["_law_shop_here","_law_wide","_law_high","_law_pieces","_law_piece","_law_box_here"]) rfl rfl (by decide +kernel)) (fun _ _ _ _ _=>av (i:=0) (by show List.Nodup (["_law_other","_law_shop_here","_law_box_here"]:List Str) ; decide +kernel) rfl (Or.inl rfl) (Or.inr rfl)) (fun _ _ _ _ _=>aT) (fun _ _ _ _ _=>(@aw _ _ _ _ _ _ _ _ _ _ DAp (hr.mono (by decide)) rfl (@aa _ _ _ _ _ (pv 2) (@aa _ _ _ _ _ (@aw _ _ _ _ _ _ _ _ _ _ DBx hr rfl (@aa _ _ _ _ _ (pv 1) (@aa _ _ _ _ _ (pv 0) ab rfl) rfl) (by decide) rfl rfl) ab rfl) rfl) (by decide) rfl rfl))) ab rfl) (by decide) (by decide) rfl rfl))))),?_⟩
 have sz:(1000:Nat) < sizeLine:=by decide
 have eb:=bf hk
 have yl:=Paired.length py
 refine au (fun σ' H'=>∃r:Addr,σ'=[some (.ref t),some (.int W),some (.int h1),some (.ref pl),some (.ref a),some (.ref r)]∧H' r=some (.tup (bxV (aK ks p)))∧Same H H') (fun R hR=>?_) ?_
 ·exact ⟨_,rfl,_,rfl,t,kl,a,b,ks,p,k,rfl,sh,hp,hk,fun r H1 h1 s1=>hR _ _ ⟨r,rfl,by rw [eb]; exact h1,s1⟩⟩
 rintro _ H1 ⟨r,rfl,hr1,s1⟩
 refine au (fun σ' H'=>σ'=[some (.ref t),some (.int W),some (.int h1),some (.ref pl),some (.ref a),some (.ref r)]∧H1=H'∧onB ks W h1 p=true) (fun R hR=>?_) ?_
 ·refine ⟨_,rfl,r,_,2,_,rfl,rfl,SqT.of hr1,rfl,_,rfl,_,_,rfl,rfl,_,rfl,?_⟩
  refine bE (fun c1=>?_) (fun c1=>?_)
  ·have:=q H1 s1
   rw [show dn ks W h1 ps p=false by unfold dn onB; rw [show decide (W < (aK ks p).c)=true from c1]; rfl] at this
   exact this
  ·refine ⟨_,rfl,r,_,3,_,rfl,rfl,SqT.of hr1,rfl,_,rfl,_,_,rfl,rfl,_,rfl,?_⟩
   refine bE (fun c2=>?_) (fun c2=>?_)
   ·have:=q H1 s1
    rw [show dn ks W h1 ps p=false by unfold dn onB; rw [show decide (h1 < (aK ks p).d)=true from c2,Bool.or_true]; rfl] at this
    exact this
   ·exact hR _ _ ⟨rfl,rfl,by unfold onB; rw [show decide (W < (aK ks p).c)=false by simpa using c1,show decide (h1 < (aK ks p).d)=false by simpa using c2]; rfl⟩
 rintro _ _ ⟨rfl,rfl,on⟩
 have hpl1:=s1 _ _ hpl
 refine ⟨_,rfl,pl,rfl,⟨_,SqL.of hpl1⟩,(bg (K:=K) (.inl hpl1) (fun i us Hx=>Same H1 Hx∧us=((ps.take i).map fun o=>apB (aK ks p) (aK ks o)).map V.bl) (fun i us Hx _ ⟨sx,_⟩ o e=>sx _ _ e) ⟨Same.refl _,rfl⟩ ?_ ?_).1 hpl1⟩
 ·rintro i x us Hx hi ⟨sx,rfl⟩
  have hin:i < ys.length:=(List.getElem?_eq_some_iff.mp hi).1
  obtain ⟨o,ho,ao,ko,rfl,hao,hko⟩:=Paired.getR py hi
  have s0x:=s1.trans sx
  refine ⟨by rw [List.length_map,List.length_map,List.length_take]; omega,leS.set rfl,aU ?_⟩
  refine ⟨_,rfl,_,rfl,_,rfl,t,kl,ao,b,ks,o,ko,rfl,sh.same s0x,hao.same s0x,hko,fun r2 H3 h2 s3=>⟨r,r2,_,_,rfl,s3 _ _ (sx _ _ hr1),h2,Nx.of hin ⟨sx.trans s3,?_⟩⟩⟩
  rw [List.take_add_one,ho,← bf hko]
  simp only [Option.toList_some,List.map_append,List.map_cons,List.map_nil]
 ·rintro us Hx ⟨sx,rfl⟩
  rw [yl,List.take_length]
  refine ⟨by rw [List.length_map,List.length_map]; omega,fun l hl=>⟨l,_,rfl,SqL.of ah,?_⟩⟩
  have:=q _ (s1.trans (sx.trans (Same.new hl (o:=.lst ((ps.map fun o=>apB (aK ks p) (aK ks o)).map V.bl)))))
  unfold dn at this
  rw [on,Bool.true_and] at this
  exact this
theorem scmeet:FnScope ["one","other"] ["one","other"] (defScope iH):=⟨rfl,rfl,rfl,by decide +kernel,rfl,by decide +kernel,by decide +kernel⟩
theorem oX {f:Addr} {fd:FuncData} (F:Fun K "meet" "meet" iH f fd)  : FnOk P w K mg base CX0 1 f fd ["one","other"] (jz):=by
 refine F.ok scmeet (fun vs H Q E h=>?_) (fun cdv A outer s H vs Q E hr h=>?_)
 ·obtain ⟨a1,a2,i,j,k,l,rfl,_⟩:=h
  rfl
 obtain ⟨a1,a2,i,j,k,l,rfl,h1,h2,q⟩:=h
 have nd:=scmeet.nd
 refine ⟨_,(@ai _ _ _ (@aA _ _ _ _ (dw (@bn _ _ _ _ _ _ _ _ jU (@ar _ _ _ _ _ _ _ ix_tup (pv 0) ae (fun _ _=>rfl)) (@ar _ _ _ _ _ _ _ ix_tup (pv 1) ae (fun _ _=>rfl)) (aG _)) (dv (@bn _ _ _ _ _ _ _ _ jU (@ar _ _ _ _ _ _ _ ix_tup (pv 1) ae (fun _ _=>rfl)) (@ar _ _ _ _ _ _ _ ix_tup (pv 0) ae (fun _ _=>rfl)) (aG _)))))),?_⟩
 refine ⟨_,rfl,a1,_,0,_,rfl,rfl,SqT.of h1,rfl,_,rfl,a2,_,1,_,rfl,rfl,SqT.of h2,rfl,_,_,rfl,rfl,_,rfl,?_⟩
 refine bE (fun c=>?_) (fun c=>?_)
 ·rw [show decide (i < l)=true from c] at q
  exact ⟨_,rfl,a2,_,0,_,rfl,rfl,SqT.of h2,rfl,_,rfl,a1,_,1,_,rfl,rfl,SqT.of h1,rfl,_,_,rfl,rfl,q⟩
 ·rw [show decide (i < l)=false by simpa using c] at q
  exact q
theorem scspans:FnScope ["shop","piece","kind","turned","x","y","wide","high"] ["shop","piece"] (defScope cV):=⟨rfl,rfl,rfl,by decide +kernel,rfl,by decide +kernel,by decide +kernel⟩
theorem nv {f C:Addr} {fd:FuncData} (F:Fun K "spans_of" "spans_of" cV f fd) (T:ShopTxt K C) (MS:Mn P w K mg base C "sides" ["self","kind","turned"] 3 (eX K C)):FnOk P w K mg base CX0 4 f fd ["shop","piece"] (fb C):=by
 refine F.ok scspans (fun vs H Q E h=>?_) (fun cdv A outer s H vs Q E hr h=>?_)
 ·obtain ⟨s,a,b,ks,p,k,rfl,_⟩:=h
  rfl
 obtain ⟨s,a,b,ks,p,k,rfl,S0,hp,ly,hk,q⟩:=h
 have nd:=scspans.nd
 refine ⟨_,(@af _ _ _ _ _ (@ce _ _ _ _ _ _ (pv 1) (jh rfl (ay (av (i:=2) nd rfl (Or.inl rfl)) (ay (av (i:=3) nd rfl (Or.inl rfl)) (ay (av (i:=4) nd rfl (Or.inl rfl)) (ay (av (i:=5) nd rfl (Or.inl rfl)) aX))))) rfl rfl rfl) (@af _ _ _ _ _ (@ce _ _ _ _ _ _ (kj (pv 0) T.cl MS hr (@aa _ _ _ _ _ (pv 2) (@aa _ _ _ _ _ (pv 3) ab rfl) rfl)) (br rfl (ay (av (i:=6) nd rfl (Or.inl rfl)) (ay (av (i:=7) nd rfl (Or.inl rfl)) aX))) rfl rfl rfl) (@ai _ _ _ (@aA _ _ _ _ (@aN _ _ _ _ _ (@aa _ _ _ _ _ (@aN _ _ _ _ _ (@aa _ _ _ _ _ (pv 4) (@aa _ _ _ _ _ (@aB _ _ _ _ _ _ _ _ aJ (pv 4) (pv 6)) ab rfl) rfl)) (@aa _ _ _ _ _ (@aN _ _ _ _ _ (@aa _ _ _ _ _ (pv 5) (@aa _ _ _ _ _ (@aB _ _ _ _ _ _ _ _ aJ (pv 5) (pv 7)) ab rfl) rfl)) ab rfl) rfl)))))),?_⟩
 refine au (fun σ' H'=>σ'=[some (.ref s),some (.ref a),some (.int p.k),some (.bl p.c),some (.int p.x),some (.int p.y),none,none]∧H=H') (fun R hR=>?_) ?_
 ·exact ⟨_,rfl,a,_,rfl,hp.imp (fun z=>SqL.of z) (fun z=>SqT.of z),rfl,_,_,rfl,_,_,rfl,_,_,rfl,_,_,rfl,rfl,hR _ _ ⟨rfl,rfl⟩⟩
 rintro _ _ ⟨rfl,rfl⟩
 obtain ⟨dx,r0,rs,h1,h2,h3⟩:=id S0
 refine au (fun σ' H'=>σ'=[some (.ref s),some (.ref a),some (.int p.k),some (.bl p.c),some (.int p.x),some (.int p.y),some (.int (sd1 k p.c)),some (.int (sd2 k p.c))]∧Same H H') (fun R hR=>?_) ?_
 ·refine ⟨_, rfl, s, dx, _, rfl, h1, df _ _ (by decide +kernel) (by decide +kernel), _, rfl, _, rfl, s, b, ks, .int p.k, .bl p.c, "int", "bool", rfl, S0, Ty.int, Ty.bl, ly, fun i' c' k' r e1 e2 hk' _ hr=>?_⟩
  cases e1
  cases e2
  rw [Int.toNat_natCast,hk] at hk'
  cases hk'
  rw [qO]
  exact ⟨r,_,rfl,SqT.of ah,rfl,_,_,rfl,_,_,rfl,rfl,hR _ _ ⟨rfl,Same.new hr⟩⟩
 rintro _ H1 ⟨rfl,s1⟩
 refine ⟨_,rfl,_,rfl,_,rfl,_,_,rfl,rfl,(by show 2≤sizeLine; decide),fun r1 hr1=>?_⟩
 obtain ⟨H2,e2,k2,s2⟩:∃H',upd H1 r1 (.tup [.int p.x,.int (p.x + sd1 k p.c)])=H'∧H' r1=some (.tup [.int p.x,.int (p.x + sd1 k p.c)])∧Same H1 H':=⟨_,rfl,ah,Same.new hr1⟩
 rw [show upd H1 r1 _=H2 from e2]
 refine ⟨_,rfl,_,rfl,_,rfl,_,_,rfl,rfl,(by show 2≤sizeLine; decide),fun r2 hr2=>?_⟩
 obtain ⟨H3,e3,k3,s3⟩:∃H',upd H2 r2 (.tup [.int p.y,.int (p.y + sd2 k p.c)])=H'∧H' r2=some (.tup [.int p.y,.int (p.y + sd2 k p.c)])∧Same H2 H':=⟨_,rfl,ah,Same.new hr2⟩
 rw [show upd H2 r2 _=H3 from e3]
 refine ⟨(by show 2≤sizeLine; decide),fun r hr'=>?_⟩
 obtain ⟨H4,e4,k4,s4⟩:∃H',upd H3 r (.tup [.ref r1,.ref r2])=H'∧H' r=some (.tup [.ref r1,.ref r2])∧Same H3 H':=⟨_,rfl,ah,Same.new hr'⟩
 rw [show upd H3 r _=H4 from e4]
 exact q r r1 r2 H4 k4 (s4 _ _ (s3 _ _ k2)) (s4 _ _ k3) (s1.trans (s2.trans (s3.trans s4)))
theorem scplaced:FnScope ["shop","wide","high","thing"] ["shop","wide","high","thing"] (defScope cH):=⟨rfl,rfl,rfl,by decide +kernel,rfl,by decide +kernel,by decide +kernel⟩
theorem lr {f C:Addr} {tn4:Tok} {fd:FuncData} (F:Fun K "is_placed" "is_placed" cH f fd) (B:Blt mg) (n4:mg "THINGS_OF_A_PIECE" = some (.int 4 tn4)) (DR:Dn P w K mg base "is_row" ["thing"] 1 (gm K)) (DL:Dn P w K mg base "lies_in" ["shop","wide","high","kind","turned","x","y"] 4 (gQ K C)):FnOk P w K mg base CX0 5 f fd ["shop","wide","high","thing"] (fM C):=by
 refine F.ok scplaced (fun vs H Q E h=>?_) (fun cdv A outer s H vs Q E hr h=>?_)
 ·obtain ⟨pp,s,b',w1,h1,ks,v,d,rfl,_⟩:=h
  rfl
 obtain ⟨pp,s,b',w1,h1,ks,v,d,rfl,S,hd,q⟩:=h
 have nd:=scplaced.nd
 refine ⟨_,(@af _ _ _ _ _ (@aS _ _ _ _ _ _ _ _ (PW.pt (cM (@aZ _ _ _ _ (@aR _ _ _ (@aw _ _ _ _ _ _ _ _ _ _ DR (hr.mono (by decide)) rfl (@aa _ _ _ _ _ (pv 3) ab rfl) (by decide) rfl rfl) (by intro _; rfl))) (cA (@aI _ _ _ _ _ _ _ _ fX (@aE _ _ _ _ _ _ _ _ _ aP rfl B.len PySem.boot_len (@aa _ _ _ _ _ (pv 3) ab rfl) (by decide) (by decide) rfl rfl) (bm (v:=.int 4) rfl n4 ⟨tn4,rfl⟩) (aG _))))) (@ai _ _ _ (@aA _ _ _ _ cb)) aF) (@ai _ _ _ (@aA _ _ _ _ (@aw _ _ _ _ _ _ _ _ _ _ DL hr rfl (@aa _ _ _ _ _ (pv 0) (@aa _ _ _ _ _ (pv 1) (@aa _ _ _ _ _ (pv 2) (@aa _ _ _ _ _ (@ar _ _ _ _ _ _ _ cB (pv 3) ae (fun _ _=>rfl)) (@aa _ _ _ _ _ (@ar _ _ _ _ _ _ _ cB (pv 3) ae (fun _ _=>rfl)) (@aa _ _ _ _ _ (@ar _ _ _ _ _ _ _ cB (pv 3) ae (fun _ _=>rfl)) (@aa _ _ _ _ _ (@ar _ _ _ _ _ _ _ cB (pv 3) ae (fun _ _=>rfl)) ab rfl) rfl) rfl) rfl) rfl) rfl) rfl) (by decide) rfl rfl)))),?_⟩
 refine au (fun σ' H'=>σ'=[some (.ref s),some (.int w1),some (.int h1),some v]∧Same H H'∧∃ (a:Addr) (xs:List V) (ds:List PyData),v=.ref a∧Sq H a xs∧Dts pp H xs ds∧cr d=some ds∧ds.length=4) (fun R hR=>?_) ?_
 ·have no:∀H',Same H H'→(∀a b c e,cr d≠some [a,b,c,e])→Q (.bl false) H':=fun H' s hn=>by
   have:=q H' s
   rw [show bW ks w1 h1 d=false by
    unfold bW
    split
    ·exact absurd ‹_› (hn _ _ _ _)
    ·rfl] at this
   exact this
  rcases hd.row (K:=K) with ⟨er,T1,t1,e1⟩ | ⟨a,xs,ds,T1,er,rfl,hx,dx,t1,e1⟩
  ·refine ⟨_,rfl,v,T1,rfl,t1,fun H1 s1=>⟨_,rfl,?_⟩⟩
   rw [e1]
   exact bu (no H1 s1 (fun a b c e z=>by rw [er] at z; cases z))
  ·refine ⟨_,rfl,.ref a,T1,rfl,t1,fun H1 s1=>⟨_,rfl,?_⟩⟩
   rw [e1]
   refine bh ⟨_,rfl,a,_,rfl,(Sq.same hx s1).imp (fun z=>SqL.of z) (fun z=>SqT.of z),rfl,_,rfl,?_⟩
   have dl:=dx.length
   by_cases h4:ds.length=4
   ·rw [show (!decide (V.int (xs.length:Int)=V.int 4))=false by rw [decide_eq_true (by rw [dl,h4]; rfl)]; rfl]
    exact bh (hR _ _ ⟨rfl,s1,a,xs,ds,rfl,hx,dx,er,h4⟩)
   ·rw [show (!decide (V.int (xs.length:Int)=V.int 4))=true by rw [decide_eq_false (fun z=>h4 (by have:=V.int.inj z; omega))]; rfl]
    exact bu (no H1 s1 (fun a b c e z=>h4 (by rw [er] at z; cases z; rfl)))
 rintro _ H1 ⟨rfl,s1,a,xs,ds,rfl,hx,dx,er,h4⟩
 obtain ⟨x1,x2,x3,x4,d1,d2,d3,d4,rfl,rfl,hd1,hd2,hd3,hd4⟩:=dx.four h4
 obtain ⟨T2,t2⟩:=(hd1.same s1).ty (K:=K)
 obtain ⟨T3,t3⟩:=(hd2.same s1).ty (K:=K)
 obtain ⟨T4,t4⟩:=(hd3.same s1).ty (K:=K)
 obtain ⟨T5,t5⟩:=(hd4.same s1).ty (K:=K)
 have hx1:Sq H1 a [x1,x2,x3,x4]:=Sq.same hx s1
 refine ⟨_,rfl,_,rfl,_,rfl,_,rfl,ixS hx1 rfl ⟨_,rfl,ixS hx1 rfl ⟨_,rfl,ixS hx1 rfl ⟨_,rfl,ixS hx1 rfl ?_⟩⟩⟩⟩
 refine ⟨s,b',ks,w1,h1,x1,x2,x3,x4,T2,T3,T4,T5,rfl,cN s1 S,t2,t3,t4,t5,fun H2 s2=>?_⟩
 have q1:=q H2 (s1.trans s2)
 unfold bW at q1
 rw [er] at q1
 have e:jy ks w1 h1 d1 d2 d3 d4=ef ks w1 h1 x1 x2 x3 x4:=by
  cases hd1 with
  | int i=>cases hd2 with
   | bl c=>cases hd3 with
    | int x=>cases hd4 with
     | int y=>rfl
     | _=>simp [jy,ef,aQ]
    | _=>simp [jy,ef,aQ]
   | _=>simp [jy,ef,cj]
  | _=>simp [jy,ef,cj]
 rw [← e]
 exact q1
end
def PqT (ks:List Kd) (H:Hp) (v:V) (q:Pq):Prop:=∃a,v=.ref a∧H a=some (.tup (pqV q))∧(q.k,q.c)∈lyK ks 0∧0≤q.x∧0≤q.y
theorem PqT.keep {ks:List Kd} {H H':Hp} (k:∀a xs,H a=some (.tup xs)→H' a=some (.tup xs)) {v:V} {q:Pq} (h:PqT ks H v q):PqT ks H' v q:=by
 obtain ⟨a,e,h,r⟩:=h
 exact ⟨a,e,k _ _ h,r⟩
theorem dD:∀ {ks:List Kd} {i:Nat} {q:Nat×Bool},q∈lyK ks i→i≤q.1∧∃k,ks[q.1 - i]? = some k∧(q.2=false∨aO k=true)
 | [],_,_,h=>by simp [lyK] at h
 | x :: ks,i,q,h=>by
  rcases List.mem_append.mp (show q∈lyT i x ++ lyK ks (i + 1) from h) with h | h
  ·unfold lyT at h
   rcases List.mem_cons.mp h with rfl | h
   ·exact ⟨Nat.le_refl _,x,by simp,.inl rfl⟩
   ·split at h
    ·rename_i ht
     rw [List.mem_singleton.mp h]
     exact ⟨Nat.le_refl _,x,by simp,.inr ht⟩
    ·simp at h
  ·obtain ⟨h1,k,h2,h3⟩:=dD h
   exact ⟨by omega,k,by rw [show q.1 - i=(q.1 - (i + 1)) + 1 by omega,List.getElem?_cons_succ]; exact h2,h3⟩
theorem PqT.s {ks:List Kd} {H:Hp} {v:V} {q:Pq} (h:PqT ks H v q):PqS ks H v q:=by
 obtain ⟨a,e,h,r,_⟩:=h
 obtain ⟨_,k,hk,_⟩:=dD r
 exact ⟨a,k,e,.inr h,by simpa using hk⟩
def Laid (ks:List Kd) (W h:Int) (ps:List Pq):Prop:=∀i p,ps[i]? = some p→dn ks W h (ps.take i) p=true
theorem Laid.snoc {ks:List Kd} {W h:Int} {ps:List Pq} {p:Pq} (x:Laid ks W h ps) (f:dn ks W h ps p=true):Laid ks W h (ps ++ [p]):=fun i q hq=>by
 by_cases hi:i < ps.length
 ·rw [List.getElem?_append_left hi] at hq
  rw [List.take_append_of_le_length (by omega)]
  exact x i q hq
 ·have:i=ps.length:=by
   have:=(List.getElem?_eq_some_iff.mp hq).1
   rw [List.length_append] at this
   have e:[p].length=1:=rfl
   omega
  subst this
  rw [List.getElem?_append_right (Nat.le_refl _),Nat.sub_self] at hq
  cases hq
  rw [List.take_left']
  ·exact f
  ·rfl
theorem up {K:PySem.W.Frag} {ks:List Kd} {H:Hp}:∀ {ys:List V} {ps:List Pq},Paired (PqT ks H) ys ps→∃ds,DatVs K H ys ds∧ds.length=ys.length∧PyData.canLayAll0 ds=true∧PyData.depthAll ds≤1
 | _,_,.nil=>⟨[],.nil,rfl,rfl,Nat.zero_le _⟩
 | _,_,.cons ⟨a,e,ha,_⟩ r=>by
  subst e
  obtain ⟨ds,d1,d2,d3,d4⟩:=up (K:=K) r
  refine ⟨_ :: ds,.cons (.tup (SqT.of ha) (.cons (.int _) (.cons (.bl _) (.cons (.int _) (.cons (.int _) .nil))))) d1,by rw [List.length_cons,List.length_cons,d2],?_,?_⟩
  ·simp [PyData.canLayAll0,PyData.canLay0,d3]
  ·simp only [PyData.depthAll,PyData.depth]; omega
theorem qQ {ds:List PyData} (d3:PyData.canLayAll0 ds=true) (d4:PyData.depthAll ds≤1):SeqAt.shaped (.list ds)=true∧(ds=[]→PyData.eqv (.list ds) (.list [])=true)∧(ds≠[]→PyData.eqv (.list ds) (.list [])=false):=by
 refine ⟨?_,fun e=>by subst e; exact PySem.SeqAt.eqv_refl _ rfl,fun e=>?_⟩
 ·unfold SeqAt.shaped
  rw [PyData.canLay0,d3,PyData.depth,decide_eq_true (show PyData.depthAll ds + 1≤64 by omega)]; rfl
 ·cases ds with
  | nil=>exact absurd rfl e
  | cons d r=>rfl
theorem Paired.impS {α β:Type} {R S:α→β→Prop} (k:∀a b,R a b→S a b):∀ {xs:List α} {ys:List β},Paired R xs ys→Paired S xs ys
 | _,_,.nil=>.nil
 | _,_,.cons a r=>.cons (k _ _ a) (Paired.impS k r)
section
variable {P:Program} {w:World} {K:PySem.W.Frag} {mg:Str→Option Value} {base:Heap}
def jA:Sp:=fun vs H Q _=>∃ (p t kl pl:Addr) (b W h m:Int) (ks:List Kd) (ys:List V) (ps:List Pq),vs=[.ref p,.ref t,.int W,.int h,.ref pl,.int m]∧PotC H p∧LS H t b ks kl∧kl≠p∧1≤ks.length∧ks.length≤8∧(∀k∈ks,Good k)∧0≤b∧1≤W∧W < 10 ^ 58∧1≤h∧h < 10 ^ 58∧0≤m∧m≤20∧pl≠p∧H pl=some (.lst ys)∧Paired (PqT ks H) ys ps∧ys.length≤4∧Laid ks W h ps ∧
 ∀ (l:Addr) (zs:List V) (qs:List Pq) (H':Hp),H l=none→l≠p→H' l=some (.lst zs)→Paired (PqT ks H') zs qs→Laid ks W h qs→(zs.length:Int)≤ys.length + m→PotC H' p→But p H H'→Q (.ref l) H'
theorem scscat:FnScope ["_law_pot_here","_law_shop_here","_law_wide","_law_high","_law_pieces","_law_many","_law_some","_law_found","_law_k","_law_kind","_law_turned","_law_x","_law_y","_law_box_here"] ["_law_pot_here","_law_shop_here","_law_wide","_law_high","_law_pieces","_law_many"] (defScope cq):=⟨rfl,rfl,rfl,by decide +kernel,rfl,by decide +kernel,by decide +kernel⟩
theorem oY {f:Addr} {fd:FuncData} (F:Fun K "_law_scattered" "_law_scattered" cq f fd) (B:Blt mg) (DD:Dn P w K mg base "_law_take" ["_law_pot_here","_law_many"] 1 (cu)) (DLy:Dn P w K mg base "_law_lyings" ["_law_shop_here"] 1 (dh)) (DBx:Dn P w K mg base "_law_box" ["_law_shop_here","_law_piece"] 2 (kq)) (DFi:Dn P w K mg base "_law_fits" ["_law_shop_here","_law_wide","_law_high","_law_pieces","_law_piece"] 3 (eZ)):FnOk P w K mg base CX0 4 f fd ["_law_pot_here","_law_shop_here","_law_wide","_law_high","_law_pieces","_law_many"] (jA):=by
 refine F.ok scscat (fun vs H Q E h=>?_) (fun cdv A outer s H vs Q E hr h=>?_)
 ·obtain ⟨p,t,kl,pl,b,W,h1,m,ks,ys,ps,rfl,_⟩:=h
  rfl
 obtain ⟨p,t,kl,pl,b,W,h1,m,ks,ys,ps,rfl,pt,sh,nkp,k1,k08,gk,b0,w1,w58,h0,h58,m0,m20,npl,hpl,py,y4,ld,q⟩:=h
 have nd:=scscat.nd
 have hu:=hr.units
 refine ⟨_,(@af _ _ _ _ _ (@aD _ _ 6 _ _ _ _ nd rfl (Or.inl rfl) (@aw _ _ _ _ _ _ _ _ _ _ DLy (hr.mono (by decide)) rfl (@aa _ _ _ _ _ (pv 1) ab rfl) (by decide) rfl rfl) rfl (Or.inl rfl)) (@af _ _ _ _ _ (@aD _ _ 7 _ _ _ _ nd rfl (Or.inl rfl) (@bv _ _ _ _ _ _ _ _ _ dN rfl B.list PyProof.Rows.boot_list (@aa _ _ _ _ _ (pv 4) ab rfl) (by decide) (by decide) rfl rfl) rfl (Or.inl rfl)) (@af _ _ _ _ _ (@cf _ _ _ _ _ _ _ _ PassesOwn.never rfl (cZ rfl B.range (@aa _ _ _ _ _ (pv 5) ab rfl)) (av (i:=8) nd rfl (Or.inl rfl)) (@af _ _ _ _ _ (@ce _ _ _ _ _ _ (@ar _ _ _ _ _ _ _ ix_list (pv 6) (@aw _ _ _ _ _ _ _ _ _ _ DD (hr.mono (by decide)) rfl (@aa _ _ _ _ _ (pv 0) (@aa _ _ _ _ _ (@aE _ _ _ _ _ _ _ _ _ aP rfl B.len PySem.boot_len (@aa _ _ _ _ _ (pv 6) ab rfl) (by decide) (by decide) rfl rfl) ab rfl) rfl) (by decide) rfl rfl) (fun _ _=>rfl)) (br rfl (ay (av (i:=9) nd rfl (Or.inl rfl)) (ay (av (i:=10) nd rfl (Or.inl rfl)) aX))) rfl rfl rfl) (@af _ _ _ _ _ (@aD _ _ 11 _ _ _ _ nd rfl (Or.inl rfl) (@aw _ _ _ _ _ _ _ _ _ _ DD (hr.mono (by decide)) rfl (@aa _ _ _ _ _ (pv 0) (@aa _ _ _ _ _ (pv 2) ab rfl) rfl) (by decide) rfl rfl) rfl (Or.inl rfl)) (@af _ _ _ _ _ (@aD _ _ 12 _ _ _ _ nd rfl (Or.inl rfl) (@aw _ _ _ _ _ _ _ _ _ _ DD (hr.mono (by decide)) rfl (@aa _ _ _ _ _ (pv 0) (@aa _ _ _ _ _ (pv 3) ab rfl) rfl) (by decide) rfl rfl) rfl (Or.inl rfl)) (@af _ _ _ _ _ (@aS _ _ _ _ _ _ _ _ (PW.pt (ff (@aI _ _ _ _ _ _ _ _ (qG hu) (pv 7) (@bd _ _ _ _ ab) (aG _)) (dH (@aI _ _ _ _ _ _ _ _ cR (@aw _ _ _ _ _ _ _ _ _ _ DD (hr.mono (by decide)) rfl (@aa _ _ _ _ _ (pv 0) (@aa _ _ _ _ _ ae ab rfl) rfl) (by decide) rfl rfl) ae (aG _))))) (@af _ _ _ _ _ (@aD _ _ 13 _ _ _ _ nd rfl (Or.inl rfl) (@aw _ _ _ _ _ _ _ _ _ _ DBx (hr.mono (by decide)) rfl (@aa _ _ _ _ _ (pv 1) (@aa _ _ _ _ _ (@ar _ _ _ _ _ _ _ ix_list (pv 7) (@aw _ _ _ _ _ _ _ _ _ _ DD (hr.mono (by decide)) rfl (@aa _ _ _ _ _ (pv 0) (@aa _ _ _ _ _ (@aE _ _ _ _ _ _ _ _ _ aP rfl B.len PySem.boot_len (@aa _ _ _ _ _ (pv 7) ab rfl) (by decide) (by decide) rfl rfl) ab rfl) rfl) (by decide) rfl rfl) (fun _ _=>rfl)) ab rfl) rfl) (by decide) rfl rfl) rfl (Or.inl rfl)) (@af _ _ _ _ _ (@aD _ _ 11 _ _ _ _ nd rfl (Or.inl rfl) (@ar _ _ _ _ _ _ _ ix_list (@bd _ _ _ _ (@aa _ _ _ _ _ (@ar _ _ _ _ _ _ _ ix_tup (pv 13) ae (fun _ _=>rfl)) (@aa _ _ _ _ _ (@ar _ _ _ _ _ _ _ ix_tup (pv 13) ae (fun _ _=>rfl)) (@aa _ _ _ _ _ (@aB _ _ _ _ _ _ _ _ aJ (@ar _ _ _ _ _ _ _ ix_tup (pv 13) ae (fun _ _=>rfl)) (@ar _ _ _ _ _ _ _ ix_tup (pv 1) ae (fun _ _=>rfl))) ab rfl) rfl) rfl)) (@aw _ _ _ _ _ _ _ _ _ _ DD (hr.mono (by decide)) rfl (@aa _ _ _ _ _ (pv 0) (@aa _ _ _ _ _ ae ab rfl) rfl) (by decide) rfl rfl) (fun _ _=>rfl)) rfl (Or.inl rfl)) (@ai _ _ _ (@aD _ _ 12 _ _ _ _ nd rfl (Or.inl rfl) (@ar _ _ _ _ _ _ _ ix_list (@bd _ _ _ _ (@aa _ _ _ _ _ (@ar _ _ _ _ _ _ _ ix_tup (pv 13) ae (fun _ _=>rfl)) (@aa _ _ _ _ _ (@ar _ _ _ _ _ _ _ ix_tup (pv 13) ae (fun _ _=>rfl)) (@aa _ _ _ _ _ (@aB _ _ _ _ _ _ _ _ aJ (@ar _ _ _ _ _ _ _ ix_tup (pv 13) ae (fun _ _=>rfl)) (@ar _ _ _ _ _ _ _ ix_tup (pv 1) ae (fun _ _=>rfl))) ab rfl) rfl) rfl)) (@aw _ _ _ _ _ _ _ _ _ _ DD (hr.mono (by decide)) rfl (@aa _ _ _ _ _ (pv 0) (@aa _ _ _ _ _ ae ab rfl) rfl) (by decide) rfl rfl) (fun _ _=>rfl)) rfl (Or.inl rfl))))) aF) (@ai _ _ _ (@aS _ _ _ _ _ _ _ _ (@aR _ _ _ (@aw _ _ _ _ _ _ _ _ _ _ DFi hr rfl (@aa _ _ _ _ _ (pv 1) (@aa _ _ _ _ _ (pv 2) (@aa _ _ _ _ _ (pv 3) (@aa _ _ _ _ _ (pv 7) (@aa _ _ _ _ _ (@aN _ _ _ _ _ (@aa _ _ _ _ _ (pv 9) (@aa _ _ _ _ _ (pv 10) (@aa _ _ _ _ _ (pv 11) (@aa _ _ _ _ _ (pv 12) ab rfl) rfl) rfl) rfl)) ab rfl) rfl) rfl) rfl) rfl) (by decide) rfl rfl) (by intro _; rfl)) (@ai _ _ _ (@bF _ _ _ _ (@dk _ _ _ _ _ _ _ _ _ _ _ _ PySem.F.plainAttrs_list PySem.F.slot_list_append PySem.F.type_list_append bo (pv 7) (@aa _ _ _ _ _ (@aN _ _ _ _ _ (@aa _ _ _ _ _ (pv 9) (@aa _ _ _ _ _ (pv 10) (@aa _ _ _ _ _ (pv 11) (@aa _ _ _ _ _ (pv 12) ab rfl) rfl) rfl) rfl)) ab rfl) rfl rfl rfl rfl rfl) rfl)) aF)))))) (by intro _; rfl)) (@ai _ _ _ (@aA _ _ _ _ (pv 7)))))),?_⟩
 have sz:(1000:Nat) < sizeLine:=by decide
 have e58:(10:Int) ^ 58 < 10 ^ 60:=by decide
 have e3:(100:Int) < 10 ^ 60:=by decide
 refine au (fun σ' H'=>∃ (so:Addr) (ss:List V),σ'=[some (.ref p),some (.ref t),some (.int W),some (.int h1),some (.ref pl),some (.int m),some (.ref so),none,none,none,none,none,none,none]∧so≠p∧H' so=some (.lst ss)∧Paired (LyC H') ss (lyK ks 0)∧Same H H') (fun R hR=>?_) ?_
 ·exact ⟨_,rfl,t,kl,b,ks,rfl,sh,k08,fun l ss H1 hl hl0 pl1 s1=>hR _ _ ⟨l,ss,rfl,Ne.symm (pt.ne hl0),hl,pl1,s1⟩⟩
 rintro _ H1 ⟨so,ss,rfl,nsp,hso,pso,s1⟩
 have pt1:=pt.same s1
 refine au (fun σ' H'=>∃fo:Addr,σ'=[some (.ref p),some (.ref t),some (.int W),some (.int h1),some (.ref pl),some (.int m),some (.ref so),some (.ref fo),none,none,none,none,none,none]∧H1 fo=none∧H' fo=some (.lst ys)∧Same H1 H') (fun R hR=>?_) ?_
 ·refine ⟨_,rfl,pl,_,rfl,.inl (SqL.of (s1 _ _ hpl)),fun fo hfo=>?_⟩
  obtain ⟨H2,e2,k2,s2⟩:∃H',upd H1 fo (.lst ys)=H'∧H' fo=some (.lst ys)∧Same H1 H':=⟨_,rfl,ah,Same.new hfo⟩
  rw [show upd H1 fo _=H2 from e2]
  exact hR _ _ ⟨fo,rfl,hfo,k2,s2⟩
 rintro _ H2 ⟨fo,rfl,hfo1,hfo2,s12⟩
 have s02:=s1.trans s12
 have pt2:=pt.same s02
 have hfo0:H fo=none:=s1.free hfo1
 have nfp:fo≠p:=Ne.symm (pt1.ne hfo1)
 have nso:so≠fo:=aj hso hfo1
 obtain ⟨kr,lst1,lst2,lst3⟩:=id sh
 have nkf:kl≠fo:=aj lst2 hfo0
 have lyl:=Paired.length pso
 have ly8:=eW ks 0
 have ly1:1≤(lyK ks 0).length:=by
  cases ks with
  | nil=>exact absurd k1 (by simp)
  | cons k r=>exact Nat.succ_le_of_lt (Nat.zero_lt_succ _)
 obtain ⟨_,hp2⟩:=eU pt2
 have tk:∀ {Hx:Hp},(∀c o,c≠p→c≠fo→H2 c=some o→Hx c=some o)→∀a xs,H2 a=some (.tup xs)→Hx a=some (.tup xs):=fun bx a xs e=>bx _ _ (fun z=>by rw [z,hp2] at e; cases e) (fun z=>by rw [z,hfo2] at e; cases e) e
 have bt:∀ {Hx Hy:Hp},(∀c o,c≠p→c≠fo→H2 c=some o→Hx c=some o)→But p Hx Hy→∀c o,c≠p→c≠fo→H2 c=some o→Hy c=some o:=fun b1 b2 c o n1 n2 e=>b2 _ _ n1 (b1 _ _ n1 n2 e)
 have shx:∀ {Hx:Hp},(∀c o,c≠p→c≠fo→H2 c=some o→Hx c=some o)→LS Hx t b ks kl:=fun bx=>⟨kr,tk bx _ _ (s02 _ _ lst1),bx _ _ nkp nkf (s02 _ _ lst2),Tups.keep (fun a xs e=>tk bx _ _ (s02 _ _ e)) lst3⟩
 refine au (fun σ' H'=>(∃ (v8 v9 v10 v11 v12 v13:Option V) (zs:List V) (qs:List Pq),σ'=[some (.ref p),some (.ref t),some (.int W),some (.int h1),some (.ref pl),some (.int m),some (.ref so),some (.ref fo),v8,v9,v10,v11,v12,v13]∧H' fo=some (.lst zs)∧Paired (PqT ks H') zs qs∧Laid ks W h1 qs∧zs.length≤ys.length + m.toNat∧PotC H' p∧∀c o,c≠p→c≠fo→H2 c=some o→H' c=some o)) (fun R hR=>?_) ?_
 ·refine ⟨_,rfl,_,rfl,by omega,by omega,?_⟩
  refine et (n:=m.toNat) (fun i σ' H'=>(∃ (v8 v9 v10 v11 v12 v13:Option V) (zs:List V) (qs:List Pq),σ'=[some (.ref p),some (.ref t),some (.int W),some (.int h1),some (.ref pl),some (.int m),some (.ref so),some (.ref fo),v8,v9,v10,v11,v12,v13]∧H' fo=some (.lst zs)∧Paired (PqT ks H') zs qs∧Laid ks W h1 qs∧zs.length≤ys.length + i∧PotC H' p∧∀c o,c≠p→c≠fo→H2 c=some o→H' c=some o)) ⟨_,_,_,_,_,_,ys,ps,rfl,hfo2,Paired.mapP py fun v q h=>h.keep fun a xs e=>s02 _ _ e,ld,Nat.le_refl _,pt2,fun _ _ _ _ e=>e⟩ ?_ (fun σ Hx h=>hR _ _ h)
  rintro i _ H4 hi ⟨v8,v9,v10,v11,v12,v13,zs,qs,rfl,hz4,pz4,ld4,zl4,pt4,b4⟩
  have zq:=Paired.length pz4
  refine au (fun σ' H'=>∃ (lk:Nat) (lc:Bool),σ'=[some (.ref p),some (.ref t),some (.int W),some (.int h1),some (.ref pl),some (.int m),some (.ref so),some (.ref fo),some (.int (0 + (i:Int))),some (.int lk),some (.bl lc),v11,v12,v13]∧(lk,lc)∈lyK ks 0∧PotC H' p∧But p H4 H') (fun R hR=>?_) ?_
  ·have hso4:=b4 _ _ nsp nso (s12 _ _ hso)
   refine ⟨_,rfl,_,rfl,_,rfl,so,_,rfl,.inl (SqL.of hso4),p,_,rfl,pt4,by omega,by omega,fun r H5 r0 r1 pt5 b5=>?_⟩
   obtain ⟨v,hv⟩:∃v,ss[r.toNat]? = some v:=⟨_,List.getElem?_eq_getElem (show r.toNat < ss.length by omega)⟩
   obtain ⟨q0,hq0,aq,rfl,haq⟩:=Paired.getR pso hv
   have haq5:=tk (bt b4 b5) _ _ (s12 _ _ haq)
   exact ⟨so,_,_,_,rfl,rfl,SqL.of (b5 _ _ nsp hso4),cL r0 hv,aq,_,rfl,SqT.of haq5,rfl,_,_,rfl,_,_,rfl,rfl,hR _ _ ⟨q0.1,q0.2,rfl,List.mem_of_getElem? hq0,pt5,b5⟩⟩
  rintro _ H5 ⟨lk,lc,rfl,hly,pt5,b45⟩
  refine au (fun σ' H'=>∃x:Int,σ'=[some (.ref p),some (.ref t),some (.int W),some (.int h1),some (.ref pl),some (.int m),some (.ref so),some (.ref fo),some (.int (0 + (i:Int))),some (.int lk),some (.bl lc),some (.int x),v12,v13]∧0≤x∧PotC H' p∧But p H4 H') (fun R hR=>?_) ?_
  ·exact ⟨_,rfl,_,rfl,p,W,rfl,pt5,by omega,by omega,fun x H6 x0 x1 pt6 b6=>hR _ _ ⟨x,rfl,x0,pt6,b45.trans b6⟩⟩
  rintro _ H6 ⟨x,rfl,x0,pt6,b46⟩
  refine au (fun σ' H'=>∃y:Int,σ'=[some (.ref p),some (.ref t),some (.int W),some (.int h1),some (.ref pl),some (.int m),some (.ref so),some (.ref fo),some (.int (0 + (i:Int))),some (.int lk),some (.bl lc),some (.int x),some (.int y),v13]∧0≤y∧PotC H' p∧But p H4 H') (fun R hR=>?_) ?_
  ·exact ⟨_,rfl,_,rfl,p,h1,rfl,pt6,by omega,by omega,fun y H7 y0 y1 pt7 b7=>hR _ _ ⟨y,rfl,y0,pt7,b46.trans b7⟩⟩
  rintro _ H7 ⟨y,rfl,y0,pt7,b47⟩
  refine au (fun σ' H'=>∃ (x y:Int) (v13:Option V),σ'=[some (.ref p),some (.ref t),some (.int W),some (.int h1),some (.ref pl),some (.int m),some (.ref so),some (.ref fo),some (.int (0 + (i:Int))),some (.int lk),some (.bl lc),some (.int x),some (.int y),v13]∧0≤x∧0≤y∧PotC H' p∧But p H4 H') (fun R hR=>?_) ?_
  ·have hz7:=b47 _ _ nfp hz4
   have pz7:Paired (PqT ks H7) zs qs:=Paired.mapP pz4 fun v q h=>h.keep fun a xs e=>bQ b47 pt4 e
   refine ⟨_,rfl,by decide,fun e he=>?_⟩
   obtain ⟨H8,e8,k8,n8,s8,b8,pt8⟩:=bJ (o:=.lst []) b47 pt7 he
   rw [show upd H7 e _=H8 from e8]
   obtain ⟨ds,d1,d2,d3,d4⟩:=up (K:=K) (Paired.mapP pz7 fun v q h=>h.keep fun a xs e=>s8 _ _ e)
   obtain ⟨sh1,sh2,sh3⟩:=qQ d3 d4
   refine ⟨.list ds,.list [],.lst (SqL.of (s8 _ _ hz7)) d1,.lst (SqL.of k8) .nil,sh1,by decide +kernel,_,rfl,?_⟩
   by_cases hz0:zs=[]
   ·rw [sh2 (by rw [hz0] at d2; exact List.eq_nil_of_length_eq_zero d2)]
    exact bh (hR _ _ ⟨x,y,v13,rfl,x0,y0,pt8,b8⟩)
   rw [sh3 (fun z=>hz0 (by rw [z] at d2; exact List.eq_nil_of_length_eq_zero d2.symm))]
   have zpos:1≤zs.length:=Nat.pos_of_ne_zero (fun z=>hz0 (List.eq_nil_of_length_eq_zero z))
   refine bu ⟨_,rfl,p,2,rfl,pt8,by decide,by decide,fun z H9 z0 z1 pt9 b9=>⟨rfl,_,rfl,?_⟩⟩
   refine bE (fun cc=>?_) (fun cc=>hR _ _ ⟨x,y,v13,rfl,x0,y0,pt9,b8.trans b9⟩)
   have b49:=b8.trans b9
   have hz9:=b9 _ _ nfp (s8 _ _ hz7)
   refine au (fun σ' H'=>∃ (bx:Addr) (g:Bx),σ'=[some (.ref p),some (.ref t),some (.int W),some (.int h1),some (.ref pl),some (.int m),some (.ref so),some (.ref fo),some (.int (0 + (i:Int))),some (.int lk),some (.bl lc),some (.int x),some (.int y),some (.ref bx)]∧H' bx=some (.tup (bxV g))∧0≤g.a∧0≤g.b∧0≤g.c∧0≤g.d∧PotC H' p∧But p H4 H') (fun R2 hR2=>?_) ?_
   ·refine ⟨_,rfl,_,rfl,_,rfl,_,rfl,fo,_,rfl,.inl (SqL.of hz9),p,_,rfl,pt9,by omega,by omega,fun r H10 r0 r1 pt10 b10=>?_⟩
    obtain ⟨v,hv⟩:∃v,zs[r.toNat]? = some v:=⟨_,List.getElem?_eq_getElem (show r.toNat < zs.length by omega)⟩
    obtain ⟨q0,hq0,aq,rfl,haq,hqly,q0x,q0y⟩:=Paired.getR pz4 hv
    obtain ⟨_,k0,hk0,_⟩:=dD hqly
    have hk0:ks[q0.k]? = some k0:=by simpa using hk0
    have g0:=gk k0 (List.mem_of_getElem? hk0)
    have b410:=b49.trans b10
    refine ⟨fo,_,_,_,rfl,rfl,SqL.of (b10 _ _ nfp hz9),cL r0 hv,t,kl,aq,b,ks,q0,k0,rfl,shx (bt b4 b410),.inr (bQ b410 pt4 haq),hk0,fun bx H11 hbx s11=>hR2 _ _ ⟨bx,lp k0 q0,rfl,hbx,q0x,q0y,?_,?_,pt10.same s11,fun c o n e=>s11 _ _ (b410 _ _ n e)⟩⟩
    ·show 0≤q0.x + sd1 k0 q0.c
     have g1:=g0.w; have g2:=g0.h
     unfold sd1; split <;> omega
    ·show 0≤q0.y + sd2 k0 q0.c
     have g1:=g0.w; have g2:=g0.h
     unfold sd2; split <;> omega
   rintro _ Hq ⟨bx,g,rfl,hb,ga,gb,gc,gd,ptq,bq⟩
   have ht:Hq t=some (.tup [.int b,.ref kl]):=(shx (bt b4 bq)).choose_spec.1
   refine au (fun σ' H'=>∃x:Int,σ'=[some (.ref p),some (.ref t),some (.int W),some (.int h1),some (.ref pl),some (.int m),some (.ref so),some (.ref fo),some (.int (0 + (i:Int))),some (.int lk),some (.bl lc),some (.int x),some (.int y),some (.ref bx)]∧0≤x∧H' bx=some (.tup (bxV g))∧PotC H' p∧But p H4 H') (fun R3 hR3=>?_) ?_
   ·skip
    refine ⟨_,rfl,bx,_,0,_,rfl,rfl,SqT.of hb,rfl,_,rfl,bx,_,2,_,rfl,rfl,SqT.of hb,rfl,_,rfl,bx,_,2,_,rfl,rfl,SqT.of hb,rfl,_,rfl,t,_,0,_,rfl,rfl,SqT.of ht,rfl,_,_,rfl,rfl,(by show 3≤sizeLine; decide),fun l3 hl3=>?_⟩
    obtain ⟨H20,e20,k20,n20,s20,b20,pt20⟩:=bJ (o:=.lst [.int g.a,.int g.c,.int (g.c + b)]) bq ptq hl3
    rw [show upd Hq l3 _=H20 from e20]
    refine ⟨_,rfl,p,3,rfl,pt20,by decide,by decide,fun z H21 z0 z1 pt21 b21=>?_⟩
    obtain ⟨xx,hxx,xx0⟩:∃xx:Int,atI [V.int g.a,V.int g.c,V.int (g.c + b)] z=some (.int xx)∧0≤xx:=by
     have:z=0∨z=1∨z=2:=by omega
     rcases this with rfl | rfl | rfl
     ·exact ⟨_,rfl,by omega⟩
     ·exact ⟨_,rfl,by omega⟩
     ·exact ⟨_,rfl,by omega⟩
    exact ⟨l3,_,_,_,rfl,rfl,SqL.of (b21 _ _ n20 k20),hxx,hR3 _ _ ⟨xx,rfl,xx0,bQ b21 pt20 (s20 _ _ hb),pt21,b20.trans b21⟩⟩
   clear hb ht ptq bq
   clear Hq
   rintro _ Hq ⟨x,rfl,x0,hb,ptq,bq⟩
   have ht:Hq t=some (.tup [.int b,.ref kl]):=(shx (bt b4 bq)).choose_spec.1
   refine ⟨_,rfl,bx,_,1,_,rfl,rfl,SqT.of hb,rfl,_,rfl,bx,_,3,_,rfl,rfl,SqT.of hb,rfl,_,rfl,bx,_,3,_,rfl,rfl,SqT.of hb,rfl,_,rfl,t,_,0,_,rfl,rfl,SqT.of ht,rfl,_,_,rfl,rfl,(by show 3≤sizeLine; decide),fun l3 hl3=>?_⟩
   obtain ⟨H20,e20,k20,n20,s20,b20,pt20⟩:=bJ (o:=.lst [.int g.b,.int g.d,.int (g.d + b)]) bq ptq hl3
   rw [show upd Hq l3 _=H20 from e20]
   refine ⟨_,rfl,p,3,rfl,pt20,by decide,by decide,fun z H21 z0 z1 pt21 b21=>?_⟩
   obtain ⟨xx,hxx,xx0⟩:∃xx:Int,atI [V.int g.b,V.int g.d,V.int (g.d + b)] z=some (.int xx)∧0≤xx:=by
    have:z=0∨z=1∨z=2:=by omega
    rcases this with rfl | rfl | rfl
    ·exact ⟨_,rfl,by omega⟩
    ·exact ⟨_,rfl,by omega⟩
    ·exact ⟨_,rfl,by omega⟩
   exact ⟨l3,_,_,_,rfl,rfl,SqL.of (b21 _ _ n20 k20),hxx,hR _ _ ⟨x,xx,some (.ref bx),rfl,x0,xx0,pt21,b20.trans b21⟩⟩
  clear b45 b46 b47 pt5 pt6 pt7 x0 y0
  clear H5 H6 H7 x y v13
  rintro _ H7 ⟨x,y,v13,rfl,x0,y0,pt7,b47⟩
  have hz7:=b47 _ _ nfp hz4
  have pz7:Paired (PqT ks H7) zs qs:=Paired.mapP pz4 fun v q h=>h.keep fun a xs e=>bQ b47 pt4 e
  obtain ⟨_,kk,hkk,_⟩:=dD hly
  have hkk:ks[lk]? = some kk:=by simpa using hkk
  refine ⟨_,rfl,_,rfl,_,rfl,_,rfl,_,rfl,_,rfl,_,rfl,_,rfl,(by show 4≤sizeLine; decide),fun a ha=>?_⟩
  obtain ⟨H8,e8,k8,n8,s8,b8,pt8⟩:=bJ (o:=.tup [.int lk,.bl lc,.int x,.int y]) b47 pt7 ha
  rw [show upd H7 a _=H8 from e8]
  refine ⟨t,kl,fo,a,b,W,h1,ks,zs,qs,⟨lk,lc,x,y⟩,kk,rfl,shx (bt b4 b8),s8 _ _ hz7,Paired.impS (fun v q h=>(PqT.keep (fun a xs e=>s8 _ _ e) h).s) pz7,by omega,.inr k8,hkk,fun H9 s9=>⟨_,rfl,?_⟩⟩
  have s79:=s8.trans s9
  have b49:But p H4 H9:=fun c o n e=>s79 _ _ (b47 _ _ n e)
  refine bE (fun cc=>?_) (fun cc=>?_)
  ·have hz9:=s79 _ _ hz7
   refine ⟨_,rfl,.inl ⟨rfl,_,SqL.of hz9⟩,_,rfl,_,rfl,_,rfl,_,rfl,(by show 4≤sizeLine; decide),fun a2 ha2=>?_⟩
   obtain ⟨H10,e10,k10,n10,s10,b10,pt10⟩:=bJ (o:=.tup [.int lk,.bl lc,.int x,.int y]) b49 (pt8.same s9) ha2
   rw [show upd H9 a2 _=H10 from e10]
   have hz10:=s10 _ _ hz9
   have kt:∀c xs,H10 c=some (.tup xs)→(upd H10 fo (.lst (zs ++ [.ref a2]))) c=some (.tup xs):=fun c xs e=>by
    rw [az (fun z=>by rw [z,hz10] at e; cases e)]; exact e
   refine ⟨fo,_,_,rfl,rfl,hz10,by omega,_,_,_,_,_,_,zs ++ [.ref a2],qs ++ [⟨lk,lc,x,y⟩],rfl,ah,?_,ld4.snoc cc,by rw [List.length_append]; show zs.length + 1≤_; omega,pt10.put (Ne.symm nfp),fun c o n n2 e=>by rw [az n2]; exact b10 _ _ n (b4 _ _ n n2 e)⟩
   exact cP (Paired.mapP pz7 fun v q h=>h.keep fun a xs e=>kt _ _ (s10 _ _ (s79 _ _ e))) (.cons ⟨a2,rfl,kt _ _ k10,hly,x0,y0⟩ .nil)
  ·exact ⟨_,_,_,_,_,_,zs,qs,rfl,s79 _ _ hz7,Paired.mapP pz7 fun v q h=>h.keep fun a xs e=>s79 _ _ e,ld4,by omega,pt8.same s9,bt b4 b49⟩
 rintro _ H3 ⟨v8,v9,v10,v11,v12,v13,zs,qs,rfl,hz3,pz3,ld3,zl3,pt3,b3⟩
 exact ⟨_,rfl,q fo zs qs H3 hfo0 nfp hz3 pz3 ld3 (by omega) pt3 (fun c o n e=>b3 _ _ n (aj e hfo0) (s02 _ _ e))⟩
end
theorem Dt.ref_row {p:Addr} {H:Hp} {v:V} {d:PyData} {ds:List PyData} (h:Dt p H v d) (e:cr d=some ds):∃a xs,v=.ref a∧(H a=some (.lst xs)∨H a=some (.tup xs))∧Dts p H xs ds:=by
 cases h <;> simp only [cr,Option.some.injEq,reduceCtorEq] at e
 ·subst e; exact ⟨_,_,rfl,.inl ‹_›,‹_›⟩
 ·subst e; exact ⟨_,_,rfl,.inr ‹_›,‹_›⟩
theorem gT:∀ds:List PyData,ds.length≤wts ds
 | []=>Nat.le_refl _
 | d :: r=>by have:=gT r; have:=uo d; rw [List.length_cons,wts]; omega
theorem Dts.get {p:Addr} {H:Hp}:∀ {vs:List V} {ds:List PyData} {i:Nat} {x:V},Dts p H vs ds→vs[i]? = some x→∃d,ds[i]? = some d∧Dt p H x d
 | _,_,0,_,.cons a _,e=>⟨_,rfl,by cases e; exact a⟩
 | _,_,i + 1,_,.cons _ r,e=>by
  obtain ⟨d,h1,h2⟩:=r.get (i:=i) (by simpa using e)
  exact ⟨d,by simpa using h1,h2⟩
theorem iP {d:PyData} {ds:List PyData} (h:cr d=some ds):wt d=wts ds + 1:=by
 cases d <;> simp only [cr,Option.some.injEq,reduceCtorEq] at h
 ·subst h; rw [wt]
 ·subst h; rw [wt]
def cX (o r:Bx):Bool:=(decide (o.a < r.c) && decide (r.a < o.c)) && (decide (o.b < r.d) && decide (r.b < o.d))
def PqD (d:PyData) (p:Pq):Prop:=cr d=some [.int p.k,.bool p.c,.int p.x,.int p.y]
def ny (ks:List Kd) (ps:List Pq):Prop:=∀i p,ps[i]? = some p→∀q∈ps.take i,cX (aK ks p) (aK ks q)=false
def oZ (ks:List Kd) (w h:Int) (d:PyData):Prop:=∃ds ps,cr d=some ds∧Paired PqD ds ps∧(∀x∈ds,bW ks w h x=true)∧ny ks ps
theorem Paired.uniq {α β:Type} {R:α→β→Prop} (u:∀a b c,R a b→R a c→b=c):∀ {xs:List α} {ys zs:List β},Paired R xs ys→Paired R xs zs→ys=zs
 | _,_,_,.nil,.nil=>rfl
 | _,_,_,.cons a r,.cons b s=>by rw [u _ _ _ a b,Paired.uniq u r s]
theorem PqD.uniq (d:PyData) (p q:Pq) (h:PqD d p) (h':PqD d q):p=q:=by
 unfold PqD at h h'
 rw [h] at h'
 obtain ⟨a,b,c,e⟩:=p
 obtain ⟨a',b',c',e'⟩:=q
 simp only [Option.some.injEq,List.cons.injEq,PyData.int.injEq,PyData.bool.injEq,and_true] at h'
 obtain ⟨h1,h2,h3,h4⟩:=h'
 have h1:(a:Int)=(a':Int):=h1
 have h1:a=a':=by omega
 subst h1
 have h2:b=b':=h2
 have h3:c=c':=h3
 have h4:e=e':=h4
 subst h2; subst h3; subst h4
 rfl
theorem pb {ks:List Kd} {w h:Int} {d:PyData} (x:bW ks w h d=true):∃p k,PqD d p∧cj ks (.int p.k) (.bl p.c)=true∧ks[p.k]? = some k∧0≤p.x∧0≤p.y∧p.x + sd1 k p.c≤w∧p.y + sd2 k p.c≤h:=by
 unfold bW at x
 split at x
 ·rename_i d1 d2 d3 d4 er
  unfold jy at x
  split at x
  ·rename_i i c xx yy
   unfold ef at x
   simp only [Bool.and_eq_true] at x
   obtain ⟨⟨⟨x1,x2⟩,x3⟩,x4⟩:=x
   obtain ⟨i',c',k',e1,e2,i0,hk⟩:=eL x1
   cases e1
   cases e2
   rw [hk] at x4
   have ei:((i.toNat:Nat):Int)=i:=by omega
   have x4:=Bool.and_eq_true_iff.mp x4
   have w1:aQ (.int xx) 0=decide (0≤xx):=rfl
   have w2:aQ (.int yy) 0=decide (0≤yy):=rfl
   rw [w1] at x2; rw [w2] at x3
   exact ⟨⟨i.toNat,c,xx,yy⟩,k',by unfold PqD; rw [er]; show some [PyData.int i,_,_,_]=some [PyData.int ((i.toNat:Nat):Int),_,_,_]; rw [ei],by show cj ks (.int ((i.toNat:Nat):Int)) _=true; rw [ei]; exact x1,hk,of_decide_eq_true x2,of_decide_eq_true x3,of_decide_eq_true x4.1,of_decide_eq_true x4.2⟩
  ·cases x
 ·cases x
theorem iQ {ks:List Kd} {w h:Int}:∀ {ds:List PyData},(∀x∈ds,bW ks w h x=true)→∃ps,Paired PqD ds ps∧∀p∈ps,∃k,cj ks (.int p.k) (.bl p.c)=true∧ks[p.k]? = some k∧0≤p.x∧0≤p.y∧p.x + sd1 k p.c≤w∧p.y + sd2 k p.c≤h
 | [],_=>⟨[],.nil,fun p hp=>by simp at hp⟩
 | d :: ds,hh=>by
  obtain ⟨p,k,h1,h2⟩:=pb (hh d List.mem_cons_self)
  obtain ⟨ps,g1,g2⟩:=iQ (fun x hx=>hh x (List.mem_cons_of_mem _ hx))
  refine ⟨p :: ps,.cons h1 g1,fun q hq=>?_⟩
  rcases List.mem_cons.mp hq with rfl | hq
  ·exact ⟨k,h2⟩
  ·exact g2 q hq
theorem Dt.pq {p:Addr} {H:Hp} {v:V} {d:PyData} {q:Pq} (h:Dt p H v d) (e:PqD d q):∃a,v=.ref a∧Sq H a (pqV q):=by
 obtain ⟨a,xs,rfl,hx,dx⟩:=h.ref_row e
 obtain ⟨x1,x2,x3,x4,d1,d2,d3,d4,rfl,e2,h1,h2,h3,h4⟩:=dx.four rfl
 cases e2
 cases h1; cases h2; cases h3; cases h4
 exact ⟨a,rfl,hx⟩
def SpAt (H:Hp) (v:V) (g:Bx):Prop:=∃r r1 r2,v=.ref r∧H r=some (.tup [.ref r1,.ref r2])∧H r1=some (.tup [.int g.a,.int g.c])∧H r2=some (.tup [.int g.b,.int g.d])
theorem SpAt.same {H H':Hp} (s:Same H H') {v:V} {g:Bx} (h:SpAt H v g):SpAt H' v g:=by
 obtain ⟨r,r1,r2,e,h1,h2,h3⟩:=h
 exact ⟨r,r1,r2,e,s _ _ h1,s _ _ h2,s _ _ h3⟩
section
variable {P:Program} {w:World} {K:PySem.W.Frag} {mg:Str→Option Value} {base:Heap}
def qR:Sp:=fun vs H Q _=>∃ (w h:Int),vs=[.int w,.int h]∧1≤w∧1≤h∧Q .non H
def gU (C:Addr):Sp:=fun vs H Q _=>∃ (pp s:Addr) (b w h:Int) (ks:List Kd) (v:V) (d:PyData),vs=[.ref s,.int w,.int h,v]∧ShopAt C H s b ks∧1≤w∧1≤h∧Dt pp H v d∧wt d≤30000∧∀ (r:Bool) (H':Hp),(r=true↔oZ ks w h d)→Same H H'→Q (.bl r) H'
theorem sccplate:FnScope ["wide","high"] ["wide","high"] (defScope bU):=⟨rfl,rfl,rfl,by decide +kernel,rfl,by decide +kernel,by decide +kernel⟩
theorem lu {f:Addr} {fd:FuncData} (F:Fun K "check_plate" "check_plate" bU f fd) (DW:Dn P w K mg base "is_whole" ["thing","least"] 1 (cJ K)):FnOk P w K mg base CX0 2 f fd ["wide","high"] (qR):=by
 refine F.ok sccplate (fun vs H Q E h=>?_) (fun cdv A outer s H vs Q E hr h=>?_)
 ·obtain ⟨w1,h1,rfl,_⟩:=h
  rfl
 obtain ⟨w1,h1,rfl,w0,h0,q⟩:=h
 have nd:=sccplate.nd
 refine ⟨_,(@ai _ _ _ (@aS _ _ _ _ _ _ _ _ (PW.pt (cM (@aZ _ _ _ _ (@aR _ _ _ (@aw _ _ _ _ _ _ _ _ _ _ DW hr rfl (@aa _ _ _ _ _ (pv 0) (@aa _ _ _ _ _ ae ab rfl) rfl) (by decide) rfl rfl) (by intro _; rfl))) (cA (@aZ _ _ _ _ (@aR _ _ _ (@aw _ _ _ _ _ _ _ _ _ _ DW hr rfl (@aa _ _ _ _ _ (pv 1) (@aa _ _ _ _ _ ae ab rfl) rfl) (by decide) rfl rfl) (by intro _; rfl)))))) (@ai _ _ _ fg) aF)),?_⟩
 refine ⟨_,rfl,.int w1,"int",1,rfl,Ty.int,_,rfl,?_⟩
 rw [show aQ (.int w1) 1=true from decide_eq_true w0]
 refine bh ⟨_,rfl,.int h1,"int",1,rfl,Ty.int,_,rfl,?_⟩
 rw [show aQ (.int h1) 1=true from decide_eq_true h0]
 exact bh q
theorem scislay:FnScope ["shop","wide","high","thing","spans","at","columns","rows","other_columns","other_rows"] ["shop","wide","high","thing"] (defScope bO):=⟨rfl,rfl,rfl,by decide +kernel,rfl,by decide +kernel,by decide +kernel⟩
set_option maxHeartbeats 1000000 in
theorem nz {f C:Addr} {fd:FuncData} (F:Fun K "is_laying" "is_laying" bO f fd) (B:Blt mg) (DCP:Dn P w K mg base "check_plate" ["wide","high"] 2 (qR)) (DR:Dn P w K mg base "is_row" ["thing"] 1 (gm K)) (DPl:Dn P w K mg base "is_placed" ["shop","wide","high","thing"] 5 (fM C)) (DSn:Dn P w K mg base "spans_of" ["shop","piece"] 4 (fb C)) (DM:Dn P w K mg base "meet" ["one","other"] 1 (jz)):FnOk P w K mg base CX0 6 f fd ["shop","wide","high","thing"] (gU C):=by
 refine F.ok scislay (fun vs H Q E h=>?_) (fun cdv A outer s H vs Q E hr h=>?_)
 ·obtain ⟨pp,s,b',w1,h1,ks,v,d,rfl,_⟩:=h
  rfl
 obtain ⟨pp,s,b',w1,h1,ks,v,d,rfl,S,hw,hh,hd,wd,q⟩:=h
 have nd:=scislay.nd
 refine ⟨_,(@af _ _ _ _ _ (@bF _ _ _ _ (@aw _ _ _ _ _ _ _ _ _ _ DCP (hr.mono (by decide)) rfl (@aa _ _ _ _ _ (pv 1) (@aa _ _ _ _ _ (pv 2) ab rfl) rfl) (by decide) rfl rfl) rfl) (@af _ _ _ _ _ (@aS _ _ _ _ _ _ _ _ (PW.pt (cM (@aZ _ _ _ _ (@aR _ _ _ (@aw _ _ _ _ _ _ _ _ _ _ DR (hr.mono (by decide)) rfl (@aa _ _ _ _ _ (pv 3) ab rfl) (by decide) rfl rfl) (by intro _; rfl))) (cA (@aZ _ _ _ _ (@aR _ _ _ (@aE _ _ _ _ _ _ _ _ _ (eI rfl) rfl B.all PyProof.Rows.boot_all (@aa _ _ _ _ _ (bS (own:=["piece"]) (cs:=["shop","wide","high"]) (cap:=[0,1,2]) rfl (fw (pv 3)) (aL (sc:=defScope bO) (N:=["shop","wide","high","thing","spans","at","columns","rows","other_columns","other_rows"]) rfl rfl (by decide +kernel)) (fun _ _ _ _ _=>av (i:=0) (by show List.Nodup (["piece","shop","wide","high"]:List Str) ; decide +kernel) rfl (Or.inl rfl) (Or.inr rfl)) (fun _ _ _ _ _=>aT) (fun _ _ _ _ _=>(@aw _ _ _ _ _ _ _ _ _ _ DPl hr rfl (@aa _ _ _ _ _ (pv 1) (@aa _ _ _ _ _ (pv 2) (@aa _ _ _ _ _ (pv 3) (@aa _ _ _ _ _ (pv 0) ab rfl) rfl) rfl) rfl) (by decide) rfl rfl))) ab rfl) (by decide) (by decide) rfl rfl) (by intro _; rfl)))))) (@ai _ _ _ (@aA _ _ _ _ cb)) aF) (@af _ _ _ _ _ (cz (i:=4) (own:=["piece"]) (cs:=["shop"]) (cap:=[0]) rfl nd rfl rfl rfl (fw (pv 3)) (aL (sc:=defScope bO) (N:=["shop","wide","high","thing","spans","at","columns","rows","other_columns","other_rows"]) rfl rfl (by decide +kernel)) (fun _ _ _ _ _=>av (i:=0) (by show List.Nodup (["piece","shop"]:List Str) ; decide +kernel) rfl (Or.inl rfl) (Or.inr rfl)) (fun _ _ _ _ _=>aT) (fun _ _ _ _ _=>(@aw _ _ _ _ _ _ _ _ _ _ DSn (hr.mono (by decide)) rfl (@aa _ _ _ _ _ (pv 1) (@aa _ _ _ _ _ (pv 0) ab rfl) rfl) (by decide) rfl rfl))) (@af _ _ _ _ _ (@cf _ _ _ _ _ _ _ _ PassesOwn.never rfl (ki rfl B.enumerate (@aa _ _ _ _ _ (pv 4) ab rfl)) (br rfl (ay (av (i:=5) nd rfl (Or.inl rfl)) (ay (br rfl (ay (av (i:=6) nd rfl (Or.inl rfl)) (ay (av (i:=7) nd rfl (Or.inl rfl)) aX))) aX))) (@ai _ _ _ (@cf _ _ _ _ _ _ _ _ PassesOwn.never rfl (bc (@bT _ _ _ _ _ _ _ _ _ _ jZ (pv 4) cx (cy (pv 5)))) (br rfl (ay (av (i:=8) nd rfl (Or.inl rfl)) (ay (av (i:=9) nd rfl (Or.inl rfl)) aX))) (@ai _ _ _ (@aS _ _ _ _ _ _ _ _ (PW.pt (ff (@aR _ _ _ (@aw _ _ _ _ _ _ _ _ _ _ DM (hr.mono (by decide)) rfl (@aa _ _ _ _ _ (pv 6) (@aa _ _ _ _ _ (pv 8) ab rfl) rfl) (by decide) rfl rfl) (by intro _; rfl)) (dH (@aR _ _ _ (@aw _ _ _ _ _ _ _ _ _ _ DM (hr.mono (by decide)) rfl (@aa _ _ _ _ _ (pv 7) (@aa _ _ _ _ _ (pv 9) ab rfl) rfl) (by decide) rfl rfl) (by intro _; rfl))))) (@ai _ _ _ (@aA _ _ _ _ cb)) aF)) (by intro _; rfl))) (by intro _; rfl)) (@ai _ _ _ (@aA _ _ _ _ cb)))))),?_⟩
 have sz:(40000:Nat) < sizeLine:=by decide
 refine au (fun σ' H'=>σ'=[some (.ref s),some (.int w1),some (.int h1),some v,none,none,none,none,none,none]∧H=H') (fun R hR=>?_) ?_
 ·exact ⟨_,rfl,_,rfl,w1,h1,rfl,hw,hh,hR _ _ ⟨rfl,rfl⟩⟩
 rintro _ _ ⟨rfl,rfl⟩
 refine au (fun σ' H'=>∃ (a:Addr) (xs:List V) (ds:List PyData) (ps:List Pq),v=.ref a∧σ'=[some (.ref s),some (.int w1),some (.int h1),some (.ref a),none,none,none,none,none,none]∧Same H H'∧Sq H a xs∧Dts pp H xs ds∧cr d=some ds∧Paired PqD ds ps∧(∀x∈ds,bW ks w1 h1 x=true)∧∀p∈ps,∃k,cj ks (.int p.k) (.bl p.c)=true∧ks[p.k]? = some k∧0≤p.x∧0≤p.y∧p.x + sd1 k p.c≤w1∧p.y + sd2 k p.c≤h1) (fun R hR=>?_) ?_
 ·rcases hd.row (K:=K) with ⟨er,T1,t1,e1⟩ | ⟨a,xs,ds,T1,er,rfl,hx,dx,t1,e1⟩
  ·refine ⟨_,rfl,v,T1,rfl,t1,fun H1 s1=>⟨_,rfl,?_⟩⟩
   rw [e1]
   exact bu (q false H1 ⟨fun z=>(by cases z),fun ⟨ds,_,e,_⟩=>by rw [er] at e; cases e⟩ s1)
  ·refine ⟨_,rfl,.ref a,T1,rfl,t1,fun H1 s1=>⟨_,rfl,?_⟩⟩
   rw [e1]
   have dl:=dx.length
   have wl:=gT ds
   have wd':wts ds + 1=wt d:=(iP er).symm
   refine bh ?_
   dsimp only [tJ,tB,tCB,jV,kJ]
   refine de (j:=3) (a:=a) (xs:=xs) rfl (Sq.same hx s1) (fun i us Hx=>Same H1 Hx∧us=((ds.take i).map (bW ks w1 h1)).map V.bl) (fun i us Hx _ ⟨sx,_⟩ o e=>sx _ _ e) ⟨Same.refl _,rfl⟩ ?_ ?_
   ·rintro i x us Hx hi ⟨sx,rfl⟩
    have hin:i < xs.length:=(List.getElem?_eq_some_iff.mp hi).1
    obtain ⟨dd,hdd,hxx⟩:=dx.get hi
    refine ⟨by rw [List.length_map,List.length_map,List.length_take]; omega,leS.set rfl,aU ?_⟩
    refine ⟨_,rfl,_,rfl,_,rfl,_,rfl,pp,s,b',w1,h1,ks,x,dd,rfl,cN (s1.trans sx) S,hxx.same (s1.trans sx),fun H3 s3=>Nx.of hin ⟨sx.trans s3,?_⟩⟩
    rw [List.take_add_one,hdd]
    simp only [Option.toList_some,List.map_append,List.map_cons,List.map_nil]
   ·rintro us Hx ⟨sx,rfl⟩
    rw [dl,List.take_length]
    refine ⟨by rw [List.length_map,List.length_map]; omega,fun l hl=>⟨l,_,rfl,SqL.of ah,_,rfl,?_⟩⟩
    have sl:=s1.trans (sx.trans (Same.new hl (o:=.lst ((ds.map (bW ks w1 h1)).map V.bl))))
    cases ha:(ds.map (bW ks w1 h1)).all id with
    | false =>
     refine bu (q false _ ⟨fun z=>(by cases z),fun ⟨ds',_,e,_,hp,_⟩=>?_⟩ sl)
     rw [er] at e
     cases e
     rw [List.all_eq_false] at ha
     obtain ⟨z,hz,hz2⟩:=ha
     obtain ⟨x,hx,rfl⟩:=List.mem_map.mp hz
     exact absurd (hp x hx) hz2
    | true =>
     have hall:∀x∈ds,bW ks w1 h1 x=true:=fun x hx=>(List.all_eq_true.mp ha) _ (List.mem_map.mpr ⟨x,hx,rfl⟩)
     obtain ⟨ps,g1,g2⟩:=iQ hall
     exact bh (hR _ _ ⟨a,xs,ds,ps,rfl,rfl,sl,hx,dx,er,g1,hall,g2⟩)
 rintro _ H1 ⟨a,xs,ds,ps,rfl,rfl,s1,hx,dx,er,pd,hall,hps⟩
 have dl:=dx.length
 have wl:=gT ds
 have wd':wts ds + 1=wt d:=(iP er).symm
 have pl:=Paired.length pd
 have lay_iff:oZ ks w1 h1 d↔ny ks ps:=⟨fun ⟨ds',ps',e,pd',_,ok⟩=>by
  rw [er] at e
  cases e
  rw [Paired.uniq PqD.uniq pd pd']
  exact ok,fun ok=>⟨ds,ps,er,pd,hall,ok⟩⟩
 refine au (fun σ' H'=>∃ (sl:Addr) (ss:List V),σ'=[some (.ref s),some (.int w1),some (.int h1),some (.ref a),some (.ref sl),none,none,none,none,none]∧H' sl=some (.lst ss)∧Paired (SpAt H') ss (ps.map (aK ks))∧Same H H') (fun R hR=>?_) ?_
 ·refine de (K:=K) (j:=3) rfl (Sq.same hx s1) (fun i us Hx=>Same H1 Hx∧Paired (SpAt Hx) us ((ps.take i).map (aK ks))) (fun i us Hx _ ⟨sx,_⟩ o e=>sx _ _ e) ⟨Same.refl _,.nil⟩ ?_ ?_
  ·rintro i x us Hx hi ⟨sx,pu⟩
   have hin:i < xs.length:=(List.getElem?_eq_some_iff.mp hi).1
   obtain ⟨dd,hdd,hxx⟩:=dx.get hi
   obtain ⟨p0,hp0,hpq⟩:=Paired.getR pd hdd
   obtain ⟨ap,rfl,hap⟩:=hxx.pq hpq
   obtain ⟨k0,g1,g2,g3⟩:=hps p0 (List.mem_of_getElem? hp0)
   have ul:=Paired.length pu
   rw [List.length_map,List.length_take] at ul
   refine ⟨by omega,leS.set rfl,aU ?_⟩
   refine ⟨_,rfl,_,rfl,s,ap,b',ks,p0,k0,rfl,cN (s1.trans sx) S,hap.same (s1.trans sx),g1,g2,fun r r1 r2 H3 e1 e2 e3 s3=>Nx.of hin ⟨sx.trans s3,?_⟩⟩
   rw [List.take_add_one,hp0]
   simp only [Option.toList_some,List.map_append,List.map_cons,List.map_nil]
   refine cP (Paired.mapP pu fun v g h=>h.same s3) (.cons ⟨r,r1,r2,rfl,e1,?_,?_⟩ .nil)
   ·rw [bf g2]; exact e2
   ·rw [bf g2]; exact e3
  ·rintro us Hx ⟨sx,pu⟩
   have ul:=Paired.length pu
   rw [List.length_map,List.length_take] at ul
   rw [show xs.length=ps.length by omega,List.take_length] at pu
   refine ⟨by omega,fun l hl=>?_⟩
   obtain ⟨Hy,e2,k2,s2⟩:∃H',upd Hx l (.lst us)=H'∧H' l=some (.lst us)∧Same Hx H':=⟨_,rfl,ah,Same.new hl⟩
   rw [show upd Hx l _=Hy from e2]
   exact hR _ _ ⟨l,us,rfl,k2,Paired.mapP pu fun v g h=>h.same s2,s1.trans (sx.trans s2)⟩
 rintro _ H2 ⟨sl,ss,rfl,hsl,pss,s02⟩
 have ssl:=Paired.length pss
 rw [List.length_map] at ssl
 have z4:ss.length < sizeLine:=by omega
 refine au (fun σ' H'=>∃v5 v6 v7 v8 v9:Option V,σ'=[some (.ref s),some (.int w1),some (.int h1),some (.ref a),some (.ref sl),v5,v6,v7,v8,v9]∧Same H2 H'∧ny ks ps) (fun R hR=>?_) ?_
 ·refine ⟨_,rfl,sl,ss,rfl,.inl ⟨hsl,iz (f:=.lst) (fun _ _ e=>by cases e; rfl) (l:=sl) (xs:=ss) (fun i σ' H'=>∃v5 v6 v7 v8 v9:Option V,σ'=[some (.ref s),some (.int w1),some (.int h1),some (.ref a),some (.ref sl),v5,v6,v7,v8,v9]∧Same H2 H'∧∀j p,j < i→ps[j]? = some p→∀q∈ps.take j,cX (aK ks p) (aK ks q)=false) ⟨_,_,_,_,_,rfl,Same.refl _,fun j p hj=>absurd hj (Nat.not_lt_zero _)⟩ (fun i σ Hx ⟨_,_,_,_,_,_,sx,_⟩=>sx _ _ hsl) ?_ (fun σ Hx ⟨v5,v6,v7,v8,v9,e,sx,ok⟩=>hR _ _ ⟨v5,v6,v7,v8,v9,e,sx,fun j p hp=>ok j p (by rw [ssl]; exact (List.getElem?_eq_some_iff.mp hp).1) hp⟩)⟩⟩
  rintro i x pt σ Hx hx' hp' ⟨v5,v6,v7,v8,v9,rfl,sx,okj⟩
  obtain ⟨g,hg,r,r1,r2,rfl,u1,u2,u3⟩:=Paired.getR pss hx'
  rw [List.getElem?_map] at hg
  obtain ⟨p0,hp0,rfl⟩:=Option.map_eq_some_iff.mp hg
  obtain ⟨Hy,e3,k3,s3⟩:∃H',upd Hx pt (.tup [.int i,.ref r])=H'∧H' pt=some (.tup [.int i,.ref r])∧Same Hx H':=⟨_,rfl,ah,Same.new hp'⟩
  rw [show upd Hx pt _=Hy from e3]
  have s2y:=sx.trans s3
  refine ⟨pt,_,rfl,SqT.of k3,rfl,_,_,rfl,_,_,rfl,r,_,rfl,SqT.of (s2y _ _ u1),rfl,_,_,rfl,_,_,rfl,rfl,rfl,?_⟩
  refine ⟨_,rfl,_,rfl,_,rfl,sl,_,rfl,SqL.of (s2y _ _ hsl),fun l hl=>?_⟩
  obtain ⟨Hz,e4,k4,s4⟩:∃H',upd Hy l (.lst (bK ss none (some (i:Int))))=H'∧H' l=some (.lst (bK ss none (some (i:Int))))∧Same Hy H':=⟨_,rfl,ah,Same.new hl⟩
  rw [show upd Hy l _=Hz from e4]
  have ec:bK ss none (some (i:Int))=ss.take i:=kU ss i
  have k4:Hz l=some (.lst (ss.take i)):=by rw [k4,ec]
  have s2z:=s2y.trans s4
  refine ⟨l,rfl,⟨_,SqL.of k4⟩,dJ (xs:=ss.take i) (fun j σ' H'=>∃v8 v9:Option V,σ'=[some (.ref s),some (.int w1),some (.int h1),some (.ref a),some (.ref sl),some (.int i),some (.ref r1),some (.ref r2),v8,v9]∧Same Hz H'∧∀q∈ps.take j,cX (aK ks p0) (aK ks q)=false) ⟨_,_,rfl,Same.refl _,fun q hq=>by simp at hq⟩ (fun j σ Hw _ ⟨_,_,_,sw,_⟩=>SqL.of (sw _ _ k4)) ?_ ?_⟩
  ·rintro j x σ Hw hj ⟨v8,v9,rfl,sw,okq⟩
   have hjl:j < (ss.take i).length:=(List.getElem?_eq_some_iff.mp hj).1
   rw [List.length_take] at hjl
   have hj':ss[j]? = some x:=by rw [List.getElem?_take_of_lt (by omega)] at hj; exact hj
   obtain ⟨g,hg,o,o1,o2,rfl,f1,f2,f3⟩:=Paired.getR pss hj'
   rw [List.getElem?_map] at hg
   obtain ⟨q0,hq0,rfl⟩:=Option.map_eq_some_iff.mp hg
   have s2w:=s2z.trans sw
   refine ⟨o,_,rfl,SqT.of (s2w _ _ f1),rfl,_,_,rfl,_,_,rfl,rfl,?_⟩
   have stepOk:cX (aK ks p0) (aK ks q0)=false→∀q∈ps.take (j + 1),cX (aK ks p0) (aK ks q)=false:=fun hov q hq=>by
    rw [List.take_add_one,hq0] at hq
    rcases List.mem_append.mp hq with hq | hq
    ·exact okq q hq
    ·rw [List.mem_singleton.mp hq]; exact hov
   refine ⟨_,rfl,_,rfl,r1,o1,_,_,_,_,rfl,s2w _ _ u2,s2w _ _ f2,_,rfl,?_⟩
   cases c1:(decide ((aK ks p0).a < (aK ks q0).c) && decide ((aK ks q0).a < (aK ks p0).c)) with
   | false =>
    exact bh (bh ⟨_,_,rfl,sw,stepOk (by unfold cX; rw [c1]; rfl)⟩)
   | true =>
    refine bu ⟨_,rfl,_,rfl,r2,o2,_,_,_,_,rfl,s2w _ _ u3,s2w _ _ f3,_,rfl,?_⟩
    cases c2:(decide ((aK ks p0).b < (aK ks q0).d) && decide ((aK ks q0).b < (aK ks p0).d)) with
    | false=>exact bh ⟨_,_,rfl,sw,stepOk (by unfold cX; rw [c1,c2]; rfl)⟩
    | true =>
     refine bu (q false _ ⟨fun z=>(by cases z),fun ld=>?_⟩ (s02.trans s2w))
     have:=(lay_iff.mp ld) i p0 hp0 q0 (List.mem_of_getElem? (show (ps.take i)[j]? = some q0 by rw [List.getElem?_take_of_lt (by omega)]; exact hq0))
     unfold cX at this
     rw [c1,c2] at this
     cases this
  ·rintro σ Hw ⟨v8,v9,rfl,sw,okq⟩
   refine ⟨_,_,_,_,_,rfl,s2z.trans sw,fun j p hj hp=>?_⟩
   rcases Nat.lt_or_eq_of_le (Nat.le_of_lt_succ hj) with hj | rfl
   ·exact okj j p hj hp
   ·rw [hp0] at hp
    cases hp
    have:(ss.take j).length=j:=by rw [List.length_take]; have:=(List.getElem?_eq_some_iff.mp hx').1; omega
    rw [this] at okq
    exact okq
 rintro _ H3 ⟨v5,v6,v7,v8,v9,rfl,s23,ok⟩
 exact q true H3 ⟨fun _=>lay_iff.mpr ok,fun _=>rfl⟩ (s02.trans s23)
end
def PzP (ks:List Kd) (H:Hp) (a:Addr):Prop:=∃p k,H a=some (.tup (pqV p))∧cj ks (.int p.k) (.bl p.c)=true∧ks[p.k]? = some k
theorem PzP.same {ks:List Kd} {H H':Hp} {a:Addr} (s:Same H H') (h:PzP ks H a):PzP ks H' a:=by
 obtain ⟨p,k,h1,h2⟩:=h
 exact ⟨p,k,s _ _ h1,h2⟩
def Pts (b:Int) (as:List Addr) (g:Addr→Int×Int) (r:Int):Prop:=(∃a∈as,(g a).2≤r)∧(∃a∈as,r + b≤(g a).1)∧∀a∈as,(g a).2≤r∨r + b≤(g a).1
theorem dq {g:Addr→Int×Int}:∀ {as:List Addr},(as.map fun a=>[(g a).1,(g a).2]).Pairwise (fun x y=>ck y x=false)→as.Pairwise fun x y=>(g x).1≤(g y).1
 | [],_=>List.Pairwise.nil
 | a :: r,h=>by
  rw [List.map_cons,List.pairwise_cons] at h
  rw [List.pairwise_cons]
  refine ⟨fun y hy=>?_,dq h.2⟩
  have:=h.1 _ (List.mem_map.mpr ⟨y,hy,rfl⟩)
  have this:(if (g y).1=(g a).1 then ck [(g y).2] [(g a).2] else decide ((g y).1 < (g a).1))=false:=this
  split at this
  ·omega
  ·have:=of_decide_eq_false this
   omega
theorem iR {b:Int} {g:Addr→Int×Int} (b0:0≤b):∀ (r0:List Addr) (z:Int) (p:Int),(∀a∈r0,(g a).1 < (g a).2)→r0.Pairwise (fun x y=>(g x).1≤(g y).1)→z≤p→(∃a∈r0,p + b≤(g a).1)→(∀a∈r0,(g a).2≤p∨p + b≤(g a).1)→∃ (i:Nat) (a:Addr),r0[i]? = some a∧(∀c∈r0.take i,(g c).2≤p)∧p + b≤(g a).1
 | [],_,_,_,_,_,h,_=>by obtain ⟨a,ha,_⟩:=h; simp at ha
 | a :: r,z,p,lt,so,hz,he,al=>by
  rcases al a List.mem_cons_self with h | h
  ·obtain ⟨i,c,h1,h2,h3⟩:=iR b0 r z p (fun x hx=>lt x (List.mem_cons_of_mem _ hx)) (List.pairwise_cons.mp so).2 hz (by
    obtain ⟨x,hx,hp⟩:=he
    rcases List.mem_cons.mp hx with rfl | hx
    ·have:=lt x List.mem_cons_self
     omega
    ·exact ⟨x,hx,hp⟩) (fun x hx=>al x (List.mem_cons_of_mem _ hx))
   refine ⟨i + 1,c,by simpa using h1,fun x hx=>?_,h3⟩
   rw [List.take_succ_cons] at hx
   rcases List.mem_cons.mp hx with rfl | hx
   ·exact h
   ·exact h2 x hx
  ·exact ⟨0,a,rfl,fun x hx=>by simp at hx,h⟩
section
variable {P:Program} {w:World} {K:PySem.W.Frag} {mg:Str→Option Value} {base:Heap}
def gW:Sp:=fun vs H Q _=>∃ (b:Int) (l:Addr) (as:List Addr) (g:Addr→Int×Int),vs=[.int b,.ref l]∧0≤b∧H l=some (.lst (as.map V.ref))∧as≠[]∧as.length < 64∧(∀a∈as,(g a).1 < (g a).2)∧(∀a∈as,H a=some (.tup [.int (g a).1,.int (g a).2]))∧∀H',Same H H'→((∀r,¬ Pts b as g r)→Q .non H')∧∀r,Pts b as g r→Q (.int r) H'
def eh:Sp:=fun vs H Q _=>∃ (x y:Int) (l:Addr) (as:List Addr),vs=[.int x,.int y,.ref l]∧H l=some (.lst (as.map V.ref))∧(∀a∈as,∃p,H a=some (.tup (pqV p)))∧∀ (r:Addr) (xs:List V) (H':Hp),H' r=some (.tup xs)→Same H H'→Q (.ref r) H'
theorem scplace:FnScope ["blade","spans","ordered","reach","start","end"] ["blade","spans"] (defScope bp):=⟨rfl,rfl,rfl,by decide +kernel,rfl,by decide +kernel,by decide +kernel⟩
theorem nA {f:Addr} {fd:FuncData} (F:Fun K "parting_place" "parting_place" bp f fd) (B:Blt mg):FnOk P w K mg base CX0 1 f fd ["blade","spans"] (gW):=by
 refine F.ok scplace (fun vs H Q E h=>?_) (fun cdv A outer s H vs Q E hr h=>?_)
 ·obtain ⟨b,l,as,g,rfl,_⟩:=h
  rfl
 obtain ⟨b,l,as,g,rfl,b0,hl,ne,l64,glt,hg,q⟩:=h
 have nd:=scplace.nd
 refine ⟨_,(@af _ _ _ _ _ (@aD _ _ 2 _ _ _ _ nd rfl (Or.inl rfl) (@aE _ _ _ _ _ _ _ _ _ dS rfl B.sorted PyProof.Rows.boot_sorted (@aa _ _ _ _ _ (pv 1) ab rfl) (by decide) (by decide) rfl rfl) rfl (Or.inl rfl)) (@af _ _ _ _ _ (@aD _ _ 3 _ _ _ _ nd rfl (Or.inl rfl) (@ar _ _ _ _ _ _ _ ix_tup (@ar _ _ _ _ _ _ _ ix_list (pv 2) ae (fun _ _=>rfl)) ae (fun _ _=>rfl)) rfl (Or.inl rfl)) (@af _ _ _ _ _ (@cf _ _ _ _ _ _ _ _ PassesOwn.never rfl (bc (@bT _ _ _ _ _ _ _ _ _ _ jZ (pv 2) (cy ae) cx)) (br rfl (ay (av (i:=4) nd rfl (Or.inl rfl)) (ay (av (i:=5) nd rfl (Or.inl rfl)) aX))) (@af _ _ _ _ _ (@aS _ _ _ _ _ _ _ _ (@aI _ _ _ _ _ _ _ _ my (pv 4) (@aB _ _ _ _ _ _ _ _ aJ (pv 3) (pv 0)) (aG _)) (@ai _ _ _ (@aA _ _ _ _ (pv 3))) aF) (@ai _ _ _ (@aD _ _ 3 _ _ _ _ nd rfl (Or.inl rfl) (@aE _ _ _ _ _ _ _ _ _ (cF rfl) rfl B.max PyProof.Rows.boot_max (@aa _ _ _ _ _ (pv 3) (@aa _ _ _ _ _ (pv 5) ab rfl) rfl) (by decide) (by decide) rfl rfl) rfl (Or.inl rfl)))) (by intro _; rfl)) (@ai _ _ _ (@aA _ _ _ _ gC))))),?_⟩
 have sz:(1000:Nat) < sizeLine:=by decide
 refine au (fun σ' H'=>∃ (lo:Addr) (as':List Addr),σ'=[some (.int b),some (.ref l),some (.ref lo),none,none,none]∧H' lo=some (.lst (as'.map V.ref))∧as'.Perm as∧as'.Pairwise (fun x y=>(g x).1≤(g y).1)∧Same H H') (fun R hR=>?_) ?_
 ·exact ⟨_,rfl,l,as,[false,false],fun a=>[(g a).1,(g a).2],rfl,SqL.of hl,by omega,rfl,fun a ha=>⟨_,SqT.of (hg a ha),rfl⟩,fun lo as' hlo pa so=>hR _ _ ⟨lo,as',rfl,ah,pa,dq so,Same.new hlo⟩⟩
 rintro _ H1 ⟨lo,as',rfl,hlo,pa,sor,s1⟩
 obtain ⟨a0,r0,rfl⟩:∃a0 r0,as'=a0 :: r0:=by
  cases as' with
  | nil=>exact absurd (List.nil_perm.mp pa) ne
  | cons a r=>exact ⟨a,r,rfl⟩
 have mem:∀a∈a0 :: r0,a∈as:=fun a ha=>pa.mem_iff.mp ha
 have hg1:∀a∈a0 :: r0,H1 a=some (.tup [.int (g a).1,.int (g a).2]):=fun a ha=>s1 _ _ (hg a (mem a ha))
 refine au (fun σ' H'=>σ'=[some (.int b),some (.ref l),some (.ref lo),some (.int (g a0).2),none,none]∧H1=H') (fun R hR=>?_) ?_
 ·exact ⟨_,rfl,lo,_,0,_,rfl,rfl,SqL.of hlo,cL (Int.le_refl _) rfl,a0,_,1,_,rfl,rfl,SqT.of (hg1 a0 List.mem_cons_self),rfl,hR _ _ ⟨rfl,rfl⟩⟩
 rintro _ _ ⟨rfl,rfl⟩
 have pm:∀ {r:Int},Pts b (a0 :: r0) g r↔Pts b as g r:=by
  intro r
  unfold Pts
  simp only [pa.mem_iff]
 obtain ⟨so1,so2⟩:=List.pairwise_cons.mp sor
 refine au (fun σ' H'=>(∃ (z:Int) (v4 v5:Option V),σ'=[some (.int b),some (.ref l),some (.ref lo),some (.int z),v4,v5])∧Same H H'∧∀r,¬ Pts b as g r) (fun R hR=>?_) ?_
 ·refine ⟨_,rfl,_,rfl,lo,_,rfl,SqL.of hlo,fun sl hsl=>?_⟩
  obtain ⟨H2,e2,k2,s2⟩:∃H',upd H1 sl (.lst (bK ((a0 :: r0).map V.ref) (some 1) none))=H'∧H' sl=some (.lst (bK ((a0 :: r0).map V.ref) (some 1) none))∧Same H1 H':=⟨_,rfl,ah,Same.new hsl⟩
  rw [show upd H1 sl _=H2 from e2]
  have k2:H2 sl=some (.lst (r0.map V.ref)):=by rw [k2,show bK ((a0 :: r0).map V.ref) (some 1) none=r0.map V.ref from kW _ 1]
  refine ⟨sl,rfl,⟨_,SqL.of k2⟩,dJ (xs:=r0.map V.ref) (fun i σ' H'=>(∃ (z:Int) (v4 v5:Option V),σ'=[some (.int b),some (.ref l),some (.ref lo),some (.int z),v4,v5]∧(g a0).2≤z∧(∀c∈r0.take i,(g c).2≤z)∧(z=(g a0).2∨∃c∈r0.take i,z=(g c).2)∧∀ (j:Nat) (a:Addr) (p:Int),j < i→r0[j]? = some a→(g a0).2≤p→(∀c∈r0.take j,(g c).2≤p)→(g a).1 < p + b)∧Same H2 H') ⟨⟨_,_,_,rfl,Int.le_refl _,fun c hc=>by simp at hc,.inl rfl,fun j a p hj=>absurd hj (Nat.not_lt_zero _)⟩,Same.refl _⟩ (fun i σ Hx _ ⟨_,sx⟩=>SqL.of (sx _ _ k2)) ?_ ?_⟩
  ·rintro i x σ Hx hi ⟨⟨z,v4,v5,rfl,hz,hzt,hze,hno⟩,sx⟩
   rw [List.getElem?_map] at hi
   obtain ⟨a,ha,rfl⟩:=Option.map_eq_some_iff.mp hi
   have am:a∈a0 :: r0:=List.mem_cons_of_mem _ (List.mem_of_getElem? ha)
   have hil:i < r0.length:=(List.getElem?_eq_some_iff.mp ha).1
   refine ⟨a,_,rfl,SqT.of (sx _ _ (s2 _ _ (hg1 a am))),rfl,_,_,rfl,_,_,rfl,rfl,?_⟩
   refine ⟨_,rfl,_,rfl,_,rfl,_,_,rfl,rfl,_,_,rfl,rfl,_,rfl,?_⟩
   refine bE (fun cc=>?_) (fun cc=>?_)
   ·have cc:z + b≤(g a).1:=of_decide_eq_true cc
    refine ⟨_,rfl,(q Hx (s1.trans (s2.trans sx))).2 z (pm.mp ⟨⟨a0,List.mem_cons_self,hz⟩,⟨a,am,cc⟩,fun c hc=>?_⟩)⟩
    rcases List.mem_cons.mp hc with rfl | hc
    ·exact .inl hz
    obtain ⟨j,hj⟩:=List.mem_iff_getElem?.mp hc
    by_cases hji:j < i
    ·exact .inl (hzt c (List.mem_of_getElem? (show (r0.take i)[j]? = some c by rw [List.getElem?_take_of_lt hji]; exact hj)))
    ·refine .inr (Int.le_trans cc ?_)
     by_cases hje:j=i
     ·subst hje
      rw [ha] at hj
      cases hj
      exact Int.le_refl _
     ·have hjl:=(List.getElem?_eq_some_iff.mp hj).1
      have:=List.pairwise_iff_getElem.mp so2 i j hil hjl (by omega)
      rw [List.getElem?_eq_getElem hil] at ha
      rw [List.getElem?_eq_getElem hjl] at hj
      cases ha
      cases hj
      exact this
   ·have cc:¬ z + b≤(g a).1:=fun h=>cc (decide_eq_true h)
    have tk:r0.take (i + 1)=r0.take i ++ [a]:=by rw [List.take_add_one,ha]; rfl
    have nw:∀z':Int,z≤z'→(g a).2≤z'→(z'=z∨z'=(g a).2)→(g a0).2≤z'∧(∀c∈r0.take (i + 1),(g c).2≤z')∧(z'=(g a0).2∨∃c∈r0.take (i + 1),z'=(g c).2)∧∀ (j:Nat) (a:Addr) (p:Int),j < i + 1→r0[j]? = some a→(g a0).2≤p→(∀c∈r0.take j,(g c).2≤p)→(g a).1 < p + b:=fun z' h1 h2 h3=>by
     rw [tk]
     refine ⟨by omega,fun c hc=>?_,?_,fun j a' p hj hja h0p htp=>?_⟩
     ·rcases List.mem_append.mp hc with hc | hc
      ·have:=hzt c hc; omega
      ·rw [List.mem_singleton.mp hc]; exact h2
     ·rcases h3 with h3 | h3
      ·rcases hze with e | ⟨c,hc,e⟩
       ·exact .inl (by omega)
       ·exact .inr ⟨c,List.mem_append_left _ hc,by omega⟩
      ·exact .inr ⟨a,List.mem_append_right _ (List.mem_singleton.mpr rfl),h3⟩
     ·by_cases hje:j=i
      ·subst hje
       rw [ha] at hja
       cases hja
       have:z≤p:=by
        rcases hze with e | ⟨c,hc,e⟩
        ·omega
        ·have:=htp c hc; omega
       omega
      ·exact hno j a' p (by omega) hja h0p htp
    refine ⟨_,rfl,_,rfl,_,_,rfl,⟨_,_,_,rfl,nw _ ?_ ?_ ?_⟩,sx⟩
    ·split <;> omega
    ·split <;> omega
    ·split
     ·exact .inr rfl
     ·exact .inl rfl
  ·rintro σ Hx ⟨⟨z,v4,v5,e,hz,hzt,hze,hno⟩,sx⟩
   refine hR _ _ ⟨⟨z,v4,v5,e⟩,s1.trans (s2.trans sx),fun p hp=>?_⟩
   obtain ⟨⟨c,hc,hcp⟩,⟨d,hd,hdp⟩,al⟩:=pm.mpr hp
   have glt':∀a∈a0 :: r0,(g a).1 < (g a).2:=fun a ha=>glt a (mem a ha)
   have a0p:(g a0).2≤p:=by
    rcases al a0 List.mem_cons_self with h | h
    ·exact h
    ·exfalso
     have l1:=glt' c hc
     rcases List.mem_cons.mp hc with e | hc
     ·rw [e] at hcp l1; omega
     ·have:=so1 c hc; omega
   have dr:d∈r0:=by
    rcases List.mem_cons.mp hd with e | hd
    ·exfalso
     rw [e] at hdp
     have:=glt' a0 List.mem_cons_self
     omega
    ·exact hd
   obtain ⟨i,a,h1,h2,h3⟩:=iR b0 r0 p p (fun x hx=>glt' x (List.mem_cons_of_mem _ hx)) so2 (Int.le_refl _) ⟨d,dr,hdp⟩ (fun x hx=>al x (List.mem_cons_of_mem _ hx))
   have:=hno i a p (by rw [List.length_map]; exact (List.getElem?_eq_some_iff.mp h1).1) h1 a0p h2
   omega
 rintro _ H2 ⟨⟨z,v4,v5,rfl⟩,s2,no⟩
 exact (q H2 s2).1 no
theorem scleafof:FnScope ["x","y","pieces","kind","turned","piece_x","piece_y"] ["x","y","pieces"] (defScope dW):=⟨rfl,rfl,rfl,by decide +kernel,rfl,by decide +kernel,by decide +kernel⟩
theorem lw {f:Addr} {trs tpc:Tok} {fd:FuncData} (F:Fun K "leaf_of" "leaf_of" dW f fd) (hrs:mg "REST" = some (.str "rest" trs)) (hpc:mg "PIECE" = some (.str "piece" tpc)):FnOk P w K mg base CX0 1 f fd ["x","y","pieces"] (eh):=by
 refine F.ok scleafof (fun vs H Q E h=>?_) (fun cdv A outer s H vs Q E hr h=>?_)
 ·obtain ⟨x,y,l,as,rfl,_⟩:=h
  rfl
 obtain ⟨x,y,l,as,rfl,hl,hp,q⟩:=h
 have nd:=scleafof.nd
 refine ⟨_,(@af _ _ _ _ _ (@aS _ _ _ _ _ _ _ _ (aZ (mB (pv 2) (fun _=>rfl))) (@ai _ _ _ (@aA _ _ _ _ (@aN _ _ _ _ _ (@aa _ _ _ _ _ (bm (v:=.str "rest") rfl hrs ⟨trs,rfl⟩) ab rfl)))) aF) (@af _ _ _ _ _ (@ce _ _ _ _ _ _ (@ar _ _ _ _ _ _ _ ix_list (pv 2) ae (fun _ _=>rfl)) (br rfl (ay (av (i:=3) nd rfl (Or.inl rfl)) (ay (av (i:=4) nd rfl (Or.inl rfl)) (ay (av (i:=5) nd rfl (Or.inl rfl)) (ay (av (i:=6) nd rfl (Or.inl rfl)) aX))))) rfl rfl rfl) (@ai _ _ _ (@aA _ _ _ _ (@aN _ _ _ _ _ (@aa _ _ _ _ _ (bm (v:=.str "piece") rfl hpc ⟨tpc,rfl⟩) (@aa _ _ _ _ _ (pv 3) (@aa _ _ _ _ _ (pv 4) (@aa _ _ _ _ _ (@aB _ _ _ _ _ _ _ _ cQ (pv 5) (pv 0)) (@aa _ _ _ _ _ (@aB _ _ _ _ _ _ _ _ cQ (pv 6) (pv 1)) ab rfl) rfl) rfl) rfl) rfl)))))),?_⟩
 refine au (fun σ' H'=>σ'=[some (.int x),some (.int y),some (.ref l),none,none,none,none]∧H=H'∧as≠[]) (fun R hR=>?_) ?_
 ·refine ⟨_,rfl,_,.inl ⟨_,SqL.of hl,rfl⟩,?_⟩
  cases as with
  | nil=>exact bu ⟨(by show 1≤sizeLine; decide),fun r hr=>q r _ _ ah (Same.new hr)⟩
  | cons a r=>exact bh (hR _ _ ⟨rfl,rfl,List.cons_ne_nil _ _⟩)
 rintro _ _ ⟨rfl,rfl,ne⟩
 obtain ⟨a0,r0,rfl⟩:∃a0 r0,as=a0 :: r0:=by
  cases as with
  | nil=>exact absurd rfl ne
  | cons a r=>exact ⟨a,r,rfl⟩
 obtain ⟨p,ha⟩:=hp a0 List.mem_cons_self
 refine au (fun σ' H'=>σ'=[some (.int x),some (.int y),some (.ref l),some (.int p.k),some (.bl p.c),some (.int p.x),some (.int p.y)]∧H=H') (fun R hR=>?_) ?_
 ·exact ⟨_,rfl,l,_,0,_,rfl,rfl,SqL.of hl,cL (Int.le_refl _) rfl,a0,_,rfl,SqT.of ha,rfl,_,_,rfl,_,_,rfl,_,_,rfl,_,_,rfl,rfl,hR _ _ ⟨rfl,rfl⟩⟩
 rintro _ _ ⟨rfl,rfl⟩
 exact ⟨_,rfl,_,rfl,_,rfl,_,rfl,_,_,rfl,rfl,_,rfl,_,rfl,_,_,rfl,rfl,(by show 5≤sizeLine; decide),fun r hr=>q r _ _ ah (Same.new hr)⟩
end
def SpA (H:Hp) (r:Addr) (g:Bx):Prop:=∃r1 r2,H r=some (.tup [.ref r1,.ref r2])∧H r1=some (.tup [.int g.a,.int g.c])∧H r2=some (.tup [.int g.b,.int g.d])
theorem SpA.same {H H':Hp} (s:Same H H') {r:Addr} {g:Bx} (h:SpA H r g):SpA H' r g:=by
 obtain ⟨r1,r2,h1,h2,h3⟩:=h
 exact ⟨r1,r2,s _ _ h1,s _ _ h2,s _ _ h3⟩
def axA (H:Hp) (i:Nat) (sp:Addr):Addr:=match H sp with
 | some (.tup [.ref r1,.ref r2])=>if i=0 then r1 else r2
 | _=>sp
def ivA (H:Hp) (a:Addr):Int×Int:=match H a with
 | some (.tup [.int x,.int y])=>(x,y)
 | _=>(0,0)
theorem jB {H:Hp} {sp r1 r2:Addr} (h:H sp=some (.tup [.ref r1,.ref r2])) (i:Nat):axA H i sp=if i=0 then r1 else r2:=by unfold axA; rw [h]
theorem gX {H:Hp} {a:Addr} {x y:Int} (h:H a=some (.tup [.int x,.int y])):ivA H a=(x,y):=by unfold ivA; rw [h]
theorem SpA.ax {H:Hp} {r:Addr} {g:Bx} (h:SpA H r g) (hg:g.a < g.c∧g.b < g.d) (i:Nat):∃x y,H (axA H i r)=some (.tup [.int x,.int y])∧ivA H (axA H i r)=(x,y)∧x < y:=by
 obtain ⟨r1,r2,h1,h2,h3⟩:=h
 rw [jB h1]
 split
 ·exact ⟨_,_,h2,gX h2,hg.1⟩
 ·exact ⟨_,_,h3,gX h3,hg.2⟩
theorem qS {a b c:St} (h1:leS a b) (h2:leS b c):leS a c:=⟨h2.1.trans h1.1,fun i v e=>h2.2 i v (h1.2 i v e)⟩
theorem fN {α:Type} (f:α→Bool):∀l:List α,(l.filter f).length + (l.filter fun x=>!f x).length=l.length
 | []=>rfl
 | x :: l=>by
  have:=fN f l
  rw [List.filter_cons,List.filter_cons]
  cases f x <;> simp <;> omega
theorem fO {α:Type} {f:α→Bool} {l:List α} {x:α} (hx:x∈l) (h:f x=true):1≤(l.filter f).length:=List.length_pos_of_mem (List.mem_filter.mpr ⟨hx,h⟩)
def gA (ks:List Kd) (H:Hp) (i:Nat) (a:Addr):Int×Int:=match H a with
 | some (.tup [.int k,.bl c,.int x,.int y])=>(match ks[k.toNat]? with
  | some kd=>if i=0 then (x,x + sd1 kd c) else (y,y + sd2 kd c)
  | none=>(0,1))
 | _=>(0,1)
theorem fP {ks:List Kd} {H:Hp} {a:Addr} {p:Pq} {k:Kd} (h:H a=some (.tup (pqV p))) (hk:ks[p.k]? = some k) (i:Nat):gA ks H i a=if i=0 then (p.x,p.x + sd1 k p.c) else (p.y,p.y + sd2 k p.c):=by
 unfold gA
 rw [h]
 show (match ks[(p.k:Int).toNat]? with
  | some kd=>if i=0 then (p.x,p.x + sd1 kd p.c) else (p.y,p.y + sd2 kd p.c)
  | none=>(0,1))=_
 rw [Int.toNat_natCast,hk]
def pc (ks:List Kd) (H:Hp) (a:Addr):Bx:=⟨(gA ks H 0 a).1,(gA ks H 1 a).1,(gA ks H 0 a).2,(gA ks H 1 a).2⟩
theorem pe {ks:List Kd} {H:Hp} {a:Addr} {p:Pq} {k:Kd} (h:H a=some (.tup (pqV p))) (hk:ks[p.k]? = some k):pc ks H a=lp k p:=by
 unfold pc
 rw [fP h hk,fP h hk]
 rfl
theorem dE {f g:Addr→Bool}:∀ {as ss:List Addr},as.length=ss.length→(∀ (j:Nat) (a s:Addr),as[j]? = some a→ss[j]? = some s→g s=f a)→((as.zip ss).filter fun z=>g z.2).map (·.1)=as.filter f
 | [],_,_,_=>by simp
 | a :: as,[],h,_=>by cases h
 | a :: as,s :: ss,h,e=>by
  have ih:=dE (f:=f) (g:=g) (as:=as) (ss:=ss) (by simpa using h) fun j a s h1 h2=>e (j + 1) a s (by simpa using h1) (by simpa using h2)
  have e0:=e 0 a s rfl rfl
  rw [List.zip_cons_cons,List.filter_cons,List.filter_cons]
  show (if g s=true then _ else _:List (Addr×Addr)).map (·.1)=_
  rw [e0]
  cases f a
  ·exact ih
  ·show a :: _=a :: _
   rw [ih]
section
variable {P:Program} {w:World} {K:PySem.W.Frag} {mg:Str→Option Value} {base:Heap}
def gY (C:Addr):Sp:=fun vs H Q _=>∃ (s l:Addr) (b:Int) (ks:List Kd) (as:List Addr),vs=[.ref s,.ref l]∧ShopAt C H s b ks∧0≤b∧(∀k∈ks,Good k)∧H l=some (.lst (as.map V.ref))∧(∀a∈as,PzP ks H a)∧2≤as.length∧as.length < 64 ∧
 (∀H', Same H H'→(∀i < 2, ∀r, ¬ Pts b as (gA ks H i) r)→Q .non H')∧∀ (t la lb:Addr) (i:Nat) (r:Int) (H':Hp), i < 2→H' t=some (.tup [.str (if i=0 then "down" else "across"), .int r, .ref la, .ref lb])→H' la=some (.lst ((as.filter fun a=>decide ((gA ks H i a).2≤r)).map V.ref))→H' lb=some (.lst ((as.filter fun a=>decide (r < (gA ks H i a).2)).map V.ref))→Pts b as (gA ks H i) r→Same H H'→Q (.ref t) H'
theorem scpcut:FnScope ["shop","pieces","spans","axis","way","place","ahead","behind"] ["shop","pieces"] (defScope aY):=⟨rfl,rfl,rfl,by decide +kernel,rfl,by decide +kernel,by decide +kernel⟩
set_option maxHeartbeats 1000000 in
theorem pf {f C wa:Addr} {fd:FuncData} (F:Fun K "parting_cut" "parting_cut" aY f fd) (B:Blt mg) (T:ShopTxt K C) (wy:mg "WAYS" = some (.ref wa)) (wq:∀H,SqT K H wa [.str "down",.str "across"]) (MB:Mn P w K mg base C "blade" ["self"] 1 (dQ C)) (DSn:Dn P w K mg base "spans_of" ["shop","piece"] 4 (fb C)) (DPp:Dn P w K mg base "parting_place" ["blade","spans"] 1 (gW)):FnOk P w K mg base CX0 5 f fd ["shop","pieces"] (gY C):=by
 refine F.ok scpcut (fun vs H Q E h=>?_) (fun cdv A outer s H vs Q E hr h=>?_)
 ·obtain ⟨s,l,b,ks,as,rfl,_⟩:=h
  rfl
 obtain ⟨s,l,b,ks,as,rfl,S0,b0,gk,hl,hp,l2,l64,q1',q2'⟩:=h
 have nd:=scpcut.nd
 refine ⟨_,(@af _ _ _ _ _ (cz (i:=2) (own:=["piece"]) (cs:=["shop"]) (cap:=[0]) rfl nd rfl rfl rfl (bc (pv 1)) (aL (sc:=defScope aY) (N:=["shop","pieces","spans","axis","way","place","ahead","behind"]) rfl rfl (by decide +kernel)) (fun _ _ _ _ _=>av (i:=0) (by show List.Nodup (["piece","shop"]:List Str) ; decide +kernel) rfl (Or.inl rfl) (Or.inr rfl)) (fun _ _ _ _ _=>aT) (fun _ _ _ _ _=>(@aw _ _ _ _ _ _ _ _ _ _ DSn hr rfl (@aa _ _ _ _ _ (pv 1) (@aa _ _ _ _ _ (pv 0) ab rfl) rfl) (by decide) rfl rfl))) (@af _ _ _ _ _ (@cf _ _ _ _ _ _ _ _ PassesOwn.never rfl (mT rfl B.enumerate (@aa _ _ _ _ _ (bm (v:=.ref wa) rfl wy rfl) ab rfl)) (br rfl (ay (av (i:=3) nd rfl (Or.inr rfl)) (ay (av (i:=4) nd rfl (Or.inl rfl)) aX))) (@af _ _ _ _ _ (@aD _ _ 5 _ _ _ _ nd rfl (Or.inr rfl) (@aw _ _ _ _ _ _ _ _ _ _ DPp (hr.mono (by decide)) rfl (@aa _ _ _ _ _ (mP (pv 0) T.cl MB (hr.mono (by decide))) (@aa _ _ _ _ _ (bS (own:=["both"]) (cs:=["axis"]) (cap:=[3]) rfl (bc (pv 2)) (aL (sc:=defScope aY) (N:=["shop","pieces","spans","axis","way","place","ahead","behind"]) rfl rfl (by decide +kernel)) (fun _ _ _ _ _=>av (i:=0) (by show List.Nodup (["both","axis"]:List Str) ; decide +kernel) rfl (Or.inl rfl) (Or.inr rfl)) (fun _ _ _ _ _=>aT) (fun _ _ _ _ _=>(ar (r:=cO K) ix_tup (pv 0) (pv 1) (fun _ _=>rfl)))) ab rfl) rfl) (by decide) rfl rfl) rfl (Or.inl rfl)) (@ai _ _ _ (@aS _ _ _ _ _ _ _ _ (@aI _ _ _ _ _ _ _ _ oq (pv 5) gC (aG _)) (@af _ _ _ _ _ (cz (i:=6) (own:=["piece","both"]) (cs:=["axis","place"]) (cap:=[3,5]) rfl nd rfl rfl rfl (ji rfl B.zip (@aa _ _ _ _ _ (pv 1) (@aa _ _ _ _ _ (pv 2) ab rfl) rfl)) (aL (sc:=defScope aY) (N:=["shop","pieces","spans","axis","way","place","ahead","behind"]) rfl rfl (by decide +kernel)) (fun _ _ _ _ _=>jo K rfl rfl (by show List.Nodup (["piece","both","axis","place"]:List Str) ; decide +kernel) rfl rfl rfl rfl) (fun _ _ _ _ _=>(ft (@aI _ _ _ _ _ _ _ _ dL (ar (r:=cO K) ix_tup (ar (r:=cO K) ix_tup (pv 1) (pv 2) (fun _ _=>rfl)) ae (fun _ _=>rfl)) (pv 3) (aG _)))) (fun _ _ _ _ _=>(pv 0))) (@af _ _ _ _ _ (cz (i:=7) (own:=["piece","both"]) (cs:=["axis","place"]) (cap:=[3,5]) rfl nd rfl rfl rfl (ji rfl B.zip (@aa _ _ _ _ _ (pv 1) (@aa _ _ _ _ _ (pv 2) ab rfl) rfl)) (aL (sc:=defScope aY) (N:=["shop","pieces","spans","axis","way","place","ahead","behind"]) rfl rfl (by decide +kernel)) (fun _ _ _ _ _=>jo K rfl rfl (by show List.Nodup (["piece","both","axis","place"]:List Str) ; decide +kernel) rfl rfl rfl rfl) (fun _ _ _ _ _=>(ft (@aI _ _ _ _ _ _ _ _ fY (ar (r:=cO K) ix_tup (ar (r:=cO K) ix_tup (pv 1) (pv 2) (fun _ _=>rfl)) ae (fun _ _=>rfl)) (pv 3) (aG _)))) (fun _ _ _ _ _=>(pv 0))) (@ai _ _ _ (@aA _ _ _ _ (@aN _ _ _ _ _ (@aa _ _ _ _ _ (pv 4) (@aa _ _ _ _ _ (pv 5) (@aa _ _ _ _ _ (pv 6) (@aa _ _ _ _ _ (pv 7) ab rfl) rfl) rfl) rfl)))))) aF))) (by intro _; rfl)) (@ai _ _ _ (@aA _ _ _ _ gC)))),?_⟩
 have sz:(1000:Nat) < sizeLine:=by decide
 obtain ⟨dx,r0,rs,h1,h2,h3⟩:=id S0
 refine au (fun σ' H'=>∃ (sl:Addr) (ss:List Addr) (gs:List Bx),σ'=[some (.ref s),some (.ref l),some (.ref sl),none,none,none,none,none]∧H' sl=some (.lst (ss.map V.ref))∧Paired (SpA H') ss gs∧(∀g∈gs,g.a < g.c∧g.b < g.d)∧gs=as.map (pc ks H)∧Same H H') (fun R hR=>?_) ?_
 ·refine ⟨_,rfl,l,rfl,⟨_,SqL.of hl⟩,(bg (K:=K) (.inl hl) (fun i us Hx=>Same H Hx∧∃ (ss:List Addr) (gs:List Bx),us=ss.map V.ref∧Paired (SpA Hx) ss gs∧(∀g∈gs,g.a < g.c∧g.b < g.d)∧gs=(as.take i).map (pc ks H)) (fun i us Hx _ ⟨sx,_⟩ o e=>sx _ _ e) ⟨Same.refl _,[],[],rfl,.nil,fun g hg=>by simp at hg,rfl⟩ ?_ ?_).1 hl⟩
  ·rintro i x us Hx hi ⟨sx,ss,gs,rfl,pg,hgs,gl⟩
   have hin:i < (as.map V.ref).length:=(List.getElem?_eq_some_iff.mp hi).1
   rw [List.getElem?_map] at hi
   obtain ⟨a,ha,rfl⟩:=Option.map_eq_some_iff.mp hi
   obtain ⟨p,k,e1,e2,e3⟩:=hp a (List.mem_of_getElem? ha)
   have g0:=gk k (List.mem_of_getElem? e3)
   have sl:=Paired.length pg
   rw [List.length_map] at hin
   have gll:gs.length=i:=by rw [gl,List.length_map,List.length_take]; omega
   refine ⟨by rw [List.length_map]; omega,leS.set rfl,aU ?_⟩
   refine ⟨_,rfl,_,rfl,s,a,b,ks,p,k,rfl,cN sx S0,.inr (sx _ _ e1),e2,e3,fun r r1 r2 H3 f1 f2 f3 s3=>Nx.of (by rw [List.length_map]; exact hin) ⟨sx.trans s3,ss ++ [r],gs ++ [lp k p],by rw [List.map_append]; rfl,cP (Paired.mapP pg fun v g h=>h.same s3) (.cons ⟨r1,r2,f1,f2,f3⟩ .nil),fun g hg=>?_,by rw [gl,List.take_add_one,ha,List.map_append,← pe e1 e3]; rfl⟩⟩
   rcases List.mem_append.mp hg with hg | hg
   ·exact hgs g hg
   ·rw [List.mem_singleton.mp hg]
    have w1:=g0.w; have w2:=g0.h
    constructor
    ·show p.x < p.x + sd1 k p.c
     unfold sd1; split <;> omega
    ·show p.y < p.y + sd2 k p.c
     unfold sd2; split <;> omega
  ·rintro us Hx ⟨sx,ss,gs,rfl,pg,hgs,gl⟩
   have sl:=Paired.length pg
   rw [List.length_map,List.take_length] at gl
   have gll:gs.length=as.length:=by rw [gl,List.length_map]
   refine ⟨by rw [List.length_map]; omega,fun lo hlo=>?_⟩
   obtain ⟨Hy,e1,k1,s1⟩:∃H',upd Hx lo (.lst (ss.map V.ref))=H'∧H' lo=some (.lst (ss.map V.ref))∧Same Hx H':=⟨_,rfl,ah,Same.new hlo⟩
   rw [show upd Hx lo _=Hy from e1]
   exact hR _ _ ⟨lo,ss,gs,rfl,k1,Paired.mapP pg fun v g h=>h.same s1,hgs,gl,sx.trans s1⟩
 rintro _ H2 ⟨sl,ss,gs,rfl,hsl,pg,hgs,gl,s02⟩
 have ssl:=Paired.length pg
 have gll:gs.length=as.length:=by rw [gl,List.length_map]
 have asl:as.length=ss.length:=by omega
 have axf:∀ (i:Nat) (sp:Addr),sp∈ss→∃x y,H2 (axA H2 i sp)=some (.tup [.int x,.int y])∧ivA H2 (axA H2 i sp)=(x,y)∧x < y:=fun i sp hsp=>by
  obtain ⟨j,hj,e⟩:=List.getElem_of_mem hsp
  obtain ⟨g,hg,h⟩:=Paired.getR pg (show ss[j]? = some sp by rw [List.getElem?_eq_getElem hj,e])
  exact h.ax (hgs g (List.mem_of_getElem? hg)) i
 have axt:∀ (i:Nat) (sp:Addr),i < 2→sp∈ss→∃r1 r2:Addr,H2 sp=some (.tup [.ref r1,.ref r2])∧atI [V.ref r1,V.ref r2] (i:Int)=some (.ref (axA H2 i sp)):=fun i sp hi hsp=>by
  obtain ⟨j,hj,e⟩:=List.getElem_of_mem hsp
  obtain ⟨g,hg,r1,r2,f1,_⟩:=Paired.getR pg (show ss[j]? = some sp by rw [List.getElem?_eq_getElem hj,e])
  refine ⟨r1,r2,f1,?_⟩
  rw [jB f1]
  match i,hi with
  | 0,_=>rfl
  | 1,_=>rfl
 have link:∀ (i j:Nat) (a sp:Addr),i < 2→as[j]? = some a→ss[j]? = some sp→ivA H2 (axA H2 i sp)=gA ks H i a:=fun i j a sp hi ha hsp=>by
  obtain ⟨g,hg,r1,r2,f1,f2,f3⟩:=Paired.getR pg hsp
  rw [gl,List.getElem?_map,ha] at hg
  cases hg
  rw [jB f1]
  match i,hi with
  | 0,_=>exact gX f2
  | 1,_=>exact gX f3
 have pif:∀ (i:Nat) (r:Int),i < 2→(Pts b (ss.map (axA H2 i)) (ivA H2) r↔Pts b as (gA ks H i) r):=fun i r hi=>by
  have m1:∀a∈as,∃c∈ss.map (axA H2 i),ivA H2 c=gA ks H i a:=fun a ha=>by
   obtain ⟨j,hj⟩:=List.mem_iff_getElem?.mp ha
   have hjl:=(List.getElem?_eq_some_iff.mp hj).1
   exact ⟨_,List.mem_map.mpr ⟨_,List.getElem_mem (show j < ss.length by omega),rfl⟩,link i j a _ hi hj (List.getElem?_eq_getElem (by omega))⟩
  have m2:∀c∈ss.map (axA H2 i),∃a∈as,ivA H2 c=gA ks H i a:=fun c hc=>by
   obtain ⟨sp,hsp,rfl⟩:=List.mem_map.mp hc
   obtain ⟨j,hj⟩:=List.mem_iff_getElem?.mp hsp
   have hjl:=(List.getElem?_eq_some_iff.mp hj).1
   exact ⟨_,List.getElem_mem (show j < as.length by omega),link i j _ sp hi (List.getElem?_eq_getElem (by omega)) hj⟩
  constructor
  ·rintro ⟨⟨c,hc,h1⟩,⟨d,hd,h2⟩,h3⟩
   obtain ⟨a,ha,e⟩:=m2 c hc
   obtain ⟨a',ha',e'⟩:=m2 d hd
   refine ⟨⟨a,ha,by rw [← e]; exact h1⟩,⟨a',ha',by rw [← e']; exact h2⟩,fun x hx=>?_⟩
   obtain ⟨y,hy,e⟩:=m1 x hx
   rw [← e]; exact h3 y hy
  ·rintro ⟨⟨c,hc,h1⟩,⟨d,hd,h2⟩,h3⟩
   obtain ⟨a,ha,e⟩:=m1 c hc
   obtain ⟨a',ha',e'⟩:=m1 d hd
   refine ⟨⟨a,ha,by rw [e]; exact h1⟩,⟨a',ha',by rw [e']; exact h2⟩,fun x hx=>?_⟩
   obtain ⟨y,hy,e⟩:=m2 x hx
   rw [e]; exact h3 y hy
 refine au (fun σ' H'=>(∃v3 v4 v5 v6 v7:Option V,σ'=[some (.ref s),some (.ref l),some (.ref sl),v3,v4,v5,v6,v7])∧Same H2 H'∧∀i < 2,∀r,¬ Pts b as (gA ks H i) r) (fun R hR=>?_) ?_
 ·refine ⟨wa, _, rfl, wq _, lf (K:=K) (l:=wa) (xs:=[.str "down", .str "across"]) (fun i σ' H'=>(∃v3 v4 v5 v6 v7:Option V, σ'=[some (.ref s), some (.ref l), some (.ref sl), v3, v4, v5, v6, v7])∧Same H2 H'∧∀i' < i, ∀r, ¬ Pts b as (gA ks H i') r) ⟨⟨_, _, _, _, _, rfl⟩, Same.refl _, fun i' h=>absurd h (Nat.not_lt_zero _)⟩ (fun i σ Hx _=>wq Hx) ?_ (fun σ Hx h=>hR _ _ h)⟩
  rintro i x pt σ Hx hi hpt ⟨⟨v3,v4,v5,v6,v7,rfl⟩,sx,nop⟩
  have i2:i < 2:=(List.getElem?_eq_some_iff.mp hi).1
  obtain ⟨wy,rfl,ewy⟩:∃wy:Str,x=.str wy∧wy=(if i=0 then ("down" : Str) else ("across" : Str)):=by
   match i,i2,hi with
   | 0,_,hi=>exact ⟨_,(Option.some.inj hi).symm,rfl⟩
   | 1,_,hi=>exact ⟨_,(Option.some.inj hi).symm,rfl⟩
  obtain ⟨Hy,e3,k3,s3⟩:∃H',upd Hx pt (.tup [.int i,.str wy])=H'∧H' pt=some (.tup [.int i,.str wy])∧Same Hx H':=⟨_,rfl,ah,Same.new hpt⟩
  rw [show upd Hx pt _=Hy from e3]
  have s2y:=sx.trans s3
  refine ⟨pt,_,rfl,SqT.of k3,rfl,_,_,rfl,_,_,rfl,rfl,?_⟩
  refine au (fun σ' H'=>∃pv:V,σ'=[some (.ref s),some (.ref l),some (.ref sl),some (.int i),some (.str wy),some pv,v6,v7]∧((pv=.non∧∀r,¬ Pts b as (gA ks H i) r)∨∃r,pv=.int r∧Pts b as (gA ks H i) r)∧Same H2 H') (fun R hR=>?_) ?_
  ·refine ⟨_,rfl,s,dx,_,rfl,s2y _ _ (s02 _ _ h1),df _ _ (by decide +kernel) (by decide +kernel),s,b,ks,rfl,cN (s02.trans s2y) S0,_,rfl,sl,rfl,⟨_,SqL.of (s2y _ _ hsl)⟩,(bg (K:=K) (.inl (s2y _ _ hsl)) (fun j us Hz=>Same Hy Hz∧us=((ss.take j).map (axA H2 i)).map V.ref) (fun j us Hz _ ⟨sz,_⟩ o e=>sz _ _ e) ⟨Same.refl _,rfl⟩ ?_ ?_).1 (s2y _ _ hsl)⟩
   ·rintro j x us Hz hj ⟨syz,rfl⟩
    have hjn:j < (ss.map V.ref).length:=(List.getElem?_eq_some_iff.mp hj).1
    rw [List.getElem?_map] at hj
    obtain ⟨sp,hsp,rfl⟩:=Option.map_eq_some_iff.mp hj
    obtain ⟨r1,r2,f1,f2⟩:=axt i sp i2 (List.mem_of_getElem? hsp)
    rw [List.length_map] at hjn
    refine ⟨by rw [List.length_map,List.length_map,List.length_take]; omega,leS.set rfl,aU ?_⟩
    refine ⟨_,rfl,_,rfl,sp,_,_,_,rfl,rfl,SqT.of (syz _ _ (s2y _ _ f1)),f2,Nx.of (by rw [List.length_map]; exact hjn) ⟨syz,?_⟩⟩
    rw [List.take_add_one,hsp]
    simp only [Option.toList_some,List.map_append,List.map_cons,List.map_nil]
   ·rintro us Hz ⟨syz,rfl⟩
    rw [show (ss.map V.ref).length=ss.length from List.length_map _,List.take_length]
    refine ⟨by rw [List.length_map,List.length_map]; omega,fun lo hlo=>?_⟩
    obtain ⟨Hw,e4,k4,s4⟩:∃H',upd Hz lo (.lst ((ss.map (axA H2 i)).map V.ref))=H'∧H' lo=some (.lst ((ss.map (axA H2 i)).map V.ref))∧Same Hz H':=⟨_,rfl,ah,Same.new hlo⟩
    rw [show upd Hz lo _=Hw from e4]
    have s2w:=s2y.trans (syz.trans s4)
    refine ⟨b,lo,ss.map (axA H2 i),ivA H2,rfl,b0,k4,fun z=>?_,by rw [List.length_map]; omega,fun a ha=>?_,fun a ha=>?_,fun H' s'=>⟨fun no=>hR _ _ ⟨.non,rfl,.inl ⟨rfl,fun r hr=>no r ((pif i r i2).mpr hr)⟩,s2w.trans s'⟩,fun r hr=>hR _ _ ⟨.int r,rfl,.inr ⟨r,rfl,(pif i r i2).mp hr⟩,s2w.trans s'⟩⟩⟩
    ·have z0:=congrArg List.length z
     rw [List.length_map] at z0
     have z0:ss.length=0:=z0
     omega
    ·obtain ⟨sp,hsp,rfl⟩:=List.mem_map.mp ha
     obtain ⟨x,y,f1,f2,f3⟩:=axf i sp hsp
     rw [f2]; exact f3
    ·obtain ⟨sp,hsp,rfl⟩:=List.mem_map.mp ha
     obtain ⟨x,y,f1,f2,_⟩:=axf i sp hsp
     rw [f2]; exact s2w _ _ f1
  rintro _ H4 ⟨pv,rfl,hpv,s24⟩
  refine ⟨_,rfl,rfl,_,rfl,?_⟩
  rcases hpv with ⟨rfl,npi⟩ | ⟨r,rfl,hpts⟩
  ·refine bh ⟨⟨_,_,_,_,_,rfl⟩,s24,fun i' hi'=>?_⟩
   rcases Nat.lt_or_eq_of_le (Nat.le_of_lt_succ hi') with h | rfl
   ·exact nop i' h
   ·exact npi
  refine bu ?_
  have s04:=s02.trans s24
  refine au (fun σ' H'=>∃la:Addr,σ'=[some (.ref s),some (.ref l),some (.ref sl),some (.int i),some (.str wy),some (.int r),some (.ref la),v7]∧H' la=some (.lst ((((as.zip ss).filter fun z=>decide ((ivA H2 (axA H2 i z.2)).2≤r)).map (·.1)).map V.ref))∧Same H4 H') (fun R hR=>?_) ?_
  ·refine ⟨_,rfl,_,rfl,l,sl,_,_,rfl,s04 _ _ hl,s24 _ _ hsl,iC (xs:=as.map V.ref) (ys:=ss.map V.ref) (fun j zs Hz=>Same H4 Hz∧zs=((((as.zip ss).take j).filter fun z=>decide ((ivA H2 (axA H2 i z.2)).2≤r)).map (·.1)).map V.ref) (by rw [List.length_map,List.length_map,asl]) (fun j zs Hz ⟨sz,_⟩=>⟨sz _ _ (s04 _ _ hl),sz _ _ (s24 _ _ hsl)⟩) ⟨Same.refl _,rfl⟩ (fun j zs Hz hj ⟨_,e⟩=>?_) ?_ ?_⟩
   ·rw [e,List.length_map,List.length_map]
    refine Nat.lt_of_le_of_lt (List.length_filter_le _ _) ?_
    rw [List.length_take,List.length_zip]; omega
   ·rintro j x y tz zs Hz hx hy htz ⟨sz,rfl⟩
    rw [List.getElem?_map] at hx hy
    obtain ⟨a,ha,rfl⟩:=Option.map_eq_some_iff.mp hx
    obtain ⟨sp,hsp,rfl⟩:=Option.map_eq_some_iff.mp hy
    have hjn:j < as.length:=(List.getElem?_eq_some_iff.mp ha).1
    obtain ⟨r1,r2,f1,f2⟩:=axt i sp i2 (List.mem_of_getElem? hsp)
    obtain ⟨xx,yy,f3,f4,_⟩:=axf i sp (List.mem_of_getElem? hsp)
    obtain ⟨Hw,e8,k8,s8⟩:∃H',upd Hz tz (.tup [.ref a,.ref sp])=H'∧H' tz=some (.tup [.ref a,.ref sp])∧Same Hz H':=⟨_,rfl,ah,Same.new htz⟩
    rw [show upd Hz tz _=Hw from e8]
    have szw:=sz.trans s8
    refine ⟨tz,_,rfl,SqT.of k8,rfl,_,_,rfl,_,_,rfl,rfl,qS (leS.set rfl) (leS.set rfl),?_⟩
    refine ⟨_,rfl,_,rfl,sp,_,_,_,rfl,rfl,SqT.of (szw _ _ (s24 _ _ f1)),f2,_,_,1,_,rfl,rfl,SqT.of (szw _ _ (s24 _ _ f3)),rfl,_,rfl,_,_,rfl,rfl,_,rfl,?_⟩
    have hzz:(as.zip ss)[j]? = some (a,sp):=List.getElem?_zip_eq_some.mpr ⟨ha,hsp⟩
    have ey:(ivA H2 (axA H2 i sp)).2=yy:=by rw [f4]
    have nx:∀us:List V,us=(((((as.zip ss).take (j + 1)).filter fun z=>decide ((ivA H2 (axA H2 i z.2)).2≤r)).map (·.1)).map V.ref)→Nx (as.map V.ref).length (fun j zs Hz=>Same H4 Hz∧zs=((((as.zip ss).take j).filter fun z=>decide ((ivA H2 (axA H2 i z.2)).2≤r)).map (·.1)).map V.ref) j us Hw:=fun us e=>Nx.of (by rw [List.length_map]; exact hjn) ⟨szw,e⟩
    rw [List.take_add_one,hzz,Option.toList_some,List.filter_append] at nx
    refine bE (fun cc=>?_) (fun cc=>?_)
    ·refine ⟨_,rfl,nx _ ?_⟩
     rw [show [(a,sp)].filter (fun z:Addr×Addr=>decide ((ivA H2 (axA H2 i z.2)).2≤r))=[(a,sp)] by rw [List.filter_cons_of_pos (by show decide _=true; rw [ey]; exact cc)]; rfl,List.map_append,List.map_append]
     rfl
    ·refine nx _ ?_
     rw [show [(a,sp)].filter (fun z:Addr×Addr=>decide ((ivA H2 (axA H2 i z.2)).2≤r))=[] by rw [List.filter_cons_of_neg (by show ¬ decide _=true; rw [ey]; exact cc)]; rfl,List.append_nil]
   ·rintro zs Hz ⟨sz,rfl⟩
    rw [show (as.map V.ref).length=(as.zip ss).length by rw [List.length_map,List.length_zip]; omega,List.take_length]
    refine ⟨by rw [List.length_map,List.length_map]; exact Nat.le_trans (List.length_filter_le _ _) (by rw [List.length_zip]; omega),fun lo hlo=>?_⟩
    obtain ⟨Hw,e9,k9,s9⟩:∃H',upd Hz lo (.lst ((((as.zip ss).filter fun z=>decide ((ivA H2 (axA H2 i z.2)).2≤r)).map (·.1)).map V.ref))=H'∧H' lo=some (.lst ((((as.zip ss).filter fun z=>decide ((ivA H2 (axA H2 i z.2)).2≤r)).map (·.1)).map V.ref))∧Same Hz H':=⟨_,rfl,ah,Same.new hlo⟩
    rw [show upd Hz lo _=Hw from e9]
    exact hR _ _ ⟨lo,rfl,k9,sz.trans s9⟩
  rintro _ H5 ⟨la,rfl,hla,s45⟩
  refine au (fun σ' H'=>∃lb:Addr,σ'=[some (.ref s),some (.ref l),some (.ref sl),some (.int i),some (.str wy),some (.int r),some (.ref la),some (.ref lb)]∧H' lb=some (.lst ((((as.zip ss).filter fun z=>decide (r < (ivA H2 (axA H2 i z.2)).2)).map (·.1)).map V.ref))∧Same H5 H') (fun R hR=>?_) ?_
  ·refine ⟨_,rfl,_,rfl,l,sl,_,_,rfl,(s04.trans s45) _ _ hl,(s24.trans s45) _ _ hsl,iC (xs:=as.map V.ref) (ys:=ss.map V.ref) (fun j zs Hz=>Same H5 Hz∧zs=((((as.zip ss).take j).filter fun z=>decide (r < (ivA H2 (axA H2 i z.2)).2)).map (·.1)).map V.ref) (by rw [List.length_map,List.length_map,asl]) (fun j zs Hz ⟨sz,_⟩=>⟨sz _ _ ((s04.trans s45) _ _ hl),sz _ _ ((s24.trans s45) _ _ hsl)⟩) ⟨Same.refl _,rfl⟩ (fun j zs Hz hj ⟨_,e⟩=>?_) ?_ ?_⟩
   ·rw [e,List.length_map,List.length_map]
    refine Nat.lt_of_le_of_lt (List.length_filter_le _ _) ?_
    rw [List.length_take,List.length_zip]; omega
   ·rintro j x y tz zs Hz hx hy htz ⟨sz,rfl⟩
    rw [List.getElem?_map] at hx hy
    obtain ⟨a,ha,rfl⟩:=Option.map_eq_some_iff.mp hx
    obtain ⟨sp,hsp,rfl⟩:=Option.map_eq_some_iff.mp hy
    have hjn:j < as.length:=(List.getElem?_eq_some_iff.mp ha).1
    obtain ⟨r1,r2,f1,f2⟩:=axt i sp i2 (List.mem_of_getElem? hsp)
    obtain ⟨xx,yy,f3,f4,_⟩:=axf i sp (List.mem_of_getElem? hsp)
    obtain ⟨Hw,e8,k8,s8⟩:∃H',upd Hz tz (.tup [.ref a,.ref sp])=H'∧H' tz=some (.tup [.ref a,.ref sp])∧Same Hz H':=⟨_,rfl,ah,Same.new htz⟩
    rw [show upd Hz tz _=Hw from e8]
    have szw:=sz.trans s8
    refine ⟨tz,_,rfl,SqT.of k8,rfl,_,_,rfl,_,_,rfl,rfl,qS (leS.set rfl) (leS.set rfl),?_⟩
    refine ⟨_,rfl,_,rfl,sp,_,_,_,rfl,rfl,SqT.of (szw _ _ ((s24.trans s45) _ _ f1)),f2,_,_,1,_,rfl,rfl,SqT.of (szw _ _ ((s24.trans s45) _ _ f3)),rfl,_,rfl,_,_,rfl,rfl,_,rfl,?_⟩
    have hzz:(as.zip ss)[j]? = some (a,sp):=List.getElem?_zip_eq_some.mpr ⟨ha,hsp⟩
    have ey:(ivA H2 (axA H2 i sp)).2=yy:=by rw [f4]
    have nx:∀us:List V,us=(((((as.zip ss).take (j + 1)).filter fun z=>decide (r < (ivA H2 (axA H2 i z.2)).2)).map (·.1)).map V.ref)→Nx (as.map V.ref).length (fun j zs Hz=>Same H5 Hz∧zs=((((as.zip ss).take j).filter fun z=>decide (r < (ivA H2 (axA H2 i z.2)).2)).map (·.1)).map V.ref) j us Hw:=fun us e=>Nx.of (by rw [List.length_map]; exact hjn) ⟨szw,e⟩
    rw [List.take_add_one,hzz,Option.toList_some,List.filter_append] at nx
    refine bE (fun cc=>?_) (fun cc=>?_)
    ·refine ⟨_,rfl,nx _ ?_⟩
     rw [show [(a,sp)].filter (fun z:Addr×Addr=>decide (r < (ivA H2 (axA H2 i z.2)).2))=[(a,sp)] by rw [List.filter_cons_of_pos (by show decide _=true; rw [ey]; exact cc)]; rfl,List.map_append,List.map_append]
     rfl
    ·refine nx _ ?_
     rw [show [(a,sp)].filter (fun z:Addr×Addr=>decide (r < (ivA H2 (axA H2 i z.2)).2))=[] by rw [List.filter_cons_of_neg (by show ¬ decide _=true; rw [ey]; exact cc)]; rfl,List.append_nil]
   ·rintro zs Hz ⟨sz,rfl⟩
    rw [show (as.map V.ref).length=(as.zip ss).length by rw [List.length_map,List.length_zip]; omega,List.take_length]
    refine ⟨by rw [List.length_map,List.length_map]; exact Nat.le_trans (List.length_filter_le _ _) (by rw [List.length_zip]; omega),fun lo hlo=>?_⟩
    obtain ⟨Hw,e9,k9,s9⟩:∃H',upd Hz lo (.lst ((((as.zip ss).filter fun z=>decide (r < (ivA H2 (axA H2 i z.2)).2)).map (·.1)).map V.ref))=H'∧H' lo=some (.lst ((((as.zip ss).filter fun z=>decide (r < (ivA H2 (axA H2 i z.2)).2)).map (·.1)).map V.ref))∧Same Hz H':=⟨_,rfl,ah,Same.new hlo⟩
    rw [show upd Hz lo _=Hw from e9]
    exact hR _ _ ⟨lo,rfl,k9,sz.trans s9⟩
  rintro _ H6 ⟨lb,rfl,hlb,s56⟩
  refine ⟨_,rfl,_,rfl,_,rfl,_,rfl,(by show 4≤sizeLine; decide),fun t ht=>?_⟩
  obtain ⟨H7,e7,k7,s7⟩:∃H',upd H6 t (.tup [.str wy,.int r,.ref la,.ref lb])=H'∧H' t=some (.tup [.str wy,.int r,.ref la,.ref lb])∧Same H6 H':=⟨_,rfl,ah,Same.new ht⟩
  rw [show upd H6 t _=H7 from e7]
  have f1:=dE (f:=fun a=>decide ((gA ks H i a).2≤r)) (g:=fun s=>decide ((ivA H2 (axA H2 i s)).2≤r)) asl fun j a s ha hs=>by
   show decide _=decide _
   rw [link i j a s i2 ha hs]
  have f2:=dE (f:=fun a=>decide (r < (gA ks H i a).2)) (g:=fun s=>decide (r < (ivA H2 (axA H2 i s)).2)) asl fun j a s ha hs=>by
   show decide _=decide _
   rw [link i j a s i2 ha hs]
  have hla':=s7 _ _ (s56 _ _ hla)
  have hlb':=s7 _ _ hlb
  rw [f1] at hla'
  rw [f2] at hlb'
  rw [ewy] at k7
  exact q2' t la lb i r H7 i2 k7 hla' hlb' hpts (s04.trans (s45.trans (s56.trans s7)))
 rintro _ H3 ⟨⟨v3,v4,v5,v6,v7,rfl⟩,s23,nop⟩
 exact q1' H3 (s02.trans s23) nop
end
def qT (H:Hp) (a:Addr):List Int:=match H a with
 | some (.tup [.int i,.bl c,.int x,.int y])=>[i,if c=true then 1 else 0,x,y]
 | _=>[]
theorem ph {H:Hp} {a:Addr} {p:Pq} (h:H a=some (.tup (pqV p))):qT H a=[(p.k:Int),if p.c=true then 1 else 0,p.x,p.y]:=by
 unfold qT
 rw [h]
 rfl
def Kn2 (b:Int) (g:Nat→Addr→Int×Int) (L:List Addr):Prop:=2≤L.length∧∀i < 2,∀r,¬ Pts b L (g i) r
def KT (b:Int) (g:Nat→Addr→Int×Int) (as:List Addr) (z:Str):Prop:=(z = "knot" ∧ ∃L,L.Sublist as∧Kn2 b g L)∨(z = "tree" ∧ ∀L,L.Sublist as→¬ Kn2 b g L)
theorem Kn2.congr {b:Int} {g g':Nat→Addr→Int×Int} {L:List Addr} (e:∀a∈L,∀i,g i a=g' i a) (h:Kn2 b g L):Kn2 b g' L:=by
 refine ⟨h.1,fun i hi r hp=>h.2 i hi r ?_⟩
 obtain ⟨⟨a,ha,h1⟩,⟨c,hc,h2⟩,h3⟩:=hp
 exact ⟨⟨a,ha,by rw [e a ha]; exact h1⟩,⟨c,hc,by rw [e c hc]; exact h2⟩,fun x hx=>by rw [e x hx]; exact h3 x hx⟩
theorem KT.congr {b:Int} {g g':Nat→Addr→Int×Int} {as:List Addr} {z:Str} (e:∀a∈as,∀i,g i a=g' i a) (h:KT b g as z):KT b g' as z:=by
 rcases h with ⟨hz,L,hL,hk⟩ | ⟨hz,hn⟩
 ·exact .inl ⟨hz,L,hL,hk.congr fun a ha=>e a (hL.subset ha)⟩
 ·exact .inr ⟨hz,fun L hL hk=>hn L hL (hk.congr fun a ha i=>(e a (hL.subset ha) i).symm)⟩
theorem KT.sub {b:Int} {g:Nat→Addr→Int×Int} {as as1:List Addr} {z:Str} (s:as1.Sublist as) (hz:z = "knot") (h:KT b g as1 z):KT b g as z:=by
 rcases h with ⟨_,L,hL,hk⟩ | ⟨hz',_⟩
 ·exact .inl ⟨hz,L,hL.trans s,hk⟩
 ·rw [hz] at hz'
  exact absurd hz' (by decide +kernel)
theorem KT.tree {b:Int} {g:Nat→Addr→Int×Int} {as:List Addr} {z:Str} (hz:z ≠ "knot") (h:KT b g as z):∀L,L.Sublist as→¬ Kn2 b g L:=by
 rcases h with ⟨h,_⟩ | ⟨_,h⟩
 ·exact absurd h hz
 ·exact h
theorem KT.cut {b:Int} {g:Nat→Addr→Int×Int} {as:List Addr} {i:Nat} {r:Int} (hi:i < 2) (hp:Pts b as (g i) r) (h1:∀L,L.Sublist (as.filter fun a=>decide ((g i a).2≤r))→¬ Kn2 b g L) (h2:∀L,L.Sublist (as.filter fun a=>decide (r < (g i a).2))→¬ Kn2 b g L):∀L,L.Sublist as→¬ Kn2 b g L:=fun L hL hk=>by
 by_cases a1:∃a∈L,(g i a).2≤r
 ·by_cases a2:∃a∈L,r < (g i a).2
  ·obtain ⟨c,hc,hcr⟩:=a2
   refine hk.2 i hi r ⟨a1,⟨c,hc,?_⟩,fun a ha=>hp.2.2 a (hL.subset ha)⟩
   rcases hp.2.2 c (hL.subset hc) with h | h
   ·omega
   ·exact h
  ·refine h1 L ?_ hk
   have:=hL.filter (fun a=>decide ((g i a).2≤r))
   rwa [List.filter_eq_self.mpr (fun a ha=>decide_eq_true (by
    by_cases h:(g i a).2≤r
    ·exact h
    ·exact absurd ⟨a,ha,by omega⟩ a2))] at this
 ·refine h2 L ?_ hk
  have:=hL.filter (fun a=>decide (r < (g i a).2))
  rwa [List.filter_eq_self.mpr (fun a ha=>decide_eq_true (by
   by_cases h:(g i a).2≤r
   ·exact absurd ⟨a,ha,h⟩ a1
   ·omega))] at this
theorem gZ {ks:List Kd} {H H':Hp} {a:Addr} (s:Same H H') (h:PzP ks H a) (i:Nat):gA ks H' i a=gA ks H i a:=by
 obtain ⟨p,k,h1,_,h3⟩:=h
 rw [fP h1 h3,fP (s _ _ h1) h3]
theorem uq {ks:List Kd} {H:Hp} {a:Addr} (gk:∀k∈ks,Good k) (h:PzP ks H a) (i:Nat):(gA ks H i a).1 < (gA ks H i a).2:=by
 obtain ⟨p,k,h1,_,h3⟩:=h
 have g:=gk k (List.mem_of_getElem? h3)
 have g1:=g.w
 have g2:=g.h
 rw [fP h1 h3]
 split
 ·show p.x < p.x + sd1 k p.c
  unfold sd1; split <;> omega
 ·show p.y < p.y + sd2 k p.c
  unfold sd2; split <;> omega
section
variable {P:Program} {w:World} {K:PySem.W.Frag} {mg:Str→Option Value} {base:Heap}
def cY (C:Addr) (n:Nat):Sp:=fun vs H Q _=>∃ (s l:Addr) (x y b:Int) (ks:List Kd) (as:List Addr),vs=[.ref s,.int x,.int y,.ref l]∧ShopAt C H s b ks∧0≤b∧(∀k∈ks,Good k)∧H l=some (.lst (as.map V.ref))∧(∀a∈as,PzP ks H a)∧as.length < 64∧as.length < n∧∀ (t:Addr) (z:Str) (u:V) (H':Hp),H' t=some (.tup [.str z,u])→KT b (gA ks H) as z→Same H H'→Q (.ref t) H'
theorem scpart:FnScope ["shop","x","y","pieces","cut","way","place","ahead","behind","first","step","second"] ["shop","x","y","pieces"] (defScope bj):=⟨rfl,rfl,rfl,by decide +kernel,rfl,by decide +kernel,by decide +kernel⟩
set_option maxHeartbeats 1000000 in
theorem pi {f C:Addr} {ttr tkn tdn:Tok} {fd:FuncData} (F:Fun K "part_pieces" "part_pieces" bj f fd) (n:Nat) (B:Blt mg) (T:ShopTxt K C) (htr:mg "TREE" = some (.str "tree" ttr)) (hkn:mg "KNOT" = some (.str "knot" tkn)) (hdn:mg "DOWN" = some (.str "down" tdn)) (MB:Mn P w K mg base C "blade" ["self"] 1 (dQ C)) (DLf:Dn P w K mg base "leaf_of" ["x","y","pieces"] 1 (eh)) (DCu:Dn P w K mg base "parting_cut" ["shop","pieces"] 5 (gY C)) (DPt:Dn P w K mg base "part_pieces" ["shop","x","y","pieces"] (5 + n) (cY C n)):FnOk P w K mg base CX0 (5 + (n + 1)) f fd ["shop","x","y","pieces"] (cY C (n + 1)):=by
 refine F.ok scpart (fun vs H Q E h=>?_) (fun cdv A outer s H vs Q E hr h=>?_)
 ·obtain ⟨s,l,x,y,b,ks,as,rfl,_⟩:=h
  rfl
 obtain ⟨s,l,x,y,b,ks,as,rfl,S0,b0,gk,hl,hp,l64,ln,q⟩:=h
 have nd:=scpart.nd
 refine ⟨_,(@af _ _ _ _ _ (@aS _ _ _ _ _ _ _ _ (@aI _ _ _ _ _ _ _ _ jU (@aE _ _ _ _ _ _ _ _ _ aP rfl B.len PySem.boot_len (@aa _ _ _ _ _ (pv 3) ab rfl) (by decide) (by decide) rfl rfl) ae (aG _)) (@ai _ _ _ (@aA _ _ _ _ (@aN _ _ _ _ _ (@aa _ _ _ _ _ (bm (v:=.str "tree") rfl htr ⟨ttr,rfl⟩) (@aa _ _ _ _ _ (@aw _ _ _ _ _ _ _ _ _ _ DLf (hr.mono (show 1≤5 + n by omega)) rfl (@aa _ _ _ _ _ (pv 1) (@aa _ _ _ _ _ (pv 2) (@aa _ _ _ _ _ (pv 3) ab rfl) rfl) rfl) (by decide) rfl rfl) ab rfl) rfl)))) aF) (@af _ _ _ _ _ (@aD _ _ 4 _ _ _ _ nd rfl (Or.inl rfl) (@aw _ _ _ _ _ _ _ _ _ _ DCu (hr.mono (show 5≤5 + n by omega)) rfl (@aa _ _ _ _ _ (pv 0) (@aa _ _ _ _ _ (pv 3) ab rfl) rfl) (by decide) rfl rfl) rfl (Or.inl rfl)) (@af _ _ _ _ _ (@aS _ _ _ _ _ _ _ _ (@aI _ _ _ _ _ _ _ _ qv (pv 4) gC (aG _)) (@ai _ _ _ (@aA _ _ _ _ (@aN _ _ _ _ _ (@aa _ _ _ _ _ (bm (v:=.str "knot") rfl hkn ⟨tkn,rfl⟩) (@aa _ _ _ _ _ (@aE _ _ _ _ _ _ _ _ _ dS rfl B.sorted PyProof.Rows.boot_sorted (@aa _ _ _ _ _ (pv 3) ab rfl) (by decide) (by decide) rfl rfl) ab rfl) rfl)))) aF) (@af _ _ _ _ _ (@ce _ _ _ _ _ _ (pv 4) (br rfl (ay (av (i:=5) nd rfl (Or.inl rfl)) (ay (av (i:=6) nd rfl (Or.inl rfl)) (ay (av (i:=7) nd rfl (Or.inl rfl)) (ay (av (i:=8) nd rfl (Or.inl rfl)) aX))))) rfl rfl rfl) (@af _ _ _ _ _ (@aD _ _ 9 _ _ _ _ nd rfl (Or.inl rfl) (@aw _ _ _ _ _ _ _ _ _ _ DPt hr rfl (@aa _ _ _ _ _ (pv 0) (@aa _ _ _ _ _ (pv 1) (@aa _ _ _ _ _ (pv 2) (@aa _ _ _ _ _ (pv 7) ab rfl) rfl) rfl) rfl) (by decide) rfl rfl) rfl (Or.inl rfl)) (@af _ _ _ _ _ (@aS _ _ _ _ _ _ _ _ (@aI _ _ _ _ _ _ _ _ cR (@ar _ _ _ _ _ _ _ ix_tup (pv 9) ae (fun _ _=>rfl)) (bm (v:=.str "knot") rfl hkn ⟨tkn,rfl⟩) (aG _)) (@ai _ _ _ (@aA _ _ _ _ (pv 9))) aF) (@af _ _ _ _ _ (@aD _ _ 10 _ _ _ _ nd rfl (Or.inl rfl) (@aB _ _ _ _ _ _ _ _ aJ (pv 6) (mP (pv 0) T.cl MB (hr.mono (show 1≤5 + n by omega)))) rfl (Or.inl rfl)) (@af _ _ _ _ _ (@aD _ _ 11 _ _ _ _ nd rfl (Or.inl rfl) (ij (@aI _ _ _ _ _ _ _ _ cR (pv 5) (bm (v:=.str "down") rfl hdn ⟨tdn,rfl⟩) (aG _)) (@aw _ _ _ _ _ _ _ _ _ _ DPt hr rfl (@aa _ _ _ _ _ (pv 0) (@aa _ _ _ _ _ (pv 10) (@aa _ _ _ _ _ (pv 2) (@aa _ _ _ _ _ (pv 8) ab rfl) rfl) rfl) rfl) (by decide) rfl rfl) (@aw _ _ _ _ _ _ _ _ _ _ DPt hr rfl (@aa _ _ _ _ _ (pv 0) (@aa _ _ _ _ _ (pv 1) (@aa _ _ _ _ _ (pv 10) (@aa _ _ _ _ _ (pv 8) ab rfl) rfl) rfl) rfl) (by decide) rfl rfl)) rfl (Or.inl rfl)) (@af _ _ _ _ _ (@aS _ _ _ _ _ _ _ _ (@aI _ _ _ _ _ _ _ _ cR (@ar _ _ _ _ _ _ _ ix_tup (pv 11) ae (fun _ _=>rfl)) (bm (v:=.str "knot") rfl hkn ⟨tkn,rfl⟩) (aG _)) (@ai _ _ _ (@aA _ _ _ _ (pv 11))) aF) (@ai _ _ _ (@aA _ _ _ _ (@aN _ _ _ _ _ (@aa _ _ _ _ _ (bm (v:=.str "tree") rfl htr ⟨ttr,rfl⟩) (@aa _ _ _ _ _ (@aN _ _ _ _ _ (@aa _ _ _ _ _ (pv 5) (@aa _ _ _ _ _ (ij (@aI _ _ _ _ _ _ _ _ cR (pv 5) (bm (v:=.str "down") rfl hdn ⟨tdn,rfl⟩) (aG _)) (@aB _ _ _ _ _ _ _ _ cQ (pv 6) (pv 1)) (@aB _ _ _ _ _ _ _ _ cQ (pv 6) (pv 2))) (@aa _ _ _ _ _ (@ar _ _ _ _ _ _ _ ix_tup (pv 9) ae (fun _ _=>rfl)) (@aa _ _ _ _ _ (@ar _ _ _ _ _ _ _ ix_tup (pv 11) ae (fun _ _=>rfl)) ab rfl) rfl) rfl) rfl)) ab rfl) rfl))))))))))))),?_⟩
 have sz:(1000:Nat) < sizeLine:=by decide
 obtain ⟨dx,r0,rs,h1,h2,h3⟩:=id S0
 refine au (fun σ' H'=>σ'=[some (.ref s),some (.int x),some (.int y),some (.ref l),none,none,none,none,none,none,none,none]∧H=H'∧2≤as.length) (fun R hR=>?_) ?_
 ·refine ⟨_,rfl,l,_,rfl,.inl (SqL.of hl),_,_,rfl,rfl,_,rfl,?_⟩
  refine bE (fun cc=>?_) (fun cc=>hR _ _ ⟨rfl,rfl,?_⟩)
  ·refine ⟨_,rfl,_,rfl,_,rfl,x,y,l,as,rfl,hl,fun a ha=>let ⟨p,_,e,_⟩:=hp a ha; ⟨p,e⟩,fun r xs H1 hr s1=>⟨(by show 2≤sizeLine; decide),fun t ht=>q t _ _ _ ah (.inr ⟨rfl,fun L hL hk=>?_⟩) (s1.trans (Same.new ht))⟩⟩
   have cc:(((as.map V.ref).length:Int) < 2):=of_decide_eq_true cc
   rw [List.length_map] at cc
   have:=hL.length_le
   have:=hk.1
   omega
  ·have cc:¬ (((as.map V.ref).length:Int) < 2):=fun z=>cc (decide_eq_true z)
   rw [List.length_map] at cc
   omega
 rintro _ _ ⟨rfl,rfl,l2⟩
 refine au (fun σ' H'=>∃cv:V,σ'=[some (.ref s),some (.int x),some (.int y),some (.ref l),some cv,none,none,none,none,none,none,none]∧Same H H'∧((cv=.non∧∀i < 2,∀r,¬ Pts b as (gA ks H i) r)∨∃ (t0 la lb:Addr) (wy:Str) (r:Int) (as1 as2:List Addr) (i:Nat),cv=.ref t0∧H' t0=some (.tup [.str wy,.int r,.ref la,.ref lb])∧H' la=some (.lst (as1.map V.ref))∧H' lb=some (.lst (as2.map V.ref))∧i < 2∧Pts b as (gA ks H i) r∧as1=as.filter (fun a=>decide ((gA ks H i a).2≤r))∧as2=as.filter (fun a=>decide (r < (gA ks H i a).2)))) (fun R hR=>?_) ?_
 ·exact ⟨_,rfl,_,rfl,s,l,b,ks,as,rfl,S0,b0,gk,hl,hp,l2,l64,fun H1 s1 no=>hR _ _ ⟨.non,rfl,s1,.inl ⟨rfl,no⟩⟩,fun t la lb i r H1 hi e1 e2 e3 hp s1=>hR _ _ ⟨.ref t,rfl,s1,.inr ⟨t,la,lb,_,r,_,_,i,rfl,e1,e2,e3,hi,hp,rfl,rfl⟩⟩⟩
 rintro _ H1 ⟨cv,rfl,s1,hcv⟩
 refine au (fun σ' H'=>σ'=[some (.ref s),some (.int x),some (.int y),some (.ref l),some cv,none,none,none,none,none,none,none]∧H1=H'∧cv≠.non) (fun R hR=>?_) ?_
 ·refine ⟨_,rfl,rfl,_,rfl,?_⟩
  by_cases hc:cv=.non
  ·have no:∀i < 2,∀r,¬ Pts b as (gA ks H i) r:=by
    rcases hcv with ⟨_,no⟩ | ⟨t0,_,_,_,_,_,_,_,e,_⟩
    ·exact no
    ·rw [hc] at e; cases e
   rw [decide_eq_true hc]
   refine bu ⟨_,rfl,l,as,[false,true,false,false],qT H1,rfl,SqL.of (s1 _ _ hl),l64,rfl,fun a ha=>?_,fun lo as' hlo pa so=>⟨(by show 2≤sizeLine; decide),fun t ht=>q t _ _ _ ah (.inl ⟨rfl,as,List.Sublist.refl _,l2,no⟩) (s1.trans ((Same.new hlo).trans (Same.new ht)))⟩⟩
   obtain ⟨p,k,e1,_⟩:=hp a ha
   exact ⟨_,SqT.of (s1 _ _ e1),by rw [ph (s1 _ _ e1)]; rfl⟩
  ·rw [decide_eq_false hc]
   exact bh (hR _ _ ⟨rfl,rfl,hc⟩)
 rintro _ _ ⟨rfl,rfl,hc⟩
 obtain ⟨t0,la,lb,wy,r,as1,as2,ix,rfl,ht0,hla,hlb,ix2,hpts,eas1,eas2⟩:=hcv.resolve_left fun z=>hc z.1
 have sb1:as1.Sublist as:=eas1 ▸ List.filter_sublist
 have sb2:as2.Sublist as:=eas2 ▸ List.filter_sublist
 have m1:∀a∈as1,a∈as:=fun a ha=>sb1.subset ha
 have m2:∀a∈as2,a∈as:=fun a ha=>sb2.subset ha
 have n1:1≤as1.length:=by
  obtain ⟨a,ha,h⟩:=hpts.1
  rw [eas1]; exact fO ha (decide_eq_true h)
 have n2:1≤as2.length:=by
  obtain ⟨a,ha,h⟩:=hpts.2.1
  have:=uq gk (hp a ha) ix
  rw [eas2]; exact fO ha (decide_eq_true (by omega))
 have n12:as1.length + as2.length=as.length:=by
  have:=fN (fun a=>decide ((gA ks H ix a).2≤r)) as
  rw [eas1,eas2,← this]
  congr 2
  refine List.filter_congr fun a _=>?_
  by_cases c:(gA ks H ix a).2≤r
  ·rw [decide_eq_true c,decide_eq_false (by omega)]; rfl
  ·rw [decide_eq_false c,decide_eq_true (by omega)]; rfl
 refine au (fun σ' H'=>σ'=[some (.ref s),some (.int x),some (.int y),some (.ref l),some (.ref t0),some (.str wy),some (.int r),some (.ref la),some (.ref lb),none,none,none]∧H1=H') (fun R hR=>?_) ?_
 ·exact ⟨_,rfl,t0,_,rfl,SqT.of ht0,rfl,_,_,rfl,_,_,rfl,_,_,rfl,_,_,rfl,rfl,hR _ _ ⟨rfl,rfl⟩⟩
 rintro _ _ ⟨rfl,rfl⟩
 refine au (fun σ' H'=>∃ (t1:Addr) (z:Str) (u:V),σ'=[some (.ref s),some (.int x),some (.int y),some (.ref l),some (.ref t0),some (.str wy),some (.int r),some (.ref la),some (.ref lb),some (.ref t1),none,none]∧H' t1=some (.tup [.str z,u])∧KT b (gA ks H) as1 z∧Same H1 H') (fun R hR=>?_) ?_
 ·exact ⟨_,rfl,_,rfl,_,rfl,_,rfl,s,la,x,y,b,ks,as1,rfl,cN s1 S0,b0,gk,hla,fun a ha=>(hp a (m1 a ha)).same s1,by omega,by omega,fun t z u H2 ht kt s2=>hR _ _ ⟨t,z,u,rfl,ht,kt.congr fun a ha i=>gZ s1 (hp a (m1 a ha)) i,s2⟩⟩
 rintro _ H2 ⟨t1,z1,u1,rfl,ht1,kt1,s12⟩
 have s02:=s1.trans s12
 refine au (fun σ' H'=>σ'=[some (.ref s), some (.int x), some (.int y), some (.ref l), some (.ref t0), some (.str wy), some (.int r), some (.ref la), some (.ref lb), some (.ref t1), none, none]∧H2=H'∧z1 ≠ "knot") (fun R hR=>?_) ?_
 ·refine ⟨_,rfl,t1,_,0,_,rfl,rfl,SqT.of (ht1),rfl,rfl,_,rfl,?_⟩
  exact bE (fun cc=>⟨_,rfl,q t1 z1 u1 H2 ht1 (kt1.sub sb1 (V.str.inj (of_decide_eq_true cc))) s02⟩) (fun cc=>hR _ _ ⟨rfl,rfl,fun e=>cc (decide_eq_true (by rw [e]))⟩)
 rintro _ _ ⟨rfl,rfl,nz1⟩
 refine au (fun σ' H'=>σ'=[some (.ref s),some (.int x),some (.int y),some (.ref l),some (.ref t0),some (.str wy),some (.int r),some (.ref la),some (.ref lb),some (.ref t1),some (.int (r + b)),none]∧H2=H') (fun R hR=>?_) ?_
 ·exact ⟨_,rfl,_,rfl,s,dx,_,rfl,s02 _ _ h1,df _ _ (by decide +kernel) (by decide +kernel),s,b,ks,rfl,cN s02 S0,_,_,rfl,rfl,hR _ _ ⟨rfl,rfl⟩⟩
 rintro _ _ ⟨rfl,rfl⟩
 have hlb2:=s12 _ _ hlb
 refine au (fun σ' H'=>∃ (t2:Addr) (z:Str) (u:V),σ'=[some (.ref s),some (.int x),some (.int y),some (.ref l),some (.ref t0),some (.str wy),some (.int r),some (.ref la),some (.ref lb),some (.ref t1),some (.int (r + b)),some (.ref t2)]∧H' t2=some (.tup [.str z,u])∧KT b (gA ks H) as2 z∧Same H2 H') (fun R hR=>?_) ?_
 ·refine ⟨_,rfl,rfl,_,rfl,?_⟩
  refine bE (fun cc=>?_) (fun cc=>?_)
  ·exact ⟨_,rfl,_,rfl,_,rfl,_,rfl,s,lb,(r + b),y,b,ks,as2,rfl,cN s02 S0,b0,gk,hlb2,fun a ha=>(hp a (m2 a ha)).same s02,by omega,by omega,fun t z u H3 ht kt s3=>hR _ _ ⟨t,z,u,rfl,ht,kt.congr fun a ha i=>gZ s02 (hp a (m2 a ha)) i,s3⟩⟩
  ·exact ⟨_,rfl,_,rfl,_,rfl,_,rfl,s,lb,x,(r + b),b,ks,as2,rfl,cN s02 S0,b0,gk,hlb2,fun a ha=>(hp a (m2 a ha)).same s02,by omega,by omega,fun t z u H3 ht kt s3=>hR _ _ ⟨t,z,u,rfl,ht,kt.congr fun a ha i=>gZ s02 (hp a (m2 a ha)) i,s3⟩⟩
 rintro _ H3 ⟨t2,z2,u2,rfl,ht2,kt2,s23⟩
 have s03:=s02.trans s23
 have ht13:=s23 _ _ ht1
 refine au (fun σ' H'=>σ'=[some (.ref s), some (.int x), some (.int y), some (.ref l), some (.ref t0), some (.str wy), some (.int r), some (.ref la), some (.ref lb), some (.ref t1), some (.int (r + b)), some (.ref t2)]∧H3=H'∧z2 ≠ "knot") (fun R hR=>?_) ?_
 ·refine ⟨_,rfl,t2,_,0,_,rfl,rfl,SqT.of (ht2),rfl,rfl,_,rfl,?_⟩
  exact bE (fun cc=>⟨_,rfl,q t2 z2 u2 H3 ht2 (kt2.sub sb2 (V.str.inj (of_decide_eq_true cc))) s03⟩) (fun cc=>hR _ _ ⟨rfl,rfl,fun e=>cc (decide_eq_true (by rw [e]))⟩)
 rintro _ _ ⟨rfl,rfl,nz2⟩
 have kt:KT b (gA ks H) as "tree" := .inr ⟨rfl,KT.cut ix2 hpts (eas1 ▸ kt1.tree nz1) (eas2 ▸ kt2.tree nz2)⟩
 refine ⟨_,rfl,_,rfl,rfl,_,rfl,?_⟩
 refine bE (fun cc=>?_) (fun cc=>?_)
 ·exact ⟨_,rfl,_,rfl,_,_,rfl,rfl,_,rfl,t1,_,1,_,rfl,rfl,SqT.of (ht13),rfl,_,rfl,t2,_,1,_,rfl,rfl,SqT.of (ht2),rfl,(by show 4≤sizeLine; decide),fun a ha=>⟨(by show 2≤sizeLine; decide),fun t ht=>q t _ _ _ ah kt (s03.trans ((Same.new ha).trans (Same.new ht)))⟩⟩
 ·exact ⟨_,rfl,_,rfl,_,_,rfl,rfl,_,rfl,t1,_,1,_,rfl,rfl,SqT.of (ht13),rfl,_,rfl,t2,_,1,_,rfl,rfl,SqT.of (ht2),rfl,(by show 4≤sizeLine; decide),fun a ha=>⟨(by show 2≤sizeLine; decide),fun t ht=>q t _ _ _ ah kt (s03.trans ((Same.new ha).trans (Same.new ht)))⟩⟩
theorem nC {f C:Addr} {fd:FuncData} (F:Fun K "part_pieces" "part_pieces" bj f fd):FnOk P w K mg base CX0 5 f fd ["shop","x","y","pieces"] (cY C 0):=by
 refine F.ok scpart (fun vs H Q E h=>?_) (fun cdv A outer s H vs Q E hr h=>?_)
 ·obtain ⟨s,l,x,y,b,ks,as,rfl,_⟩:=h
  rfl
 ·obtain ⟨s,l,x,y,b,ks,as,_,_,_,_,_,_,_,z,_⟩:=h
  exact absurd z (Nat.not_lt_zero _)
theorem iS {f C:Addr} {ttr tkn tdn:Tok} {fd:FuncData} (F:Fun K "part_pieces" "part_pieces" bj f fd) (B:Blt mg) (T:ShopTxt K C) (htr:mg "TREE" = some (.str "tree" ttr)) (hkn:mg "KNOT" = some (.str "knot" tkn)) (hdn:mg "DOWN" = some (.str "down" tdn)) (MB:Mn P w K mg base C "blade" ["self"] 1 (dQ C)) (DLf:Dn P w K mg base "leaf_of" ["x","y","pieces"] 1 (eh)) (DCu:Dn P w K mg base "parting_cut" ["shop","pieces"] 5 (gY C)) (mk:∀n,FnOk P w K mg base CX0 (5 + n) f fd ["shop","x","y","pieces"] (cY C n)→Dn P w K mg base "part_pieces" ["shop","x","y","pieces"] (5 + n) (cY C n)):∀n,FnOk P w K mg base CX0 (5 + n) f fd ["shop","x","y","pieces"] (cY C n)
 | 0=>nC F
 | n + 1=>pi F n B T htr hkn hdn MB DLf DCu (mk n (iS F B T htr hkn hdn MB DLf DCu mk n))
end
def loB (i:Nat) (x:Bx):Int:=if i=0 then x.a else x.b
def hiB (i:Nat) (x:Bx):Int:=if i=0 then x.c else x.d
def PtB (b:Int) (i:Nat) (bs:List Bx) (r:Int):Prop:=(∃x∈bs,hiB i x≤r)∧(∃x∈bs,r + b≤loB i x)∧∀x∈bs,hiB i x≤r∨r + b≤loB i x
theorem iT (o r:Bx):apB o r=Bool.not (cX o r):=by
 unfold apB cX
 by_cases h1:o.c≤r.a <;> by_cases h2:r.c≤o.a <;> by_cases h3:o.d≤r.b <;> by_cases h4:r.d≤o.b <;> simp [h1,h2,h3,h4] <;> omega
theorem fc {ks:List Kd} {i:Nat} {c:Bool} (h:(i,c)∈lyK ks 0):∃k,ks[i]? = some k∧cj ks (.int (i:Int)) (.bl c)=true:=by
 obtain ⟨_,k,hk,hc⟩:=dD h
 have hk:ks[i]? = some k:=by simpa using hk
 refine ⟨k,hk,?_⟩
 show (decide (0≤(i:Int)) && match ks[(i:Int).toNat]? with
  | some k=>!c || aO k
  | none=>false)=true
 rw [Int.toNat_natCast,hk,decide_eq_true (Int.natCast_nonneg i)]
 rcases hc with hc | hc
 ·have hc:c=false:=hc
  rw [hc]; rfl
 ·show (true && (!c || aO k))=true
  rw [hc,Bool.or_true]; rfl
theorem pj {ks:List Kd} {W h:Int} {d:PyData} {p:Pq} {k:Kd} (pd:PqD d p) (ly:cj ks (.int p.k) (.bl p.c)=true) (hk:ks[p.k]? = some k) (x0:0≤p.x) (y0:0≤p.y) (on:onB ks W h p=true):bW ks W h d=true:=by
 unfold bW
 rw [pd]
 show ef ks W h (.int p.k) (.bl p.c) (.int p.x) (.int p.y)=true
 unfold onB at on
 rw [bf hk] at on
 simp only [Bool.not_eq_true',Bool.or_eq_false_iff,decide_eq_false_iff_not] at on
 have e1:aQ (.int p.x) 0=true:=decide_eq_true x0
 have e2:aQ (.int p.y) 0=true:=decide_eq_true y0
 unfold ef
 rw [ly,e1,e2]
 show (true && true && true && (match ks[(p.k:Int).toNat]? with
  | some k=>decide (p.x + sd1 k p.c≤W) && decide (p.y + sd2 k p.c≤h)
  | none=>false))=true
 rw [Int.toNat_natCast,hk]
 have a1:¬ W < p.x + sd1 k p.c:=on.1
 have a2:¬ h < p.y + sd2 k p.c:=on.2
 show (true && true && true && (decide (p.x + sd1 k p.c≤W) && decide (p.y + sd2 k p.c≤h)))=true
 rw [decide_eq_true (show p.x + sd1 k p.c≤W by omega),decide_eq_true (show p.y + sd2 k p.c≤h by omega)]
 rfl
theorem bY {C x dx:Addr} {H:Hp} (hx:H x=none) (hd:H dx=none):Same H (upd (upd H dx (.own x)) x (.ins C dx [])):=fun c o e=>by
 rw [az (aj e hx),az (aj e hd)]; exact e
theorem Laid.at {ks:List Kd} {W h:Int} {H:Hp} {ys:List V} {ps:List Pq} (pz:Paired (PqT ks H) ys ps) (ld:Laid ks W h ps) {i:Nat} {q:Pq} (hq:ps[i]? = some q):∃k,(q.k,q.c)∈lyK ks 0∧ks[q.k]? = some k∧0≤q.x∧0≤q.y∧onB ks W h q=true∧q.x + sd1 k q.c≤W∧q.y + sd2 k q.c≤h∧∀o∈ps.take i,cX (aK ks q) (aK ks o)=false:=by
 have hl:=Paired.length pz
 have hi:=(List.getElem?_eq_some_iff.mp hq).1
 obtain ⟨q',hq',a,_,_,hin,x0,y0⟩:=Paired.getR pz (List.getElem?_eq_getElem (show i < ys.length by omega))
 rw [hq] at hq'
 cases hq'
 obtain ⟨k,hk,_⟩:=fc hin
 have f:=ld i q hq
 unfold dn at f
 obtain ⟨f1,f2⟩:=Bool.and_eq_true_iff.mp f
 have g:=f1
 unfold onB at g
 rw [bf hk] at g
 simp only [Bool.not_eq_true',Bool.or_eq_false_iff,decide_eq_false_iff_not] at g
 have a1:¬ W < q.x + sd1 k q.c:=g.1
 have a2:¬ h < q.y + sd2 k q.c:=g.2
 refine ⟨k,hin,hk,x0,y0,f1,by omega,by omega,fun o ho=>?_⟩
 have this:apB (aK ks q) (aK ks o)=true:=List.all_eq_true.mp f2 _ (List.mem_map.mpr ⟨o,ho,rfl⟩)
 rw [iT] at this
 simpa using this
def bA (ks:List Kd) (H:Hp) (a:Addr):Bx:=⟨(gA ks H 0 a).1,(gA ks H 1 a).1,(gA ks H 0 a).2,(gA ks H 1 a).2⟩
theorem ur {ks:List Kd} {H:Hp} {a:Addr} {p:Pq} {k:Kd} (h:H a=some (.tup (pqV p))) (hk:ks[p.k]? = some k):bA ks H a=aK ks p:=by
 rw [bf hk]
 unfold bA
 rw [fP h hk,fP h hk]
 rfl
theorem nD {ks:List Kd} {H:Hp}:∀ {as:List Addr} {ps:List Pq},Paired (PqT ks H) (as.map V.ref) ps→ps.map (aK ks)=as.map (bA ks H)
 | [],_,.nil=>rfl
 | a :: as,_,.cons ⟨c,e,h,hin,_⟩ r=>by
  cases e
  obtain ⟨k,hk,_⟩:=fc hin
  rw [List.map_cons,List.map_cons,nD r,ur h hk]
theorem ku {ks:List Kd} {H:Hp}:∀ {ys:List V} {ps:List Pq},Paired (PqT ks H) ys ps→∃as:List Addr,ys=as.map V.ref∧∀a∈as,PzP ks H a
 | _,_,.nil=>⟨[],rfl,fun a h=>by simp at h⟩
 | _,_,.cons (b:=p) ⟨a,e,h,hin,_⟩ r=>by
  obtain ⟨as,e2,h2⟩:=ku r
  obtain ⟨k,hk,ly⟩:=fc hin
  refine ⟨a :: as,by rw [e,e2]; rfl,fun c hc=>?_⟩
  rcases List.mem_cons.mp hc with rfl | hc
  ·exact ⟨p,k,h,ly,hk⟩
  ·exact h2 c hc
theorem nE {ks:List Kd} {H:Hp} {b r:Int} {L:List Addr} {i:Nat} (hi:i < 2):Pts b L (gA ks H i) r↔PtB b i (L.map (bA ks H)) r:=by
 have lo:∀a,loB i (bA ks H a)=(gA ks H i a).1:=fun a=>by
  have:i=0∨i=1:=by omega
  rcases this with rfl | rfl <;> rfl
 have hi:∀a,hiB i (bA ks H a)=(gA ks H i a).2:=fun a=>by
  have:i=0∨i=1:=by omega
  rcases this with rfl | rfl <;> rfl
 constructor
 ·rintro ⟨⟨a,ha,h1⟩,⟨c,hc,h2⟩,h3⟩
  refine ⟨⟨_,List.mem_map_of_mem ha,by rw [hi]; exact h1⟩,⟨_,List.mem_map_of_mem hc,by rw [lo]; exact h2⟩,fun x hx=>?_⟩
  obtain ⟨d,hd,rfl⟩:=List.mem_map.mp hx
  rw [lo,hi]
  exact h3 d hd
 ·rintro ⟨⟨x,hx,h1⟩,⟨y,hy,h2⟩,h3⟩
  obtain ⟨a,ha,rfl⟩:=List.mem_map.mp hx
  obtain ⟨c,hc,rfl⟩:=List.mem_map.mp hy
  rw [hi] at h1
  rw [lo] at h2
  refine ⟨⟨a,ha,h1⟩,⟨c,hc,h2⟩,fun d hd=>?_⟩
  have:=h3 _ (List.mem_map_of_mem hd)
  rw [lo,hi] at this
  exact this
def KnX (b:Int) (L:List Bx):Prop:=2≤L.length∧∀i < 2,∀r,¬ PtB b i L r
def HasK (b:Int) (bs:List Bx):Prop:=∃L,L.Sublist bs∧KnX b L
def KTB (b:Int) (bs:List Bx) (z:Str):Prop:=(z = "knot" ∧ HasK b bs)∨(z = "tree" ∧ ¬ HasK b bs)
theorem KTB.eq {b b':Int} {bs bs':List Bx} {z z':Str} (h:KTB b bs z) (h':KTB b' bs' z') (e:HasK b bs↔HasK b' bs'):z'=z:=by
 rcases h with ⟨h1,h2⟩ | ⟨h1,h2⟩ <;> rcases h' with ⟨h3,h4⟩ | ⟨h3,h4⟩
 ·rw [h1,h3]
 ·exact absurd (e.mp h2) h4
 ·exact absurd (e.mpr h4) h2
 ·rw [h1,h3]
theorem KTB.tree {b b':Int} {bs bs':List Bx} {z z':Str} (h:KTB b bs z) (h':KTB b' bs' z') (ht:z = "tree") (e:HasK b' bs'→HasK b bs):z' = "tree" := by
 rcases h' with ⟨_,h4⟩ | ⟨h3,_⟩
 ·rcases h with ⟨h1,_⟩ | ⟨_,h2⟩
  ·rw [ht] at h1
   exact absurd h1 (by decide +kernel)
  ·exact absurd (e h4) h2
 ·exact h3
theorem KTB.word {b:Int} {bs:List Bx} {z:Str} (h:KTB b bs z):z = "knot" ∨ z = "tree" := h.imp (fun h=>h.1) (fun h=>h.1)
theorem qU {ks:List Kd} {H:Hp} {b:Int} {as:List Addr} {z:Str} (h:KT b (gA ks H) as z):KTB b (as.map (bA ks H)) z:=by
 have e:∀L:List Addr,Kn2 b (gA ks H) L↔KnX b (L.map (bA ks H)):=fun L =>
  ⟨fun k=>⟨by rw [List.length_map]; exact k.1,fun i hi r p=>k.2 i hi r ((nE hi).mpr p)⟩,fun k=>⟨by have:=k.1; rwa [List.length_map] at this,fun i hi r p=>k.2 i hi r ((nE hi).mp p)⟩⟩
 rcases h with ⟨hz,L,hL,hk⟩ | ⟨hz,no⟩
 ·exact .inl ⟨hz,_,hL.map _,(e L).mp hk⟩
 ·refine .inr ⟨hz,fun ⟨L,hL,hk⟩=>?_⟩
  obtain ⟨L',hL',rfl⟩:=List.sublist_map_iff.mp hL
  exact no L' hL' ((e L').mpr hk)
theorem pk {b:Int} {i:Nat} {L L':List Bx} {r:Int} (h:∀x,x∈L↔x∈L') (p:PtB b i L r):PtB b i L' r:=by
 obtain ⟨⟨x,hx,h1⟩,⟨y,hy,h2⟩,h3⟩:=p
 exact ⟨⟨x,(h x).mp hx,h1⟩,⟨y,(h y).mp hy,h2⟩,fun z hz=>h3 z ((h z).mpr hz)⟩
theorem HasK.perm {b:Int} {bs bs':List Bx} (p:bs.Perm bs') (h:HasK b bs):HasK b bs':=by
 obtain ⟨L,hL,l2,no⟩:=h
 obtain ⟨L',pL,sL⟩:=List.exists_perm_sublist hL p
 exact ⟨L',sL,by rw [pL.length_eq]; exact l2,fun i hi r q=>no i hi r (pk (fun x=>pL.mem_iff) q)⟩
theorem HasK.sub {b:Int} {bs bs':List Bx} (s:bs'.Sublist bs) (h:HasK b bs'):HasK b bs:=by
 obtain ⟨L,hL,k⟩:=h
 exact ⟨L,hL.trans s,k⟩
theorem HasK.blade {b b':Int} {bs:List Bx} (hb:b'≤b) (h:HasK b' bs):HasK b bs:=by
 obtain ⟨L,hL,l2,no⟩:=h
 refine ⟨L,hL,l2,fun i hi r p=>no i hi r ?_⟩
 obtain ⟨h1,⟨y,hy,h2⟩,h3⟩:=p
 refine ⟨h1,⟨y,hy,by omega⟩,fun x hx=>?_⟩
 rcases h3 x hx with h | h
 ·exact .inl h
 ·exact .inr (by omega)
theorem fQ {b b':Int} {f:Bx→Bx} {bs:List Bx} (g:∀L:List Bx,L.Sublist bs→((∃i,i < 2∧∃r,PtB b i L r)↔∃i,i < 2∧∃r,PtB b' i (L.map f) r)):HasK b bs↔HasK b' (bs.map f):=by
 have e:∀ (c:Int) (L:List Bx),KnX c L↔2≤L.length∧¬ ∃i,i < 2∧∃r,PtB c i L r:=fun c L =>
  ⟨fun h=>⟨h.1,fun ⟨i,hi,r,p⟩=>h.2 i hi r p⟩,fun h=>⟨h.1,fun i hi r p=>h.2 ⟨i,hi,r,p⟩⟩⟩
 constructor
 ·rintro ⟨L,hL,hk⟩
  refine ⟨L.map f,hL.map f,(e _ _).mpr ⟨by rw [List.length_map]; exact hk.1,fun x=>((e _ _).mp hk).2 ((g L hL).mpr x)⟩⟩
 ·rintro ⟨L,hL,hk⟩
  obtain ⟨L',hL',rfl⟩:=List.sublist_map_iff.mp hL
  refine ⟨L',hL',(e _ _).mpr ⟨by have:=hk.1; rwa [List.length_map] at this,fun x=>((e _ _).mp hk).2 ((g L' hL').mp x)⟩⟩
theorem di {b b' r r':Int} {i i':Nat} {f:Bx→Bx} {L:List Bx} (h1:∀x∈L,(hiB i x≤r→hiB i' (f x)≤r')∧(r + b≤loB i x→r' + b'≤loB i' (f x))) (p:PtB b i L r):PtB b' i' (L.map f) r':=by
 obtain ⟨⟨x,hx,a1⟩,⟨y,hy,a2⟩,a3⟩:=p
 refine ⟨⟨_,List.mem_map_of_mem hx,(h1 x hx).1 a1⟩,⟨_,List.mem_map_of_mem hy,(h1 y hy).2 a2⟩,fun z hz=>?_⟩
 obtain ⟨c,hc,rfl⟩:=List.mem_map.mp hz
 exact (a3 c hc).imp (h1 c hc).1 (h1 c hc).2
theorem bZ {b b' r r':Int} {i i':Nat} {f:Bx→Bx} {L:List Bx} (h1:∀x∈L,(hiB i' (f x)≤r'→hiB i x≤r)∧(r' + b'≤loB i' (f x)→r + b≤loB i x)) (p:PtB b' i' (L.map f) r'):PtB b i L r:=by
 obtain ⟨⟨x,hx,a1⟩,⟨y,hy,a2⟩,a3⟩:=p
 obtain ⟨c,hc,rfl⟩:=List.mem_map.mp hx
 obtain ⟨d,hd,rfl⟩:=List.mem_map.mp hy
 exact ⟨⟨c,hc,(h1 c hc).1 a1⟩,⟨d,hd,(h1 d hd).2 a2⟩,fun z hz=>(a3 _ (List.mem_map_of_mem hz)).imp (h1 z hz).1 (h1 z hz).2⟩
def shB (x y:Int) (g:Bx):Bx:=⟨g.a + x,g.b + y,g.c + x,g.d + y⟩
def exB (g:Bx):Bx:=⟨g.b,g.a,g.d,g.c⟩
def enB (m:Int) (g:Bx):Bx:=⟨g.a * m,g.b * m,g.c * m,g.d * m⟩
theorem ca {P:Nat→Prop} (h0:P 0) (h1:P 1):∀i,i < 2→P i:=fun i hi=>by
 have:i=0∨i=1:=by omega
 rcases this with rfl | rfl
 ·exact h0
 ·exact h1
theorem pw (b x y:Int) (bs:List Bx):HasK b bs↔HasK b (bs.map (shB x y)):=fQ fun L _=>by
 constructor
 ·rintro ⟨i,hi,r,p⟩
  revert p
  refine ca (P:=fun i=>PtB b i L r→_) ?_ ?_ i hi
  ·exact fun p=>⟨0,by decide,r + x,di (fun g _=>⟨fun h=>(by have h:g.c≤r:=h; show g.c + x≤r + x; omega),fun h=>(by have h:r + b≤g.a:=h; show r + x + b≤g.a + x; omega)⟩) p⟩
  ·exact fun p=>⟨1,by decide,r + y,di (fun g _=>⟨fun h=>(by have h:g.d≤r:=h; show g.d + y≤r + y; omega),fun h=>(by have h:r + b≤g.b:=h; show r + y + b≤g.b + y; omega)⟩) p⟩
 ·rintro ⟨i,hi,r,p⟩
  revert p
  refine ca (P:=fun i=>PtB b i (L.map (shB x y)) r→_) ?_ ?_ i hi
  ·exact fun p=>⟨0,by decide,r - x,bZ (fun g _=>⟨fun h=>(by have h:g.c + x≤r:=h; show g.c≤r - x; omega),fun h=>(by have h:r + b≤g.a + x:=h; show r - x + b≤g.a; omega)⟩) p⟩
  ·exact fun p=>⟨1,by decide,r - y,bZ (fun g _=>⟨fun h=>(by have h:g.d + y≤r:=h; show g.d≤r - y; omega),fun h=>(by have h:r + b≤g.b + y:=h; show r - y + b≤g.b; omega)⟩) p⟩
theorem pC (b:Int) (bs:List Bx):HasK b bs↔HasK b (bs.map exB):=fQ fun L _=>by
 constructor
 ·rintro ⟨i,hi,r,p⟩
  revert p
  refine ca (P:=fun i=>PtB b i L r→_) ?_ ?_ i hi
  ·exact fun p=>⟨1,by decide,r,di (fun g _=>⟨fun h=>h,fun h=>h⟩) p⟩
  ·exact fun p=>⟨0,by decide,r,di (fun g _=>⟨fun h=>h,fun h=>h⟩) p⟩
 ·rintro ⟨i,hi,r,p⟩
  revert p
  refine ca (P:=fun i=>PtB b i (L.map exB) r→_) ?_ ?_ i hi
  ·exact fun p=>⟨1,by decide,r,bZ (f:=exB) (i:=1) (i':=0) (b':=b) (r':=r) (fun g _=>⟨fun h=>h,fun h=>h⟩) p⟩
  ·exact fun p=>⟨0,by decide,r,bZ (f:=exB) (i:=0) (i':=1) (b':=b) (r':=r) (fun g _=>⟨fun h=>h,fun h=>h⟩) p⟩
theorem ej {m a r:Int} (m1:1≤m) (h:a≤r):a * m≤r * m:=Int.mul_le_mul_of_nonneg_right h (by omega)
theorem nF {m a b r:Int} (m1:1≤m) (h:r + b≤a):r * m + b * m≤a * m:=by
 rw [← Int.add_mul]
 exact ej m1 h
theorem qb {m a r:Int} (m1:1≤m) (h:a * m≤r):a≤r / m:=(Int.le_ediv_iff_mul_le (by omega)).mpr h
theorem nG {m a b r:Int} (m1:1≤m) (h:r + b * m≤a * m):r / m + b≤a:=by
 have h1:r≤(a - b) * m:=by rw [Int.sub_mul]; omega
 have h2:r / m≤a - b:=Int.le_trans (Int.ediv_le_ediv (by omega) h1) (by rw [Int.mul_ediv_cancel _ (by omega)]; exact Int.le_refl _)
 omega
theorem pE (b:Int) {m:Int} (m1:1≤m) (bs:List Bx):HasK b bs↔HasK (b * m) (bs.map (enB m)):=fQ fun L _=>by
 constructor
 ·rintro ⟨i,hi,r,p⟩
  revert p
  refine ca (P:=fun i=>PtB b i L r→_) ?_ ?_ i hi
  ·exact fun p=>⟨0,by decide,r * m,di (fun g _=>⟨fun h=>ej m1 h,fun h=>nF m1 h⟩) p⟩
  ·exact fun p=>⟨1,by decide,r * m,di (fun g _=>⟨fun h=>ej m1 h,fun h=>nF m1 h⟩) p⟩
 ·rintro ⟨i,hi,r,p⟩
  revert p
  refine ca (P:=fun i=>PtB (b * m) i (L.map (enB m)) r→_) ?_ ?_ i hi
  ·exact fun p=>⟨0,by decide,r / m,bZ (fun g _=>⟨fun h=>qb m1 h,fun h=>nG m1 h⟩) p⟩
  ·exact fun p=>⟨1,by decide,r / m,bZ (fun g _=>⟨fun h=>qb m1 h,fun h=>nG m1 h⟩) p⟩
def OnP (ks:List Kd) (W h:Int) (q:Pq):Prop:=(q.k,q.c)∈lyK ks 0∧0≤q.x∧0≤q.y∧(aK ks q).c≤W∧(aK ks q).d≤h
def Lay (ks:List Kd) (W h:Int) (ps:List Pq):Prop:=(∀q∈ps,OnP ks W h q)∧ps.Pairwise (fun o p=>apB (aK ks o) (aK ks p)=true)
theorem fR (o r:Bx):apB o r=apB r o:=by
 unfold apB
 cases decide (o.c≤r.a) <;> cases decide (r.c≤o.a) <;> cases decide (o.d≤r.b) <;> cases decide (r.d≤o.b) <;> rfl
theorem Lay.perm {ks:List Kd} {W h:Int} {ps qs:List Pq} (p:ps.Perm qs) (l:Lay ks W h ps):Lay ks W h qs :=
 ⟨fun q hq=>l.1 q (p.mem_iff.mpr hq),(List.Perm.pairwise_iff (fun {x y} e=>by rw [fR]; exact e) p).mp l.2⟩
theorem Lay.sub {ks:List Kd} {W h:Int} {ps qs:List Pq} (s:qs.Sublist ps) (l:Lay ks W h ps):Lay ks W h qs :=
 ⟨fun q hq=>l.1 q (s.subset hq),l.2.sublist s⟩
theorem Lay.map {ks ks':List Kd} {W h W' h':Int} {ps:List Pq} {f:Pq→Pq} (l:Lay ks W h ps) (h1:∀q,OnP ks W h q→OnP ks' W' h' (f q)) (h2:∀o p,OnP ks W h o→OnP ks W h p→apB (aK ks o) (aK ks p)=true→apB (aK ks' (f o)) (aK ks' (f p))=true):Lay ks' W' h' (ps.map f):=by
 refine ⟨fun q hq=>?_,?_⟩
 ·obtain ⟨p,hp,rfl⟩:=List.mem_map.mp hq
  exact h1 p (l.1 p hp)
 ·rw [List.pairwise_map]
  exact (List.pairwise_iff_forall_sublist.mpr fun {a b} s=>h2 a b (l.1 a (s.subset (by simp))) (l.1 b (s.subset (by simp))) (List.pairwise_iff_forall_sublist.mp l.2 s))
theorem pF {ks:List Kd} {W h:Int} {ps:List Pq} (ld:Laid ks W h ps):ps.Pairwise (fun o p=>apB (aK ks o) (aK ks p)=true):=by
 rw [List.pairwise_iff_getElem]
 intro i j hi hj hij
 have f:=ld j ps[j] (List.getElem?_eq_getElem hj)
 unfold dn at f
 have f2:=(Bool.and_eq_true_iff.mp f).2
 have:=List.all_eq_true.mp f2 _ (List.mem_map.mpr ⟨ps[i],List.mem_take_iff_getElem.mpr ⟨i,by omega,rfl⟩,rfl⟩)
 rw [fR]
 exact this
theorem Laid.lay {ks:List Kd} {W h:Int} {H:Hp} {ys:List V} {ps:List Pq} (pz:Paired (PqT ks H) ys ps) (ld:Laid ks W h ps):Lay ks W h ps:=by
 refine ⟨fun q hq=>?_,pF ld⟩
 obtain ⟨i,hi⟩:=List.mem_iff_getElem?.mp hq
 obtain ⟨k,hin,hk,x0,y0,_,h1,h2,_⟩:=ld.at pz hi
 refine ⟨hin,x0,y0,?_,?_⟩
 ·rw [bf hk]; exact h1
 ·rw [bf hk]; exact h2
theorem OnP.kd {ks:List Kd} {W h:Int} {q:Pq} (o:OnP ks W h q):∃k,ks[q.k]? = some k∧cj ks (.int q.k) (.bl q.c)=true:=fc o.1
theorem OnP.plac {ks:List Kd} {W h:Int} {q:Pq} {d:PyData} (o:OnP ks W h q) (pd:PqD d q):bW ks W h d=true:=by
 obtain ⟨k,hk,ly⟩:=o.kd
 obtain ⟨_,x0,y0,h1,h2⟩:=o
 refine pj pd ly hk x0 y0 ?_
 unfold onB
 rw [decide_eq_false (by omega),decide_eq_false (by omega)]
 rfl
theorem ut {ks:List Kd} {W h:Int} {d:PyData} {ds:List PyData} {ps:List Pq} (l:Lay ks W h ps) (hd:cr d=some ds) (pd:Paired PqD ds ps):oZ ks W h d:=by
 refine ⟨ds,ps,hd,pd,fun x hx=>?_,fun i p hp o ho=>?_⟩
 ·obtain ⟨i,hi⟩:=List.mem_iff_getElem?.mp hx
  obtain ⟨q,hq,e⟩:=Paired.getR pd hi
  exact (l.1 q (List.mem_of_getElem? hq)).plac e
 ·obtain ⟨j,hj,rfl⟩:=List.mem_take_iff_getElem.mp ho
  obtain ⟨hi,rfl⟩:=List.getElem?_eq_some_iff.mp hp
  have:=List.pairwise_iff_getElem.mp l.2 j i (by omega) hi (by omega)
  rw [fR,iT] at this
  simpa using this
theorem Lay.plate {ks:List Kd} {W h W' h':Int} {ps:List Pq} (l:Lay ks W h ps) (hW:W≤W') (hh:h≤h'):Lay ks W' h' ps :=
 ⟨fun q hq=>(by
  obtain ⟨a1,a2,a3,a4,a5⟩:=l.1 q hq
  exact ⟨a1,a2,a3,by omega,by omega⟩),l.2⟩
def mvQ (x y:Int) (q:Pq):Pq:=⟨q.k,q.c,q.x + x,q.y + y⟩
def exQ (q:Pq):Pq:=⟨q.k,q.c,q.y,q.x⟩
def enQ (m:Int) (q:Pq):Pq:=⟨q.k,q.c,q.x * m,q.y * m⟩
def swK (k:Kd):Kd:=⟨k.h,k.w,k.wo,k.wa,k.tu⟩
def tmK (m:Int) (k:Kd):Kd:=⟨k.w * m,k.h * m,k.wo,k.wa,k.tu⟩
theorem hG {ks:List Kd} {W h x y:Int} {q:Pq} (o:OnP ks W h q):aK ks (mvQ x y q)=shB x y (aK ks q):=by
 obtain ⟨k,hk,_⟩:=o.kd
 rw [bf hk,bf (p:=mvQ x y q) hk]
 show (⟨q.x + x,q.y + y,q.x + x + sd1 k q.c,q.y + y + sd2 k q.c⟩:Bx)=⟨q.x + x,q.y + y,q.x + sd1 k q.c + x,q.y + sd2 k q.c + y⟩
 rw [Int.add_right_comm q.x x,Int.add_right_comm q.y y]
theorem qc (k:Kd) (c:Bool):sd1 (swK k) c=sd2 k c∧sd2 (swK k) c=sd1 k c:=by cases c <;> exact ⟨rfl,rfl⟩
theorem qd (m:Int) (k:Kd) (c:Bool):sd1 (tmK m k) c=sd1 k c * m∧sd2 (tmK m k) c=sd2 k c * m:=by cases c <;> exact ⟨rfl,rfl⟩
theorem hI {ks:List Kd} {W h:Int} {q:Pq} (o:OnP ks W h q):aK (ks.map swK) (exQ q)=exB (aK ks q):=by
 obtain ⟨k,hk,_⟩:=o.kd
 rw [bf hk,bf (p:=exQ q) (k:=swK k) (by show (ks.map swK)[q.k]? = _; rw [List.getElem?_map,hk]; rfl)]
 show (⟨q.y,q.x,q.y + sd1 (swK k) q.c,q.x + sd2 (swK k) q.c⟩:Bx)=⟨q.y,q.x,q.y + sd2 k q.c,q.x + sd1 k q.c⟩
 rw [(qc k q.c).1,(qc k q.c).2]
theorem hJ {ks:List Kd} {W h m:Int} {q:Pq} (o:OnP ks W h q):aK (ks.map (tmK m)) (enQ m q)=enB m (aK ks q):=by
 obtain ⟨k,hk,_⟩:=o.kd
 rw [bf hk,bf (p:=enQ m q) (k:=tmK m k) (by show (ks.map (tmK m))[q.k]? = _; rw [List.getElem?_map,hk]; rfl)]
 show (⟨q.x * m,q.y * m,q.x * m + sd1 (tmK m k) q.c,q.y * m + sd2 (tmK m k) q.c⟩:Bx)=⟨q.x * m,q.y * m,(q.x + sd1 k q.c) * m,(q.y + sd2 k q.c) * m⟩
 rw [(qd m k q.c).1,(qd m k q.c).2,Int.add_mul,Int.add_mul]
theorem hU {ks ks':List Kd} {W h:Int} {f:Pq→Pq} {g:Bx→Bx} {ps:List Pq} (l:Lay ks W h ps) (e:∀q,OnP ks W h q→aK ks' (f q)=g (aK ks q)):(ps.map f).map (aK ks')=(ps.map (aK ks)).map g:=by
 rw [List.map_map,List.map_map]
 exact List.map_congr_left fun q hq=>e q (l.1 q hq)
theorem hV {f:Kd→Kd} (e:∀k,k.w≠0→aO (f k)=aO k):∀ (ks:List Kd) (i:Nat),(∀k∈ks,k.w≠0)→lyK (ks.map f) i=lyK ks i
 | [],_,_=>rfl
 | k :: r,i,h=>by
  show lyT i (f k) ++ lyK (r.map f) (i + 1)=lyT i k ++ lyK r (i + 1)
  rw [hV e r (i + 1) fun k hk=>h k (List.mem_cons_of_mem _ hk)]
  unfold lyT
  rw [e k (h k List.mem_cons_self)]
theorem pG (k:Kd):aO (swK k)=aO k:=by
 show (k.tu && !decide (k.h=k.w))=(k.tu && !decide (k.w=k.h))
 congr 2
 exact decide_eq_decide.mpr ⟨Eq.symm,Eq.symm⟩
theorem pH {m:Int} (m1:1≤m) (k:Kd):aO (tmK m k)=aO k:=by
 show (k.tu && !decide (k.w * m=k.h * m))=(k.tu && !decide (k.w=k.h))
 congr 2
 exact decide_eq_decide.mpr ⟨fun h=>Int.eq_of_mul_eq_mul_right (by omega) h,fun h=>by rw [h]⟩
theorem Lay.mv {ks:List Kd} {W h x y:Int} {ps:List Pq} (l:Lay ks W h ps) (x0:0≤x) (y0:0≤y):Lay ks (W + x) (h + y) (ps.map (mvQ x y)):=by
 refine l.map (fun q o=>?_) (fun o p h1 h2 a=>?_)
 ·have e:=hG (x:=x) (y:=y) o
  obtain ⟨a1,a2,a3,a4,a5⟩:=o
  refine ⟨a1,by show 0≤q.x + x; omega,by show 0≤q.y + y; omega,?_,?_⟩
  ·rw [e]; show (aK ks q).c + x≤_; omega
  ·rw [e]; show (aK ks q).d + y≤_; omega
 ·rw [hG h1,hG h2]
  unfold apB shB at *
  simp only [Bool.or_eq_true,decide_eq_true_eq] at *
  omega
theorem Lay.ex {ks:List Kd} {W h:Int} {ps:List Pq} (gk:∀k∈ks,Good k) (l:Lay ks W h ps):Lay (ks.map swK) h W (ps.map exQ):=by
 refine l.map (fun q o=>?_) (fun o p h1 h2 a=>?_)
 ·have e:=hI o
  obtain ⟨a1,a2,a3,a4,a5⟩:=o
  refine ⟨?_,a3,a2,?_,?_⟩
  ·rw [hV (fun k _=>pG k) ks 0 (fun k hk=>by have:=(gk k hk).w; omega)]; exact a1
  ·rw [e]; exact a5
  ·rw [e]; exact a4
 ·rw [hI h1,hI h2]
  unfold apB exB at *
  simp only [Bool.or_eq_true,decide_eq_true_eq] at *
  omega
theorem Lay.en {ks:List Kd} {W h m:Int} {ps:List Pq} (gk:∀k∈ks,Good k) (m1:1≤m) (l:Lay ks W h ps):Lay (ks.map (tmK m)) (W * m) (h * m) (ps.map (enQ m)):=by
 refine l.map (fun q o=>?_) (fun o p h1 h2 a=>?_)
 ·have e:=hJ (m:=m) o
  obtain ⟨a1,a2,a3,a4,a5⟩:=o
  refine ⟨?_,Int.mul_nonneg a2 (by omega),Int.mul_nonneg a3 (by omega),?_,?_⟩
  ·rw [hV (fun k _=>pH m1 k) ks 0 (fun k hk=>by have:=(gk k hk).w; omega)]; exact a1
  ·rw [e]; exact ej m1 a4
  ·rw [e]; exact ej m1 a5
 ·rw [hJ h1,hJ h2]
  unfold apB at *
  simp only [Bool.or_eq_true,decide_eq_true_eq] at *
  rcases a with ((a | a) | a) | a
  ·exact .inl (.inl (.inl (ej m1 a)))
  ·exact .inl (.inl (.inr (ej m1 a)))
  ·exact .inl (.inr (ej m1 a))
  ·exact .inr (ej m1 a)
def PqU (H:Hp) (v:V) (q:Pq):Prop:=∃a,v=.ref a∧H a=some (.tup (pqV q))
theorem PqU.keep {H H':Hp} (k:∀a xs,H a=some (.tup xs)→H' a=some (.tup xs)) {v:V} {q:Pq} (h:PqU H v q):PqU H' v q:=by
 obtain ⟨a,e,h⟩:=h
 exact ⟨a,e,k _ _ h⟩
theorem PqT.u {ks:List Kd} {H:Hp} {v:V} {q:Pq} (h:PqT ks H v q):PqU H v q:=by
 obtain ⟨a,e,h,_⟩:=h
 exact ⟨a,e,h⟩
def PqI (p:Addr) (H:Hp) (v:V) (q:Pq):Prop:=∃a,v=.ref a∧a≠p∧Sq H a (pqV q)
theorem PqU.i {p:Addr} {H:Hp} (pt:PotC H p) {v:V} {q:Pq} (h:PqU H v q):PqI p H v q:=by
 obtain ⟨a,e,h⟩:=h
 obtain ⟨_,hp⟩:=eU pt
 exact ⟨a,e,(fun z=>by rw [z,hp] at h; cases h),.inr h⟩
theorem kx {p:Addr} {H:Hp}:∀ {ys:List V} {ps:List Pq},Paired (PqI p H) ys ps→∃ds,Dts p H ys ds∧Paired PqD ds ps∧wts ds=5 * ps.length
 | _,_,.nil=>⟨[],.nil,.nil,rfl⟩
 | _,_,.cons (b:=q) ⟨a,e,n,h⟩ r=>by
  subst e
  obtain ⟨ds,d1,d2,d3⟩:=kx r
  have it:Dts p H (pqV q) [.int q.k,.bool q.c,.int q.x,.int q.y]:=.cons (.int _) (.cons (.bl _) (.cons (.int _) (.cons (.int _) .nil)))
  rcases h with h | h
  ·exact ⟨_ :: ds,.cons (.lst n h it) d1,.cons rfl d2,by rw [wts,d3,List.length_cons]; simp only [wt,wts]; omega⟩
  ·exact ⟨_ :: ds,.cons (.tup h it) d1,.cons rfl d2,by rw [wts,d3,List.length_cons]; simp only [wt,wts]; omega⟩
theorem qe {ks:List Kd} {W h:Int} {H:Hp}:∀ {ys:List V} {ps:List Pq},Paired (PqU H) ys ps→(∀q∈ps,OnP ks W h q)→Paired (PqT ks H) ys ps
 | _,_,.nil,_=>.nil
 | _,_,.cons ⟨a,e,h⟩ r,l=>by
  have o:=l _ List.mem_cons_self
  exact .cons ⟨a,e,h,o.1,o.2.1,o.2.2.1⟩ (qe r fun q hq=>l q (List.mem_cons_of_mem _ hq))
section
variable {P:Program} {w:World} {K:PySem.W.Frag} {mg:Str→Option Value} {base:Heap}
def ky (C:Addr):Sp:=fun vs H Q _=>∃ (pp s l:Addr) (b w h:Int) (ks:List Kd) (ys:List V) (ps:List Pq),vs=[.ref s,.int w,.int h,.ref l]∧ShopAt C H s b ks∧0≤b∧(∀k∈ks,Good k)∧1≤w∧1≤h∧l≠pp∧Sq H l ys∧Paired (PqI pp H) ys ps∧ys.length < 32∧Lay ks w h ps∧∀ (t:Addr) (z:Str) (u:V) (H':Hp),H' t=some (.tup [.str z,u])→KTB b (ps.map (aK ks)) z→Same H H'→Q (.ref t) H'
theorem sctky:FnScope ["shop","wide","high","laying"] ["shop","wide","high","laying"] (defScope bC):=⟨rfl,rfl,rfl,by decide +kernel,rfl,by decide +kernel,by decide +kernel⟩
theorem qV {f C:Addr} {fd:FuncData} (F:Fun K "tree_or_knot" "tree_or_knot" bC f fd) (B:Blt mg) (DI:Dn P w K mg base "is_laying" ["shop","wide","high","thing"] 6 (gU C)) (DPt:Dn P w K mg base "part_pieces" ["shop","x","y","pieces"] 37 (cY C 32)):FnOk P w K mg base CX0 38 f fd ["shop","wide","high","laying"] (ky C):=by
 refine F.ok sctky (fun vs H Q E h=>?_) (fun cdv A outer s H vs Q E hr h=>?_)
 ·obtain ⟨pp,s,l,b,w1,h1,ks,ys,ps,rfl,_⟩:=h
  rfl
 obtain ⟨pp,s,l,b,w1,h1,ks,ys,ps,rfl,S0,b0,gk,w0,h0,nl,hl,pz,l32,la,q⟩:=h
 have nd:=sctky.nd
 refine ⟨_,(@af _ _ _ _ _ (@aS _ _ _ _ _ _ _ _ (@aZ _ _ _ _ (@aR _ _ _ (@aw _ _ _ _ _ _ _ _ _ _ DI (hr.mono (by decide)) rfl (@aa _ _ _ _ _ (pv 0) (@aa _ _ _ _ _ (pv 1) (@aa _ _ _ _ _ (pv 2) (@aa _ _ _ _ _ (pv 3) ab rfl) rfl) rfl) rfl) (by decide) rfl rfl) (by intro _; rfl))) (@ai _ _ _ fg) aF) (@ai _ _ _ (@aA _ _ _ _ (@aw _ _ _ _ _ _ _ _ _ _ DPt hr rfl (@aa _ _ _ _ _ (pv 0) (@aa _ _ _ _ _ ae (@aa _ _ _ _ _ ae (@aa _ _ _ _ _ (bS (own:=["piece"]) (cs:=[]) (cap:=[]) rfl (fw (pv 3)) (aL (sc:=defScope bC) (N:=["shop","wide","high","laying"]) rfl rfl (by decide +kernel)) (fun _ _ _ _ _=>av (i:=0) (by show List.Nodup (["piece"]:List Str) ; decide +kernel) rfl (Or.inl rfl) (Or.inr rfl)) (fun _ _ _ _ _=>aT) (fun _ _ _ _ _=>(bv (r:=iw K) bR rfl B.tuple PyProof.Rows.boot_tuple (@aa _ _ _ _ _ (pv 0) ab rfl)))) ab rfl) rfl) rfl) rfl) (by decide) rfl rfl)))),?_⟩
 have sz:(40000:Nat) < sizeLine:=by decide
 have yl:=Paired.length pz
 obtain ⟨ds,d1,d2,d3⟩:=kx pz
 obtain ⟨d,hdr,hd,hwt⟩:∃d,cr d=some ds∧Dt pp H (.ref l) d∧wt d=wts ds + 1:=by
  rcases hl with z | z
  ·exact ⟨.list ds,rfl,.lst nl z d1,by rw [wt]⟩
  ·exact ⟨.tuple ds,rfl,.tup z d1,by rw [wt]⟩
 have ld:oZ ks w1 h1 d:=ut la hdr d2
 refine au (fun σ' H'=>σ'=[some (.ref s),some (.int w1),some (.int h1),some (.ref l)]∧Same H H') (fun R hR=>?_) ?_
 ·refine ⟨_,rfl,_,rfl,_,rfl,_,rfl,pp,s,b,w1,h1,ks,.ref l,d,rfl,S0,w0,h0,hd,by omega,fun r H1 hri s1=>⟨_,rfl,?_⟩⟩
  obtain rfl:=hri.mpr ld
  exact bh (hR _ _ ⟨rfl,s1⟩)
 rintro _ H1 ⟨rfl,s1⟩
 have hl1:=hl.same s1
 refine ⟨_,rfl,?_⟩
 dsimp only [jV,tC,kJ]
 refine de (K:=K) (j:=3) rfl hl1 (fun i us Hx=>Same H1 Hx∧Paired (PqU Hx) us (ps.take i)) (fun i us Hx _ e o h=>e.1 _ _ h) ⟨Same.refl _,.nil⟩ ?_ ?_
 ·rintro i x us Hx hi ⟨sx,pu⟩
  have hin:i < ys.length:=(List.getElem?_eq_some_iff.mp hi).1
  obtain ⟨q0,hq0,a,rfl,na,ha⟩:=Paired.getR pz hi
  have ul:=Paired.length pu
  rw [List.length_take] at ul
  refine ⟨by omega,leS.set rfl,aU ?_⟩
  refine ⟨_,rfl,a,pqV q0,rfl,?_⟩
  rcases (ha.same s1).same sx with z | z
  ·refine .inl ⟨SqL.of z,fun l2 hl2=>Nx.of hin ⟨sx.trans (Same.new hl2),?_⟩⟩
   rw [List.take_add_one,hq0]
   exact cP (Paired.mapP pu fun v q h=>h.keep fun a xs e=>Same.new hl2 _ _ e) (.cons ⟨l2,rfl,ah⟩ .nil)
  ·refine .inr ⟨SqT.of z,Nx.of hin ⟨sx,?_⟩⟩
   rw [List.take_add_one,hq0]
   exact cP pu (.cons ⟨a,rfl,z⟩ .nil)
 ·rintro us Hx ⟨sx,pu⟩
  rw [yl,List.take_length] at pu
  have ul:=Paired.length pu
  refine ⟨by omega,fun lo hlo=>?_⟩
  obtain ⟨H2,e2,k2,s2⟩:∃H',upd Hx lo (.lst us)=H'∧H' lo=some (.lst us)∧Same Hx H':=⟨_,rfl,ah,Same.new hlo⟩
  rw [show upd Hx lo _=H2 from e2]
  have s02:=(s1.trans sx).trans s2
  have pt2:Paired (PqT ks H2) us ps:=qe (Paired.mapP pu fun v q h=>h.keep fun a xs e=>s2 _ _ e) la.1
  obtain ⟨as,rfl,hzp⟩:=ku pt2
  rw [List.length_map] at ul
  exact ⟨s,lo,0,0,b,ks,as,rfl,cN s02 S0,b0,gk,k2,hzp,by omega,by omega,fun t z u H' ht kt s'=>q t z u H' ht (by rw [nD pt2]; exact qU kt) (s02.trans s')⟩
end
def SdV (H:Hp) (v:V) (g:Int×Int):Prop:=∃r,v=.ref r∧H r=some (.tup [.int g.1,.int g.2])∧0≤g.1∧0≤g.2
theorem SdV.keep {H H':Hp} (k:∀a xs,H a=some (.tup xs)→H' a=some (.tup xs)) {v:V} {g:Int×Int} (h:SdV H v g):SdV H' v g:=by
 obtain ⟨r,e,h,q⟩:=h
 exact ⟨r,e,k _ _ h,q⟩
theorem uu {α β:Type} {R:α→β→Prop} {xs:List α} {ys:List β} (h:Paired R xs ys) (hl:xs.length=4):∃a b c d a' b' c' d',xs=[a,b,c,d]∧ys=[a',b',c',d']∧R a a'∧R b b'∧R c c'∧R d d':=by
 obtain _ | ⟨h1,h⟩:=h
 ·cases hl
 obtain _ | ⟨h2,h⟩:=h
 ·cases hl
 obtain _ | ⟨h3,h⟩:=h
 ·cases hl
 obtain _ | ⟨h4,h⟩:=h
 ·cases hl
 obtain _ | ⟨h5,h⟩:=h
 ·exact ⟨_,_,_,_,_,_,_,_,rfl,rfl,h1,h2,h3,h4⟩
 ·simp at hl
section
variable {P:Program} {w:World} {K:PySem.W.Frag} {mg:Str→Option Value} {base:Heap}
def hX:Sp:=fun vs H Q _=>∃ (p t kl:Addr) (b W h:Int) (ks:List Kd),vs=[.ref p,.ref t,.int W,.int h]∧PotC H p∧LS H t b ks kl∧kl≠p∧1≤ks.length∧ks.length≤8∧(∀k∈ks,Good k)∧0≤b ∧
 ∀ (l:Addr) (zs:List V) (qs:List Pq) (H':Hp),H l=none→l≠p→H' l=some (.lst zs)→Paired (PqT ks H') zs qs→Laid ks W h qs→zs.length≤4→PotC H' p→But p H H'→Q (.ref l) H'
theorem scwheel:FnScope ["_law_pot_here","_law_shop_here","_law_wide","_law_high","_law_wheel_here","_law_a","_law_b","_law_c","_law_d","_law_gap","_law_spots","_law_found","_law_lying","_law_spot"] ["_law_pot_here","_law_shop_here","_law_wide","_law_high"] (defScope dC):=⟨rfl,rfl,rfl,by decide +kernel,rfl,by decide +kernel,by decide +kernel⟩
theorem nH {f:Addr} {fd:FuncData} (F:Fun K "_law_wheel" "_law_wheel" dC f fd) (B:Blt mg) (DD:Dn P w K mg base "_law_take" ["_law_pot_here","_law_many"] 1 (cu)) (DLy:Dn P w K mg base "_law_lyings" ["_law_shop_here"] 1 (dh)) (DSd:Dn P w K mg base "_law_sides" ["_law_shop_here","_law_kind","_law_turned"] 1 (eg)) (DFi:Dn P w K mg base "_law_fits" ["_law_shop_here","_law_wide","_law_high","_law_pieces","_law_piece"] 3 (eZ)):FnOk P w K mg base CX0 4 f fd ["_law_pot_here","_law_shop_here","_law_wide","_law_high"] (hX):=by
 refine F.ok scwheel (fun vs H Q E h=>?_) (fun cdv A outer s H vs Q E hr h=>?_)
 ·obtain ⟨p,t,kl,b,W,h1,ks,rfl,_⟩:=h
  rfl
 obtain ⟨p,t,kl,b,W,h1,ks,rfl,pt,sh,nkp,k1,k08,gk,b0,q⟩:=h
 have nd:=scwheel.nd
 refine ⟨_,(@af _ _ _ _ _ (cz (i:=4) (own:=["_law_k"]) (cs:=["_law_pot_here","_law_shop_here"]) (cap:=[0,1]) rfl nd rfl rfl rfl (cZ rfl B.range (@aa _ _ _ _ _ ae ab rfl)) (aL (sc:=defScope dC) (N:=["_law_pot_here","_law_shop_here","_law_wide","_law_high","_law_wheel_here","_law_a","_law_b","_law_c","_law_d","_law_gap","_law_spots","_law_found","_law_lying","_law_spot"]) rfl rfl (by decide +kernel)) (fun _ _ _ _ _=>av (i:=0) (by show List.Nodup (["_law_k","_law_pot_here","_law_shop_here"]:List Str) ; decide +kernel) rfl (Or.inl rfl) (Or.inr rfl)) (fun _ _ _ _ _=>aT) (fun _ _ _ _ _=>(ar (r:=qz K) ix_list (@aw _ _ _ _ _ _ _ _ _ _ DLy (hr.mono (by decide)) rfl (@aa _ _ _ _ _ (pv 2) ab rfl) (by decide) rfl rfl) (@aw _ _ _ _ _ _ _ _ _ _ DD (hr.mono (by decide)) rfl (@aa _ _ _ _ _ (pv 1) (@aa _ _ _ _ _ (aE (r:=uj K) aP rfl B.len PySem.boot_len (@aa _ _ _ _ _ (@aw _ _ _ _ _ _ _ _ _ _ DLy (hr.mono (by decide)) rfl (@aa _ _ _ _ _ (pv 2) ab rfl) (by decide) rfl rfl) ab rfl)) ab rfl) rfl) (by decide) rfl rfl) (fun _ _=>rfl)))) (@af _ _ _ _ _ (@ce _ _ _ _ _ _ (bS (own:=["_law_kind","_law_turned"]) (cs:=["_law_shop_here"]) (cap:=[1]) rfl (bc (pv 4)) (aL (sc:=defScope dC) (N:=["_law_pot_here","_law_shop_here","_law_wide","_law_high","_law_wheel_here","_law_a","_law_b","_law_c","_law_d","_law_gap","_law_spots","_law_found","_law_lying","_law_spot"]) rfl rfl (by decide +kernel)) (fun _ _ _ _ _=>jo K rfl rfl (by show List.Nodup (["_law_kind","_law_turned","_law_shop_here"]:List Str) ; decide +kernel) rfl rfl rfl rfl) (fun _ _ _ _ _=>aT) (fun _ _ _ _ _=>(@aw _ _ _ _ _ _ _ _ _ _ DSd (hr.mono (by decide)) rfl (@aa _ _ _ _ _ (pv 2) (@aa _ _ _ _ _ (pv 0) (@aa _ _ _ _ _ (pv 1) ab rfl) rfl) rfl) (by decide) rfl rfl))) (jh rfl (ay (av (i:=5) nd rfl (Or.inl rfl)) (ay (av (i:=6) nd rfl (Or.inl rfl)) (ay (av (i:=7) nd rfl (Or.inl rfl)) (ay (av (i:=8) nd rfl (Or.inl rfl)) aX))))) rfl rfl rfl) (@af _ _ _ _ _ (@aD _ _ 9 _ _ _ _ nd rfl (Or.inl rfl) (@ar _ _ _ _ _ _ _ ix_list (@bd _ _ _ _ (@aa _ _ _ _ _ (@ar _ _ _ _ _ _ _ ix_tup (pv 1) ae (fun _ _=>rfl)) (@aa _ _ _ _ _ (@aB _ _ _ _ _ _ _ _ aJ (@ar _ _ _ _ _ _ _ ix_tup (pv 1) ae (fun _ _=>rfl)) ae) (@aa _ _ _ _ _ (@aE _ _ _ _ _ _ _ _ _ (cF rfl) rfl B.max PyProof.Rows.boot_max (@aa _ _ _ _ _ ae (@aa _ _ _ _ _ (@aB _ _ _ _ _ _ _ _ cQ (@ar _ _ _ _ _ _ _ ix_tup (pv 1) ae (fun _ _=>rfl)) ae) ab rfl) rfl) (by decide) (by decide) rfl rfl) ab rfl) rfl) rfl)) (@aw _ _ _ _ _ _ _ _ _ _ DD (hr.mono (by decide)) rfl (@aa _ _ _ _ _ (pv 0) (@aa _ _ _ _ _ ae ab rfl) rfl) (by decide) rfl rfl) (fun _ _=>rfl)) rfl (Or.inl rfl)) (@af _ _ _ _ _ (@aD _ _ 10 _ _ _ _ nd rfl (Or.inl rfl) (@bd _ _ _ _ (@aa _ _ _ _ _ (@aN _ _ _ _ _ (@aa _ _ _ _ _ ae (@aa _ _ _ _ _ ae ab rfl) rfl)) (@aa _ _ _ _ _ (@aN _ _ _ _ _ (@aa _ _ _ _ _ (@aB _ _ _ _ _ _ _ _ aJ (@ar _ _ _ _ _ _ _ ix_tup (pv 5) ae (fun _ _=>rfl)) (pv 9)) (@aa _ _ _ _ _ ae ab rfl) rfl)) (@aa _ _ _ _ _ (@aN _ _ _ _ _ (@aa _ _ _ _ _ (@aB _ _ _ _ _ _ _ _ aJ (@ar _ _ _ _ _ _ _ ix_tup (pv 8) ae (fun _ _=>rfl)) (pv 9)) (@aa _ _ _ _ _ (@aB _ _ _ _ _ _ _ _ aJ (@aE _ _ _ _ _ _ _ _ _ (cF rfl) rfl B.max PyProof.Rows.boot_max (@aa _ _ _ _ _ (@ar _ _ _ _ _ _ _ ix_tup (pv 6) ae (fun _ _=>rfl)) (@aa _ _ _ _ _ (@ar _ _ _ _ _ _ _ ix_tup (pv 5) ae (fun _ _=>rfl)) ab rfl) rfl) (by decide) (by decide) rfl rfl) (pv 9)) ab rfl) rfl)) (@aa _ _ _ _ _ (@aN _ _ _ _ _ (@aa _ _ _ _ _ ae (@aa _ _ _ _ _ (@aB _ _ _ _ _ _ _ _ aJ (@ar _ _ _ _ _ _ _ ix_tup (pv 5) ae (fun _ _=>rfl)) (pv 9)) ab rfl) rfl)) ab rfl) rfl) rfl) rfl)) rfl (Or.inl rfl)) (@af _ _ _ _ _ (@aD _ _ 11 _ _ _ _ nd rfl (Or.inl rfl) (@bd _ _ _ _ ab) rfl (Or.inl rfl)) (@af _ _ _ _ _ (@cf _ _ _ _ _ _ _ _ PassesOwn.never rfl (ji rfl B.zip (@aa _ _ _ _ _ (pv 4) (@aa _ _ _ _ _ (pv 10) ab rfl) rfl)) (br rfl (ay (av (i:=12) nd rfl (Or.inl rfl)) (ay (av (i:=13) nd rfl (Or.inl rfl)) aX))) (@ai _ _ _ (@aS _ _ _ _ _ _ _ _ (@aR _ _ _ (@aw _ _ _ _ _ _ _ _ _ _ DFi hr rfl (@aa _ _ _ _ _ (pv 1) (@aa _ _ _ _ _ (pv 2) (@aa _ _ _ _ _ (pv 3) (@aa _ _ _ _ _ (pv 11) (@aa _ _ _ _ _ (@aB _ _ _ _ _ _ _ _ cK (pv 12) (pv 13)) ab rfl) rfl) rfl) rfl) rfl) (by decide) rfl rfl) (by intro _; rfl)) (@ai _ _ _ (@bF _ _ _ _ (@dk _ _ _ _ _ _ _ _ _ _ _ _ PySem.F.plainAttrs_list PySem.F.slot_list_append PySem.F.type_list_append bo (pv 11) (@aa _ _ _ _ _ (@aB _ _ _ _ _ _ _ _ cK (pv 12) (pv 13)) ab rfl) rfl rfl rfl rfl rfl) rfl)) aF)) (by intro _; rfl)) (@ai _ _ _ (@aA _ _ _ _ (pv 11))))))))),?_⟩
 have sz:(1000:Nat) < sizeLine:=by decide
 have ly8:=eW ks 0
 have ly1:1≤(lyK ks 0).length:=by
  cases ks with
  | nil=>exact absurd k1 (by simp)
  | cons k r=>exact Nat.succ_le_of_lt (Nat.zero_lt_succ _)
 have e3:(100:Int) < 10 ^ 60:=by decide
 refine au (fun σ' H'=>∃ (wo:Addr) (us:List V) (ls:List (Nat×Bool)),σ'=[some (.ref p),some (.ref t),some (.int W),some (.int h1),some (.ref wo),none,none,none,none,none,none,none,none,none]∧wo≠p∧H wo=none∧H' wo=some (.lst us)∧Paired (LyC H') us ls∧(∀q∈ls,q∈lyK ks 0)∧us.length=4∧PotC H' p∧But p H H') (fun R hR=>?_) ?_
 ·refine ⟨4,rfl,by decide,by decide,mS (lo:=0) (n:=4) (fun i us Hx=>∃ls,Paired (LyC Hx) us ls∧(∀q∈ls,q∈lyK ks 0)∧us.length=i∧PotC Hx p∧But p H Hx) ⟨[],.nil,(fun q hq=>by simp at hq),rfl,pt,But.refl'⟩ ?_ ?_⟩
  ·rintro i us Hx hi ⟨ls,pl,ml,ul,px,bx⟩
   have shx:=sh.but nkp pt bx
   refine ⟨by omega,leS.set rfl,aU ?_⟩
   refine ⟨_,rfl,t,kl,b,ks,rfl,shx,k08,fun l1 u1 H1 hl1 hl10 pl1 s1=>⟨_,rfl,_,rfl,t,kl,b,ks,rfl,shx.same s1,k08,fun l2 u2 H2 hl2 hl20 pl2 s2=>?_⟩⟩
   have px2:=(px.same s1).same s2
   have en1:=Paired.length pl1
   have en2:=Paired.length pl2
   refine ⟨l2,_,rfl,.inl (SqL.of hl2),p,_,rfl,px2,by omega,by omega,fun r H3 r0 r1 px3 b3=>?_⟩
   obtain ⟨v,hv⟩:∃v,u1[r.toNat]? = some v:=⟨_,List.getElem?_eq_getElem (show r.toNat < u1.length by omega)⟩
   obtain ⟨q0,hq0,aq,rfl,haq⟩:=Paired.getR pl1 hv
   have n1:l1≠p:=Ne.symm (px.ne hl10)
   have s12:=s1.trans s2
   refine ⟨l1,_,_,_,rfl,rfl,SqL.of (b3 _ _ n1 (s2 _ _ hl1)),cL r0 hv,Nx.of hi ⟨ls ++ [q0],cP (Paired.mapP pl fun v q h=>h.keep fun a xs e=>bQ b3 px2 (s12 _ _ e)) (.cons ⟨aq,rfl,bQ b3 px2 (s2 _ _ haq)⟩ .nil),fun q hq=>?_,by rw [List.length_append,ul]; rfl,px3,fun c o n e=>b3 _ _ n (s12 _ _ (bx _ _ n e))⟩⟩
   rcases List.mem_append.mp hq with hq | hq
   ·exact ml q hq
   ·rw [List.mem_singleton.mp hq]; exact List.mem_of_getElem? hq0
  ·rintro us Hx ⟨ls,pl,ml,ul,px,bx⟩
   refine ⟨by omega,fun wo hwo=>?_⟩
   obtain ⟨H1,e1,k1,n1,s1,b1,pt1⟩:=bJ (o:=.lst us) bx px hwo
   rw [show upd Hx wo _=H1 from e1]
   exact hR _ _ ⟨wo,us,ls,rfl,n1,(bx.freeC px hwo).2,k1,Paired.mapP pl fun v q h=>h.keep fun a xs e=>s1 _ _ e,ml,ul,pt1,b1⟩
 rintro _ H1 ⟨wo,us,ls,rfl,nwp,hwo0,hwo1,pl1,ml,ul4,pt1,b1⟩
 have sh1:=sh.but nkp pt b1
 refine au (fun σ' H'=>∃ (ra rb rc rd:Addr) (ga gb gc gd:Int×Int),σ'=[some (.ref p),some (.ref t),some (.int W),some (.int h1),some (.ref wo),some (.ref ra),some (.ref rb),some (.ref rc),some (.ref rd),none,none,none,none,none]∧SdV H' (.ref ra) ga∧SdV H' (.ref rb) gb∧SdV H' (.ref rc) gc∧SdV H' (.ref rd) gd∧Same H1 H') (fun R hR=>?_) ?_
 ·refine ⟨_,rfl,wo,rfl,⟨_,SqL.of hwo1⟩,(bg (K:=K) (.inl hwo1) (fun i vs Hx=>Same H1 Hx∧vs.length=i∧∃gs,Paired (SdV Hx) vs gs) (fun i us Hx _ ⟨sx,_⟩ o e=>sx _ _ e) ⟨Same.refl _,rfl,[],.nil⟩ ?_ ?_).1 hwo1⟩
  ·rintro i x vs Hx hi ⟨sx,vl,gs,pg⟩
   have hin:i < us.length:=(List.getElem?_eq_some_iff.mp hi).1
   obtain ⟨q0,hq0,aq,rfl,haq⟩:=Paired.getR pl1 hi
   obtain ⟨_,kk,hkk,_⟩:=dD (ml q0 (List.mem_of_getElem? hq0))
   have hkk:ks[q0.1]? = some kk:=by simpa using hkk
   have g0:=gk kk (List.mem_of_getElem? hkk)
   have g1:=g0.w
   have g2:=g0.h
   refine ⟨by omega,aq,_,rfl,SqT.of (sx _ _ haq),rfl,_,_,rfl,_,_,rfl,rfl,qS (leS.set rfl) (leS.set rfl),aU ?_⟩
   refine ⟨_,rfl,_,rfl,_,rfl,t,kl,b,ks,q0.1,q0.2,kk,rfl,sh1.same sx,hkk,fun r H3 h3 s3=>Nx.of hin ⟨sx.trans s3,by rw [List.length_append,vl]; rfl,gs ++ [(sd1 kk q0.2,sd2 kk q0.2)],cP (Paired.mapP pg fun v q h=>h.keep fun a xs e=>s3 _ _ e) (.cons ⟨r,rfl,h3,?_,?_⟩ .nil)⟩⟩
   ·show 0≤sd1 kk q0.2
    unfold sd1; split <;> omega
   ·show 0≤sd2 kk q0.2
    unfold sd2; split <;> omega
  ·rintro vs Hx ⟨sx,vl,gs,pg⟩
   refine ⟨by omega,fun l hl=>?_⟩
   obtain ⟨_,_,_,_,ga,gb,gc,gd,rfl,rfl,⟨ra,rfl,ha⟩,⟨rb,rfl,hb⟩,⟨rc,rfl,hc⟩,⟨rd,rfl,hd⟩⟩:=uu pg (by omega)
   obtain ⟨H2,e2,k2,s2⟩:∃H',upd Hx l (.lst [.ref ra,.ref rb,.ref rc,.ref rd])=H'∧H' l=some (.lst [.ref ra,.ref rb,.ref rc,.ref rd])∧Same Hx H':=⟨_,rfl,ah,Same.new hl⟩
   rw [show upd Hx l _=H2 from e2]
   exact ⟨l,_,rfl,.inl (SqL.of k2),rfl,_,_,rfl,_,_,rfl,_,_,rfl,_,_,rfl,rfl,hR _ _ ⟨ra,rb,rc,rd,ga,gb,gc,gd,rfl,SdV.keep (fun a xs e=>s2 _ _ e) ⟨ra,rfl,ha⟩,SdV.keep (fun a xs e=>s2 _ _ e) ⟨rb,rfl,hb⟩,SdV.keep (fun a xs e=>s2 _ _ e) ⟨rc,rfl,hc⟩,SdV.keep (fun a xs e=>s2 _ _ e) ⟨rd,rfl,hd⟩,sx.trans s2⟩⟩
 rintro _ H2 ⟨ra,rb,rc,rd,ga,gb,gc,gd,rfl,sa,sb,sc,sd,s12⟩
 have pt2:=pt1.same s12
 have b2:But p H H2:=fun c o n e=>s12 _ _ (b1 _ _ n e)
 have hwo2:=s12 _ _ hwo1
 refine au (fun σ' H'=>∃gp:Int,σ'=[some (.ref p),some (.ref t),some (.int W),some (.int h1),some (.ref wo),some (.ref ra),some (.ref rb),some (.ref rc),some (.ref rd),some (.int gp),none,none,none,none]∧0≤gp∧PotC H' p∧But p H2 H') (fun R hR=>?_) ?_
 ·obtain ⟨kr,ht0,_⟩:=id sh1
  have ht:=s12 _ _ ht0
  refine ⟨_,rfl,t,_,0,_,rfl,rfl,SqT.of ht,rfl,_,rfl,t,_,0,_,rfl,rfl,SqT.of ht,rfl,_,_,rfl,rfl,_,rfl,t,_,0,_,rfl,rfl,SqT.of ht,rfl,_,_,rfl,rfl,_,_,rfl,(by show 3≤sizeLine; decide),fun l3 hl3=>?_⟩
  obtain ⟨H3,e3,k3,n3,s3,b3,pt3⟩:=bJ (o:=.lst [.int b,.int (b + 1),.int (if b - 1 > 0 then b - 1 else 0)]) But.refl' pt2 hl3
  rw [show upd H2 l3 _=H3 from e3]
  refine ⟨_,rfl,p,3,rfl,pt3,by decide,by decide,fun z H4 z0 z1 pt4 b4=>?_⟩
  obtain ⟨xx,hxx,xx0⟩:∃xx:Int,atI [V.int b,V.int (b + 1),V.int (if b - 1 > 0 then b - 1 else 0)] z=some (.int xx)∧0≤xx:=by
   have:z=0∨z=1∨z=2:=by omega
   rcases this with rfl | rfl | rfl
   ·exact ⟨_,rfl,by omega⟩
   ·exact ⟨_,rfl,by omega⟩
   ·exact ⟨_,rfl,by split <;> omega⟩
  exact ⟨l3,_,_,_,rfl,rfl,SqL.of (b4 _ _ n3 k3),hxx,hR _ _ ⟨xx,rfl,xx0,pt4,b3.trans b4⟩⟩
 rintro _ H3 ⟨gp,rfl,gp0,pt3,b23⟩
 have hwo3:=b23 _ _ nwp hwo2
 have b3:=b2.trans b23
 have k12:∀a xs,H1 a=some (.tup xs)→H3 a=some (.tup xs):=fun a xs e=>bQ b23 pt2 (s12 _ _ e)
 have pl3:Paired (LyC H3) us ls:=Paired.mapP pl1 fun v q h=>h.keep k12
 obtain ⟨_,ea,ha,ga1,ga2⟩:=SdV.keep (fun a xs e=>bQ b23 pt2 e) sa
 cases ea
 obtain ⟨_,eb,hb,gb1,gb2⟩:=SdV.keep (fun a xs e=>bQ b23 pt2 e) sb
 cases eb
 obtain ⟨_,ed,hd,gd1,gd2⟩:=SdV.keep (fun a xs e=>bQ b23 pt2 e) sd
 cases ed
 clear sa sb sc sd hwo2 b23 pt2 s12 hwo1 pl1 k12 b2
 clear H2
 refine au (fun σ' H'=>∃ (so:Addr) (ss:List V) (gs:List (Int×Int)),σ'=[some (.ref p),some (.ref t),some (.int W),some (.int h1),some (.ref wo),some (.ref ra),some (.ref rb),some (.ref rc),some (.ref rd),some (.int gp),some (.ref so),none,none,none]∧so≠p∧ss.length=4∧H' so=some (.lst ss)∧Paired (SdV H') ss gs∧PotC H' p∧But p H3 H') (fun R hR=>?_) ?_
 ·refine ⟨(by show 2≤sizeLine; decide),fun t1 ht1=>?_⟩
  obtain ⟨H4,e4,k4,n4,s4,b4,pt4⟩:=bJ (o:=.tup [.int 0,.int 0]) But.refl' pt3 ht1
  rw [show upd H3 t1 _=H4 from e4]
  have ha4:=s4 _ _ ha
  refine ⟨_,rfl,ra,_,0,_,rfl,rfl,SqT.of ha4,rfl,_,rfl,_,_,rfl,rfl,(by show 2≤sizeLine; decide),fun t2 ht2=>?_⟩
  obtain ⟨H5,e5,k5,n5,s5,b5,pt5⟩:=bJ (o:=.tup [.int (ga.1 + gp),.int 0]) b4 pt4 ht2
  rw [show upd H4 t2 _=H5 from e5]
  have s35:=s4.trans s5
  refine ⟨_,rfl,rd,_,0,_,rfl,rfl,SqT.of (s35 _ _ hd),rfl,_,rfl,_,_,rfl,rfl,_,rfl,rb,_,1,_,rfl,rfl,SqT.of (s35 _ _ hb),rfl,_,rfl,ra,_,1,_,rfl,rfl,SqT.of (s35 _ _ ha),rfl,_,_,rfl,_,rfl,_,_,rfl,rfl,(by show 2≤sizeLine; decide),fun t3 ht3=>?_⟩
  obtain ⟨H6,e6,k6,n6,s6,b6,pt6⟩:=bJ (o:=.tup [.int (gd.1 + gp),.int ((if ga.2 > gb.2 then ga.2 else gb.2) + gp)]) b5 pt5 ht3
  rw [show upd H5 t3 _=H6 from e6]
  have s36:=s35.trans s6
  refine ⟨_,rfl,ra,_,1,_,rfl,rfl,SqT.of (s36 _ _ ha),rfl,_,rfl,_,_,rfl,rfl,(by show 2≤sizeLine; decide),fun t4 ht4=>?_⟩
  obtain ⟨H7,e7,k7,n7,s7,b7,pt7⟩:=bJ (o:=.tup [.int 0,.int (ga.2 + gp)]) b6 pt6 ht4
  rw [show upd H6 t4 _=H7 from e7]
  refine ⟨(by show 4≤sizeLine; decide),fun so hso=>?_⟩
  obtain ⟨H8,e8,k8,n8,s8,b8,pt8⟩:=bJ (o:=.lst [.ref t1,.ref t2,.ref t3,.ref t4]) b7 pt7 hso
  rw [show upd H7 so _=H8 from e8]
  refine hR _ _ ⟨so,_,[(0,0),(ga.1 + gp,0),(gd.1 + gp,(if ga.2 > gb.2 then ga.2 else gb.2) + gp),(0,ga.2 + gp)],rfl,n8,rfl,k8,?_,pt8,b8⟩
  refine .cons ⟨t1,rfl,s8 _ _ (s7 _ _ (s6 _ _ (s5 _ _ k4))),by decide,by decide⟩ (.cons ⟨t2,rfl,s8 _ _ (s7 _ _ (s6 _ _ k5)),?_,(by show (0:Int)≤0; decide)⟩ (.cons ⟨t3,rfl,s8 _ _ (s7 _ _ k6),?_,?_⟩ (.cons ⟨t4,rfl,s8 _ _ k7,(by show (0:Int)≤0; decide),?_⟩ .nil)))
  ·show 0≤ga.1 + gp
   omega
  ·show 0≤gd.1 + gp
   omega
  ·show 0≤(if ga.2 > gb.2 then ga.2 else gb.2) + gp
   split <;> omega
  ·show 0≤ga.2 + gp
   omega
 rintro _ H4 ⟨so,ss,gs,rfl,nsp,sl4,hso4,pg4,pt4,b34⟩
 have b04:=b3.trans b34
 refine au (fun σ' H'=>∃fo:Addr,σ'=[some (.ref p),some (.ref t),some (.int W),some (.int h1),some (.ref wo),some (.ref ra),some (.ref rb),some (.ref rc),some (.ref rd),some (.int gp),some (.ref so),some (.ref fo),none,none]∧fo≠p∧H4 fo=none∧H' fo=some (.lst [])∧PotC H' p∧But p H4 H') (fun R hR=>?_) ?_
 ·refine ⟨by decide,fun fo hfo=>?_⟩
  obtain ⟨H5,e5,k5,n5,s5,b5,pt5⟩:=bJ (o:=.lst []) But.refl' pt4 hfo
  rw [show upd H4 fo _=H5 from e5]
  exact hR _ _ ⟨fo,rfl,n5,hfo,k5,pt5,b5⟩
 rintro _ H5 ⟨fo,rfl,nfp,hfo4,hfo5,pt5,b45⟩
 have hwo4:=b34 _ _ nwp hwo3
 have hfo0:H fo=none:=(b04.freeC pt4 hfo4).2
 have nwf:wo≠fo:=aj hwo4 hfo4
 have nsf:so≠fo:=aj hso4 hfo4
 have hwo5:=b45 _ _ nwp hwo4
 have hso5:=b45 _ _ nsp hso4
 have pl5:Paired (LyC H5) us ls:=Paired.mapP pl3 fun v q h=>h.keep fun a xs e=>bQ b45 pt4 (bQ b34 pt3 e)
 have pg5:Paired (SdV H5) ss gs:=Paired.mapP pg4 fun v q h=>h.keep fun a xs e=>bQ b45 pt4 e
 obtain ⟨kr,lst1,lst2,lst3⟩:=id sh
 have nkf:kl≠fo:=aj lst2 hfo0
 have b05:=b04.trans b45
 obtain ⟨_,hp5⟩:=eU pt5
 have tk:∀ {Hx:Hp},(∀c o,c≠p→c≠fo→H5 c=some o→Hx c=some o)→∀a xs,H5 a=some (.tup xs)→Hx a=some (.tup xs):=fun bx a xs e=>bx _ _ (fun z=>by rw [z,hp5] at e; cases e) (fun z=>by rw [z,hfo5] at e; cases e) e
 have shx:∀ {Hx:Hp},(∀c o,c≠p→c≠fo→H5 c=some o→Hx c=some o)→LS Hx t b ks kl:=fun bx=>⟨kr,tk bx _ _ (bQ b05 pt lst1),bx _ _ nkp nkf (b05 _ _ nkp lst2),Tups.keep (fun a xs e=>tk bx _ _ (bQ b05 pt e)) lst3⟩
 refine au (fun σ' H'=>∃ (zs:List V) (qs:List Pq),(∃v12 v13,σ'=[some (.ref p),some (.ref t),some (.int W),some (.int h1),some (.ref wo),some (.ref ra),some (.ref rb),some (.ref rc),some (.ref rd),some (.int gp),some (.ref so),some (.ref fo),v12,v13])∧H' fo=some (.lst zs)∧Paired (PqT ks H') zs qs∧Laid ks W h1 qs∧zs.length≤us.length∧PotC H' p∧(∀c o,c≠p→c≠fo→H5 c=some o→H' c=some o)) (fun R hR=>?_) ?_
 ·refine ⟨_,rfl,_,rfl,wo,so,us,ss,rfl,hwo5,hso5,oK (xs:=us) (ys:=ss) (fun i σ' H'=>∃ (zs:List V) (qs:List Pq),(∃v12 v13,σ'=[some (.ref p),some (.ref t),some (.int W),some (.int h1),some (.ref wo),some (.ref ra),some (.ref rb),some (.ref rc),some (.ref rd),some (.int gp),some (.ref so),some (.ref fo),v12,v13])∧H' fo=some (.lst zs)∧Paired (PqT ks H') zs qs∧Laid ks W h1 qs∧zs.length≤i∧PotC H' p∧(∀c o,c≠p→c≠fo→H5 c=some o→H' c=some o)) (by omega) ⟨[],[],⟨_,_,rfl⟩,hfo5,.nil,fun i p hp=>by simp at hp,Nat.le_refl _,pt5,fun _ _ _ _ e=>e⟩ (fun i σ Hx ⟨_,_,_,_,_,_,_,_,bx⟩=>⟨bx _ _ nwp nwf hwo5,bx _ _ nsp nsf hso5⟩) ?_ (fun σ Hx e=>hR _ _ e)⟩
  rintro i v1 v2 tz _ H6 hv1 hv2 htz ⟨zs,qs,⟨v12,v13,rfl⟩,hz6,pz6,ld6,zl6,pt6,b56⟩
  have hin:i < us.length:=(List.getElem?_eq_some_iff.mp hv1).1
  obtain ⟨q0,hq0,aq,rfl,haq⟩:=Paired.getR pl5 hv1
  obtain ⟨g0,_,ag,rfl,hag,g01,g02⟩:=Paired.getR pg5 hv2
  have hly:=ml q0 (List.mem_of_getElem? hq0)
  obtain ⟨_,kk,hkk,_⟩:=dD hly
  have hkk:ks[q0.1]? = some kk:=by simpa using hkk
  obtain ⟨H7,e7,k7,n7,s7,b7,pt7⟩:=bJ (o:=.tup [.ref aq,.ref ag]) But.refl' pt6 htz
  rw [show upd H6 tz _=H7 from e7]
  have haq7:=s7 _ _ (tk b56 _ _ haq)
  have hag7:=s7 _ _ (tk b56 _ _ hag)
  refine ⟨tz,_,rfl,SqT.of k7,rfl,_,_,rfl,_,_,rfl,rfl,?_⟩
  refine ⟨_,rfl,_,rfl,_,rfl,_,rfl,_,rfl,_,rfl,aq,ag,_,_,rfl,rfl,haq7,hag7,(by show 2 + 2≤sizeLine; decide),fun m H8 hm hm8=>?_⟩
  have s78:Same H7 H8:=by
   rcases hm with ⟨e,_⟩ | ⟨e1,e2⟩
   ·rw [e]; exact Same.refl _
   ·rw [e2]; exact Same.new e1
  have hm8:H8 m=some (.tup (pqV ⟨q0.1,q0.2,g0.1,g0.2⟩)):=hm8
  have s68:=s7.trans s78
  have pz8:Paired (PqT ks H8) zs qs:=Paired.mapP pz6 fun v q h=>h.keep fun a xs e=>s68 _ _ e
  have bx8:∀c o,c≠p→c≠fo→H5 c=some o→H8 c=some o:=fun c o n1 n2 e=>s68 _ _ (b56 _ _ n1 n2 e)
  refine ⟨t,kl,fo,m,b,W,h1,ks,zs,qs,⟨q0.1,q0.2,g0.1,g0.2⟩,kk,rfl,shx bx8,s68 _ _ hz6,Paired.impS (fun v q h=>h.s) pz8,by omega,.inr hm8,hkk,fun H9 s9=>⟨_,rfl,?_⟩⟩
  have s69:=s68.trans s9
  refine bE (fun cc=>?_) (fun cc=>?_)
  ·have hz9:=s69 _ _ hz6
   refine ⟨_,rfl,.inl ⟨rfl,_,SqL.of hz9⟩,_,rfl,_,rfl,aq,ag,_,_,rfl,rfl,s9 _ _ (s78 _ _ haq7),s9 _ _ (s78 _ _ hag7),(by show 2 + 2≤sizeLine; decide),fun m2 H10 hm' hm10=>?_⟩
   have s9x:Same H9 H10:=by
    rcases hm' with ⟨e,_⟩ | ⟨e1,e2⟩
    ·rw [e]; exact Same.refl _
    ·rw [e2]; exact Same.new e1
   have hm10:H10 m2=some (.tup (pqV ⟨q0.1,q0.2,g0.1,g0.2⟩)):=hm10
   have s6x:=s69.trans s9x
   have hz10:=s6x _ _ hz6
   have kt:∀c xs,H10 c=some (.tup xs)→(upd H10 fo (.lst (zs ++ [.ref m2]))) c=some (.tup xs):=fun c xs e=>by
    rw [az (fun z=>by rw [z,hz10] at e; cases e)]; exact e
   refine ⟨fo,_,_,rfl,rfl,hz10,by omega,zs ++ [.ref m2],qs ++ [⟨q0.1,q0.2,g0.1,g0.2⟩],⟨_,_,rfl⟩,ah,?_,ld6.snoc cc,by rw [List.length_append]; show zs.length + 1≤_; omega,(pt6.same s6x).put (Ne.symm nfp),fun c o n n2 e=>by rw [az n2]; exact s6x _ _ (b56 _ _ n n2 e)⟩
   exact cP (Paired.mapP pz6 fun v q h=>h.keep fun a xs e=>kt _ _ (s6x _ _ e)) (.cons ⟨m2,rfl,kt _ _ hm10,hly,g01,g02⟩ .nil)
  ·exact ⟨zs,qs,⟨_,_,rfl⟩,s69 _ _ hz6,Paired.mapP pz6 fun v q h=>h.keep fun a xs e=>s69 _ _ e,ld6,by omega,pt6.same s69,fun c o n1 n2 e=>s69 _ _ (b56 _ _ n1 n2 e)⟩
 rintro _ H6 ⟨zs,qs,⟨v12,v13,rfl⟩,hz6,pz6,ld6,zl6,pt6,b56⟩
 exact ⟨_,rfl,q fo zs qs H6 hfo0 nfp hz6 pz6 ld6 (by omega) pt6 (fun c o n e=>b56 _ _ n (aj e hfo0) (b05 _ _ n e))⟩
end
theorem qg {α β:Type} {R:α→β→Prop}:∀ (n:Nat) {xs:List α} {ys:List β},Paired R xs ys→Paired R (xs.take n) (ys.take n)
 | 0,_,_,_=>.nil
 | _ + 1,_,_,.nil=>.nil
 | n + 1,_,_,.cons a r=>.cons a (qg n r)
theorem qh {α β:Type} {R:α→β→Prop}:∀ (n:Nat) {xs:List α} {ys:List β},Paired R xs ys→Paired R (xs.drop n) (ys.drop n)
 | 0,_,_,h=>h
 | _ + 1,_,_,.nil=>.nil
 | n + 1,_,_,.cons _ r=>qh n r
def PqJ (p fo:Addr) (H:Hp) (v:V) (q:Pq):Prop:=∃a,v=.ref a∧a≠p∧a≠fo∧Sq H a (pqV q)
theorem PqJ.keep {p fo:Addr} {H H':Hp} (k:∀c o,c≠p→c≠fo→H c=some o→H' c=some o) {v:V} {q:Pq} (h:PqJ p fo H v q):PqJ p fo H' v q:=by
 obtain ⟨a,e,n1,n2,h⟩:=h
 exact ⟨a,e,n1,n2,h.imp (k _ _ n1 n2) (k _ _ n1 n2)⟩
section
variable {P:Program} {w:World} {K:PySem.W.Frag} {mg:Str→Option Value} {base:Heap}
def jC:Sp:=fun vs H Q _=>∃ (p pl:Addr) (ys:List V) (ps:List Pq),vs=[.ref p,.ref pl]∧PotC H p∧pl≠p∧H pl=some (.lst ys)∧Paired (PqU H) ys ps∧ys.length≤100∧∀ (l:Addr) (zs:List V) (qs:List Pq) (H':Hp),l≠p→Sq H' l zs→Paired (PqI p H') zs qs→qs.Perm ps→PotC H' p→But p H H'→Q (.ref l) H'
theorem schand:FnScope ["_law_pot_here","_law_pieces","_law_found","_law_piece"] ["_law_pot_here","_law_pieces"] (defScope ee):=⟨rfl,rfl,rfl,by decide +kernel,rfl,by decide +kernel,by decide +kernel⟩
theorem pI {f:Addr} {fd:FuncData} (F:Fun K "_law_handed" "_law_handed" ee f fd) (B:Blt mg) (DD:Dn P w K mg base "_law_take" ["_law_pot_here","_law_many"] 1 (cu)):FnOk P w K mg base CX0 2 f fd ["_law_pot_here","_law_pieces"] (jC):=by
 refine F.ok schand (fun vs H Q E h=>?_) (fun cdv A outer s H vs Q E hr h=>?_)
 ·obtain ⟨p,pl,ys,ps,rfl,_⟩:=h
  rfl
 obtain ⟨p,pl,ys,ps,rfl,pt,npl,hpl,pz,y100,q⟩:=h
 have nd:=schand.nd
 refine ⟨_,(@af _ _ _ _ _ (@aD _ _ 2 _ _ _ _ nd rfl (Or.inl rfl) (@bd _ _ _ _ ab) rfl (Or.inl rfl)) (@af _ _ _ _ _ (@cf _ _ _ _ _ _ _ _ PassesOwn.never rfl (bc (pv 1)) (av (i:=3) nd rfl (Or.inl rfl)) (@ai _ _ _ (@bF _ _ _ _ (@dk _ _ _ _ _ _ _ _ _ _ _ _ PySem.F.plainAttrs_list PySem.F.slot_list_insert PySem.F.type_list_insert lg (pv 2) (@aa _ _ _ _ _ (@aw _ _ _ _ _ _ _ _ _ _ DD (hr.mono (by decide)) rfl (@aa _ _ _ _ _ (pv 0) (@aa _ _ _ _ _ (@aB _ _ _ _ _ _ _ _ aJ (@aE _ _ _ _ _ _ _ _ _ aP rfl B.len PySem.boot_len (@aa _ _ _ _ _ (pv 2) ab rfl) (by decide) (by decide) rfl rfl) ae) ab rfl) rfl) (by decide) rfl rfl) (@aa _ _ _ _ _ (@ar _ _ _ _ _ _ _ ix_list (@bd _ _ _ _ (@aa _ _ _ _ _ (pv 3) (@aa _ _ _ _ _ (@bv _ _ _ _ _ _ _ _ _ dN rfl B.list PyProof.Rows.boot_list (@aa _ _ _ _ _ (pv 3) ab rfl) (by decide) (by decide) rfl rfl) ab rfl) rfl)) (@aw _ _ _ _ _ _ _ _ _ _ DD (hr.mono (by decide)) rfl (@aa _ _ _ _ _ (pv 0) (@aa _ _ _ _ _ ae ab rfl) rfl) (by decide) rfl rfl) (fun _ _=>rfl)) ab rfl) rfl) rfl rfl rfl rfl rfl) rfl)) (by intro _; rfl)) (@ai _ _ _ (@aA _ _ _ _ (@ar _ _ _ _ _ _ _ ix_list (@bd _ _ _ _ (@aa _ _ _ _ _ (pv 2) (@aa _ _ _ _ _ (@bv _ _ _ _ _ _ _ _ _ bR rfl B.tuple PyProof.Rows.boot_tuple (@aa _ _ _ _ _ (pv 2) ab rfl) (by decide) (by decide) rfl rfl) ab rfl) rfl)) (@aw _ _ _ _ _ _ _ _ _ _ DD (hr.mono (by decide)) rfl (@aa _ _ _ _ _ (pv 0) (@aa _ _ _ _ _ ae ab rfl) rfl) (by decide) rfl rfl) (fun _ _=>rfl)))))),?_⟩
 have sz:(2000:Nat) < sizeLine:=by decide
 have e60:(1000:Int) < 10 ^ 60:=by decide
 have yl:=Paired.length pz
 refine au (fun σ' H'=>∃fo:Addr,σ'=[some (.ref p),some (.ref pl),some (.ref fo),none]∧fo≠p∧H fo=none∧H' fo=some (.lst [])∧PotC H' p∧Same H H') (fun R hR=>?_) ?_
 ·refine ⟨by decide,fun fo hfo=>?_⟩
  obtain ⟨H2,e2,k2,n2,s2,b2,pt2⟩:=bJ (o:=.lst []) But.refl' pt hfo
  rw [show upd H fo _=H2 from e2]
  exact hR _ _ ⟨fo,rfl,n2,hfo,k2,pt2,s2⟩
 rintro _ H2 ⟨fo,rfl,nfp,hfo0,hfo2,pt2,s2⟩
 have npf:pl≠fo:=aj hpl hfo0
 refine au (fun σ' H'=>(∃v3,σ'=[some (.ref p),some (.ref pl),some (.ref fo),v3])∧∃ (zs:List V) (qs:List Pq),H' fo=some (.lst zs)∧Paired (PqJ p fo H') zs qs∧qs.Perm (ps)∧PotC H' p∧∀c o,c≠p→c≠fo→H2 c=some o→H' c=some o) (fun R hR=>?_) ?_
 ·refine ⟨_,rfl,pl,rfl,⟨_,SqL.of (s2 _ _ hpl)⟩,dJ (xs:=ys) (fun i σ' H'=>(∃v3,σ'=[some (.ref p),some (.ref pl),some (.ref fo),v3])∧∃ (zs:List V) (qs:List Pq),H' fo=some (.lst zs)∧Paired (PqJ p fo H') zs qs∧qs.Perm (ps.take i)∧PotC H' p∧∀c o,c≠p→c≠fo→H2 c=some o→H' c=some o) ⟨⟨_,rfl⟩,[],[],hfo2,.nil,List.Perm.refl _,pt2,fun _ _ _ _ e=>e⟩ (fun i σ H' _ ⟨_,_,_,_,_,_,_,bx⟩=>SqL.of (bx _ _ npl npf (s2 _ _ hpl))) ?_ (fun σ H' h=>hR _ _ (by rw [yl,List.take_length] at h; exact h))⟩
  rintro i x _ H4 hi ⟨⟨v3,rfl⟩,zs,qs,hz4,pz4,pm4,pt4,b24⟩
  have hin:i < ys.length:=(List.getElem?_eq_some_iff.mp hi).1
  obtain ⟨q0,hq0,aq,rfl,haq⟩:=Paired.getR pz hi
  have zl:=Paired.length pz4
  have ql:=pm4.length_eq
  rw [List.length_take] at ql
  obtain ⟨_,hp2⟩:=eU pt2
  have haq4:H4 aq=some (.tup (pqV q0)):=b24 _ _ (fun z=>by have:=s2 _ _ haq; rw [z,hp2] at this; cases this) (fun z=>by have:=s2 _ _ haq; rw [z,hfo2] at this; cases this) (s2 _ _ haq)
  refine ⟨_,rfl,.inl ⟨rfl,_,SqL.of hz4⟩,_,rfl,_,rfl,fo,_,rfl,.inl (SqL.of hz4),_,_,rfl,rfl,p,_,rfl,pt4,by omega,by omega,fun r H5 r0 r1 pt5 b5=>?_⟩
  have haq5:=bQ b5 pt4 haq4
  have hz5:=b5 _ _ nfp hz4
  refine ⟨_,rfl,_,rfl,aq,_,rfl,.inr (SqT.of haq5),fun l2 hl2=>?_⟩
  obtain ⟨H6,e6,k6,n6,s6,b6,pt6⟩:=bJ (o:=.lst (pqV q0)) But.refl' pt5 hl2
  rw [show upd H5 l2 _=H6 from e6]
  refine ⟨(by show 2≤sizeLine; decide),fun l3 hl3=>?_⟩
  obtain ⟨H7,e7,k7,n7,s7,b7,pt7⟩:=bJ (o:=.lst [.ref aq,.ref l2]) But.refl' pt6 hl3
  rw [show upd H6 l3 _=H7 from e7]
  have s57:=s6.trans s7
  refine ⟨_,rfl,p,2,rfl,pt7,by decide,by decide,fun r2 H8 r20 r21 pt8 b8=>?_⟩
  have nl2f:l2≠fo:=fun z=>by rw [z,hz5] at hl2; cases hl2
  have k48:∀c o,c≠p→H4 c=some o→H8 c=some o:=fun c o n e=>b8 _ _ n (s57 _ _ (b5 _ _ n e))
  have hz8:=k48 _ _ nfp hz4
  obtain ⟨y,hy,hyJ⟩:∃y,atI [V.ref aq,V.ref l2] r2=some y∧PqJ p fo H8 y q0:=by
   have:r2=0∨r2=1:=by omega
   rcases this with rfl | rfl
   ·refine ⟨_,rfl,aq,rfl,fun z=>?_,fun z=>?_,.inr (bQ b8 pt7 (s57 _ _ haq5))⟩
    ·obtain ⟨_,e⟩:=eU pt5
     rw [z,e] at haq5; cases haq5
    ·rw [z,hz5] at haq5; cases haq5
   ·exact ⟨_,rfl,l2,rfl,n6,nl2f,.inl (b8 _ _ n6 (s7 _ _ k6))⟩
  have keep:∀c o,c≠fo→H8 c=some o→(upd H8 fo (.lst (zs.take r.toNat ++ y :: zs.drop r.toNat))) c=some o:=fun c o n e=>by rw [az n]; exact e
  refine ⟨l3,_,_,_,rfl,rfl,SqL.of (b8 _ _ n7 k7),hy,fo,zs,r,y,rfl,rfl,hz8,r0,by omega,by omega,⟨_,rfl⟩,zs.take r.toNat ++ y :: zs.drop r.toNat,qs.take r.toNat ++ q0 :: qs.drop r.toNat,ah,?_,?_,pt8.put (Ne.symm nfp),fun c o n1 n2 e=>keep _ _ n2 (k48 _ _ n1 (b24 _ _ n1 n2 e))⟩
  ·have kz:Paired (PqJ p fo (upd H8 fo (.lst (zs.take r.toNat ++ y :: zs.drop r.toNat)))) zs qs:=Paired.mapP pz4 fun v q h=>h.keep fun c o n1 n2 e=>keep _ _ n2 (k48 _ _ n1 e)
   exact cP (qg _ kz) (.cons (hyJ.keep fun c o n1 n2 e=>keep _ _ n2 e) (qh _ kz))
  ·rw [List.take_add_one,hq0]
   refine List.perm_middle.trans ?_
   rw [List.take_append_drop]
   exact (List.Perm.cons q0 pm4).trans (List.perm_append_singleton q0 _).symm
 rintro _ H3 ⟨⟨v3,rfl⟩,zs,qs,hz3,pz3,pm,pt3,b23⟩
 have b03:But p H H3:=fun c o n e=>b23 _ _ n (aj e hfo0) (s2 _ _ e)
 have zl:=Paired.length pz3
 have ql:=pm.length_eq
 refine ⟨_,rfl,_,rfl,fo,_,rfl,.inl ⟨SqL.of hz3,fun tt htt=>?_⟩⟩
 obtain ⟨H4,e4,k4,n4,s4,b4,pt4⟩:=bJ (o:=.tup zs) b03 pt3 htt
 rw [show upd H3 tt _=H4 from e4]
 refine ⟨(by show 2≤sizeLine; decide),fun l3 hl3=>?_⟩
 obtain ⟨H5,e5,k5,n5,s5,b5,pt5⟩:=bJ (o:=.lst [.ref fo,.ref tt]) b4 pt4 hl3
 rw [show upd H4 l3 _=H5 from e5]
 refine ⟨_,rfl,p,2,rfl,pt5,by decide,by decide,fun r H6 r0 r1 pt6 b6=>?_⟩
 have s35:=s4.trans s5
 have pq:Paired (PqI p H6) zs qs:=Paired.impS (fun v q ⟨a,e,n1,_,h⟩=>⟨a,e,n1,h.imp (fun z=>b6 _ _ n1 (s35 _ _ z)) (fun z=>b6 _ _ n1 (s35 _ _ z))⟩) pz3
 have b06:=b5.trans b6
 have:r=0∨r=1:=by omega
 rcases this with rfl | rfl
 ·exact ⟨l3,_,_,_,rfl,rfl,SqL.of (b6 _ _ n5 k5),rfl,q fo zs qs H6 nfp (.inl (b6 _ _ nfp (s35 _ _ hz3))) pq pm pt6 b06⟩
 ·exact ⟨l3,_,_,_,rfl,rfl,SqL.of (b6 _ _ n5 k5),rfl,q tt zs qs H6 n4 (.inr (bQ b6 pt5 (s5 _ _ k4))) pq pm pt6 b06⟩
end
theorem Good.sw {k:Kd} (g:Good k):Good (swK k):=⟨g.h,g.w,g.wo,g.wa,g.h',g.w',g.wo',g.wa'⟩
theorem GoodS.tm {k:Kd} {m:Int} (m1:1≤m) (m9:m≤9) (g:GoodS k):Good (tmK m k):=by
 obtain ⟨g,g1,g2⟩:=g
 have e:(10:Int) ^ 58 * 9 < 10 ^ 60:=by decide
 have b:∀a:Int,1≤a→a < 10 ^ 58→1≤a * m∧a * m < 10 ^ 60:=fun a a1 a2=>by
  have h1:1 * 1≤a * m:=Int.mul_le_mul a1 m1 (by decide) (by omega)
  have h2:a * m≤10 ^ 58 * 9:=Int.mul_le_mul (by omega) m9 (by omega) (by decide)
  omega
 exact ⟨(b _ g.w g1).1,(b _ g.h g2).1,g.wo,g.wa,(b _ g.w g1).2,(b _ g.h g2).2,g.wo',g.wa'⟩
theorem fT {H H':Hp} {a b m:Addr} {o:HO} (h:(H'=H∧(m=a∨m=b))∨(H m=none∧H'=upd H m o)):Same H H':=by
 rcases h with ⟨e,_⟩ | ⟨e1,e2⟩
 ·rw [e]; exact Same.refl _
 ·rw [e2]; exact Same.new e1
section
variable {P:Program} {w:World} {K:PySem.W.Frag} {mg:Str→Option Value} {base:Heap}
def hZ (C:Addr):Sp:=fun vs H Q _=>∃ (t kl:Addr) (b:Int) (ks:List Kd),vs=[.ref t]∧LS H t b ks kl∧0≤b∧(∀k∈ks,Good k)∧1≤ks.length∧ks.length≤8∧∀ (x:Addr) (H':Hp),ShopAt C H' x b (ks.map swK)→Same H H'→Q (.ref x) H'
def ia (C:Addr):Sp:=fun vs H Q _=>∃ (t kl:Addr) (b m:Int) (ks:List Kd),vs=[.ref t,.int m]∧LS H t b ks kl∧0≤b∧1≤m∧m≤9∧(∀k∈ks,GoodS k)∧1≤ks.length∧ks.length≤8∧∀ (x:Addr) (H':Hp),ShopAt C H' x (b * m) (ks.map (tmK m))→Same H H'→Q (.ref x) H'
def ib:Sp:=fun vs H Q _=>∃ (pl:Addr) (x y:Int) (ys:List V) (ps:List Pq),vs=[.ref pl,.int x,.int y]∧H pl=some (.lst ys)∧Paired (PqU H) ys ps∧ys.length≤100∧∀ (l:Addr) (zs:List V) (H':Hp),H l=none→H' l=some (.lst zs)→Paired (PqU H') zs (ps.map (mvQ x y))→Same H H'→Q (.ref l) H'
theorem scturns:FnScope ["_law_shop_here"] ["_law_shop_here"] (defScope bD):=⟨rfl,rfl,rfl,by decide +kernel,rfl,by decide +kernel,by decide +kernel⟩
theorem nI {f C:Addr} {fd:FuncData} (F:Fun K "_law_turned_shop" "_law_turned_shop" bD f fd) (B:Blt mg) (DSh:Kn P w K mg base "Shop" C ["self","blade","kinds"] 3 (eH C)):FnOk P w K mg base CX0 5 f fd ["_law_shop_here"] (hZ C):=by
 refine F.ok scturns (fun vs H Q E h=>?_) (fun cdv A outer s H vs Q E hr h=>?_)
 ·obtain ⟨t,kl,b,ks,rfl,_⟩:=h
  rfl
 obtain ⟨t,kl,b,ks,rfl,sh,b0,gk,k1,k8,q⟩:=h
 have nd:=scturns.nd
 refine ⟨_,(@ai _ _ _ (@aA _ _ _ _ (gq DSh hr rfl (@aa _ _ _ _ _ (@ar _ _ _ _ _ _ _ ix_tup (pv 0) ae (fun _ _=>rfl)) (@aa _ _ _ _ _ (bS (own:=["_law_kind"]) (cs:=[]) (cap:=[]) rfl (bc (@ar _ _ _ _ _ _ _ ix_tup (pv 0) ae (fun _ _=>rfl))) (aL (sc:=defScope bD) (N:=["_law_shop_here"]) rfl rfl (by decide +kernel)) (fun _ _ _ _ _=>av (i:=0) (by show List.Nodup (["_law_kind"]:List Str) ; decide +kernel) rfl (Or.inl rfl) (Or.inr rfl)) (fun _ _ _ _ _=>aT) (fun _ _ _ _ _=>(@aB _ _ _ _ _ _ _ _ cK (@aN _ _ _ _ _ (@aa _ _ _ _ _ (ar (r:=cO K) ix_tup (pv 0) ae (fun _ _=>rfl)) (@aa _ _ _ _ _ (ar (r:=cO K) ix_tup (pv 0) ae (fun _ _=>rfl)) ab rfl) rfl)) (bT (r:=kN K) eE (pv 0) (cy ae) cx)))) ab rfl) rfl)))),?_⟩
 have sz:(2000:Nat) < sizeLine:=by decide
 obtain ⟨rs,q1,q2,q3⟩:=id sh
 have rl:=Paired.length q3
 refine ⟨_,rfl,t,_,0,_,rfl,rfl,SqT.of q1,rfl,_,rfl,t,_,1,_,rfl,rfl,SqT.of q1,rfl,kl,rfl,⟨_,SqL.of q2⟩,(bg (K:=K) (.inl q2) (fun i us Hx=>Same H Hx∧Tups Hx us ((ks.take i).map (swK))) (fun i us Hx _ e o h=>e.1 _ _ h) ⟨Same.refl _,.nil⟩ ?_ ?_).1 q2⟩
 ·rintro i v us Hx hi ⟨sx,pu⟩
  have hin:i < rs.length:=(List.getElem?_eq_some_iff.mp hi).1
  obtain ⟨k,hk,ak,rfl,hak⟩:=Paired.getR q3 hi
  have hak:Hx ak=some (.tup [.int k.w,.int k.h,.int k.wo,.int k.wa,.bl k.tu]):=sx _ _ hak
  have ul:=Paired.length pu
  rw [List.length_map,List.length_take] at ul
  refine ⟨by omega,leS.set rfl,aU ?_⟩
  refine ⟨_,rfl,ak,_,1,_,rfl,rfl,SqT.of hak,rfl,_,rfl,ak,_,0,_,rfl,rfl,SqT.of hak,rfl,(by show 2≤sizeLine; decide),fun a1 ha1=>?_⟩
  obtain ⟨H8,e8,k8,s8⟩:∃H',upd Hx a1 (.tup [.int k.h,.int k.w])=H'∧H' a1=some (.tup [.int k.h,.int k.w])∧Same Hx H':=⟨_,rfl,ah,Same.new ha1⟩
  rw [show upd Hx a1 _=H8 from e8]
  have hak8:=s8 _ _ hak
  refine ⟨_,rfl,_,rfl,ak,_,rfl,SqT.of hak8,(fun z=>absurd z.1 (show ¬ HT.sIx 5 0 (some 2)=0 by decide)),fun a2 ha2=>?_⟩
  obtain ⟨H9,e9,k9,s9⟩:∃H',upd H8 a2 (.tup (bK [.int k.w,.int k.h,.int k.wo,.int k.wa,.bl k.tu] (some 2) none))=H'∧H' a2=some (.tup (bK [.int k.w,.int k.h,.int k.wo,.int k.wa,.bl k.tu] (some 2) none))∧Same H8 H':=⟨_,rfl,ah,Same.new ha2⟩
  rw [show upd H8 a2 _=H9 from e9]
  have k9:H9 a2=some (.tup [.int k.wo,.int k.wa,.bl k.tu]):=k9
  refine ⟨a1,a2,_,_,rfl,rfl,s9 _ _ k8,k9,(by show 2 + 3≤sizeLine; decide),fun mm Hm hm hm'=>Nx.of hin ⟨sx.trans (s8.trans (s9.trans (fT hm))),?_⟩⟩
  rw [List.take_add_one,hk,List.map_append]
  exact cP (Tups.keep (fun c xs e=>fT hm _ _ (s9 _ _ (s8 _ _ e))) pu) (.cons ⟨mm,rfl,hm'⟩ .nil)
 ·rintro us Hx ⟨sx,pu⟩
  rw [rl,List.take_length] at pu
  have ul:=Paired.length pu
  rw [List.length_map] at ul
  refine ⟨by omega,fun lo hlo=>?_⟩
  obtain ⟨H2,e2,k2,s2⟩:∃H',upd Hx lo (.lst us)=H'∧H' lo=some (.lst us)∧Same Hx H':=⟨_,rfl,ah,Same.new hlo⟩
  rw [show upd Hx lo _=H2 from e2]
  intro x dx hx hdx ne0
  have sm:Same H2 (upd (upd H2 dx (.own x)) x (.ins C dx [])):=bY hx hdx
  refine ⟨x,dx,lo,b,us,ks.map (swK),rfl,ah,b0,.inl (sm _ _ k2),Paired.mapP (Tups.keep (fun c xs e=>sm _ _ (s2 _ _ e)) pu) (fun v k h=>.inl h),fun k hk=>?_,by omega,by omega,fun Hb Sb kb=>⟨rfl,q x Hb Sb ?_⟩⟩
  ·obtain ⟨k',hk',rfl⟩:=List.mem_map.mp hk
   exact (gk k' hk').sw
  ·exact fun c o e=>kb c o (aj ((sx.trans s2) _ _ e) hx) (sm _ _ ((sx.trans s2) _ _ e))
theorem sctimes:FnScope ["_law_shop_here","_law_many"] ["_law_shop_here","_law_many"] (defScope bP):=⟨rfl,rfl,rfl,by decide +kernel,rfl,by decide +kernel,by decide +kernel⟩
theorem nJ {f C:Addr} {fd:FuncData} (F:Fun K "_law_times_shop" "_law_times_shop" bP f fd) (B:Blt mg) (DSh:Kn P w K mg base "Shop" C ["self","blade","kinds"] 3 (eH C)):FnOk P w K mg base CX0 5 f fd ["_law_shop_here","_law_many"] (ia C):=by
 refine F.ok sctimes (fun vs H Q E h=>?_) (fun cdv A outer s H vs Q E hr h=>?_)
 ·obtain ⟨t,kl,b,m,ks,rfl,_⟩:=h
  rfl
 obtain ⟨t,kl,b,m,ks,rfl,sh,b0,m1,m9,gk,k1,k8,q⟩:=h
 have nd:=sctimes.nd
 refine ⟨_,(@ai _ _ _ (@aA _ _ _ _ (gq DSh hr rfl (@aa _ _ _ _ _ (@aB _ _ _ _ _ _ _ _ bN (@ar _ _ _ _ _ _ _ ix_tup (pv 0) ae (fun _ _=>rfl)) (pv 1)) (@aa _ _ _ _ _ (bS (own:=["_law_kind"]) (cs:=["_law_many"]) (cap:=[1]) rfl (bc (@ar _ _ _ _ _ _ _ ix_tup (pv 0) ae (fun _ _=>rfl))) (aL (sc:=defScope bP) (N:=["_law_shop_here","_law_many"]) rfl rfl (by decide +kernel)) (fun _ _ _ _ _=>av (i:=0) (by show List.Nodup (["_law_kind","_law_many"]:List Str) ; decide +kernel) rfl (Or.inl rfl) (Or.inr rfl)) (fun _ _ _ _ _=>aT) (fun _ _ _ _ _=>(@aB _ _ _ _ _ _ _ _ cK (@aN _ _ _ _ _ (@aa _ _ _ _ _ (@aB _ _ _ _ _ _ _ _ bN (ar (r:=cO K) ix_tup (pv 0) ae (fun _ _=>rfl)) (pv 1)) (@aa _ _ _ _ _ (@aB _ _ _ _ _ _ _ _ bN (ar (r:=cO K) ix_tup (pv 0) ae (fun _ _=>rfl)) (pv 1)) ab rfl) rfl)) (bT (r:=kN K) eE (pv 0) (cy ae) cx)))) ab rfl) rfl)))),?_⟩
 have sz:(2000:Nat) < sizeLine:=by decide
 obtain ⟨rs,q1,q2,q3⟩:=id sh
 have rl:=Paired.length q3
 refine ⟨_,rfl,t,_,0,_,rfl,rfl,SqT.of q1,rfl,_,rfl,_,_,rfl,rfl,(.inr ⟨by omega,by omega⟩),_,rfl,t,_,1,_,rfl,rfl,SqT.of q1,rfl,kl,rfl,⟨_,SqL.of q2⟩,(bg (K:=K) (.inl q2) (fun i us Hx=>Same H Hx∧Tups Hx us ((ks.take i).map (tmK m))) (fun i us Hx _ e o h=>e.1 _ _ h) ⟨Same.refl _,.nil⟩ ?_ ?_).1 q2⟩
 ·rintro i v us Hx hi ⟨sx,pu⟩
  have hin:i < rs.length:=(List.getElem?_eq_some_iff.mp hi).1
  obtain ⟨k,hk,ak,rfl,hak⟩:=Paired.getR q3 hi
  have hak:Hx ak=some (.tup [.int k.w,.int k.h,.int k.wo,.int k.wa,.bl k.tu]):=sx _ _ hak
  have ul:=Paired.length pu
  rw [List.length_map,List.length_take] at ul
  refine ⟨by omega,leS.set rfl,aU ?_⟩
  refine ⟨_,rfl,ak,_,0,_,rfl,rfl,SqT.of hak,rfl,_,rfl,_,_,rfl,rfl,(.inr ⟨by omega,by omega⟩),_,rfl,ak,_,1,_,rfl,rfl,SqT.of hak,rfl,_,rfl,_,_,rfl,rfl,(.inr ⟨by omega,by omega⟩),(by show 2≤sizeLine; decide),fun a1 ha1=>?_⟩
  obtain ⟨H8,e8,k8,s8⟩:∃H',upd Hx a1 (.tup [.int (k.w * m),.int (k.h * m)])=H'∧H' a1=some (.tup [.int (k.w * m),.int (k.h * m)])∧Same Hx H':=⟨_,rfl,ah,Same.new ha1⟩
  rw [show upd Hx a1 _=H8 from e8]
  have hak8:=s8 _ _ hak
  refine ⟨_,rfl,_,rfl,ak,_,rfl,SqT.of hak8,(fun z=>absurd z.1 (show ¬ HT.sIx 5 0 (some 2)=0 by decide)),fun a2 ha2=>?_⟩
  obtain ⟨H9,e9,k9,s9⟩:∃H',upd H8 a2 (.tup (bK [.int k.w,.int k.h,.int k.wo,.int k.wa,.bl k.tu] (some 2) none))=H'∧H' a2=some (.tup (bK [.int k.w,.int k.h,.int k.wo,.int k.wa,.bl k.tu] (some 2) none))∧Same H8 H':=⟨_,rfl,ah,Same.new ha2⟩
  rw [show upd H8 a2 _=H9 from e9]
  have k9:H9 a2=some (.tup [.int k.wo,.int k.wa,.bl k.tu]):=k9
  refine ⟨a1,a2,_,_,rfl,rfl,s9 _ _ k8,k9,(by show 2 + 3≤sizeLine; decide),fun mm Hm hm hm'=>Nx.of hin ⟨sx.trans (s8.trans (s9.trans (fT hm))),?_⟩⟩
  rw [List.take_add_one,hk,List.map_append]
  exact cP (Tups.keep (fun c xs e=>fT hm _ _ (s9 _ _ (s8 _ _ e))) pu) (.cons ⟨mm,rfl,hm'⟩ .nil)
 ·rintro us Hx ⟨sx,pu⟩
  rw [rl,List.take_length] at pu
  have ul:=Paired.length pu
  rw [List.length_map] at ul
  refine ⟨by omega,fun lo hlo=>?_⟩
  obtain ⟨H2,e2,k2,s2⟩:∃H',upd Hx lo (.lst us)=H'∧H' lo=some (.lst us)∧Same Hx H':=⟨_,rfl,ah,Same.new hlo⟩
  rw [show upd Hx lo _=H2 from e2]
  intro x dx hx hdx ne0
  have sm:Same H2 (upd (upd H2 dx (.own x)) x (.ins C dx [])):=bY hx hdx
  refine ⟨x,dx,lo,(b * m),us,ks.map (tmK m),rfl,ah,Int.mul_nonneg b0 (by omega),.inl (sm _ _ k2),Paired.mapP (Tups.keep (fun c xs e=>sm _ _ (s2 _ _ e)) pu) (fun v k h=>.inl h),fun k hk=>?_,by omega,by omega,fun Hb Sb kb=>⟨rfl,q x Hb Sb ?_⟩⟩
  ·obtain ⟨k',hk',rfl⟩:=List.mem_map.mp hk
   exact (gk k' hk').tm m1 m9
  ·exact fun c o e=>kb c o (aj ((sx.trans s2) _ _ e) hx) (sm _ _ ((sx.trans s2) _ _ e))
theorem scmoved:FnScope ["_law_pieces","_law_x","_law_y"] ["_law_pieces","_law_x","_law_y"] (defScope eK):=⟨rfl,rfl,rfl,by decide +kernel,rfl,by decide +kernel,by decide +kernel⟩
theorem nL {f:Addr} {fd:FuncData} (F:Fun K "_law_moved" "_law_moved" eK f fd) (B:Blt mg):FnOk P w K mg base CX0 1 f fd ["_law_pieces","_law_x","_law_y"] (ib):=by
 refine F.ok scmoved (fun vs H Q E h=>?_) (fun cdv A outer s H vs Q E hr h=>?_)
 ·obtain ⟨pl,x,y,ys,ps,rfl,_⟩:=h
  rfl
 obtain ⟨pl,x,y,ys,ps,rfl,hpl,pz,y100,q⟩:=h
 have nd:=scmoved.nd
 refine ⟨_,(@ai _ _ _ (@aA _ _ _ _ (bS (own:=["_law_piece"]) (cs:=["_law_x","_law_y"]) (cap:=[1,2]) rfl (bc (pv 0)) (aL (sc:=defScope eK) (N:=["_law_pieces","_law_x","_law_y"]) rfl rfl (by decide +kernel)) (fun _ _ _ _ _=>av (i:=0) (by show List.Nodup (["_law_piece","_law_x","_law_y"]:List Str) ; decide +kernel) rfl (Or.inl rfl) (Or.inr rfl)) (fun _ _ _ _ _=>aT) (fun _ _ _ _ _=>(@aB _ _ _ _ _ _ _ _ cK (bT (r:=kN K) eE (pv 0) cx (cy ae)) (@aN _ _ _ _ _ (@aa _ _ _ _ _ (@aB _ _ _ _ _ _ _ _ aJ (ar (r:=cO K) ix_tup (pv 0) ae (fun _ _=>rfl)) (pv 1)) (@aa _ _ _ _ _ (@aB _ _ _ _ _ _ _ _ aJ (ar (r:=cO K) ix_tup (pv 0) ae (fun _ _=>rfl)) (pv 2)) ab rfl) rfl))))))),?_⟩
 have sz:(2000:Nat) < sizeLine:=by decide
 have yl:=Paired.length pz
 refine ⟨_,rfl,pl,rfl,⟨_,SqL.of hpl⟩,(bg (K:=K) (.inl hpl) (fun i us Hx=>Same H Hx∧Paired (PqU Hx) us ((ps.take i).map (mvQ x y))) (fun i us Hx _ e o h=>e.1 _ _ h) ⟨Same.refl _,.nil⟩ ?_ ?_).1 hpl⟩
 ·rintro i v us Hx hi ⟨sx,pu⟩
  have hin:i < ys.length:=(List.getElem?_eq_some_iff.mp hi).1
  obtain ⟨q0,hq0,a,rfl,ha⟩:=Paired.getR (pz) hi
  have ha:Hx a=some (.tup [.int q0.k,.bl q0.c,.int q0.x,.int q0.y]):=sx _ _ ha
  have ul:=Paired.length pu
  rw [List.length_map,List.length_take] at ul
  refine ⟨by omega,leS.set rfl,aU ?_⟩
  refine ⟨_,rfl,_,rfl,a,_,rfl,SqT.of ha,(fun z=>absurd z.2 (show ¬ HT.sIx 4 4 (some 2)=4 by decide)),fun a1 ha1=>?_⟩
  obtain ⟨H8,e8,k8,s8⟩:∃H',upd Hx a1 (.tup (bK [.int q0.k,.bl q0.c,.int q0.x,.int q0.y] none (some 2)))=H'∧H' a1=some (.tup (bK [.int q0.k,.bl q0.c,.int q0.x,.int q0.y] none (some 2)))∧Same Hx H':=⟨_,rfl,ah,Same.new ha1⟩
  rw [show upd Hx a1 _=H8 from e8]
  have k8:H8 a1=some (.tup [.int q0.k,.bl q0.c]):=k8
  have ha8:=s8 _ _ ha
  refine ⟨_,rfl,a,_,2,_,rfl,rfl,SqT.of ha8,rfl,_,rfl,_,_,rfl,rfl,_,rfl,a,_,3,_,rfl,rfl,SqT.of ha8,rfl,_,rfl,_,_,rfl,rfl,(by show 2≤sizeLine; decide),fun a2 ha2=>?_⟩
  obtain ⟨H9,e9,k9,s9⟩:∃H',upd H8 a2 (.tup [.int (q0.x + x),.int (q0.y + y)])=H'∧H' a2=some (.tup [.int (q0.x + x),.int (q0.y + y)])∧Same H8 H':=⟨_,rfl,ah,Same.new ha2⟩
  rw [show upd H8 a2 _=H9 from e9]
  refine ⟨a1,a2,_,_,rfl,rfl,s9 _ _ k8,k9,(by show 2 + 2≤sizeLine; decide),fun mm Hm hm hm'=>Nx.of hin ⟨sx.trans (s8.trans (s9.trans (fT hm))),?_⟩⟩
  rw [List.take_add_one,hq0,List.map_append]
  exact cP (Paired.mapP pu fun v q h=>h.keep fun c xs e=>fT hm _ _ (s9 _ _ (s8 _ _ e))) (.cons ⟨mm,rfl,hm'⟩ .nil)
 ·rintro us Hx ⟨sx,pu⟩
  rw [yl,List.take_length] at pu
  have ul:=Paired.length pu
  rw [List.length_map] at ul
  refine ⟨by omega,fun lo hlo=>?_⟩
  obtain ⟨H2,e2,k2,s2⟩:∃H',upd Hx lo (.lst us)=H'∧H' lo=some (.lst us)∧Same Hx H':=⟨_,rfl,ah,Same.new hlo⟩
  rw [show upd Hx lo _=H2 from e2]
  exact q lo us H2 (sx.free hlo) k2 (Paired.mapP pu fun v q h=>h.keep fun c xs e=>s2 _ _ e) (sx.trans s2)
end
theorem pJ {c:Addr} {xs:List V} {H H':Hp} (hc:H c=some (.lst xs)) (b:But c H H') {a:Addr} {ys:List V} (e:H a=some (.tup ys)):H' a=some (.tup ys):=b _ _ (fun z=>by rw [z,hc] at e; cases e) e
theorem uv {C c s:Addr} {xs:List V} {H H':Hp} {b:Int} {ks:List Kd} (hc:H c=some (.lst xs)) (bt:But c H H') (S:ShopAt C H s b ks):ShopAt C H' s b ks :=
 S.keep (fun a ys e=>bt _ _ (fun z=>by rw [z,hc] at e; cases e) e) (fun a C' d fs e=>bt _ _ (fun z=>by rw [z,hc] at e; cases e) e)
structure AC (C p t kl x pl:Addr) (b:Int) (ks:List Kd) (ys:List V) (ps:List Pq) (H:Hp):Prop where
 ls:LS H t b ks kl
 sh:ShopAt C H x b ks
 hl:H pl=some (.lst ys)
 pz:Paired (PqU H) ys ps
theorem AC.same {C p t kl x pl:Addr} {b:Int} {ks:List Kd} {ys:List V} {ps:List Pq} {H H':Hp} (a:AC C p t kl x pl b ks ys ps H) (s:Same H H'):AC C p t kl x pl b ks ys ps H' :=
 ⟨a.ls.same s,cN s a.sh,s _ _ a.hl,Paired.mapP a.pz fun v q h=>h.keep fun a xs e=>s _ _ e⟩
theorem AC.but {C p t kl x pl c:Addr} {b:Int} {ks:List Kd} {ys xs:List V} {ps:List Pq} {H H':Hp} (a:AC C p t kl x pl b ks ys ps H) (hc:H c=some (.lst xs)) (n1:kl≠c) (n2:pl≠c) (bt:But c H H'):AC C p t kl x pl b ks ys ps H':=by
 obtain ⟨⟨rs,h1,h2,h3⟩,h4,h5,h6⟩:=a
 exact ⟨⟨rs,pJ hc bt h1,bt _ _ n1 h2,Tups.keep (fun a xs e=>pJ hc bt e) h3⟩,uv hc bt h4,bt _ _ n2 h5,Paired.mapP h6 fun v q h=>h.keep fun a xs e=>pJ hc bt e⟩
def Told (z:Str) (to:Addr) (n:Nat) (H:Hp):Prop:=∃us,H to=some (.lst us)∧us.length=n∧∀v∈us,∃a u,v=.ref a∧H a=some (.tup [.str z,u])
theorem Told.same {z:Str} {to:Addr} {n:Nat} {H H':Hp} (h:Told z to n H) (s:Same H H'):Told z to n H':=by
 obtain ⟨us,h1,h2,h3⟩:=h
 exact ⟨us,s _ _ h1,h2,fun v hv=>(by obtain ⟨a,u,e,h⟩:=h3 v hv; exact ⟨a,u,e,s _ _ h⟩)⟩
structure AD (C p t kl x pl tl el to:Addr) (b m:Int) (ks:List Kd) (ys tv ev:List V) (ps:List Pq) (z:Str) (n:Nat) (H0 H:Hp):Prop where
 n1:to≠p
 n2:kl≠to
 n3:pl≠to
 n4:tl≠to
 n5:el≠to
 f0:H0 to=none
 td:Told z to n H
 ac:AC C p t kl x pl b ks ys ps H
 ht:H tl=some (.lst tv)
 zt:Paired (PqU H) tv (ps.map (enQ m))
 he:H el=some (.lst ev)
 ze:Paired (PqU H) ev (ps.map exQ)
 po:PotC H p
 bt:But p H0 H
theorem AD.same {C p t kl x pl tl el to:Addr} {b m:Int} {ks:List Kd} {ys tv ev:List V} {ps:List Pq} {z:Str} {n:Nat} {H0 H H':Hp} (a:AD C p t kl x pl tl el to b m ks ys tv ev ps z n H0 H) (s:Same H H'):AD C p t kl x pl tl el to b m ks ys tv ev ps z n H0 H' :=
 ⟨a.n1,a.n2,a.n3,a.n4,a.n5,a.f0,a.td.same s,a.ac.same s,s _ _ a.ht,Paired.mapP a.zt fun v q h=>h.keep fun c xs e=>s _ _ e,s _ _ a.he,Paired.mapP a.ze fun v q h=>h.keep fun c xs e=>s _ _ e,a.po.same s,fun c o n e=>s _ _ (a.bt _ _ n e)⟩
theorem AD.app {C p t kl x pl tl el to t1:Addr} {b m:Int} {ks:List Kd} {ys tv ev:List V} {ps:List Pq} {z:Str} {n:Nat} {u1:V} {H0 Hx Hy:Hp} (a:AD C p t kl x pl tl el to b m ks ys tv ev ps z n H0 Hx) (s:Same Hx Hy) (h1:Hy t1=some (.tup [.str z,u1])):∃us,Hy to=some (.lst us)∧us.length=n∧AD C p t kl x pl tl el to b m ks ys tv ev ps z (n + 1) H0 (upd Hy to (.lst (us ++ [.ref t1]))):=by
 have a:=a.same s
 obtain ⟨us,hto,ul,hus⟩:=a.td
 have bt:But to Hy (upd Hy to (.lst (us ++ [.ref t1]))):=fun c o n e=>by rw [az n]; exact e
 have tk:∀c xs,Hy c=some (.tup xs)→(upd Hy to (.lst (us ++ [.ref t1]))) c=some (.tup xs):=fun c xs e=>pJ hto bt e
 refine ⟨us,hto,ul,a.n1,a.n2,a.n3,a.n4,a.n5,a.f0,⟨us ++ [.ref t1],ah,by rw [List.length_append,ul]; rfl,fun v hv=>?_⟩,a.ac.but hto a.n2 a.n3 bt,bt _ _ a.n4 a.ht,Paired.mapP a.zt fun v q h=>h.keep tk,bt _ _ a.n5 a.he,Paired.mapP a.ze fun v q h=>h.keep tk,a.po.put (Ne.symm a.n1),fun c o n e=>bt _ _ (aj e a.f0) (a.bt _ _ n e)⟩
 rcases List.mem_append.mp hv with hv | hv
 ·obtain ⟨c,u,e,h⟩:=hus v hv
  exact ⟨c,u,e,tk _ _ h⟩
 ·rw [List.mem_singleton.mp hv]
  exact ⟨t1,u1,rfl,tk _ _ h1⟩
section
variable {P:Program} {w:World} {K:PySem.W.Frag} {mg:Str→Option Value} {base:Heap}
def ic (C:Addr):Sp:=fun vs H Q _=>∃ (p t kl pl:Addr) (b W h:Int) (ks:List Kd) (ys:List V) (ps:List Pq) (z:Str),vs=[.ref p,.ref t,.int W,.int h,.ref pl,.str z]∧PotC H p∧LS H t b ks kl∧kl≠p∧1≤ks.length∧ks.length≤8∧(∀k∈ks,GoodS k)∧0≤b∧1≤W∧W < 10 ^ 58∧1≤h∧h < 10 ^ 58∧pl≠p∧H pl=some (.lst ys)∧Paired (PqU H) ys ps∧ys.length < 32∧Lay ks W h ps∧KTB b (ps.map (aK ks)) z ∧
 ∀ (H':Hp),PotC H' p→But p H H'→Q (.bl true) H'
theorem scalike:FnScope ["_law_pot_here","_law_shop_here","_law_wide","_law_high","_law_pieces","_law_word","_law_made","_law_x","_law_y","_law_many","_law_times","_law_exchanged","_law_told","_law_greater"] ["_law_pot_here","_law_shop_here","_law_wide","_law_high","_law_pieces","_law_word"] (defScope cW):=⟨rfl,rfl,rfl,by decide +kernel,rfl,by decide +kernel,by decide +kernel⟩
set_option maxHeartbeats 1000000 in
theorem nM {f C:Addr} {fd:FuncData} (F:Fun K "_law_alike" "_law_alike" cW f fd) (B:Blt mg) (DD:Dn P w K mg base "_law_take" ["_law_pot_here","_law_many"] 1 (cu)) (DHa:Dn P w K mg base "_law_handed" ["_law_pot_here","_law_pieces"] 2 (jC)) (DMv:Dn P w K mg base "_law_moved" ["_law_pieces","_law_x","_law_y"] 1 (ib)) (DTu:Dn P w K mg base "_law_turned_shop" ["_law_shop_here"] 5 (hZ C)) (DTi:Dn P w K mg base "_law_times_shop" ["_law_shop_here","_law_many"] 5 (ia C)) (DTK:Dn P w K mg base "tree_or_knot" ["shop","wide","high","laying"] 38 (ky C)) (DSh:Kn P w K mg base "Shop" C ["self","blade","kinds"] 3 (eH C)):FnOk P w K mg base CX0 39 f fd ["_law_pot_here","_law_shop_here","_law_wide","_law_high","_law_pieces","_law_word"] (ic C):=by
 refine F.ok scalike (fun vs H Q E h=>?_) (fun cdv A outer s H vs Q E hr h=>?_)
 ·obtain ⟨p,t,kl,pl,b,W,h1,ks,ys,ps,z,rfl,_⟩:=h
  rfl
 obtain ⟨p,t,kl,pl,b,W,h1,ks,ys,ps,z,rfl,pt,ls,nk,k1,k8,gk,b0,w0,w58,h0,h58,npl,hpl,pz,y32,la,kt,q⟩:=h
 have nd:=scalike.nd
 refine ⟨_,(@af _ _ _ _ _ (@aD _ _ 6 _ _ _ _ nd rfl (Or.inl rfl) (gq DSh (hr.mono (by decide)) rfl (@aa _ _ _ _ _ (@ar _ _ _ _ _ _ _ ix_tup (pv 1) ae (fun _ _=>rfl)) (@aa _ _ _ _ _ (@ar _ _ _ _ _ _ _ ix_tup (pv 1) ae (fun _ _=>rfl)) ab rfl) rfl)) rfl (Or.inl rfl)) (@af _ _ _ _ _ (ms rfl nd rfl rfl (i:=7) (j:=8) (by decide) rfl rfl (@aa _ _ _ _ _ (@aw _ _ _ _ _ _ _ _ _ _ DD (hr.mono (by decide)) rfl (@aa _ _ _ _ _ (pv 0) (@aa _ _ _ _ _ (@aB _ _ _ _ _ _ _ _ aJ (pv 2) ae) ab rfl) rfl) (by decide) rfl rfl) (@aa _ _ _ _ _ (@aw _ _ _ _ _ _ _ _ _ _ DD (hr.mono (by decide)) rfl (@aa _ _ _ _ _ (pv 0) (@aa _ _ _ _ _ (@aB _ _ _ _ _ _ _ _ aJ (pv 3) ae) ab rfl) rfl) (by decide) rfl rfl) ab rfl) rfl) rfl) (@af _ _ _ _ _ (@aD _ _ 9 _ _ _ _ nd rfl (Or.inr rfl) (@aB _ _ _ _ _ _ _ _ aJ ae (@aw _ _ _ _ _ _ _ _ _ _ DD (hr.mono (by decide)) rfl (@aa _ _ _ _ _ (pv 0) (@aa _ _ _ _ _ ae ab rfl) rfl) (by decide) rfl rfl)) rfl (Or.inl rfl)) (@af _ _ _ _ _ (cz (i:=10) (own:=["_law_piece"]) (cs:=["_law_many"]) (cap:=[9]) rfl nd rfl rfl rfl (bc (pv 4)) (aL (sc:=defScope cW) (N:=["_law_pot_here","_law_shop_here","_law_wide","_law_high","_law_pieces","_law_word","_law_made","_law_x","_law_y","_law_many","_law_times","_law_exchanged","_law_told","_law_greater"]) rfl rfl (by decide +kernel)) (fun _ _ _ _ _=>av (i:=0) (by show List.Nodup (["_law_piece","_law_many"]:List Str) ; decide +kernel) rfl (Or.inl rfl) (Or.inr rfl)) (fun _ _ _ _ _=>aT) (fun _ _ _ _ _=>(@aB _ _ _ _ _ _ _ _ cK (bT (r:=kN K) eE (pv 0) cx (cy ae)) (@aN _ _ _ _ _ (@aa _ _ _ _ _ (@aB _ _ _ _ _ _ _ _ bN (ar (r:=cO K) ix_tup (pv 0) ae (fun _ _=>rfl)) (pv 1)) (@aa _ _ _ _ _ (@aB _ _ _ _ _ _ _ _ bN (ar (r:=cO K) ix_tup (pv 0) ae (fun _ _=>rfl)) (pv 1)) ab rfl) rfl))))) (@af _ _ _ _ _ (cz (i:=11) (own:=["_law_piece"]) (cs:=[]) (cap:=[]) rfl nd rfl rfl rfl (bc (pv 4)) (aL (sc:=defScope cW) (N:=["_law_pot_here","_law_shop_here","_law_wide","_law_high","_law_pieces","_law_word","_law_made","_law_x","_law_y","_law_many","_law_times","_law_exchanged","_law_told","_law_greater"]) rfl rfl (by decide +kernel)) (fun _ _ _ _ _=>av (i:=0) (by show List.Nodup (["_law_piece"]:List Str) ; decide +kernel) rfl (Or.inl rfl) (Or.inr rfl)) (fun _ _ _ _ _=>aT) (fun _ _ _ _ _=>(@aB _ _ _ _ _ _ _ _ cK (bT (r:=kN K) eE (pv 0) cx (cy ae)) (@aN _ _ _ _ _ (@aa _ _ _ _ _ (ar (r:=cO K) ix_tup (pv 0) ae (fun _ _=>rfl)) (@aa _ _ _ _ _ (ar (r:=cO K) ix_tup (pv 0) ae (fun _ _=>rfl)) ab rfl) rfl))))) (@af _ _ _ _ _ (@aD _ _ 12 _ _ _ _ nd rfl (Or.inl rfl) (@bd _ _ _ _ (@aa _ _ _ _ _ (@aw _ _ _ _ _ _ _ _ _ _ DTK hr rfl (@aa _ _ _ _ _ (pv 6) (@aa _ _ _ _ _ (pv 2) (@aa _ _ _ _ _ (pv 3) (@aa _ _ _ _ _ (@aw _ _ _ _ _ _ _ _ _ _ DHa (hr.mono (by decide)) rfl (@aa _ _ _ _ _ (pv 0) (@aa _ _ _ _ _ (pv 4) ab rfl) rfl) (by decide) rfl rfl) ab rfl) rfl) rfl) rfl) (by decide) rfl rfl) ab rfl)) rfl (Or.inl rfl)) (@af _ _ _ _ _ (@bF _ _ _ _ (@dk _ _ _ _ _ _ _ _ _ _ _ _ PySem.F.plainAttrs_list PySem.F.slot_list_append PySem.F.type_list_append bo (pv 12) (@aa _ _ _ _ _ (@aw _ _ _ _ _ _ _ _ _ _ DTK hr rfl (@aa _ _ _ _ _ (pv 6) (@aa _ _ _ _ _ (@aB _ _ _ _ _ _ _ _ aJ (pv 2) (pv 7)) (@aa _ _ _ _ _ (@aB _ _ _ _ _ _ _ _ aJ (pv 3) (pv 8)) (@aa _ _ _ _ _ (pv 4) ab rfl) rfl) rfl) rfl) (by decide) rfl rfl) ab rfl) rfl rfl rfl rfl rfl) rfl) (@af _ _ _ _ _ (@bF _ _ _ _ (@dk _ _ _ _ _ _ _ _ _ _ _ _ PySem.F.plainAttrs_list PySem.F.slot_list_append PySem.F.type_list_append bo (pv 12) (@aa _ _ _ _ _ (@aw _ _ _ _ _ _ _ _ _ _ DTK hr rfl (@aa _ _ _ _ _ (pv 6) (@aa _ _ _ _ _ (@aB _ _ _ _ _ _ _ _ aJ (pv 2) (pv 7)) (@aa _ _ _ _ _ (@aB _ _ _ _ _ _ _ _ aJ (pv 3) (pv 8)) (@aa _ _ _ _ _ (@aw _ _ _ _ _ _ _ _ _ _ DMv (hr.mono (by decide)) rfl (@aa _ _ _ _ _ (pv 4) (@aa _ _ _ _ _ (pv 7) (@aa _ _ _ _ _ (pv 8) ab rfl) rfl) rfl) (by decide) rfl rfl) ab rfl) rfl) rfl) rfl) (by decide) rfl rfl) ab rfl) rfl rfl rfl rfl rfl) rfl) (@af _ _ _ _ _ (@bF _ _ _ _ (@dk _ _ _ _ _ _ _ _ _ _ _ _ PySem.F.plainAttrs_list PySem.F.slot_list_append PySem.F.type_list_append bo (pv 12) (@aa _ _ _ _ _ (@aw _ _ _ _ _ _ _ _ _ _ DTK hr rfl (@aa _ _ _ _ _ (@aw _ _ _ _ _ _ _ _ _ _ DTu (hr.mono (by decide)) rfl (@aa _ _ _ _ _ (pv 1) ab rfl) (by decide) rfl rfl) (@aa _ _ _ _ _ (pv 3) (@aa _ _ _ _ _ (pv 2) (@aa _ _ _ _ _ (pv 11) ab rfl) rfl) rfl) rfl) (by decide) rfl rfl) ab rfl) rfl rfl rfl rfl rfl) rfl) (@af _ _ _ _ _ (@aD _ _ 13 _ _ _ _ nd rfl (Or.inl rfl) (@aw _ _ _ _ _ _ _ _ _ _ DTi (hr.mono (by decide)) rfl (@aa _ _ _ _ _ (pv 1) (@aa _ _ _ _ _ (pv 9) ab rfl) rfl) (by decide) rfl rfl) rfl (Or.inl rfl)) (@af _ _ _ _ _ (@bF _ _ _ _ (@dk _ _ _ _ _ _ _ _ _ _ _ _ PySem.F.plainAttrs_list PySem.F.slot_list_append PySem.F.type_list_append bo (pv 12) (@aa _ _ _ _ _ (@aw _ _ _ _ _ _ _ _ _ _ DTK hr rfl (@aa _ _ _ _ _ (pv 13) (@aa _ _ _ _ _ (@aB _ _ _ _ _ _ _ _ bN (pv 2) (pv 9)) (@aa _ _ _ _ _ (@aB _ _ _ _ _ _ _ _ bN (pv 3) (pv 9)) (@aa _ _ _ _ _ (pv 10) ab rfl) rfl) rfl) rfl) (by decide) rfl rfl) ab rfl) rfl rfl rfl rfl rfl) rfl) (@ai _ _ _ (@aA _ _ _ _ (@aE _ _ _ _ _ _ _ _ _ (eI rfl) rfl B.all PyProof.Rows.boot_all (@aa _ _ _ _ _ (bS (own:=["_law_found"]) (cs:=["_law_word"]) (cap:=[5]) rfl (bc (pv 12)) (aL (sc:=defScope cW) (N:=["_law_pot_here","_law_shop_here","_law_wide","_law_high","_law_pieces","_law_word","_law_made","_law_x","_law_y","_law_many","_law_times","_law_exchanged","_law_told","_law_greater"]) rfl rfl (by decide +kernel)) (fun _ _ _ _ _=>av (i:=0) (by show List.Nodup (["_law_found","_law_word"]:List Str) ; decide +kernel) rfl (Or.inl rfl) (Or.inr rfl)) (fun _ _ _ _ _=>aT) (fun _ _ _ _ _=>(@bn _ _ _ _ _ _ _ _ cR (ar (r:=cO K) ix_tup (pv 0) ae (fun _ _=>rfl)) (pv 1) (aG _)))) ab rfl) (by decide) (by decide) rfl rfl)))))))))))))),?_⟩
 have sz:(2000:Nat) < sizeLine:=by decide
 have e58:(10:Int) ^ 58 + 10≤10 ^ 60:=by decide
 have yl:=Paired.length pz
 have gk':∀k∈ks,Good k:=fun k hk=>(gk k hk).1
 have kp:∀ {qs:List Pq} {c:Int} {ls:List Kd} {z':Str},(HasK b (ps.map (aK ks))↔HasK c (qs.map (aK ls)))→KTB c (qs.map (aK ls)) z'→z'=z:=fun e k=>kt.eq k e
 refine au (fun σ' H'=>∃x:Addr,σ'=[some (.ref p),some (.ref t),some (.int W),some (.int h1),some (.ref pl),some (.str z),some (.ref x),none,none,none,none,none,none,none]∧AC C p t kl x pl b ks ys ps H'∧PotC H' p∧Same H H') (fun R hR=>?_) ?_
 ·obtain ⟨rs,q1,q2,q3⟩:=id ls
  have rl:=Paired.length q3
  refine ⟨_,rfl,t,_,0,_,rfl,rfl,SqT.of q1,rfl,_,rfl,t,_,1,_,rfl,rfl,SqT.of q1,rfl,fun x dx hx hdx ne0=>?_⟩
  have sm:Same H (upd (upd H dx (.own x)) x (.ins C dx [])):=bY hx hdx
  refine ⟨x,dx,kl,b,rs,ks,rfl,ah,b0,.inl (sm _ _ q2),Paired.mapP (Tups.keep (fun c xs e=>sm _ _ e) q3) (fun v k h=>.inl h),gk',by omega,by omega,fun Hb Sb kb=>⟨rfl,?_⟩⟩
  have sb:Same H Hb:=fun c o e=>kb c o (aj e hx) (sm _ _ e)
  exact hR _ _ ⟨x,rfl,⟨ls.same sb,Sb,sb _ _ hpl,Paired.mapP pz fun v q h=>h.keep fun a xs e=>sb _ _ e⟩,pt.same sb,sb⟩
 rintro _ H1 ⟨x,rfl,a1,pt1,s1⟩
 refine au (fun σ' H'=>∃X Y:Int,σ'=[some (.ref p),some (.ref t),some (.int W),some (.int h1),some (.ref pl),some (.str z),some (.ref x),some (.int X),some (.int Y),none,none,none,none,none]∧0≤X∧0≤Y∧AC C p t kl x pl b ks ys ps H'∧PotC H' p∧But p H H') (fun R hR=>?_) ?_
 ·refine ⟨_,rfl,_,rfl,_,_,rfl,rfl,p,_,rfl,pt1,by omega,by omega,fun X H2 x0 x1 pt2 b2=>⟨_,rfl,_,rfl,_,_,rfl,rfl,p,_,rfl,pt2,by omega,by omega,fun Y H3 y0 y1 pt3 b3=>⟨_,_,rfl,hR _ _ ⟨X,Y,rfl,x0,y0,?_,pt3,fun c o n e=>b3 _ _ n (b2 _ _ n (s1 _ _ e))⟩⟩⟩⟩
  obtain ⟨_,e1⟩:=eU pt1
  obtain ⟨_,e2⟩:=eU pt2
  exact (a1.but e1 nk npl b2).but e2 nk npl b3
 rintro _ H2 ⟨X,Y,rfl,x0,y0,a2,pt2,b2⟩
 refine au (fun σ' H'=>∃m:Int,σ'=[some (.ref p),some (.ref t),some (.int W),some (.int h1),some (.ref pl),some (.str z),some (.ref x),some (.int X),some (.int Y),some (.int m),none,none,none,none]∧1≤m∧m≤9∧AC C p t kl x pl b ks ys ps H'∧PotC H' p∧But p H H') (fun R hR=>?_) ?_
 ·obtain ⟨_,e2⟩:=eU pt2
  exact ⟨_,rfl,p,8,rfl,pt2,by decide,by decide,fun r H3 r0 r1 pt3 b3=>⟨_,_,rfl,rfl,hR _ _ ⟨2 + r,rfl,by omega,by omega,a2.but e2 nk npl b3,pt3,b2.trans b3⟩⟩⟩
 clear a2 pt2 b2 a1 pt1 s1
 clear H1 H2
 rintro _ H3 ⟨m,rfl,m1,m9,a3,pt3,b3⟩
 refine au (fun σ' H'=>∃ (tl:Addr) (tv:List V),σ'=[some (.ref p),some (.ref t),some (.int W),some (.int h1),some (.ref pl),some (.str z),some (.ref x),some (.int X),some (.int Y),some (.int m),some (.ref tl),none,none,none]∧H3 tl=none∧H' tl=some (.lst tv)∧Paired (PqU H') tv (ps.map (enQ m))∧Same H3 H') (fun R hR=>?_) ?_
 ·skip
  refine ⟨_,rfl,pl,rfl,⟨_,SqL.of a3.hl⟩,(bg (K:=K) (.inl a3.hl) (fun i us Hx=>Same H3 Hx∧Paired (PqU Hx) us ((ps.take i).map (enQ m))) (fun i us Hx _ e o h=>e.1 _ _ h) ⟨Same.refl _,.nil⟩ ?_ ?_).1 a3.hl⟩
  ·rintro i v us Hx hi ⟨sx,pu⟩
   have hin:i < ys.length:=(List.getElem?_eq_some_iff.mp hi).1
   obtain ⟨q0,hq0,a,rfl,ha⟩:=Paired.getR (a3.pz) hi
   have ha:Hx a=some (.tup [.int q0.k,.bl q0.c,.int q0.x,.int q0.y]):=sx _ _ ha
   have ul:=Paired.length pu
   rw [List.length_map,List.length_take] at ul
   refine ⟨by omega,leS.set rfl,aU ?_⟩
   refine ⟨_,rfl,_,rfl,a,_,rfl,SqT.of ha,(fun z=>absurd z.2 (show ¬ HT.sIx 4 4 (some 2)=4 by decide)),fun a1 ha1=>?_⟩
   obtain ⟨H8,e8,k8,s8⟩:∃H',upd Hx a1 (.tup (bK [.int q0.k,.bl q0.c,.int q0.x,.int q0.y] none (some 2)))=H'∧H' a1=some (.tup (bK [.int q0.k,.bl q0.c,.int q0.x,.int q0.y] none (some 2)))∧Same Hx H':=⟨_,rfl,ah,Same.new ha1⟩
   rw [show upd Hx a1 _=H8 from e8]
   have k8:H8 a1=some (.tup [.int q0.k,.bl q0.c]):=k8
   have ha8:=s8 _ _ ha
   refine ⟨_,rfl,a,_,2,_,rfl,rfl,SqT.of ha8,rfl,_,rfl,_,_,rfl,rfl,(.inr ⟨by omega,by omega⟩),_,rfl,a,_,3,_,rfl,rfl,SqT.of ha8,rfl,_,rfl,_,_,rfl,rfl,(.inr ⟨by omega,by omega⟩),(by show 2≤sizeLine; decide),fun a2 ha2=>?_⟩
   obtain ⟨H9,e9,k9,s9⟩:∃H',upd H8 a2 (.tup [.int (q0.x * m),.int (q0.y * m)])=H'∧H' a2=some (.tup [.int (q0.x * m),.int (q0.y * m)])∧Same H8 H':=⟨_,rfl,ah,Same.new ha2⟩
   rw [show upd H8 a2 _=H9 from e9]
   refine ⟨a1,a2,_,_,rfl,rfl,s9 _ _ k8,k9,(by show 2 + 2≤sizeLine; decide),fun mm Hm hm hm'=>Nx.of hin ⟨sx.trans (s8.trans (s9.trans (fT hm))),?_⟩⟩
   rw [List.take_add_one,hq0,List.map_append]
   exact cP (Paired.mapP pu fun v q h=>h.keep fun c xs e=>fT hm _ _ (s9 _ _ (s8 _ _ e))) (.cons ⟨mm,rfl,hm'⟩ .nil)
  ·rintro us Hx ⟨sx,pu⟩
   rw [yl,List.take_length] at pu
   have ul:=Paired.length pu
   rw [List.length_map] at ul
   refine ⟨by omega,fun lo hlo=>?_⟩
   obtain ⟨H4,e4,k4,s4⟩:∃H',upd Hx lo (.lst us)=H'∧H' lo=some (.lst us)∧Same Hx H':=⟨_,rfl,ah,Same.new hlo⟩
   rw [show upd Hx lo _=H4 from e4]
   exact hR _ _ ⟨lo,us,rfl,sx.free hlo,k4,Paired.mapP pu fun v q h=>h.keep fun c xs e=>s4 _ _ e,sx.trans s4⟩
 rintro _ H4 ⟨tl,tv,rfl,htl3,htl4,ptl,s34⟩
 have a4:=a3.same s34
 refine au (fun σ' H'=>∃ (el:Addr) (ev:List V),σ'=[some (.ref p),some (.ref t),some (.int W),some (.int h1),some (.ref pl),some (.str z),some (.ref x),some (.int X),some (.int Y),some (.int m),some (.ref tl),some (.ref el),none,none]∧H4 el=none∧H' el=some (.lst ev)∧Paired (PqU H') ev (ps.map exQ)∧Same H4 H') (fun R hR=>?_) ?_
 ·skip
  refine ⟨_,rfl,pl,rfl,⟨_,SqL.of a4.hl⟩,(bg (K:=K) (.inl a4.hl) (fun i us Hx=>Same H4 Hx∧Paired (PqU Hx) us ((ps.take i).map (exQ))) (fun i us Hx _ e o h=>e.1 _ _ h) ⟨Same.refl _,.nil⟩ ?_ ?_).1 a4.hl⟩
  ·rintro i v us Hx hi ⟨sx,pu⟩
   have hin:i < ys.length:=(List.getElem?_eq_some_iff.mp hi).1
   obtain ⟨q0,hq0,a,rfl,ha⟩:=Paired.getR (a4.pz) hi
   have ha:Hx a=some (.tup [.int q0.k,.bl q0.c,.int q0.x,.int q0.y]):=sx _ _ ha
   have ul:=Paired.length pu
   rw [List.length_map,List.length_take] at ul
   refine ⟨by omega,leS.set rfl,aU ?_⟩
   refine ⟨_,rfl,_,rfl,a,_,rfl,SqT.of ha,(fun z=>absurd z.2 (show ¬ HT.sIx 4 4 (some 2)=4 by decide)),fun a1 ha1=>?_⟩
   obtain ⟨H8,e8,k8,s8⟩:∃H',upd Hx a1 (.tup (bK [.int q0.k,.bl q0.c,.int q0.x,.int q0.y] none (some 2)))=H'∧H' a1=some (.tup (bK [.int q0.k,.bl q0.c,.int q0.x,.int q0.y] none (some 2)))∧Same Hx H':=⟨_,rfl,ah,Same.new ha1⟩
   rw [show upd Hx a1 _=H8 from e8]
   have k8:H8 a1=some (.tup [.int q0.k,.bl q0.c]):=k8
   have ha8:=s8 _ _ ha
   refine ⟨_,rfl,a,_,3,_,rfl,rfl,SqT.of ha8,rfl,_,rfl,a,_,2,_,rfl,rfl,SqT.of ha8,rfl,(by show 2≤sizeLine; decide),fun a2 ha2=>?_⟩
   obtain ⟨H9,e9,k9,s9⟩:∃H',upd H8 a2 (.tup [.int q0.y,.int q0.x])=H'∧H' a2=some (.tup [.int q0.y,.int q0.x])∧Same H8 H':=⟨_,rfl,ah,Same.new ha2⟩
   rw [show upd H8 a2 _=H9 from e9]
   refine ⟨a1,a2,_,_,rfl,rfl,s9 _ _ k8,k9,(by show 2 + 2≤sizeLine; decide),fun mm Hm hm hm'=>Nx.of hin ⟨sx.trans (s8.trans (s9.trans (fT hm))),?_⟩⟩
   rw [List.take_add_one,hq0,List.map_append]
   exact cP (Paired.mapP pu fun v q h=>h.keep fun c xs e=>fT hm _ _ (s9 _ _ (s8 _ _ e))) (.cons ⟨mm,rfl,hm'⟩ .nil)
  ·rintro us Hx ⟨sx,pu⟩
   rw [yl,List.take_length] at pu
   have ul:=Paired.length pu
   rw [List.length_map] at ul
   refine ⟨by omega,fun lo hlo=>?_⟩
   obtain ⟨H5,e5,k5,s5⟩:∃H',upd Hx lo (.lst us)=H'∧H' lo=some (.lst us)∧Same Hx H':=⟨_,rfl,ah,Same.new hlo⟩
   rw [show upd Hx lo _=H5 from e5]
   exact hR _ _ ⟨lo,us,rfl,sx.free hlo,k5,Paired.mapP pu fun v q h=>h.keep fun c xs e=>s5 _ _ e,sx.trans s5⟩
 rintro _ H5 ⟨el,ev,rfl,hel4,hel5,pel,s45⟩
 have a5:=a4.same s45
 have s35:=s34.trans s45
 have htl5:=s45 _ _ htl4
 have ptl5:Paired (PqU H5) tv (ps.map (enQ m)):=Paired.mapP ptl fun v q h=>h.keep fun c xs e=>s45 _ _ e
 have pt5:=pt3.same s35
 have b5:But p H H5:=fun c o n e=>s35 _ _ (b3 _ _ n e)
 have ntp:tl≠p:=fun z=>by obtain ⟨_,e⟩:=eU pt3; rw [z,e] at htl3; cases htl3
 have nep:el≠p:=fun z=>by obtain ⟨_,e⟩:=eU (pt3.same s34); rw [z,e] at hel4; cases hel4
 have tvl:=Paired.length ptl5
 have evl:=Paired.length pel
 rw [List.length_map] at tvl evl
 refine au (fun σ' H'=>∃to:Addr,σ'=[some (.ref p),some (.ref t),some (.int W),some (.int h1),some (.ref pl),some (.str z),some (.ref x),some (.int X),some (.int Y),some (.int m),some (.ref tl),some (.ref el),some (.ref to),none]∧AD C p t kl x pl tl el to b m ks ys tv ev ps z 1 H H') (fun R hR=>?_) ?_
 ·refine ⟨_,rfl,_,rfl,_,rfl,_,rfl,_,rfl,p,pl,ys,ps,rfl,pt5,npl,a5.hl,a5.pz,by omega,fun l zs qs H6 nl hl pq pm pt6 b56=>?_⟩
  obtain ⟨_,ep5⟩:=eU pt5
  have a6:=a5.but ep5 nk npl b56
  have zl:=Paired.length pq
  have ql:=pm.length_eq
  refine ⟨p,x,l,b,W,h1,ks,zs,qs,rfl,a6.sh,b0,gk',w0,h0,nl,hl,pq,by omega,la.perm pm.symm,fun t1 z1 u1 H7 ht1 kt1 s67=>⟨(by show 1≤sizeLine; decide),fun to hto=>?_⟩⟩
  have ez:z1=z:=kp ⟨fun h=>h.perm (pm.symm.map _),fun h=>h.perm (pm.map _)⟩ kt1
  subst ez
  have pt7:=pt6.same s67
  have b07:But p H H7:=fun c o n e=>s67 _ _ ((b5.trans b56) _ _ n e)
  obtain ⟨H8,e8,k8,n8,s8,b8,pt8⟩:=bJ (o:=.lst [.ref t1]) b07 pt7 hto
  rw [show upd H7 to _=H8 from e8]
  have s68:=s67.trans s8
  have k58:∀c o,c≠p→H5 c=some o→H8 c=some o:=fun c o n e=>s68 _ _ (b56 _ _ n e)
  have t58:∀c xs,H5 c=some (.tup xs)→H8 c=some (.tup xs):=fun c xs e=>s68 _ _ (bQ b56 pt5 e)
  have a7:=a6.same s67
  obtain ⟨rs,_,hkl7,_⟩:=id a7.ls
  have ne:∀ {c:Addr} {o:HO},H7 c=some o→c≠to:=fun e=>aj e hto
  refine hR _ _ ⟨to,rfl,n8,ne hkl7,ne a7.hl,ne (s67 _ _ (b56 _ _ ntp htl5)),ne (s67 _ _ (b56 _ _ nep hel5)),(b07.freeC pt7 hto).2,⟨_,k8,rfl,fun v hv=>?_⟩,a7.same s8,k58 _ _ ntp htl5,Paired.mapP ptl5 (fun v q h=>h.keep t58),k58 _ _ nep hel5,Paired.mapP pel (fun v q h=>h.keep t58),pt8,b8⟩
  rw [List.mem_singleton.mp hv]
  exact ⟨t1,u1,rfl,s8 _ _ ht1⟩
 clear a5 s35 htl5 ptl5 pt5 b5 a4 pel hel5 s45 ptl htl4 s34 a3 pt3 b3 htl3 hel4
 clear H3 H4 H5
 rintro _ H6 ⟨to,rfl,ad6⟩
 refine au (fun σ' H'=>σ'=[some (.ref p),some (.ref t),some (.int W),some (.int h1),some (.ref pl),some (.str z),some (.ref x),some (.int X),some (.int Y),some (.int m),some (.ref tl),some (.ref el),some (.ref to),none]∧AD C p t kl x pl tl el to b m ks ys tv ev ps z 2 H H') (fun R hR=>?_) ?_
 ·obtain ⟨us0,hto6,_⟩:=id ad6.td
  refine ⟨_,rfl,.inl ⟨rfl,_,SqL.of hto6⟩,_,rfl,_,rfl,_,rfl,_,_,rfl,rfl,_,rfl,_,rfl,_,_,rfl,rfl,_,rfl,p,x,pl,b,W + X,h1 + Y,ks,ys,ps,rfl,ad6.ac.sh,b0,gk',by omega,by omega,npl,.inl ad6.ac.hl,Paired.impS (fun v q h=>h.i ad6.po) ad6.ac.pz,y32,la.plate (by omega) (by omega),fun t1 z1 u1 H7 ht1 kt1 s7=>?_⟩
  have ez:z1=z:=kp Iff.rfl kt1
  subst ez
  obtain ⟨us,hto,ul,ad⟩:=ad6.app s7 ht1
  exact ⟨to,us,_,rfl,rfl,hto,by omega,hR _ _ ⟨rfl,ad⟩⟩
 clear ad6
 clear H6
 rintro _ H6 ⟨rfl,ad6⟩
 refine au (fun σ' H'=>σ'=[some (.ref p),some (.ref t),some (.int W),some (.int h1),some (.ref pl),some (.str z),some (.ref x),some (.int X),some (.int Y),some (.int m),some (.ref tl),some (.ref el),some (.ref to),none]∧AD C p t kl x pl tl el to b m ks ys tv ev ps z 3 H H') (fun R hR=>?_) ?_
 ·obtain ⟨us0,hto6,_⟩:=id ad6.td
  refine ⟨_,rfl,.inl ⟨rfl,_,SqL.of hto6⟩,_,rfl,_,rfl,_,rfl,_,_,rfl,rfl,_,rfl,_,rfl,_,_,rfl,rfl,_,rfl,_,rfl,_,rfl,pl,X,Y,ys,ps,rfl,ad6.ac.hl,ad6.ac.pz,by omega,fun l zs H7 hl0 hl pz7 s7=>?_⟩
  have ad7:=ad6.same s7
  have zl:=Paired.length pz7
  rw [List.length_map] at zl
  refine ⟨p,x,l,b,W + X,h1 + Y,ks,zs,ps.map (mvQ X Y),rfl,ad7.ac.sh,b0,gk',by omega,by omega,(fun e=>ad6.po.some (e ▸ hl0)),.inl hl,Paired.impS (fun v q h=>h.i ad7.po) pz7,by omega,la.mv x0 y0,fun t1 z1 u1 H8 ht1 kt1 s8=>?_⟩
  have ez:z1=z:=kp (by rw [hU la (fun q o=>hG o)]; exact pw _ _ _ _) kt1
  subst ez
  obtain ⟨us,hto,ul,ad⟩:=ad7.app s8 ht1
  exact ⟨to,us,_,rfl,rfl,hto,by omega,hR _ _ ⟨rfl,ad⟩⟩
 clear ad6
 clear H6
 rintro _ H6 ⟨rfl,ad6⟩
 refine au (fun σ' H'=>σ'=[some (.ref p),some (.ref t),some (.int W),some (.int h1),some (.ref pl),some (.str z),some (.ref x),some (.int X),some (.int Y),some (.int m),some (.ref tl),some (.ref el),some (.ref to),none]∧AD C p t kl x pl tl el to b m ks ys tv ev ps z 4 H H') (fun R hR=>?_) ?_
 ·obtain ⟨us0,hto6,_⟩:=id ad6.td
  refine ⟨_,rfl,.inl ⟨rfl,_,SqL.of hto6⟩,_,rfl,t,kl,b,ks,rfl,ad6.ac.ls,b0,gk',k1,k8,fun x2 H7 S2 s7=>?_⟩
  have ad7:=ad6.same s7
  have gs:∀k∈ks.map swK,Good k:=fun k hk=>by
   obtain ⟨k',hk',rfl⟩:=List.mem_map.mp hk
   exact (gk' k' hk').sw
  refine ⟨_,rfl,_,rfl,_,rfl,p,x2,el,b,h1,W,ks.map swK,ev,ps.map exQ,rfl,S2,b0,gs,h0,w0,nep,.inl ad7.he,Paired.impS (fun v q h=>h.i ad7.po) ad7.ze,by omega,la.ex gk',fun t1 z1 u1 H8 ht1 kt1 s8=>?_⟩
  have ez:z1=z:=kp (by rw [hU la (fun q o=>hI o)]; exact pC _ _) kt1
  subst ez
  obtain ⟨us,hto,ul,ad⟩:=ad7.app s8 ht1
  exact ⟨to,us,_,rfl,rfl,hto,by omega,hR _ _ ⟨rfl,ad⟩⟩
 clear ad6
 clear H6
 rintro _ H6 ⟨rfl,ad6⟩
 refine au (fun σ' H'=>∃gr:Addr,σ'=[some (.ref p),some (.ref t),some (.int W),some (.int h1),some (.ref pl),some (.str z),some (.ref x),some (.int X),some (.int Y),some (.int m),some (.ref tl),some (.ref el),some (.ref to),some (.ref gr)]∧ShopAt C H' gr (b * m) (ks.map (tmK m))∧AD C p t kl x pl tl el to b m ks ys tv ev ps z 4 H H') (fun R hR=>?_) ?_
 ·exact ⟨_,rfl,_,rfl,t,kl,b,m,ks,rfl,ad6.ac.ls,b0,m1,m9,gk,k1,k8,fun x2 H7 S2 s7=>hR _ _ ⟨x2,rfl,S2,ad6.same s7⟩⟩
 clear ad6
 clear H6
 rintro _ H6 ⟨gr,rfl,sg,ad6⟩
 refine au (fun σ' H'=>σ'=[some (.ref p),some (.ref t),some (.int W),some (.int h1),some (.ref pl),some (.str z),some (.ref x),some (.int X),some (.int Y),some (.int m),some (.ref tl),some (.ref el),some (.ref to),some (.ref gr)]∧AD C p t kl x pl tl el to b m ks ys tv ev ps z 5 H H') (fun R hR=>?_) ?_
 ·obtain ⟨us0,hto6,_⟩:=id ad6.td
  have gs:∀k∈ks.map (tmK m),Good k:=fun k hk=>by
   obtain ⟨k',hk',rfl⟩:=List.mem_map.mp hk
   exact (gk k' hk').tm m1 m9
  have wm:1 * 1≤W * m:=Int.mul_le_mul w0 m1 (by decide) (by omega)
  have hm:1 * 1≤h1 * m:=Int.mul_le_mul h0 m1 (by decide) (by omega)
  refine ⟨_,rfl,.inl ⟨rfl,_,SqL.of hto6⟩,_,rfl,_,rfl,_,rfl,_,_,rfl,rfl,(.inr ⟨by omega,by omega⟩),_,rfl,_,rfl,_,_,rfl,rfl,(.inr ⟨by omega,by omega⟩),_,rfl,p,gr,tl,b * m,W * m,h1 * m,ks.map (tmK m),tv,ps.map (enQ m),rfl,sg,Int.mul_nonneg b0 (by omega),gs,by omega,by omega,ntp,.inl ad6.ht,Paired.impS (fun v q h=>h.i ad6.po) ad6.zt,by omega,la.en gk' m1,fun t1 z1 u1 H8 ht1 kt1 s8=>?_⟩
  have ez:z1=z:=kp (by rw [hU la (fun q o=>hJ o)]; exact pE _ m1 _) kt1
  subst ez
  obtain ⟨us,hto,ul,ad⟩:=ad6.app s8 ht1
  exact ⟨to,us,_,rfl,rfl,hto,by omega,hR _ _ ⟨rfl,ad⟩⟩
 clear ad6 sg
 clear H6
 rintro _ H6 ⟨rfl,ad6⟩
 obtain ⟨us,hto,ul,hus⟩:=ad6.td
 refine ⟨_,rfl,to,rfl,⟨_,SqL.of hto⟩,(bg (K:=K) (.inl hto) (fun i vs Hx=>H6=Hx∧vs=(List.replicate i true).map V.bl) (fun i vs Hx _ e o h=>by rw [← e.1]; exact h) ⟨rfl,rfl⟩ ?_ ?_).1 hto⟩
 ·rintro i v vs Hx hi ⟨rfl,rfl⟩
  have hin:i < us.length:=(List.getElem?_eq_some_iff.mp hi).1
  obtain ⟨a,u,rfl,ha⟩:=hus v (List.mem_of_getElem? hi)
  refine ⟨by rw [List.length_map,List.length_replicate]; omega,leS.set rfl,aU ?_⟩
  refine ⟨_,rfl,a,_,0,_,rfl,rfl,SqT.of ha,rfl,_,rfl,rfl,Nx.of hin ⟨rfl,?_⟩⟩
  rw [decide_eq_true rfl,List.replicate_succ',List.map_append]
  rfl
 ·rintro vs Hx ⟨rfl,rfl⟩
  refine ⟨by rw [List.length_map,List.length_replicate]; omega,fun l hl=>⟨l,_,rfl,SqL.of ah,?_⟩⟩
  have e:(List.replicate us.length true).all id=true:=by
   rw [List.all_eq_true]
   intro x hx
   exact (List.mem_replicate.mp hx).2
  rw [e]
  exact q _ (ad6.po.new hl) (ad6.bt.trans (But.new hl))
end
structure LB (p t kl l:Addr) (b:Int) (ks:List Kd) (ys:List V) (ps:List Pq) (Hx H:Hp):Prop where
 ls:LS H t b ks kl
 hl:H l=some (.lst ys)
 pz:Paired (PqU H) ys ps
 po:PotC H p
 bt:But p Hx H
theorem LB.same {p t kl l:Addr} {b:Int} {ks:List Kd} {ys:List V} {ps:List Pq} {Hx H H':Hp} (a:LB p t kl l b ks ys ps Hx H) (s:Same H H'):LB p t kl l b ks ys ps Hx H' :=
 ⟨a.ls.same s,s _ _ a.hl,Paired.mapP a.pz fun v q h=>h.keep fun c xs e=>s _ _ e,a.po.same s,fun c o n e=>s _ _ (a.bt _ _ n e)⟩
theorem LB.but {p t kl l:Addr} {b:Int} {ks:List Kd} {ys:List V} {ps:List Pq} {Hx H H':Hp} (a:LB p t kl l b ks ys ps Hx H) (nk:kl≠p) (nl:l≠p) (po:PotC H' p) (s:But p H H'):LB p t kl l b ks ys ps Hx H' :=
 ⟨a.ls.but nk a.po s,s _ _ nl a.hl,Paired.mapP a.pz fun v q h=>h.keep fun c xs e=>bQ s a.po e,po,a.bt.trans s⟩
section
variable {P:Program} {w:World} {K:PySem.W.Frag} {mg:Str→Option Value} {base:Heap}
def kA (K:PySem.W.Frag):Sp:=fun vs H Q _=>∃ (a:Addr) (ns:List Int),vs=[.ref a]∧SqL K H a (ns.map V.int)∧ns.length≤63∧∀H',Q (.bl true) H'
theorem sclaw:FnScope ["_law_script","_law_k","_law_pot_here","_law_unit_here","_law_shop_here","_law_wide","_law_high","_law_begun","_law_pieces","_law_word","_law_fewer","_law_narrow","_law_less"] ["_law_script"] (defScope gO):=⟨rfl,rfl,rfl,by decide +kernel,rfl,by decide +kernel,by decide +kernel⟩
set_option maxHeartbeats 1000000 in
theorem qW {f C:Addr} {fd:FuncData} (F:Fun K "law" "law" gO f fd) (B:Blt mg) (DC:Dn P w K mg base "_law_cell" ["_law_script","_law_k"] 1 (jn K)) (DP:Dn P w K mg base "_law_pot" ["_law_cell_here","_law_k"] 1 (jv)) (DD:Dn P w K mg base "_law_take" ["_law_pot_here","_law_many"] 1 (cu)) (DU:Dn P w K mg base "_law_unit" ["_law_pot_here"] 2 (jw)) (DSp:Dn P w K mg base "_law_shop" ["_law_pot_here","_law_unit_here"] 3 (gR)) (DSi:Dn P w K mg base "_law_side" ["_law_pot_here","_law_unit_here","_law_most"] 2 (eY)) (DWh:Dn P w K mg base "_law_wheel" ["_law_pot_here","_law_shop_here","_law_wide","_law_high"] 4 (hX)) (DSc:Dn P w K mg base "_law_scattered" ["_law_pot_here","_law_shop_here","_law_wide","_law_high","_law_pieces","_law_many"] 4 (jA)) (DAl:Dn P w K mg base "_law_alike" ["_law_pot_here","_law_shop_here","_law_wide","_law_high","_law_pieces","_law_word"] 39 (ic C)) (DTK:Dn P w K mg base "tree_or_knot" ["shop","wide","high","laying"] 38 (ky C)) (DSh:Kn P w K mg base "Shop" C ["self","blade","kinds"] 3 (eH C)):FnOk P w K mg base CX0 40 f fd ["_law_script"] (kA K):=by
 refine F.ok sclaw (fun vs H Q E h=>?_) (fun cdv A outer s H vs Q E hr h=>?_)
 ·obtain ⟨a,ns,rfl,_⟩:=h
  rfl
 obtain ⟨a,ns,rfl,hS,n63,q⟩:=h
 have nd:=sclaw.nd
 refine ⟨_,(@af _ _ _ _ _ (@cf _ _ _ _ _ _ _ _ PassesOwn.never rfl (cZ rfl B.range (@aa _ _ _ _ _ (@aE _ _ _ _ _ _ _ _ _ (cF rfl) rfl B.max PyProof.Rows.boot_max (@aa _ _ _ _ _ ae (@aa _ _ _ _ _ (@aE _ _ _ _ _ _ _ _ _ (kF rfl) rfl B.min PyProof.Rows.boot_min (@aa _ _ _ _ _ ae (@aa _ _ _ _ _ (@aE _ _ _ _ _ _ _ _ _ aP rfl B.len PySem.boot_len (@aa _ _ _ _ _ (pv 0) ab rfl) (by decide) (by decide) rfl rfl) ab rfl) rfl) (by decide) (by decide) rfl rfl) ab rfl) rfl) (by decide) (by decide) rfl rfl) ab rfl)) (av (i:=1) nd rfl (Or.inl rfl)) (@af _ _ _ _ _ (@aD _ _ 2 _ _ _ _ nd rfl (Or.inr rfl) (@aw _ _ _ _ _ _ _ _ _ _ DP (hr.mono (by decide)) rfl (@aa _ _ _ _ _ (@aw _ _ _ _ _ _ _ _ _ _ DC (hr.mono (by decide)) rfl (@aa _ _ _ _ _ (pv 0) (@aa _ _ _ _ _ (pv 1) ab rfl) rfl) (by decide) rfl rfl) (@aa _ _ _ _ _ (pv 1) ab rfl) rfl) (by decide) rfl rfl) rfl (Or.inl rfl)) (@af _ _ _ _ _ (@aD _ _ 3 _ _ _ _ nd rfl (Or.inl rfl) (@aw _ _ _ _ _ _ _ _ _ _ DU (hr.mono (by decide)) rfl (@aa _ _ _ _ _ (pv 2) ab rfl) (by decide) rfl rfl) rfl (Or.inl rfl)) (@af _ _ _ _ _ (@aD _ _ 4 _ _ _ _ nd rfl (Or.inl rfl) (@aw _ _ _ _ _ _ _ _ _ _ DSp (hr.mono (by decide)) rfl (@aa _ _ _ _ _ (pv 2) (@aa _ _ _ _ _ (pv 3) ab rfl) rfl) (by decide) rfl rfl) rfl (Or.inl rfl)) (@af _ _ _ _ _ (ms rfl nd rfl rfl (i:=5) (j:=6) (by decide) rfl rfl (@aa _ _ _ _ _ (@aw _ _ _ _ _ _ _ _ _ _ DSi (hr.mono (by decide)) rfl (@aa _ _ _ _ _ (pv 2) (@aa _ _ _ _ _ (pv 3) (@aa _ _ _ _ _ ae ab rfl) rfl) rfl) (by decide) rfl rfl) (@aa _ _ _ _ _ (@aw _ _ _ _ _ _ _ _ _ _ DSi (hr.mono (by decide)) rfl (@aa _ _ _ _ _ (pv 2) (@aa _ _ _ _ _ (pv 3) (@aa _ _ _ _ _ ae ab rfl) rfl) rfl) (by decide) rfl rfl) ab rfl) rfl) rfl) (@af _ _ _ _ _ (@aD _ _ 7 _ _ _ _ nd rfl (Or.inl rfl) (@bd _ _ _ _ ab) rfl (Or.inl rfl)) (@af _ _ _ _ _ (@aS _ _ _ _ _ _ _ _ (@aI _ _ _ _ _ _ _ _ cR (@aw _ _ _ _ _ _ _ _ _ _ DD (hr.mono (by decide)) rfl (@aa _ _ _ _ _ (pv 2) (@aa _ _ _ _ _ ae ab rfl) rfl) (by decide) rfl rfl) ae (aG _)) (@ai _ _ _ (@aD _ _ 7 _ _ _ _ nd rfl (Or.inl rfl) (@aw _ _ _ _ _ _ _ _ _ _ DWh (hr.mono (by decide)) rfl (@aa _ _ _ _ _ (pv 2) (@aa _ _ _ _ _ (pv 4) (@aa _ _ _ _ _ (pv 5) (@aa _ _ _ _ _ (pv 6) ab rfl) rfl) rfl) rfl) (by decide) rfl rfl) rfl (Or.inl rfl))) aF) (@af _ _ _ _ _ (@aD _ _ 8 _ _ _ _ nd rfl (Or.inl rfl) (@aw _ _ _ _ _ _ _ _ _ _ DSc (hr.mono (by decide)) rfl (@aa _ _ _ _ _ (pv 2) (@aa _ _ _ _ _ (pv 4) (@aa _ _ _ _ _ (pv 5) (@aa _ _ _ _ _ (pv 6) (@aa _ _ _ _ _ (pv 7) (@aa _ _ _ _ _ (@aw _ _ _ _ _ _ _ _ _ _ DD (hr.mono (by decide)) rfl (@aa _ _ _ _ _ (pv 2) (@aa _ _ _ _ _ ae ab rfl) rfl) (by decide) rfl rfl) ab rfl) rfl) rfl) rfl) rfl) rfl) (by decide) rfl rfl) rfl (Or.inl rfl)) (@af _ _ _ _ _ (@aD _ _ 9 _ _ _ _ nd rfl (Or.inl rfl) (@ar _ _ _ _ _ _ _ ix_tup (@aw _ _ _ _ _ _ _ _ _ _ DTK (hr.mono (by decide)) rfl (@aa _ _ _ _ _ (gq DSh (hr.mono (by decide)) rfl (@aa _ _ _ _ _ (@ar _ _ _ _ _ _ _ ix_tup (pv 4) ae (fun _ _=>rfl)) (@aa _ _ _ _ _ (@ar _ _ _ _ _ _ _ ix_tup (pv 4) ae (fun _ _=>rfl)) ab rfl) rfl)) (@aa _ _ _ _ _ (pv 5) (@aa _ _ _ _ _ (pv 6) (@aa _ _ _ _ _ (pv 8) ab rfl) rfl) rfl) rfl) (by decide) rfl rfl) ae (fun _ _=>rfl)) rfl (Or.inl rfl)) (@af _ _ _ _ _ (@aS _ _ _ _ _ _ _ _ (PW.pt (cM (@aI _ _ _ _ _ _ _ _ gK (pv 9) (@aN _ _ _ _ _ (@aa _ _ _ _ _ ek (@aa _ _ _ _ _ ek ab rfl) rfl)) rfl) (cA (@aZ _ _ _ _ (@aR _ _ _ (@aw _ _ _ _ _ _ _ _ _ _ DAl hr rfl (@aa _ _ _ _ _ (pv 2) (@aa _ _ _ _ _ (pv 4) (@aa _ _ _ _ _ (pv 5) (@aa _ _ _ _ _ (pv 6) (@aa _ _ _ _ _ (pv 8) (@aa _ _ _ _ _ (pv 9) ab rfl) rfl) rfl) rfl) rfl) rfl) (by decide) rfl rfl) (by intro _; rfl)))))) (@ai _ _ _ (@aA _ _ _ _ cb)) aF) (@af _ _ _ _ _ (cz (i:=10) (own:=["_law_piece"]) (cs:=["_law_pot_here"]) (cap:=[2]) rfl nd rfl rfl rfl (bc (pv 8)) (aL (sc:=defScope gO) (N:=["_law_script","_law_k","_law_pot_here","_law_unit_here","_law_shop_here","_law_wide","_law_high","_law_begun","_law_pieces","_law_word","_law_fewer","_law_narrow","_law_less"]) rfl rfl (by decide +kernel)) (fun _ _ _ _ _=>av (i:=0) (by show List.Nodup (["_law_piece","_law_pot_here"]:List Str) ; decide +kernel) rfl (Or.inl rfl) (Or.inr rfl)) (fun _ _ _ _ _=>(ft (@aI _ _ _ _ _ _ _ _ fY (@aw _ _ _ _ _ _ _ _ _ _ DD (hr.mono (by decide)) rfl (@aa _ _ _ _ _ (pv 1) (@aa _ _ _ _ _ ae ab rfl) rfl) (by decide) rfl rfl) ae (aG _)))) (fun _ _ _ _ _=>(pv 0))) (@af _ _ _ _ _ (@aD _ _ 11 _ _ _ _ nd rfl (Or.inl rfl) (gq DSh (hr.mono (by decide)) rfl (@aa _ _ _ _ _ (@aw _ _ _ _ _ _ _ _ _ _ DD (hr.mono (by decide)) rfl (@aa _ _ _ _ _ (pv 2) (@aa _ _ _ _ _ (@aB _ _ _ _ _ _ _ _ aJ (@ar _ _ _ _ _ _ _ ix_tup (pv 4) ae (fun _ _=>rfl)) ae) ab rfl) rfl) (by decide) rfl rfl) (@aa _ _ _ _ _ (@ar _ _ _ _ _ _ _ ix_tup (pv 4) ae (fun _ _=>rfl)) ab rfl) rfl)) rfl (Or.inl rfl)) (@af _ _ _ _ _ (@aD _ _ 12 _ _ _ _ nd rfl (Or.inl rfl) (@aw _ _ _ _ _ _ _ _ _ _ DTK (hr.mono (by decide)) rfl (@aa _ _ _ _ _ (gq DSh (hr.mono (by decide)) rfl (@aa _ _ _ _ _ (@ar _ _ _ _ _ _ _ ix_tup (pv 4) ae (fun _ _=>rfl)) (@aa _ _ _ _ _ (@ar _ _ _ _ _ _ _ ix_tup (pv 4) ae (fun _ _=>rfl)) ab rfl) rfl)) (@aa _ _ _ _ _ (pv 5) (@aa _ _ _ _ _ (pv 6) (@aa _ _ _ _ _ (pv 10) ab rfl) rfl) rfl) rfl) (by decide) rfl rfl) rfl (Or.inl rfl)) (@af _ _ _ _ _ (@aS _ _ _ _ _ _ _ _ (PW.pt (ff (@aI _ _ _ _ _ _ _ _ cR (pv 9) ek (aG _)) (dH (@aI _ _ _ _ _ _ _ _ fX (@ar _ _ _ _ _ _ _ ix_tup (pv 12) ae (fun _ _=>rfl)) ek (aG _))))) (@ai _ _ _ (@aA _ _ _ _ cb)) aF) (@ai _ _ _ (@aS _ _ _ _ _ _ _ _ (PW.pt (ff (@aI _ _ _ _ _ _ _ _ cR (pv 9) ek (aG _)) (dH (@aI _ _ _ _ _ _ _ _ fX (@ar _ _ _ _ _ _ _ ix_tup (@aw _ _ _ _ _ _ _ _ _ _ DTK (hr.mono (by decide)) rfl (@aa _ _ _ _ _ (pv 11) (@aa _ _ _ _ _ (pv 5) (@aa _ _ _ _ _ (pv 6) (@aa _ _ _ _ _ (pv 8) ab rfl) rfl) rfl) rfl) (by decide) rfl rfl) ae (fun _ _=>rfl)) ek (aG _))))) (@ai _ _ _ (@aA _ _ _ _ cb)) aF))))))))))))))) (by intro _; rfl)) (@ai _ _ _ (@aA _ _ _ _ cb))),?_⟩
 have sz:(10000:Nat) < sizeLine:=by decide
 have e58:(10:Int) ^ 58 < 10 ^ 60:=by decide
 have ln:(ns.map V.int).length=ns.length:=List.length_map _
 refine au (fun σ' H'=>True) (fun R hR=>?_) ?_
 ·refine ⟨_,rfl,a,_,rfl,.inl hS,_,_,rfl,_,_,rfl,_,rfl,?_,?_,?_⟩
  ·rw [ln]; split <;> omega
  ·rw [ln]; split <;> omega
  generalize hn:(Int.toNat _)=n
  have n8:n≤8:=by
   rw [← hn]
   split <;> (try split) <;> omega
  refine et (n:=n) (fun i σ H'=>∃v1 v2 v3 v4 v5 v6 v7 v8 v9 v10 v11 v12:Option V,σ=[some (.ref a),v1,v2,v3,v4,v5,v6,v7,v8,v9,v10,v11,v12]∧Same H H') ⟨_,_,_,_,_,_,_,_,_,_,_,_,rfl,Same.refl _⟩ ?_ (fun σ Hx _=>hR _ _ trivial)
  rintro i σ Hx hi ⟨v1,v2,v3,v4,v5,v6,v7,v8,v9,v10,v11,v12,rfl,sx⟩
  refine au (fun σ' H'=>∃p,σ'=[some (.ref a),some (.int (0 + (i:Int))),some (.ref p),v3,v4,v5,v6,v7,v8,v9,v10,v11,v12]∧Hx p=none∧PotC H' p∧But p Hx H') (fun R hR=>?_) ?_
  ·exact ⟨_,rfl,_,rfl,a,ns,_,rfl,sx.seq hS,by omega,fun c=>⟨_,rfl,c,_,rfl,by omega,by omega,fun p Hb hp ptb sb=>hR _ _ ⟨p,rfl,hp,ptb,Pc.Same.but sb⟩⟩⟩
  rintro _ H1 ⟨p,rfl,hp,pt1,b1⟩
  refine au (fun σ' H'=>∃u:Int,σ'=[some (.ref a),some (.int (0 + (i:Int))),some (.ref p),some (.int u),v4,v5,v6,v7,v8,v9,v10,v11,v12]∧1≤u∧u < 2 * 10 ^ 56∧PotC H' p∧But p Hx H') (fun R hR=>?_) ?_
  ·exact ⟨_,rfl,p,rfl,pt1,fun u H2 u1 u2 pt2 b2=>hR _ _ ⟨u,rfl,u1,u2,pt2,b1.trans b2⟩⟩
  rintro _ H2 ⟨u,rfl,u1,u2,pt2,b2⟩
  refine au (fun σ' H'=>∃ (t kl:Addr) (b:Int) (ks:List Kd),σ'=[some (.ref a),some (.int (0 + (i:Int))),some (.ref p),some (.int u),some (.ref t),v5,v6,v7,v8,v9,v10,v11,v12]∧LS H' t b ks kl∧kl≠p∧(∀k∈ks,GoodS k)∧1≤ks.length∧ks.length≤8∧0≤b∧b < 10 ^ 60∧PotC H' p∧But p Hx H') (fun R hR=>?_) ?_
  ·exact ⟨_,rfl,_,rfl,p,u,rfl,pt2,u1,u2,fun t kl b ks H3 ls nk _ gk k1 k8 b0 b60 pt3 b3=>hR _ _ ⟨t,kl,b,ks,rfl,ls,nk,gk,k1,k8,b0,b60,pt3,b2.trans b3⟩⟩
  rintro _ H3 ⟨t,kl,b,ks,rfl,ls3,nk,gkS,k1,kn8,b0,b60,pt3,b3⟩
  have gk:∀k∈ks,Good k:=fun k hk=>(gkS k hk).1
  refine au (fun σ' H'=>∃W h1:Int,σ'=[some (.ref a),some (.int (0 + (i:Int))),some (.ref p),some (.int u),some (.ref t),some (.int W),some (.int h1),v7,v8,v9,v10,v11,v12]∧1≤W∧W < 10 ^ 58∧1≤h1∧h1 < 10 ^ 58∧LS H' t b ks kl∧PotC H' p∧But p Hx H') (fun R hR=>?_) ?_
  ·exact ⟨_,rfl,_,rfl,p,u,24,rfl,pt3,u1,u2,by decide,by decide,fun W H5 w0 w58 pt5 b5=>⟨_,rfl,_,rfl,p,u,24,rfl,pt5,u1,u2,by decide,by decide,fun h1 H6 h0 h58 pt6 b6=>⟨_,_,rfl,hR _ _ ⟨W,h1,rfl,w0,w58,h0,h58,(ls3.but nk pt3 b5).but nk pt5 b6,pt6,b3.trans (b5.trans b6)⟩⟩⟩⟩
  rintro _ H5 ⟨W,h1,rfl,w0,w58,h0,h58,ls5,pt5,b5⟩
  refine au (fun σ' H'=>∃be:Addr,σ'=[some (.ref a),some (.int (0 + (i:Int))),some (.ref p),some (.int u),some (.ref t),some (.int W),some (.int h1),some (.ref be),v8,v9,v10,v11,v12]∧be≠p∧H' be=some (.lst [])∧LS H' t b ks kl∧PotC H' p∧But p Hx H') (fun R hR=>?_) ?_
  ·refine ⟨by decide,fun be hbe=>?_⟩
   obtain ⟨H6,e6,k6,n6,s6,b6,pt6⟩:=bJ (o:=.lst []) b5 pt5 hbe
   rw [show upd H5 be _=H6 from e6]
   exact hR _ _ ⟨be,rfl,n6,k6,ls5.same s6,pt6,b6⟩
  rintro _ H6 ⟨be,rfl,nbe,hbe,ls6,pt6,b6⟩
  refine au (fun σ' H'=>∃ (be:Addr) (ys:List V) (ps:List Pq),σ'=[some (.ref a),some (.int (0 + (i:Int))),some (.ref p),some (.int u),some (.ref t),some (.int W),some (.int h1),some (.ref be),v8,v9,v10,v11,v12]∧be≠p∧H' be=some (.lst ys)∧Paired (PqT ks H') ys ps∧Laid ks W h1 ps∧ys.length≤4∧LS H' t b ks kl∧PotC H' p∧But p Hx H') (fun R hR=>?_) ?_
  ·refine ⟨_,rfl,p,2,rfl,pt6,by decide,by decide,fun z H7 z0 z1 pt7 b7=>⟨rfl,_,rfl,?_⟩⟩
   have ls7:=ls6.but nk pt6 b7
   refine bE (fun cc=>?_) (fun cc=>hR _ _ ⟨be,[],[],rfl,nbe,b7 _ _ nbe hbe,.nil,fun i p hp=>by simp at hp,Nat.zero_le _,ls7,pt7,b6.trans b7⟩)
   exact ⟨_,rfl,_,rfl,_,rfl,_,rfl,p,t,kl,b,W,h1,ks,rfl,pt7,ls7,nk,k1,kn8,gk,b0,fun l zs qs H8 _ nl hl pz ld zl pt8 b8=>hR _ _ ⟨l,zs,qs,rfl,nl,hl,pz,ld,zl,ls7.but nk pt7 b8,pt8,(b6.trans b7).trans b8⟩⟩
  clear hbe nbe b6 pt6 ls6 b5 pt5 ls5 b1 pt1 b2 pt2 b3 pt3 ls3
  clear H6 be H5 H1 H2 H3
  rintro _ H6 ⟨be,ys0,ps0,rfl,nbe,hbe,pz0,ld0,y04,ls6,pt6,b6⟩
  refine au (fun σ' H'=>∃ (l:Addr) (ys:List V) (ps:List Pq),σ'=[some (.ref a),some (.int (0 + (i:Int))),some (.ref p),some (.int u),some (.ref t),some (.int W),some (.int h1),some (.ref be),some (.ref l),v9,v10,v11,v12]∧l≠p∧Lay ks W h1 ps∧ys.length < 32∧LB p t kl l b ks ys ps Hx H') (fun R hR=>?_) ?_
  ·refine ⟨_,rfl,_,rfl,_,rfl,_,rfl,_,rfl,_,rfl,p,17,rfl,pt6,by decide,by decide,fun mm H7 m0 m1 pt7 b7=>?_⟩
   have ls7:=ls6.but nk pt6 b7
   exact ⟨p,t,kl,be,b,W,h1,mm,ks,ys0,ps0,rfl,pt7,ls7,nk,k1,kn8,gk,b0,w0,by omega,h0,by omega,m0,by omega,nbe,b7 _ _ nbe hbe,Paired.mapP pz0 fun v q h=>h.keep fun a xs e=>bQ b7 pt6 e,y04,ld0,fun l zs qs H8 hl0 nl hl pz ld zl pt8 b8=>hR _ _ ⟨l,zs,qs,rfl,nl,ld.lay pz,by omega,ls7.but nk pt7 b8,hl,Paired.impS (fun v q h=>h.u) pz,pt8,(b6.trans b7).trans b8⟩⟩
  clear hbe nbe b6 pt6 ls6 pz0
  clear H6
  rintro _ H6 ⟨l,ys,ps,rfl,nl,la,y32,lb6⟩
  have yl:=Paired.length lb6.pz
  have tkp:∀ {Hb:Hp},LB p t kl l b ks ys ps Hx Hb→Paired (PqI p Hb) ys ps:=fun lb=>Paired.impS (fun v q h=>h.i lb.po) lb.pz
  refine au (fun σ' H'=>∃z:Str,σ'=[some (.ref a),some (.int (0 + (i:Int))),some (.ref p),some (.int u),some (.ref t),some (.int W),some (.int h1),some (.ref be),some (.ref l),some (.str z),v10,v11,v12]∧KTB b (ps.map (aK ks)) z∧LB p t kl l b ks ys ps Hx H') (fun R hR=>?_) ?_
  ·skip
   obtain ⟨rs,q1,q2,q3⟩:=id (lb6.ls)
   have rl:=Paired.length q3
   refine ⟨_,rfl,t,_,0,_,rfl,rfl,SqT.of q1,rfl,_,rfl,t,_,1,_,rfl,rfl,SqT.of q1,rfl,fun x dx hx hdx ne0=>?_⟩
   have sm:Same H6 (upd (upd H6 dx (.own x)) x (.ins C dx [])):=bY hx hdx
   refine ⟨x,dx,kl,b,rs,ks,rfl,ah,b0,.inl (sm _ _ q2),Paired.mapP (Tups.keep (fun c xs e=>sm _ _ e) q3) (fun v k h=>.inl h),gk,by omega,by omega,fun Hb Sb kb=>⟨rfl,?_⟩⟩
   have sb:Same H6 Hb:=fun c o e=>kb c o (aj e hx) (sm _ _ e)
   have lbb:=lb6.same sb
   exact ⟨_,rfl,_,rfl,_,rfl,p,x,l,b,W,h1,ks,ys,ps,rfl,Sb,b0,gk,w0,h0,nl,.inl lbb.hl,tkp lbb,y32,la,fun t1 z u H8 ht1 kt s8=>⟨t1,_,0,_,rfl,rfl,SqT.of ht1,rfl,hR _ _ ⟨z,rfl,kt,lbb.same s8⟩⟩⟩
  clear lb6
  clear H6
  rintro _ H6 ⟨z,rfl,kt,lb6⟩
  refine au (fun σ' H'=>σ'=[some (.ref a),some (.int (0 + (i:Int))),some (.ref p),some (.int u),some (.ref t),some (.int W),some (.int h1),some (.ref be),some (.ref l),some (.str z),v10,v11,v12]∧LB p t kl l b ks ys ps Hx H') (fun R hR=>?_) ?_
  ·refine ⟨_,rfl,(by show 2≤sizeLine; decide),fun tt htt=>?_⟩
   obtain ⟨H7, e7, k7, s7⟩:∃H', upd H6 tt (.tup [.str "tree", .str "knot"])=H'∧H' tt=some (.tup [.str "tree", .str "knot"])∧Same H6 H':=⟨_, rfl, ah, Same.new htt⟩
   rw [show upd H6 tt _=H7 from e7]
   have lb7:=lb6.same s7
   refine ⟨tt,_,rfl,.inr (SqT.of k7),rfl,rfl,_,rfl,?_⟩
   have ev:inV (V.str z) [V.str "tree",V.str "knot"]=true:=by
    rcases kt.word with e | e <;> rw [e] <;> decide +kernel
   rw [ev]
   refine bh ⟨_,rfl,_,rfl,_,rfl,_,rfl,_,rfl,_,rfl,p,t,kl,l,b,W,h1,ks,ys,ps,z,rfl,lb7.po,lb7.ls,nk,k1,kn8,gkS,b0,w0,w58,h0,h58,nl,lb7.hl,lb7.pz,y32,la,kt,fun H8 pt8 b8=>⟨_,rfl,bh (hR _ _ ⟨rfl,lb7.but nk nl pt8 b8⟩)⟩⟩
  clear lb6
  clear H6
  rintro _ H6 ⟨rfl,lb6⟩
  refine au (fun σ' H'=>∃ (fe:Addr) (fv:List V) (qs:List Pq),σ'=[some (.ref a),some (.int (0 + (i:Int))),some (.ref p),some (.int u),some (.ref t),some (.int W),some (.int h1),some (.ref be),some (.ref l),some (.str z),some (.ref fe),v11,v12]∧fe≠p∧H' fe=some (.lst fv)∧Paired (PqU H') fv qs∧qs.Sublist ps∧LB p t kl l b ks ys ps Hx H') (fun R hR=>?_) ?_
  ·refine ⟨_,rfl,l,rfl,⟨_,SqL.of lb6.hl⟩,(bg (K:=K) (.inl lb6.hl) (fun i us Hy=>∃qs:List Pq,Paired (PqU Hy) us qs∧qs.Sublist (ps.take i)∧PotC Hy p∧But p H6 Hy) (fun i us Hy _ ⟨_,_,_,_,b⟩ o h=>b _ _ nl h) ⟨[],.nil,.slnil,lb6.po,But.refl'⟩ ?_ ?_).1 lb6.hl⟩
   ·rintro j v us Hy hj ⟨qs,pu,sq,py,by'⟩
    have hin:j < ys.length:=(List.getElem?_eq_some_iff.mp hj).1
    obtain ⟨q0,hq0,aq,rfl,haq⟩:=Paired.getR lb6.pz hj
    have ul:=Paired.length pu
    have ql:=sq.length_le
    rw [List.length_take] at ql
    refine ⟨by omega,leS.set rfl,?_⟩
    refine ⟨_,rfl,p,4,rfl,py,by decide,by decide,fun r Hz r0 r1 pz' bz=>⟨_,_,rfl,rfl,_,rfl,?_⟩⟩
    have pu':Paired (PqU Hz) us qs:=Paired.mapP pu fun v q h=>h.keep fun c xs e=>bQ bz py e
    have nx:∀ (us':List V) (qs':List Pq),Paired (PqU Hz) us' qs'→qs'.Sublist (ps.take (j + 1))→Nx ys.length (fun i us Hy=>∃qs:List Pq,Paired (PqU Hy) us qs∧qs.Sublist (ps.take i)∧PotC Hy p∧But p H6 Hy) j us' Hz:=fun us' qs' e1 e2=>Nx.of hin ⟨qs',e1,e2,pz',by'.trans bz⟩
    rw [List.take_add_one,hq0,Option.toList_some] at nx
    refine bE (fun cc=>?_) (fun cc=>?_)
    ·exact ⟨_,rfl,nx _ (qs ++ [q0]) (cP pu' (.cons ⟨aq,rfl,bQ bz py (bQ by' lb6.po haq)⟩ .nil)) (sq.append (List.Sublist.refl _))⟩
    ·exact nx _ qs pu' (sq.trans (List.sublist_append_left _ _))
   ·rintro us Hy ⟨qs,pu,sq,py,by'⟩
    rw [yl,List.take_length] at sq
    have ul:=Paired.length pu
    have ql:=sq.length_le
    refine ⟨by omega,fun fe hfe=>?_⟩
    obtain ⟨H8,e8,k8,n8,s8,b8,pt8⟩:=bJ (o:=.lst us) by' py hfe
    rw [show upd Hy fe _=H8 from e8]
    exact hR _ _ ⟨fe,us,qs,rfl,n8,k8,Paired.mapP pu (fun v q h=>h.keep fun c xs e=>s8 _ _ e),sq,lb6.but nk nl pt8 b8⟩
  clear lb6
  clear H6
  rintro _ H6 ⟨fe,fv,qs,rfl,nfe,hfe6,pf6,sq,lb6⟩
  have fl:=Paired.length pf6
  have ql:=sq.length_le
  refine au (fun σ' H'=>∃ (na:Addr) (r:Int),σ'=[some (.ref a),some (.int (0 + (i:Int))),some (.ref p),some (.int u),some (.ref t),some (.int W),some (.int h1),some (.ref be),some (.ref l),some (.str z),some (.ref fe),some (.ref na),v12]∧0≤r∧r≤b∧ShopAt C H' na r ks∧H' fe=some (.lst fv)∧Paired (PqU H') fv qs∧LB p t kl l b ks ys ps Hx H') (fun R hR=>?_) ?_
  ·obtain ⟨rs0,q10,_⟩:=id lb6.ls
   refine ⟨_,rfl,_,rfl,t,_,0,_,rfl,rfl,SqT.of q10,rfl,_,_,rfl,rfl,p,_,rfl,lb6.po,by omega,by omega,fun r H7 r0 r1 pt7 b7=>?_⟩
   have lb7:=lb6.but nk nl pt7 b7
   obtain ⟨rs,q1,q2,q3⟩:=id (lb7.ls)
   have rl:=Paired.length q3
   refine ⟨_,rfl,t,_,1,_,rfl,rfl,SqT.of q1,rfl,fun x dx hx hdx ne0=>?_⟩
   have sm:Same H7 (upd (upd H7 dx (.own x)) x (.ins C dx [])):=bY hx hdx
   refine ⟨x,dx,kl,r,rs,ks,rfl,ah,r0,.inl (sm _ _ q2),Paired.mapP (Tups.keep (fun c xs e=>sm _ _ e) q3) (fun v k h=>.inl h),gk,by omega,by omega,fun Hb Sb kb=>⟨rfl,?_⟩⟩
   have sb:Same H7 Hb:=fun c o e=>kb c o (aj e hx) (sm _ _ e)
   exact hR _ _ ⟨x,r,rfl,r0,by omega,Sb,sb _ _ (b7 _ _ nfe hfe6),Paired.mapP pf6 (fun v q h=>h.keep fun c xs e=>sb _ _ (bQ b7 lb6.po e)),lb7.same sb⟩
  clear lb6 hfe6 pf6
  clear H6
  rintro _ H6 ⟨na,r,rfl,r0,rb,sn6,hfe6,pf6,lb6⟩
  refine au (fun σ' H'=>∃ (le:Addr) (z2:Str) (u2:V), σ'=[some (.ref a), some (.int (0 + (i:Int))), some (.ref p), some (.int u), some (.ref t), some (.int W), some (.int h1), some (.ref be), some (.ref l), some (.str z), some (.ref fe), some (.ref na), some (.ref le)]∧H' le=some (.tup [.str z2, u2])∧(z = "tree" → z2 = "tree")∧ShopAt C H' na r ks∧LB p t kl l b ks ys ps Hx H') (fun R hR=>?_) ?_
  ·skip
   obtain ⟨rs,q1,q2,q3⟩:=id (lb6.ls)
   have rl:=Paired.length q3
   refine ⟨_,rfl,t,_,0,_,rfl,rfl,SqT.of q1,rfl,_,rfl,t,_,1,_,rfl,rfl,SqT.of q1,rfl,fun x dx hx hdx ne0=>?_⟩
   have sm:Same H6 (upd (upd H6 dx (.own x)) x (.ins C dx [])):=bY hx hdx
   refine ⟨x,dx,kl,b,rs,ks,rfl,ah,b0,.inl (sm _ _ q2),Paired.mapP (Tups.keep (fun c xs e=>sm _ _ e) q3) (fun v k h=>.inl h),gk,by omega,by omega,fun Hb Sb kb=>⟨rfl,?_⟩⟩
   have sb:Same H6 Hb:=fun c o e=>kb c o (aj e hx) (sm _ _ e)
   have lbb:=lb6.same sb
   refine ⟨_,rfl,_,rfl,_,rfl,p,x,fe,b,W,h1,ks,fv,qs,rfl,Sb,b0,gk,w0,h0,nfe,.inl (sb _ _ hfe6),Paired.impS (fun v q h=>PqU.i lbb.po (h.keep fun c xs e=>sb _ _ e)) pf6,by omega,la.sub sq,fun t1 z2 u H8 ht1 kt2 s8=>hR _ _ ⟨t1,z2,u,rfl,ht1,fun e=>kt.tree kt2 e (fun h=>h.sub (sq.map _)),cN (sb.trans s8) sn6,lbb.same s8⟩⟩
  clear lb6 hfe6 pf6 sn6
  clear H6
  rintro _ H6 ⟨le,z2,u2,rfl,hle,hz2,sn6,lb6⟩
  refine au (fun σ' H'=>σ'=[some (.ref a),some (.int (0 + (i:Int))),some (.ref p),some (.int u),some (.ref t),some (.int W),some (.int h1),some (.ref be),some (.ref l),some (.str z),some (.ref fe),some (.ref na),some (.ref le)]∧H6=H') (fun R hR=>?_) ?_
  ·refine ⟨_,rfl,rfl,_,rfl,?_⟩
   refine bE (fun cc=>?_) (fun cc=>hR _ _ ⟨rfl,rfl⟩)
   have ez:=hz2 (V.str.inj (of_decide_eq_true cc))
   subst ez
   refine ⟨_,rfl,le,_,0,_,rfl,rfl,SqT.of hle,rfl,rfl,_,rfl,?_⟩
   rw [show (!decide (V.str "tree" = V.str "tree"))=false by rw [decide_eq_true rfl]; rfl]
   exact bh (hR _ _ ⟨rfl,rfl⟩)
  rintro _ _ ⟨rfl,rfl⟩
  have fin:∀ {H':Hp},LB p t kl l b ks ys ps Hx H'→Same H H':=fun lb c o e=>lb.bt _ _ (aj (sx _ _ e) hp) (sx _ _ e)
  refine ⟨_,rfl,rfl,_,rfl,?_⟩
  refine bE (fun cc=>?_) (fun cc=>⟨_,_,_,_,_,_,_,_,_,_,_,_,rfl,fin lb6⟩)
  have ez:z = "tree" := V.str.inj (of_decide_eq_true cc)
  refine ⟨_,rfl,_,rfl,_,rfl,_,rfl,p,na,l,r,W,h1,ks,ys,ps,rfl,sn6,r0,gk,w0,h0,nl,.inl lb6.hl,tkp lb6,y32,la,fun t1 z3 u H8 ht1 kt3 s8=>⟨t1,_,0,_,rfl,rfl,SqT.of ht1,rfl,rfl,_,rfl,?_⟩⟩
  have ez3:=kt.tree kt3 ez (fun h=>h.blade rb)
  subst ez3
  rw [show (!decide (V.str "tree" = V.str "tree"))=false by rw [decide_eq_true rfl]; rfl]
  exact bh ⟨_,_,_,_,_,_,_,_,_,_,_,_,rfl,fin (lb6.same s8)⟩
 rintro _ H1 _
 exact q H1
end
theorem fU {α:Type} {us:List α} (h:us.length=1):∃a,us=[a]:=by
 match us,h with
 | [a],_=>exact ⟨a,rfl⟩
theorem dj {α:Type} {us:List α} (h:us.length=2):∃a b,us=[a,b]:=by
 match us,h with
 | [a,b],_=>exact ⟨a,b,rfl⟩
theorem ie {α:Type} {us:List α} (h:us.length=3):∃a b c,us=[a,b,c]:=by
 match us,h with
 | [a,b,c],_=>exact ⟨a,b,c,rfl⟩
theorem nN {α:Type} {us:List α} (h:us.length=4):∃a b c d,us=[a,b,c,d]:=by
 match us,h with
 | [a,b,c,d],_=>exact ⟨a,b,c,d,rfl⟩
theorem Ah {α:Type} {us:List α} (h:us.length=5):∃a b c d e,us=[a,b,c,d,e]:=by
 match us,h with
 | [a,b,c,d,e],_=>exact ⟨a,b,c,d,e,rfl⟩
abbrev DI (K:PySem.W.Frag) (n:Str) (st:Stmt) (f:Addr):Prop:=∃ (od an:Option Addr) (sl:Array (Option Value)) (oc kV dc pm cd ct:Value),PySem.W.nsIn K mainGlobals n=some (some (.ref f))∧K.lookup f=some ⟨oc,od,.func (PySem.W.fnOf n n (defArgs st) (defBody st) (defScope st) .none kV dc pm an cd ct),sl⟩∧PySem.W.codeIn K cd n=true∧PySem.W.keepIn K (.ref f)=true
abbrev MI (K:PySem.W.Frag) (C:Addr) (n q:Str) (st:Stmt) (f:Addr):Prop:=∃ (od an:Option Addr) (sl:Array (Option Value)) (oc kV dc pm cd ct:Value),PySem.W.findIn K (.ref C) n=some (some (.ref f))∧PySem.W.isFn K (.ref f)=true∧K.lookup f=some ⟨oc,od,.func (PySem.W.fnOf n q (defArgs st) (defBody st) (defScope st) .none kV dc pm an cd ct),sl⟩∧PySem.W.codeIn K cd q=true∧PySem.W.keepIn K (.ref f)=true
theorem diM {K:PySem.W.Frag} {n:Str} {st:Stmt} {f:Addr} {od an:Option Addr} {sl:Array (Option Value)} {oc kV dc pm cd ct:Value} (a:PySem.W.nsIn K mainGlobals n=some (some (.ref f))) (l:K.lookup f=some ⟨oc,od,.func (PySem.W.fnOf n n (defArgs st) (defBody st) (defScope st) .none kV dc pm an cd ct),sl⟩) (c:PySem.W.codeIn K cd n=true) (k:PySem.W.keepIn K (.ref f)=true):DI K n st f:=⟨_,_,_,_,_,_,_,_,_,a,l,c,k⟩
theorem miM {K:PySem.W.Frag} {C:Addr} {n q:Str} {st:Stmt} {f:Addr} {od an:Option Addr} {sl:Array (Option Value)} {oc kV dc pm cd ct:Value} (a:PySem.W.findIn K (.ref C) n=some (some (.ref f))) (i:PySem.W.isFn K (.ref f)=true) (l:K.lookup f=some ⟨oc,od,.func (PySem.W.fnOf n q (defArgs st) (defBody st) (defScope st) .none kV dc pm an cd ct),sl⟩) (c:PySem.W.codeIn K cd q=true) (k:PySem.W.keepIn K (.ref f)=true):MI K C n q st f:=⟨_,_,_,_,_,_,_,_,_,a,i,l,c,k⟩
theorem uw {α:Type} {us:List α} (h:us.length=6):∃a b c d e f,us=[a,b,c,d,e,f]:=by
 match us,h with
 | [a,b,c,d,e,f],_=>exact ⟨a,b,c,d,e,f,rfl⟩
theorem Ai {α:Type} {us:List α} (h:us.length=7):∃a b c d e f g,us=[a,b,c,d,e,f,g]:=by
 match us,h with
 | [a,b,c,d,e,f,g],_=>exact ⟨a,b,c,d,e,f,g,rfl⟩
open PySem.W in
theorem all_mk {l:OpenLaw} {w:World} {K:Frag} {h:Heap} {mg:Str→Option Value} {fa f0 f1 f2 f3 f4 f5 f6 f7 f8 f9 f10 f11 f12 f13 f14 f15 f16 f17 f18 f19 f20 f21 f22 f23 f24 f25 f26 f27 f28 f29 f30 f31 f32 f33 f34 f35 C fm0 fm1 fm2 fm3 xWAYS:Addr} (X:K.In h) (G:h.Ns mainGlobals mg) (hfa:mg "law" = some (.ref fa))
  {tc0:Tok} {tc1:Tok} {tc2:Tok} {tc3:Tok} {tc4:Tok} {tc5:Tok} {tc6:Tok} {tc7:Tok}
  (d0:DI K "is_whole" fG f0)
  (d1:DI K "is_truth" fH f1)
  (d2:DI K "is_row" mU f2)
  (d3:DI K "is_kind" dX f3)
  (d4:DI K "can_lie_turned" dY f4)
  (d5:DI K "check_plate" bU f5)
  (d6:DI K "lies_in" dU f6)
  (d7:DI K "meet" iH f7)
  (d8:DI K "spans_of" cV f8)
  (d9:DI K "is_placed" cH f9)
  (d10:DI K "is_laying" bO f10)
  (d11:DI K "parting_place" bp f11)
  (d12:DI K "leaf_of" dW f12)
  (d13:DI K "parting_cut" aY f13)
  (d14:DI K "part_pieces" bj f14)
  (d15:DI K "tree_or_knot" bC f15)
  (d16:DI K "_law_cell" iK f16)
  (d17:DI K "_law_pot" mV f17)
  (d18:DI K "_law_take" iL f18)
  (d19:DI K "_law_unit" iM f19)
  (d20:DI K "_law_side" iN f20)
  (d21:DI K "_law_worth" fI f21)
  (d22:DI K "_law_shop" iO f22)
  (d23:DI K "_law_sides" fJ f23)
  (d24:DI K "_law_lyings" dZ f24)
  (d25:DI K "_law_box" mW f25)
  (d26:DI K "_law_apart" fK f26)
  (d27:DI K "_law_fits" gy f27)
  (d28:DI K "_law_scattered" cq f28)
  (d29:DI K "_law_wheel" dC f29)
  (d30:DI K "_law_handed" ee f30)
  (d31:DI K "_law_turned_shop" bD f31)
  (d32:DI K "_law_times_shop" bP f32)
  (d33:DI K "_law_moved" eK f33)
  (d34:DI K "_law_alike" cW f34)
  (d35:DI K "law" gO f35)
  (aC:nsIn K mainGlobals "Shop" = some (some (.ref C)))
  (dm0:MI K C "__init__" "Shop.__init__" bX fm0)
  (dm1:MI K C "blade" "Shop.blade" cm fm1)
  (dm2:MI K C "is_lying" "Shop.is_lying" bI fm2)
  (dm3:MI K C "sides" "Shop.sides" cn fm3)
  (pg:plainGet K C Str.empty=true)
  (hd:hasDictIn K C=true)
  (po:plainOver K C=true)
  (sa:findIn K (.ref C) "__setattr__" = some (some (.builtin "object.__setattr__")))
  (mk:makesIn K C=true)
  (kc:keepIn K (.ref C)=true)
  (n0:findIn K (.ref C) "blade_width" = some none)
  (n1:findIn K (.ref C) "kind_rows" = some none)
  (eWAYS:nsIn K mainGlobals "WAYS" = some (some (.ref xWAYS)))
  (lWAYS:∃ (o:Obj) (its:Array Value) (n:Nat),K.lookup xWAYS=some o∧o.cls=.type "tuple" ∧ o.data=.seq its n∧its.size≤sizeLine∧Vals [.str "down",.str "across"] its.toList)
  (z0:nsIn K mainGlobals "isinstance" = some none)
  (z1:nsIn K mainGlobals "int" = some none)
  (z2:nsIn K mainGlobals "bool" = some none)
  (z3:nsIn K mainGlobals "list" = some none)
  (z4:nsIn K mainGlobals "tuple" = some none)
  (z5:nsIn K mainGlobals "len" = some none)
  (z6:nsIn K mainGlobals "range" = some none)
  (z7:nsIn K mainGlobals "max" = some none)
  (z8:nsIn K mainGlobals "min" = some none)
  (z9:nsIn K mainGlobals "abs" = some none)
  (z10:nsIn K mainGlobals "divmod" = some none)
  (z11:nsIn K mainGlobals "sum" = some none)
  (z12:nsIn K mainGlobals "sorted" = some none)
  (z13:nsIn K mainGlobals "all" = some none)
  (z14:nsIn K mainGlobals "repr" = some none)
  (z15:nsIn K mainGlobals "zip" = some none)
  (z16:nsIn K mainGlobals "enumerate" = some none)
  (z17:nsIn K mainGlobals "str" = some none)
  (uc0:nsIn K mainGlobals "MOST_KINDS" = some (some (.int 8 tc0)))
  (uc1:nsIn K mainGlobals "THINGS_OF_A_KIND" = some (some (.int 5 tc1)))
  (uc2:nsIn K mainGlobals "DOWN" = some (some (.str "down" tc2)))
  (uc3:nsIn K mainGlobals "REST" = some (some (.str "rest" tc3)))
  (uc4:nsIn K mainGlobals "PIECE" = some (some (.str "piece" tc4)))
  (uc5:nsIn K mainGlobals "THINGS_OF_A_PIECE" = some (some (.int 4 tc5)))
  (uc6:nsIn K mainGlobals "TREE" = some (some (.str "tree" tc6)))
  (uc7:nsIn K mainGlobals "KNOT" = some (some (.str "knot" tc7))) :
  ∃fd:FuncData,(∀ (s:Shared) (v:Value),BindsTo s fd ⟨[v],[]⟩ [("_law_script",v)])∧∀base:Heap,K.In base→base.Ns mainGlobals mg→FnOk l.prog w K mg base CX0 40 fa fd ["_law_script"] (kA K):=by
 obtain ⟨_,_,_,_,_,_,_,_,_,a0,l0,c0,k0⟩:=d0
 obtain ⟨_,_,_,_,_,_,_,_,_,a1,l1,c1,k1⟩:=d1
 obtain ⟨_,_,_,_,_,_,_,_,_,a2,l2,c2,k2⟩:=d2
 obtain ⟨_,_,_,_,_,_,_,_,_,a3,l3,c3,k3⟩:=d3
 obtain ⟨_,_,_,_,_,_,_,_,_,a4,l4,c4,k4⟩:=d4
 obtain ⟨_,_,_,_,_,_,_,_,_,a5,l5,c5,k5⟩:=d5
 obtain ⟨_,_,_,_,_,_,_,_,_,a6,l6,c6,k6⟩:=d6
 obtain ⟨_,_,_,_,_,_,_,_,_,a7,l7,c7,k7⟩:=d7
 obtain ⟨_,_,_,_,_,_,_,_,_,a8,l8,c8,k8⟩:=d8
 obtain ⟨_,_,_,_,_,_,_,_,_,a9,l9,c9,k9⟩:=d9
 obtain ⟨_,_,_,_,_,_,_,_,_,a10,l10,c10,k10⟩:=d10
 obtain ⟨_,_,_,_,_,_,_,_,_,a11,l11,c11,k11⟩:=d11
 obtain ⟨_,_,_,_,_,_,_,_,_,a12,l12,c12,k12⟩:=d12
 obtain ⟨_,_,_,_,_,_,_,_,_,a13,l13,c13,k13⟩:=d13
 obtain ⟨_,_,_,_,_,_,_,_,_,a14,l14,c14,k14⟩:=d14
 obtain ⟨_,_,_,_,_,_,_,_,_,a15,l15,c15,k15⟩:=d15
 obtain ⟨_,_,_,_,_,_,_,_,_,a16,l16,c16,k16⟩:=d16
 obtain ⟨_,_,_,_,_,_,_,_,_,a17,l17,c17,k17⟩:=d17
 obtain ⟨_,_,_,_,_,_,_,_,_,a18,l18,c18,k18⟩:=d18
 obtain ⟨_,_,_,_,_,_,_,_,_,a19,l19,c19,k19⟩:=d19
 obtain ⟨_,_,_,_,_,_,_,_,_,a20,l20,c20,k20⟩:=d20
 obtain ⟨_,_,_,_,_,_,_,_,_,a21,l21,c21,k21⟩:=d21
 obtain ⟨_,_,_,_,_,_,_,_,_,a22,l22,c22,k22⟩:=d22
 obtain ⟨_,_,_,_,_,_,_,_,_,a23,l23,c23,k23⟩:=d23
 obtain ⟨_,_,_,_,_,_,_,_,_,a24,l24,c24,k24⟩:=d24
 obtain ⟨_,_,_,_,_,_,_,_,_,a25,l25,c25,k25⟩:=d25
 obtain ⟨_,_,_,_,_,_,_,_,_,a26,l26,c26,k26⟩:=d26
 obtain ⟨_,_,_,_,_,_,_,_,_,a27,l27,c27,k27⟩:=d27
 obtain ⟨_,_,_,_,_,_,_,_,_,a28,l28,c28,k28⟩:=d28
 obtain ⟨_,_,_,_,_,_,_,_,_,a29,l29,c29,k29⟩:=d29
 obtain ⟨_,_,_,_,_,_,_,_,_,a30,l30,c30,k30⟩:=d30
 obtain ⟨_,_,_,_,_,_,_,_,_,a31,l31,c31,k31⟩:=d31
 obtain ⟨_,_,_,_,_,_,_,_,_,a32,l32,c32,k32⟩:=d32
 obtain ⟨_,_,_,_,_,_,_,_,_,a33,l33,c33,k33⟩:=d33
 obtain ⟨_,_,_,_,_,_,_,_,_,a34,l34,c34,k34⟩:=d34
 obtain ⟨_,an,_,_,kV,dc,pm,cd,ct,a35,l35,c35,k35⟩:=d35
 obtain ⟨_,_,_,_,_,_,_,_,_,am0,im0,lm0,cm0,km0⟩:=dm0
 obtain ⟨_,_,_,_,_,_,_,_,_,am1,im1,lm1,cm1,km1⟩:=dm1
 obtain ⟨_,_,_,_,_,_,_,_,_,am2,im2,lm2,cm2,km2⟩:=dm2
 obtain ⟨_,_,_,_,_,_,_,_,_,am3,im3,lm3,cm3,km3⟩:=dm3
 have e:=hfa.symm.trans (mg_of X G a35)
 cases e
 have F0:=aH (st:=fG) l0 c0 k0
 have b0:=F0.binds (ps:=["thing","least"]) fun _ _ _ _ _ _ us hl=>by obtain ⟨_,_,rfl⟩:=dj hl; rfl
 have F1:=aH (st:=fH) l1 c1 k1
 have b1:=F1.binds (ps:=["thing"]) fun _ _ _ _ _ _ us hl=>by obtain ⟨_,rfl⟩:=fU hl; rfl
 have F2:=aH (st:=mU) l2 c2 k2
 have b2:=F2.binds (ps:=["thing"]) fun _ _ _ _ _ _ us hl=>by obtain ⟨_,rfl⟩:=fU hl; rfl
 have F3:=aH (st:=dX) l3 c3 k3
 have b3:=F3.binds (ps:=["thing"]) fun _ _ _ _ _ _ us hl=>by obtain ⟨_,rfl⟩:=fU hl; rfl
 have F4:=aH (st:=dY) l4 c4 k4
 have b4:=F4.binds (ps:=["kind"]) fun _ _ _ _ _ _ us hl=>by obtain ⟨_,rfl⟩:=fU hl; rfl
 have F5:=aH (st:=bU) l5 c5 k5
 have b5:=F5.binds (ps:=["wide","high"]) fun _ _ _ _ _ _ us hl=>by obtain ⟨_,_,rfl⟩:=dj hl; rfl
 have F6:=aH (st:=dU) l6 c6 k6
 have b6:=F6.binds (ps:=["shop","wide","high","kind","turned","x","y"]) fun _ _ _ _ _ _ us hl=>by obtain ⟨_,_,_,_,_,_,_,rfl⟩:=Ai hl; rfl
 have F7:=aH (st:=iH) l7 c7 k7
 have b7:=F7.binds (ps:=["one","other"]) fun _ _ _ _ _ _ us hl=>by obtain ⟨_,_,rfl⟩:=dj hl; rfl
 have F8:=aH (st:=cV) l8 c8 k8
 have b8:=F8.binds (ps:=["shop","piece"]) fun _ _ _ _ _ _ us hl=>by obtain ⟨_,_,rfl⟩:=dj hl; rfl
 have F9:=aH (st:=cH) l9 c9 k9
 have b9:=F9.binds (ps:=["shop","wide","high","thing"]) fun _ _ _ _ _ _ us hl=>by obtain ⟨_,_,_,_,rfl⟩:=nN hl; rfl
 have F10:=aH (st:=bO) l10 c10 k10
 have b10:=F10.binds (ps:=["shop","wide","high","thing"]) fun _ _ _ _ _ _ us hl=>by obtain ⟨_,_,_,_,rfl⟩:=nN hl; rfl
 have F11:=aH (st:=bp) l11 c11 k11
 have b11:=F11.binds (ps:=["blade","spans"]) fun _ _ _ _ _ _ us hl=>by obtain ⟨_,_,rfl⟩:=dj hl; rfl
 have F12:=aH (st:=dW) l12 c12 k12
 have b12:=F12.binds (ps:=["x","y","pieces"]) fun _ _ _ _ _ _ us hl=>by obtain ⟨_,_,_,rfl⟩:=ie hl; rfl
 have F13:=aH (st:=aY) l13 c13 k13
 have b13:=F13.binds (ps:=["shop","pieces"]) fun _ _ _ _ _ _ us hl=>by obtain ⟨_,_,rfl⟩:=dj hl; rfl
 have F14:=aH (st:=bj) l14 c14 k14
 have b14:=F14.binds (ps:=["shop","x","y","pieces"]) fun _ _ _ _ _ _ us hl=>by obtain ⟨_,_,_,_,rfl⟩:=nN hl; rfl
 have F15:=aH (st:=bC) l15 c15 k15
 have b15:=F15.binds (ps:=["shop","wide","high","laying"]) fun _ _ _ _ _ _ us hl=>by obtain ⟨_,_,_,_,rfl⟩:=nN hl; rfl
 have F16:=aH (st:=iK) l16 c16 k16
 have b16:=F16.binds (ps:=["_law_script","_law_k"]) fun _ _ _ _ _ _ us hl=>by obtain ⟨_,_,rfl⟩:=dj hl; rfl
 have F17:=aH (st:=mV) l17 c17 k17
 have b17:=F17.binds (ps:=["_law_cell_here","_law_k"]) fun _ _ _ _ _ _ us hl=>by obtain ⟨_,_,rfl⟩:=dj hl; rfl
 have F18:=aH (st:=iL) l18 c18 k18
 have b18:=F18.binds (ps:=["_law_pot_here","_law_many"]) fun _ _ _ _ _ _ us hl=>by obtain ⟨_,_,rfl⟩:=dj hl; rfl
 have F19:=aH (st:=iM) l19 c19 k19
 have b19:=F19.binds (ps:=["_law_pot_here"]) fun _ _ _ _ _ _ us hl=>by obtain ⟨_,rfl⟩:=fU hl; rfl
 have F20:=aH (st:=iN) l20 c20 k20
 have b20:=F20.binds (ps:=["_law_pot_here","_law_unit_here","_law_most"]) fun _ _ _ _ _ _ us hl=>by obtain ⟨_,_,_,rfl⟩:=ie hl; rfl
 have F21:=aH (st:=fI) l21 c21 k21
 have b21:=F21.binds (ps:=["_law_pot_here"]) fun _ _ _ _ _ _ us hl=>by obtain ⟨_,rfl⟩:=fU hl; rfl
 have F22:=aH (st:=iO) l22 c22 k22
 have b22:=F22.binds (ps:=["_law_pot_here","_law_unit_here"]) fun _ _ _ _ _ _ us hl=>by obtain ⟨_,_,rfl⟩:=dj hl; rfl
 have F23:=aH (st:=fJ) l23 c23 k23
 have b23:=F23.binds (ps:=["_law_shop_here","_law_kind","_law_turned"]) fun _ _ _ _ _ _ us hl=>by obtain ⟨_,_,_,rfl⟩:=ie hl; rfl
 have F24:=aH (st:=dZ) l24 c24 k24
 have b24:=F24.binds (ps:=["_law_shop_here"]) fun _ _ _ _ _ _ us hl=>by obtain ⟨_,rfl⟩:=fU hl; rfl
 have F25:=aH (st:=mW) l25 c25 k25
 have b25:=F25.binds (ps:=["_law_shop_here","_law_piece"]) fun _ _ _ _ _ _ us hl=>by obtain ⟨_,_,rfl⟩:=dj hl; rfl
 have F26:=aH (st:=fK) l26 c26 k26
 have b26:=F26.binds (ps:=["_law_one","_law_other"]) fun _ _ _ _ _ _ us hl=>by obtain ⟨_,_,rfl⟩:=dj hl; rfl
 have F27:=aH (st:=gy) l27 c27 k27
 have b27:=F27.binds (ps:=["_law_shop_here","_law_wide","_law_high","_law_pieces","_law_piece"]) fun _ _ _ _ _ _ us hl=>by obtain ⟨_,_,_,_,_,rfl⟩:=Ah hl; rfl
 have F28:=aH (st:=cq) l28 c28 k28
 have b28:=F28.binds (ps:=["_law_pot_here","_law_shop_here","_law_wide","_law_high","_law_pieces","_law_many"]) fun _ _ _ _ _ _ us hl=>by obtain ⟨_,_,_,_,_,_,rfl⟩:=uw hl; rfl
 have F29:=aH (st:=dC) l29 c29 k29
 have b29:=F29.binds (ps:=["_law_pot_here","_law_shop_here","_law_wide","_law_high"]) fun _ _ _ _ _ _ us hl=>by obtain ⟨_,_,_,_,rfl⟩:=nN hl; rfl
 have F30:=aH (st:=ee) l30 c30 k30
 have b30:=F30.binds (ps:=["_law_pot_here","_law_pieces"]) fun _ _ _ _ _ _ us hl=>by obtain ⟨_,_,rfl⟩:=dj hl; rfl
 have F31:=aH (st:=bD) l31 c31 k31
 have b31:=F31.binds (ps:=["_law_shop_here"]) fun _ _ _ _ _ _ us hl=>by obtain ⟨_,rfl⟩:=fU hl; rfl
 have F32:=aH (st:=bP) l32 c32 k32
 have b32:=F32.binds (ps:=["_law_shop_here","_law_many"]) fun _ _ _ _ _ _ us hl=>by obtain ⟨_,_,rfl⟩:=dj hl; rfl
 have F33:=aH (st:=eK) l33 c33 k33
 have b33:=F33.binds (ps:=["_law_pieces","_law_x","_law_y"]) fun _ _ _ _ _ _ us hl=>by obtain ⟨_,_,_,rfl⟩:=ie hl; rfl
 have F34:=aH (st:=cW) l34 c34 k34
 have b34:=F34.binds (ps:=["_law_pot_here","_law_shop_here","_law_wide","_law_high","_law_pieces","_law_word"]) fun _ _ _ _ _ _ us hl=>by obtain ⟨_,_,_,_,_,_,rfl⟩:=uw hl; rfl
 have F35:=aH (st:=gO) l35 c35 k35
 have b35:=F35.binds (ps:=["_law_script"]) fun _ _ _ _ _ _ us hl=>by obtain ⟨_,rfl⟩:=fU hl; rfl
 have Fm0:=aH (st:=bX) lm0 cm0 km0
 have bm0:=Fm0.binds (ps:=["self","blade","kinds"]) fun _ _ _ _ _ _ us hl=>by obtain ⟨_,_,_,rfl⟩:=ie hl; rfl
 have Fm1:=aH (st:=cm) lm1 cm1 km1
 have bm1:=Fm1.binds (ps:=["self"]) fun _ _ _ _ _ _ us hl=>by obtain ⟨_,rfl⟩:=fU hl; rfl
 have Fm2:=aH (st:=bI) lm2 cm2 km2
 have bm2:=Fm2.binds (ps:=["self","kind","turned"]) fun _ _ _ _ _ _ us hl=>by obtain ⟨_,_,_,rfl⟩:=ie hl; rfl
 have Fm3:=aH (st:=cn) lm3 cm3 km3
 have bm3:=Fm3.binds (ps:=["self","kind","turned"]) fun _ _ _ _ _ _ us hl=>by obtain ⟨_,_,_,rfl⟩:=ie hl; rfl
 have y0:=mg_none_of X G z0
 have y1:=mg_none_of X G z1
 have y2:=mg_none_of X G z2
 have y3:=mg_none_of X G z3
 have y4:=mg_none_of X G z4
 have y5:=mg_none_of X G z5
 have y6:=mg_none_of X G z6
 have y7:=mg_none_of X G z7
 have y8:=mg_none_of X G z8
 have y9:=mg_none_of X G z9
 have y10:=mg_none_of X G z10
 have y11:=mg_none_of X G z11
 have y12:=mg_none_of X G z12
 have y13:=mg_none_of X G z13
 have y14:=mg_none_of X G z14
 have y15:=mg_none_of X G z15
 have y16:=mg_none_of X G z16
 have y17:=mg_none_of X G z17
 have gWAYS:=mg_of X G eWAYS
 have u0:=mg_of X G uc0
 have u1:=mg_of X G uc1
 have u2:=mg_of X G uc2
 have u3:=mg_of X G uc3
 have u4:=mg_of X G uc4
 have u5:=mg_of X G uc5
 have u6:=mg_of X G uc6
 have u7:=mg_of X G uc7
 have q0:=mg_of X G a0
 have q1:=mg_of X G a1
 have q2:=mg_of X G a2
 have q3:=mg_of X G a3
 have q4:=mg_of X G a4
 have q5:=mg_of X G a5
 have q6:=mg_of X G a6
 have q7:=mg_of X G a7
 have q8:=mg_of X G a8
 have q9:=mg_of X G a9
 have q10:=mg_of X G a10
 have q11:=mg_of X G a11
 have q12:=mg_of X G a12
 have q13:=mg_of X G a13
 have q14:=mg_of X G a14
 have q15:=mg_of X G a15
 have q16:=mg_of X G a16
 have q17:=mg_of X G a17
 have q18:=mg_of X G a18
 have q19:=mg_of X G a19
 have q20:=mg_of X G a20
 have q21:=mg_of X G a21
 have q22:=mg_of X G a22
 have q23:=mg_of X G a23
 have q24:=mg_of X G a24
 have q25:=mg_of X G a25
 have q26:=mg_of X G a26
 have q27:=mg_of X G a27
 have q28:=mg_of X G a28
 have q29:=mg_of X G a29
 have q30:=mg_of X G a30
 have q31:=mg_of X G a31
 have q32:=mg_of X G a32
 have q33:=mg_of X G a33
 have q34:=mg_of X G a34
 have q35:=mg_of X G a35
 have qC:=mg_of X G aC
 refine ⟨fnOf "law" "law" (defArgs gO) (defBody gO) (defScope gO) .none kV dc pm an cd ct,fun s v=>.of_eq rfl,fun base _ _=>?_⟩
 have B:Blt mg:=⟨y0,y1,y2,y3,y4,y5,y6,y7,y8,y9,y10,y11,y12,y13,y14,y15,y16,⟨_,u0⟩,⟨_,u1⟩⟩
 have T:ShopTxt K C:=⟨⟨pg,hd,po,sa⟩,n0,n1⟩
 have D0:Dn l.prog w K mg base "is_whole" ["thing","least"] 1 (cJ K):=⟨_,_,mX F0 B,b0,k0,q0⟩
 have D1:Dn l.prog w K mg base "is_truth" ["thing"] 1 (eV K):=⟨_,_,mY F1 B,b1,k1,q1⟩
 have D2:Dn l.prog w K mg base "is_row" ["thing"] 1 (gm K):=⟨_,_,qL F2 B,b2,k2,q2⟩
 have D3:Dn l.prog w K mg base "is_kind" ["thing"] 2 (dP K):=⟨_,_,lh F3 B D0 D1 D2,b3,k3,q3⟩
 have D4:Dn l.prog w K mg base "can_lie_turned" ["kind"] 1 (fB K):=⟨_,_,li F4,b4,k4,q4⟩
 have MB:Mn l.prog w K mg base C "blade" ["self"] 1 (dQ C):=⟨_,_,mZ Fm1 T,bm1,⟨am1,im1,km1⟩⟩
 have MI:Mn l.prog w K mg base C "is_lying" ["self","kind","turned"] 2 (dg K C):=⟨_,_,ju Fm2 B T D0 D1 D4,bm2,⟨am2,im2,km2⟩⟩
 have MS:Mn l.prog w K mg base C "sides" ["self","kind","turned"] 3 (eX K C):=⟨_,_,nh Fm3 T MI,bm3,⟨am3,im3,km3⟩⟩
 have DS:Kn l.prog w K mg base "Shop" C ["self","blade","kinds"] 3 (eH C):=⟨_,_,⟨mk,am0,im0,kc⟩,oR Fm0 B T D0 D2 D3,bm0,qC⟩
 have D5:Dn l.prog w K mg base "check_plate" ["wide","high"] 2 (qR):=⟨_,_,lu F5 D0,b5,k5,q5⟩
 have D6:Dn l.prog w K mg base "lies_in" ["shop","wide","high","kind","turned","x","y"] 4 (gQ K C):=⟨_,_,nj F6 T D0 MI MS,b6,k6,q6⟩
 have D7:Dn l.prog w K mg base "meet" ["one","other"] 1 (jz):=⟨_,_,oX F7,b7,k7,q7⟩
 have D8:Dn l.prog w K mg base "spans_of" ["shop","piece"] 4 (fb C):=⟨_,_,nv F8 T MS,b8,k8,q8⟩
 have D9:Dn l.prog w K mg base "is_placed" ["shop","wide","high","thing"] 5 (fM C):=⟨_,_,lr F9 B u5 D2 D6,b9,k9,q9⟩
 have D10:Dn l.prog w K mg base "is_laying" ["shop","wide","high","thing"] 6 (gU C):=⟨_,_,nz F10 B D5 D2 D9 D8 D7,b10,k10,q10⟩
 have D11:Dn l.prog w K mg base "parting_place" ["blade","spans"] 1 (gW):=⟨_,_,nA F11 B,b11,k11,q11⟩
 have D12:Dn l.prog w K mg base "leaf_of" ["x","y","pieces"] 1 (eh):=⟨_,_,lw F12 u3 u4,b12,k12,q12⟩
 have D13:Dn l.prog w K mg base "parting_cut" ["shop","pieces"] 5 (gY C):=⟨_,_,pf F13 B T gWAYS (fun H=>.inr lWAYS) MB D8 D11,b13,k13,q13⟩
 have D14:Dn l.prog w K mg base "part_pieces" ["shop","x","y","pieces"] 37 (cY C 32):=⟨_,_,iS F14 B T u6 u7 u2 MB D12 D13 (fun n h=>⟨_,_,h,b14,k14,q14⟩) 32,b14,k14,q14⟩
 have D15:Dn l.prog w K mg base "tree_or_knot" ["shop","wide","high","laying"] 38 (ky C):=⟨_,_,qV F15 B D10 D14,b15,k15,q15⟩
 have D16:Dn l.prog w K mg base "_law_cell" ["_law_script","_law_k"] 1 (jn K):=⟨_,_,oT F16 B,b16,k16,q16⟩
 have D17:Dn l.prog w K mg base "_law_pot" ["_law_cell_here","_law_k"] 1 (jv):=⟨_,_,oU F17 B,b17,k17,q17⟩
 have D18:Dn l.prog w K mg base "_law_take" ["_law_pot_here","_law_many"] 1 (cu):=⟨_,_,oV F18 B,b18,k18,q18⟩
 have D19:Dn l.prog w K mg base "_law_unit" ["_law_pot_here"] 2 (jw):=⟨_,_,oW F19 B D18,b19,k19,q19⟩
 have D20:Dn l.prog w K mg base "_law_side" ["_law_pot_here","_law_unit_here","_law_most"] 2 (eY):=⟨_,_,ll F20 B D18,b20,k20,q20⟩
 have D21:Dn l.prog w K mg base "_law_worth" ["_law_pot_here"] 2 (fL):=⟨_,_,lm F21 B D18,b21,k21,q21⟩
 have D22:Dn l.prog w K mg base "_law_shop" ["_law_pot_here","_law_unit_here"] 3 (gR):=⟨_,_,nq F22 B D18 D20 D21,b22,k22,q22⟩
 have D23:Dn l.prog w K mg base "_law_sides" ["_law_shop_here","_law_kind","_law_turned"] 1 (eg):=⟨_,_,lq F23 B,b23,k23,q23⟩
 have D24:Dn l.prog w K mg base "_law_lyings" ["_law_shop_here"] 1 (dh):=⟨_,_,jx F24 B,b24,k24,q24⟩
 have D25:Dn l.prog w K mg base "_law_box" ["_law_shop_here","_law_piece"] 2 (kq):=⟨_,_,qN F25 B D23,b25,k25,q25⟩
 have D26:Dn l.prog w K mg base "_law_apart" ["_law_one","_law_other"] 1 (gS):=⟨_,_,nr F26,b26,k26,q26⟩
 have D27:Dn l.prog w K mg base "_law_fits" ["_law_shop_here","_law_wide","_law_high","_law_pieces","_law_piece"] 3 (eZ):=⟨_,_,nu F27 B D25 D26,b27,k27,q27⟩
 have D28:Dn l.prog w K mg base "_law_scattered" ["_law_pot_here","_law_shop_here","_law_wide","_law_high","_law_pieces","_law_many"] 4 (jA):=⟨_,_,oY F28 B D18 D24 D25 D27,b28,k28,q28⟩
 have D29:Dn l.prog w K mg base "_law_wheel" ["_law_pot_here","_law_shop_here","_law_wide","_law_high"] 4 (hX):=⟨_,_,nH F29 B D18 D24 D23 D27,b29,k29,q29⟩
 have D30:Dn l.prog w K mg base "_law_handed" ["_law_pot_here","_law_pieces"] 2 (jC):=⟨_,_,pI F30 B D18,b30,k30,q30⟩
 have D31:Dn l.prog w K mg base "_law_turned_shop" ["_law_shop_here"] 5 (hZ C):=⟨_,_,nI F31 B DS,b31,k31,q31⟩
 have D32:Dn l.prog w K mg base "_law_times_shop" ["_law_shop_here","_law_many"] 5 (ia C):=⟨_,_,nJ F32 B DS,b32,k32,q32⟩
 have D33:Dn l.prog w K mg base "_law_moved" ["_law_pieces","_law_x","_law_y"] 1 (ib):=⟨_,_,nL F33 B,b33,k33,q33⟩
 have D34:Dn l.prog w K mg base "_law_alike" ["_law_pot_here","_law_shop_here","_law_wide","_law_high","_law_pieces","_law_word"] 39 (ic C):=⟨_,_,nM F34 B D18 D30 D33 D31 D32 D15 DS,b34,k34,q34⟩
 exact qW F35 B D16 D17 D18 D19 D22 D20 D29 D28 D34 D15 DS
theorem walk {l:PySem.W.OpenLaw} {q:Program} {loose:List Str} {XP:(Str→Option Value)→Heap→Prop} {YP:World→Heap→Prop} {d:DefRec} {K:Params→PySem.W.Frag} (hn:l.most=some 63) (hdf:d.params.defaults=[])
  (hY:∀ (w:World) (h:Heap),YP w h→(K w.params).In h)
  (F:∀ (w:World) (mg:Str→Option Value) (fa:Addr) (h:Heap),(K w.params).In h→h.Ns mainGlobals mg→mg d.name=some (.ref fa) →
   ∃fd:FuncData,(∀ (s:Shared) (u:Value),BindsTo s fd ⟨[u],[]⟩ [("_law_script",u)])∧∀base:Heap,(K w.params).In base→base.Ns mainGlobals mg→FnOk l.prog w (K w.params) mg base CX0 40 fa fd ["_law_script"] (kA (K w.params))) :
  PySem.W.WalkO q loose XP YP l.row.toRowW d [] (fun f vs=>PySem.call f vs) :=
 L2.walk_of (n:=63) (k:=40) (x := "_law_script") (CX:=fun _=>CX0) (sp:=fun w=>kA (K w.params)) hn (by decide) hdf ⟨rfl,by decide,by decide,rfl⟩ hY F (fun _ _ a ns hl _ hS=>⟨a,ns,rfl,hS,hl,fun _=>rfl⟩) fun _ _ _ _ _ z=>z
end Pc
namespace Pc
open PySem L2
section
open PySem.W
noncomputable def kE (P:Params) (n:Str) (t:Nat) (v:Value):DictEntry:=⟨PyData.keyHash P n,.str n t,v⟩
noncomputable def kO3 (P:Params):Obj:=⟨(.type "dict"),none,(.dict #[kE P "__name__" 165 (.str "law_platecuts_k35_whole_layings_moved_about" 570),kE P "__doc__" 166 .none,kE P "__package__" 167 .none,kE P "__loader__" 168 (.builtin "__main__.__loader__#opaque"),kE P "__spec__" 169 .none,kE P "__annotations__" 170 (.ref 6),kE P "__builtins__" 171 (.ref 4),kE P "__file__" 173 (.str "/claim/cut.py" 172),kE P "__cached__" 174 .none,kE P "_wall" 193 (.ref 21),kE P "PlateError" 213 (.ref 31),kE P "NoBlade" 229 (.ref 44),kE P "NoKinds" 245 (.ref 56),kE P "NoKind" 261 (.ref 68),kE P "NoLying" 277 (.ref 80),kE P "NoPlate" 293 (.ref 92),kE P "NoLaying" 309 (.ref 104),kE P "is_whole" 319 (.ref 113),kE P "is_truth" 326 (.ref 120),kE P "is_row" 333 (.ref 127),kE P "check_plate" 341 (.ref 134),kE P "DOWN" 345 (.str "down" 344),kE P "ACROSS" 347 (.str "across" 346),kE P "WAYS" 348 (.ref 135),kE P "lies_in" 363 (.ref 142),kE P "THINGS_OF_A_PIECE" 367 (.int 4 366),kE P "is_placed" 377 (.ref 149),kE P "spans_of" 391 (.ref 156),kE P "meet" 399 (.ref 163),kE P "is_laying" 405 (.ref 168),kE P "REST" 407 (.str "rest" 406),kE P "PIECE" 409 (.str "piece" 408),kE P "TREE" 413 (.str "tree" 412),kE P "KNOT" 415 (.str "knot" 414),kE P "parting_place" 427 (.ref 175),kE P "parting_cut" 433 (.ref 180),kE P "leaf_of" 446 (.ref 187),kE P "part_pieces" 464 (.ref 194),kE P "tree_or_knot" 470 (.ref 199),kE P "MOST_KINDS" 474 (.int 8 473),kE P "THINGS_OF_A_KIND" 476 (.int 5 475),kE P "is_kind" 488 (.ref 206),kE P "can_lie_turned" 495 (.ref 213),kE P "Shop" 569 (.ref 268),kE P "_law_cell" 579 (.ref 279),kE P "_law_pot" 587 (.ref 286),kE P "_law_take" 596 (.ref 293),kE P "_law_unit" 604 (.ref 300),kE P "_law_side" 613 (.ref 307),kE P "_law_worth" 621 (.ref 314),kE P "_law_shop" 634 (.ref 321),kE P "_law_sides" 645 (.ref 328),kE P "_law_lyings" 655 (.ref 335),kE P "_law_box" 664 (.ref 342),kE P "_law_apart" 672 (.ref 349),kE P "_law_fits" 678 (.ref 354),kE P "_law_scattered" 698 (.ref 361),kE P "_law_wheel" 704 (.ref 366),kE P "_law_handed" 714 (.ref 373),kE P "_law_turned_shop" 720 (.ref 378),kE P "_law_times_shop" 726 (.ref 383),kE P "_law_moved" 732 (.ref 388),kE P "_law_alike" 738 (.ref 393),kE P "law" 744 (.ref 398)] 64),#[]⟩
noncomputable def gk0 (x0:Str)(x1:Nat)(x2:Str)(x3 x4 x5 x6 x7 x8 x9 x10 x11 x12 x13:Nat)(P:Params):Obj:=⟨(.type "code"),none,(.fields #[.str x0 x1,.str x2 x3,.str "/claim/cut.py" x4,.int x5 0,.int x6 0,.int 0 0,.int 0 0,.int 3 0,.ref x7,.bool true,.int 181 0,.ref x8,.none,.ref x9,.ref x10,.ref x11,.int x12 0,.int x5 0,.str "/claim/cut.py" x13]),#[]⟩
noncomputable def Aj:=gk0 "_wall" 187 "_wall" 188 189 1 1 15 16 17 18 19 191 192
noncomputable def gk1 (x0 x1:Str)(x2:Stmt)(x3:Str)(x4 x5:Nat)(P:Params):Obj:=⟨(.type "function"),none,(.func (fnOf x0 x1 (defArgs x2) (defBody x2) (defScope x2) .none .none .none (.str x3 x4) none (.ref x5) .none)),#[]⟩
noncomputable def Ak:=gk1 "_wall" "_wall" uk "__main__" 164 20
noncomputable def Al (P:Params):Obj:=⟨(.type "dict"),none,(.dict #[kE P "__module__" 203 (.str "platecuts.errors" 194),kE P "__firstlineno__" 207 (.int 5 206),kE P "__static_attributes__" 208 (.ref 29),kE P "__weakref__" 210 (.ref 32),kE P "__doc__" 211 .none] 3),#[]⟩
noncomputable def Am (P:Params):Obj:=⟨(.type "type"),none,(.cls ⟨"PlateError",[.type "ValueError"],[.ref 31,.type "ValueError",.type "Exception",.type "BaseException",.type "object"],30,"PlateError",true,[],[.ref 44,.ref 56,.ref 68,.ref 80,.ref 92,.ref 104],false,none,false⟩),#[some (.ref 22),none,some (.str "PlateError" 196),some (.str "PlateError" 204),some (.builtin "ValueError.__new__"),some (.bool true)]⟩
noncomputable def gk2 (x0 x1 x2 x3 x4 x5 x6:Nat)(P:Params):Obj:=⟨(.type "dict"),none,(.dict #[kE P "__module__" x0 (.str "platecuts.errors" 194),kE P "__firstlineno__" x1 (.int x2 x3),kE P "__static_attributes__" x4 (.ref x5),kE P "__doc__" x6 .none] 2),#[]⟩
noncomputable def An:=gk2 221 225 7 224 226 42 227
noncomputable def gk3 (x0:Str)(x1 x2 x3 x4 x5:Nat)(P:Params):Obj:=⟨(.type "type"),none,(.cls ⟨x0,[.ref 31],[.ref x1,.ref 31,.type "ValueError",.type "Exception",.type "BaseException",.type "object"],x2,x0,true,[],[],false,none,false⟩),#[some (.ref x3),none,some (.str x0 x4),some (.str x0 x5),some (.builtin "ValueError.__new__"),some (.bool true)]⟩
noncomputable def Ao:=gk3 "NoBlade" 44 43 35 214 222
noncomputable def Ap:=gk2 237 241 9 240 242 54 243
noncomputable def Aq:=gk3 "NoKinds" 56 55 47 230 238
noncomputable def Ar:=gk2 253 257 11 256 258 66 259
noncomputable def As:=gk3 "NoKind" 68 67 59 246 254
noncomputable def At:=gk2 269 273 13 272 274 78 275
noncomputable def Au:=gk3 "NoLying" 80 79 71 262 270
noncomputable def Av:=gk2 285 289 15 288 290 90 291
noncomputable def Aw:=gk3 "NoPlate" 92 91 83 278 286
noncomputable def ux:=gk2 301 305 17 304 306 102 307
noncomputable def uy:=gk3 "NoLaying" 104 103 95 294 302
noncomputable def uz:=gk0 "is_whole" 312 "is_whole" 313 314 20 2 107 108 109 110 111 317 318
noncomputable def uA:=gk1 "is_whole" "is_whole" fG "platecuts.checks" 310 112
noncomputable def uB:=gk0 "is_truth" 320 "is_truth" 321 322 22 1 114 115 116 117 118 324 325
noncomputable def uC:=gk1 "is_truth" "is_truth" fH "platecuts.checks" 310 119
noncomputable def uD:=gk0 "is_row" 327 "is_row" 328 329 24 1 121 122 123 124 125 331 332
noncomputable def uE:=gk1 "is_row" "is_row" mU "platecuts.checks" 310 126
noncomputable def uF:=gk0 "check_plate" 334 "check_plate" 335 336 26 2 128 129 130 131 132 339 340
noncomputable def uG:=gk1 "check_plate" "check_plate" bU "platecuts.checks" 310 133
noncomputable def uH (P:Params):Obj:=⟨(.type "tuple"),none,(.seq #[.str "down" 344,.str "across" 346] 0),#[]⟩
noncomputable def uI:=gk0 "lies_in" 349 "lies_in" 350 351 33 7 136 137 138 139 140 361 362
noncomputable def uJ:=gk1 "lies_in" "lies_in" dU "platecuts.parts" 342 141
noncomputable def uK:=gk0 "is_placed" 368 "is_placed" 369 370 40 4 143 144 145 146 147 375 376
noncomputable def uL:=gk1 "is_placed" "is_placed" cH "platecuts.layings" 364 148
noncomputable def uM:=gk0 "spans_of" 378 "spans_of" 379 380 44 2 150 151 152 153 154 389 390
noncomputable def uN:=gk1 "spans_of" "spans_of" cV "platecuts.layings" 364 155
noncomputable def uO:=gk0 "meet" 392 "meet" 393 394 48 2 157 158 159 160 161 397 398
noncomputable def uP:=gk1 "meet" "meet" iH "platecuts.layings" 364 162
noncomputable def gk4 (x0:Str)(x1:Nat)(x2:Str)(x3 x4 x5 x6 x7 x8 x9 x10 x11:Nat)(P:Params):Obj:=⟨(.type "code"),none,(.fields #[.str x0 x1,.str x2 x3,.str "/claim/cut.py" x4,.int x5 0,.int x6 0,.int 0 0,.int 0 0,.int 3 0,.ref x7,.bool true,.int 181 0,.ref x8,.none,.none,.none,.ref x9,.int x10 0,.int x5 0,.str "/claim/cut.py" x11]),#[]⟩
noncomputable def uQ:=gk4 "is_laying" 400 "is_laying" 401 402 50 4 164 165 166 403 404
noncomputable def uR:=gk1 "is_laying" "is_laying" bO "platecuts.layings" 364 167
noncomputable def uS:=gk0 "parting_place" 416 "parting_place" 417 418 65 2 169 170 171 172 173 425 426
noncomputable def uT:=gk1 "parting_place" "parting_place" bp "platecuts.parting" 410 174
noncomputable def uU:=gk4 "parting_cut" 428 "parting_cut" 429 430 73 2 176 177 178 431 432
noncomputable def uV:=gk1 "parting_cut" "parting_cut" aY "platecuts.parting" 410 179
noncomputable def uW:=gk0 "leaf_of" 434 "leaf_of" 435 436 82 3 181 182 183 184 185 444 445
noncomputable def uX:=gk1 "leaf_of" "leaf_of" dW "platecuts.parting" 410 186
noncomputable def uY:=gk0 "part_pieces" 447 "part_pieces" 448 449 87 4 188 189 190 191 192 462 463
noncomputable def uZ:=gk1 "part_pieces" "part_pieces" bj "platecuts.parting" 410 193
noncomputable def va:=gk4 "tree_or_knot" 465 "tree_or_knot" 466 467 102 4 195 196 197 468 469
noncomputable def vb:=gk1 "tree_or_knot" "tree_or_knot" bC "platecuts.parting" 410 198
noncomputable def vc:=gk0 "is_kind" 477 "is_kind" 478 479 109 1 200 201 202 203 204 486 487
noncomputable def vd:=gk1 "is_kind" "is_kind" dX "platecuts.shops" 471 205
noncomputable def ve:=gk0 "can_lie_turned" 489 "can_lie_turned" 490 491 116 1 207 208 209 210 211 493 494
noncomputable def vf:=gk1 "can_lie_turned" "can_lie_turned" dY "platecuts.shops" 471 212
noncomputable def vg:=gk4 "__init__" 508 "Shop.__init__" 509 510 120 3 221 222 223 511 512
noncomputable def vh:=gk1 "__init__" "Shop.__init__" bX "platecuts.shops" 471 224
noncomputable def vi:=gk0 "blade" 514 "Shop.blade" 515 516 131 1 226 227 228 229 230 518 519
noncomputable def vj:=gk1 "blade" "Shop.blade" cm "platecuts.shops" 471 231
noncomputable def vk:=gk0 "kinds" 521 "Shop.kinds" 522 523 134 1 233 234 235 236 237 525 526
noncomputable def vm:=gk1 "kinds" "Shop.kinds" jt "platecuts.shops" 471 238
noncomputable def vn:=gk4 "wanted" 528 "Shop.wanted" 529 530 137 1 240 241 242 531 532
noncomputable def vo:=gk1 "wanted" "Shop.wanted" iI "platecuts.shops" 471 243
noncomputable def vp:=gk0 "lyings" 534 "Shop.lyings" 535 536 140 1 245 246 247 248 249 538 539
noncomputable def vq:=gk1 "lyings" "Shop.lyings" iJ "platecuts.shops" 471 250
noncomputable def vt:=gk0 "is_lying" 541 "Shop.is_lying" 542 543 143 3 252 253 254 255 256 547 548
noncomputable def vw:=gk1 "is_lying" "Shop.is_lying" bI "platecuts.shops" 471 257
noncomputable def vx:=gk0 "sides" 550 "Shop.sides" 551 552 148 3 259 260 261 262 263 557 558
noncomputable def vy:=gk1 "sides" "Shop.sides" cn "platecuts.shops" 471 264
noncomputable def vz (P:Params):Obj:=⟨(.type "dict"),none,(.dict #[kE P "__module__" 503 (.str "platecuts.shops" 471),kE P "__firstlineno__" 507 (.int 118 506),kE P "__init__" 513 (.ref 225),kE P "blade" 520 (.ref 232),kE P "kinds" 527 (.ref 239),kE P "wanted" 533 (.ref 244),kE P "lyings" 540 (.ref 251),kE P "is_lying" 549 (.ref 258),kE P "sides" 559 (.ref 265),kE P "__static_attributes__" 562 (.ref 266),kE P "__dict__" 564 (.ref 269),kE P "__weakref__" 566 (.ref 270),kE P "__doc__" 567 .none] 4),#[]⟩
noncomputable def vA (P:Params):Obj:=⟨(.type "type"),none,(.cls ⟨"Shop",[.type "object"],[.ref 268,.type "object"],267,"Shop",true,[],[],false,none,false⟩),#[none,none,some (.str "Shop" 496),some (.str "Shop" 504),some (.builtin "object.__new__"),some (.bool true)]⟩
noncomputable def vB:=gk0 "_law_cell" 572 "_law_cell" 573 574 156 2 273 274 275 276 277 577 578
noncomputable def vC:=gk1 "_law_cell" "_law_cell" iK "law_platecuts_k35_whole_layings_moved_about" 570 278
noncomputable def vD:=gk0 "_law_pot" 580 "_law_pot" 581 582 160 2 280 281 282 283 284 585 586
noncomputable def vE:=gk1 "_law_pot" "_law_pot" mV "law_platecuts_k35_whole_layings_moved_about" 570 285
noncomputable def vF:=gk0 "_law_take" 588 "_law_take" 589 590 162 2 287 288 289 290 291 594 595
noncomputable def vG:=gk1 "_law_take" "_law_take" iL "law_platecuts_k35_whole_layings_moved_about" 570 292
noncomputable def vH:=gk0 "_law_unit" 597 "_law_unit" 598 599 169 1 294 295 296 297 298 602 603
noncomputable def vI:=gk1 "_law_unit" "_law_unit" iM "law_platecuts_k35_whole_layings_moved_about" 570 299
noncomputable def vJ:=gk0 "_law_side" 605 "_law_side" 606 607 172 3 301 302 303 304 305 611 612
noncomputable def vK:=gk1 "_law_side" "_law_side" iN "law_platecuts_k35_whole_layings_moved_about" 570 306
noncomputable def vL:=gk0 "_law_worth" 614 "_law_worth" 615 616 176 1 308 309 310 311 312 619 620
noncomputable def vM:=gk1 "_law_worth" "_law_worth" fI "law_platecuts_k35_whole_layings_moved_about" 570 313
noncomputable def vN:=gk0 "_law_shop" 622 "_law_shop" 623 624 179 2 315 316 317 318 319 632 633
noncomputable def vO:=gk1 "_law_shop" "_law_shop" iO "law_platecuts_k35_whole_layings_moved_about" 570 320
noncomputable def vP:=gk0 "_law_sides" 635 "_law_sides" 636 637 187 3 322 323 324 325 326 643 644
noncomputable def vQ:=gk1 "_law_sides" "_law_sides" fJ "law_platecuts_k35_whole_layings_moved_about" 570 327
noncomputable def vR:=gk0 "_law_lyings" 646 "_law_lyings" 647 648 190 1 329 330 331 332 333 653 654
noncomputable def vS:=gk1 "_law_lyings" "_law_lyings" dZ "law_platecuts_k35_whole_layings_moved_about" 570 334
noncomputable def vT:=gk0 "_law_box" 656 "_law_box" 657 658 197 2 336 337 338 339 340 662 663
noncomputable def vU:=gk1 "_law_box" "_law_box" mW "law_platecuts_k35_whole_layings_moved_about" 570 341
noncomputable def vV:=gk0 "_law_apart" 665 "_law_apart" 666 667 200 2 343 344 345 346 347 670 671
noncomputable def vW:=gk1 "_law_apart" "_law_apart" fK "law_platecuts_k35_whole_layings_moved_about" 570 348
noncomputable def vX:=gk4 "_law_fits" 673 "_law_fits" 674 675 202 5 350 351 352 676 677
noncomputable def vY:=gk1 "_law_fits" "_law_fits" gy "law_platecuts_k35_whole_layings_moved_about" 570 353
noncomputable def vZ:=gk0 "_law_scattered" 679 "_law_scattered" 680 681 207 6 355 356 357 358 359 696 697
noncomputable def wc:=gk1 "_law_scattered" "_law_scattered" cq "law_platecuts_k35_whole_layings_moved_about" 570 360
noncomputable def we:=gk4 "_law_wheel" 699 "_law_wheel" 700 701 221 4 362 363 364 702 703
noncomputable def wf:=gk1 "_law_wheel" "_law_wheel" dC "law_platecuts_k35_whole_layings_moved_about" 570 365
noncomputable def wg:=gk0 "_law_handed" 705 "_law_handed" 706 707 231 2 367 368 369 370 371 712 713
noncomputable def wj:=gk1 "_law_handed" "_law_handed" ee "law_platecuts_k35_whole_layings_moved_about" 570 372
noncomputable def wk:=gk4 "_law_turned_shop" 715 "_law_turned_shop" 716 717 236 1 374 375 376 718 719
noncomputable def wn:=gk1 "_law_turned_shop" "_law_turned_shop" bD "law_platecuts_k35_whole_layings_moved_about" 570 377
noncomputable def wr:=gk4 "_law_times_shop" 721 "_law_times_shop" 722 723 238 2 379 380 381 724 725
noncomputable def wu:=gk1 "_law_times_shop" "_law_times_shop" bP "law_platecuts_k35_whole_layings_moved_about" 570 382
noncomputable def wv:=gk4 "_law_moved" 727 "_law_moved" 728 729 240 3 384 385 386 730 731
noncomputable def ww:=gk1 "_law_moved" "_law_moved" eK "law_platecuts_k35_whole_layings_moved_about" 570 387
noncomputable def wx:=gk4 "_law_alike" 733 "_law_alike" 734 735 242 6 389 390 391 736 737
noncomputable def wz:=gk1 "_law_alike" "_law_alike" cW "law_platecuts_k35_whole_layings_moved_about" 570 392
noncomputable def wA:=gk4 "law" 739 "law" 740 741 255 1 394 395 396 742 743
noncomputable def wB:=gk1 "law" "law" gO "law_platecuts_k35_whole_layings_moved_about" 570 397
noncomputable def kK:Params→Frag:=fun P=>(nat_lit 3,kO3 P) :: (nat_lit 20,Aj P) :: (nat_lit 21,Ak P) :: (nat_lit 30,Al P) :: (nat_lit 31,Am P) :: (nat_lit 43,An P) :: (nat_lit 44,Ao P) :: (nat_lit 55,Ap P) :: (nat_lit 56,Aq P) :: (nat_lit 67,Ar P) :: (nat_lit 68,As P) :: (nat_lit 79,At P) :: (nat_lit 80,Au P) :: (nat_lit 91,Av P) :: (nat_lit 92,Aw P) :: (nat_lit 103,ux P) :: (nat_lit 104,uy P) :: (nat_lit 112,uz P) :: (nat_lit 113,uA P) :: (nat_lit 119,uB P) :: (nat_lit 120,uC P) :: (nat_lit 126,uD P) :: (nat_lit 127,uE P) :: (nat_lit 133,uF P) :: (nat_lit 134,uG P) :: (nat_lit 135,uH P) :: (nat_lit 141,uI P) :: (nat_lit 142,uJ P) :: (nat_lit 148,uK P) :: (nat_lit 149,uL P) :: (nat_lit 155,uM P) :: (nat_lit 156,uN P) :: (nat_lit 162,uO P) :: (nat_lit 163,uP P) :: (nat_lit 167,uQ P) :: (nat_lit 168,uR P) :: (nat_lit 174,uS P) :: (nat_lit 175,uT P) :: (nat_lit 179,uU P) :: (nat_lit 180,uV P) :: (nat_lit 186,uW P) :: (nat_lit 187,uX P) :: (nat_lit 193,uY P) :: (nat_lit 194,uZ P) :: (nat_lit 198,va P) :: (nat_lit 199,vb P) :: (nat_lit 205,vc P) :: (nat_lit 206,vd P) :: (nat_lit 212,ve P) :: (nat_lit 213,vf P) :: (nat_lit 224,vg P) :: (nat_lit 225,vh P) :: (nat_lit 231,vi P) :: (nat_lit 232,vj P) :: (nat_lit 238,vk P) :: (nat_lit 239,vm P) :: (nat_lit 243,vn P) :: (nat_lit 244,vo P) :: (nat_lit 250,vp P) :: (nat_lit 251,vq P) :: (nat_lit 257,vt P) :: (nat_lit 258,vw P) :: (nat_lit 264,vx P) :: (nat_lit 265,vy P) :: (nat_lit 267,vz P) :: (nat_lit 268,vA P) :: (nat_lit 278,vB P) :: (nat_lit 279,vC P) :: (nat_lit 285,vD P) :: (nat_lit 286,vE P) :: (nat_lit 292,vF P) :: (nat_lit 293,vG P) :: (nat_lit 299,vH P) :: (nat_lit 300,vI P) :: (nat_lit 306,vJ P) :: (nat_lit 307,vK P) :: (nat_lit 313,vL P) :: (nat_lit 314,vM P) :: (nat_lit 320,vN P) :: (nat_lit 321,vO P) :: (nat_lit 327,vP P) :: (nat_lit 328,vQ P) :: (nat_lit 334,vR P) :: (nat_lit 335,vS P) :: (nat_lit 341,vT P) :: (nat_lit 342,vU P) :: (nat_lit 348,vV P) :: (nat_lit 349,vW P) :: (nat_lit 353,vX P) :: (nat_lit 354,vY P) :: (nat_lit 360,vZ P) :: (nat_lit 361,wc P) :: (nat_lit 365,we P) :: (nat_lit 366,wf P) :: (nat_lit 372,wg P) :: (nat_lit 373,wj P) :: (nat_lit 377,wk P) :: (nat_lit 378,wn P) :: (nat_lit 382,wr P) :: (nat_lit 383,wu P) :: (nat_lit 387,wv P) :: (nat_lit 388,ww P) :: (nat_lit 392,wx P) :: (nat_lit 393,wz P) :: (nat_lit 397,wA P) :: (nat_lit 398,wB P) :: []
end
end Pc
set_option maxHeartbeats 0
lay_quick PySem.Challenge.pw_platecuts_k35_whole_layings_moved_about
namespace Hd
open PySem PySem.W
noncomputable def S0:Str:=⟨⟨[95,95,110,97,109,101,95,95]⟩⟩
noncomputable def S2:Str:=⟨⟨[95,95,100,111,99,95,95]⟩⟩
noncomputable def S3:Str:=⟨⟨[95,95,112,97,99,107,97,103,101,95,95]⟩⟩
noncomputable def S4:Str:=⟨⟨[95,95,108,111,97,100,101,114,95,95]⟩⟩
noncomputable def S5:Str:=⟨⟨[95,95,115,112,101,99,95,95]⟩⟩
noncomputable def wC:Str:=⟨⟨[95,95,109,97,105,110,95,95]⟩⟩
noncomputable def wD:Str:=⟨⟨[95,95,97,110,110,111,116,97,116,105,111,110,115,95,95]⟩⟩
noncomputable def wE:Str:=⟨⟨[95,95,98,117,105,108,116,105,110,115,95,95]⟩⟩
noncomputable def wF:Str:=⟨⟨[95,95,102,105,108,101,95,95]⟩⟩
noncomputable def iU:Str:=⟨⟨[47,99,108,97,105,109,47,99,117,116,46,112,121]⟩⟩
noncomputable def wG:Str:=⟨⟨[95,95,99,97,99,104,101,100,95,95]⟩⟩
noncomputable def Ax:Str:=⟨⟨[60,109,111,100,117,108,101,62]⟩⟩
noncomputable def lx:Str:=⟨⟨[112,108,97,116,101,99,117,116,115,46,112,97,114,116,105,110,103]⟩⟩
noncomputable def jD:Str:=⟨⟨[95,119,97,108,108]⟩⟩
noncomputable def ig:Str:=⟨⟨[80,108,97,116,101,69,114,114,111,114]⟩⟩
noncomputable def lz:Str:=⟨⟨[78,111,66,108,97,100,101]⟩⟩
noncomputable def lA:Str:=⟨⟨[78,111,75,105,110,100,115]⟩⟩
noncomputable def lB:Str:=⟨⟨[78,111,75,105,110,100]⟩⟩
noncomputable def lC:Str:=⟨⟨[78,111,76,121,105,110,103]⟩⟩
noncomputable def lD:Str:=⟨⟨[78,111,80,108,97,116,101]⟩⟩
noncomputable def lE:Str:=⟨⟨[78,111,76,97,121,105,110,103]⟩⟩
noncomputable def jE:Str:=⟨⟨[105,115,95,119,104,111,108,101]⟩⟩
noncomputable def jF:Str:=⟨⟨[105,115,95,116,114,117,116,104]⟩⟩
noncomputable def jG:Str:=⟨⟨[105,115,95,114,111,119]⟩⟩
noncomputable def jH:Str:=⟨⟨[99,104,101,99,107,95,112,108,97,116,101]⟩⟩
noncomputable def qX:Str:=⟨⟨[68,79,87,78]⟩⟩
noncomputable def qY:Str:=⟨⟨[100,111,119,110]⟩⟩
noncomputable def qZ:Str:=⟨⟨[65,67,82,79,83,83]⟩⟩
noncomputable def re:Str:=⟨⟨[97,99,114,111,115,115]⟩⟩
noncomputable def rf:Str:=⟨⟨[87,65,89,83]⟩⟩
noncomputable def jI:Str:=⟨⟨[108,105,101,115,95,105,110]⟩⟩
noncomputable def rg:Str:=⟨⟨[84,72,73,78,71,83,95,79,70,95,65,95,80,73,69,67,69]⟩⟩
noncomputable def jJ:Str:=⟨⟨[105,115,95,112,108,97,99,101,100]⟩⟩
noncomputable def jK:Str:=⟨⟨[115,112,97,110,115,95,111,102]⟩⟩
noncomputable def jL:Str:=⟨⟨[109,101,101,116]⟩⟩
noncomputable def jM:Str:=⟨⟨[105,115,95,108,97,121,105,110,103]⟩⟩
noncomputable def rh:Str:=⟨⟨[82,69,83,84]⟩⟩
noncomputable def wH:Str:=⟨⟨[114,101,115,116]⟩⟩
noncomputable def rj:Str:=⟨⟨[80,73,69,67,69]⟩⟩
noncomputable def rm:Str:=⟨⟨[112,105,101,99,101]⟩⟩
noncomputable def rn:Str:=⟨⟨[84,82,69,69]⟩⟩
noncomputable def wI:Str:=⟨⟨[116,114,101,101]⟩⟩
noncomputable def rp:Str:=⟨⟨[75,78,79,84]⟩⟩
noncomputable def wJ:Str:=⟨⟨[107,110,111,116]⟩⟩
noncomputable def jN:Str:=⟨⟨[112,97,114,116,105,110,103,95,112,108,97,99,101]⟩⟩
noncomputable def jO:Str:=⟨⟨[112,97,114,116,105,110,103,95,99,117,116]⟩⟩
noncomputable def jP:Str:=⟨⟨[108,101,97,102,95,111,102]⟩⟩
noncomputable def Ay:Str:=⟨⟨[107]⟩⟩
noncomputable def nO:Str:=⟨⟨[95,95,109,111,100,117,108,101,95,95]⟩⟩
noncomputable def fV:Str:=⟨⟨[112,108,97,116,101,99,117,116,115,46,101,114,114,111,114,115]⟩⟩
noncomputable def wK:Str:=⟨⟨[95,95,113,117,97,108,110,97,109,101,95,95]⟩⟩
noncomputable def nP:Str:=⟨⟨[95,95,102,105,114,115,116,108,105,110,101,110,111,95,95]⟩⟩
noncomputable def nQ:Str:=⟨⟨[95,95,115,116,97,116,105,99,95,97,116,116,114,105,98,117,116,101,115,95,95]⟩⟩
noncomputable def rq:Str:=⟨⟨[95,95,119,101,97,107,114,101,102,95,95]⟩⟩
noncomputable def nR:Str:=⟨⟨[116,104,105,110,103]⟩⟩
noncomputable def Az:Str:=⟨⟨[108,101,97,115,116]⟩⟩
noncomputable def pK:Str:=⟨⟨[112,108,97,116,101,99,117,116,115,46,99,104,101,99,107,115]⟩⟩
noncomputable def nS:Str:=⟨⟨[119,105,100,101]⟩⟩
noncomputable def nT:Str:=⟨⟨[104,105,103,104]⟩⟩
noncomputable def pM:Str:=⟨⟨[115,104,111,112]⟩⟩
noncomputable def lF:Str:=⟨⟨[107,105,110,100]⟩⟩
noncomputable def nU:Str:=⟨⟨[116,117,114,110,101,100]⟩⟩
noncomputable def pN:Str:=⟨⟨[120]⟩⟩
noncomputable def pO:Str:=⟨⟨[121]⟩⟩
noncomputable def AA:Str:=⟨⟨[112,105,101,99,101,95,119,105,100,101]⟩⟩
noncomputable def AB:Str:=⟨⟨[112,105,101,99,101,95,104,105,103,104]⟩⟩
noncomputable def AE:Str:=⟨⟨[112,108,97,116,101,99,117,116,115,46,112,97,114,116,115]⟩⟩
noncomputable def pP:Str:=⟨⟨[112,108,97,116,101,99,117,116,115,46,108,97,121,105,110,103,115]⟩⟩
noncomputable def AF:Str:=⟨⟨[111,110,101]⟩⟩
noncomputable def AG:Str:=⟨⟨[111,116,104,101,114]⟩⟩
noncomputable def lG:Str:=⟨⟨[98,108,97,100,101]⟩⟩
noncomputable def AH:Str:=⟨⟨[115,112,97,110,115]⟩⟩
noncomputable def AI:Str:=⟨⟨[111,114,100,101,114,101,100]⟩⟩
noncomputable def AJ:Str:=⟨⟨[114,101,97,99,104]⟩⟩
noncomputable def AK:Str:=⟨⟨[115,116,97,114,116]⟩⟩
noncomputable def AL:Str:=⟨⟨[101,110,100]⟩⟩
noncomputable def wL:Str:=⟨⟨[112,105,101,99,101,115]⟩⟩
noncomputable def AM:Str:=⟨⟨[112,105,101,99,101,95,120]⟩⟩
noncomputable def AN:Str:=⟨⟨[112,105,101,99,101,95,121]⟩⟩
noncomputable def cC:Str:=⟨⟨[108,97,119,95,112,108,97,116,101,99,117,116,115,95,107,51,53,95,119,104,111,108,101,95,108,97,121,105,110,103,115,95,109,111,118,101,100,95,97,98,111,117,116]⟩⟩
noncomputable def lH:Str:=⟨⟨[112,97,114,116,95,112,105,101,99,101,115]⟩⟩
noncomputable def lI:Str:=⟨⟨[116,114,101,101,95,111,114,95,107,110,111,116]⟩⟩
noncomputable def wM:Str:=⟨⟨[77,79,83,84,95,75,73,78,68,83]⟩⟩
noncomputable def wN:Str:=⟨⟨[84,72,73,78,71,83,95,79,70,95,65,95,75,73,78,68]⟩⟩
noncomputable def lJ:Str:=⟨⟨[105,115,95,107,105,110,100]⟩⟩
noncomputable def lK:Str:=⟨⟨[99,97,110,95,108,105,101,95,116,117,114,110,101,100]⟩⟩
noncomputable def iV:Str:=⟨⟨[83,104,111,112]⟩⟩
noncomputable def lL:Str:=⟨⟨[95,108,97,119,95,99,101,108,108]⟩⟩
noncomputable def lM:Str:=⟨⟨[95,108,97,119,95,112,111,116]⟩⟩
noncomputable def lN:Str:=⟨⟨[95,108,97,119,95,116,97,107,101]⟩⟩
noncomputable def lO:Str:=⟨⟨[95,108,97,119,95,117,110,105,116]⟩⟩
noncomputable def lP:Str:=⟨⟨[95,108,97,119,95,115,105,100,101]⟩⟩
noncomputable def lQ:Str:=⟨⟨[95,108,97,119,95,119,111,114,116,104]⟩⟩
noncomputable def lR:Str:=⟨⟨[95,108,97,119,95,115,104,111,112]⟩⟩
noncomputable def lS:Str:=⟨⟨[95,108,97,119,95,115,105,100,101,115]⟩⟩
noncomputable def lT:Str:=⟨⟨[95,108,97,119,95,108,121,105,110,103,115]⟩⟩
noncomputable def lU:Str:=⟨⟨[95,108,97,119,95,98,111,120]⟩⟩
noncomputable def lV:Str:=⟨⟨[95,108,97,119,95,97,112,97,114,116]⟩⟩
noncomputable def lW:Str:=⟨⟨[95,108,97,119,95,102,105,116,115]⟩⟩
noncomputable def lX:Str:=⟨⟨[95,108,97,119,95,115,99,97,116,116,101,114,101,100]⟩⟩
noncomputable def lY:Str:=⟨⟨[95,108,97,119,95,119,104,101,101,108]⟩⟩
noncomputable def lZ:Str:=⟨⟨[95,108,97,119,95,104,97,110,100,101,100]⟩⟩
noncomputable def ma:Str:=⟨⟨[95,108,97,119,95,116,117,114,110,101,100,95,115,104,111,112]⟩⟩
noncomputable def md:Str:=⟨⟨[95,108,97,119,95,116,105,109,101,115,95,115,104,111,112]⟩⟩
noncomputable def me:Str:=⟨⟨[95,108,97,119,95,109,111,118,101,100]⟩⟩
noncomputable def mf:Str:=⟨⟨[95,108,97,119,95,97,108,105,107,101]⟩⟩
noncomputable def nV:Str:=⟨⟨[108,97,119]⟩⟩
noncomputable def AO:Str:=⟨⟨[99,117,116]⟩⟩
noncomputable def AQ:Str:=⟨⟨[119,97,121]⟩⟩
noncomputable def AR:Str:=⟨⟨[112,108,97,99,101]⟩⟩
noncomputable def AS:Str:=⟨⟨[97,104,101,97,100]⟩⟩
noncomputable def AT:Str:=⟨⟨[98,101,104,105,110,100]⟩⟩
noncomputable def AU:Str:=⟨⟨[102,105,114,115,116]⟩⟩
noncomputable def AV:Str:=⟨⟨[115,116,101,112]⟩⟩
noncomputable def AW:Str:=⟨⟨[115,101,99,111,110,100]⟩⟩
noncomputable def AX:Str:=⟨⟨[119,111,114,116,104]⟩⟩
noncomputable def mh:Str:=⟨⟨[119,97,110,116,101,100]⟩⟩
noncomputable def AY:Str:=⟨⟨[116,117,114,110,115]⟩⟩
noncomputable def mi:Str:=⟨⟨[112,108,97,116,101,99,117,116,115,46,115,104,111,112,115]⟩⟩
noncomputable def nW:Str:=⟨⟨[95,95,105,110,105,116,95,95]⟩⟩
noncomputable def nX:Str:=⟨⟨[107,105,110,100,115]⟩⟩
noncomputable def nY:Str:=⟨⟨[108,121,105,110,103,115]⟩⟩
noncomputable def nZ:Str:=⟨⟨[105,115,95,108,121,105,110,103]⟩⟩
noncomputable def oa:Str:=⟨⟨[115,105,100,101,115]⟩⟩
noncomputable def rz:Str:=⟨⟨[83,104,111,112,46,95,95,105,110,105,116,95,95]⟩⟩
noncomputable def oe:Str:=⟨⟨[115,101,108,102]⟩⟩
noncomputable def rA:Str:=⟨⟨[83,104,111,112,46,98,108,97,100,101]⟩⟩
noncomputable def rB:Str:=⟨⟨[83,104,111,112,46,107,105,110,100,115]⟩⟩
noncomputable def rC:Str:=⟨⟨[83,104,111,112,46,119,97,110,116,101,100]⟩⟩
noncomputable def rD:Str:=⟨⟨[83,104,111,112,46,108,121,105,110,103,115]⟩⟩
noncomputable def rE:Str:=⟨⟨[83,104,111,112,46,105,115,95,108,121,105,110,103]⟩⟩
noncomputable def AZ:Str:=⟨⟨[114,111,119]⟩⟩
noncomputable def rF:Str:=⟨⟨[83,104,111,112,46,115,105,100,101,115]⟩⟩
noncomputable def Ba:Str:=⟨⟨[98,108,97,100,101,95,119,105,100,116,104]⟩⟩
noncomputable def Bb:Str:=⟨⟨[107,105,110,100,95,114,111,119,115]⟩⟩
noncomputable def wO:Str:=⟨⟨[95,95,100,105,99,116,95,95]⟩⟩
noncomputable def Bc:Str:=⟨⟨[95,108,97,119,95,115,99,114,105,112,116]⟩⟩
noncomputable def og:Str:=⟨⟨[95,108,97,119,95,107]⟩⟩
noncomputable def Bd:Str:=⟨⟨[95,108,97,119,95,99,101,108,108,95,104,101,114,101]⟩⟩
noncomputable def jQ:Str:=⟨⟨[95,108,97,119,95,112,111,116,95,104,101,114,101]⟩⟩
noncomputable def wP:Str:=⟨⟨[95,108,97,119,95,109,97,110,121]⟩⟩
noncomputable def Be:Str:=⟨⟨[95,108,97,119,95,100,105,103,105,116]⟩⟩
noncomputable def rG:Str:=⟨⟨[95,108,97,119,95,115,111,109,101]⟩⟩
noncomputable def wQ:Str:=⟨⟨[95,108,97,119,95,117,110,105,116,95,104,101,114,101]⟩⟩
noncomputable def Bf:Str:=⟨⟨[95,108,97,119,95,109,111,115,116]⟩⟩
noncomputable def Bg:Str:=⟨⟨[95,108,97,119,95,98,108,97,100,101]⟩⟩
noncomputable def Bh:Str:=⟨⟨[95,108,97,119,95,107,105,110,100,115]⟩⟩
noncomputable def rH:Str:=⟨⟨[95,108,97,119,95,119,105,100,101]⟩⟩
noncomputable def rJ:Str:=⟨⟨[95,108,97,119,95,104,105,103,104]⟩⟩
noncomputable def pQ:Str:=⟨⟨[95,108,97,119,95,115,104,111,112,95,104,101,114,101]⟩⟩
noncomputable def rK:Str:=⟨⟨[95,108,97,119,95,107,105,110,100]⟩⟩
noncomputable def wR:Str:=⟨⟨[95,108,97,119,95,116,117,114,110,101,100]⟩⟩
noncomputable def rL:Str:=⟨⟨[95,108,97,119,95,102,111,117,110,100]⟩⟩
noncomputable def wS:Str:=⟨⟨[95,108,97,119,95,112,105,101,99,101]⟩⟩
noncomputable def Bi:Str:=⟨⟨[95,108,97,119,95,111,119,110]⟩⟩
noncomputable def Bj:Str:=⟨⟨[95,108,97,119,95,111,110,101]⟩⟩
noncomputable def Bk:Str:=⟨⟨[95,108,97,119,95,111,116,104,101,114]⟩⟩
noncomputable def wT:Str:=⟨⟨[95,108,97,119,95,112,105,101,99,101,115]⟩⟩
noncomputable def Bl:Str:=⟨⟨[95,108,97,119,95,120]⟩⟩
noncomputable def Bm:Str:=⟨⟨[95,108,97,119,95,121]⟩⟩
noncomputable def Bn:Str:=⟨⟨[95,108,97,119,95,98,111,120,95,104,101,114,101]⟩⟩
noncomputable abbrev HK:Hook:=kHook Pc.kK [nat_lit 3,nat_lit 20,nat_lit 21,nat_lit 30,nat_lit 31,nat_lit 43,nat_lit 44,nat_lit 55,nat_lit 56,nat_lit 67,nat_lit 68,nat_lit 79,nat_lit 80,nat_lit 91,nat_lit 92,nat_lit 103,nat_lit 104,nat_lit 112,nat_lit 113,nat_lit 119,nat_lit 120,nat_lit 126,nat_lit 127,nat_lit 133,nat_lit 134,nat_lit 135,nat_lit 141,nat_lit 142,nat_lit 148,nat_lit 149,nat_lit 155,nat_lit 156,nat_lit 162,nat_lit 163,nat_lit 167,nat_lit 168,nat_lit 174,nat_lit 175,nat_lit 179,nat_lit 180,nat_lit 186,nat_lit 187,nat_lit 193,nat_lit 194,nat_lit 198,nat_lit 199,nat_lit 205,nat_lit 206,nat_lit 212,nat_lit 213,nat_lit 224,nat_lit 225,nat_lit 231,nat_lit 232,nat_lit 238,nat_lit 239,nat_lit 243,nat_lit 244,nat_lit 250,nat_lit 251,nat_lit 257,nat_lit 258,nat_lit 264,nat_lit 265,nat_lit 267,nat_lit 268,nat_lit 278,nat_lit 279,nat_lit 285,nat_lit 286,nat_lit 292,nat_lit 293,nat_lit 299,nat_lit 300,nat_lit 306,nat_lit 307,nat_lit 313,nat_lit 314,nat_lit 320,nat_lit 321,nat_lit 327,nat_lit 328,nat_lit 334,nat_lit 335,nat_lit 341,nat_lit 342,nat_lit 348,nat_lit 349,nat_lit 353,nat_lit 354,nat_lit 360,nat_lit 361,nat_lit 365,nat_lit 366,nat_lit 372,nat_lit 373,nat_lit 377,nat_lit 378,nat_lit 382,nat_lit 383,nat_lit 387,nat_lit 388,nat_lit 392,nat_lit 393,nat_lit 397,nat_lit 398] (fun _=>by kernel_rfl)
noncomputable abbrev pt:Program:=PySem.W.Fast.tw5388100183162839747
theorem pt_eq:PySem.Challenge.pw_platecuts_k35_whole_layings_moved_about=pt:=PySem.W.Fast.te5388100183162839747
noncomputable def tp (i:Nat):Stmt:=pt.main.body.getD i (.Pass ⟨0,0,0,0⟩)
noncomputable abbrev f (o:Params→Obj) (l r:Params→BT):Params→BT:=fun P=>.node (o P) (l P) (r P)
noncomputable abbrev z:Params→BT:=fun _=>.nil
noncomputable abbrev e (P:Params) (n:Str) (t:Nat) (v:Value):DictEntry:=⟨PyData.keyHash P n,.str n t,v⟩
noncomputable abbrev m0:Nat:=nat_lit 11
noncomputable abbrev an:Option Value:=(some (.ref 6))
noncomputable abbrev en:Env:={ scope:=pt.main.scope,locals:=mainNs,globals:=mainNs,cells:=[],code:=(.ref 13),frame:=some 14 }
noncomputable abbrev cE:Code:=.body (behindTheImports pt) en
noncomputable abbrev qP:Pos:=⟨0,0,0,0⟩
noncomputable abbrev B:List Frame:=[topFrame qP]
noncomputable abbrev L0:=SL.s14018661285674007319x4
noncomputable abbrev L1:=SL.s11665532747177232413x24
noncomputable abbrev L2:=SL.s15183661809925369436x15
noncomputable abbrev L3:=SL.s13915890719876406383x10
noncomputable abbrev L4:=SL.s13459172003223722735x3
noncomputable abbrev L5:=SL.s10557405761357834076x3
noncomputable abbrev L6:=SL.s4233737765568776869x3
noncomputable abbrev L7:=SL.s2508922471967985374x5
noncomputable abbrev L8:=SL.s15574269061696679450x3
noncomputable abbrev L9:=SL.s6016482663378992977x10
noncomputable abbrev L10:=SL.s5596568736180474577x8
noncomputable abbrev L11:=SL.s2839554839881490554x3
noncomputable abbrev L12:=SL.s725004073602090463x7
noncomputable abbrev L13:=SL.s9436932552931045734x7
noncomputable abbrev L14:=SL.s2754603736356183583x3
noncomputable abbrev L15:=SL.s15185746759980889043x6
noncomputable abbrev L16:=SL.s8192189862530294059x4
noncomputable abbrev L17:=SL.s7038307821325472102x4
noncomputable abbrev L18:=SL.s5662562618415449548x6
noncomputable abbrev L19:=SL.s15281542589158584767x7
noncomputable abbrev L20:=SL.s17651547275483570877x7
noncomputable abbrev L21:=SL.s4036449017235975746x7
noncomputable abbrev L22:=SL.s8879979712987360175x4
noncomputable abbrev L23:=SL.s1801250619170735830x3
noncomputable abbrev L24:=SL.s17659931425627118568x2
noncomputable abbrev L25:=SL.s6063217899685152688x5
noncomputable abbrev L26:=SL.s8008927332132565319x10
noncomputable abbrev L27:=SL.s3544116645089599534x10
noncomputable abbrev L28:=SL.s13761710972054866084x4
noncomputable abbrev L29:=SL.s12896375587409280029x5
noncomputable abbrev L30:=SL.s13014049009108672802x3
noncomputable abbrev L31:=SL.s13935586738268321596x6
noncomputable abbrev L32:=SL.s8200498257699607233x3
noncomputable abbrev L33:=SL.s14114244577727609259x3
noncomputable abbrev L34:=SL.s1499430450269397089x4
noncomputable abbrev L35:=SL.s8755793994789770505x5
noncomputable abbrev L36:=SL.s15725212667919936108x3
noncomputable abbrev L37:=SL.s15791221867095933363x3
noncomputable abbrev L38:=SL.s81309575031448614x3
noncomputable abbrev L39:=SL.s8069831620301644142x5
noncomputable abbrev L40:=SL.s10061844253413749634x4
noncomputable abbrev L41:=SL.s9496514870978017513x5
noncomputable abbrev L42:=SL.s8899691144933366716x7
noncomputable abbrev L43:=SL.s15201008993051130160x6
noncomputable abbrev L44:=SL.s741896355592496720x3
noncomputable abbrev L45:=SL.s17925004256654032244x4
noncomputable abbrev L46:=SL.s11695548795398191787x4
noncomputable abbrev L47:=SL.s4156966113859768872x10
noncomputable abbrev L48:=SL.s9501651726347032510x9
noncomputable abbrev L49:=SL.s15722918466584999320x5
noncomputable abbrev L50:=SL.s591115383303110208x11
noncomputable abbrev L51:=SL.s15721156781594690315x7
noncomputable abbrev L52:=SL.s14340494229221121180x9
noncomputable abbrev L53:=SL.s13429844117177748173x6
noncomputable abbrev L54:=SL.s16463266125957815391x5
noncomputable abbrev L55:=SL.s4922535414793169389x9
noncomputable abbrev L56:=SL.s8101838861749082086x8
noncomputable abbrev L57:=SL.s7066276694103001551x3
noncomputable abbrev L58:=SL.s9222952809800978799x4
noncomputable abbrev L59:=SL.s462964344163437139x3
noncomputable abbrev L60:=SL.s2742458400755230247x6
noncomputable abbrev L61:=SL.s1438033511350832697x5
noncomputable abbrev L62:=SL.s14365286008749172514x8
noncomputable abbrev L63:=SL.s3642769012341782148x3
noncomputable abbrev L64:=SL.s4674234679698826739x5
noncomputable abbrev L65:=SL.s16656946322747308186x12
noncomputable abbrev L66:=SL.s10796804682411823810x3
noncomputable abbrev L67:=SL.s4290257624100764138x5
noncomputable abbrev L68:=SL.s2766695959194262286x5
noncomputable abbrev L69:=SL.s17162191345867700912x4
noncomputable abbrev L70:=SL.s14339709457334898076x3
noncomputable abbrev L71:=SL.s4278001404047624695x13
noncomputable abbrev L72:=SL.s6585700554429387442x18
noncomputable abbrev L73:=SL.s5946037652744460706x9
noncomputable abbrev L74:=SL.s7410770068591931388x13
noncomputable abbrev L75:=SL.s11817881795495490833x17
noncomputable abbrev L76:=SL.s15679963881808890155x10
noncomputable abbrev L77:=SL.s3871700062485845797x15
noncomputable abbrev L78:=SL.s7689518266570723881x14
noncomputable abbrev L79:=SL.s9001593270443806431x14
noncomputable abbrev L80:=SL.s6882542574934516792x11
noncomputable abbrev L81:=SL.s14403400214490484960x8
noncomputable abbrev L82:=SL.s14457978657717015782x11
noncomputable abbrev L83:=SL.s1753610191782819921x11
noncomputable abbrev L84:=SL.s14119380538032626715x11
noncomputable abbrev L85:=SL.s11437920000406562045x9
noncomputable abbrev L86:=SL.s10852414792293593619x7
noncomputable abbrev L87:=SL.s14816307405966870543x14
noncomputable abbrev L88:=SL.s8682627914449686677x12
noncomputable abbrev L89:=SL.s4428170145600203450x18
noncomputable abbrev L90:=SL.s5991306692159431302x13
noncomputable abbrev L91:=SL.s16067994140765818257x11
noncomputable abbrev L92:=SL.s2327743974964600596x11
noncomputable abbrev L93:=SL.s2804747833354056582x9
noncomputable abbrev L94:=SL.s6070975301684473832x10
noncomputable abbrev L95:=SL.s14270485950484850486x7
noncomputable abbrev L96:=SL.s12041534306414923332x18
noncomputable abbrev L97:=SL.s2531307568338490285x13
noncomputable abbrev L98:=SL.s631175304937289666x17
noncomputable abbrev L99:=SL.s5144983644357021410x12
noncomputable abbrev Bw:=SL.s18039099521571816885x18
noncomputable abbrev By:=SL.s6011586214260557989x15
noncomputable abbrev Bz:=SL.s5430567037509283100x13
noncomputable abbrev BA:=SL.s8117915138073963741x13
noncomputable abbrev BB:=SL.s3423317712779056401x25
noncomputable abbrev BC:=SL.s2007317383269046180x15
noncomputable abbrev BD:=SL.s17481586968713580700x14
noncomputable abbrev BE:=SL.s2450899226349176912x13
noncomputable abbrev BF:=SL.s16626165730633575011x14
noncomputable abbrev BG:=SL.s14288496050688921416x11
noncomputable abbrev BH:=SL.s5735081916595925998x15
noncomputable abbrev BI:=SL.s3865607918536308442x17
noncomputable abbrev BJ:=SL.s13337502604062700212x15
noncomputable abbrev BK:=SL.s13114017843053701147x15
noncomputable abbrev BL:=SL.s17467278006356818441x17
noncomputable abbrev BM:=SL.s17722149559621369488x16
noncomputable abbrev BN:=SL.s7855274175708717672x17
noncomputable abbrev BO:=SL.s13351283678309829046x18
noncomputable abbrev BP:=SL.s6668348653404991179x15
noncomputable abbrev BQ:=SL.s12913350958174193794x18
noncomputable abbrev BR:=SL.s16115879512475548326x12
noncomputable abbrev BS:=SL.s15920661018069861047x16
noncomputable abbrev BU:=SL.s10779130036587390575x21
noncomputable abbrev BV:=SL.s7801419657504700863x10
noncomputable abbrev BW:=SL.s1688129525768580628x8
noncomputable abbrev BX:=SL.s1031832959479892071x19
noncomputable abbrev BY:=SL.s8991790508128307865x19
noncomputable abbrev BZ:=SL.s14539662485746970245x23
noncomputable abbrev Ca:=SL.s11643622729373238714x14
noncomputable abbrev Cb:=SL.s3386828779285465597x17
noncomputable abbrev Cc:=SL.s13042696260734638735x12
noncomputable abbrev Cd:=SL.s18239426817015966623x15
noncomputable abbrev Ce:=SL.s1270395311379034370x22
noncomputable abbrev Cf:=SL.s10696252587037064777x22
noncomputable abbrev Cg:=SL.s7852717498200857586x20
noncomputable abbrev Ch:=SL.s6377248116197321094x8
noncomputable abbrev Ci:=SL.s3834378056692298002x18
noncomputable abbrev Cj:=SL.s17586630440231065808x18
noncomputable abbrev Ck:=SL.s15234114252648025395x21
noncomputable abbrev Cl:=SL.s8496462677383758984x14
noncomputable abbrev Cm:=SL.s16789243406116112673x4
noncomputable abbrev Cn:=SL.s14400166428656793546x20
noncomputable abbrev Co:=SL.s5857708277339239366x20
noncomputable abbrev Cp:=SL.s7804999707787243718x20
noncomputable abbrev wU:=SL.s7097527257260152453x26
noncomputable abbrev Cq:=SL.s6658869562736209489x6
noncomputable abbrev rM:=SL.s5856160107412720595x4
noncomputable abbrev Bo:=SL.s658472552662922059x5
noncomputable abbrev sZ (w:World) (os:OsState):Shared:=⟨boot_heap w.params,Array.mk [],boot_drawn,boot_toks,os⟩
noncomputable def o11 (P:Params):Obj:=⟨(.type L68),none,(.seq #[] 0),#[]⟩
noncomputable def o12 (P:Params):Obj:=⟨.none,none,(.fields #[]),#[]⟩
noncomputable def g0 (x0:Str)(x1 x2 x3:Nat)(P:Params):Obj:=⟨(.type rM),none,(.fields #[.str x0 x1,.str x0 (x1+1),.str iU (x1+2),.int x2 0,.int 0 0,.int 0 0,.int 0 0,.int 0 0,.ref x3,.bool false,.int 181 0,.ref (x3+1),.none,.none,.none,.none,.int (x1+3) 0,.int x2 0,.str iU (x1+4)]),#[]⟩
noncomputable def o13:=g0 Ax 182 1 11
noncomputable def g1 (x0 x1:Nat)(x2:Str)(x3:Nat)(P:Params):Obj:=⟨(.type Bo),none,.plain,#[some (.ref x0),some (.ref 3),some (.ref x1),none,some (.str x2 x3),none,some (.ref 0)]⟩
noncomputable def o14:=g1 13 3 wC 164
noncomputable def hA (P:Params):Heap:=⟨⟨[boot_o_0 P,boot_o_1 P,boot_o_2 P,boot_o_3 P,boot_o_4 P,boot_o_5 P,boot_o_6 P,boot_o_7 P,boot_o_8 P,boot_o_9 P,boot_o_10 P,o11 P,o12 P,o13 P,o14 P]⟩,{ }⟩
noncomputable abbrev sA (w:World) (os:OsState):Shared:=⟨hA w.params,(Array.mk []),⟨0,0,0,0⟩,187,os⟩
noncomputable abbrev pA:Pos:=⟨0,0,0,0⟩
theorem pre (w:World):(fun os=>topGo treeTable pt w m0 an 12 (sZ w os) (topStub pt))=fun os=>some (sA w os,(⟨denote treeTable cE,cE,pA,B⟩:Thread)):=by
 rw [PySem.W.Fast.te15667345088766844465,PySem.W.Fast.te14364793385576792824,PySem.W.Fast.te11892475500146522536]; kernel_rfl
noncomputable def tB:Params→BT:=(f boot_o_0 (f boot_o_1 (f boot_o_3 (f boot_o_7 z z) (f o11 z z)) (f boot_o_5 (f boot_o_9 z z) (f o13 z z))) (f boot_o_2 (f boot_o_4 (f boot_o_8 z z) (f o12 z z)) (f boot_o_6 (f boot_o_10 z z) (f o14 z z))))
noncomputable abbrev sB (w:World) (os:OsState):SharedT:=⟨tB w.params,15,{ },(Array.mk []),⟨0,0,0,0⟩,187,os⟩
noncomputable abbrev pB:Pos:=⟨0,0,0,0⟩
theorem blk (w:World):(fun os=>segRun treeTable pt w m0 an 1 1 (sA w os) ⟨(blockStart (behindTheImports pt) en).wrap (fun _=>doneF .next) deadEnd id id,cE,pA,B⟩)=fun os=>some (.next,(sB w os).abs,cE,pB):=by
 rw [PySem.W.Fast.te14374325043358763698,PySem.W.Fast.te14364793385576792824,PySem.W.Fast.te1066825118222455980]; kernel_rfl
noncomputable def Bp (P:Params):Obj:=⟨(.type L0),none,(.dict #[e P S0 165 (.str lx 410),e P S2 166 .none,e P S3 167 .none,e P S4 168 (.builtin wU),e P S5 169 .none,e P wD 170 (.ref 6),e P wE 171 (.ref 4),e P wF 173 (.str iU 172),e P wG 174 .none,e P jD 193 (.ref 21),e P ig 213 (.ref 31),e P lz 229 (.ref 44),e P lA 245 (.ref 56),e P lB 261 (.ref 68),e P lC 277 (.ref 80),e P lD 293 (.ref 92),e P lE 309 (.ref 104),e P jE 319 (.ref 113),e P jF 326 (.ref 120),e P jG 333 (.ref 127),e P jH 341 (.ref 134),e P qX 345 (.str qY 344),e P qZ 347 (.str re 346),e P rf 348 (.ref 135),e P jI 363 (.ref 142),e P rg 367 (.int 4 366),e P jJ 377 (.ref 149),e P jK 391 (.ref 156),e P jL 399 (.ref 163),e P jM 405 (.ref 168),e P rh 407 (.str wH 406),e P rj 409 (.str rm 408),e P rn 413 (.str wI 412),e P rp 415 (.str wJ 414),e P jN 427 (.ref 175),e P jO 433 (.ref 180),e P jP 446 (.ref 187)] 37),#[]⟩
noncomputable def wV (P:Params):Obj:=⟨.none,none,(.fields #[.int 1 0,.int 0 0,.ref 20,.int 5 0,.int 0 0,.ref 27,.int 7 0,.int 0 0,.ref 40,.int 9 0,.int 0 0,.ref 52,.int 11 0,.int 0 0,.ref 64,.int 13 0,.int 0 0,.ref 76,.int 15 0,.int 0 0,.ref 88,.int 17 0,.int 0 0,.ref 100,.int 20 0,.int 0 0,.ref 112,.int 22 0,.int 0 0,.ref 119,.int 24 0,.int 0 0,.ref 126,.int 26 0,.int 0 0,.ref 133,.int 33 0,.int 0 0,.ref 141,.int 40 0,.int 0 0,.ref 148,.int 44 0,.int 0 0,.ref 155,.int 48 0,.int 0 0,.ref 162,.int 50 0,.int 0 0,.ref 167,.int 65 0,.int 0 0,.ref 174,.int 73 0,.int 0 0,.ref 179,.int 82 0,.int 0 0,.ref 186]),#[]⟩
noncomputable def g2 (x0:Str)(x1:Nat)(P:Params):Obj:=⟨(.type L68),none,(.seq #[.str x0 x1] 0),#[]⟩
noncomputable def o17:=g2 Ay 190
noncomputable def g3 (x0:Str)(x1:Nat)(P:Params):Obj:=⟨.none,none,(.func ⟨x0,x0,L2.defArgs (tp x1),(.stmts (L2.defBody (tp x1))),L2.defScope (tp x1),0,[],.none,.none,.none,.none,none,.none,.none,0⟩),#[]⟩
noncomputable def o19:=g3 jD 0
noncomputable def g4 (x0:Str)(x1:Nat)(x2:Str)(x3 x4 x5 x6:Nat)(P:Params):Obj:=⟨(.type rM),none,(.fields #[.str x0 x1,.str x2 (x1+1),.str iU (x1+2),.int x3 0,.int x4 0,.int 0 0,.int 0 0,.int 3 0,.ref x5,.bool true,.int 181 0,.ref (x5+1),.none,.ref (x5+2),.ref (x5+3),.ref (x5+4),.int x6 0,.int x3 0,.str iU (x6+1)]),#[]⟩
noncomputable def o20:=g4 jD 187 jD 1 1 15 191
noncomputable abbrev wW:=SL.s7174869446012820540x8
noncomputable def g5 (x0:Str)(x1:Nat)(x2:Str)(x3 x4:Nat)(P:Params):Obj:=⟨(.type wW),none,(.func ⟨x0,x0,L2.defArgs (tp x1),(.stmts (L2.defBody (tp x1))),L2.defScope (tp x1),3,[],.none,.none,.none,.str x2 x3,none,.ref x4,.none,0⟩),#[]⟩
noncomputable def o21:=g5 jD 0 wC 164 20
noncomputable def o22 (P:Params):Obj:=⟨(.type L68),none,(.seq #[.type L94] 0),#[]⟩
noncomputable abbrev wX:=SL.s11030030927630378310x26
noncomputable abbrev Bq:=SL.s10062305145149207511x16
noncomputable def o23 (P:Params):Obj:=⟨(.type wX),none,(.fields #[.builtin Bq,.type L69]),#[]⟩
noncomputable def g6 (x0:Nat)(x1:Str)(x2 x3:Nat)(P:Params):Obj:=⟨(.type L0),none,(.dict #[e P nO x0 (.str fV 194),e P wK (x0+2) (.str x1 (x0+1)),e P nP (x0+4) (.int x2 (x0+3)),e P nQ (x0+5) (.ref x3)] 4),#[]⟩
noncomputable def o24:=g6 203 ig 5 29
noncomputable def o27:=g0 ig 198 5 25
noncomputable def o28:=g1 27 24 fV 194
noncomputable def o30 (P:Params):Obj:=⟨(.type L0),none,(.dict #[e P nO 203 (.str fV 194),e P nP 207 (.int 5 206),e P nQ 208 (.ref 29),e P rq 210 (.ref 32),e P S2 211 .none] 3),#[]⟩
noncomputable abbrev wY:=SL.s4209523147560561109x18
noncomputable def o31 (P:Params):Obj:=⟨(.type L69),none,(.cls ⟨ig,[.type L94],[.ref 31,.type L94,.type L73,.type L71,.type L60],30,ig,true,[],[.ref 44,.ref 56,.ref 68,.ref 80,.ref 92,.ref 104],false,none,false⟩),#[some (.ref 22),none,some (.str ig 196),some (.str ig 204),some (.builtin wY),some (.bool true)]⟩
noncomputable abbrev wZ:=SL.s14755015743595814543x17
noncomputable abbrev Br:=SL.s10220274742760427390x26
noncomputable def g7 (x0 x1:Nat)(P:Params):Obj:=⟨(.type wZ),none,(.fields #[.str rq x0,.ref x1,.builtin Br,.none]),#[]⟩
noncomputable def o32:=g7 209 31
noncomputable def g8 (x0:Nat)(P:Params):Obj:=⟨(.type L67),none,(.fields #[.ref x0,.ref x0,.ref x0]),#[]⟩
noncomputable def o33:=g8 31
noncomputable abbrev Bs:=SL.s4860613602091757760x24
noncomputable def g9 (x0:Nat)(P:Params):Obj:=⟨(.type wX),none,(.fields #[.builtin Bs,.ref x0]),#[]⟩
noncomputable def o34:=g9 31
noncomputable def o35 (P:Params):Obj:=⟨(.type L68),none,(.seq #[.ref 31] 0),#[]⟩
noncomputable def o37:=g6 221 lz 7 42
noncomputable def o40:=g0 lz 216 7 38
noncomputable def o41:=g1 40 37 fV 194
noncomputable def g10 (x0 x1 x2:Nat)(P:Params):Obj:=⟨(.type L0),none,(.dict #[e P nO x0 (.str fV 194),e P nP (x0+4) (.int x1 (x0+3)),e P nQ (x0+5) (.ref x2),e P S2 (x0+6) .none] 2),#[]⟩
noncomputable def o43:=g10 221 7 42
noncomputable def g11 (x0:Str)(x1 x2 x3 x4:Nat)(P:Params):Obj:=⟨(.type L69),none,(.cls ⟨x0,[.ref 31],[.ref x1,.ref 31,.type L94,.type L73,.type L71,.type L60],x2,x0,true,[],[],false,none,false⟩),#[some (.ref x3),none,some (.str x0 x4),some (.str x0 (x4+8)),some (.builtin wY),some (.bool true)]⟩
noncomputable def o44:=g11 lz 44 43 35 214
noncomputable def o45:=g8 44
noncomputable def o46:=g9 44
noncomputable def o49:=g6 237 lA 9 54
noncomputable def o52:=g0 lA 232 9 50
noncomputable def o53:=g1 52 49 fV 194
noncomputable def o55:=g10 237 9 54
noncomputable def o56:=g11 lA 56 55 47 230
noncomputable def o57:=g8 56
noncomputable def o58:=g9 56
noncomputable def o61:=g6 253 lB 11 66
noncomputable def o64:=g0 lB 248 11 62
noncomputable def o65:=g1 64 61 fV 194
noncomputable def o67:=g10 253 11 66
noncomputable def o68:=g11 lB 68 67 59 246
noncomputable def o69:=g8 68
noncomputable def o70:=g9 68
noncomputable def o73:=g6 269 lC 13 78
noncomputable def o76:=g0 lC 264 13 74
noncomputable def o77:=g1 76 73 fV 194
noncomputable def o79:=g10 269 13 78
noncomputable def o80:=g11 lC 80 79 71 262
noncomputable def o81:=g8 80
noncomputable def o82:=g9 80
noncomputable def o85:=g6 285 lD 15 90
noncomputable def o88:=g0 lD 280 15 86
noncomputable def o89:=g1 88 85 fV 194
noncomputable def o91:=g10 285 15 90
noncomputable def o92:=g11 lD 92 91 83 278
noncomputable def o93:=g8 92
noncomputable def o94:=g9 92
noncomputable def o97:=g6 301 lE 17 102
noncomputable def rN:=g0 lE 296 17 98
noncomputable def rO:=g1 100 97 fV 194
noncomputable def rP:=g10 301 17 102
noncomputable def rQ:=g11 lE 104 103 95 294
noncomputable def rR:=g8 104
noncomputable def rS:=g9 104
noncomputable def g12 (x0:Str)(x1:Nat)(x2:Str)(x3:Nat)(P:Params):Obj:=⟨(.type L68),none,(.seq #[.str x0 x1,.str x2 x3] 0),#[]⟩
noncomputable def rT:=g12 nR 315 Az 316
noncomputable def rU:=g3 jE 10
noncomputable def rV:=g4 jE 312 jE 20 2 107 317
noncomputable def rW:=g5 jE 10 pK 310 112
noncomputable def rX:=g2 nR 323
noncomputable def rY:=g3 jF 11
noncomputable def rZ:=g4 jF 320 jF 22 1 114 324
noncomputable def se:=g5 jF 11 pK 310 119
noncomputable def sf:=g2 nR 330
noncomputable def si:=g3 jG 12
noncomputable def sj:=g4 jG 327 jG 24 1 121 331
noncomputable def sk:=g5 jG 12 pK 310 126
noncomputable def sn:=g12 nS 337 nT 338
noncomputable def sr:=g3 jH 13
noncomputable def su:=g4 jH 334 jH 26 2 128 339
noncomputable def sv:=g5 jH 13 pK 310 133
noncomputable def sy:=g12 qY 344 re 346
noncomputable def sC (P:Params):Obj:=⟨(.type L68),none,(.seq #[.str pM 352,.str nS 353,.str nT 354,.str lF 355,.str nU 356,.str pN 357,.str pO 358,.str AA 359,.str AB 360] 0),#[]⟩
noncomputable def sD:=g3 jI 18
noncomputable def sE:=g4 jI 349 jI 33 7 136 361
noncomputable def sG:=g5 jI 18 AE 342 141
noncomputable def g13 (x0:Str)(x1:Nat)(x2 x3 x4:Str)(P:Params):Obj:=⟨(.type L68),none,(.seq #[.str x0 x1,.str x2 (x1+1),.str x3 (x1+2),.str x4 (x1+3)] 0),#[]⟩
noncomputable def sH:=g13 pM 371 nS nT nR
noncomputable def sI:=g3 jJ 21
noncomputable def sJ:=g4 jJ 368 jJ 40 4 143 375
noncomputable def sK:=g5 jJ 21 pP 364 148
noncomputable def sM (P:Params):Obj:=⟨(.type L68),none,(.seq #[.str pM 381,.str rm 382,.str lF 383,.str nU 384,.str pN 385,.str pO 386,.str nS 387,.str nT 388] 0),#[]⟩
noncomputable def sN:=g3 jK 22
noncomputable def sO:=g4 jK 378 jK 44 2 150 389
noncomputable def sP:=g5 jK 22 pP 364 155
noncomputable def sQ:=g12 AF 395 AG 396
noncomputable def sR:=g3 jL 23
noncomputable def sS:=g4 jL 392 jL 48 2 157 397
noncomputable def sT:=g5 jL 23 pP 364 162
noncomputable def sU:=g3 jM 24
noncomputable def g14 (x0:Str)(x1:Nat)(x2:Str)(x3 x4 x5:Nat)(P:Params):Obj:=⟨(.type rM),none,(.fields #[.str x0 x1,.str x2 (x1+1),.str iU (x1+2),.int x3 0,.int x4 0,.int 0 0,.int 0 0,.int 3 0,.ref x5,.bool true,.int 181 0,.ref (x5+1),.none,.none,.none,.ref (x5+2),.int (x1+3) 0,.int x3 0,.str iU (x1+4)]),#[]⟩
noncomputable def sV:=g14 jM 400 jM 50 4 164
noncomputable def sW:=g5 jM 24 pP 364 167
noncomputable def g15 (x0:Str)(x1:Nat)(x2 x3 x4 x5 x6:Str)(P:Params):Obj:=⟨(.type L68),none,(.seq #[.str x0 x1,.str x2 (x1+1),.str x3 (x1+2),.str x4 (x1+3),.str x5 (x1+4),.str x6 (x1+5)] 0),#[]⟩
noncomputable def sX:=g15 lG 419 AH AI AJ AK AL
noncomputable def sY:=g3 jN 30
noncomputable def tf:=g4 jN 416 jN 65 2 169 425
noncomputable def tj:=g5 jN 30 lx 410 174
noncomputable def tq:=g3 jO 31
noncomputable def tw:=g14 jO 428 jO 73 2 176
noncomputable def tD:=g5 jO 31 lx 410 179
noncomputable def g16 (x0:Str)(x1:Nat)(x2 x3 x4 x5 x6 x7:Str)(P:Params):Obj:=⟨(.type L68),none,(.seq #[.str x0 x1,.str x2 (x1+1),.str x3 (x1+2),.str x4 (x1+3),.str x5 (x1+4),.str x6 (x1+5),.str x7 (x1+6)] 0),#[]⟩
noncomputable def tE:=g16 pN 437 pO wL lF nU AM AN
noncomputable def tF:=g3 jP 32
noncomputable def tG:=g4 jP 434 jP 82 3 181 444
noncomputable def tH:=g5 jP 32 lx 410 186
noncomputable def t0:Params→BT:=(f boot_o_0 (f boot_o_1 (f Bp (f boot_o_7 (f o11 (f o31 (f o12 (f sk z z) z) (f o35 (f sQ z z) z)) (f o35 (f o79 (f o11 z z) z) (f rU (f tj z z) z))) (f o23 (f o12 (f o35 (f sy z z) z) (f rP (f sV z z) z)) (f o55 (f o12 (f o12 z z) z) (f rZ (f tE z z) z)))) (f o11 (f o19 (f o35 (f o67 (f o11 z z) z) (f o12 (f sT z z) z)) (f o12 (f o35 (f sI z z) z) (f o12 (f tw z z) z))) (f o27 (f o43 (f o12 (f o11 z z) z) (f o11 (f sX z z) z)) (f o35 (f o91 (f sO z z) z) (f sf (f tH z z) z))))) (f boot_o_5 (f boot_o_9 (f o17 (f o33 (f o65 (f o12 z z) z) (f o97 (f sR z z) z)) (f o49 (f o81 (f sH z z) z) (f rW (f o12 z z) z))) (f o11 (f o41 (f o73 (f o12 z z) z) (f rR (f o11 z z) z)) (f o57 (f o89 (f o11 z z) z) (f o11 (f tF z z) z)))) (f o13 (f o21 (f o37 (f o69 (f su z z) z) (f rO (f o12 z z) z)) (f o53 (f o85 (f sK z z) z) (f o11 (f o11 z z) z))) (f o11 (f o45 (f o77 (f sE z z) z) (f rT (f sY z z) z)) (f o61 (f o93 (f o11 z z) z) (f si z z)))))) (f boot_o_2 (f boot_o_4 (f boot_o_8 (f o12 (f o32 (f o64 (f o11 z z) z) (f o23 (f o11 z z) z)) (f o23 (f o80 (f o12 z z) z) (f rV (f o11 z z) z))) (f o24 (f o40 (f o23 (f o11 z z) z) (f rQ (f sW z z) z)) (f o56 (f o88 (f sM z z) z) (f se (f o11 z z) z)))) (f wV (f o20 (f o23 (f o68 (f sr z z) z) (f rN (f o11 z z) z)) (f o52 (f o23 (f sJ z z) z) (f rX (f tD z z) z))) (f o28 (f o44 (f o76 (f sD z z) z) (f o12 (f o11 z z) z)) (f o23 (f o92 (f sP z z) z) (f o11 z z))))) (f boot_o_6 (f boot_o_10 (f o11 (f o34 (f o11 (f sn z z) z) (f o11 (f sS z z) z)) (f o11 (f o82 (f o11 z z) z) (f o11 (f tq z z) z))) (f o12 (f o11 (f o11 (f sC z z) z) (f rS (f o12 z z) z)) (f o58 (f o11 (f sN z z) z) (f o12 (f tG z z) z)))) (f o14 (f o22 (f o11 (f o70 (f sv z z) z) (f o11 (f sU z z) z)) (f o11 (f o11 (f o11 z z) z) (f rY (f o12 z z) z))) (f o30 (f o46 (f o11 (f sG z z) z) (f o11 (f tf z z) z)) (f o11 (f o94 (f o12 z z) z) (f sj z z)))))))
noncomputable abbrev s0 (w:World) (os:OsState):SharedT:=⟨t0 w.params,188,{ },(Array.mk []),⟨0,0,0,0⟩,447,os⟩
noncomputable abbrev p0:Pos:=⟨82,0,86,58⟩
noncomputable abbrev st0:List Stmt:=(pt.main.body.drop 0).take 33
theorem q0 (w:World):(fun os=>segRunT treeTable pt w m0 an 1 1990 (sB w os) ⟨(execs st0 en).wrap doneF deadEnd id id,cE,pB,B⟩)=fun os=>some (.next,s0 w os,cE,p0):=by
 rw [PySem.W.Fast.te10110043849684766642,PySem.W.Fast.te14364793385576792824,PySem.W.Fast.te12563942051412417395]; kernel_rfl
noncomputable def xa (P:Params):Obj:=⟨(.type L0),none,(.dict #[e P S0 165 (.str cC 570),e P S2 166 .none,e P S3 167 .none,e P S4 168 (.builtin wU),e P S5 169 .none,e P wD 170 (.ref 6),e P wE 171 (.ref 4),e P wF 173 (.str iU 172),e P wG 174 .none,e P jD 193 (.ref 21),e P ig 213 (.ref 31),e P lz 229 (.ref 44),e P lA 245 (.ref 56),e P lB 261 (.ref 68),e P lC 277 (.ref 80),e P lD 293 (.ref 92),e P lE 309 (.ref 104),e P jE 319 (.ref 113),e P jF 326 (.ref 120),e P jG 333 (.ref 127),e P jH 341 (.ref 134),e P qX 345 (.str qY 344),e P qZ 347 (.str re 346),e P rf 348 (.ref 135),e P jI 363 (.ref 142),e P rg 367 (.int 4 366),e P jJ 377 (.ref 149),e P jK 391 (.ref 156),e P jL 399 (.ref 163),e P jM 405 (.ref 168),e P rh 407 (.str wH 406),e P rj 409 (.str rm 408),e P rn 413 (.str wI 412),e P rp 415 (.str wJ 414),e P jN 427 (.ref 175),e P jO 433 (.ref 180),e P jP 446 (.ref 187),e P lH 464 (.ref 194),e P lI 470 (.ref 199),e P wM 474 (.int 8 473),e P wN 476 (.int 5 475),e P lJ 488 (.ref 206),e P lK 495 (.ref 213),e P iV 569 (.ref 268),e P lL 579 (.ref 279),e P lM 587 (.ref 286),e P lN 596 (.ref 293),e P lO 604 (.ref 300),e P lP 613 (.ref 307),e P lQ 621 (.ref 314),e P lR 634 (.ref 321),e P lS 645 (.ref 328),e P lT 655 (.ref 335),e P lU 664 (.ref 342),e P lV 672 (.ref 349),e P lW 678 (.ref 354),e P lX 698 (.ref 361),e P lY 704 (.ref 366),e P lZ 714 (.ref 373),e P ma 720 (.ref 378),e P md 726 (.ref 383),e P me 732 (.ref 388),e P mf 738 (.ref 393),e P nV 744 (.ref 398)] 64),#[]⟩
noncomputable def qi (P:Params):Obj:=⟨.none,none,(.fields #[.int 1 0,.int 0 0,.ref 20,.int 5 0,.int 0 0,.ref 27,.int 7 0,.int 0 0,.ref 40,.int 9 0,.int 0 0,.ref 52,.int 11 0,.int 0 0,.ref 64,.int 13 0,.int 0 0,.ref 76,.int 15 0,.int 0 0,.ref 88,.int 17 0,.int 0 0,.ref 100,.int 20 0,.int 0 0,.ref 112,.int 22 0,.int 0 0,.ref 119,.int 24 0,.int 0 0,.ref 126,.int 26 0,.int 0 0,.ref 133,.int 33 0,.int 0 0,.ref 141,.int 40 0,.int 0 0,.ref 148,.int 44 0,.int 0 0,.ref 155,.int 48 0,.int 0 0,.ref 162,.int 50 0,.int 0 0,.ref 167,.int 65 0,.int 0 0,.ref 174,.int 73 0,.int 0 0,.ref 179,.int 82 0,.int 0 0,.ref 186,.int 87 0,.int 0 0,.ref 193,.int 102 0,.int 0 0,.ref 198,.int 109 0,.int 0 0,.ref 205,.int 116 0,.int 0 0,.ref 212,.int 118 0,.int 0 0,.ref 219,.int 156 0,.int 0 0,.ref 278,.int 160 0,.int 0 0,.ref 285,.int 162 0,.int 0 0,.ref 292,.int 169 0,.int 0 0,.ref 299,.int 172 0,.int 0 0,.ref 306,.int 176 0,.int 0 0,.ref 313,.int 179 0,.int 0 0,.ref 320,.int 187 0,.int 0 0,.ref 327,.int 190 0,.int 0 0,.ref 334,.int 197 0,.int 0 0,.ref 341,.int 200 0,.int 0 0,.ref 348,.int 202 0,.int 0 0,.ref 353,.int 207 0,.int 0 0,.ref 360,.int 221 0,.int 0 0,.ref 365,.int 231 0,.int 0 0,.ref 372,.int 236 0,.int 0 0,.ref 377,.int 238 0,.int 0 0,.ref 382,.int 240 0,.int 0 0,.ref 387,.int 242 0,.int 0 0,.ref 392,.int 255 0,.int 0 0,.ref 397]),#[]⟩
noncomputable def xb (P:Params):Obj:=⟨(.type L68),none,(.seq #[.str pM 450,.str pN 451,.str pO 452,.str wL 453,.str AO 454,.str AQ 455,.str AR 456,.str AS 457,.str AT 458,.str AU 459,.str AV 460,.str AW 461] 0),#[]⟩
noncomputable def xc:=g3 lH 33
noncomputable def xf:=g4 lH 447 lH 87 4 188 462
noncomputable def xg:=g5 lH 33 lx 410 193
noncomputable def xh:=g3 lI 34
noncomputable def xi:=g14 lI 465 lI 102 4 195
noncomputable def xj:=g5 lI 34 lx 410 198
noncomputable def xk:=g15 nR 480 nS nT AX mh AY
noncomputable def xl:=g3 lJ 38
noncomputable def xm:=g4 lJ 477 lJ 109 1 200 486
noncomputable def xn:=g5 lJ 38 mi 471 205
noncomputable def xo:=g2 lF 492
noncomputable def xq:=g3 lK 39
noncomputable def xt:=g4 lK 489 lK 116 1 207 493
noncomputable def xu:=g5 lK 39 mi 471 212
noncomputable def xw (P:Params):Obj:=⟨(.type L0),none,(.dict #[e P nO 503 (.str mi 471),e P wK 505 (.str iV 504),e P nP 507 (.int 118 506),e P nW 513 (.ref 225),e P lG 520 (.ref 232),e P nX 527 (.ref 239),e P mh 533 (.ref 244),e P nY 540 (.ref 251),e P nZ 549 (.ref 258),e P oa 559 (.ref 265),e P nQ 562 (.ref 266)] 11),#[]⟩
noncomputable def xy (P:Params):Obj:=⟨.none,none,(.fields #[.int 120 0,.int 4 0,.ref 224,.int 131 0,.int 4 0,.ref 231,.int 134 0,.int 4 0,.ref 238,.int 137 0,.int 4 0,.ref 243,.int 140 0,.int 4 0,.ref 250,.int 143 0,.int 4 0,.ref 257,.int 148 0,.int 4 0,.ref 264]),#[]⟩
noncomputable def xz:=g0 iV 498 118 217
noncomputable def xA:=g1 219 216 mi 471
noncomputable def g17 (x0 x1:Str)(x2:Nat)(P:Params):Obj:=⟨.none,none,(.func ⟨x0,x1,L2.defArgs (L2.inClass (tp 40) x2),(.stmts (L2.defBody (L2.inClass (tp 40) x2))),L2.defScope (L2.inClass (tp 40) x2),0,[],.none,.none,.none,.none,none,.none,.none,0⟩),#[]⟩
noncomputable def xB:=g17 nW rz 0
noncomputable def xC:=g14 nW 508 rz 120 3 221
noncomputable def g18 (x0 x1:Str)(x2 x3:Nat)(P:Params):Obj:=⟨(.type wW),none,(.func ⟨x0,x1,L2.defArgs (L2.inClass (tp 40) x2),(.stmts (L2.defBody (L2.inClass (tp 40) x2))),L2.defScope (L2.inClass (tp 40) x2),3,[],.none,.none,.none,.str mi 471,none,.ref x3,.none,0⟩),#[]⟩
noncomputable def xD:=g18 nW rz 0 224
noncomputable def xE:=g2 oe 517
noncomputable def xF:=g17 lG rA 1
noncomputable def xG:=g4 lG 514 rA 131 1 226 518
noncomputable def xH:=g18 lG rA 1 231
noncomputable def xI:=g2 oe 524
noncomputable def xJ:=g17 nX rB 2
noncomputable def xK:=g4 nX 521 rB 134 1 233 525
noncomputable def xL:=g18 nX rB 2 238
noncomputable def xM:=g17 mh rC 3
noncomputable def xN:=g14 mh 528 rC 137 1 240
noncomputable def xO:=g18 mh rC 3 243
noncomputable def xP:=g2 oe 537
noncomputable def xQ:=g17 nY rD 4
noncomputable def xR:=g4 nY 534 rD 140 1 245 538
noncomputable def xS:=g18 nY rD 4 250
noncomputable def g19 (x0:Str)(x1:Nat)(x2 x3:Str)(P:Params):Obj:=⟨(.type L68),none,(.seq #[.str x0 x1,.str x2 (x1+1),.str x3 (x1+2)] 0),#[]⟩
noncomputable def xT:=g19 oe 544 lF nU
noncomputable def xU:=g17 nZ rE 5
noncomputable def xV:=g4 nZ 541 rE 143 3 252 547
noncomputable def xW:=g18 nZ rE 5 257
noncomputable def xX:=g13 oe 553 lF nU AZ
noncomputable def xY:=g17 oa rF 6
noncomputable def xZ:=g4 oa 550 rF 148 3 259 557
noncomputable def ya:=g18 oa rF 6 264
noncomputable def yb:=g12 Ba 560 Bb 561
noncomputable def yc (P:Params):Obj:=⟨(.type L0),none,(.dict #[e P nO 503 (.str mi 471),e P nP 507 (.int 118 506),e P nW 513 (.ref 225),e P lG 520 (.ref 232),e P nX 527 (.ref 239),e P mh 533 (.ref 244),e P nY 540 (.ref 251),e P nZ 549 (.ref 258),e P oa 559 (.ref 265),e P nQ 562 (.ref 266),e P wO 564 (.ref 269),e P rq 566 (.ref 270),e P S2 567 .none] 4),#[]⟩
noncomputable abbrev Bt:=SL.s11443829558043349243x14
noncomputable def yd (P:Params):Obj:=⟨(.type L69),none,(.cls ⟨iV,[.type L60],[.ref 268,.type L60],267,iV,true,[],[],false,none,false⟩),#[none,none,some (.str iV 496),some (.str iV 504),some (.builtin Bt),some (.bool true)]⟩
noncomputable abbrev Bu:=SL.s6511155373996960695x17
noncomputable abbrev Bv:=SL.s12411053484034534018x21
noncomputable def ye (P:Params):Obj:=⟨(.type wZ),none,(.fields #[.str wO 563,.ref 268,.builtin Bu,.builtin Bv]),#[]⟩
noncomputable def yf:=g7 565 268
noncomputable def yg:=g8 268
noncomputable def yh:=g9 268
noncomputable def yi:=g12 Bc 575 og 576
noncomputable def yj:=g3 lL 42
noncomputable def yk:=g4 lL 572 lL 156 2 273 577
noncomputable def ym:=g5 lL 42 cC 570 278
noncomputable def yn:=g12 Bd 583 og 584
noncomputable def yo:=g3 lM 43
noncomputable def yp:=g4 lM 580 lM 160 2 280 585
noncomputable def yq:=g5 lM 43 cC 570 285
noncomputable def yr:=g19 jQ 591 wP Be
noncomputable def yt:=g3 lN 44
noncomputable def yu:=g4 lN 588 lN 162 2 287 594
noncomputable def yw:=g5 lN 44 cC 570 292
noncomputable def yx:=g12 jQ 600 rG 601
noncomputable def yz:=g3 lO 45
noncomputable def yA:=g4 lO 597 lO 169 1 294 602
noncomputable def yB:=g5 lO 45 cC 570 299
noncomputable def yC:=g19 jQ 608 wQ Bf
noncomputable def yD:=g3 lP 46
noncomputable def yE:=g4 lP 605 lP 172 3 301 611
noncomputable def yF:=g5 lP 46 cC 570 306
noncomputable def yG:=g12 jQ 617 rG 618
noncomputable def yH:=g3 lQ 47
noncomputable def yI:=g4 lQ 614 lQ 176 1 308 619
noncomputable def yJ:=g5 lQ 47 cC 570 313
noncomputable def yK:=g16 jQ 625 wQ Bg Bh og rH rJ
noncomputable def yL:=g3 lR 48
noncomputable def yM:=g4 lR 622 lR 179 2 315 632
noncomputable def yN:=g5 lR 48 cC 570 320
noncomputable def yO (P:Params):Obj:=⟨(.type L68),none,(.seq #[.str pQ 638,.str rK 639,.str wR 640,.str rH 641,.str rJ 642] 0),#[]⟩
noncomputable def yP:=g3 lS 49
noncomputable def yQ:=g4 lS 635 lS 187 3 322 643
noncomputable def yR:=g5 lS 49 cC 570 327
noncomputable def yS:=g13 pQ 649 rL og rK
noncomputable def yT:=g3 lT 50
noncomputable def yU:=g4 lT 646 lT 190 1 329 653
noncomputable def yV:=g5 lT 50 cC 570 334
noncomputable def yW:=g19 pQ 659 wS Bi
noncomputable def yX:=g3 lU 51
noncomputable def yY:=g4 lU 656 lU 197 2 336 662
noncomputable def yZ:=g5 lU 51 cC 570 341
noncomputable def za:=g12 Bj 668 Bk 669
noncomputable def zb:=g3 lV 52
noncomputable def zc:=g4 lV 665 lV 200 2 343 670
noncomputable def zd:=g5 lV 52 cC 570 348
noncomputable def zf:=g3 lW 53
noncomputable def zg:=g14 lW 673 lW 202 5 350
noncomputable def zh:=g5 lW 53 cC 570 353
noncomputable def zi (P:Params):Obj:=⟨(.type L68),none,(.seq #[.str jQ 682,.str pQ 683,.str rH 684,.str rJ 685,.str wT 686,.str wP 687,.str rG 688,.str rL 689,.str og 690,.str rK 691,.str wR 692,.str Bl 693,.str Bm 694,.str Bn 695] 0),#[]⟩
noncomputable def zj:=g3 lX 54
noncomputable def zk:=g4 lX 679 lX 207 6 355 696
noncomputable def zm:=g5 lX 54 cC 570 360
noncomputable def zn:=g3 lY 55
noncomputable def zo:=g14 lY 699 lY 221 4 362
noncomputable def zp:=g5 lY 55 cC 570 365
noncomputable def zr:=g13 jQ 708 wT rL wS
noncomputable def zu:=g3 lZ 56
noncomputable def zv:=g4 lZ 705 lZ 231 2 367 712
noncomputable def zw:=g5 lZ 56 cC 570 372
noncomputable def zx:=g3 ma 57
noncomputable def zy:=g14 ma 715 ma 236 1 374
noncomputable def zA:=g5 ma 57 cC 570 377
noncomputable def zB:=g3 md 58
noncomputable def zC:=g14 md 721 md 238 2 379
noncomputable def zD:=g5 md 58 cC 570 382
noncomputable def zE:=g3 me 59
noncomputable def zF:=g14 me 727 me 240 3 384
noncomputable def zG:=g5 me 59 cC 570 387
noncomputable def zH:=g3 mf 60
noncomputable def zI:=g14 mf 733 mf 242 6 389
noncomputable def zJ:=g5 mf 60 cC 570 392
noncomputable def zK:=g3 nV 61
noncomputable def zL:=g14 nV 739 nV 255 1 394
noncomputable def zM:=g5 nV 61 cC 570 397
noncomputable def t1:Params→BT:=(f boot_o_0 (f boot_o_1 (f xa (f boot_o_7 (f o11 (f o31 (f o12 (f sk (f o11 z z) (f zD z z)) (f o11 (f yL z z) z)) (f o35 (f sQ (f o11 z z) z) (f xB (f o12 z z) z))) (f o35 (f o79 (f o11 (f yg z z) z) (f o11 (f yV z z) z)) (f rU (f tj (f yC z z) z) (f xL (f o11 z z) z)))) (f o23 (f o12 (f o35 (f sy (f xY z z) (f zH z z)) (f xj (f yQ z z) z)) (f rP (f sV (f o12 z z) z) (f xG (f zj z z) z))) (f o55 (f o12 (f o12 (f ym z z) z) (f o23 (f o11 z z) z)) (f rZ (f tE (f o11 z z) z) (f xP (f o12 z z) z))))) (f o11 (f o19 (f o35 (f o67 (f o11 (f o11 z z) (f zF z z)) (f o11 (f o12 z z) z)) (f o12 (f sT (f yt z z) z) (f o12 (f o11 z z) z))) (f o12 (f o35 (f sI (f yi z z) z) (f xq (f o11 z z) z)) (f o12 (f tw (f yF z z) z) (f xN (f zu z z) z)))) (f o27 (f o43 (f o12 (f o11 (f yc z z) (f o12 z z)) (f o11 (f yS z z) z)) (f o11 (f sX (f yA z z) z) (f xI (f o12 z z) z))) (f o35 (f o91 (f sO (f o11 z z) z) (f xz (f zb z z) z)) (f sf (f tH (f o11 z z) z) (f xS (f o11 z z) z)))))) (f boot_o_5 (f boot_o_9 (f o17 (f o33 (f o65 (f o12 (f xV z z) (f o12 z z)) (f xf (f yN z z) z)) (f o97 (f sR (f yr z z) z) (f xD (f zg z z) z))) (f o49 (f o81 (f sH (f o11 z z) z) (f xo (f o12 z z) z)) (f rW (f o12 (f yD z z) z) (f o12 (f zr z z) z)))) (f o11 (f o41 (f o73 (f o12 (f ya z z) (f zJ z z)) (f o12 (f o11 z z) z)) (f rR (f o11 (f o11 z z) z) (f o11 (f zm z z) z))) (f o57 (f o89 (f o11 (f o12 z z) z) (f o11 (f za z z) z)) (f o11 (f tF (f yI z z) z) (f xQ (f zy z z) z))))) (f o13 (f o21 (f o37 (f o69 (f su (f xX z z) (f o11 z z)) (f xh (f o11 z z) z)) (f rO (f o12 (f yw z z) z) (f o11 (f zi z z) z))) (f o53 (f o85 (f sK (f yj z z) z) (f xu (f yY z z) z)) (f o11 (f o11 (f o12 z z) z) (f o11 (f zw z z) z)))) (f o11 (f o45 (f o77 (f sE (f ye z z) (f zL z z)) (f xm (f yT z z) z)) (f rT (f sY (f o11 z z) z) (f xJ (f zo z z) z))) (f o61 (f o93 (f o11 (f yp z z) z) (f o11 (f zd z z) z)) (f si (f o12 (f yK z z) z) (f o12 (f zB z z) z))))))) (f boot_o_2 (f boot_o_4 (f boot_o_8 (f o12 (f o32 (f o64 (f o11 (f xU z z) (f o11 z z)) (f xc (f yM z z) z)) (f o23 (f o11 (f o12 z z) z) (f xC (f zf z z) z))) (f o23 (f o80 (f o12 (f yh z z) z) (f o12 (f o11 z z) z)) (f rV (f o11 (f o11 z z) z) (f o11 (f o12 z z) z)))) (f o24 (f o40 (f o23 (f o11 (f xZ z z) (f zI z z)) (f o11 (f yR z z) z)) (f rQ (f sW (f yx z z) z) (f xH (f zk z z) z))) (f o56 (f o88 (f sM (f o11 z z) z) (f xw (f o12 z z) z)) (f se (f o11 (f yH z z) z) (f o11 (f zx z z) z))))) (f qi (f o20 (f o23 (f o68 (f sr (f o12 z z) (f zG z z)) (f o12 (f yO z z) z)) (f rN (f o11 (f yu z z) z) (f xE (f o12 z z) z))) (f o52 (f o23 (f sJ (f o11 z z) z) (f xt (f yX z z) z)) (f rX (f tD (f o11 z z) z) (f xO (f zv z z) z)))) (f o28 (f o44 (f o76 (f sD (f yd z z) (f zK z z)) (f xl (f o11 z z) z)) (f o12 (f o11 (f yB z z) z) (f o11 (f zn z z) z))) (f o23 (f o92 (f sP (f yo z z) z) (f xA (f zc z z) z)) (f o11 (f o11 (f o12 z z) z) (f o11 (f o12 z z) z)))))) (f boot_o_6 (f boot_o_10 (f o11 (f o34 (f o11 (f sn (f xW z z) (f zE z z)) (f xg (f o11 z z) z)) (f o11 (f sS (f o11 z z) z) (f o11 (f zh z z) z))) (f o11 (f o82 (f o11 (f o12 z z) z) (f o11 (f yW z z) z)) (f o11 (f tq (f yE z z) z) (f xM (f o11 z z) z)))) (f o12 (f o11 (f o11 (f sC (f yb z z) (f o11 z z)) (f xk (f o12 z z) z)) (f rS (f o12 (f yz z z) z) (f o12 (f o11 z z) z))) (f o58 (f o11 (f sN (f yn z z) z) (f xy (f o11 z z) z)) (f o12 (f tG (f yJ z z) z) (f xR (f zA z z) z))))) (f o14 (f o22 (f o11 (f o70 (f sv (f o11 z z) (f o12 z z)) (f xi (f yP z z) z)) (f o11 (f sU (f o11 z z) z) (f xF (f o11 z z) z))) (f o11 (f o11 (f o11 (f yk z z) z) (f o11 (f yZ z z) z)) (f rY (f o12 (f yG z z) z) (f o12 (f o11 z z) z)))) (f o30 (f o46 (f o11 (f sG (f yf z z) (f zM z z)) (f xn (f yU z z) z)) (f o11 (f tf (f o12 z z) z) (f xK (f zp z z) z))) (f o11 (f o94 (f o12 (f yq z z) z) (f o12 (f o11 z z) z)) (f sj (f xb (f o11 z z) z) (f xT (f zC z z) z))))))))
noncomputable abbrev s1 (w:World) (os:OsState):SharedT:=⟨t1 w.params,399,{ },(Array.mk []),⟨0,0,0,0⟩,745,os⟩
noncomputable abbrev p1:Pos:=⟨255,0,275,15⟩
noncomputable abbrev st1:List Stmt:=(pt.main.body.drop 33).take 29
theorem q1 (w:World):(fun os=>segRunT treeTable pt w m0 an 1 1172 (s0 w os) ⟨(execs st1 en).wrap doneF deadEnd id id,cE,p0,B⟩)=fun os=>some (.next,s1 w os,cE,p1):=by
 rw [PySem.W.Fast.te10110043849684766642,PySem.W.Fast.te14364793385576792824,PySem.W.Fast.te12563942051412417395]; kernel_rfl
noncomputable def hF (P:Params):Heap:=⟨⟨[boot_o_0 P,boot_o_1 P,boot_o_2 P,xa P,boot_o_4 P,boot_o_5 P,boot_o_6 P,boot_o_7 P,boot_o_8 P,boot_o_9 P,boot_o_10 P,o11 P,qi P,o13 P,o14 P,o11 P,o12 P,o17 P,o11 P,o19 P,o20 P,o21 P,o22 P,o23 P,o24 P,o11 P,o12 P,o27 P,o28 P,o11 P,o30 P,o31 P,o32 P,o33 P,o34 P,o35 P,o23 P,o37 P,o11 P,o12 P,o40 P,o41 P,o11 P,o43 P,o44 P,o45 P,o46 P,o35 P,o23 P,o49 P,o11 P,o12 P,o52 P,o53 P,o11 P,o55 P,o56 P,o57 P,o58 P,o35 P,o23 P,o61 P,o11 P,o12 P,o64 P,o65 P,o11 P,o67 P,o68 P,o69 P,o70 P,o35 P,o23 P,o73 P,o11 P,o12 P,o76 P,o77 P,o11 P,o79 P,o80 P,o81 P,o82 P,o35 P,o23 P,o85 P,o11 P,o12 P,o88 P,o89 P,o11 P,o91 P,o92 P,o93 P,o94 P,o35 P,o23 P,o97 P,o11 P,o12 P,rN P,rO P,o11 P,rP P,rQ P,rR P,rS P,o11 P,o12 P,rT P,o11 P,rU P,rV P,rW P,o11 P,o12 P,rX P,o11 P,rY P,rZ P,se P,o11 P,o12 P,sf P,o11 P,si P,sj P,sk P,o11 P,o12 P,sn P,o11 P,sr P,su P,sv P,sy P,o11 P,o12 P,sC P,o11 P,sD P,sE P,sG P,o11 P,o12 P,sH P,o11 P,sI P,sJ P,sK P,o11 P,o12 P,sM P,o11 P,sN P,sO P,sP P,o11 P,o12 P,sQ P,o11 P,sR P,sS P,sT P,o11 P,o12 P,sU P,sV P,sW P,o11 P,o12 P,sX P,o11 P,sY P,tf P,tj P,o11 P,o12 P,tq P,tw P,tD P,o11 P,o12 P,tE P,o11 P,tF P,tG P,tH P,o11 P,o12 P,xb P,o11 P,xc P,xf P,xg P,o11 P,o12 P,xh P,xi P,xj P,o11 P,o12 P,xk P,o11 P,xl P,xm P,xn P,o11 P,o12 P,xo P,o11 P,xq P,xt P,xu P,o11 P,o23 P,xw P,o11 P,xy P,xz P,xA P,o11 P,o12 P,xB P,xC P,xD P,o11 P,o12 P,xE P,o11 P,xF P,xG P,xH P,o11 P,o12 P,xI P,o11 P,xJ P,xK P,xL P,o11 P,o12 P,xM P,xN P,xO P,o11 P,o12 P,xP P,o11 P,xQ P,xR P,xS P,o11 P,o12 P,xT P,o11 P,xU P,xV P,xW P,o11 P,o12 P,xX P,o11 P,xY P,xZ P,ya P,yb P,yc P,yd P,ye P,yf P,yg P,yh P,o11 P,o12 P,yi P,o11 P,yj P,yk P,ym P,o11 P,o12 P,yn P,o11 P,yo P,yp P,yq P,o11 P,o12 P,yr P,o11 P,yt P,yu P,yw P,o11 P,o12 P,yx P,o11 P,yz P,yA P,yB P,o11 P,o12 P,yC P,o11 P,yD P,yE P,yF P,o11 P,o12 P,yG P,o11 P,yH P,yI P,yJ P,o11 P,o12 P,yK P,o11 P,yL P,yM P,yN P,o11 P,o12 P,yO P,o11 P,yP P,yQ P,yR P,o11 P,o12 P,yS P,o11 P,yT P,yU P,yV P,o11 P,o12 P,yW P,o11 P,yX P,yY P,yZ P,o11 P,o12 P,za P,o11 P,zb P,zc P,zd P,o11 P,o12 P,zf P,zg P,zh P,o11 P,o12 P,zi P,o11 P,zj P,zk P,zm P,o11 P,o12 P,zn P,zo P,zp P,o11 P,o12 P,zr P,o11 P,zu P,zv P,zw P,o11 P,o12 P,zx P,zy P,zA P,o11 P,o12 P,zB P,zC P,zD P,o11 P,o12 P,zE P,zF P,zG P,o11 P,o12 P,zH P,zI P,zJ P,o11 P,o12 P,zK P,zL P,zM P]⟩,{ }⟩
noncomputable abbrev sF (w:World) (os:OsState):Shared:=⟨hF w.params,(Array.mk []),⟨0,0,0,0⟩,745,os⟩
theorem fin (w:World):(fun os=>topRun treeTable pt w m0 an 2 (s1 w os).abs ⟨doneF .next,cE,p1,B⟩)=fun os=>some (sF w os):=by
 rw [PySem.W.Fast.te14082659384304107361,PySem.W.Fast.te14364793385576792824]; kernel_rfl
theorem pR:behindTheImports pt=st0 ++ (st1 ++ ([])):=by kernel_rfl
noncomputable abbrev MM:Nat:=12 + (1 + (1990 + (1172 + 2)))
theorem tI (w:World) (os:OsState):topRun treeTable pt w m0 an MM (sZ w os) (topStub pt)=some (sF w os) :=
 go_top (congrFun (pre w) os) (piece_block (congrFun (blk w) os) (pR ▸ (piece_app (l:=st0) (segRun_of (congrFun (q0 w) os)) (piece_app (l:=st1) (segRun_of (congrFun (q1 w) os)) (piece_nil (congrFun (fin w) os))))))
noncomputable def loose:List Str:=[jD,ig,lz,lA,lB,lC,lD,lE,jE,jF,jG,jH,qX,qZ,rf,jI,rg,jJ,jK,jL,jM,rh,rj,rn,rp,jN,jO,jP,lH,lI,wM,wN,lJ,lK,iV,lL,lM,lN,lO,lP,lQ,lR,lS,lT,lU,lV,lW,lX,lY,lZ,ma,md,me,mf]
noncomputable abbrev NN:Nat:=6446
noncomputable abbrev q:Program:=view pt [61]
noncomputable abbrev Xt:Shared→Bool:=fun s=>xlAt q [] s && recOk [] s
theorem size (w:World):((boot_heap w.params).isNs mainGlobals && (Array.mk []:Array GenState).size == 0,(boot_heap w.params).objs.size,(boot_heap w.params).nsMap mainGlobals "__annotations__")=(true,m0,an):=by
 rw [PySem.W.Fast.te8920871248978507458]; kernel_rfl
theorem zN (w:World):(fun os=>((staticsOk (importedModules pt.main.body) (boot_heap w.params) (hF w.params) && namesBound pt (hF w.params) && gensDone (sF w os) && laidKept (boot_heap w.params) (hF w.params)),openSeen q loose (importedModules pt.main.body) Xt true (sF w os),HK.obs (sF w os)))=fun _=>(true,openGood q loose,HK.val w):=by
 rw [PySem.W.Fast.te4187177175401517315,PySem.W.Fast.te5923862056798008813]; kernel_rfl
theorem left:LeftO pt q loose Xt HK.obs HK.val NN true:=LeftO.of_pieces (boot_open (by kernel_rfl) (by decide) (fun s=>rfl)) size tI (by decide) zN
end Hd
open PySem PySem.W PyProof.Rows
set_option maxRecDepth 100000 in
set_option maxHeartbeats 0 in
theorem PySem.Challenge.cw_platecuts_k35_whole_layings_moved_about_holds : PySem.Challenge.rw_platecuts_k35_whole_layings_moved_about.Holds := by
 w_on; o_law
 refine holds_open (q:=view PySem.Challenge.pw_platecuts_k35_whole_layings_moved_about [61]) (loose:=Hd.loose) (Xt:=fun s=>xlAt (view PySem.Challenge.pw_platecuts_k35_whole_layings_moved_about [61]) [] s && recOk [] s) (XP:=XL (view PySem.Challenge.pw_platecuts_k35_whole_layings_moved_about [61]) []) (Yf:=Hook.obs Hd.HK) (Ya:=Hook.val Hd.HK) (YP:=InK Pc.kK) (N:=Hd.NN) ?hl (Hook.of Hd.HK) (Hook.keeps Hd.HK) (fun s e=>xl_of s (Bool.and_eq_true_iff.mp e).1) XL.keeps (by rfl) (by rfl) (by rfl) (fun s e=>recFacts_of (Bool.and_eq_true_iff.mp e).2) (by rfl) (by first | assumption | decide +kernel) (by decide +kernel) ⟨rfl,rfl,rfl,rfl,rfl,by decide +kernel⟩ ?hw ?hc
 case hl=>exact Hd.pt_eq ▸ Hd.left
 case hw=>w_witness2
 k_fill
 refine Pc.walk (l:=PySem.Challenge.rw_platecuts_k35_whole_layings_moved_about) rfl rfl (fun w h Y=>Y) ?F
 case F =>
  intro w mg fa h KX G hmg
  refine' Pc.all_mk KX G hmg ?d0 ?d1 ?d2 ?d3 ?d4 ?d5 ?d6 ?d7 ?d8 ?d9 ?d10 ?d11 ?d12 ?d13 ?d14 ?d15 ?d16 ?d17 ?d18 ?d19 ?d20 ?d21 ?d22 ?d23 ?d24 ?d25 ?d26 ?d27 ?d28 ?d29 ?d30 ?d31 ?d32 ?d33 ?d34 ?d35 ?aC ?dm0 ?dm1 ?dm2 ?dm3 ?pg ?hd ?po ?sa ?mk ?kc ?n0 ?n1 ?eWAYS ?lWAYS ?z0 ?z1 ?z2 ?z3 ?z4 ?z5 ?z6 ?z7 ?z8 ?z9 ?z10 ?z11 ?z12 ?z13 ?z14 ?z15 ?z16 ?z17 ?uc0 ?uc1 ?uc2 ?uc3 ?uc4 ?uc5 ?uc6 ?uc7
  (case d0 | d1 | d2 | d3 | d4 | d5 | d6 | d7 | d8 | d9 | d10 | d11 | d12 | d13 | d14 | d15 | d16 | d17 | d18 | d19 | d20 | d21 | d22 | d23 | d24 | d25 | d26 | d27 | d28 | d29 | d30 | d31 | d32 | d33 | d34 | d35=>refine' Pc.diM ?a ?l ?c ?k; (case a=>k_is); (case l=>k_is); (case c=>k_is); (case k=>k_is))
  (case aC=>k_is)
  (case dm0 | dm1 | dm2 | dm3=>refine' Pc.miM ?a ?i ?l ?c ?k; (case a=>k_is); (case i=>k_is); (case l=>k_is); (case c=>k_is); (case k=>k_is))
  (case pg | hd | po | sa | mk | kc | n0 | n1 | eWAYS=>k_is)
  (case lWAYS=>exact ⟨_,_,_,rfl,rfl,rfl,by decide,.cons ⟨_,rfl⟩ (.cons ⟨_,rfl⟩ .nil)⟩)
  (case z0 | z1 | z2 | z3 | z4 | z5 | z6 | z7 | z8 | z9 | z10 | z11 | z12 | z13 | z14 | z15 | z16 | z17 | uc0 | uc1 | uc2 | uc3 | uc4 | uc5 | uc6 | uc7=>k_is)